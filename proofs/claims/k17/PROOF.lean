import PyProof.Rows.All
import Wide.All
import OpenK.AllK
import Wide.FinOn
import Lean
import PyProof.EqAt
import PyProof.EqKinds
import PyProof.TupleCall
import PySem.Challenge.RW_plainglass_k17_numbers_exact
set_option Elab.async false
set_option linter.all false
set_option maxRecDepth 100000
namespace L2
open PySem PySem.Spec PyProof.Rows
abbrev Key:=Sum Int Str
noncomputable def Dy:Key -> Value -> Bool
 | .inl k,v=>Value.isInt k v
 | .inr x,v=>Value.isStrOf x v
noncomputable def Iz (w:World):Key -> Int
 | .inl k=>hashInt k
 | .inr x=>hashStr w x
theorem e7:∀ {k:Key} {v:Value},Dy k v = true -> (∃ i t,k = Sum.inl i /\ v = Value.int i t) \/ (∃ x t,k = Sum.inr x /\ v = Value.str x t)
 | .inl i,v,h=>by
   obtain ⟨t,e⟩:=Value.isInt_shape (k:=i) (v:=v) h
   exact .inl ⟨i,t,rfl,e⟩
 | .inr x,v,h=>by
   obtain ⟨t,e⟩:=Value.isStrOf_shape (x:=x) (v:=v) h
   exact .inr ⟨x,t,rfl,e⟩
theorem Fz (a b:Int):decide ((Sum.inl a:Key) = Sum.inl b) = (a == b):=by
 by_cases e:a = b
 . subst e; simp
 . have h:¬ (Sum.inl a:Key) = Sum.inl b:=fun q=>e (Sum.inl.inj q)
   rw [decide_eq_false h]
   exact (beq_eq_false_iff_ne.mpr e).symm
theorem FH (a b:Str):decide ((Sum.inr a:Key) = Sum.inr b) = decide (a = b):=by
 by_cases e:a = b
 . subst e; simp
 . have h:¬ (Sum.inr a:Key) = Sum.inr b:=fun q=>e (Sum.inr.inj q)
   rw [decide_eq_false h,decide_eq_false e]
theorem F6 (a:Int) (b:Str):decide ((Sum.inl a:Key) = Sum.inr b) = false:=decide_eq_false (fun q=>nomatch q)
theorem Ep (a:Str) (b:Int):decide ((Sum.inr a:Key) = Sum.inl b) = false:=decide_eq_false (fun q=>nomatch q)
noncomputable def uE (prog:Program) (w:World):PySem.KeyKind prog w Key where
 is:=Dy
 hash:=Iz w
 inj:=fun v a b ha hb=>by
  rcases e7 ha with ⟨i,t,rfl,rfl⟩ | ⟨x,t,rfl,rfl⟩
  . rcases e7 hb with ⟨j,u,rfl,e⟩ | ⟨y,u,rfl,e⟩
    . injection e with e1 _; rw [e1]
    . exact nomatch e
  . rcases e7 hb with ⟨j,u,rfl,e⟩ | ⟨y,u,rfl,e⟩
    . exact nomatch e
    . injection e with e1 _; rw [e1]
 byValue:=fun k v h=>by
  rcases e7 h with ⟨i,t,rfl,rfl⟩ | ⟨x,t,rfl,rfl⟩ <;> rfl
 pyHash:=fun hv h=>by
  rcases e7 hv with ⟨i,t,rfl,rfl⟩ | ⟨x,t,rfl,rfl⟩
  . exact wpAny_pyHash_int h
  . exact wpAny_pyHash_str h
 eqBool:=fun hu hv h=>by
  rcases e7 hu with ⟨i,t,rfl,rfl⟩ | ⟨x,t,rfl,rfl⟩
  . rcases e7 hv with ⟨j,u,rfl,rfl⟩ | ⟨y,u,rfl,rfl⟩
    . rw [Fz] at h; exact wpAny_eqBool_int h
    . rw [F6] at h; exact SeqAt.EqAt.int_str i t y u _ _ _ _ h
  . rcases e7 hv with ⟨j,u,rfl,rfl⟩ | ⟨y,u,rfl,rfl⟩
    . rw [Ep] at h; exact SeqAt.EqAt.str_int x t j u _ _ _ _ h
    . rw [FH] at h; exact wpAny_eqBool_str h
 «strs»:=fun k x t v h=>by
  rcases e7 h with ⟨i,u,rfl,e⟩ | ⟨y,u,rfl,e⟩
  . exact nomatch e
  . injection e with e1 _
    subst e1
    cases v <;> rfl
end L2
namespace L2
open PySem PySem.Spec PyProof.Rows
inductive V where
 | non | bl (b:Bool) | int (i:Int) | str (x:Str) | byt (b:Array UInt8) | flt (b:UInt64) | ref (a:Addr) | ty (n:String)
 deriving DecidableEq
noncomputable def RelV:V -> Value -> Prop
 | .non,u=>u = Value.none
 | .bl b,u=>u = Value.bool b
 | .int i,u=>∃ t,u = Value.int i t
 | .str x,u=>∃ t,u = Value.str x t
 | .byt b,u=>∃ t,u = Value.bytes b t
 | .flt b,u=>∃ t,u = Value.float b t
 | .ref a,u=>u = Value.ref a
 | .ty n,u=>u = Value.type n
abbrev Vals:List V -> List Value -> Prop:=Paired RelV
theorem Vals.length {xs:List V} {us:List Value} (r:Vals xs us):xs.length = us.length:=Paired.length r
theorem Vals.get:∀ {xs:List V} {us:List Value} {i:Nat} {x:V},Vals xs us -> xs[i]? = some x -> ∃ u,us[i]? = some u /\ RelV x u
 | _,_,_,_,.nil,e=>by simp at e
 | _,_,0,_,.cons r _,e=>by simp at e; subst e; exact ⟨_,rfl,r⟩
 | _,_,i + 1,x,.cons _ t,e=>by
   obtain ⟨u,h1,h2⟩:=Vals.get (i:=i) (x:=x) t (by simpa using e)
   exact ⟨u,by simpa using h1,h2⟩
theorem Vals.set {x:V} {u:Value} (r:RelV x u):∀ {xs:List V} {us:List Value} (i:Nat),Vals xs us -> Vals (xs.set i x) (us.set i u)
 | _,_,_,.nil=>.nil
 | _,_,0,.cons _ t=>.cons r t
 | _,_,i + 1,.cons q t=>.cons q (Vals.set r i t)
theorem Vals.append:∀ {xs ys:List V} {us ws:List Value},Vals xs us -> Vals ys ws -> Vals (xs ++ ys) (us ++ ws)
 | _,_,_,_,.nil,s=>s
 | _,_,_,_,.cons r t,s=>.cons r (Vals.append t s)
theorem Vals.take:∀ {xs:List V} {us:List Value} (n:Nat),Vals xs us -> Vals (xs.take n) (us.take n)
 | _,_,0,_=>.nil
 | _,_,_ + 1,.nil=>.nil
 | _,_,n + 1,.cons r t=>.cons r (Vals.take n t)
theorem Vals.drop:∀ {xs:List V} {us:List Value} (n:Nat),Vals xs us -> Vals (xs.drop n) (us.drop n)
 | _,_,0,r=>r
 | _,_,_ + 1,.nil=>.nil
 | _,_,n + 1,.cons _ t=>Vals.drop n t
noncomputable def bS:Option V -> Option Value -> Prop
 | some v,some u=>RelV v u
 | none,none=>True
 | _,_=>False
noncomputable def KV {κ:Type}:List (κ × V) -> List (κ × Value) -> Prop:=Paired fun (p:κ × V) (q:κ × Value)=>p.1 = q.1 /\ RelV p.2 q.2
noncomputable def kV:Key -> V
 | .inl i=>.int i
 | .inr x=>.str x
inductive HO where
  | lst (xs:List V)
  | tup (xs:List V)
  | dK (kvs:List (Key × V)) | dT (kvs:List (List Key × V))
  | set (S:Int -> Bool) (n:Nat)
  | ins (C dx:Addr) (fs:List (Str × V))
  | own (x:Addr)
  | xd (fs:List (Str × V))
  | met (f x:Addr)
  | rng (lo hi:Int)
  | frz (o:Obj) (u:HO)
  | tbl (ps:Array Value)
  | ext (φ:Heap -> Prop)
abbrev Hp:=Addr -> Option HO
noncomputable def upd (H:Hp) (a:Addr) (o:HO):Hp:=fun b=>if b = a then some o else H b
theorem bg {H:Hp} {a:Addr} {o:HO}:upd H a o a = some o:=by unfold upd; rw [if_pos rfl]
theorem aY {H:Hp} {a b:Addr} {o:HO} (h:b ≠ a):upd H a o b = H b:=by unfold upd; rw [if_neg h]
theorem cS {H:Hp} {a b:Addr} {o:HO} (h:H a = some o) (h':H b = none):a ≠ b:=by
 intro e; subst e; rw [h] at h'; cases h'
section
variable (P:Program) (w:World)
noncomputable def iI (H:Hp) (h:Heap) (a:Addr):HO -> Prop
 | .lst xs=>xs.length <= sizeLine /\ ∃ (its:List Value) (n:Nat),Vals xs its /\ h.get? a = some { cls:=.type "list",data:=.seq its.toArray n }
 | .tup xs=>xs.length <= sizeLine /\ ∃ its:List Value,Vals xs its /\ IsTup h a its.toArray
 | .dK kvs=>kvs.length <= sizeLine /\ (a == sysModules) = false /\ ∃ vs,KV kvs vs /\ h.DictOf (uE P w) a vs
 | .dT kvs=>kvs.length <= sizeLine /\ (a == sysModules) = false /\ ∃ xs:List (List Key × Addr × Value),
    Paired (fun (p:List Key × V) (q:List Key × Addr × Value)=>p.1 = q.1 /\ H q.2.1 = some (.tup (p.1.map kV)) /\ RelV p.2 q.2.2) kvs xs /\
    ∃ o es ep,h.get? a = some o /\ o.ExactDict /\ o.data = .dict es ep /\ es.toList = xs.map (entryOfKey (tupleKind (uE P w))) /\ (xs.map (·.1)).Nodup
 | .set S n=>h.SetOf (intKind P w) a S n
 | .ins C dx fs=>H dx = some (.own a) /\ fs.length <= 1000 /\ dx ≠ a /\ h.get? a = some (PySem.W.instObj C dx) /\
    ∃ mA,h.Ns1 dx mA /\ (∀ f,bS (fs.lookup f) (mA f)) /\ PySem.Within mA (fs.map (·.1))
 | .own _=>∃ o,h.get? a = some o
 | .xd fs=>∃ mA,h.Ns1 a mA /\ ∀ f,bS (fs.lookup f) (mA f)
 | .rng lo hi=>∃ t u v,h.get? a = some { cls:=.type "range",data:=.fields #[.int lo t,.int hi u,.int 1 v] }
 | .frz o u=>h.get? a = some o /\ iI H h a u
 | .tbl ps=>h.get? a = some { cls:=.none,data:=.fields ps }
 | .met f x=>h.get? a = some (PySem.W.methodObj (.ref f) (.ref x))
 | .ext φ=>φ h /\ (∃ o,h.get? a = some o) /\ ∀ h1 h2:Heap,φ h1 -> (∀ o,h1.get? a = some o -> h2.get? a = some o) -> φ h2
noncomputable def HOk (H:Hp) (h:Heap):Prop:=∀ a o,H a = some o -> iI P w H h a o
end
section
variable {P:Program} {w:World} {H H':Hp} {h h':Heap} {a:Addr} {o:HO}
theorem iI.lt (x:iI P w H h a o):a < h.objs.size:=by
 cases o with
 | lst xs=>obtain ⟨_,_,_,_,e⟩:=x; exact Heap.lt_size e
 | tup xs=>obtain ⟨_,_,_,p⟩:=x; exact p.lt
 | dK kvs=>obtain ⟨_,_,_,_,o,_,_,e,_⟩:=x; exact Heap.lt_size e
 | dT kvs=>obtain ⟨_,_,_,_,o,_,_,e,_⟩:=x; exact Heap.lt_size e
 | set S n=>obtain ⟨o,_,_,_,e,_⟩:=x; exact Heap.lt_size e
 | ins C dx fs=>obtain ⟨_,_,_,e,_⟩:=x; exact Heap.lt_size e
 | own y=>obtain ⟨_,e⟩:=x; exact Heap.lt_size e
 | xd fs=>obtain ⟨_,⟨_,_,_,e,_⟩,_⟩:=x; exact Heap.lt_size e
 | rng lo hi=>obtain ⟨_,_,_,e⟩:=x; exact Heap.lt_size e
 | frz ob u=>obtain ⟨e,_⟩:=x; exact Heap.lt_size e
 | tbl ps=>exact Heap.lt_size (show h.get? a = some _ from x)
 | met f y=>exact Heap.lt_size (show h.get? a = some _ from x)
 | ext φ=>obtain ⟨_,⟨_,e⟩,_⟩:=x; exact Heap.lt_size e
theorem Paired.Em {α β:Type} {F G:α -> β -> Prop}:∀ {l₁:List α} {l₂:List β},Paired F l₁ l₂ -> (∀ a b,F a b -> G a b) -> Paired G l₁ l₂
 | _,_,.nil,_=>.nil
 | _,_,.cons r t,f=>.cons (f _ _ r) (Paired.Em t f)
theorem iI.n8 (x:iI P w H h a o) (k:∀ b u,(b = a \/ H b = some (.own a)) -> h.get? b = some u -> h'.get? b = some u)
  (ho:∀ b,H b = some (.own a) -> H' b = some (.own a)) (ht:∀ b xs,H b = some (.tup xs) -> H' b = some (.tup xs)):iI P w H' h' a o:=by
 induction o with
 | lst xs=>obtain ⟨z,its,n,r,e⟩:=x; exact ⟨z,its,n,r,k _ _ (.inl rfl) e⟩
 | tup xs=>obtain ⟨z,its,r,ob,e,c⟩:=x; exact ⟨z,its,r,ob,k _ _ (.inl rfl) e,c⟩
 | dK kvs=>obtain ⟨z,y,vs,r,ob,es,ep,e,c⟩:=x; exact ⟨z,y,vs,r,ob,es,ep,k _ _ (.inl rfl) e,c⟩
 | dT kvs=>
   obtain ⟨z,y,xs,r,ob,es,ep,e,c⟩:=x
   exact ⟨z,y,xs,Paired.Em r fun p q z=>⟨z.1,ht _ _ z.2.1,z.2.2⟩,ob,es,ep,k _ _ (.inl rfl) e,c⟩
 | set S n=>obtain ⟨ob,es,ep,t,e,c⟩:=x; exact ⟨ob,es,ep,t,k _ _ (.inl rfl) e,c⟩
 | ins C dx fs=>
   obtain ⟨d,z,ne,e,mA,⟨od,es,ep,e2,c⟩,r⟩:=x
   exact ⟨ho _ d,z,ne,k _ _ (.inl rfl) e,mA,⟨od,es,ep,k _ _ (.inr d) e2,c⟩,r⟩
 | own y=>obtain ⟨ob,e⟩:=x; exact ⟨ob,k _ _ (.inl rfl) e⟩
 | xd fs=>obtain ⟨mA,⟨od,es,ep,e,c⟩,r⟩:=x; exact ⟨mA,⟨od,es,ep,k _ _ (.inl rfl) e,c⟩,r⟩
 | rng lo hi=>obtain ⟨t,u,v,e⟩:=x; exact ⟨t,u,v,k _ _ (.inl rfl) e⟩
 | frz ob u ih=>obtain ⟨e,q⟩:=x; exact ⟨k _ _ (.inl rfl) e,ih q⟩
 | tbl ps=>
   have e:h.get? a = some { cls:=.none,data:=.fields ps }:=x
   show h'.get? a = some { cls:=.none,data:=.fields ps }
   exact k a _ (.inl rfl) e
 | met f y=>
   have e:h.get? a = some (PySem.W.methodObj (.ref f) (.ref y)):=x
   show h'.get? a = some (PySem.W.methodObj (.ref f) (.ref y))
   exact k a _ (.inl rfl) e
 | ext φ=>obtain ⟨p,⟨o,e⟩,st⟩:=x; exact ⟨st _ _ p fun o q=>k _ _ (.inl rfl) q,⟨o,k _ _ (.inl rfl) e⟩,st⟩
theorem HOk.lt (x:HOk P w H h) (e:H a = some o):a < h.objs.size:=(x a o e).lt
theorem HOk.fresh (x:HOk P w H h) (e:h.objs.size <= a):H a = none:=by
 cases q:H a with
 | none=>rfl
 | some u=>exact absurd (Nat.lt_of_lt_of_le (x.lt q) e) (Nat.lt_irrefl _)
theorem HOk.kept (x:HOk P w H h) (k:∀ b u,h.get? b = some u -> h'.get? b = some u):HOk P w H h':=fun a o e=>
 (x a o e).n8 (fun b u _ q=>k b u q) (fun _ q=>q) fun _ _ q=>q
theorem HOk.laid (x:HOk P w H h) (k:∀ b u,h.get? b = some u -> h'.get? b = some u) (hp:h.objs.size <= a) (new:iI P w (upd H a o) h' a o):HOk P w (upd H a o) h':=fun b u e=>by
 have hn:=x.fresh hp
 by_cases hb:b = a
 . subst hb; rw [bg] at e; cases e; exact new
 . rw [aY hb] at e
   exact (x b u e).n8 (fun c v _ q=>k c v q) (fun c q=>by rw [aY (cS q hn)]; exact q) fun c xs q=>by rw [aY (cS q hn)]; exact q
end
noncomputable def Rd (H:Hp) (a:Addr) (u:HO):Prop:=H a = some u \/ ∃ o,H a = some (.frz o u)
theorem Rd.ok {P:Program} {w:World} {H:Hp} {h:Heap} {a:Addr} {u:HO} (r:Rd H a u) (x:HOk P w H h):iI P w H h a u:=by
 rcases r with r | ⟨o,r⟩
 . exact x a u r
 . obtain ⟨_,q⟩:=x a _ r
   exact q
noncomputable def Mut:Option HO -> Prop
 | some (.lst _)=>True
 | some (.dK _)=>True
 | some (.dT _)=>True
 | some (.set _ _)=>True
 | some (.ins _ _ _)=>True
 | some (.ext _)=>True
 | _=>False
section
variable {P:Program} {w:World} {H:Hp} {h h':Heap} {x e:Addr} {o':HO}
theorem HOk.write (ok:HOk P w H h) (mu:Mut (H x)) (he:e = x \/ H e = some (.own x)) (k:∀ b u,b ≠ e -> h.get? b = some u -> h'.get? b = some u) (heo:∃ u,h'.get? e = some u)
  (new:iI P w (upd H x o') h' x o'):HOk P w (upd H x o') h':=fun b u q=>by
 have nown:∀ c y,H c = some (.own y) -> c ≠ x:=fun c y r z=>by subst z; rw [r] at mu; exact mu
 have ntup:∀ c xs,H c = some (.tup xs) -> c ≠ x:=fun c xs r z=>by subst z; rw [r] at mu; exact mu
 by_cases hb:b = x
 . subst hb; rw [bg] at q; cases q; exact new
 . rw [aY hb] at q
   by_cases hbe:b = e
   . have q':H b = some (.own x):=by
      rcases he with z | z
      . exact absurd (hbe.trans z) hb
      . rw [hbe]; exact z
     rw [q] at q'; cases q'
     obtain ⟨v,hv⟩:=heo
     exact ⟨v,by rw [hbe]; exact hv⟩
   . refine (ok b u q).n8 (fun c v hc r=>k c v ?_ r) (fun c r=>by rw [aY (nown c b r)]; exact r) fun c xs r=>by rw [aY (ntup c xs r)]; exact r
     rcases hc with rfl | hc
     . exact hbe
     . rintro rfl
       rcases he with z | z
       . exact nown c b hc z
       . rw [hc] at z; cases z; exact hb rfl
end
structure Un (fs ex:List Addr) (H H':Hp) (h h':Heap):Prop where
 keep:∀ b o,h.get? b = some o -> H b = none -> b ∉ fs -> b ∉ ex -> h'.get? b = some o
 slot:∀ b o,h.get? b = some o -> H b = none -> b ∈ fs -> b ∉ ex -> ∃ sl,h'.get? b = some { o with slots:=sl }
 free:∀ b o,h.get? b = some o -> H b = none -> b ∉ ex -> H' b = none
 there:∀ b o,h.get? b = some o -> b ∉ ex -> ∃ o',h'.get? b = some o'
 tups:∀ b xs,H b = some (.tup xs) -> H' b = some (.tup xs)
 frzs:∀ b o u,H b = some (.frz o u) -> H' b = some (.frz o u)
 tbls:∀ b ps,H b = some (.tbl ps) -> ∃ more,H' b = some (.tbl (ps ++ more))
section
variable {fs fs' ex ex':List Addr} {H H1 H2:Hp} {h h1 h2 h':Heap} {a x e:Addr} {o:HO}
theorem Un.any (u:Un fs ex H H1 h h1) {b:Addr} {ob:Obj} (q:h.get? b = some ob) (n:H b = none) (hx:b ∉ ex):∃ sl,h1.get? b = some { ob with slots:=sl }:=by
 by_cases hb:b ∈ fs
 . exact u.slot b ob q n hb hx
 . exact ⟨ob.slots,u.keep b ob q n hb hx⟩
theorem Un.kept (k:∀ b u,h.get? b = some u -> h'.get? b = some u):Un fs ex H H h h':=
 ⟨fun b ob q _ _ _=>k b ob q,fun b ob q _ _ _=>⟨ob.slots,k b ob q⟩,fun _ _ _ n _=>n,fun b ob q _=>⟨ob,k b ob q⟩,fun _ _ q=>q,fun _ _ _ q=>q,fun _ ps q=>⟨#[],by rw [q]; simp⟩⟩
theorem Un.refl:Un fs ex H H h h:=Un.kept fun _ _ q=>q
theorem Un.laid (k:∀ b u,h.get? b = some u -> h'.get? b = some u) (hp:h.objs.size <= a) (hn:H a = none):Un fs ex H (upd H a o) h h' where
 keep:=fun b u q _ _ _=>k b u q
 slot:=fun b u q _ _ _=>⟨u.slots,k b u q⟩
 free:=fun b u q n _=>by rw [aY (Nat.ne_of_lt (Nat.lt_of_lt_of_le (Heap.lt_size q) hp))]; exact n
 there:=fun b u q _=>⟨u,k b u q⟩
 tups:=fun b xs q=>by rw [aY (cS q hn)]; exact q
 frzs:=fun b u xs q=>by rw [aY (cS q hn)]; exact q
 tbls:=fun b ps q=>⟨#[],by rw [aY (cS q hn),q]; simp⟩
theorem Un.write (mu:Mut (H x)) (he:e = x \/ H e = some (.own x)) (k:∀ b u,b ≠ e -> h.get? b = some u -> h'.get? b = some u) (heo:∃ u,h'.get? e = some u):Un fs ex H (upd H x o) h h':=by
 have hx:∀ b,H b = none -> b ≠ x:=fun b n z=>by subst z; rw [n] at mu; exact mu
 have hb:∀ b,H b = none -> b ≠ e:=fun b n z=>by
  subst z
  rcases he with r | r
  . exact hx b n r
  . rw [n] at r; cases r
 have hm:∀ b u,H b = some u -> ¬ Mut (some u) -> b ≠ x:=fun b u q nm z=>by subst z; rw [q] at mu; exact nm mu
 refine ⟨fun b u q n _ _=>k b u (hb b n) q,fun b u q n _ _=>⟨u.slots,k b u (hb b n) q⟩,fun b u q n _=>by rw [aY (hx b n)]; exact n,fun b u q _=>?_,
  fun b xs q=>by rw [aY (hm b _ q fun z=>z)]; exact q,fun b u xs q=>by rw [aY (hm b _ q fun z=>z)]; exact q,fun b ps q=>⟨#[],by rw [aY (hm b _ q fun z=>z),q]; simp⟩⟩
 by_cases hbe:b = e
 . subst hbe; exact heo
 . exact ⟨u,k b u hbe q⟩
end
noncomputable def trk (h:Heap) (H:Hp):List Addr:=(List.range h.objs.size).filter fun a=>(H a).isSome
noncomputable def uq (h:Heap) (H:Hp):Heap:=PySem.W.hideAll h (trk h H)
theorem y4 (h:Heap) (H:Hp):(uq h H).objs.size = h.objs.size:=PySem.W.hideAll_size _ _
theorem zO {h:Heap} {H:Hp} {b:Addr} {o:Obj} (e:h.get? b = some o) (n:H b = none):(uq h H).get? b = some o:=
 PySem.W.hideAll_get _ e fun hm=>by
  have q:(H b).isSome = true:=(List.mem_filter.mp hm).2
  rw [n] at q; simp at q
theorem Cd {h:Heap} {H:Hp} {b:Addr} {o:Obj} (e:(uq h H).get? b = some o):h.get? b = some o /\ H b = none:=by
 have e':h.get? b = some o:=PySem.W.of_hideAll (trk h H) e
 refine ⟨e',?_⟩
 cases q:H b with
 | none=>rfl
 | some x=>
   have hm:b ∈ trk h H:=List.mem_filter.mpr ⟨List.mem_range.mpr (Heap.lt_size e'),by simp [q]⟩
   have z:(uq h H).get? b = none:=PySem.W.hideAll_none (trk h H) hm
   rw [z] at e; cases e
noncomputable def CJ (g h:Heap) (L:Addr):List (Addr × Obj):=(List.range h.objs.size).filterMap fun a=>if a = L \/ (g.get? a).isSome = true then none else (h.get? a).map fun o=>(a,o)
noncomputable def rest (g h:Heap) (L d:Addr):List (Addr × Obj):=(CJ g h L).filter fun p=>decide (p.1 ≠ d)
end L2
namespace L2
open PySem PySem.Spec PyProof.Rows
structure Mod (K:PySem.W.Frag) (mg:Str -> Option Value) (base:Heap):Prop where
 kin:K.In base
 glob:base.Ns mainGlobals mg
 blt:∃ mb,base.Ns builtinsNs mb /\ ∀ x:Str,x ≠ "__name__" -> mb x = bootBuiltins x
 nolimit:base.NoLimit
structure Cx where
 prog:Program
 w:World
 K:PySem.W.Frag
 mg:Str -> Option Value
 base:Heap
 A:Around
 N:List Str
 s₀:Shared
 H₀:Hp
 env:Env
 outer:List Env
 stack:List Env
 ex:List Addr
 fn:Str -> Bool
 calm:Bool
 pn:List (Addr × Obj)
 xe:Value -> Shared -> Prop
noncomputable def frs (l:List Env):List Addr:=l.filterMap (·.frame)
noncomputable abbrev Cx.fs (X:Cx):List Addr:=frs X.outer
noncomputable def Vis (sc:Scope) (x:Str):Prop:=sc.names.lookup x = some .local \/ sc.names.lookup x = some .cell \/ sc.names.lookup x = some .free
noncomputable def Loc (sc:Scope) (x:Str):Prop:=sc.names.lookup x = some .local \/ sc.names.lookup x = some .cell
noncomputable def Look (env:Env) (h:Heap) (m:Str -> Option Value) (x:Str) (u:Value):Prop:=
 (env.kindOf x = some .local /\ m x = some u) \/ ((env.kindOf x = some .cell \/ env.kindOf x = some .free) /\ ∃ c,env.cells.lookup x = some c /\ h.IsCell c (some u))
structure Cx.Ok (X:Cx):Prop where
 mod:Mod X.K X.mg X.base
 kind:X.env.scope.kind = .function
 glob:X.env.globals = mainGlobals
 blt:X.env.builtins = builtinsNs
 above:X.s₀.heap.objs.size <= X.env.locals
 inj:∀ x y c,X.env.cells.lookup x = some c -> X.env.cells.lookup y = some c -> x = y
 has:∀ x,(X.env.kindOf x = some .cell \/ X.env.kindOf x = some .free) -> ∃ c,X.env.cells.lookup x = some c
 cab:∀ x c,X.fn x = true -> X.env.cells.lookup x = some c -> X.s₀.heap.objs.size <= c
 hd:X.calm = true -> X.A.handled = none
 frames:X.A.frames = some X.stack
 stk:X.stack = X.outer \/ (X.stack = X.env ::X.outer /\ X.env.frame = some X.env.locals)
 exf:∀ b ∈ X.ex,b ≠ X.env.locals /\ ∀ x c,X.env.cells.lookup x = some c -> c ≠ b
 bs:∀ b o,X.base.get? b = some o -> X.s₀.heap.get? b = some o /\ X.H₀ b = none
 bsz:X.base.objs.size <= X.s₀.heap.objs.size
 noex:∀ b o,X.base.get? b = some o -> b ∉ X.ex
 exfs:∀ b ∈ X.ex,b ∉ X.fs
 qr:X.s₀.heap.FunFrames X.base X.outer
 frf:∀ b ∈ X.fs,X.H₀ b = none
structure Inv (X:Cx) (pins:List (Addr × Obj)) (σ:List (Option V)) (H:Hp) (s:Shared):Prop where
 ok:X.Ok
 os:s.os = X.s₀.os
 bare:AllBare s.gens
 base:Un X.fs X.ex X.H₀ H X.s₀.heap s.heap
 loc:∃ m,s.heap.Ns X.env.locals m /\ ∀ (i:Nat) (x:Str) (v:V),X.N[i]? = some x -> σ[i]? = some (some v) -> Vis X.env.scope x -> ∃ u,RelV v u /\ Look X.env s.heap m x u
 cell:∀ x c,X.env.cells.lookup x = some c -> ∃ v,s.heap.IsCell c v
 free:H X.env.locals = none
 freeC:∀ x c,X.env.cells.lookup x = some c -> H c = none
 pin:∀ p ∈ X.pn ++ pins,s.heap.get? p.1 = some p.2 /\ H p.1 = none /\ p.1 ≠ X.env.locals /\ p.1 ∉ X.fs /\ ∀ v,p.2.data ≠ .cell v
 hok:HOk X.prog X.w H s.heap
 len:σ.length = X.N.length
section
variable {X:Cx} {pins:List (Addr × Obj)} {σ:List (Option V)} {H H':Hp} {s:Shared} {h':Heap}
theorem Cx.Ok.IH (ok:X.Ok) {b:Addr} {o:Obj} (e:X.base.get? b = some o):b ∉ X.fs:=fun hb=>by
 have:=(ok.qr.mem hb).1
 rw [e] at this; cases this
theorem Inv.bs (I:Inv X pins σ H s):∀ b o,X.base.get? b = some o -> s.heap.get? b = some o /\ H b = none:=fun b o e=>
 ⟨I.base.keep b o (I.ok.bs b o e).1 (I.ok.bs b o e).2 (I.ok.IH e) (I.ok.noex b o e),I.base.free b o (I.ok.bs b o e).1 (I.ok.bs b o e).2 (I.ok.noex b o e)⟩
theorem Inv.bk (I:Inv X pins σ H s):∀ b o,X.base.get? b = some o -> s.heap.get? b = some o:=fun b o e=>(I.bs b o e).1
theorem Inv.mod (I:Inv X pins σ H s):Mod X.K X.mg X.base:=I.ok.mod
theorem Inv.kIn (I:Inv X pins σ H s):X.K.In s.heap:=I.ok.mod.kin.keeps I.bk
theorem Inv.nolimit (I:Inv X pins σ H s):s.heap.NoLimit:=I.ok.mod.nolimit.keeps I.bk
theorem Inv.lt (I:Inv X pins σ H s):X.env.locals < s.heap.objs.size:=let ⟨_,hn,_⟩:=I.loc; hn.lt
theorem Inv.sz (I:Inv X pins σ H s):X.s₀.heap.objs.size <= s.heap.objs.size:=Nat.le_trans I.ok.above (Nat.le_of_lt I.lt)
theorem Inv.Ie (I:Inv X pins σ H s) {a:Addr} (h:s.heap.objs.size <= a):a ∉ X.fs:=fun hb=>by
 obtain ⟨_,o,ho,_⟩:=I.ok.qr.mem hb
 exact absurd (Nat.lt_of_lt_of_le (Heap.lt_size ho) (Nat.le_trans I.sz h)) (Nat.lt_irrefl _)
theorem Inv.cne (I:Inv X pins σ H s):∀ x c,X.env.cells.lookup x = some c -> c ≠ X.env.locals:=fun x c e z=>by
 obtain ⟨v,o,ho,hd⟩:=I.cell x c e
 obtain ⟨m,⟨o',es,ep,ho',hd',_⟩,_⟩:=I.loc
 rw [z,ho'] at ho; cases ho; rw [hd'] at hd; cases hd
theorem Inv.qr (I:Inv X pins σ H s):s.heap.FunFrames X.base X.outer:=by
 have all:∀ (l:List Env),(∀ b ∈ frs l,b ∈ X.fs) -> X.s₀.heap.FunFrames X.base l -> s.heap.FunFrames X.base l:=by
  intro l
  induction l with
  | nil=>intro _ _; trivial
  | cons env r ih=>
    intro hs hl
    obtain ⟨hk,⟨L,o,hf,hn,ho,hd⟩,hr⟩:=hl
    have hL:L ∈ X.fs:=hs L (by unfold frs; rw [List.filterMap_cons,hf]; exact List.mem_cons_self)
    obtain ⟨sl,e⟩:=I.base.slot L o ho (I.ok.frf L hL) hL fun z=>I.ok.exfs L z hL
    exact ⟨hk,⟨L,_,hf,hn,e,hd⟩,ih (fun b hb=>hs b (by unfold frs; rw [List.filterMap_cons,hf]; exact List.mem_cons_of_mem _ hb)) hr⟩
 exact all X.outer (fun _ hb=>hb) I.ok.qr
theorem Inv.stack (I:Inv X pins σ H s):s.heap.FunFrames X.base X.stack:=by
 rcases I.ok.stk with e | ⟨e,hf⟩
 . rw [e]; exact I.qr
 . rw [e]
   obtain ⟨m,hn,_⟩:=I.loc
   refine .cons (by rw [I.ok.kind]; decide) hf hn ?_ I.qr
   exact Heap.get?_none_of_le (Nat.le_trans I.ok.bsz I.ok.above)
theorem Inv.xA (I:Inv X pins σ H s):∀ b ∈ frs X.stack,b ∈ X.env.locals ::X.fs:=fun b hb=>by
 rcases I.ok.stk with e | ⟨e,hf⟩
 . rw [e] at hb; exact List.mem_cons_of_mem _ hb
 . rw [e] at hb
   unfold frs at hb
   rw [List.filterMap_cons,hf] at hb
   exact hb
theorem Inv.uh (I:Inv X pins σ H s):∀ b ∈ frs X.stack,H b = none:=fun b hb=>by
 rcases List.mem_cons.mp (I.xA b hb) with e | hb
 . rw [e]; exact I.free
 . obtain ⟨_,o,ho,_⟩:=I.ok.qr.mem hb
   exact I.base.free b o ho (I.ok.frf b hb) fun z=>I.ok.exfs b z hb
theorem Inv.step {g':Array GenState} {t':Nat} {d':Drawn} {ch:List Addr} (I:Inv X pins σ H s)
  (hch:∀ b ∈ ch,(b ∈ X.ex \/ X.s₀.heap.objs.size <= b) /\ b ≠ X.env.locals /\ (∀ x c,X.env.cells.lookup x = some c -> c ≠ b) /\ ∀ p ∈ X.pn ++ pins,p.1 ≠ b)
  (keep:∀ b o,b ≠ X.env.locals -> b ∉ X.fs -> b ∉ ch -> s.heap.get? b = some o -> H b = none -> h'.get? b = some o)
  (slot:∀ b o,b ≠ X.env.locals -> b ∈ X.fs -> b ∉ ch -> s.heap.get? b = some o -> H b = none -> ∃ sl,h'.get? b = some { o with slots:=sl }) (free:∀ b o,b ∉ ch -> s.heap.get? b = some o -> H b = none -> H' b = none)
  (there:∀ b o,b ∉ ch -> s.heap.get? b = some o -> ∃ o',h'.get? b = some o')
  (tups:∀ b xs,H b = some (.tup xs) -> H' b = some (.tup xs)) (frzs:∀ b o u,H b = some (.frz o u) -> H' b = some (.frz o u)) (tbls:∀ b ps,H b = some (.tbl ps) -> ∃ more,H' b = some (.tbl (ps ++ more)))
  (ns:∀ m,s.heap.Ns X.env.locals m -> h'.Ns X.env.locals m) (hok:HOk X.prog X.w H' h') (hg:AllBare g'):
  Inv X pins σ H' { s with heap:=h',gens:=g',drawn:=d',toks:=t' }:=by
 have neL:∀ b o,X.s₀.heap.get? b = some o -> b ≠ X.env.locals:=fun b o e=>Nat.ne_of_lt (Nat.lt_of_lt_of_le (Heap.lt_size e) I.ok.above)
 have neC:∀ b o,X.s₀.heap.get? b = some o -> b ∉ X.ex -> b ∉ ch:=fun b o e hx hb=>by
  rcases (hch b hb).1 with z | z
  . exact hx z
  . exact absurd (Nat.lt_of_lt_of_le (Heap.lt_size e) z) (Nat.lt_irrefl _)
 have cellK:∀ x c,X.env.cells.lookup x = some c -> ∀ v,s.heap.IsCell c v -> h'.IsCell c v:=fun x c e v ⟨o,ho,hd⟩=>by
  have nch:c ∉ ch:=fun z=>(hch c z).2.2.1 x c e rfl
  by_cases hc:c ∈ X.fs
  . obtain ⟨sl,q⟩:=slot c o (I.cne x c e) hc nch ho (I.freeC x c e)
    exact ⟨_,q,hd⟩
  . exact ⟨o,keep c o (I.cne x c e) hc nch ho (I.freeC x c e),hd⟩
 refine ⟨I.ok,I.os,hg,⟨fun b o e n hb hx=>?_,fun b o e n hb hx=>?_,fun b o e n hx=>?_,fun b o e hx=>?_,fun b xs e=>tups b xs (I.base.tups b xs e),fun b o xs e=>frzs b o xs (I.base.frzs b o xs e),fun b ps e=>?_⟩,?_,fun x c e=>?_,?_,fun x c e=>?_,fun p hp=>?_,hok,I.len⟩
 . exact keep b o (neL b o e) hb (neC b o e hx) (I.base.keep b o e n hb hx) (I.base.free b o e n hx)
 . obtain ⟨sl,e1⟩:=I.base.slot b o e n hb hx
   obtain ⟨sl',e2⟩:=slot b _ (neL b o e) hb (neC b o e hx) e1 (I.base.free b o e n hx)
   exact ⟨sl',e2⟩
 . obtain ⟨o',e1⟩:=I.base.there b o e hx
   exact free b o' (neC b o e hx) e1 (I.base.free b o e n hx)
 . obtain ⟨o',e1⟩:=I.base.there b o e hx
   exact there b o' (neC b o e hx) e1
 . obtain ⟨m1,e1⟩:=I.base.tbls b ps e
   obtain ⟨m2,e2⟩:=tbls b _ e1
   exact ⟨m1 ++ m2,by rw [e2,Array.append_assoc]⟩
 . obtain ⟨m,hn,hl⟩:=I.loc
   refine ⟨m,ns m hn,fun i x v e1 e2 e3=>?_⟩
   obtain ⟨u,r,l⟩:=hl i x v e1 e2 e3
   refine ⟨u,r,?_⟩
   rcases l with l | ⟨k,c,e,z⟩
   . exact .inl l
   . exact .inr ⟨k,c,e,cellK x c e _ z⟩
 . obtain ⟨v,z⟩:=I.cell x c e
   exact ⟨v,cellK x c e v z⟩
 . obtain ⟨m,⟨o,_,_,ho,_⟩,_⟩:=I.loc
   exact free _ o (fun z=>(hch _ z).2.1 rfl) ho I.free
 . obtain ⟨v,o,ho,hd⟩:=I.cell x c e
   exact free c o (fun z=>(hch c z).2.2.1 x c e rfl) ho (I.freeC x c e)
 . obtain ⟨e,n,ne,nf,d⟩:=I.pin p hp
   have nch:p.1 ∉ ch:=fun z=>(hch p.1 z).2.2.2 p hp rfl
   exact ⟨keep p.1 p.2 ne nf nch e n,free p.1 p.2 nch e n,ne,nf,d⟩
theorem Inv.un {t':Nat} (I:Inv X pins σ H s) (u:Un X.fs [] H H' s.heap h') (hok:HOk X.prog X.w H' h'):Inv X pins σ H' { s with heap:=h',toks:=t' }:=by
 obtain ⟨m,⟨o,es,ep,ho,r⟩,_⟩:=id I.loc
 obtain ⟨sl,hL⟩:=u.any ho I.free (by simp)
 exact I.step (g':=s.gens) (d':=s.drawn) (ch:=[]) (fun _ z=>nomatch z) (fun b o _ hb _ e n=>u.keep b o e n hb (by simp)) (fun b o _ hb _ e n=>u.slot b o e n hb (by simp)) (fun b o _ e n=>u.free b o e n (by simp)) (fun b o _ e=>u.there b o e (by simp)) u.tups u.frzs u.tbls (fun m' hm=>by
  obtain ⟨o',es',ep',ho',r'⟩:=hm
  rw [ho] at ho'; cases ho'
  exact ⟨_,es',ep',hL,r'⟩) hok I.bare
theorem Inv.call {g':Array GenState} {t':Nat} {d':Drawn} {ch:List Addr} (I:Inv X pins σ H s) (u:Un (frs X.stack) ch H H' s.heap h') (hok:HOk X.prog X.w H' h') (hg:AllBare g')
  (hch:∀ b ∈ ch,(b ∈ X.ex \/ X.s₀.heap.objs.size <= b) /\ b ≠ X.env.locals /\ (∀ x c,X.env.cells.lookup x = some c -> c ≠ b) /\ ∀ p ∈ X.pn ++ pins,p.1 ≠ b):
  Inv X pins σ H' { s with heap:=h',gens:=g',drawn:=d',toks:=t' }:=by
 obtain ⟨m,⟨o,es,ep,ho,r⟩,_⟩:=id I.loc
 obtain ⟨sl,hL⟩:=u.any ho I.free fun z=>(hch _ z).2.1 rfl
 exact I.step (ch:=ch) hch (fun b o hL hb hc e n=>u.keep b o e n (fun z=>(List.mem_cons.mp (I.xA b z)).elim hL hb) hc) (fun b o _ _ hc e n=>u.any e n hc) (fun b o hc e n=>u.free b o e n hc) (fun b o hc e=>u.there b o e hc) u.tups u.frzs u.tbls (fun m' hm=>by
  obtain ⟨o',es',ep',ho',r'⟩:=hm
  rw [ho] at ho'; cases ho'
  exact ⟨_,es',ep',hL,r'⟩) hok hg
theorem Inv.turned {t':Nat} {it:Addr} (I:Inv X pins σ H s) (k:∀ b o,b ≠ it -> s.heap.get? b = some o -> h'.get? b = some o) (hn:H it = none) (hL:it ≠ X.env.locals)
  (h1:it ∈ X.ex \/ X.s₀.heap.objs.size <= it) (h2:∀ x c,X.env.cells.lookup x = some c -> c ≠ it) (h3:∀ p ∈ X.pn ++ pins,p.1 ≠ it):Inv X pins σ H { s with heap:=h',toks:=t' }:=by
 have nit:∀ b u,H b = some u -> b ≠ it:=fun b u e z=>by rw [z,hn] at e; cases e
 refine I.step (g':=s.gens) (d':=s.drawn) (ch:=[it]) (fun b hb=>?_) (fun b o _ _ hc e _=>k b o (fun z=>hc (by simp [z])) e) (fun b o _ _ hc e _=>⟨o.slots,k b o (fun z=>hc (by simp [z])) e⟩) (fun _ _ _ _ n=>n)
  (fun b o hc e=>⟨o,k b o (fun z=>hc (by simp [z])) e⟩) (fun _ _ e=>e) (fun _ _ _ e=>e) (fun b ps e=>⟨#[],by rw [e]; simp⟩) (fun m hm=>?_) (fun b u e=>?_) I.bare
 . have e:b = it:=by simpa using hb
   subst e
   exact ⟨h1,hL,h2,h3⟩
 . obtain ⟨o,es,ep,ho,r⟩:=hm
   exact ⟨o,es,ep,k _ o (Ne.symm hL) ho,r⟩
 . refine (I.hok b u e).n8 (fun c v hc q=>k c v ?_ q) (fun _ q=>q) fun _ _ q=>q
   rcases hc with z | z
   . rw [z]; exact nit b u e
   . exact nit c _ z
theorem Inv.tok (I:Inv X pins σ H s) (t:Nat):Inv X pins σ H { s with toks:=t }:=I.un (h':=s.heap) (t':=t) Un.refl I.hok
theorem Inv.kept {t':Nat} (I:Inv X pins σ H s) (k:∀ b u,s.heap.get? b = some u -> h'.get? b = some u):Inv X pins σ H { s with heap:=h',toks:=t' }:=I.un (Un.kept k) (I.hok.kept k)
theorem Inv.laid {a:Addr} {o:HO} {t':Nat} (I:Inv X pins σ H s) (k:∀ b u,s.heap.get? b = some u -> h'.get? b = some u) (hp:s.heap.objs.size <= a) (new:iI X.prog X.w (upd H a o) h' a o):
  Inv X pins σ (upd H a o) { s with heap:=h',toks:=t' }:=I.un (Un.laid k hp (I.hok.fresh hp)) (I.hok.laid k hp new)
theorem Inv.write {x e:Addr} {o:HO} {t':Nat} (I:Inv X pins σ H s) (mu:Mut (H x)) (he:e = x \/ H e = some (.own x)) (k:∀ b u,b ≠ e -> s.heap.get? b = some u -> h'.get? b = some u) (heo:∃ u,h'.get? e = some u)
  (new:iI X.prog X.w (upd H x o) h' x o):Inv X pins σ (upd H x o) { s with heap:=h',toks:=t' }:=I.un (Un.write mu he k heo) (I.hok.write mu he k heo new)
theorem Inv.yk {pins':List (Addr × Obj)} (I:Inv X pins σ H s) (h:∀ p ∈ pins',s.heap.get? p.1 = some p.2 /\ H p.1 = none /\ p.1 ≠ X.env.locals /\ p.1 ∉ X.fs /\ ∀ v,p.2.data ≠ .cell v):Inv X pins' σ H s:=
 ⟨I.ok,I.os,I.bare,I.base,I.loc,I.cell,I.free,I.freeC,fun p hp=>(List.mem_append.mp hp).elim (fun z=>I.pin p (List.mem_append_left _ z)) (h p),I.hok,I.len⟩
theorem qH {N:List Str} (hN:N.Nodup) {i j:Nat} {x:Str} (a:N[i]? = some x) (b:N[j]? = some x):i = j:=by
 obtain ⟨h1,e1⟩:=List.getElem?_eq_some_iff.mp a
 obtain ⟨h2,e2⟩:=List.getElem?_eq_some_iff.mp b
 exact (List.getElem_inj hN).mp (e1.trans e2.symm)
theorem yQ {M:Model} {A:Around} {E:Value -> Shared -> Prop} {i:Nat} {x:Str} {v:V} {u:Value} {Q:Unit -> Shared -> Prop} (I:Inv X pins σ H s) (hN:X.N.Nodup) (hi:X.N[i]? = some x) (hx:Loc X.env.scope x) (r:RelV v u)
  (h:∀ s',Inv X pins (σ.set i (some v)) H s' -> (∃ a,Heap.SameBut a s.heap s'.heap /\ (a = X.env.locals \/ X.env.cells.lookup x = some a)) -> Q () s') (hf:X.fn x = true \/ X.env.scope.names.lookup x = some .local:=by first | exact .inl rfl | exact .inr rfl | assumption):wpAny M A (storeName X.env x u) Q E s:=by
 obtain ⟨m,hn,hl⟩:=id I.loc
 have hcls:(X.env.scope.kind == .class || (X.env.scope.kind == .module && X.env.locals != X.env.globals)) = false:=by rw [I.ok.kind]; rfl
 have hiσ:i < σ.length:=by rw [I.len]; exact (List.getElem?_eq_some_iff.mp hi).1
 have cne:=I.cne
 have tracked:∀ {a:Addr} {h':Heap},(∃ o,s.heap.get? a = some o /\ H a = none) -> Heap.SameBut a s.heap h' -> HOk X.prog X.w H h':=fun {a h'} ha hs b ob e=>by
  obtain ⟨_,_,hfree⟩:=ha
  refine (I.hok b ob e).n8 (fun c w' hc q=>(hs.2 c ?_).trans q) (fun _ q=>q) fun _ _ q=>q
  rintro rfl
  rcases hc with rfl | hc
  . rw [hfree] at e; cases e
  . rw [hfree] at hc; cases hc
 rcases hx with hk | hk
 . refine wpAny_storeName_local hk hn (fun h' hn' hs=>?_) hcls
   obtain ⟨oL,_,_,hoL,_⟩:=id hn
   refine h _ ⟨I.ok,I.os,I.bare,⟨fun b o e n hb hx=>?_,fun b o e n hb hx=>?_,I.base.free,fun b o e hx=>?_,I.base.tups,I.base.frzs,I.base.tbls⟩,⟨_,hn',fun j y v' e1 e2 e3=>?_⟩,fun y c e=>?_,I.free,I.freeC,fun p hp=>?_,tracked ⟨oL,hoL,I.free⟩ hs,by simpa using I.len⟩ ⟨_,hs,.inl rfl⟩
   . exact (hs.2 b (Nat.ne_of_lt (Nat.lt_of_lt_of_le (Heap.lt_size e) I.ok.above))).trans (I.base.keep b o e n hb hx)
   . obtain ⟨sl,e1⟩:=I.base.slot b o e n hb hx
     exact ⟨sl,(hs.2 b (Nat.ne_of_lt (Nat.lt_of_lt_of_le (Heap.lt_size e) I.ok.above))).trans e1⟩
   . obtain ⟨o',e1⟩:=I.base.there b o e hx
     exact ⟨o',(hs.2 b (Nat.ne_of_lt (Nat.lt_of_lt_of_le (Heap.lt_size e) I.ok.above))).trans e1⟩
   . by_cases hj:j = i
     . subst hj
       rw [hi] at e1; cases e1
       rw [List.getElem?_set_self hiσ] at e2
       cases e2
       exact ⟨u,r,.inl ⟨hk,by simp⟩⟩
     . rw [List.getElem?_set_ne (Ne.symm hj)] at e2
       obtain ⟨u',r',q⟩:=hl j y v' e1 e2 e3
       refine ⟨u',r',?_⟩
       rcases q with ⟨k,e⟩ | ⟨k,c,e,z⟩
       . refine .inl ⟨k,?_⟩
         have:y ≠ x:=fun e=>hj (qH hN e1 (e ▸ hi))
         simp [this,e]
       . exact .inr ⟨k,c,e,z.sameBut hs (cne y c e)⟩
   . obtain ⟨w',z⟩:=I.cell y c e
     exact ⟨w',z.sameBut hs (cne y c e)⟩
   . obtain ⟨e,n,ne,nf,d⟩:=I.pin p hp
     exact ⟨(hs.2 p.1 ne).trans e,n,ne,nf,d⟩
 . have hfn:X.fn x = true:=by
    rcases hf with z | z
    . exact z
    . rw [z] at hk; cases hk
   obtain ⟨c,hc⟩:=I.ok.has x (.inl hk)
   obtain ⟨w',z⟩:=I.cell x c hc
   refine wpAny_storeName_cell I.ok.kind hk hc z (fun h' hc' hs=>?_)
   obtain ⟨oc,hoc,hocd⟩:=id z
   refine h { s with heap:=h' } ⟨I.ok,I.os,I.bare,⟨fun b o e n hb hx=>?_,fun b o e n hb hx=>?_,I.base.free,fun b o e hx=>?_,I.base.tups,I.base.frzs,I.base.tbls⟩,⟨m,hn.sameBut hs (Ne.symm (cne x c hc)),fun j y v' e1 e2 e3=>?_⟩,fun y c' e=>?_,I.free,I.freeC,fun p hp=>?_,tracked ⟨oc,hoc,I.freeC x c hc⟩ hs,by simpa using I.len⟩ ⟨c,hs,.inr hc⟩
   . exact (hs.2 b (Nat.ne_of_lt (Nat.lt_of_lt_of_le (Heap.lt_size e) (I.ok.cab x c hfn hc)))).trans (I.base.keep b o e n hb hx)
   . obtain ⟨sl,e1⟩:=I.base.slot b o e n hb hx
     exact ⟨sl,(hs.2 b (Nat.ne_of_lt (Nat.lt_of_lt_of_le (Heap.lt_size e) (I.ok.cab x c hfn hc)))).trans e1⟩
   . obtain ⟨o',e1⟩:=I.base.there b o e hx
     exact ⟨o',(hs.2 b (Nat.ne_of_lt (Nat.lt_of_lt_of_le (Heap.lt_size e) (I.ok.cab x c hfn hc)))).trans e1⟩
   . by_cases hj:j = i
     . subst hj
       rw [hi] at e1; cases e1
       rw [List.getElem?_set_self hiσ] at e2
       cases e2
       exact ⟨u,r,.inr ⟨.inl hk,c,hc,hc'⟩⟩
     . rw [List.getElem?_set_ne (Ne.symm hj)] at e2
       obtain ⟨u',r',q⟩:=hl j y v' e1 e2 e3
       refine ⟨u',r',?_⟩
       rcases q with q | ⟨k,c',e,z'⟩
       . exact .inl q
       . refine .inr ⟨k,c',e,z'.sameBut hs ?_⟩
         rintro rfl
         exact hj (qH hN e1 (I.ok.inj _ _ _ e hc ▸ hi))
   . by_cases hcc:c' = c
     . subst hcc; exact ⟨_,hc'⟩
     . obtain ⟨w2,z2⟩:=I.cell y c' e
       exact ⟨w2,z2.sameBut hs hcc⟩
   . obtain ⟨e,n,ne,nf,d⟩:=I.pin p hp
     refine ⟨(hs.2 p.1 ?_).trans e,n,ne,nf,d⟩
     intro q
     rw [q,hoc] at e
     have q':oc = p.2:=Option.some.inj e
     exact d w' (by rw [<- q']; exact hocd)
theorem i6 {M:Model} {A:Around} {E:Value -> Shared -> Prop} {i:Nat} {x:Str} {v:V} {u:Value} {Q:Unit -> Shared -> Prop} (I:Inv X pins σ H s) (hN:X.N.Nodup) (hi:X.N[i]? = some x) (hx:Loc X.env.scope x) (r:RelV v u)
  (h:∀ s',Inv X pins (σ.set i (some v)) H s' -> Q () s') (hf:X.fn x = true \/ X.env.scope.names.lookup x = some .local:=by first | exact .inl rfl | exact .inr rfl | assumption):wpAny M A (storeName X.env x u) Q E s:=
 yQ I hN hi hx r (fun s' I' _=>h s' I') hf
theorem Inv.DI {s':Shared} {ch:List Addr} (I:Inv X pins σ H s) (ho:s'.os = s.os) (u:Un (frs X.stack) ch H H' s.heap s'.heap) (hok:HOk X.prog X.w H' s'.heap) (hg:AllBare s'.gens)
  (hch:∀ b ∈ ch,(b ∈ X.ex \/ X.s₀.heap.objs.size <= b) /\ b ≠ X.env.locals /\ (∀ x c,X.env.cells.lookup x = some c -> c ≠ b) /\ ∀ p ∈ X.pn ++ pins,p.1 ≠ b):Inv X pins σ H' s':=by
 obtain ⟨h',g',d',t',o'⟩:=s'
 have e:o' = s.os:=ho
 subst e
 exact I.call (g':=g') (t':=t') (d':=d') u hok hg hch
end
abbrev XK:=Value -> Option Addr -> Hp -> Prop
abbrev St:=List (Option V)
abbrev VK:=V -> Hp -> Prop
abbrev TE:=St -> Hp -> VK -> Prop
abbrev TT:=St -> Hp -> (Bool -> Hp -> Prop) -> Prop
abbrev TA:=St -> Hp -> (List V -> Hp -> Prop) -> Prop
structure Ends where
 nx:St -> Hp -> Prop
 rt:VK
 bk:St -> Hp -> Prop:=fun _ _=>False
 ct:St -> Hp -> Prop:=fun _ _=>False
abbrev TS:=Ends -> St -> Hp -> Prop
noncomputable def EP (X:Cx) (pins:List (Addr × Obj)) (σ:St) (Q:VK) (u:Value) (s':Shared):Prop:=∃ v H',Inv X pins σ H' s' /\ RelV v u /\ Q v H'
noncomputable def TP (X:Cx) (pins:List (Addr × Obj)) (σ:St) (Q:Bool -> Hp -> Prop) (b:Bool) (s':Shared):Prop:=∃ H',Inv X pins σ H' s' /\ Q b H'
noncomputable def AP (X:Cx) (pins:List (Addr × Obj)) (σ:St) (Q:List V -> Hp -> Prop) (us:List Value) (s':Shared):Prop:=∃ vs H',Inv X pins σ H' s' /\ Vals vs us /\ Q vs H'
noncomputable def SP (X:Cx) (pins:List (Addr × Obj)) (D:Ends) (f:Flow) (s':Shared):Prop:=
 match f with
 | .next=>∃ σ' H',Inv X pins σ' H' s' /\ D.nx σ' H'
 | .brk=>∃ σ' H',Inv X pins σ' H' s' /\ D.bk σ' H'
 | .cont=>∃ σ' H',Inv X pins σ' H' s' /\ D.ct σ' H'
 | .ret u=>∃ v σ' H',Inv X pins σ' H' s' /\ RelV v u /\ D.rt v H'
noncomputable def PE (X:Cx) (e:Expr) (t:TE):Prop:=
 ∀ (pins:List (Addr × Obj)) (s:Shared) (σ:St) (H:Hp) (Q:VK),Inv X pins σ H s -> t σ H Q -> wpAny (model X.prog X.w) X.A (eval e X.env) (EP X pins σ Q) X.xe s
noncomputable def PT (X:Cx) (e:Expr) (t:TT):Prop:=
 ∀ (pins:List (Addr × Obj)) (s:Shared) (σ:St) (H:Hp) (Q:Bool -> Hp -> Prop),Inv X pins σ H s -> t σ H Q -> wpAny (model X.prog X.w) X.A (isTrue e X.env (eval e X.env)) (TP X pins σ Q) X.xe s
noncomputable def PW (X:Cx) (e:Expr) (t:TT):Prop:=
 ∀ (whole:Sem Value) (pins:List (Addr × Obj)) (s:Shared) (σ:St) (H:Hp) (Q:Bool -> Hp -> Prop),Inv X pins σ H s -> t σ H Q -> wpAny (model X.prog X.w) X.A (isTrue e X.env whole) (TP X pins σ Q) X.xe s
theorem PW.pt {X:Cx} {e:Expr} {t:TT} (h:PW X e t):PT X e t:=h _
noncomputable def PA (X:Cx) (es:List Expr) (t:TA):Prop:=
 ∀ (pos:Pos) (pins:List (Addr × Obj)) (s:Shared) (σ:St) (H:Hp) (Q:List V -> Hp -> Prop),Inv X pins σ H s -> t σ H Q -> wpAny (model X.prog X.w) X.A (spliced (backTo pos (starEach es X.env))) (AP X pins σ Q) X.xe s
noncomputable def PS (X:Cx) (st:Stmt) (t:TS):Prop:=
 ∀ (pins:List (Addr × Obj)) (s:Shared) (σ:St) (H:Hp) (D:Ends),Inv X pins σ H s -> t D σ H -> wpAny (model X.prog X.w) X.A (exec st X.env) (SP X pins D) X.xe s
noncomputable def PSs (X:Cx) (st:List Stmt) (t:TS):Prop:=
 ∀ (pins:List (Addr × Obj)) (s:Shared) (σ:St) (H:Hp) (D:Ends),Inv X pins σ H s -> t D σ H -> wpAny (model X.prog X.w) X.A (execs st X.env) (SP X pins D) X.xe s
theorem thn {α:Type} {t:Sem α} {Q Q':α -> Shared -> Prop} {M:Model} {A:Around} {E:Value -> Shared -> Prop} {s:Shared} (h:wpAny M A t Q E s) (hQ:∀ a s,Q a s -> Q' a s):wpAny M A t Q' E s:=wpAny_mono h hQ fun _ _ x=>x
end L2
namespace L2
open PySem PySem.Spec PyProof.Rows
section
variable {X:Cx}
theorem bin {a b:Expr} {ta tb:TE} (ha:PE X a ta) (hb:PE X b tb) {pins:List (Addr × Obj)} {s:Shared} {σ:St} {H:Hp} {R:V -> V -> Hp -> Prop} (I:Inv X pins σ H s) (h:ta σ H fun x H1=>tb σ H1 fun y H2=>R x y H2)
  {α:Type} {Q:α -> Shared -> Prop} {f:Value -> Value -> Sem α}
  (hf:∀ v u s2 x y H2,Inv X pins σ H2 s2 -> RelV x v -> RelV y u -> R x y H2 -> wpAny (model X.prog X.w) X.A (f v u) Q X.xe s2):
  wpAny (model X.prog X.w) X.A (eval a X.env) (fun v s₁=>wpAny (model X.prog X.w) X.A (eval b X.env) (fun u s₂=>wpAny (model X.prog X.w) X.A (f v u) Q X.xe s₂) X.xe s₁) X.xe s:=by
 refine thn (ha pins s σ H _ I h) fun v s1 ⟨x,H1,I1,r1,q1⟩=>?_
 refine thn (hb pins s1 σ H1 _ I1 q1) fun u s2 ⟨y,H2,I2,r2,q2⟩=>?_
 exact hf v u s2 x y H2 I2 r1 r2 q2
noncomputable def rK (i:Nat):TE:=fun σ H Q=>∃ v,σ[i]? = some (some v) /\ Q v H
noncomputable def tC (v:V):TE:=fun _ H Q=>Q v H
theorem FZ {i:Nat} {x:Str} {pos:Pos} (hN:X.N[i]? = some x) (hv:Vis X.env.scope x) (hd:(x == ("__debug__":Str)) = false:=by decide) (hcd:(x == ("__classdict__":Str)) = false:=by decide):PE X (.Name x pos) (rK i):=by
 intro pins s σ H Q I h
 obtain ⟨v,e,h⟩:=h
 obtain ⟨m,hn,hl⟩:=I.loc
 obtain ⟨u,r,l⟩:=hl i x v hN e hv
 have fin:EP X pins σ Q u s:=⟨v,H,I,r,h⟩
 rcases l with ⟨hk,hm⟩ | ⟨hk,c,hc,hcell⟩
 . exact wpAny_Name (wpAny_loadName_local I.ok.kind hk hn hm fin) hd
 . rcases hk with hk | hk
   . exact wpAny_Name (wpAny_loadName_cell I.ok.kind hk hc hcell fin) hd
   . exact wpAny_Name (wpAny_loadName_free I.ok.kind hk hc hcell fin hcd) hd
theorem Gn {i j pos}:PE X (.Constant (.int i) j pos) (tC (.int i)):=fun _ _ _ H _ I h=>wpAny_Constant_int ⟨.int i,H,I.tok _,⟨_,rfl⟩,h⟩
theorem He {b j pos}:PE X (.Constant (.bool b) j pos) (tC (.bl b)):=fun _ _ _ H _ I h=>Constant_bool ⟨.bl b,H,I,rfl,h⟩
theorem Ea {j pos}:PE X (.Constant .none j pos) (tC .non):=fun _ _ _ H _ I h=>Constant_none ⟨.non,H,I,rfl,h⟩
theorem Eg {x j pos}:PE X (.Constant (.str x) j pos) (tC (.str x)):=fun _ _ _ H _ I h=>Calls.Constant_str ⟨.str x,H,I.tok _,⟨_,rfl⟩,h⟩
noncomputable def Gl (X:Cx) (x:Str):Prop:=X.env.kindOf x = some .globalImplicit
theorem lr {E:Value -> Shared -> Prop} {pins:List (Addr × Obj)} {s:Shared} {σ:St} {H:Hp} {x:Str} {u:Value} {pos:Pos} {Q:Value -> Shared -> Prop} (I:Inv X pins σ H s) (hg:Gl X x) (hm:X.mg x = some u) (h:Q u s)
  (hd:(x == ("__debug__":Str)) = false:=by decide):wpAny (model X.prog X.w) X.A (eval (.Name x pos) X.env) Q E s:=
 Calls.Name_function_global I.ok.kind hg (Calls.loadGlobal_global (by rw [I.ok.glob]; exact I.mod.glob.keeps I.bk) hm h) hd
theorem qG {E:Value -> Shared -> Prop} {pins:List (Addr × Obj)} {s:Shared} {σ:St} {H:Hp} {x:Str} {u:Value} {pos:Pos} {Q:Value -> Shared -> Prop} (I:Inv X pins σ H s) (hg:Gl X x) (hm:X.mg x = none) (hv:bootBuiltins x = some u) (h:Q u s)
  (hn:x ≠ "__name__":=by decide) (hd:(x == ("__debug__":Str)) = false:=by decide):wpAny (model X.prog X.w) X.A (eval (.Name x pos) X.env) Q E s:=by
 obtain ⟨mb,h1,h2⟩:=I.mod.blt
 exact Calls.Name_function_global I.ok.kind hg (Calls.loadGlobal_builtin (by rw [I.ok.glob]; exact I.mod.glob.keeps I.bk) hm (by rw [I.ok.blt]; exact h1.keeps I.bk) ((h2 x hn).trans hv) h) hd
theorem BY {x:Str} {v:V} {u:Value} {pos:Pos} (hg:Gl X x) (hm:X.mg x = some u) (r:RelV v u) (hd:(x == ("__debug__":Str)) = false:=by decide):PE X (.Name x pos) (tC v):=
 fun _ _ _ H _ I h=>lr I hg hm ⟨v,H,I,r,h⟩ hd
theorem CS {x:Str} {v:V} {u:Value} {pos:Pos} (hg:Gl X x) (hm:X.mg x = none) (hv:bootBuiltins x = some u) (r:RelV v u) (hn:x ≠ "__name__":=by decide) (hd:(x == ("__debug__":Str)) = false:=by decide):PE X (.Name x pos) (tC v):=
 fun _ _ _ H _ I h=>qG I hg hm hv ⟨v,H,I,r,h⟩ hn hd
variable {a b:Expr} {ta tb:TE} {pos:Pos}
noncomputable def PC (X:Cx) (op:CmpOp) (a b:Expr) (t:TE):Prop:=
 ∀ (pins:List (Addr × Obj)) (s:Shared) (σ:St) (H:Hp) (Q:VK),Inv X pins σ H s -> t σ H Q ->
   wpAny (model X.prog X.w) X.A (eval a X.env) (fun v s₁=>wpAny (model X.prog X.w) X.A (eval b X.env) (fun u s₂=>wpAny (model X.prog X.w) X.A (compareOp op v u) (EP X pins σ Q) X.xe s₂) X.xe s₁) X.xe s
variable {tA tB':TT} {rest:List Expr}
noncomputable def E4 (t u:TT):TT:=fun σ H Q=>t σ H fun c H1=>if c = true then u σ H1 Q else Q false H1
noncomputable def tOr (t u:TT):TT:=fun σ H Q=>t σ H fun c H1=>if c = true then Q true H1 else u σ H1 Q
noncomputable def B9 (t:TT):TT:=fun σ H Q=>t σ H fun c H1=>Q (!c) H1
theorem CL (ha:PT X a tA):PW X (.BoolOp .And [a] pos) tA:=by
 intro wh pins s σ H Q I h
 refine isTrue_and (thn (ha pins s σ H Q I h) fun c s1 e=>?_)
 cases c with
 | true=>exact isTrue_and_nil e
 | false=>exact e
theorem Eb (ha:PT X a tA):PW X (.BoolOp .Or [a] pos) tA:=by
 intro wh pins s σ H Q I h
 refine isTrue_or (thn (ha pins s σ H Q I h) fun c s1 e=>?_)
 cases c with
 | false=>exact isTrue_or_nil e
 | true=>exact e
theorem Fw (ha:PT X a tA) (hb:PW X (.BoolOp .And (b ::rest) pos) tB'):PW X (.BoolOp .And (a ::b ::rest) pos) (E4 tA tB'):=by
 intro wh pins s σ H Q I h
 refine isTrue_and (thn (ha pins s σ H _ I h) fun c s1 ⟨H1,I1,q1⟩=>?_)
 cases c with
 | true=>exact hb wh pins s1 σ H1 Q I1 q1
 | false=>exact ⟨H1,I1,q1⟩
theorem GG (ha:PT X a tA) (hb:PW X (.BoolOp .Or (b ::rest) pos) tB'):PW X (.BoolOp .Or (a ::b ::rest) pos) (tOr tA tB'):=by
 intro wh pins s σ H Q I h
 refine isTrue_or (thn (ha pins s σ H _ I h) fun c s1 ⟨H1,I1,q1⟩=>?_)
 cases c with
 | true=>exact ⟨H1,I1,q1⟩
 | false=>exact hb wh pins s1 σ H1 Q I1 q1
theorem Fm (ha:PT X a tA):PT X (.UnaryOp .Not a pos) (B9 tA):=by
 intro pins s σ H Q I h
 exact isTrue_not (ha pins s σ H (fun c H1=>Q (!c) H1) I h)
noncomputable def AG (ta tb:TE):TE:=fun σ H Q=>ta σ H fun x H1=>∃ c,x = .bl c /\ if c = true then tb σ H1 Q else Q (.bl false) H1
noncomputable def AQ (ta:TE):TE:=fun σ H Q=>ta σ H fun x H1=>∃ c,x = .bl c /\ Q (.bl (!c)) H1
theorem E5 {op} {t:TE} (h:PE X a t):PE X (.BoolOp op [a] pos) t:=fun pins s σ H Q I hw=>BoolOp_one (h pins s σ H Q I hw)
theorem FD (ha:PE X a ta) (hb:PE X (.BoolOp .And (b ::rest) pos) tb):PE X (.BoolOp .And (a ::b ::rest) pos) (AG ta tb):=by
 intro pins s σ H Q I h
 refine BoolOp_and (thn (ha pins s σ H _ I h) fun v s1 ⟨x,H1,I1,r1,q1⟩=>?_)
 obtain ⟨c,rfl,q1⟩:=q1
 cases r1
 refine wpAny_truthy_bool ?_
 cases c with
 | true=>exact hb pins s1 σ H1 Q I1 q1
 | false=>exact ⟨.bl false,H1,I1,rfl,q1⟩
theorem EO (ha:PE X a ta):PE X (.UnaryOp .Not a pos) (AQ ta):=by
 intro pins s σ H Q I h
 refine UnaryOp_ (thn (ha pins s σ H _ I h) fun v s1 ⟨x,H1,I1,r1,q1⟩=>?_)
 obtain ⟨c,rfl,q1⟩:=q1
 cases r1
 exact not_of (wpAny_truthy_bool ⟨.bl (!c),H1,I1,rfl,q1⟩)
noncomputable def tIf (t:TT) (ta tb:TE):TE:=fun σ H Q=>t σ H fun c H1=>if c = true then ta σ H1 Q else tb σ H1 Q
theorem BQ {c:Expr} (hc:PT X c tA) (ha:PE X a ta) (hb:PE X b tb):PE X (.IfExp c a b pos) (tIf tA ta tb):=by
 intro pins s σ H Q I h
 refine wpAny_IfExp (thn (hc pins s σ H _ I h) fun d s1 ⟨H1,I1,q1⟩=>?_)
 cases d with
 | true=>exact ha pins s1 σ H1 Q I1 q1
 | false=>exact hb pins s1 σ H1 Q I1 q1
end
end L2
namespace L2
open PySem PySem.Spec PyProof.Rows
noncomputable def SqL (K:PySem.W.Frag) (H:Hp) (a:Addr) (xs:List V):Prop:=
 Rd H a (.lst xs) \/
  ∃ (o:Obj) (its:Array Value) (n:Nat),K.lookup a = some o /\ o.cls = .type "list" /\ o.dict = none /\ o.data = .seq its n /\ its.size <= sizeLine /\ Vals xs its.toList
noncomputable def SqT (K:PySem.W.Frag) (H:Hp) (a:Addr) (xs:List V):Prop:=
 Rd H a (.tup xs) \/
  ∃ (o:Obj) (its:Array Value) (n:Nat),K.lookup a = some o /\ o.cls = .type "tuple" /\ o.data = .seq its n /\ its.size <= sizeLine /\ Vals xs its.toList
noncomputable def I9:Value -> Option V
 | .none=>some .non
 | .bool b=>some (.bl b)
 | .int i _=>some (.int i)
 | .str x _=>some (.str x)
 | .bytes b _=>some (.byt b)
 | .float b _=>some (.flt b)
 | .ref a=>some (.ref a)
 | .type n=>some (.ty n)
 | _=>none
theorem RelV.abs {x:V} {u:Value} (r:RelV x u):I9 u = some x:=by
 cases x with
 | non=>cases r; rfl
 | bl _=>cases r; rfl
 | int _=>obtain ⟨t,rfl⟩:=r; rfl
 | str _=>obtain ⟨t,rfl⟩:=r; rfl
 | byt _=>obtain ⟨t,rfl⟩:=r; rfl
 | flt _=>obtain ⟨t,rfl⟩:=r; rfl
 | ref _=>cases r; rfl
 | ty _=>cases r; rfl
theorem RelV.inj {x y:V} {u:Value} (r:RelV x u) (q:RelV y u):x = y:=Option.some.inj (r.abs.symm.trans q.abs)
theorem Vals.inj:∀ {xs ys:List V} {us:List Value},Vals xs us -> Vals ys us -> xs = ys
 | _,_,_,.nil,.nil=>rfl
 | _,_,_,.cons r t,.cons r' t'=>by rw [r.inj r',Vals.inj t t']
section
variable {X:Cx} {pins:List (Addr × Obj)} {σ:St} {H:Hp} {s:Shared} {a:Addr} {xs ys:List V}
theorem Inv.list (I:Inv X pins σ H s) (h:SqL X.K H a xs):∃ its:List Value,Vals xs its /\ PlainL s.heap a its.toArray /\ xs.length <= sizeLine:=by
 rcases h with h | ⟨o,its,n,hk,hc,hd,hs,hz,r⟩
 . obtain ⟨z,its,n,r,e⟩:=h.ok I.hok
   exact ⟨its,r,⟨_,n,e,rfl,rfl,rfl⟩,z⟩
 . refine ⟨its.toList,r,⟨o,n,I.kIn a o hk,hc,hd,by simpa using hs⟩,?_⟩
   have e:=r.length
   simp only [Array.length_toList] at e
   omega
theorem Inv.tuple (I:Inv X pins σ H s) (h:SqT X.K H a xs):∃ its:List Value,Vals xs its /\ IsTup s.heap a its.toArray /\ xs.length <= sizeLine:=by
 rcases h with h | ⟨o,its,n,hk,hc,hs,hz,r⟩
 . obtain ⟨z,its,r,p⟩:=h.ok I.hok
   exact ⟨its,r,p,z⟩
 . refine ⟨its.toList,r,⟨o,I.kIn a o hk,hc,n,by simpa using hs⟩,?_⟩
   have e:=r.length
   simp only [Array.length_toList] at e
   omega
theorem Inv.vH (I:Inv X pins σ H s) (h:SqL X.K H a xs) (h':SqL X.K H a ys):xs = ys:=by
 obtain ⟨its,r,⟨o,n,e,_,_,d⟩,_⟩:=I.list h
 obtain ⟨its',r',⟨o',n',e',_,_,d'⟩,_⟩:=I.list h'
 rw [e] at e'; cases e'
 rw [d] at d'
 injection d' with d1 _
 have:its = its':=by simpa using congrArg Array.toList d1
 subst this
 exact r.inj r'
theorem Inv.yT (I:Inv X pins σ H s) (h:SqT X.K H a xs) (h':SqT X.K H a ys):xs = ys:=by
 obtain ⟨its,r,⟨o,e,_,n,d⟩,_⟩:=I.tuple h
 obtain ⟨its',r',⟨o',e',_,n',d'⟩,_⟩:=I.tuple h'
 rw [e] at e'; cases e'
 rw [d] at d'
 injection d' with d1 _
 have:its = its':=by simpa using congrArg Array.toList d1
 subst this
 exact r.inj r'
end
section
variable {X:Cx} {st:Stmt} {rest:List Stmt} {t u:TS} {e:Expr} {te:TE} {pos:Pos}
noncomputable def AX:TS:=fun D σ H=>D.nx σ H
noncomputable def E9 (t u:TS):TS:=fun D σ H=>t { D with nx:=u D } σ H
theorem CQ:PSs X [] AX:=fun _ _ σ H _ I h=>wpAny_execs_nil ⟨σ,H,I,h⟩
theorem AZ (h1:PS X st t) (h2:PSs X rest u):PSs X (st ::rest) (E9 t u):=by
 intro pins s σ H D I h
 refine wpAny_execs_cons (thn (h1 pins s σ H { D with nx:=u D } I h) fun f s1 q=>?_)
 cases f with
 | next=>
   obtain ⟨σ',H',I',q⟩:=q
   exact h2 pins s1 σ' H' D I' q
 | ret v=>exact q
 | brk=>exact q
 | cont=>exact q
theorem yi (h1:PS X st t):PSs X [st] t:=by
 intro pins s σ H D I h
 refine wpAny_execs_cons (thn (h1 pins s σ H D I h) fun f s1 q=>?_)
 cases f with
 | next=>exact wpAny_execs_nil q
 | ret v=>exact q
 | brk=>exact q
 | cont=>exact q
theorem Inv.quiet {pins:List (Addr × Obj)} {σ:St} {H:Hp} {s:Shared} (I:Inv X pins σ H s):interactive X.env = false:=by simp [interactive,I.ok.kind]
noncomputable def sA (te:TE):TS:=fun D σ H=>te σ H fun _ H1=>D.nx σ H1
theorem Cj (he:PE X e te) (hs:swapsWith e none pos.line X.env = pure false:=by rfl):PS X (.Expr e pos) (sA te):=by
 intro pins s σ H D I h
 exact wpAny_Expr_any (thn (he pins s σ H _ I h) fun v s1 ⟨x,H1,I1,r1,q1⟩=>⟨σ,H1,I1,q1⟩) I.quiet hs
noncomputable def Cw (te:TE):TS:=fun D σ H=>te σ H D.rt
theorem FC (he:PE X e te):PS X (.Return (some e) pos) (Cw te):=by
 intro pins s σ H D I h
 exact wpAny_Return_some (thn (he pins s σ H _ I h) fun v s1 ⟨x,H1,I1,r1,q1⟩=>⟨x,σ,H1,I1,r1,q1⟩)
noncomputable def CH (c:TT) (t u:TS):TS:=fun D σ H=>c σ H fun b H1=>if b = true then t D σ H1 else u D σ H1
theorem GX {c:Expr} {a b:List Stmt} {tc:TT} (hc:PT X c tc) (ha:PSs X a t) (hb:PSs X b u):PS X (.If c a b pos) (CH tc t u):=by
 intro pins s σ H D I h
 refine wpAny_If (thn (hc pins s σ H _ I h) fun d s1 ⟨H1,I1,q1⟩=>?_)
 cases d with
 | true=>exact ha pins s1 σ H1 D I1 q1
 | false=>exact hb pins s1 σ H1 D I1 q1
end
abbrev TG:=V -> St -> Hp -> (St -> Hp -> Prop) -> Prop
abbrev TGs:=List V -> St -> Hp -> (St -> Hp -> Prop) -> Prop
noncomputable def PG (X:Cx) (target:Expr) (t:TG):Prop:=
 ∀ (pins:List (Addr × Obj)) (s:Shared) (σ:St) (H:Hp) (v:V) (u:Value) (Q:St -> Hp -> Prop),Inv X pins σ H s -> RelV v u -> t v σ H Q ->
   wpAny (model X.prog X.w) X.A (assign target X.env u) (fun _ s'=>∃ σ' H',Inv X pins σ' H' s' /\ Q σ' H') X.xe s
noncomputable def PGs (X:Cx) (ts:List Expr) (t:TGs):Prop:=
 ∀ (pins:List (Addr × Obj)) (s:Shared) (σ:St) (H:Hp) (vs:List V) (us:List Value) (Q:St -> Hp -> Prop),Inv X pins σ H s -> Vals vs us -> t vs σ H Q ->
   wpAny (model X.prog X.w) X.A (assignInOrder ((assignEach ts X.env).map (·.2)) us) (fun _ s'=>∃ σ' H',Inv X pins σ' H' s' /\ Q σ' H') X.xe s
abbrev CW:=V -> V -> V -> Hp -> (Hp -> Prop) -> Prop
noncomputable def EJ (X:Cx) (t:CW):Prop:=
 ∀ (pins:List (Addr × Obj)) (s:Shared) (σ:St) (H:Hp) (o i v:V) (ov iv u:Value) (Q:Hp -> Prop),Inv X pins σ H s -> RelV o ov -> RelV i iv -> RelV v u -> t o i v H Q ->
   wpAny (model X.prog X.w) X.A (setItem ov iv u) (fun _ s'=>∃ H',Inv X pins σ H' s' /\ Q H') X.xe s
abbrev TIp:=V -> V -> Hp -> VK -> Prop
noncomputable def PIp (X:Cx) (op:Operator) (t:TIp):Prop:=
 ∀ (pins:List (Addr × Obj)) (s:Shared) (σ:St) (H:Hp) (x y:V) (v u:Value) (Q:VK),Inv X pins σ H s -> RelV x v -> RelV y u -> t x y H Q ->
   wpAny (model X.prog X.w) X.A (inplaceOp op v u) (EP X pins σ Q) X.xe s
section
variable {X:Cx} {pos:Pos}
noncomputable def kh (i:Nat):TG:=fun v σ H Q=>Q (σ.set i (some v)) H
theorem Dk {i:Nat} {x:Str} (hN:X.N.Nodup) (hi:X.N[i]? = some x) (hx:Loc X.env.scope x) (hf:X.fn x = true \/ X.env.scope.names.lookup x = some .local:=by first | exact .inl rfl | exact .inr rfl | assumption):PG X (.Name x pos) (kh i):=by
 intro pins s σ H v u Q I r h
 exact wpAny_assign_Name (i6 I hN hi hx r (fun s' I'=>⟨_,H,I',h⟩) hf)
noncomputable def FT:TGs:=fun vs σ H Q=>vs = [] /\ Q σ H
noncomputable def yD (t:TG) (u:TGs):TGs:=fun vs σ H Q=>∃ v r,vs = v ::r /\ t v σ H fun σ' H'=>u r σ' H' Q
theorem CD:PGs X [] FT:=by
 intro pins s σ H vs us Q I r h
 obtain ⟨e,h⟩:=h
 subst e
 cases r
 exact assignInOrder_nil ⟨σ,H,I,h⟩
theorem Bp {e:Expr} {es:List Expr} {t:TG} {u:TGs} (h1:PG X e t) (h2:PGs X es u)
  (hs:(assignEach (e ::es) X.env).map (·.2) = assign e X.env ::(assignEach es X.env).map (·.2):=by rfl):PGs X (e ::es) (yD t u):=by
 intro pins s σ H vs us Q I r h
 obtain ⟨v,vr,e1,h⟩:=h
 subst e1
 cases r with
 | cons r rr=>
   rw [hs]
   refine assignInOrder_cons (thn (h1 pins s σ H _ _ _ I r h) fun _ s1 ⟨σ1,H1,I1,q1⟩=>?_)
   exact h2 pins s1 σ1 H1 _ _ Q I1 rr q1
noncomputable def FX (K:PySem.W.Frag) (n:Nat) (t:TGs):TG:=fun v σ H Q=>∃ a xs,v = .ref a /\ SqT K H a xs /\ xs.length = n /\ t xs σ H Q
theorem EX {es:List Expr} {k:Nat} {t:TGs} {n:Nat} (hc:X.calm = true) (h:PGs X es t)
  (hn:(assignEach es X.env).length = n:=by rfl) (hst:(assignEach es X.env).findIdx? (·.1) = none:=by rfl):PG X (.Tuple es k pos) (FX X.K n t):=by
 intro pins s σ H v u Q I r hw
 obtain ⟨a,xs,e1,hq,hl,hw⟩:=hw
 subst e1
 cases r
 obtain ⟨its,rv,ht,hz⟩:=I.tuple hq
 refine assign_Tuple_tuple (I.ok.hd hc) ht (by simp [hn,<- hl,rv.length]) hst fun h' hx=>?_
 have I1:Inv X pins σ H { s with heap:=h' }:=I.kept (t':=s.toks) fun b o e=>hx b o (Nat.ne_of_lt (Heap.lt_size e)) e
 exact h pins _ σ H xs _ Q I1 (by simpa using rv) hw
noncomputable def Fp (to ti:TE) (t:CW):TG:=fun v σ H Q=>to σ H fun o H1=>ti σ H1 fun i H2=>t o i v H2 fun H3=>Q σ H3
theorem Fg {o i:Expr} {to ti:TE} {t:CW} (ho:PE X o to) (hi:PE X i ti) (hs:EJ X t)
  (ha:∀ v,assign (.Subscript o i pos) X.env v = (do
    let ov <- holding [v] (eval o X.env)
    let iv <- holding [v,ov] (eval i X.env)
    standAt pos
    holding [v,ov,iv] (setItem ov iv v)
    release [v,ov,iv] []):=by intro _; rfl):PG X (.Subscript o i pos) (Fp to ti t):=by
 intro pins s σ H v u Q I r h
 rw [ha]
 refine wpAny_bind (wpAny_holding (thn (ho pins s σ H _ I h) fun ov s1 ⟨x,H1,I1,r1,q1⟩=>?_))
 refine wpAny_bind (wpAny_holding (thn (hi pins s1 σ H1 _ I1 q1) fun iv s2 ⟨y,H2,I2,r2,q2⟩=>?_))
 refine wpAny_bind (wpAny_standAt (wpAny_bind (wpAny_holding (thn (hs pins s2 σ H2 x y v ov iv u _ I2 r1 r2 r q2) fun _ s3 ⟨H3,I3,q3⟩=>?_))))
 exact wpAny_release ⟨σ,H3,I3,q3⟩
noncomputable def sk (te:TE) (g:TG):TS:=fun D σ H=>te σ H fun x H1=>g x σ H1 D.nx
theorem FG {tg e:Expr} {te:TE} {g:TG} (he:PE X e te) (hg:PG X tg g) (hs:swapsWithSole [tg] e pos.line X.env = pure false:=by rfl) (hw:swappedStores [tg] e X.env = pure none:=by rfl)
  (h1:(assignEach [tg] X.env).map (·.2) = [assign tg X.env]:=by rfl):PS X (.Assign [tg] e pos) (sk te g):=by
 intro pins s σ H D I h
 refine wpAny_Assign_stores (thn (he pins s σ H _ I h) fun v s1 ⟨x,H1,I1,r1,q1⟩=>?_) hs hw
 rw [h1]
 exact thn (hg pins s1 σ H1 x v _ I1 r1 q1) fun _ s2 q=>q
theorem Fi {i:Nat} {x:Str} {e:Expr} {te:TE} {pos':Pos} (hN:X.N.Nodup) (hi:X.N[i]? = some x) (hx:Loc X.env.scope x) (he:PE X e te) (hs:swapsWith e (some (.Name x pos')) pos.line X.env = pure false:=by rfl) (hf:X.fn x = true \/ X.env.scope.names.lookup x = some .local:=by first | exact .inl rfl | exact .inr rfl | assumption):
  PS X (.Assign [.Name x pos'] e pos) (sk te (kh i)):=by
 intro pins s σ H D I h
 refine wpAny_Assign_Name (thn (he pins s σ H _ I h) fun v s1 ⟨y,H1,I1,r1,q1⟩=>?_) hs
 exact i6 I1 hN hi hx r1 (fun s2 I2=>⟨_,H1,I2,q1⟩) hf
noncomputable def Dc (i:Nat) (te:TE) (ti:TIp):TS:=fun D σ H=>∃ x,σ[i]? = some (some x) /\ te σ H fun y H1=>ti x y H1 fun z H2=>D.nx (σ.set i (some z)) H2
theorem ES {i:Nat} {x:Str} {e:Expr} {te:TE} {op:Operator} {ti:TIp} {pos':Pos} (hN:X.N.Nodup) (hi:X.N[i]? = some x) (hx:Loc X.env.scope x) (he:PE X e te) (ho:PIp X op ti) (hf:X.fn x = true \/ X.env.scope.names.lookup x = some .local:=by first | exact .inl rfl | exact .inr rfl | assumption):
  PS X (.AugAssign (.Name x pos') op e pos) (Dc i te ti):=by
 intro pins s σ H D I h
 obtain ⟨v,e1,h⟩:=h
 obtain ⟨m,hn,hl⟩:=I.loc
 have vis:Vis X.env.scope x:=by rcases hx with k | k; exact .inl k; exact .inr (.inl k)
 obtain ⟨u,r,l⟩:=hl i x v hi e1 vis
 refine wpAny_AugAssign_Name ?_
 have go:wpAny (model X.prog X.w) X.A (eval e X.env) (fun w s₂=>wpAny (model X.prog X.w) X.A (inplaceOp op u w) (fun r s₃=>wpAny (model X.prog X.w) X.A (storeName X.env x r) (fun _=>SP X pins D .next) X.xe s₃) X.xe s₂) X.xe s:=by
  refine thn (he pins s σ H _ I h) fun w s1 ⟨y,H1,I1,r1,q1⟩=>?_
  refine thn (ho pins s1 σ H1 v y u w _ I1 r r1 q1) fun z s2 ⟨zv,H2,I2,r2,q2⟩=>?_
  exact i6 I2 hN hi hx r2 (fun s3 I3=>⟨_,H2,I3,q2⟩) hf
 rcases l with ⟨hk,hm⟩ | ⟨hk,c,hc,hcell⟩
 . exact wpAny_loadName_local I.ok.kind hk hn hm go
 . rcases hk with hk | hk
   . exact wpAny_loadName_cell I.ok.kind hk hc hcell go
   . rcases hx with k | k
     . have:X.env.scope.names.lookup x = some .free:=hk
       rw [k] at this; cases this
     . have:X.env.scope.names.lookup x = some .free:=hk
       rw [k] at this; cases this
noncomputable def ipI (f:Int -> Int -> Int):TIp:=fun x y H Q=>∃ i j,x = .int i /\ y = .int j /\ Q (.int (f i j)) H
theorem mj:PIp X .Add (ipI fun i j=>i + j):=by
 intro pins s σ H x y v u Q I r1 r2 h
 obtain ⟨i,j,e1,e2,q⟩:=h
 subst e1; subst e2
 obtain ⟨t,rfl⟩:=r1
 obtain ⟨t',rfl⟩:=r2
 exact iadd_int ⟨.int _,H,I.tok _,⟨_,rfl⟩,q⟩
end
section
variable {X:Cx} {pos:Pos}
noncomputable def xr (c:TT) (tb:TS):TS:=fun D σ H=>∃ W:Nat -> St -> Hp -> Prop,(∃ m,W m σ H) /\ ∀ m σ H,W m σ H ->
 c σ H fun b H1=>if b = true then ∃ N:St -> Hp -> Prop,(∀ σ' H',N σ' H' -> ∃ m',m' < m /\ W m' σ' H') /\ tb { D with nx:=N,ct:=N,bk:=D.nx } σ H1 else D.nx σ H1
theorem Bb {c:Expr} {body:List Stmt} {tc:TT} {tb:TS} (hp:PassesOwn (model X.prog X.w) X.A X.env X.xe) (hc:PT X c tc) (hb:PSs X body tb):PS X (.While c body [] pos) (xr tc tb):=by
 intro pins s σ H D I h
 obtain ⟨W,⟨m0,w0⟩,turn⟩:=h
 refine wpAny_While (codeAny_whileLoop (fun n s'=>∃ σ' H',Inv X pins σ' H' s' /\ W n σ' H') ?_ m0 ⟨σ,H,I,w0⟩)
 rintro n s1 ⟨σ1,H1,I1,w1⟩
 refine wpAny_passesOwn hp (thn (hc pins s1 σ1 H1 _ I1 (turn n σ1 H1 w1)) fun b s2 ⟨H2,I2,q2⟩=>?_)
 cases b with
 | true=>
   obtain ⟨N,hN,q2⟩:=q2
   rw [if_pos rfl]
   refine wpAny_passesOwn hp (thn (hb pins s2 σ1 H2 _ I2 q2) fun f s3 q3=>?_)
   cases f with
   | next=>
     obtain ⟨σ3,H3,I3,n3⟩:=q3
     obtain ⟨m',hm,w3⟩:=hN σ3 H3 n3
     exact ⟨m',hm,σ3,H3,I3,w3⟩
   | cont=>
     obtain ⟨σ3,H3,I3,n3⟩:=q3
     obtain ⟨m',hm,w3⟩:=hN σ3 H3 n3
     exact ⟨m',hm,σ3,H3,I3,w3⟩
   | brk=>exact q3
   | ret v=>exact q3
 | false=>
   rw [if_neg Bool.false_ne_true]
   exact wpAny_execs_nil ⟨σ1,H2,I2,q2⟩
end
structure It where
 go:Nat -> Hp -> Prop
 yld:Nat -> Hp -> V -> Hp -> Prop
 stop:Nat -> Hp -> Prop
noncomputable def mR (X:Cx) (pins:List (Addr × Obj)) (H:Hp) (b:Addr):Prop:=
 H b = none /\ b ≠ X.env.locals /\ b ∉ X.fs /\ (b ∈ X.ex \/ X.s₀.heap.objs.size <= b) /\ (∀ x c,X.env.cells.lookup x = some c -> c ≠ b) /\ ∀ p ∈ X.pn ++ pins,p.1 ≠ b
theorem Inv.yU {X:Cx} {pins:List (Addr × Obj)} {σ:St} {H H':Hp} {s:Shared} {b:Addr} (I:Inv X pins σ H s) (hb:s.heap.objs.size <= b) (hn:H' b = none):mR X pins H' b:=by
 refine ⟨hn,Nat.ne_of_gt (Nat.lt_of_lt_of_le I.lt hb),I.Ie hb,.inr (Nat.le_trans I.sz hb),fun x c e z=>?_,fun p hp z=>?_⟩
 . obtain ⟨v,q⟩:=I.cell x c e
   exact absurd (Nat.lt_of_lt_of_le q.lt (by rw [z]; exact hb)) (Nat.lt_irrefl _)
 . exact absurd (Nat.lt_of_lt_of_le (Heap.lt_size (I.pin p hp).1) (by rw [z]; exact hb)) (Nat.lt_irrefl _)
structure Turn (P:Program) (w:World) (K:PySem.W.Frag) (tg:Expr) (J:It) (fp:List Addr) (it:Addr) (tn:Nat -> Heap -> Prop):Prop where
 mem:it ∈ fp
 obj:∀ i h,tn i h -> ∀ b ∈ fp,∃ o,h.get? b = some o /\ ∀ v,o.data ≠ .cell v
 keep:∀ i h h',tn i h -> (∀ b ∈ fp,∀ o,h.get? b = some o -> h'.get? b = some o) -> tn i h'
 item:∀ (X:Cx),X.prog = P -> X.w = w -> X.K = K -> X.calm = true -> ∀ (i:Nat) (pins:List (Addr × Obj)) (s:Shared) (σ:St) (H:Hp) (E:Value -> Shared -> Prop),Inv X pins σ H s -> (∀ b ∈ fp,mR X pins H b) -> tn i s.heap -> J.go i H ->
  wpAny (model P w) X.A (pyNext (.ref it)) (fun r s1=>∃ u,r = some u /\
   wpAny (model P w) X.A (letOwnedTupleGo tg (.ref it) u) (fun _ s2=>∃ x H',Inv X pins σ H' s2 /\ RelV x u /\ J.yld i H x H' /\ tn (i + 1) s2.heap /\ ∀ b ∈ fp,H' b = none) E s1) E s
 done:∀ (X:Cx),X.prog = P -> X.w = w -> X.K = K -> X.calm = true -> ∀ (i:Nat) (pins:List (Addr × Obj)) (s:Shared) (σ:St) (H:Hp) (E:Value -> Shared -> Prop),Inv X pins σ H s -> (∀ b ∈ fp,mR X pins H b) -> tn i s.heap -> J.stop i H ->
  wpAny (model P w) X.A (pyNext (.ref it)) (fun r s1=>r = none /\ Inv X pins σ H s1) E s
 self:∀ (A:Around) (i:Nat) (s:Shared) (Q:Value -> Shared -> Prop) (E:Value -> Shared -> Prop),tn i s.heap -> Q (.ref it) s -> wpAny (model P w) A (pyIter (.ref it)) Q E s
abbrev TI:=St -> Hp -> (It -> Hp -> Prop) -> Prop
noncomputable def PIE (X:Cx) (pins:List (Addr × Obj)) (σ:St) (tg:Expr) (R:It -> Hp -> Prop) (itv:Value) (s2:Shared):Prop:=
 ∃ (it:Addr) (fp:List Addr) (tn:Nat -> Heap -> Prop) (J:It) (H':Hp),itv = .ref it /\ Inv X pins σ H' s2 /\ Turn X.prog X.w X.K tg J fp it tn /\ tn 0 s2.heap /\ (∀ b ∈ fp,mR X pins H' b) /\ R J H'
noncomputable def PI (X:Cx) (tg iter:Expr) (wi:TI):Prop:=
 ∀ (pins:List (Addr × Obj)) (s:Shared) (σ:St) (H:Hp) (R:It -> Hp -> Prop),Inv X pins σ H s -> wi σ H R ->
   wpAny (model X.prog X.w) X.A (eval iter X.env) (fun v s1=>wpAny (model X.prog X.w) X.A (pyIter v) (PIE X pins σ tg R) X.xe s1) X.xe s
theorem yp {M:Model} {A:Around} {E:Value -> Shared -> Prop} {s:Shared} {tg:Expr} {it:Addr} {u:Value} {o:Obj} {n:String} {vs:Array Value} {Q:Unit -> Shared -> Prop} (ho:s.heap.get? it = some o) (hc:o.cls = .type n) (hd:o.data = .fields vs)
  (hn:["enumerate","zip","dict_itemiterator","dict_reverseitemiterator","odict_iterator","itertools.zip_longest","itertools.pairwise"].contains n = false) (hQ:Q () s):wpAny M A (letOwnedTupleGo tg (.ref it) u) Q E s:=by
 unfold letOwnedTupleGo
 cases tg <;> first
  | exact wpAny_pure hQ
  | (cases u <;> first
      | exact wpAny_pure hQ
      | (refine wpAny_bind (wpAny_load ho ?_)
         rw [hc,hd]
         show wpAny M A (if (["enumerate","zip","dict_itemiterator","dict_reverseitemiterator","odict_iterator","itertools.zip_longest","itertools.pairwise"].contains n && vs[0]? == some (rawInt _)) = true then _ else _) Q E s
         rw [if_neg (by intro h; rw [hn,Bool.false_and] at h; cases h)]
         exact wpAny_pure hQ))
noncomputable def Itl (K:PySem.W.Frag) (a:Addr):It:=
 ⟨fun i H=>∃ xs x,SqL K H a xs /\ xs[i]? = some x,fun i H x H'=>H' = H /\ ∀ xs,SqL K H a xs -> xs[i]? = some x,fun i H=>∃ xs,SqL K H a xs /\ xs.length <= i⟩
noncomputable def Itt (K:PySem.W.Frag) (a:Addr):It:=
 ⟨fun i H=>∃ xs x,SqT K H a xs /\ xs[i]? = some x,fun i H x H'=>H' = H /\ ∀ xs,SqT K H a xs -> xs[i]? = some x,fun i H=>∃ xs,SqT K H a xs /\ xs.length <= i⟩
noncomputable def Itr (lo:Int) (n:Nat):It:=⟨fun i _=>i < n,fun i H x H'=>H' = H /\ x = .int (lo + i),fun i _=>n <= i⟩
theorem y7 {P:Program} {w:World} {K:PySem.W.Frag} {tg:Expr} (a it:Addr):Turn P w K tg (Itl K a) [it] it (fun i h=>h.IsListIter it a i) where
 mem:=by simp
 obj:=fun i h st b hb=>by
  have e:b = it:=by simpa using hb
  subst e
  obtain ⟨o,e,c,d⟩:=st
  exact ⟨o,e,fun v z=>by rw [d] at z; cases z⟩
 keep:=fun i h h' st k=>st.at fun o e=>k it (by simp) o e
 item:=by
  intro X hP hw hK hc i pins s σ H E I hf st hg
  subst hP hw hK
  obtain ⟨xs,x,hq,hx⟩:=hg
  obtain ⟨its,rv,p,hz⟩:=I.list hq
  obtain ⟨u,hu,ru⟩:=rv.get hx
  obtain ⟨f0,f1,f2,f3,f4,f5⟩:=hf it (by simp)
  refine wpAny_pyNext_list_item st p.isList (x:=u) (by simpa using hu) fun h' st' sb=>?_
  have I1:Inv X pins σ H { s with heap:=h' }:=I.turned (t':=s.toks) (fun b o hb e=>(sb.2 b hb).trans e) f0 f1 f3 f4 f5
  obtain ⟨o,e,c,d⟩:=id st'
  exact ⟨u,rfl,yp (s:={ s with heap:=h' }) e c d (by decide) ⟨x,H,I1,ru,⟨rfl,fun ys hy=>by rw [I.vH hy hq]; exact hx⟩,st',fun b hb=>(hf b hb).1⟩⟩
 done:=by
  intro X hP hw hK hc i pins s σ H E I hf st hg
  subst hP hw hK
  obtain ⟨xs,hq,hx⟩:=hg
  obtain ⟨its,rv,p,hz⟩:=I.list hq
  obtain ⟨f0,f1,f2,f3,f4,f5⟩:=hf it (by simp)
  have hl:=rv.length
  exact wpAny_pyNext_list_end (I.ok.hd hc) st p.isList (by simp; omega) fun h' eb=>⟨rfl,I.turned (t':=s.toks) (fun b o hb e=>eb b o hb e) f0 f1 f3 f4 f5⟩
 self:=fun _ _ _ _ _ st h=>wpAny_pyIter_listiter st h
theorem xE {P:Program} {w:World} {K:PySem.W.Frag} {tg:Expr} (a it:Addr):Turn P w K tg (Itt K a) [it] it (fun i h=>h.IsTupleIter it a i) where
 mem:=by simp
 obj:=fun i h st b hb=>by
  have e:b = it:=by simpa using hb
  subst e
  obtain ⟨o,e,c,d⟩:=st
  exact ⟨o,e,fun v z=>by rw [d] at z; cases z⟩
 keep:=fun i h h' st k=>st.at fun o e=>k it (by simp) o e
 item:=by
  intro X hP hw hK hc i pins s σ H E I hf st hg
  subst hP hw hK
  obtain ⟨xs,x,hq,hx⟩:=hg
  obtain ⟨its,rv,p,hz⟩:=I.tuple hq
  obtain ⟨u,hu,ru⟩:=rv.get hx
  obtain ⟨f0,f1,f2,f3,f4,f5⟩:=hf it (by simp)
  refine wpAny_pyNext_tuple_item st (show s.heap.IsTuple a its.toArray from p) (x:=u) (by simpa using hu) fun h' st' sb=>?_
  have I1:Inv X pins σ H { s with heap:=h' }:=I.turned (t':=s.toks) (fun b o hb e=>(sb.2 b hb).trans e) f0 f1 f3 f4 f5
  obtain ⟨o,e,c,d⟩:=id st'
  exact ⟨u,rfl,yp (s:={ s with heap:=h' }) e c d (by decide) ⟨x,H,I1,ru,⟨rfl,fun ys hy=>by rw [I.yT hy hq]; exact hx⟩,st',fun b hb=>(hf b hb).1⟩⟩
 done:=by
  intro X hP hw hK hc i pins s σ H E I hf st hg
  subst hP hw hK
  obtain ⟨xs,hq,hx⟩:=hg
  obtain ⟨its,rv,p,hz⟩:=I.tuple hq
  obtain ⟨f0,f1,f2,f3,f4,f5⟩:=hf it (by simp)
  have hl:=rv.length
  exact wpAny_pyNext_tuple_end (I.ok.hd hc) st (show s.heap.IsTuple a its.toArray from p) (by simp; omega) fun h' eb=>⟨rfl,I.turned (t':=s.toks) (fun b o hb e=>eb b o hb e) f0 f1 f3 f4 f5⟩
 self:=fun _ _ _ _ _ st h=>wpAny_pyIter_tupleiter st h
theorem xq {P:Program} {w:World} {K:PySem.W.Frag} {tg:Expr} (it:Addr) (lo:Int) (n:Nat):Turn P w K tg (Itr lo n) [it] it (fun i h=>IsRangeIter h it (lo + (i:Nat) * 1) ((n:Int) - (i:Nat)) 1) where
 mem:=by simp
 obj:=fun i h st b hb=>by
  have e:b = it:=by simpa using hb
  subst e
  exact ⟨_,st,fun v z=>by
   have z':Data.fields _ = Data.cell v:=z
   cases z'⟩
 keep:=fun i h h' st k=>k it (by simp) _ st
 item:=by
  intro X hP hw hK hc i pins s σ H E I hf st hg
  subst hP hw hK
  obtain ⟨f0,f1,f2,f3,f4,f5⟩:=hf it (by simp)
  have W:=Walks.range (prog:=X.prog) (w:=X.w) (I.ok.hd hc) it lo 1 n
  refine W.item i s _ _ hg st fun v h' tk hv st' kk=>?_
  obtain ⟨t,rfl⟩:=hv
  have I1:Inv X pins σ H { s with heap:=h',toks:=tk }:=I.turned (fun b o hb e=>kk b o (by simpa using hb) e) f0 f1 f3 f4 f5
  refine ⟨_,rfl,yp (s:={ s with heap:=h',toks:=tk }) (n:="range_iterator") st' rfl rfl (by decide) ⟨.int (lo + i),H,I1,⟨t,?_⟩,⟨rfl,rfl⟩,st',fun b hb=>(hf b hb).1⟩⟩
  rw [Int.mul_one]
 done:=by
  intro X hP hw hK hc i pins s σ H E I hf st hg
  subst hP hw hK
  obtain ⟨f0,f1,f2,f3,f4,f5⟩:=hf it (by simp)
  exact wpAny_pyNext_range_end (I.ok.hd hc) st (by have:n <= i:=hg; omega) fun h' eb=>⟨rfl,I.turned (t':=s.toks) (fun b o hb e=>eb b o hb e) f0 f1 f3 f4 f5⟩
 self:=fun _ _ _ _ _ st h=>wpAny_pyIter_rangeiter st h
end L2
namespace L2
open PySem PySem.Spec PyProof.Rows
section
variable {X:Cx} {tg:Expr}
noncomputable def v8 (K:PySem.W.Frag) (tl:TE):TI:=fun σ H R=>tl σ H fun x H1=>∃ a,x = .ref a /\ (∃ xs,SqL K H1 a xs) /\ R (Itl K a) H1
noncomputable def Eu (K:PySem.W.Frag) (tl:TE):TI:=fun σ H R=>tl σ H fun x H1=>∃ a,x = .ref a /\ (∃ xs,SqT K H1 a xs) /\ R (Itt K a) H1
theorem CA {l:Expr} {tl:TE} (hl:PE X l tl):PI X tg l (v8 X.K tl):=by
 intro pins s σ H R I h
 refine thn (hl pins s σ H _ I h) fun v s1 ⟨x,H1,I1,r1,q1⟩=>?_
 obtain ⟨a,e,⟨xs,hq⟩,q⟩:=q1
 subst e
 cases r1
 obtain ⟨its,rv,p,hz⟩:=I1.list hq
 refine wpAny_pyIter_list p.isList ?_
 refine ⟨s1.heap.objs.size,[s1.heap.objs.size],_,_,H1,rfl,I1.kept (t':=s1.toks) fun b o e=>Heap.get?_push_of_some _ e,y7 a _,⟨_,Heap.get?_push_size _ rfl,rfl,rfl⟩,fun b hb=>?_,q⟩
 have e:b = s1.heap.objs.size:=by simpa using hb
 subst e
 exact I1.yU (Nat.le_refl _) (I1.hok.fresh (Nat.le_refl _))
theorem Ex {l:Expr} {tl:TE} (hl:PE X l tl):PI X tg l (Eu X.K tl):=by
 intro pins s σ H R I h
 refine thn (hl pins s σ H _ I h) fun v s1 ⟨x,H1,I1,r1,q1⟩=>?_
 obtain ⟨a,e,⟨xs,hq⟩,q⟩:=q1
 subst e
 cases r1
 obtain ⟨its,rv,p,hz⟩:=I1.tuple hq
 refine wpAny_pyIter_tuple (show s1.heap.IsTuple a its.toArray from p) ?_
 refine ⟨s1.heap.objs.size,[s1.heap.objs.size],_,_,H1,rfl,I1.kept (t':=s1.toks) fun b o e=>Heap.get?_push_of_some _ e,xE a _,⟨_,Heap.get?_push_size _ rfl,rfl,rfl⟩,fun b hb=>?_,q⟩
 have e:b = s1.heap.objs.size:=by simpa using hb
 subst e
 exact I1.yU (Nat.le_refl _) (I1.hok.fresh (Nat.le_refl _))
theorem zY {pins:List (Addr × Obj)} {σ:St} {H:Hp} {s:Shared} {R:It -> Hp -> Prop} {E:Value -> Shared -> Prop} {lo hi:Int} {t u v:Tok} {tk:Nat} (I:Inv X pins σ H s) (h1:-(2 ^ 62) <= lo) (h2:lo < 2 ^ 62) (h3:-(2 ^ 62) <= hi) (h4:hi < 2 ^ 62)
  (q:R (Itr lo (hi - lo).toNat) H):wpAny (model X.prog X.w) X.A (pyIter (.ref s.heap.objs.size)) (PIE X pins σ tg R) E { s with heap:=s.heap.push { cls:=.type "range",data:=.fields #[.int lo t,.int hi u,.int 1 v] },toks:=tk }:=by
 refine wpAny_pyIter_range (IsRange.new ..) (small_one h1 h2 h3 h4) ?_
 have I1:Inv X pins σ H { s with heap:=s.heap.push { cls:=.type "range",data:=.fields #[.int lo t,.int hi u,.int 1 v] },toks:=tk }:=I.kept fun b o e=>Heap.get?_push_of_some _ e
 refine ⟨(s.heap.push { cls:=.type "range",data:=.fields #[.int lo t,.int hi u,.int 1 v] }).objs.size,[(s.heap.push { cls:=.type "range",data:=.fields #[.int lo t,.int hi u,.int 1 v] }).objs.size],_,_,H,rfl,
  I1.kept (t':=tk) fun b o e=>Heap.get?_push_of_some _ e,xq _ lo (hi - lo).toNat,?_,fun b hb=>?_,q⟩
 . have e1:lo + ((0:Nat):Int) * 1 = lo:=by simp
   have e2:(((hi - lo).toNat:Nat):Int) - ((0:Nat):Int) = Builtin.Range.rangeSize lo hi 1:=by rw [rangeSize_one]; split <;> omega
   show IsRangeIter _ _ (lo + ((0:Nat):Int) * 1) ((((hi - lo).toNat:Nat):Int) - ((0:Nat):Int)) 1
   rw [e1,e2]
   exact Heap.get?_push_size _ rfl
 . have e:b = (s.heap.push { cls:=.type "range",data:=.fields #[.int lo t,.int hi u,.int 1 v] }).objs.size:=by simpa using hb
   subst e
   exact I1.yU (Nat.le_refl _) (I1.hok.fresh (Nat.le_refl _))
noncomputable def x4 (ta:TA):TI:=fun σ H R=>ta σ H fun vs H1=>∃ j:Int,vs = [.int j] /\ -(2 ^ 62) <= j /\ j < 2 ^ 62 /\ R (Itr 0 j.toNat) H1
theorem yO {a:Expr} {ta:TA} {p pos:Pos} (hg:Gl X "range") (hm:X.mg "range" = none) (ha:PA X [a] ta) (hs:starEach [a] X.env = [(false,eval a X.env)]:=by rfl):PI X tg (.Call (.Name "range" p) [a] [] pos) (x4 ta):=by
 intro pins s σ H R I h
 refine Call_ (qG I hg hm boot_range (PyProof.Rows.callWith_type1 (thn (ha pos pins s σ H _ I h) fun us s1 ⟨vs,H1,I1,r1,q1⟩=>?_) hs rfl))
 obtain ⟨j,e,q1,q2,q⟩:=q1
 subst e
 cases r1 with
 | cons r rr=>
   cases rr
   obtain ⟨t,rfl⟩:=r
   exact call_range_1 (zY I1 (by omega) (by omega) q1 q2 (by simpa using q))
noncomputable def Ap (wi:TI) (g:TG) (tb:TS):TS:=fun D σ H=>wi σ H fun J H1=>∃ W:Nat -> Nat -> St -> Hp -> Prop,(∃ m,W 0 m σ H1) /\ ∀ i m σ H,W i m σ H ->
 (J.stop i H /\ D.nx σ H) \/ (J.go i H /\ ∃ N:St -> Hp -> Prop,(∀ σ' H',N σ' H' -> ∃ m',m' < m /\ W (i + 1) m' σ' H') /\ ∀ x H',J.yld i H x H' -> g x σ H' fun σ2 H2=>tb { D with nx:=N,ct:=N,bk:=D.nx } σ2 H2)
noncomputable def uU (fp:List Addr) (h:Heap):List (Addr × Obj):=fp.filterMap fun b=>(h.get? b).map fun o=>(b,o)
theorem eO {fp:List Addr} {h:Heap} {b:Addr} {o:Obj} (hb:b ∈ fp) (e:h.get? b = some o):(b,o) ∈ uU fp h:=List.mem_filterMap.mpr ⟨b,hb,by rw [e]; rfl⟩
theorem ze {fp:List Addr} {h:Heap} {p:Addr × Obj} (hp:p ∈ uU fp h):p.1 ∈ fp /\ h.get? p.1 = some p.2:=by
 obtain ⟨b,hb,e⟩:=List.mem_filterMap.mp hp
 cases q:h.get? b with
 | none=>rw [q] at e; cases e
 | some o=>
   rw [q] at e
   have e':(b,o) = p:=Option.some.inj e
   subst e'
   exact ⟨hb,q⟩
theorem Inv.pinned {pins:List (Addr × Obj)} {σ:St} {H:Hp} {s:Shared} {fp:List Addr} (I:Inv X pins σ H s) (hf:∀ b ∈ fp,mR X pins H b) (ho:∀ b ∈ fp,∃ o,s.heap.get? b = some o /\ ∀ v,o.data ≠ .cell v):Inv X (pins ++ uU fp s.heap) σ H s:=
 I.yk fun p hp=>(List.mem_append.mp hp).elim (fun z=>I.pin p (List.mem_append_right _ z)) fun z=>by
  obtain ⟨hb,e⟩:=ze z
  obtain ⟨f0,f1,f2,_⟩:=hf p.1 hb
  obtain ⟨o,e',d⟩:=ho p.1 hb
  rw [e] at e'; cases e'
  exact ⟨e,f0,f1,f2,d⟩
theorem Inv.i4 {pins pl:List (Addr × Obj)} {σ:St} {H:Hp} {s:Shared} (I:Inv X (pins ++ pl) σ H s):Inv X pins σ H s:=I.yk fun p hp=>I.pin p (List.mem_append_right _ (List.mem_append_left _ hp))
theorem FE {iter:Expr} {body:List Stmt} {wi:TI} {g:TG} {tb:TS} {pos:Pos} (hp:PassesOwn (model X.prog X.w) X.A X.env X.xe) (hc:X.calm = true) (hi:PI X tg iter wi) (hg:PG X tg g) (hb:PSs X body tb)
  (hs:∀ x,foldedSetIterable iter X.env x = pure x:=by intro _; rfl):PS X (.For tg iter body [] pos) (Ap wi g tb):=by
 intro pins s σ H D I h
 refine wpAny_For (thn (hi pins s σ H _ I h) fun v s1 h1=>thn h1 fun itv s2 h2=>?_) hs
 obtain ⟨it,fp,tn,J,H2,e,I2,T,st2,f2,W,⟨m0,w0⟩,turn⟩:=h2
 subst e
 have stat:∀ {H':Hp},(∀ b ∈ fp,H' b = none) -> ∀ b ∈ fp,mR X pins H' b:=fun hn b hb=>⟨hn b hb,(f2 b hb).2⟩
 refine codeAny_forLoop_any (fun n s'=>∃ i σ' H',Inv X pins σ' H' s' /\ tn i s'.heap /\ (∀ b ∈ fp,H' b = none) /\ W i n σ' H') ?_ m0 ⟨0,σ,H2,I2,st2,fun b hb=>(f2 b hb).1,w0⟩
 rintro n s3 ⟨i,σ3,H3,I3,st3,fr3,w3⟩
 rcases turn i n σ3 H3 w3 with ⟨stop,qn⟩ | ⟨go,N,hN,step⟩
 . refine wpAny_passesOwn hp (thn (T.done X rfl rfl rfl hc i pins s3 σ3 H3 X.xe I3 (stat fr3) st3 stop) fun r s4 ⟨hr,I4⟩=>?_)
   subst hr
   exact wpAny_execs_nil ⟨σ3,H3,I4,qn⟩
 . refine wpAny_passesOwn hp (thn (T.item X rfl rfl rfl hc i pins s3 σ3 H3 X.xe I3 (stat fr3) st3 go) fun r s4 ⟨u,hr,h4⟩=>?_)
   subst hr
   refine wpAny_passesOwn hp (thn h4 fun _ s5 ⟨x,H5,I5,r5,y5,st5,fr5⟩=>?_)
   have I5':=I5.pinned (stat fr5) (T.obj _ _ st5)
   refine wpAny_passesOwn hp (thn (hg _ s5 σ3 H5 x u _ I5' r5 (step x H5 y5)) fun _ s6 ⟨σ6,H6,I6,q6⟩=>?_)
   refine wpAny_passesOwn hp (thn (hb _ s6 σ6 H6 _ I6 q6) fun f s7 q7=>?_)
   have again:∀ {σ7:St} {H7:Hp},Inv X (pins ++ uU fp s5.heap) σ7 H7 s7 -> N σ7 H7 -> ∃ m,m < n /\ ∃ i σ' H',Inv X pins σ' H' s7 /\ tn i s7.heap /\ (∀ b ∈ fp,H' b = none) /\ W i m σ' H':=fun {σ7 H7} I7 n7=>by
    obtain ⟨m',hm,w7⟩:=hN σ7 H7 n7
    refine ⟨m',hm,i + 1,σ7,H7,I7.i4,T.keep _ _ _ st5 fun b hb o e=>(I7.pin (b,o) (List.mem_append_right _ (List.mem_append_right _ (eO hb e)))).1,fun b hb=>?_,w7⟩
    obtain ⟨o,e,d⟩:=T.obj _ _ st5 b hb
    exact (I7.pin (b,o) (List.mem_append_right _ (List.mem_append_right _ (eO hb e)))).2.1
   cases f with
   | next=>obtain ⟨σ7,H7,I7,n7⟩:=q7; exact again I7 n7
   | cont=>obtain ⟨σ7,H7,I7,n7⟩:=q7; exact again I7 n7
   | brk=>obtain ⟨σ7,H7,I7,q7⟩:=q7; exact ⟨σ7,H7,I7.i4,q7⟩
   | ret v=>obtain ⟨x7,σ7,H7,I7,r7,q7⟩:=q7; exact ⟨x7,σ7,H7,I7.i4,r7,q7⟩
end
theorem AW {K:PySem.W.Frag} {a:Addr} {xs:List V} {g:TG} {tb:TS} {D:Ends} {σ:St} {H:Hp} (Pv:Nat -> St -> Hp -> Prop) (h0:Pv 0 σ H) (hl:∀ i σ H,i <= xs.length -> Pv i σ H -> SqL K H a xs)
  (hs:∀ i x σ H,xs[i]? = some x -> Pv i σ H -> g x σ H fun σ2 H2=>tb { D with nx:=Pv (i + 1),ct:=Pv (i + 1),bk:=D.nx } σ2 H2) (hd:∀ σ H,Pv xs.length σ H -> D.nx σ H):
  ∃ W:Nat -> Nat -> St -> Hp -> Prop,(∃ m,W 0 m σ H) /\ ∀ i m σ H,W i m σ H ->
    ((Itl K a).stop i H /\ D.nx σ H) \/ ((Itl K a).go i H /\ ∃ N:St -> Hp -> Prop,(∀ σ' H',N σ' H' -> ∃ m',m' < m /\ W (i + 1) m' σ' H') /\ ∀ x H',(Itl K a).yld i H x H' -> g x σ H' fun σ2 H2=>tb { D with nx:=N,ct:=N,bk:=D.nx } σ2 H2):=by
 refine ⟨fun i m σ H=>m = xs.length - i /\ i <= xs.length /\ Pv i σ H,⟨xs.length,by simp,Nat.zero_le _,h0⟩,?_⟩
 rintro i m σ H ⟨rfl,hi,p⟩
 have q:=hl i σ H hi p
 by_cases hlt:i < xs.length
 . refine .inr ⟨⟨xs,xs[i],q,by simp [hlt]⟩,Pv (i + 1),fun σ' H' p'=>⟨xs.length - (i + 1),by omega,rfl,hlt,p'⟩,fun x H' y=>?_⟩
   obtain ⟨e,y⟩:=y
   subst e
   exact hs i x σ _ (y xs q) p
 . have e:i = xs.length:=by omega
   subst e
   exact .inl ⟨⟨xs,q,Nat.le_refl _⟩,hd σ H p⟩
theorem yM {lo:Int} {n:Nat} {g:TG} {tb:TS} {D:Ends} {σ:St} {H:Hp} (Pv:Nat -> St -> Hp -> Prop) (h0:Pv 0 σ H)
  (hs:∀ i σ H,i < n -> Pv i σ H -> g (.int (lo + i)) σ H fun σ2 H2=>tb { D with nx:=Pv (i + 1),ct:=Pv (i + 1),bk:=D.nx } σ2 H2) (hd:∀ σ H,Pv n σ H -> D.nx σ H):
  ∃ W:Nat -> Nat -> St -> Hp -> Prop,(∃ m,W 0 m σ H) /\ ∀ i m σ H,W i m σ H ->
    ((Itr lo n).stop i H /\ D.nx σ H) \/ ((Itr lo n).go i H /\ ∃ N:St -> Hp -> Prop,(∀ σ' H',N σ' H' -> ∃ m',m' < m /\ W (i + 1) m' σ' H') /\ ∀ x H',(Itr lo n).yld i H x H' -> g x σ H' fun σ2 H2=>tb { D with nx:=N,ct:=N,bk:=D.nx } σ2 H2):=by
 refine ⟨fun i m σ H=>m = n - i /\ i <= n /\ Pv i σ H,⟨n,by simp,Nat.zero_le _,h0⟩,?_⟩
 rintro i m σ H ⟨rfl,hi,p⟩
 by_cases hlt:i < n
 . refine .inr ⟨hlt,Pv (i + 1),fun σ' H' p'=>⟨n - (i + 1),by omega,rfl,hlt,p'⟩,fun x H' y=>?_⟩
   obtain ⟨e,y⟩:=y
   subst e y
   exact hs i σ _ hlt p
 . have e:i = n:=by omega
   subst e
   exact .inl ⟨Nat.le_refl _,hd σ H p⟩
end L2
namespace L2
open PySem PySem.Spec PyProof.Rows
abbrev R2:=V -> V -> Hp -> VK -> Prop
noncomputable def OpR (X:Cx) (f:Value -> Value -> Sem Value) (r:R2):Prop:=
 ∀ (pins:List (Addr × Obj)) (s:Shared) (σ:St) (H:Hp) (x y:V) (v u:Value) (Q:VK),Inv X pins σ H s -> RelV x v -> RelV y u -> r x y H Q ->
   wpAny (model X.prog X.w) X.A (f v u) (EP X pins σ Q) X.xe s
noncomputable def UnR (X:Cx) (f:Value -> Sem Value) (r:V -> Hp -> VK -> Prop):Prop:=
 ∀ (pins:List (Addr × Obj)) (s:Shared) (σ:St) (H:Hp) (x:V) (v:Value) (Q:VK),Inv X pins σ H s -> RelV x v -> r x H Q ->
   wpAny (model X.prog X.w) X.A (f v) (EP X pins σ Q) X.xe s
noncomputable def mw (X:Cx) (f:Value) (r:List V -> Hp -> VK -> Prop):Prop:=
 ∀ (pins:List (Addr × Obj)) (s:Shared) (σ:St) (H:Hp) (xs:List V) (us:List Value) (Q:VK),Inv X pins σ H s -> Vals xs us -> r xs H Q ->
   wpAny (model X.prog X.w) X.A (call f us) (EP X pins σ Q) X.xe s
noncomputable def Jo (X:Cx) (r:V -> Hp -> (Bool -> Hp -> Prop) -> Prop):Prop:=
 ∀ (pins:List (Addr × Obj)) (s:Shared) (σ:St) (H:Hp) (x:V) (v:Value) (Q:Bool -> Hp -> Prop),Inv X pins σ H s -> RelV x v -> r x H Q ->
   wpAny (model X.prog X.w) X.A (truthy v) (TP X pins σ Q) X.xe s
noncomputable def tOp (r:R2) (ta tb:TE):TE:=fun σ H Q=>ta σ H fun x H1=>tb σ H1 fun y H2=>r x y H2 Q
noncomputable def tUn (r:V -> Hp -> VK -> Prop) (ta:TE):TE:=fun σ H Q=>ta σ H fun x H1=>r x H1 Q
noncomputable def rI (C:Int -> Int -> Prop) (g:Int -> Int -> V):R2:=fun x y H Q=>∃ i j,x = .int i /\ y = .int j /\ C i j /\ Q (g i j) H
noncomputable def rI0 (g:Int -> Int -> V):R2:=fun x y H Q=>∃ i j,x = .int i /\ y = .int j /\ Q (g i j) H
noncomputable def rU (g:Int -> V):V -> Hp -> VK -> Prop:=fun x H Q=>∃ i,x = .int i /\ Q (g i) H
section
variable {X:Cx} {a b c:Expr} {ta tb tc:TE} {pos:Pos}
theorem Ft (ha:PE X a ta) (hb:PE X b tb) {pins:List (Addr × Obj)} {s:Shared} {σ:St} {H:Hp} {R:V -> V -> Hp -> Prop} (I:Inv X pins σ H s)
  (h:ta σ H fun x H1=>tb σ H1 fun y H2=>R x y H2) {Q:Value -> Shared -> Prop} {f:Value -> Value -> Sem Value}
  (hf:∀ v u s2 x y H2,Inv X pins σ H2 s2 -> RelV x v -> RelV y u -> R x y H2 -> wpAny (model X.prog X.w) X.A (f v u) Q X.xe s2):
  wpAny (model X.prog X.w) X.A (eval a X.env) (fun v s₁=>wpAny (model X.prog X.w) X.A (eval b X.env) (fun u s₂=>wpAny (model X.prog X.w) X.A (f v u) Q X.xe s₂) X.xe s₁) X.xe s:=by
 refine thn (ha pins s σ H _ I h) fun v s1 ⟨x,H1,I1,r1,q1⟩=>?_
 refine thn (hb pins s1 σ H1 _ I1 q1) fun u s2 ⟨y,H2,I2,r2,q2⟩=>?_
 exact hf v u s2 x y H2 I2 r1 r2 q2
theorem Ht {op:Operator} {r:R2} (ho:OpR X (binaryOp op) r) (ha:PE X a ta) (hb:PE X b tb):PE X (.BinOp a op b pos) (tOp r ta tb):=by
 intro pins s σ H Q I h
 exact wpAny_BinOp (Ft ha hb I h fun v u s2 x y H2 I2 rx ry q=>ho pins s2 σ H2 x y v u Q I2 rx ry q)
theorem Hl {op:UnaryOp} {r:V -> Hp -> VK -> Prop} (ho:UnR X (unaryOp op) r) (ha:PE X a ta):PE X (.UnaryOp op a pos) (tUn r ta):=by
 intro pins s σ H Q I h
 exact UnaryOp_ (thn (ha pins s σ H _ I h) fun v s1 ⟨x,H1,I1,r1,q1⟩=>ho pins s1 σ H1 x v Q I1 r1 q1)
theorem opI {f:Value -> Value -> Sem Value} {C:Int -> Int -> Prop} {g:Int -> Int -> Int}
  (rule:∀ (i j:Int) (t u:Tok) (s:Shared) (Q:Value -> Shared -> Prop) (E:Value -> Shared -> Prop),C i j -> Q (.int (g i j) s.toks) { s with toks:=s.toks + 1 } -> wpAny (model X.prog X.w) X.A (f (.int i t) (.int j u)) Q E s):
  OpR X f (rI C fun i j=>.int (g i j)):=by
 intro pins s σ H x y v u Q I rx ry h
 obtain ⟨i,j,rfl,rfl,hc,q⟩:=h
 obtain ⟨t,rfl⟩:=rx
 obtain ⟨t',rfl⟩:=ry
 exact rule i j t t' s _ _ hc ⟨.int (g i j),H,I.tok _,⟨_,rfl⟩,q⟩
theorem G2 {f:Value -> Value -> Sem Value} {g:Int -> Int -> Int}
  (rule:∀ (i j:Int) (t u:Tok) (s:Shared) (Q:Value -> Shared -> Prop) (E:Value -> Shared -> Prop),Q (.int (g i j) s.toks) { s with toks:=s.toks + 1 } -> wpAny (model X.prog X.w) X.A (f (.int i t) (.int j u)) Q E s):
  OpR X f (rI0 fun i j=>.int (g i j)):=by
 intro pins s σ H x y v u Q I rx ry h
 obtain ⟨i,j,rfl,rfl,q⟩:=h
 obtain ⟨t,rfl⟩:=rx
 obtain ⟨t',rfl⟩:=ry
 exact rule i j t t' s _ _ ⟨.int (g i j),H,I.tok _,⟨_,rfl⟩,q⟩
theorem FP {f:Value -> Value -> Sem Value} {g:Int -> Int -> Bool}
  (rule:∀ (i j:Int) (t u:Tok) (s:Shared) (Q:Value -> Shared -> Prop) (E:Value -> Shared -> Prop),Q (.bool (g i j)) s -> wpAny (model X.prog X.w) X.A (f (.int i t) (.int j u)) Q E s):
  OpR X f (rI0 fun i j=>.bl (g i j)):=by
 intro pins s σ H x y v u Q I rx ry h
 obtain ⟨i,j,rfl,rfl,q⟩:=h
 obtain ⟨t,rfl⟩:=rx
 obtain ⟨t',rfl⟩:=ry
 exact rule i j t t' s _ _ ⟨.bl (g i j),H,I,rfl,q⟩
noncomputable def Gh (i j:Int):Prop:=0 < j /\ j < 1073741824
noncomputable def BC (i j:Int):Prop:=(-(2 ^ 64) < i /\ i < 2 ^ 64) \/ (-(2 ^ 64) < j /\ j < 2 ^ 64)
theorem BC.ok {i j:Int} (h:BC i j):IntMulOk i j:=by
 rcases h with ⟨h1,h2⟩ | ⟨h1,h2⟩
 . exact .of_left (intBits_le_64 h1 h2)
 . exact .of_right (intBits_le_64 h1 h2)
theorem fm:OpR X (binaryOp .Add) (rI0 fun i j=>.int (i + j)):=G2 fun _ _ _ _ _ _ _ q=>add_int q
theorem mV:OpR X (binaryOp .Sub) (rI0 fun i j=>.int (i - j)):=G2 fun _ _ _ _ _ _ _ q=>sub_int q
theorem oa:OpR X (binaryOp .Mult) (rI BC fun i j=>.int (i * j)):=opI fun _ _ _ _ _ _ _ hc q=>mul_int q hc.ok
theorem gf:OpR X (binaryOp .FloorDiv) (rI Gh fun i j=>.int (i / j)):=opI fun i j _ _ _ _ _ hc q=>by
 have h1:(0:Int) < j:=hc.1
 have h2:j < 1073741824:=hc.2
 exact floordiv_int (by omega) (by rw [Int.fdiv_eq_ediv_of_nonneg i (by omega)]; exact q) (.inl (PyProof.noPylong_small (by omega)))
theorem eC:OpR X (binaryOp .Mod) (rI (fun _ j=>0 < j) fun i j=>.int (i % j)):=opI fun i j _ _ _ _ _ hc q=>by
 have h1:(0:Int) < j:=hc
 exact mod_int' (by omega) (by rw [Int.fmod_eq_emod_of_nonneg i (by omega)]; exact q)
theorem unI {f:Value -> Sem Value} {g:Int -> Int}
  (rule:∀ (i:Int) (t:Tok) (s:Shared) (Q:Value -> Shared -> Prop) (E:Value -> Shared -> Prop),Q (.int (g i) s.toks) { s with toks:=s.toks + 1 } -> wpAny (model X.prog X.w) X.A (f (.int i t)) Q E s):
  UnR X f (rU fun i=>.int (g i)):=by
 intro pins s σ H x v Q I rx h
 obtain ⟨i,rfl,q⟩:=h
 obtain ⟨t,rfl⟩:=rx
 exact rule i t s _ _ ⟨.int (g i),H,I.tok _,⟨_,rfl⟩,q⟩
theorem pk:UnR X (unaryOp .USub) (rU fun i=>.int (-i)):=unI fun _ _ _ _ _ q=>neg_int q
end
noncomputable def Fj:V -> V -> Bool
 | .non,.non=>true | .non,.int _=>true | .int _,.non=>true | .non,.bl _=>true | .bl _,.non=>true | .non,.str _=>true | .str _,.non=>true
 | .int _,.int _=>true | .bl _,.bl _=>true | .str _,.str _=>true | .byt _,.byt _=>true
 | .int _,.str _=>true | .str _,.int _=>true | .bl _,.str _=>true | .str _,.bl _=>true
 | _,_=>false
noncomputable def rEq:R2:=fun x y H Q=>Fj x y = true /\ Q (.bl (decide (x = y))) H
noncomputable def rNe:R2:=fun x y H Q=>Fj x y = true /\ Q (.bl (!decide (x = y))) H
theorem yw {i j:Int}:decide (V.int i = V.int j) = (i == j):=by
 rw [Bool.eq_iff_iff]
 simp
theorem AV {i j:Bool}:decide (V.bl i = V.bl j) = (i == j):=by
 rw [Bool.eq_iff_iff]
 simp
theorem yg {i j:Str}:decide (V.str i = V.str j) = (i == j):=by
 rw [Bool.eq_iff_iff]
 simp
theorem yG {i j:Array UInt8}:decide (V.byt i = V.byt j) = (i.toList == j.toList):=by
 rw [Bool.eq_iff_iff]
 cases i
 cases j
 simp
section
variable {X:Cx} {a b c:Expr} {ta tb tc:TE} {pos:Pos}
theorem cY {pins:List (Addr × Obj)} {σ:St} {H:Hp} {s:Shared} {Q:VK} {k k':Bool} (I:Inv X pins σ H s) (q:Q (.bl k) H) (e:k = k'):EP X pins σ Q (.bool k') s:=by
 subst e
 exact ⟨.bl k,H,I,rfl,q⟩
theorem cb:OpR X (compareOp .Eq) rEq:=by
 intro pins s σ H x y v u Q I rx ry h
 obtain ⟨hs,q⟩:=h
 cases x with
 | non=>
   cases rx
   cases y with
   | non=>cases ry; exact PySem.EqNone.eq_none_none (cY I q (by simp))
   | bl j=>cases ry; exact PySem.EqNone.eq_none_bool (cY I q (by simp))
   | int j=>obtain ⟨t',rfl⟩:=ry; exact PySem.EqNone.eq_none_int (cY I q (by simp))
   | str j=>obtain ⟨t',rfl⟩:=ry; exact PySem.EqNone.eq_none_str (cY I q (by simp))
   | _=>exact absurd (show false = true from hs) Bool.false_ne_true
 | bl i=>
   cases rx
   cases y with
   | non=>cases ry; exact PySem.EqNone.eq_bool_none (cY I q (by simp))
   | bl j=>cases ry; exact eq_bool (cY I q AV)
   | str j=>obtain ⟨t',rfl⟩:=ry; exact PySem.EqMixed.eq_bool_str (cY I q (by simp))
   | _=>exact absurd (show false = true from hs) Bool.false_ne_true
 | int i=>
   obtain ⟨t,rfl⟩:=rx
   cases y with
   | non=>cases ry; exact PySem.EqNone.eq_int_none (cY I q (by simp))
   | int j=>obtain ⟨t',rfl⟩:=ry; exact eq_int (cY I q yw)
   | str j=>obtain ⟨t',rfl⟩:=ry; exact PySem.EqMixed.eq_int_str (cY I q (by simp))
   | _=>exact absurd (show false = true from hs) Bool.false_ne_true
 | str i=>
   obtain ⟨t,rfl⟩:=rx
   cases y with
   | non=>cases ry; exact PySem.EqNone.eq_str_none (cY I q (by simp))
   | bl j=>cases ry; exact PySem.EqMixed.eq_str_bool (cY I q (by simp))
   | int j=>obtain ⟨t',rfl⟩:=ry; exact PySem.EqMixed.eq_str_int (cY I q (by simp))
   | str j=>obtain ⟨t',rfl⟩:=ry; exact eq_str (cY I q yg)
   | _=>exact absurd (show false = true from hs) Bool.false_ne_true
 | byt i=>
   obtain ⟨t,rfl⟩:=rx
   cases y with
   | byt j=>obtain ⟨t',rfl⟩:=ry; exact PySem.W.eq_bytes (cY I q yG)
   | _=>exact absurd (show false = true from hs) Bool.false_ne_true
 | _=>cases y <;> exact absurd (show false = true from hs) Bool.false_ne_true
theorem u9:OpR X (compareOp .NotEq) rNe:=by
 intro pins s σ H x y v u Q I rx ry h
 obtain ⟨hs,q⟩:=h
 cases x with
 | non=>
   cases rx
   cases y with
   | non=>cases ry; exact PySem.EqNone.ne_none_none (cY I q (by simp))
   | bl j=>cases ry; exact PySem.EqNone.ne_none_bool (cY I q (by simp))
   | int j=>obtain ⟨t',rfl⟩:=ry; exact PySem.EqNone.ne_none_int (cY I q (by simp))
   | str j=>obtain ⟨t',rfl⟩:=ry; exact PySem.EqNone.ne_none_str (cY I q (by simp))
   | _=>exact absurd (show false = true from hs) Bool.false_ne_true
 | bl i=>
   cases rx
   cases y with
   | non=>cases ry; exact PySem.EqNone.ne_bool_none (cY I q (by simp))
   | bl j=>cases ry; exact ne_bool (cY I q (congrArg not AV))
   | str j=>obtain ⟨t',rfl⟩:=ry; exact PySem.EqMixed.ne_bool_str (cY I q (by simp))
   | _=>exact absurd (show false = true from hs) Bool.false_ne_true
 | int i=>
   obtain ⟨t,rfl⟩:=rx
   cases y with
   | non=>cases ry; exact PySem.EqNone.ne_int_none (cY I q (by simp))
   | int j=>obtain ⟨t',rfl⟩:=ry; exact ne_int (cY I q (congrArg not yw))
   | str j=>obtain ⟨t',rfl⟩:=ry; exact PySem.EqMixed.ne_int_str (cY I q (by simp))
   | _=>exact absurd (show false = true from hs) Bool.false_ne_true
 | str i=>
   obtain ⟨t,rfl⟩:=rx
   cases y with
   | non=>cases ry; exact PySem.EqNone.ne_str_none (cY I q (by simp))
   | bl j=>cases ry; exact PySem.EqMixed.ne_str_bool (cY I q (by simp))
   | int j=>obtain ⟨t',rfl⟩:=ry; exact PySem.EqMixed.ne_str_int (cY I q (by simp))
   | str j=>obtain ⟨t',rfl⟩:=ry; exact ne_str (cY I q (congrArg not yg))
   | _=>exact absurd (show false = true from hs) Bool.false_ne_true
 | byt i=>
   obtain ⟨t,rfl⟩:=rx
   cases y with
   | byt j=>obtain ⟨t',rfl⟩:=ry; exact PySem.W.ne_bytes (cY I q (congrArg not yG))
   | _=>exact absurd (show false = true from hs) Bool.false_ne_true
 | _=>cases y <;> exact absurd (show false = true from hs) Bool.false_ne_true
theorem ly:OpR X (compareOp .Lt) (rI0 fun i j=>.bl (decide (i < j))):=FP fun _ _ _ _ _ _ _ q=>lt_int q
theorem kr:OpR X (compareOp .LtE) (rI0 fun i j=>.bl (decide (i <= j))):=FP fun _ _ _ _ _ _ _ q=>le_int q
theorem G9:OpR X (compareOp .GtE) (rI0 fun i j=>.bl (decide (j <= i))):=FP fun _ _ _ _ _ _ _ q=>ge_int q
theorem qF:OpR X (compareOp .Is) (fun x y H Q=>y = .non /\ Q (.bl (decide (x = .non))) H):=by
 intro pins s σ H x y v u Q I rx ry h
 obtain ⟨rfl,q⟩:=h
 cases ry
 refine is_none_gen (cY I q ?_)
 cases x <;> first
  | (cases rx; rfl)
  | (obtain ⟨t,rfl⟩:=rx; rfl)
theorem uf:OpR X (compareOp .IsNot) (fun x y H Q=>y = .non /\ Q (.bl (!decide (x = .non))) H):=by
 intro pins s σ H x y v u Q I rx ry h
 obtain ⟨rfl,q⟩:=h
 cases ry
 refine isnot_none_gen (cY I q ?_)
 cases x <;> first
  | (cases rx; rfl)
  | (obtain ⟨t,rfl⟩:=rx; rfl)
theorem aQ (b:Expr) {op:CmpOp} (h:op ≠ .In:=by decide) (h2:op ≠ .NotIn:=by decide):behindInMarks op b = false:=by
 have e1:(op == CmpOp.In) = false:=by cases op <;> first | rfl | exact absurd rfl h
 have e2:(op == CmpOp.NotIn) = false:=by cases op <;> first | rfl | exact absurd rfl h2
 cases b <;> simp [behindInMarks,e1,e2]
theorem CP {op:CmpOp} {r:R2} (ho:OpR X (compareOp op) r) (ha:PE X a ta) (hb:PE X b tb) (hm:behindInMarks op b = false):PE X (.Compare a [op] [b] pos) (tOp r ta tb):=by
 intro pins s σ H Q I h
 exact wpAny_Compare1 (Ft ha hb I h fun v u s2 x y H2 I2 rx ry q=>ho pins s2 σ H2 x y v u Q I2 rx ry q) hm
noncomputable def u6 (t:TE):TT:=fun σ H Q=>t σ H fun x H'=>∃ k,x = .bl k /\ Q k H'
theorem Df {op:CmpOp} {r:R2} (ho:OpR X (compareOp op) r) (ha:PE X a ta) (hb:PE X b tb) (hm:behindInMarks op b = false):PT X (.Compare a [op] [b] pos) (u6 (tOp r ta tb)):=by
 intro pins s σ H Q I h
 refine wpAny_isTrue_Compare1 (thn (ha pins s σ H _ I h) fun v s1 ⟨x,H1,I1,r1,q1⟩=>thn (hb pins s1 σ H1 _ I1 q1) fun u s2 ⟨y,H2,I2,r2,q2⟩=>
  thn (ho pins s2 σ H2 x y v u _ I2 r1 r2 q2) fun c s3 ⟨z,H3,I3,r3,k,e,q3⟩=>?_) hm
 subst e
 cases r3
 exact wpAny_truthy_bool ⟨H3,I3,q3⟩
noncomputable def qL (r r':R2) (ta tb tc:TE):TE:=fun σ H Q=>ta σ H fun x H1=>tb σ H1 fun y H2=>r x y H2 fun z H3=>∃ k,z = .bl k /\
 (if k = true then tc σ H3 fun w' H4=>r' y w' H4 Q else Q (.bl false) H3)
theorem Bu {op op':CmpOp} {r r':R2} (ho:OpR X (compareOp op) r) (ho':OpR X (compareOp op') r') (ha:PE X a ta) (hb:PE X b tb) (hc:PE X c tc)
  (hm:lastMarks [op,op'] [b,c] = false:=by with_unfolding_all rfl):PE X (.Compare a [op,op'] [b,c] pos) (qL r r' ta tb tc):=by
 intro pins s σ H Q I h
 refine Compare_chain (thn (ha pins s σ H _ I h) fun v s1 ⟨x,H1,I1,r1,q1⟩=>chain_link (thn (hb pins s1 σ H1 _ I1 q1) fun u s2 ⟨y,H2,I2,r2,q2⟩=>
  thn (ho pins s2 σ H2 x y v u _ I2 r1 r2 q2) fun d s3 ⟨z,H3,I3,r3,k,e,q3⟩=>?_)) hm
 subst e
 cases r3
 refine wpAny_truthy_bool ?_
 cases k with
 | false=>exact ite_ff ⟨.bl false,H3,I3,rfl,q3⟩
 | true=>exact ite_tt (chain_last (thn (hc pins s3 σ H3 _ I3 q3) fun w' s4 ⟨z',H4,I4,r4,q4⟩=>ho' pins s4 σ H4 y z' u w' Q I4 r2 r4 q4))
theorem Ax {op op':CmpOp} {r r':R2} (ho:OpR X (compareOp op) r) (ho':OpR X (compareOp op') r') (ha:PE X a ta) (hb:PE X b tb) (hc:PE X c tc)
  (hm:lastMarks [op,op'] [b,c] = false:=by with_unfolding_all rfl):PT X (.Compare a [op,op'] [b,c] pos) (u6 (qL r r' ta tb tc)):=by
 intro pins s σ H Q I h
 refine isTrue_chain (thn (ha pins s σ H _ I h) fun v s1 ⟨x,H1,I1,r1,q1⟩=>test_link (thn (hb pins s1 σ H1 _ I1 q1) fun u s2 ⟨y,H2,I2,r2,q2⟩=>
  thn (ho pins s2 σ H2 x y v u _ I2 r1 r2 q2) fun d s3 ⟨z,H3,I3,r3,k,e,q3⟩=>?_)) hm
 subst e
 cases r3
 refine wpAny_truthy_bool ?_
 cases k with
 | false=>
   obtain ⟨k',e',q'⟩:=q3
   cases e'
   exact ite_ff ⟨H3,I3,q'⟩
 | true=>
   refine ite_tt (test_last (thn (hc pins s3 σ H3 _ I3 q3) fun w' s4 ⟨z',H4,I4,r4,q4⟩=>thn (ho' pins s4 σ H4 y z' u w' _ I4 r2 r4 q4) fun d' s5 ⟨z2,H5,I5,r5,k2,e2,q5⟩=>?_))
   subst e2
   cases r5
   exact wpAny_truthy_bool ⟨H5,I5,q5⟩
noncomputable def wM (K:PySem.W.Frag) (x:V) (H:Hp) (k:Bool):Prop:=
 match x with
 | .non=>k = false
 | .bl b=>k = b
 | .int i=>k = (i != 0)
 | .str y=>y.length <= sizeLine /\ k = ((y.length:Int) != 0)
 | .byt y=>y.size <= sizeLine /\ k = ((y.size:Int) != 0)
 | .ref p=>(∃ xs,SqL K H p xs /\ k = !xs.isEmpty) \/ (∃ xs,SqT K H p xs /\ k = !xs.isEmpty) \/ ∃ kvs,H p = some (.dK kvs) /\ k = !kvs.isEmpty
 | _=>False
theorem xu {κ:Type} {kvs:List (κ × V)} {vs:List (κ × Value)} (r:KV kvs vs):(!vs.isEmpty) = !kvs.isEmpty:=by
 cases r <;> rfl
theorem rG {xs:List V} {its:List Value} (r:Vals xs its):(!its.toArray.isEmpty) = !xs.isEmpty:=by
 cases r <;> simp
theorem qI:(sizeLine:Nat) < 2 ^ 63:=by rw [sizeLine_eq]; decide
theorem Ff:Jo X (fun x H Q=>∃ k,wM X.K x H k /\ Q k H):=by
 intro pins s σ H x v Q I rx h
 obtain ⟨k,e,q⟩:=h
 have hl:=qI
 have hs:sizeLine = 16777216:=sizeLine_eq
 cases x with
 | non=>
   cases rx
   have e':k = false:=e
   subst e'
   exact truthy_none ⟨H,I,q⟩
 | bl b=>
   cases rx
   have e':k = b:=e
   subst e'
   exact wpAny_truthy_bool ⟨H,I,q⟩
 | int i=>
   obtain ⟨t,rfl⟩:=rx
   have e':k = (i != 0):=e
   subst e'
   exact PySem.P.truthy_int ⟨H,I,q⟩
 | str y=>
   obtain ⟨t,rfl⟩:=rx
   obtain ⟨hy,e'⟩:y.length <= sizeLine /\ k = ((y.length:Int) != 0):=e
   subst e'
   exact PySem.P.truthy_str (by omega) ⟨H,I.tok _,q⟩
 | byt y=>
   obtain ⟨t,rfl⟩:=rx
   obtain ⟨hy,e'⟩:y.size <= sizeLine /\ k = ((y.size:Int) != 0):=e
   subst e'
   exact PySem.W.truthy_bytes (by omega) ⟨H,I.tok _,q⟩
 | ref p=>
   cases rx
   have e':(∃ xs,SqL X.K H p xs /\ k = !xs.isEmpty) \/ (∃ xs,SqT X.K H p xs /\ k = !xs.isEmpty) \/ ∃ kvs,H p = some (.dK kvs) /\ k = !kvs.isEmpty:=e
   rcases e' with ⟨xs,hx,e'⟩ | ⟨xs,hx,e'⟩ | ⟨kvs,hx,e'⟩
   . subst e'
     obtain ⟨its,r,pl,hz⟩:=I.list hx
     have hlen:=r.length
     exact wpAny_truthy_list pl.isList (by simp only [List.size_toArray]; omega) ⟨H,I.tok _,by rw [rG r]; exact q⟩
   . subst e'
     obtain ⟨its,r,pl,hz⟩:=I.tuple hx
     have hlen:=r.length
     exact truthy_tuple pl (by simp only [List.size_toArray]; omega) ⟨H,I.tok _,by rw [rG r]; exact q⟩
   . subst e'
     obtain ⟨hz,hS,vs,r,m⟩:kvs.length <= sizeLine /\ (p == sysModules) = false /\ ∃ vs,KV kvs vs /\ s.heap.DictOf (uE X.prog X.w) p vs:=I.hok p _ hx
     have hlen:kvs.length = vs.length:=Paired.length r
     exact wpAny_truthy_dict hS m (by omega) ⟨H,I.tok _,by rw [xu r]; exact q⟩
 | _=>exact (show False from e).elim
theorem Bk (ha:PE X a ta) (he:∀ whole,isTrue a X.env whole = (do let v <- whole; standAt a.pos; holding [v] (truthy v))):
  PT X a (fun σ H Q=>ta σ H fun x H'=>∃ k,wM X.K x H' k /\ Q k H'):=by
 intro pins s σ H Q I h
 exact isTrue_plain (thn (ha pins s σ H _ I h) fun v s1 ⟨x,H1,I1,r1,q1⟩=>Ff pins s1 σ H1 x v Q I1 r1 q1) (he _)
theorem vals1 {x:V} {us:List Value} (r:Vals [x] us):∃ u,us = [u] /\ RelV x u:=by
 cases r with
 | cons r1 r2=>cases r2; exact ⟨_,rfl,r1⟩
theorem o1:mw X (.type "str") (fun xs H Q=>∃ i,xs = [.int i] /\ i.natAbs.log2 < 1920 /\ Q (.str (toString i)) H):=by
 intro pins s σ H xs us Q I r h
 obtain ⟨i,rfl,hz,q⟩:=h
 obtain ⟨u,rfl,t,rfl⟩:=vals1 r
 exact PySem.P.str_of_int hz ⟨.str _,H,I.tok _,⟨_,rfl⟩,q⟩
theorem A9:mw X (.builtin "ord") (fun xs H Q=>∃ x,xs = [.str x] /\ x.length = 1 /\ Q (.int (x.cps.getD 0 0:Nat)) H):=by
 intro pins s σ H xs us Q I r h
 obtain ⟨x,rfl,hz,q⟩:=h
 obtain ⟨u,rfl,t,rfl⟩:=vals1 r
 exact ord_of_one hz ⟨.int _,H,I.tok _,⟨_,rfl⟩,q⟩
end
end L2
namespace L2
open PySem PySem.Spec PyProof.Rows
structure xg (h:Heap) (x dx C:Addr) (mA:Str -> Option Value):Prop where
 obj:h.get? x = some (PySem.W.instObj C dx)
 ns:h.Ns1 dx mA
 ne:dx ≠ x
theorem y0 {h:Heap} {dx:Addr} {mA:Str -> Option Value} (n:h.Ns1 dx mA):∃ od,h.get? dx = some od /\ ∀ name,PySem.W.lookIn name od = some (mA name):=by
 obtain ⟨o,es,ep,ho,hd,hk,_,hm⟩:=n
 refine ⟨o,ho,fun name=>?_⟩
 have e:=hm name
 unfold nsFind findBy at e
 rw [<- Array.find?_toList] at e
 unfold PySem.W.lookIn
 rw [hd]
 dsimp only
 split
 . rename_i y q
   rw [q] at e
   exact congrArg some e
 . rename_i q
   rw [q] at e
   have a:es.toList.any (·.refKey) = false:=by
    rw [List.any_eq_false]
    intro y hy
    obtain ⟨z,t,hkey⟩:=hk y (Array.mem_toList_iff.mp hy)
    simp [DictEntry.refKey,hkey]
   have a':¬ es.toList.any (·.refKey) = true:=by rw [a]; exact Bool.false_ne_true
   rw [if_neg a']
   exact congrArg some e
theorem xg.look {h:Heap} {x dx C:Addr} {mA:Str -> Option Value} (I:xg h x dx C mA):∃ od,PySem.W.InstAt h x (PySem.W.instObj C dx) C (some od) /\ ∀ name,PySem.W.lookIn name od = some (mA name):=
 let ⟨od,ho,hl⟩:=y0 I.ns
 ⟨od,⟨I.obj,rfl,rfl,ho⟩,hl⟩
section
variable {prog:Program} {w:World} {A:Around} {E:Value -> Shared -> Prop} {s:Shared} {K:PySem.W.Frag} {x dx C f:Addr} {mA:Str -> Option Value} {name:Str} {v:Value}
theorem get_map {expr:Bool} {Q:Value -> Shared -> Prop} (X:K.In s.heap) (I:xg s.heap x dx C mA) (hg:PySem.W.plainGet K C name = true) (hh:PySem.W.hasDictIn K C = true)
  (ha:PySem.W.findIn K (.ref C) name = some none) (hv:mA name = some v) (hv':PySem.W.handedIn v = true) (h:Q v { s with toks:=s.toks + 1 }):
  wpAny (model prog w) A (getAttr (.ref x) name expr) Q E s:=by
 obtain ⟨od,J,hl⟩:=I.look
 exact PySem.W.get_value X J (PySem.W.plainGet_of hg).1 (PySem.W.findObj_own hh ha rfl (by rw [hl,hv])) hv' h
theorem Ae {pl:Sem Bool} {Q:Value × List Value -> Shared -> Prop} (X:K.In s.heap) (I:xg s.heap x dx C mA) (hg:PySem.W.plainGet K C name = true)
  (hf:PySem.W.findIn K (.ref C) name = some (some (.ref f))) (ht:PySem.W.isFn K (.ref f) = true) (hv:mA name = none) (h:Q (.ref f,[.ref x]) s):
  wpAny (model prog w) A (getMethod (.ref x) name pl) Q E s:=by
 obtain ⟨od,J,hl⟩:=I.look
 exact PySem.W.method_fn X J (PySem.W.plainGet_of hg).1 (PySem.W.plainGet_of hg).2 hf (beq_iff_eq.mp ht) (by show (PySem.W.lookIn name od).map (·.isSome) = some false; rw [hl,hv]; rfl) h
theorem Cg {ns:List Str} {Q:Unit -> Shared -> Prop} (X:K.In s.heap) (I:xg s.heap x dx C mA)
  (hs:PySem.W.findIn K (.ref C) "__setattr__" = some (some (.builtin "object.__setattr__"))) (hp:PySem.W.plainOver K C = true) (ht:PySem.W.takerIn K C name = some none) (hh:PySem.W.hasDictIn K C = true)
  (hw:PySem.Within mA ns) (hsz:ns.length <= sizeLine)
  (h:∀ h',xg h' x dx C (fun y=>if y = name then some v else mA y) -> Heap.SameBut dx s.heap h' -> Q () { s with heap:=h',toks:=s.toks + 2 }):
  wpAny (model prog w) A (setAttr (.ref x) name v) Q E s:=by
 obtain ⟨od,J,hl⟩:=I.look
 refine PySem.W.set_plain X J hs (PySem.W.osa_open (s:={ s with toks:=s.toks + 1 }) (r:=none) X J hp ht fun b=>?_)
 obtain ⟨cd,hc,hd'⟩:=PySem.W.any_some hh
 have hx:s.heap.get? x = some ⟨.ref C,some dx,.plain,#[]⟩:=I.obj
 refine wpAny_bind (wpAny_pure (wpAny_bind (wpAny_bind (wpAny_loadPart hx (wpAny_bind (PySem.W.Looks.here (s:={ s with toks:=s.toks + 1 }) (PySem.W.looks_clsIn X hc) ?_))))))
 rw [hd']
 refine wpAny_pure (a:=some dx) (wpAny_bind (wpAny_pure (wpAny_bind ?_)))
 refine wpAny_nsSet1 (s:={ s with toks:=s.toks + 1 }) I.ns fun h' hn2 hs2=>?_
 obtain ⟨oD,esD,epD,hoD,hdD,hcD⟩:=hn2.count (PySem.Within.cons name v hw)
 refine wpAny_bind (wpAny_lookBehind hoD (by rw [hdD]; exact pastItsLine_dict (Nat.le_trans hcD (by rw [List.length_cons]; omega))) ?_)
 exact wpAny_pure (h _ ⟨(hs2.2 _ (Ne.symm I.ne)).trans I.obj,hn2,I.ne⟩ hs2)
theorem A8 {R:Result -> Shared -> Prop} {vs:List Value} {kw:List (Str × Value)} (X:K.In s.heap) (hm:PySem.W.makesIn K C = true)
  (hi:PySem.W.findIn K (.ref C) "__init__" = some (some (.ref f))) (hf:PySem.W.typeIn K (.ref f) = some (.type "function"))
  (h:codeAny (model prog w) (A.under (.builtin "type.__call__" ⟨.ref C ::vs,kw⟩)) (.call (.ref f) ⟨.ref (s.heap.objs.size + 1) ::vs,kw⟩) (PySem.W.InitBack (s.heap.objs.size + 1) R)
    { s with heap:=(s.heap.push PySem.W.emptyDict).push (PySem.W.instObj C s.heap.objs.size) }):
  codeAny (model prog w) A (.call (.ref C) ⟨vs,kw⟩) R s:=by
 obtain ⟨hh,g,d,t,os⟩:=s
 exact PySem.W.make_core (PySem.W.makes_of X hm) (PySem.W.looks_findIn X hi) (fun self=>PySem.W.bind_fn X self hf) (.inl rfl) h
end
noncomputable def jk (f:Str) (v:V):List (Str × V) -> List (Str × V)
 | []=>[(f,v)]
 | (g,x) ::r=>if g = f then (g,v) ::r else (g,x) ::jk f v r
theorem qc (f g:Str) (v:V):∀ fs:List (Str × V),(jk f v fs).lookup g = if g = f then some v else fs.lookup g
 | []=>by
   show List.lookup g [(f,v)] = _
   by_cases h:g = f
   . have hb:(g == f) = true:=beq_iff_eq.mpr h
     simp only [List.lookup,hb,if_pos h]
   . have hb:(g == f) = false:=beq_eq_false_iff_ne.mpr h
     simp only [List.lookup,hb,if_neg h]
 | (k,x) ::r=>by
   have ih:=qc f g v r
   rw [show jk f v ((k,x) ::r) = (if k = f then (k,v) ::r else (k,x) ::jk f v r) from rfl]
   by_cases hk:k = f
   . rw [if_pos hk]
     by_cases h:g = k
     . have hb:(g == k) = true:=beq_iff_eq.mpr h
       simp only [List.lookup,hb,if_pos (h.trans hk)]
     . have hb:(g == k) = false:=beq_eq_false_iff_ne.mpr h
       simp only [List.lookup,hb,if_neg (fun e:g = f=>h (e.trans hk.symm))]
   . rw [if_neg hk]
     by_cases h:g = k
     . have hb:(g == k) = true:=beq_iff_eq.mpr h
       simp only [List.lookup,hb,if_neg (fun e:g = f=>hk (h.symm.trans e))]
     . have hb:(g == k) = false:=beq_eq_false_iff_ne.mpr h
       simp only [List.lookup,hb]
       exact ih
theorem pR (f:Str) (v:V):∀ fs:List (Str × V),f ∈ (jk f v fs).map (·.1) /\ ∀ g,g ∈ fs.map (·.1) -> g ∈ (jk f v fs).map (·.1)
 | []=>⟨by simp [jk],fun g h=>by simp at h⟩
 | (k,x) ::r=>by
   obtain ⟨i1,i2⟩:=pR f v r
   rw [show jk f v ((k,x) ::r) = (if k = f then (k,v) ::r else (k,x) ::jk f v r) from rfl]
   by_cases hk:k = f
   . rw [if_pos hk]
     subst hk
     exact ⟨by simp,fun g h=>by simpa using h⟩
   . rw [if_neg hk]
     refine ⟨?_,fun g h=>?_⟩
     . rw [List.map_cons]
       exact List.mem_cons_of_mem _ i1
     . rw [List.map_cons] at h ⊢
       rcases List.mem_cons.mp h with e | e
       . exact List.mem_cons.mpr (.inl e)
       . exact List.mem_cons_of_mem _ (i2 g e)
theorem pX (f:Str) (v:V):∀ fs:List (Str × V),(jk f v fs).length <= fs.length + 1
 | []=>by simp [jk]
 | (k,x) ::r=>by
   have ih:=pX f v r
   rw [show jk f v ((k,x) ::r) = (if k = f then (k,v) ::r else (k,x) ::jk f v r) from rfl]
   by_cases hk:k = f
   . rw [if_pos hk,List.length_cons,List.length_cons]; omega
   . rw [if_neg hk,List.length_cons,List.length_cons]; omega
theorem bS.some_of {v:V} {o:Option Value} (r:bS (some v) o):∃ u,o = some u /\ RelV v u:=by
 cases o with
 | none=>exact (show False from r).elim
 | some u=>exact ⟨u,rfl,r⟩
theorem bS.none_of {o:Option Value} (r:bS none o):o = none:=by
 cases o with
 | none=>rfl
 | some u=>exact (show False from r).elim
theorem zH {v:V} {u:Value} (r:RelV v u):PySem.W.handedIn u = true:=by
 cases v with
 | non=>cases (show u = Value.none from r); rfl
 | bl b=>cases (show u = Value.bool b from r); rfl
 | int i=>obtain ⟨t,e⟩:=(show ∃ t,u = Value.int i t from r); cases e; rfl
 | str x=>obtain ⟨t,e⟩:=(show ∃ t,u = Value.str x t from r); cases e; rfl
 | byt b=>obtain ⟨t,e⟩:=(show ∃ t,u = Value.bytes b t from r); cases e; rfl
 | flt b=>obtain ⟨t,e⟩:=(show ∃ t,u = Value.float b t from r); cases e; rfl
 | ref a=>cases (show u = Value.ref a from r); rfl
 | ty n=>cases (show u = Value.type n from r); rfl
section
variable {P:Program} {w:World} {H H':Hp} {h h':Heap} {a C dx:Addr} {fs fs':List (Str × V)}
theorem uX (hok:HOk P w H h) (e:H a = some (.ins C dx fs)):∃ mA,xg h a dx C mA /\ (∀ f,bS (fs.lookup f) (mA f)) /\ PySem.Within mA (fs.map (·.1)) /\ fs.length <= 1000 /\ H dx = some (.own a):=by
 obtain ⟨d,z,ne,ob,mA,n,r,q⟩:=(show iI P w H h a (.ins C dx fs) from hok a _ e)
 exact ⟨mA,⟨ob,n,ne⟩,r,q,z,d⟩
end
structure Cls (K:PySem.W.Frag) (C:Addr):Prop where
 pg:PySem.W.plainGet K C Str.empty = true
 hd:PySem.W.hasDictIn K C = true
 po:PySem.W.plainOver K C = true
 sa:PySem.W.findIn K (.ref C) "__setattr__" = some (some (.builtin "object.__setattr__"))
theorem Cls.get {K:PySem.W.Frag} {C:Addr} (c:Cls K C) (f:Str):PySem.W.plainGet K C f = true:=c.pg
noncomputable def kj (K:PySem.W.Frag) (C:Addr) (f:Str):Prop:=PySem.W.findIn K (.ref C) f = some none
theorem kj.Hi {K:PySem.W.Frag} {C:Addr} {f:Str} (n:kj K C f):PySem.W.takerIn K C f = some none:=by
 unfold PySem.W.takerIn
 rw [show PySem.W.findIn K (.ref C) f = some none from n]
 rfl
structure Meth (K:PySem.W.Frag) (C:Addr) (m:Str) (f:Addr):Prop where
 at_:PySem.W.findIn K (.ref C) m = some (some (.ref f))
 fn:PySem.W.isFn K (.ref f) = true
 kp:PySem.W.keepIn K (.ref f) = true
section
variable {X:Cx} {pins:List (Addr × Obj)} {σ:St} {H:Hp} {s:Shared} {a C dx:Addr} {fs:List (Str × V)} {f:Str} {v:V} {A:Around} {E:Value -> Shared -> Prop}
theorem wY {b:Bool} {Q:Value -> Shared -> Prop} (I:Inv X pins σ H s) (e:H a = some (.ins C dx fs)) (c:Cls X.K C) (n:kj X.K C f) (l:fs.lookup f = some v)
  (h:∀ u s',Inv X pins σ H s' -> RelV v u -> Q u s'):wpAny (model X.prog X.w) A (getAttr (.ref a) f b) Q E s:=by
 obtain ⟨mA,O,r,_,_,_⟩:=uX I.hok e
 obtain ⟨u,hu,ru⟩:=bS.some_of (v:=v) (o:=mA f) (by rw [<- l]; exact r f)
 exact get_map I.kIn O (c.get f) c.hd n hu (zH ru) (h u _ (I.tok _) ru)
theorem rA {m:Str} {g:Addr} {pl:Sem Bool} {Q:Value × List Value -> Shared -> Prop} (I:Inv X pins σ H s) (e:H a = some (.ins C dx fs)) (c:Cls X.K C) (k:Meth X.K C m g) (l:fs.lookup m = none)
  (h:Q (.ref g,[.ref a]) s):wpAny (model X.prog X.w) A (getMethod (.ref a) m pl) Q E s:=by
 obtain ⟨mA,O,r,_,_,_⟩:=uX I.hok e
 have hn:mA m = none:=bS.none_of (by rw [<- l]; exact r m)
 exact Ae I.kIn O (c.get m) k.at_ k.fn hn h
theorem xC {y:V} {u:Value} {Q:Unit -> Shared -> Prop} (I:Inv X pins σ H s) (e:H a = some (.ins C dx fs)) (c:Cls X.K C) (n:kj X.K C f) (hl:fs.length < 1000) (ry:RelV y u)
  (h:∀ s',Inv X pins σ (upd H a (.ins C dx (jk f y fs))) s' -> Q () s'):wpAny (model X.prog X.w) A (setAttr (.ref a) f u) Q E s:=by
 obtain ⟨mA,O,r,wi,_,ho⟩:=uX I.hok e
 have hz:(fs.map (·.1)).length <= sizeLine:=by rw [List.length_map,sizeLine_eq]; omega
 refine Cg I.kIn O c.sa c.po n.Hi c.hd wi hz fun h' O' sb=>h _ ?_
 have hd:∃ o,h'.get? dx = some o:=let ⟨o,_,_,e',_⟩:=O'.ns; ⟨o,e'⟩
 refine I.write (x:=a) (e:=dx) (by rw [e]; exact True.intro) (.inr ho) (fun b q hb z=>(sb.2 b hb).trans z) hd ?_
 refine ⟨by rw [aY O.ne]; exact ho,?_,O.ne,O'.obj,_,O'.ns,fun g=>?_,fun g hg=>?_⟩
 . have:=pX f y fs; omega
 . show bS ((jk f y fs).lookup g) (if g = f then some u else mA g)
   rw [qc]
   by_cases q:g = f
   . rw [if_pos q,if_pos q]; exact ry
   . rw [if_neg q,if_neg q]; exact r g
 . by_cases q:g = f
   . rw [q]; exact (pR f y fs).1
   . refine (pR f y fs).2 g (wi g fun z=>hg ?_)
     show (if g = f then some u else mA g) = none
     rw [if_neg q]; exact z
theorem Inv.made (I:Inv X pins σ H s):Inv X pins σ (upd (upd H s.heap.objs.size (.own (s.heap.objs.size + 1))) (s.heap.objs.size + 1) (.ins C s.heap.objs.size []))
  { s with heap:=(s.heap.push PySem.W.emptyDict).push (PySem.W.instObj C s.heap.objs.size) }:=by
 have e1:(s.heap.push PySem.W.emptyDict).get? s.heap.objs.size = some PySem.W.emptyDict:=Heap.get?_push_size s.heap rfl
 have e2:((s.heap.push PySem.W.emptyDict).push (PySem.W.instObj C s.heap.objs.size)).get? (s.heap.objs.size + 1) = some (PySem.W.instObj C s.heap.objs.size):=by
  have:=Heap.get?_push_size (s.heap.push PySem.W.emptyDict) (o:=PySem.W.instObj C s.heap.objs.size) rfl
  rwa [Heap.size_push] at this
 have e3:(s.heap.push PySem.W.emptyDict).Ns s.heap.objs.size (fun _=>none):=⟨PySem.W.emptyDict,#[],_,e1,rfl,(fun e he=>absurd he (by simp)),fun _=>rfl⟩
 have I1:=I.laid (a:=s.heap.objs.size) (o:=.own (s.heap.objs.size + 1)) (h':=s.heap.push PySem.W.emptyDict) (t':=s.toks) (fun b u q=>Heap.get?_push_of_some _ q) (Nat.le_refl _) ⟨_,e1⟩
 refine I1.laid (a:=s.heap.objs.size + 1) (o:=.ins C s.heap.objs.size []) (t':=s.toks) (fun b u q=>Heap.get?_push_of_some _ q) (Nat.le_of_eq (Heap.size_push _ _)) ?_
 have ne:s.heap.objs.size ≠ s.heap.objs.size + 1:=Nat.ne_of_lt (Nat.lt_succ_self _)
 refine ⟨by rw [aY ne,bg],Nat.zero_le _,ne,e2,fun _=>none,(Heap.Ns1.of_empty e3).at fun o q=>Heap.get?_push_of_some _ q,fun _=>True.intro,fun y hy=>absurd rfl hy⟩
theorem Cv {prog:Program} {w:World} {env:Env} {e:Expr} {f:Str} {pos:Pos} {s:Shared} {Q:Value -> Shared -> Prop} (hb:attributeBase e f env (eval e env) = eval e env)
  (h:wpAny (model prog w) A (eval e env) (fun o s₁=>wpAny (model prog w) A (getAttr o f true) Q E s₁) E s):wpAny (model prog w) A (eval (.Attribute e f pos) env) Q E s:=
 Attribute_any_ h (by rw [arm_eval_Attribute,hb])
end
noncomputable def E1 (K:PySem.W.Frag) (ta:TE) (f:Str):TE:=fun σ H Q=>ta σ H fun x H1=>∃ a C dx fs v,x = .ref a /\ H1 a = some (.ins C dx fs) /\ Cls K C /\ kj K C f /\ fs.lookup f = some v /\ Q v H1
noncomputable def EK (K:PySem.W.Frag) (ta tv:TE) (f:Str):TS:=fun D σ H=>tv σ H fun y H1=>ta σ H1 fun x H2=>∃ a C dx fs,x = .ref a /\ H2 a = some (.ins C dx fs) /\ Cls K C /\ kj K C f /\ fs.length < 1000 /\
 D.nx σ (upd H2 a (.ins C dx (jk f y fs)))
section
variable {X:Cx} {o e value:Expr} {f:Str} {pos pos' tpos:Pos} {ta tv:TE}
theorem F7 (he:PE X e ta) (hb:attributeBase e f X.env (eval e X.env) = eval e X.env):PE X (.Attribute e f pos) (E1 X.K ta f):=by
 intro pins s σ H Q I h
 refine Cv hb (thn (he pins s σ H _ I h) fun u s1 ⟨x,H1,I1,rx,a,C,dx,fs,v,ex,ea,c,n,l,q⟩=>?_)
 subst ex
 obtain rfl:u = Value.ref a:=rx
 exact wY I1 ea c n l fun u' s2 I2 ru=>⟨v,H1,I2,ru,q⟩
theorem Fh (ha:PE X o ta) (hv:PE X value tv) (hs:swapsWith value (some (.Attribute o f pos')) pos.line X.env = pure false):PS X (.Assign [.Attribute o f pos'] value pos) (EK X.K ta tv f):=by
 intro pins s σ H D I h
 refine plainObj_wpAny_Assign_Attribute (thn (hv pins s σ H _ I h) fun u s1 ⟨y,H1,I1,ry,q⟩=>thn (ha pins s1 σ H1 _ I1 q) fun ov s2 ⟨x,H2,I2,rx,a,C,dx,fs,ex,ea,c,n,l,q2⟩=>?_) hs
 subst ex
 obtain rfl:ov = Value.ref a:=rx
 exact xC I2 ea c n l ry fun s3 I3=>⟨σ,_,I3,q2⟩
end
end L2
namespace L2
open PySem PySem.Spec PyProof.Rows
structure gY (k:Nat) (A:Around):Prop where
 hd:A.handled = none
 dp:A.depth + 3 * k + 5 < recursionLimit
 un:A.units + 16 * k + 200 < cLine
theorem gY.mono {j k:Nat} {A:Around} (r:gY k A) (h:j <= k):gY j A:=⟨r.hd,by have:=r.dp; omega,by have:=r.un; omega⟩
theorem gY.deeper {k:Nat} {A:Around} (r:gY (k + 1) A) (env:Env):gY k (A.deeper env):=
 ⟨r.hd,by have:=r.dp; show A.depth + 1 + 3 * k + 5 < _; omega,by have:=r.un; show A.units + 3 + 16 * k + 200 < _; omega⟩
theorem wJ {A:Around} {C:Addr} {us:List Value} {kw:List (Str × Value)}:(A.under (.builtin "type.__call__" ⟨.ref C ::us,kw⟩)).depth = A.depth + 1:=by
 first | rfl | simp [Around.under,Code.weight,Code.isCreation,Code.isGuard,Code.isCaller,Code.frames,Code.isFrame,guardIds]
theorem xf {A:Around} {C:Addr} {us:List Value} {kw:List (Str × Value)}:(A.under (.builtin "type.__call__" ⟨.ref C ::us,kw⟩)).units = A.units + 1:=by
 first | rfl | simp [Around.under,Code.cUnits,Code.frames,Code.isFrame]
theorem gY.make {k:Nat} {A:Around} (r:gY (k + 1) A) (C:Addr) (us:List Value) (kw:List (Str × Value)):gY k (A.under (.builtin "type.__call__" ⟨.ref C ::us,kw⟩)):=
 ⟨r.hd,by have:=r.dp; rw [wJ]; omega,by have:=r.un; rw [xf]; omega⟩
theorem gY.depth {k:Nat} {A:Around} (r:gY k A):A.depth < recursionLimit:=by have:=r.dp; omega
theorem gY.units {k:Nat} {A:Around} (r:gY k A):A.units + 64 < cLine:=by have:=r.un; omega
noncomputable def kN:TA:=fun _ H Q=>Q [] H
noncomputable def js (ta:TE) (tr:TA):TA:=fun σ H Q=>ta σ H fun x H1=>tr σ H1 fun xs H2=>Q (x ::xs) H2
section
variable {X:Cx} {e:Expr} {es:List Expr} {te:TE} {t:TA} {pos:Pos}
theorem Et:PA X [] kN:=fun _ _ _ _ H Q I h=>Calls.spliced_nil ⟨[],H,I,.nil,h⟩
theorem CG (ha:PE X e te) (hr:PA X es t) (hs:starEach (e ::es) X.env = (false,eval e X.env) ::starEach es X.env:=by rfl):PA X (e ::es) (js te t):=by
 intro pos pins s σ H Q I h
 rw [hs]
 show wpAny _ _ (spliced ((false,eval e X.env) ::backTo pos (starEach es X.env))) _ _ s
 refine Calls.spliced_cons (thn (ha pins s σ H _ I h) fun u s1 ⟨x,H1,I1,r1,q1⟩=>?_)
 exact thn (hr pos pins s1 σ H1 _ I1 q1) fun us s2 ⟨xs,H2,I2,r2,q2⟩=>⟨x ::xs,H2,I2,.cons r1 r2,q2⟩
noncomputable def FQ (t:TA):TE:=fun σ H Q=>t σ H fun xs H1=>xs.length <= sizeLine /\ ∀ p,H1 p = none -> Q (.ref p) (upd H1 p (.tup xs))
noncomputable def Fs (t:TA):TE:=fun σ H Q=>t σ H fun xs H1=>xs.length <= sizeLine /\ ∀ p,H1 p = none -> Q (.ref p) (upd H1 p (.lst xs))
theorem Fq {x1} (h:PA X es t):PE X (.Tuple es x1 pos) (FQ t):=by
 intro pins s σ H Q I hq
 refine wpAny_Tuple_spliced (thn (h pos pins s σ H _ I hq) fun us s1 ⟨xs,H1,I1,r,z,q⟩=>⟨by rw [<- r.length]; exact z,?_⟩)
 have hf:H1 s1.heap.objs.size = none:=I1.hok.fresh (Nat.le_refl _)
 refine ⟨.ref s1.heap.objs.size,upd H1 s1.heap.objs.size (.tup xs),I1.laid (t':=s1.toks) (fun b u e=>Heap.get?_push_of_some _ e) (Nat.le_refl _) ?_,rfl,q _ hf⟩
 exact ⟨z,us,r,⟨_,Heap.get?_push_size _ rfl,rfl,_,rfl⟩⟩
theorem ET (h:PA X es t):PE X (.List es pos) (Fs t):=by
 intro pins s σ H Q I hq
 refine wpAny_List_spliced (thn (h pos pins s σ H _ I hq) fun us s1 ⟨xs,H1,I1,r,z,q⟩=>⟨by rw [<- r.length]; exact z,?_⟩)
 have hf:H1 s1.heap.objs.size = none:=I1.hok.fresh (Nat.le_refl _)
 refine ⟨.ref s1.heap.objs.size,upd H1 s1.heap.objs.size (.lst xs),I1.laid (t':=s1.toks) (fun b u e=>Heap.get?_push_of_some _ e) (Nat.le_refl _) ?_,rfl,q _ hf⟩
 exact ⟨z,us,0,r,Heap.get?_push_size _ rfl⟩
end
abbrev Sp:=List V -> Hp -> VK -> XK -> Prop
abbrev CXT:=List Env -> Hp -> Shared -> XK -> Value -> Shared -> Prop
structure xB (P:Program) (w:World) (K:PySem.W.Frag) (mg:Str -> Option Value) (base:Heap) (A:Around) (outer:List Env) (s:Shared) (H:Hp):Prop where
 frames:A.frames = some outer
 mod:Mod K mg base
 bs:∀ b o,base.get? b = some o -> s.heap.get? b = some o /\ H b = none
 bsz:base.objs.size <= s.heap.objs.size
 qr:s.heap.FunFrames base outer
 frf:∀ b ∈ frs outer,H b = none
 hok:HOk P w H s.heap
 bare:AllBare s.gens
noncomputable def CE (outer:List Env) (P:Program) (w:World) (H:Hp) (s:Shared) (Q:VK) (u:Value) (s':Shared):Prop:=
 ∃ v H',s'.os = s.os /\ AllBare s'.gens /\ Un (frs outer) [] H H' s.heap s'.heap /\ HOk P w H' s'.heap /\ RelV v u /\ Q v H'
noncomputable def CR (CX:CXT) (outer:List Env) (P:Program) (w:World) (H:Hp) (s:Shared) (Q:VK) (E:XK) (r:Result) (s':Shared):Prop:=
 match r with
 | .ok (.ret u)=>CE outer P w H s Q u s'
 | .ok _=>False
 | .error e=>CX outer H s E e s'
structure cw (P:Program) (w:World) (K:PySem.W.Frag) (mg:Str -> Option Value) (base:Heap) (CX:CXT) (k:Nat) (f:Addr) (fd:FuncData) (ps:List Str) (sp:Sp):Prop where
 len:∀ vs H Q E,sp vs H Q E -> vs.length = ps.length
 run:∀ (A:Around) (outer:List Env) (s:Shared) (H:Hp) (args:Args) (us:List Value) (vs:List V) (Q:VK) (E:XK),gY k A -> xB P w K mg base A outer s H -> BindsTo s fd args (ps.zip us) -> Vals vs us -> sp vs H Q E ->
  codeAny (model P w) A (.call (.ref f) args) (CR CX outer P w H s Q E) s
theorem cw.mono {P:Program} {w:World} {K:PySem.W.Frag} {mg:Str -> Option Value} {base:Heap} {CX:CXT} {j k:Nat} {f:Addr} {fd:FuncData} {ps:List Str} {sp:Sp} (F:cw P w K mg base CX j f fd ps sp) (h:j <= k):
  cw P w K mg base CX k f fd ps sp:=⟨F.len,fun A outer s H args us vs Q E hr=>F.run A outer s H args us vs Q E (hr.mono h)⟩
theorem cw.imp {P:Program} {w:World} {K:PySem.W.Frag} {mg:Str -> Option Value} {base:Heap} {CX:CXT} {k:Nat} {f:Addr} {fd:FuncData} {ps:List Str} {sp sp':Sp} (F:cw P w K mg base CX k f fd ps sp)
  (h:∀ vs H Q E,sp' vs H Q E -> sp vs H Q E):cw P w K mg base CX k f fd ps sp':=
 ⟨fun vs H Q E q=>F.len vs H Q E (h _ _ _ _ q),fun A outer s H args us vs Q E hr he hb hv hs=>F.run A outer s H args us vs Q E hr he hb hv (h _ _ _ _ hs)⟩
theorem xB.make {P:Program} {w:World} {K:PySem.W.Frag} {mg:Str -> Option Value} {base:Heap} {A:Around} {outer:List Env} {s:Shared} {H:Hp} (e:xB P w K mg base A outer s H) (C:Addr) (us:List Value) (kw:List (Str × Value)):
  xB P w K mg base (A.under (.builtin "type.__call__" ⟨.ref C ::us,kw⟩)) outer s H:=⟨by first | exact e.frames | (simpa [Around.under,Code.envs,Code.isFrame,pushEnvs] using e.frames),e.mod,e.bs,e.bsz,e.qr,e.frf,e.hok,e.bare⟩
section
variable {X:Cx} {pins:List (Addr × Obj)} {σ:St} {H:Hp} {s s':Shared}
theorem Inv.EB (I:Inv X pins σ H s):xB X.prog X.w X.K X.mg X.base X.A X.stack s H:=
 ⟨I.ok.frames,I.ok.mod,I.bs,Nat.le_trans I.ok.bsz I.sz,I.stack,I.uh,I.hok,I.bare⟩
theorem Inv.after {Q:VK} {u:Value} (I:Inv X pins σ H s) (h:CE X.stack X.prog X.w H s Q u s'):EP X pins σ Q u s':=by
 obtain ⟨v,H',os,bare,un,hok,r,q⟩:=h
 obtain ⟨hh,g,d,t,os'⟩:=s'
 obtain rfl:os' = s.os:=os
 exact ⟨v,H',I.call (h':=hh) (g':=g) (d':=d) (t':=t) (ch:=[]) un hok bare (fun b z=>absurd z (by simp)),r,q⟩
end
noncomputable def BE (C:Addr) (sp:Sp) (dvs:List V) (E:XK) (t:TA):TE:=fun σ H Q=>t σ H fun vs H1=>∀ x dx,H1 x = none -> H1 dx = none -> dx ≠ x ->
 sp (.ref x ::(vs ++ dvs)) (upd (upd H1 dx (.own x)) x (.ins C dx [])) (fun v H2=>v = .non /\ Q (.ref x) H2) E
noncomputable def Binds (K:PySem.W.Frag) (fd:FuncData) (ps:List Str) (ds:List Value):Prop:=
 ∀ (s:Shared) (us:List Value),K.In s.heap -> (us ++ ds).length = ps.length -> BindsTo s fd ⟨us,[]⟩ (ps.zip (us ++ ds))
theorem Binds.all {K:PySem.W.Frag} {fd:FuncData} {ps:List Str} (h:∀ us:List Value,us.length = ps.length -> bindArgs fd ⟨us,[]⟩ = pure (ps.zip us)):Binds K fd ps []:=fun s us _ hl=>by
 rw [List.append_nil] at hl ⊢
 exact .of_eq (h us hl)
noncomputable def Passes (CX:CXT) (X:Cx) (E:XK):Prop:=∀ (pins:List (Addr × Obj)) (σ:St) (H:Hp) (s:Shared) (e:Value) (s':Shared),Inv X pins σ H s -> CX X.stack H s E e s' -> X.xe e s'
section
variable {X:Cx} {CX:CXT} {k:Nat} {f C:Addr} {fd:FuncData} {ps:List Str} {sp:Sp} {dvs:List V} {ds:List Value} {E:XK} {x m:Str} {p pos apos:Pos} {e o:Expr} {es:List Expr} {ta:TE} {t:TA}
structure Mk (K:PySem.W.Frag) (C f:Addr):Prop where
 makes:PySem.W.makesIn K C = true
 init:PySem.W.findIn K (.ref C) "__init__" = some (some (.ref f))
 fn:PySem.W.isFn K (.ref f) = true
 kp:PySem.W.keepIn K (.ref C) = true
theorem zV {pins:List (Addr × Obj)} {σ:St} {H:Hp} {s:Shared} {Q:VK} {us:List Value} {vs:List V} (M:Mk X.K C f) (F:cw X.prog X.w X.K X.mg X.base CX k f fd ps sp) (hr:gY (k + 1) X.A) (hb:Binds X.K fd ps ds) (hd:Vals dvs ds)
  (hx:Passes CX X E) (I:Inv X pins σ H s) (r:Vals vs us)
  (h:∀ x dx,H x = none -> H dx = none -> dx ≠ x -> sp (.ref x ::(vs ++ dvs)) (upd (upd H dx (.own x)) x (.ins C dx [])) (fun v H2=>v = .non /\ Q (.ref x) H2) E):
  wpAny (model X.prog X.w) X.A (call (.ref C) us) (EP X pins σ Q) X.xe s:=by
 have hq:=h (s.heap.objs.size + 1) s.heap.objs.size (I.hok.fresh (Nat.le_succ _)) (I.hok.fresh (Nat.le_refl _)) (Nat.ne_of_lt (Nat.lt_succ_self _))
 have I2:=Inv.made (C:=C) I
 have r2:Vals (V.ref (s.heap.objs.size + 1) ::(vs ++ dvs)) (Value.ref (s.heap.objs.size + 1) ::(us ++ ds)):=.cons rfl (r.append hd)
 have hl:(Value.ref (s.heap.objs.size + 1) ::us ++ ds).length = ps.length:=by
  have e:=r2.length
  rw [F.len _ _ _ _ hq] at e
  exact e.symm
 refine wpAny_call (A8 (f:=f) I.kIn M.makes M.init (beq_iff_eq.mp M.fn) (codeAny_mono (F.run _ X.stack _ _ ⟨Value.ref (s.heap.objs.size + 1) ::us,[]⟩ (Value.ref (s.heap.objs.size + 1) ::(us ++ ds)) _ _ E (hr.make C us [])
  (I2.EB.make C us []) (hb _ (Value.ref (s.heap.objs.size + 1) ::us) I2.kIn hl) r2 hq) fun r s' hq'=>?_))
 cases r with
 | error e=>exact hx pins σ _ _ e s' I2 hq'
 | ok fl=>
   cases fl with
   | ret u=>
     obtain ⟨v,H',I3,rv,ev,q3⟩:=I2.after hq'
     subst ev
     exact ⟨rv,⟨V.ref (s.heap.objs.size + 1),H',I3,rfl,q3⟩⟩
   | next=>exact False.elim hq'
   | brk=>exact False.elim hq'
   | cont=>exact False.elim hq'
theorem Ac (M:Mk X.K C f) (F:cw X.prog X.w X.K X.mg X.base CX k f fd ps sp) (hr:gY (k + 1) X.A) (hg:Gl X x) (hm:X.mg x = some (.ref C)) (hb:Binds X.K fd ps ds) (hd:Vals dvs ds) (hx:Passes CX X E)
  (hdb:(x == ("__debug__":Str)) = false:=by decide):PE X (.Call (.Name x p) [] [] pos) (BE C sp dvs E kN):=by
 intro pins s σ H Q I h
 refine wpAny_Call_Name_kw (lr I hg hm ?_ hdb)
 exact PySem.W.callWith_K0 I.kIn M.kp (zV (us:=[]) M F hr hb hd hx I .nil h)
end
structure aT (N P:List Str) (sc:Scope):Prop where
 kind:sc.kind = .function
 co:sc.isCoroutine = false
 gen:sc.isGenerator = false
 nd:N.Nodup
 pre:N.take P.length = P
 par:∀ x ∈ P,sc.names.lookup x = some .local \/ sc.names.lookup x = some .cell
 nofree:∀ y ∈ sc.names,y.2 ≠ .free
theorem sU {kindOf:Str -> Option NameKind} {x:Str}:∀ {binds:List (Str × Value)} {m:Str -> Option Value},(∀ v,(x,v) ∉ binds) -> bindL kindOf binds m x = m x
 | [],_,_=>rfl
 | (n,v) ::r,m,h=>by
   unfold bindL
   rw [sU fun w hw=>h w (List.mem_cons_of_mem _ hw)]
   split
   . have:x ≠ n:=by rintro rfl; exact h v List.mem_cons_self
     simp [this]
   . rfl
theorem tw {kindOf:Str -> Option NameKind} {x:Str}:∀ {binds:List (Str × Value)} {m:Str -> Option Value},(∀ v,(x,v) ∉ binds) -> bindC kindOf binds m x = m x
 | [],_,_=>rfl
 | (n,v) ::r,m,h=>by
   unfold bindC
   rw [tw fun w hw=>h w (List.mem_cons_of_mem _ hw)]
   split
   . rfl
   . have:x ≠ n:=by rintro rfl; exact h v List.mem_cons_self
     simp [this]
theorem sX {kindOf:Str -> Option NameKind} {x:Str} {v:Value}:∀ {P:List Str} {vs:List Value} {i:Nat} {m:Str -> Option Value},P.Nodup -> P[i]? = some x -> vs[i]? = some v -> kindOf x = some .local ->
  bindL kindOf (P.zip vs) m x = some v
 | [],_,_,_,_,h,_,_=>by simp at h
 | _ ::_,[],_,_,_,_,h,_=>by simp at h
 | p ::P,w ::vs,0,m,nd,h1,h2,hk=>by
   simp at h1 h2; subst h1; subst h2
   show bindL kindOf ((p,w) ::P.zip vs) m p = _
   unfold bindL
   rw [sU fun v hv=>(List.nodup_cons.mp nd).1 (List.of_mem_zip hv).1,if_pos hk]
   simp
 | p ::P,w ::vs,i + 1,m,nd,h1,h2,hk=>by
   show bindL kindOf ((p,w) ::P.zip vs) m x = _
   unfold bindL
   exact sX (i:=i) (List.nodup_cons.mp nd).2 (by simpa using h1) (by simpa using h2) hk
theorem sG {kindOf:Str -> Option NameKind} {x:Str} {v:Value}:∀ {P:List Str} {vs:List Value} {i:Nat} {m:Str -> Option Value},P.Nodup -> P[i]? = some x -> vs[i]? = some v -> kindOf x ≠ some .local ->
  bindC kindOf (P.zip vs) m x = some v
 | [],_,_,_,_,h,_,_=>by simp at h
 | _ ::_,[],_,_,_,_,h,_=>by simp at h
 | p ::P,w ::vs,0,m,nd,h1,h2,hk=>by
   simp at h1 h2; subst h1; subst h2
   show bindC kindOf ((p,w) ::P.zip vs) m p = _
   unfold bindC
   rw [tw fun v hv=>(List.nodup_cons.mp nd).1 (List.of_mem_zip hv).1,if_neg hk]
   simp
 | p ::P,w ::vs,i + 1,m,nd,h1,h2,hk=>by
   show bindC kindOf ((p,w) ::P.zip vs) m x = _
   unfold bindC
   exact sG (i:=i) (List.nodup_cons.mp nd).2 (by simpa using h1) (by simpa using h2) hk
noncomputable def start (N:List Str) (vs:List V):St:=vs.map some ++ List.replicate (N.length - vs.length) none
noncomputable def oJ (CX:CXT) (P:Program) (w:World) (K:PySem.W.Frag) (mg:Str -> Option Value) (base:Heap) (N:List Str) (qual:Str) (scope:Scope) (f:Addr) (cd:Value) (A:Around) (outer:List Env) (s:Shared) (H:Hp) (E:XK):Cx where
 prog:=P
 w:=w
 K:=K
 mg:=mg
 base:=base
 A:=A.deeper (envOfC qual scope s.heap.objs.size f cd)
 N:=N
 s₀:=s
 H₀:=H
 env:=envOfC qual scope s.heap.objs.size f cd
 outer:=outer
 stack:=envOfC qual scope s.heap.objs.size f cd ::outer
 ex:=[]
 calm:=true
 fn:=fun _=>true
 pn:=[]
 xe:=fun e s'=>wpAny (model P w) (A.deeper (envOfC qual scope s.heap.objs.size f cd)) (leaving (envOfC qual scope s.heap.objs.size f cd) e) (fun _ s''=>CX outer H s E e s'') (fun e' s''=>CX outer H s E e' s'') s'
theorem wc {sc:Scope} {n:Nat} {x:Str} (h:sc.names.lookup x = some .cell):∃ c,(cellsFrom n sc.names []).lookup x = some c:=by
 have q:=PySem.W.cellsFrom_some sc.names n [] (.inl h)
 exact Option.isSome_iff_exists.mp q
theorem zG {CX:CXT} {P:Program} {w:World} {K:PySem.W.Frag} {mg:Str -> Option Value} {base:Heap} {N ps:List Str} {qual:Str} {scope:Scope} {f:Addr} {cd:Value} {A:Around} {outer:List Env} {s s1:Shared} {H:Hp} {E:XK} {us:List Value} {vs:List V}
  (S:aT N ps scope) (hd:A.handled = none) (e0:xB P w K mg base A outer s H) (hl:vs.length = ps.length) (r:Vals vs us)
  (x:InCallC s s.heap.objs.size (bindL (envOfC qual scope s.heap.objs.size f cd).kindOf (ps.zip us) fun _=>none) (cellsFrom (s.heap.objs.size + 1) scope.names []) (bindC (envOfC qual scope s.heap.objs.size f cd).kindOf (ps.zip us) fun _=>none) s1):
  Inv (oJ CX P w K mg base N qual scope f cd A outer s H E) [] (start N vs) H s1:=by
 have hpl:ps.length <= N.length:=by have:=congrArg List.length S.pre; rw [List.length_take] at this; omega
 obtain ⟨h1,tk,rfl,hk⟩:=x.done
 have noA:∀ b:Addr,b ∉ (oJ CX P w K mg base N qual scope f cd A outer s H E).ex:=fun b z=>absurd (show b ∈ ([]:List Addr) from z) (by simp)
 refine ⟨⟨e0.mod,S.kind,rfl,rfl,Nat.le_refl _,fun y z c h1 h2=>?_,fun y hy=>?_,fun y c _ h=>?_,fun _=>hd,Around.frames_deeper e0.frames,.inr ⟨rfl,rfl⟩,fun b z=>absurd z (noA b),e0.bs,e0.bsz,fun b _ _=>noA b,fun b z=>absurd z (noA b),e0.qr,e0.frf⟩,
  rfl,e0.bare,Un.kept hk,⟨_,x.toInCall.ns,fun i y v h1 h2 h3=>?_⟩,fun y c h=>⟨_,x.cell y c h⟩,e0.hok.fresh (Nat.le_refl _),fun y c h=>?_,fun p hp=>absurd (show p ∈ ([]:List (Addr × Obj)) from hp) (by simp),e0.hok.kept hk,?_⟩
 . exact name_of_addr x.apart (PySem.mem_of_lookup h1) (PySem.mem_of_lookup h2)
 . have hy:scope.names.lookup y = some .cell \/ scope.names.lookup y = some .free:=hy
   rcases hy with hy | hy
   . exact wc hy
   . exact absurd rfl (S.nofree _ (PySem.mem_of_lookup hy))
 . exact Nat.le_of_lt (x.above y c (PySem.mem_of_lookup h))
 . have hi:i < vs.length:=by
    unfold start at h2
    by_cases hi:i < vs.length
    . exact hi
    . rw [List.getElem?_append_right (by simpa using hi)] at h2
      rw [List.getElem?_replicate] at h2
      split at h2 <;> cases h2
   have ha:vs[i]? = some v:=by
    unfold start at h2
    rw [List.getElem?_append_left (by simpa using hi),List.getElem?_map] at h2
    cases e:vs[i]? with
    | none=>rw [e] at h2; cases h2
    | some a=>rw [e] at h2; cases h2; rfl
   obtain ⟨u,hu,rv⟩:=r.get ha
   have hp:ps[i]? = some y:=by
    rw [<- S.pre,List.getElem?_take_of_lt (by omega)]; exact h1
   have ndP:ps.Nodup:=by rw [<- S.pre]; exact S.nd.sublist (List.take_sublist _ _)
   refine ⟨u,rv,?_⟩
   rcases S.par y (List.mem_of_getElem? hp) with k | k
   . exact .inl ⟨k,sX ndP hp hu k⟩
   . obtain ⟨c,e⟩:=wc (n:=s.heap.objs.size + 1) k
     refine .inr ⟨.inl k,c,e,?_⟩
     have q:=x.cell y c e
     rw [sG ndP hp hu (by show scope.names.lookup y ≠ _; rw [k]; decide)] at q
     exact q
 . exact e0.hok.fresh (Nat.le_of_lt (x.above y c (PySem.mem_of_lookup h)))
 . unfold start
   show _ = N.length
   rw [List.length_append,List.length_map,List.length_replicate]
   omega
theorem Ha {CX:CXT} {P:Program} {w:World} {K:PySem.W.Frag} {mg:Str -> Option Value} {base:Heap} {k:Nat} {f:Addr} {name qual:Str} {params:Arguments} {body:List Stmt} {scope:Scope} {dV kV doc pm cdv ct oc:Value} {an od:Option Addr}
  {osl:Array (Option Value)} {N ps:List Str} {sp:Sp} (lk:K.lookup f = some ⟨oc,od,.func (PySem.W.fnOf name qual params body scope dV kV doc pm an cdv ct),osl⟩) (hcd:PySem.W.codeIn K cdv qual = true) (S:aT N ps scope)
  (len:∀ vs H Q E,sp vs H Q E -> vs.length = ps.length)
  (hbody:∀ (A:Around) (outer:List Env) (s:Shared) (H:Hp) (vs:List V) (Q:VK) (E:XK),gY k (A.deeper (envOfC qual scope s.heap.objs.size f cdv)) -> sp vs H Q E ->
    ∃ t,PSs (oJ CX P w K mg base N qual scope f cdv A outer s H E) body t /\ t { nx:=fun _ H'=>Q .non H',rt:=Q } (start N vs) H):
  cw P w K mg base CX (k + 1) f (PySem.W.fnOf name qual params body scope dV kV doc pm an cdv ct) ps sp:=by
 refine ⟨len,fun A outer s H args us vs Q E hr e0 hb r hsp=>?_⟩
 have hl:=len _ _ _ _ hsp
 have KX:K.In s.heap:=e0.mod.kin.keeps fun b o e=>(e0.bs b o e).1
 have lim:s.heap.NoLimit:=e0.mod.nolimit.keeps fun b o e=>(e0.bs b o e).1
 have hkind:∀ y ∈ ps.zip us,scope.names.lookup y.1 = some .local \/ (scope.names.lookup y.1 = some .cell /\ ((cellsFrom (s.heap.objs.size + 1) scope.names []).lookup y.1).isSome = true):=fun ⟨n,v⟩ hy=>by
  rcases S.par n (List.of_mem_zip hy).1 with q | q
  . exact .inl q
  . exact .inr ⟨q,PySem.W.cellsFrom_some _ _ _ (.inl q)⟩
 refine codeAny_call_function hr.depth (KX _ _ lk) rfl S.co S.gen rfl (PySem.W.codeRec_of KX hcd) (hb _ _ _ _ ?_)
 refine wpAny_newFunctionEnv_cells S.kind hkind fun env he s1 x=>?_
 subst he
 refine ⟨lim.keeps x.toInCall.keep,codeAny_func ?_⟩
 obtain ⟨t,ht,hq⟩:=hbody A outer s H vs Q E (hr.deeper _) hsp
 have I:Inv (oJ CX P w K mg base N qual scope f cdv A outer s H E) [] (start N vs) H s1:=zG S hr.hd e0 hl r x
 refine wpAny_mono (ht [] s1 (start N vs) H _ I hq) (fun fl s' hs=>?_) fun e s' hs=>hs
 have fin:∀ {σ':St} {H':Hp} {v:V} {u:Value},Inv (oJ CX P w K mg base N qual scope f cdv A outer s H E) [] σ' H' s' -> RelV v u -> Q v H' -> CE outer P w H s Q u s':=
  fun {σ' H' v u} J rv q=>⟨v,H',J.os,J.bare,J.base,J.hok,rv,q⟩
 cases fl with
 | ret u=>
   obtain ⟨v,σ',H',J,rv,q⟩:=hs
   exact fin J rv q
 | next=>
   obtain ⟨σ',H',J,q⟩:=hs
   exact fin (v:=V.non) (u:=Value.none) J rfl q
 | brk=>
   obtain ⟨_,_,_,q⟩:=hs
   exact False.elim q
 | cont=>
   obtain ⟨_,_,_,q⟩:=hs
   exact False.elim q
end L2
namespace L2
open PySem PySem.Spec PyProof.Rows
section
variable {X:Cx} {x:Str} {p pos:Pos} {e:Expr} {es:List Expr} {t:TA} {id T:String} {r:List V -> Hp -> VK -> Prop}
noncomputable def tCB (r:List V -> Hp -> VK -> Prop) (t:TA):TE:=fun σ H Q=>t σ H fun vs H1=>r vs H1 Q
theorem zR (hc:mw X (.builtin id) r) (hg:Gl X x) (hm:X.mg x = none) (hv:bootBuiltins x = some (.builtin id)) (ha:PA X (e ::es) t) (hn:x ≠ "__name__":=by decide) (hdb:(x == ("__debug__":Str)) = false:=by decide)
  (he:starEach (e ::es) X.env = (false,eval e X.env) ::starEach es X.env:=by rfl) (hpl:(backTo pos (starEach es X.env)).any (·.1) = false:=by rfl):PE X (.Call (.Name x p) (e ::es) [] pos) (tCB r t):=by
 intro pins s σ H Q I h
 refine wpAny_Call_Name_kw (qG I hg hm hv ?_ hn hdb)
 exact PyProof.Rows.callWith_builtin1 (thn (ha pos pins s σ H _ I h) fun us s1 ⟨vs,H1,I1,r1,q1⟩=>hc pins s1 σ H1 vs us Q I1 r1 q1) he hpl
theorem zo (hc:mw X (.type T) r) (hg:Gl X x) (hm:X.mg x = none) (hv:bootBuiltins x = some (.type T)) (ha:PA X (e ::es) t) (hn:x ≠ "__name__":=by decide) (hdb:(x == ("__debug__":Str)) = false:=by decide)
  (he:starEach (e ::es) X.env = (false,eval e X.env) ::starEach es X.env:=by rfl) (hpl:(backTo pos (starEach es X.env)).any (·.1) = false:=by rfl):PE X (.Call (.Name x p) (e ::es) [] pos) (tCB r t):=by
 intro pins s σ H Q I h
 refine wpAny_Call_Name_kw (qG I hg hm hv ?_ hn hdb)
 exact PyProof.Rows.callWith_type1 (thn (ha pos pins s σ H _ I h) fun us s1 ⟨vs,H1,I1,r1,q1⟩=>hc pins s1 σ H1 vs us Q I1 r1 q1) he hpl
end
end L2
namespace HT
open PySem PyProof.Rows
section
open PySem.SeqAt
open PySem.AutoSeq1 (wpAny_loadPart')
open PySem.MeetsSeq PySem.MeetsSeq2 PySem.MeetsSeq3
end
section
variable {prog:Program} {w:World} {A:Around} {E:Value -> Shared -> Prop} {s:Shared}
noncomputable def sIx (n d:Nat):Option Int -> Nat
 | none=>d
 | some v=>if v < 0 then (v + (n:Int)).toNat else min v.toNat n
end
end HT
namespace L2
open PySem PySem.Spec PyProof.Rows
abbrev TO:=St -> Hp -> (Option Int -> Hp -> Prop) -> Prop
noncomputable def PO (X:Cx) (e:Option Expr) (t:TO):Prop:=
 ∀ (pins:List (Addr × Obj)) (s:Shared) (σ:St) (H:Hp) (Q:Option Int -> Hp -> Prop),Inv X pins σ H s -> t σ H Q ->
   wpAny (model X.prog X.w) X.A (evalPart e X.env) (fun u s'=>∃ o H',Inv X pins σ H' s' /\ IsPart u o /\ Q o H') X.xe s
noncomputable def tT:TO:=fun _ H Q=>Q none H
noncomputable def Bs (t:TE):TO:=fun σ H Q=>t σ H fun x H1=>∃ i,x = .int i /\ Q (some i) H1
section
variable {X:Cx} {e:Expr} {te:TE} {lo hi:Option Expr} {tl th:TO} {pos p2:Pos}
theorem B3:PO X none tT:=by
 intro pins s σ H Q I h
 rw [evalPart_none]
 exact wpAny_pure ⟨none,H,I,.none,h⟩
theorem CK (h:PE X e te):PO X (some e) (Bs te):=by
 intro pins s σ H Q I hw
 rw [evalPart_some]
 refine thn (h pins s σ H _ I hw) fun u s1 ⟨x,H1,I1,r1,q1⟩=>?_
 obtain ⟨i,rfl,q⟩:=q1
 obtain ⟨t,rfl⟩:=r1
 exact ⟨some i,H1,I1,.int i t,q⟩
noncomputable def SlR (X:Cx) (r:V -> Option Int -> Option Int -> Hp -> VK -> Prop):Prop:=
 ∀ (pins:List (Addr × Obj)) (s:Shared) (σ:St) (H:Hp) (x:V) (v vl vu:Value) (lo hi:Option Int) (sl:Addr) (Q:VK),Inv X pins σ H s -> RelV x v -> s.heap.IsSliceOf sl vl vu .none -> IsPart vl lo -> IsPart vu hi -> r x lo hi H Q ->
   ∃ T id,typeLookup (.type T) "__getitem__" = pure (some (.builtin id)) /\ s.TypeIs v T /\ wpAny (model X.prog X.w) X.A (getItem v (.ref sl)) (EP X pins σ Q) X.xe s
noncomputable def tSl (r:V -> Option Int -> Option Int -> Hp -> VK -> Prop) (te:TE) (tl th:TO):TE:=fun σ H Q=>te σ H fun x H1=>tl σ H1 fun l H2=>th σ H2 fun u H3=>r x l u H3 Q
theorem AM {r:V -> Option Int -> Option Int -> Hp -> VK -> Prop} (hr:SlR X r) (he:PE X e te) (hl:PO X lo tl) (hu:PO X hi th):PE X (.Subscript e (.Slice lo hi none p2) pos) (tSl r te tl th):=by
 intro pins s σ H Q I h
 refine Subscript_ (thn (he pins s σ H _ I h) fun v s1 ⟨x,H1,I1,r1,q1⟩=>?_)
 refine wpAny_Slice (thn (hl pins s1 σ H1 _ I1 q1) fun vl s2 ⟨l,H2,I2,pl,q2⟩=>thn (hu pins s2 σ H2 _ I2 q2) fun vu s3 ⟨u,H3,I3,pu,q3⟩=>?_)
 rw [evalPart_none]
 refine wpAny_pure ?_
 have I4:Inv X pins σ H3 { s3 with heap:=s3.heap.push { cls:=.type "slice",data:=.fields #[vl,vu,.none] } }:=I3.kept (t':=s3.toks) fun b ob q=>Heap.get?_push_of_some _ q
 obtain ⟨T,id,hT,ht,hg⟩:=hr pins { s3 with heap:=s3.heap.push { cls:=.type "slice",data:=.fields #[vl,vu,.none] } } σ H3 x v vl vu l u s3.heap.objs.size Q I4 r1 (Heap.IsSliceOf.new ..) pl pu q3
 show wpAny (model X.prog X.w) X.A (subscriptTail e (.Slice lo hi none p2) v (.ref s3.heap.objs.size)) (EP X pins σ Q) X.xe { s3 with heap:=s3.heap.push { cls:=.type "slice",data:=.fields #[vl,vu,.none] } }
 exact tail_any (ops:=[.ref s3.heap.objs.size,v]) ht hT hg (by with_unfolding_all rfl)
noncomputable def zF (xs:List V) (lo hi:Option Int):List V:=(xs.drop (HT.sIx xs.length 0 lo)).take (HT.sIx xs.length xs.length hi - HT.sIx xs.length 0 lo)
theorem wj (xs:List V) (lo hi:Option Int):(zF xs lo hi).length <= xs.length:=by
 unfold zF
 rw [List.length_take,List.length_drop]
 omega
end
end L2
namespace L2
open PySem PySem.Spec PyProof.Rows
noncomputable def ixN (n:Nat) (i:Int):Option Nat:=if 0 <= i then (if i < n then some i.toNat else none) else if -(n:Int) <= i then some (i + n).toNat else none
noncomputable def atI {α:Type} (xs:List α) (i:Int):Option α:=(ixN xs.length i).bind fun j=>xs[j]?
theorem yE {n:Nat} {i:Int} {j:Nat} (h:ixN n i = some j):seqIndex? i n = some j /\ j < n /\ -(n:Int) <= i /\ i < n:=by
 unfold ixN at h
 by_cases h0:0 <= i
 . rw [if_pos h0] at h
   by_cases h1:i < n
   . rw [if_pos h1] at h
     have e:i.toNat = j:=Option.some.inj h
     exact ⟨by rw [seqIndex_of h0 h1,e],by omega,by omega,h1⟩
   . rw [if_neg h1] at h; cases h
 . rw [if_neg h0] at h
   by_cases h1:-(n:Int) <= i
   . rw [if_pos h1] at h
     have e:(i + n).toNat = j:=Option.some.inj h
     exact ⟨by rw [seqIndex_neg (by omega) h1,e],by omega,h1,by omega⟩
   . rw [if_neg h1] at h; cases h
theorem yf {α:Type} {xs:List α} {i:Int} {v:α} (h:atI xs i = some v):∃ j,seqIndex? i xs.length = some j /\ xs[j]? = some v /\ j < xs.length /\ -(xs.length:Int) <= i /\ i < xs.length:=by
 unfold atI at h
 cases e:ixN xs.length i with
 | none=>rw [e] at h; cases h
 | some j=>
   rw [e] at h
   obtain ⟨h1,h2,h3,h4⟩:=yE e
   exact ⟨j,h1,h,h2,h3,h4⟩
noncomputable def xZ (b:Expr):Prop:=∀ o i,subscripted b false o i = operate [o,i] (getItem o i)
noncomputable def IxR (X:Cx) (r:R2):Prop:=
 ∀ (value slice:Expr) (pins:List (Addr × Obj)) (s:Shared) (σ:St) (H:Hp) (x y:V) (v u:Value) (Q:VK),Inv X pins σ H s -> RelV x v -> RelV y u -> r x y H Q ->
   subscripted slice false v u = operate [v,u] (getItem v u) -> wpAny (model X.prog X.w) X.A (subscriptTail value slice v u) (EP X pins σ Q) X.xe s
noncomputable def MtR (X:Cx) (id:String) (r:V -> List V -> Hp -> VK -> Prop):Prop:=
 ∀ (pins:List (Addr × Obj)) (s:Shared) (σ:St) (H:Hp) (x:V) (xs:List V) (v:Value) (us:List Value) (Q:VK),Inv X pins σ H s -> RelV x v -> Vals xs us -> r x xs H Q ->
   wpAny (model X.prog X.w) X.A (call (.builtin id) (v ::us)) (EP X pins σ Q) X.xe s
section
variable {X:Cx} {a b:Expr} {ta tb:TE} {pos:Pos}
theorem GS {r:R2} (hr:IxR X r) (ha:PE X a ta) (hb:PE X b tb) (hs:xZ b):PE X (.Subscript a b pos) (tOp r ta tb):=by
 intro pins s σ H Q I h
 exact Subscript_ (Ft ha hb I h fun v u s2 x y H2 I2 rx ry q=>hr a b pins s2 σ H2 x y v u Q I2 rx ry q (hs _ _))
noncomputable def GI (K:PySem.W.Frag):R2:=fun x y H Q=>∃ p xs i v,x = .ref p /\ y = .int i /\ SqL K H p xs /\ atI xs i = some v /\ Q v H
noncomputable def GQ (K:PySem.W.Frag):R2:=fun x y H Q=>∃ p xs i v,x = .ref p /\ y = .int i /\ SqT K H p xs /\ atI xs i = some v /\ Q v H
theorem eE:IxR X (GI X.K):=by
 intro value slice pins s σ H x y v u Q I rx ry h hs
 obtain ⟨p,xs,i,z,rfl,rfl,hq,he,q⟩:=h
 cases rx
 obtain ⟨t,rfl⟩:=ry
 obtain ⟨its,r,pl,hz⟩:=I.list hq
 obtain ⟨j,h1,h2,h3,h4,h5⟩:=yf he
 obtain ⟨w,ew,rw'⟩:=r.get h2
 have hl:=r.length
 have hn:=qI
 have fin:EP X pins σ Q w s:=⟨z,H,I,rw',q⟩
 by_cases h0:0 <= i
 . have hj:i.toNat = j:=by
    rw [seqIndex_of h0 h5] at h1
    exact Option.some.inj h1
   exact item_listR pl.isList h0 (by omega) (by rw [hj]; simpa using ew) fin hs
 . have hj:(i + (its.toArray.size:Int)).toNat = j:=by
    rw [seqIndex_neg (by omega) h4] at h1
    rw [List.size_toArray,<- hl]
    exact Option.some.inj h1
   exact subscriptTail_builtinR (x:=w) pl.isList.typeIs slot_list_getitem.lookup
    (wpAny_getItem_list_neg (Q:=fun r s'=>r = w /\ EP X pins σ Q r s') pl.isList (by omega) (by rw [List.size_toArray] <;> omega) (by omega) (by rw [hj]; simpa using ew) ⟨rfl,fin⟩) hs
theorem eY:IxR X (GQ X.K):=by
 intro value slice pins s σ H x y v u Q I rx ry h hs
 obtain ⟨p,xs,i,z,rfl,rfl,hq,he,q⟩:=h
 cases rx
 obtain ⟨t,rfl⟩:=ry
 obtain ⟨its,r,pl,hz⟩:=I.tuple hq
 obtain ⟨j,h1,h2,h3,h4,h5⟩:=yf he
 obtain ⟨w,ew,rw'⟩:=r.get h2
 have hl:=r.length
 have hn:=qI
 have fin:EP X pins σ Q w s:=⟨z,H,I,rw',q⟩
 exact subscriptTail_builtinR (x:=w) pl.typeIs slot_tuple_getitem.lookup
  (getItem_tuple (j:=j) (Q:=fun r s'=>r = w /\ EP X pins σ Q r s') pl (by omega) (by omega) (by rw [List.size_toArray,<- hl]; exact h1) (by simpa using ew) ⟨rfl,fin⟩) hs
theorem xn (its:List Value) (n j:Nat) (u:Value):Obj.mapSeq (·.setIfInBounds j u) { cls:=.type "list",data:=.seq its.toArray n } = { cls:=.type "list",data:=.seq (its.set j u).toArray n }:=by
 simp [Obj.mapSeq]
theorem Inv.lst {pins:List (Addr × Obj)} {σ:St} {H:Hp} {s:Shared} {p:Addr} {xs:List V} (I:Inv X pins σ H s) (h:H p = some (.lst xs)):
  ∃ (its:List Value) (n:Nat),Vals xs its /\ s.heap.get? p = some { cls:=.type "list",data:=.seq its.toArray n } /\ xs.length <= sizeLine:=by
 obtain ⟨z,its,n,r,e⟩:=I.hok p _ h
 exact ⟨its,n,r,e,z⟩
theorem Inv.EN {pins:List (Addr × Obj)} {σ:St} {H:Hp} {s:Shared} {p:Addr} {xs ys:List V} {its its':List Value} {n n':Nat} {f:Obj -> Obj} (I:Inv X pins σ H s) (h:H p = some (.lst xs))
  (ho:s.heap.get? p = some { cls:=.type "list",data:=.seq its.toArray n }) (hf:f { cls:=.type "list",data:=.seq its.toArray n } = { cls:=.type "list",data:=.seq its'.toArray n' }) (r:Vals ys its') (hz:ys.length <= sizeLine) (t:Nat):
  Inv X pins σ (upd H p (.lst ys)) { s with heap:=s.heap.update p f,toks:=t }:=by
 have e:(s.heap.update p f).get? p = some { cls:=.type "list",data:=.seq its'.toArray n' }:=by
  rw [Heap.get?_update_self f ho (by rw [hf] <;> rfl),hf]
 refine I.write (x:=p) (e:=p) (by rw [h]; trivial) (.inl rfl) (fun b u hb q=>(Heap.get?_update_other _ _ (Ne.symm hb)).trans q) ⟨_,e⟩ ?_
 exact ⟨hz,its',n',r,e⟩
noncomputable def DN:V -> V -> V -> Hp -> (Hp -> Prop) -> Prop:=fun o i v H Q=>∃ p xs k j,o = .ref p /\ i = .int k /\ H p = some (.lst xs) /\ ixN xs.length k = some j /\ Q (upd H p (.lst (xs.set j v)))
theorem set_list:EJ X DN:=by
 intro pins s σ H o i v ov iv u Q I ro ri rv h
 obtain ⟨p,xs,k,j,rfl,rfl,hp,hj,q⟩:=h
 cases ro
 obtain ⟨t,rfl⟩:=ri
 obtain ⟨its,n,r,ho,hz⟩:=I.lst hp
 obtain ⟨h1,h2,h3,h4⟩:=yE hj
 have hl:=r.length
 have hn:=qI
 have I':Inv X pins σ (upd H p (.lst (xs.set j v))) { s with heap:=s.heap.update p (Obj.mapSeq (·.setIfInBounds j u)) }:=
  I.EN hp ho (xn its n j u) (r.set rv j) (by rw [List.length_set]; exact hz) s.toks
 by_cases h0:0 <= k
 . have hk:k.toNat = j:=by
    rw [seqIndex_of h0 h4] at h1
    exact Option.some.inj h1
   exact PySem.W.ki_setAt ho h0 (by omega) (by rw [List.size_toArray,<- hl]; exact h4) (by rw [hk]; exact ⟨_,I',q⟩)
 . have hk:(k + (its.toArray.size:Int)).toNat = j:=by
    rw [seqIndex_neg (by omega) h3] at h1
    rw [List.size_toArray,<- hl]
    exact Option.some.inj h1
   exact PySem.W.ki_setBack ho (by omega) (by rw [List.size_toArray,<- hl]; exact h3) (by omega) (by rw [hk]; exact ⟨_,I',q⟩)
theorem tO (lo hi:Option Int) (n:Nat):(sliceBounds lo hi none n).1 = ((HT.sIx n 0 lo:Nat):Int) /\ (sliceBounds lo hi none n).2.1 = ((HT.sIx n n hi:Nat):Int) /\ (sliceBounds lo hi none n).2.2 = 1:=by
 refine ⟨?_,?_,rfl⟩
 . cases lo with
   | none=>simp [sliceBounds,HT.sIx]
   | some i=>
     simp only [sliceBounds,HT.sIx,Option.getD_none,show (1:Int) > 0 by decide,if_true]
     by_cases h:i < 0
     . simp only [h,if_true] <;> omega
     . simp only [h,if_false] <;> omega
 . cases hi with
   | none=>simp [sliceBounds,HT.sIx]
   | some i=>
     simp only [sliceBounds,HT.sIx,Option.getD_none,show (1:Int) > 0 by decide,if_true]
     by_cases h:i < 0
     . simp only [h,if_true] <;> omega
     . simp only [h,if_false] <;> omega
theorem sd (its:List Value) (lo hi:Option Int):slicePick its.toArray lo hi none = ((its.drop (HT.sIx its.length 0 lo)).take (HT.sIx its.length its.length hi - HT.sIx its.length 0 lo)).toArray:=by
 obtain ⟨h1,h2,h3⟩:=tO lo hi its.toArray.size
 unfold slicePick
 rw [h1,h2,h3]
 simp only [sliceRange_one,pick_run,List.size_toArray] <;> rfl
noncomputable def GZ (K:PySem.W.Frag):V -> Option Int -> Option Int -> Hp -> VK -> Prop:=fun x lo hi H Q=>∃ a xs,x = .ref a /\ SqL K H a xs /\ ∀ p,H p = none -> Q (.ref p) (upd H p (.lst (zF xs lo hi)))
theorem kd:SlR X (GZ X.K):=by
 intro pins s σ H x v vl vu lo hi sl Q I rx hs pl pu h
 obtain ⟨a,xs,rfl,hx,q⟩:=h
 cases rx
 obtain ⟨its,r,ht,hz⟩:=I.list hx
 have hlen:=r.length
 refine ⟨"list",_,slot_list_getitem.lookup,ht.isList.typeIs,?_⟩
 refine wpAny_getItem_list_slice ht.isList hs pl pu .none (by simp) ?_ (by rw [List.size_toArray] <;> omega)
 rw [sd,<- hlen]
 refine ⟨.ref s.heap.objs.size,_,I.laid (t':=s.toks) (o:=.lst (zF xs lo hi)) (fun b ob q=>Heap.get?_push_of_some _ q) (Nat.le_refl _) ?_,rfl,q _ (I.hok.fresh (Nat.le_refl _))⟩
 exact ⟨Nat.le_trans (wj xs lo hi) hz,_,0,(r.drop (HT.sIx xs.length 0 lo)).take (HT.sIx xs.length xs.length hi - HT.sIx xs.length 0 lo),Heap.get?_push_size _ rfl⟩
noncomputable def nT:V -> Bool
 | .non=>true
 | .bl _=>true
 | .int _=>true
 | .str _=>true
 | _=>false
noncomputable def eqV:V -> V -> Bool
 | .non,.non=>true
 | .bl a,.bl b=>a == b
 | .bl a,.int b=>(if a then 1 else 0) == b
 | .int a,.bl b=>a == (if b then 1 else 0)
 | .int a,.int b=>a == b
 | .str a,.str b=>a == b
 | _,_=>false
theorem Ee {A:Around} {s:Shared} {y x:V} {u v:Value} (ry:RelV y u) (rx:RelV x v) (fy:nT y = true) (fx:nT x = true):SeqAt.EqAt A s u v (eqV y x):=by
 cases y with
 | non=>
   cases ry
   cases x with
   | non=>cases rx; exact SeqAt.EqAt.same _
   | bl b=>cases rx; exact SeqAt.EqAt.none_bool b
   | int b=>obtain ⟨t,rfl⟩:=rx; exact SeqAt.EqAt.none_int b t
   | str b=>obtain ⟨t,rfl⟩:=rx; exact SeqAt.EqAt.none_str b t
   | _=>exact absurd (show false = true from fx) Bool.false_ne_true
 | bl a=>
   cases ry
   cases x with
   | non=>cases rx; exact SeqAt.EqAt.bool_none a
   | bl b=>cases rx; exact SeqAt.EqAt.bool_bool a b
   | int b=>obtain ⟨t,rfl⟩:=rx; exact SeqAt.EqAt.bool_int a b t
   | str b=>obtain ⟨t,rfl⟩:=rx; exact SeqAt.EqAt.bool_str a b t
   | _=>exact absurd (show false = true from fx) Bool.false_ne_true
 | int a=>
   obtain ⟨t',rfl⟩:=ry
   cases x with
   | non=>cases rx; exact SeqAt.EqAt.int_none a t'
   | bl b=>cases rx; exact SeqAt.EqAt.int_bool a t' b
   | int b=>obtain ⟨t,rfl⟩:=rx; exact SeqAt.EqAt.int_int a t' b t
   | str b=>obtain ⟨t,rfl⟩:=rx; exact SeqAt.EqAt.int_str a t' b t
   | _=>exact absurd (show false = true from fx) Bool.false_ne_true
 | str a=>
   obtain ⟨t',rfl⟩:=ry
   cases x with
   | non=>cases rx; exact SeqAt.EqAt.str_none a t'
   | bl b=>cases rx; exact SeqAt.EqAt.str_bool a t' b
   | int b=>obtain ⟨t,rfl⟩:=rx; exact SeqAt.EqAt.str_int a t' b t
   | str b=>obtain ⟨t,rfl⟩:=rx; exact SeqAt.EqAt.str_str a t' b t
   | _=>exact absurd (show false = true from fx) Bool.false_ne_true
 | _=>exact absurd (show false = true from fy) Bool.false_ne_true
noncomputable def eqU (x:V) (u:Value):Bool:=match u with
 | .none=>eqV .non x
 | .bool b=>eqV (.bl b) x
 | .int i _=>eqV (.int i) x
 | .str z _=>eqV (.str z) x
 | _=>false
theorem zP {x y:V} {u:Value} (r:RelV y u) (f:nT y = true):eqU x u = eqV y x:=by
 cases y with
 | non=>cases r; rfl
 | bl b=>cases r; rfl
 | int i=>obtain ⟨t,rfl⟩:=r; rfl
 | str z=>obtain ⟨t,rfl⟩:=r; rfl
 | _=>exact absurd (show false = true from f) Bool.false_ne_true
theorem oW {x:V}:∀ {xs:List V} {us:List Value},Vals xs us -> xs.all nT = true -> us.any (eqU x) = xs.any fun y=>eqV y x
 | _,_,.nil,_=>rfl
 | y ::xs,u ::us,.cons r t,f=>by
   rw [List.all_cons,Bool.and_eq_true] at f
   rw [List.any_cons,List.any_cons,zP r f.1,oW t f.2]
theorem mJ {A:Around} {s:Shared} {x:V} {v:Value} (rx:RelV x v) (fx:nT x = true):∀ {xs:List V} {us:List Value},Vals xs us -> xs.all nT = true -> ∀ u ∈ us,SeqAt.EqAt A s u v (eqU x u)
 | _,_,.nil,_=>fun u hu=>by cases hu
 | y ::xs,u ::us,.cons r t,f=>fun u' hu=>by
   rw [List.all_cons,Bool.and_eq_true] at f
   rcases List.mem_cons.mp hu with rfl | hu
   . rw [zP r f.1]; exact Ee r rx f.1 fx
   . exact mJ rx fx t f.2 u' hu
noncomputable def inV (x:V) (xs:List V):Bool:=xs.any fun y=>eqV y x
noncomputable def rIn (K:PySem.W.Frag) (neg:Bool):R2:=fun x y H Q=>∃ p xs,y = .ref p /\ (SqL K H p xs \/ SqT K H p xs) /\ nT x = true /\ xs.all nT = true /\ Q (.bl (if neg then !inV x xs else inV x xs)) H
theorem zh:OpR X (compareOp .In) (rIn X.K false):=by
 intro pins s σ H x y v u Q I rx ry h
 obtain ⟨p,xs,rfl,hq,fx,fs,q⟩:=h
 cases ry
 rcases hq with hq | hq
 . obtain ⟨its,r,pl,hz⟩:=I.list hq
   refine SeqAt.in_listAt (eqU x) pl.isList (fun w hw=>mJ rx fx r fs w (by simpa using hw)) ⟨.bl _,H,I,rfl,?_⟩
   rw [show its.toArray.any (eqU x) = its.any (eqU x) by simp,oW r fs]
   exact q
 . obtain ⟨its,r,pl,hz⟩:=I.tuple hq
   refine SeqAt.in_tupleAt (eqU x) pl (fun w hw=>mJ rx fx r fs w (by simpa using hw)) ⟨.bl _,H,I,rfl,?_⟩
   rw [show its.toArray.any (eqU x) = its.any (eqU x) by simp,oW r fs]
   exact q
theorem tU:OpR X (compareOp .NotIn) (rIn X.K true):=by
 intro pins s σ H x y v u Q I rx ry h
 obtain ⟨p,xs,rfl,hq,fx,fs,q⟩:=h
 cases ry
 rcases hq with hq | hq
 . obtain ⟨its,r,pl,hz⟩:=I.list hq
   refine SeqAt.notIn_listAt (eqU x) pl.isList (fun w hw=>mJ rx fx r fs w (by simpa using hw)) ⟨.bl _,H,I,rfl,?_⟩
   rw [show its.toArray.any (eqU x) = its.any (eqU x) by simp,oW r fs]
   exact q
 . obtain ⟨its,r,pl,hz⟩:=I.tuple hq
   refine SeqAt.notIn_tupleAt (eqU x) pl (fun w hw=>mJ rx fx r fs w (by simpa using hw)) ⟨.bl _,H,I,rfl,?_⟩
   rw [show its.toArray.any (eqU x) = its.any (eqU x) by simp,oW r fs]
   exact q
theorem cg:mw X (.builtin "len") (fun xs H Q=>∃ p ys,xs = [.ref p] /\ (SqL X.K H p ys \/ SqT X.K H p ys) /\ Q (.int ys.length) H):=by
 intro pins s σ H xs us Q I r h
 obtain ⟨p,ys,rfl,hq,q⟩:=h
 obtain ⟨u,rfl,rx⟩:=vals1 r
 cases rx
 have hn:=qI
 rcases hq with hq | hq
 . obtain ⟨its,r',pl,hz⟩:=I.list hq
   have hlen:=r'.length
   exact Calls.call_len_list pl.isList (by simp only [List.size_toArray] <;> omega) ⟨.int ys.length,H,I.tok _,⟨s.toks + 1,by rw [List.size_toArray,hlen]⟩,q⟩
 . obtain ⟨its,r',pl,hz⟩:=I.tuple hq
   have hlen:=r'.length
   exact len_tuple pl (by simp only [List.size_toArray] <;> omega) ⟨.int ys.length,H,I.tok _,⟨s.toks + 1,by rw [List.size_toArray,hlen]⟩,q⟩
noncomputable def tyV (K:PySem.W.Frag) (T:String) (x:V) (H:Hp):Prop:=match x with
 | .str _=>T = "str"
 | .int _=>T = "int"
 | .ref p=>(T = "list" /\ ∃ xs,SqL K H p xs) \/ (T = "tuple" /\ ∃ o,K.lookup p = some o /\ o.cls = .type "tuple" /\ o.dict = none) \/
    (T = "dict" /\ ((∃ kvs,H p = some (.dK kvs)) \/ ∃ kvs,H p = some (.dT kvs))) \/ (T = "set" /\ ∃ S n,H p = some (.set S n))
 | _=>False
theorem BA {pins:List (Addr × Obj)} {σ:St} {H:Hp} {s:Shared} {T:String} {x:V} {v:Value} (I:Inv X pins σ H s) (r:RelV x v) (ty:tyV X.K T x H):
  s.TypeIs v T /\ ∀ a,v = .ref a -> ∃ ob,s.heap.get? a = some ob /\ ob.dict = none:=by
 cases x with
 | str z=>
   obtain ⟨t,rfl⟩:=r
   cases (show T = "str" from ty)
   exact ⟨typeIs_str s z t,fun _ e=>nomatch e⟩
 | int i=>
   obtain ⟨t,rfl⟩:=r
   cases (show T = "int" from ty)
   exact ⟨typeIs_int s i t,fun _ e=>nomatch e⟩
 | ref p=>
   cases r
   rcases ty with ⟨rfl,xs,hq⟩ | ⟨rfl,o,hk,hc,hd⟩ | ⟨rfl,hk⟩ | ⟨rfl,S,n,hk⟩
   . obtain ⟨its,_,pl,_⟩:=I.list hq
     refine ⟨pl.isList.typeIs,fun a e=>?_⟩
     cases e
     obtain ⟨o,n,e,c,hd,_⟩:=pl
     exact ⟨o,e,hd⟩
   . refine ⟨⟨o,I.kIn p o hk,hc⟩,fun a e=>?_⟩
     cases e
     exact ⟨o,I.kIn _ o hk,hd⟩
   . have z:∃ o,s.heap.get? p = some o /\ o.ExactDict:=by
      rcases hk with ⟨kvs,hk⟩ | ⟨kvs,hk⟩
      . obtain ⟨_,_,_,_,o,_,_,e,ex,_⟩:=I.hok p _ hk
        exact ⟨o,e,ex⟩
      . obtain ⟨_,_,_,_,o,_,_,e,ex,_⟩:=I.hok p _ hk
        exact ⟨o,e,ex⟩
     obtain ⟨o,e,ex⟩:=z
     refine ⟨⟨o,e,ex.1⟩,fun a e2=>?_⟩
     cases e2
     exact ⟨o,e,ex.2.1⟩
   . obtain ⟨o,_,_,_,e,ex,_⟩:=I.hok p _ hk
     refine ⟨⟨o,e,ex.1⟩,fun a e2=>?_⟩
     cases e2
     exact ⟨o,e,ex.2.1⟩
 | _=>exact False.elim ty
noncomputable def Fy (K:PySem.W.Frag) (T:String) (r:V -> List V -> Hp -> VK -> Prop) (to:TE):TE:=fun σ H Q=>to σ H fun x H1=>tyV K T x H1 /\ r x [] H1 Q
noncomputable def tBM (K:PySem.W.Frag) (T:String) (r:V -> List V -> Hp -> VK -> Prop) (to:TE) (t:TA):TE:=fun σ H Q=>to σ H fun x H1=>tyV K T x H1 /\ t σ H1 fun xs H2=>r x xs H2 Q
variable {o e:Expr} {es:List Expr} {to:TE} {t:TA} {name:Str} {apos cpos:Pos} {T id:String} {r:V -> List V -> Hp -> VK -> Prop}
theorem Fd (pa:PlainAttrs T) (slot:Slot T name id) (hty:typeOf (.builtin id) = pure (.type "method_descriptor")) (hm:MtR X id r) (ho:PE X o to)
  (hbase:attributeBase o name X.env (eval o X.env) = eval o X.env:=by rfl) (hline:(apos.endLine == cpos.line) = true:=by rfl):PE X (.Call (.Attribute o name apos) [] [] cpos) (Fy X.K T r to):=by
 intro pins s σ H Q I h
 refine wpAny_Call_method0_late hbase hline (thn (ho pins s σ H _ I h) fun v s1 ⟨x,H1,I1,r1,ty,q1⟩=>?_)
 obtain ⟨h1,h2⟩:=BA I1 r1 ty
 exact ⟨T,id,pa,slot,hty,h1,h2,Calls.callWith_builtin rfl (PySem.evalArgs_none (hm pins s1 σ H1 x [] v [] Q I1 r1 .nil q1))⟩
theorem Hv (pa:PlainAttrs T) (slot:Slot T name id) (hty:typeOf (.builtin id) = pure (.type "method_descriptor")) (hm:MtR X id r) (ho:PE X o to) (ha:PA X (e ::es) t)
  (hbase:attributeBase o name X.env (eval o X.env) = eval o X.env:=by rfl)
  (hfew:((backTo cpos (starEach (e ::es) X.env)).all (fun x=>!x.1) && (backToKw cpos (keywordEach [] X.env)).all (fun x=>x.1.isSome)
    && decide ((e ::es).length + ([]:List Keyword).length + (if ([]:List Keyword).isEmpty then 0 else 1) < 30)) = true:=by rfl)
  (hline:(apos.endLine == cpos.line) = true:=by rfl) (hs:starEach (e ::es) X.env = (false,eval e X.env) ::starEach es X.env:=by rfl) (hplain:(backTo cpos (starEach es X.env)).any (·.1) = false:=by rfl):
  PE X (.Call (.Attribute o name apos) (e ::es) [] cpos) (tBM X.K T r to t):=by
 intro pins s σ H Q I h
 refine wpAny_Call_method_late hbase hfew hline rfl (thn (ho pins s σ H _ I h) fun v s1 ⟨x,H1,I1,r1,ty,q1⟩=>?_)
 obtain ⟨h1,h2⟩:=BA I1 r1 ty
 refine ⟨T,id,pa,slot,hty,h1,h2,?_⟩
 have hA:=ha cpos pins s1 σ H1 _ I1 q1
 rw [hs] at hA ⊢
 refine Calls.callWith_builtin (by show (false || (backTo cpos (starEach es X.env)).any (·.1)) = false; rw [hplain] <;> rfl) (Calls.evalArgs_plain ?_)
 exact thn hA fun us s2 ⟨vs,H2,I2,r2,q2⟩=>hm pins s2 σ H2 x vs v us Q I2 r1 r2 q2
end
end L2
namespace L2
open PySem PySem.Spec PyProof.Rows
noncomputable def MtM (X:Cx) (id:String) (r:V -> List V -> Hp -> VK -> Prop):Prop:=
 ∀ (pins:List (Addr × Obj)) (s:Shared) (σ:St) (H:Hp) (x:V) (xs:List V) (v:Value) (us:List Value) (Q:VK),Inv X pins σ H s -> RelV x v -> Vals xs us -> r x xs H Q ->
   wpAny (model X.prog X.w) X.A (call (.builtin id) (v ::us)) (EP X pins σ Q) X.xe s
theorem Vals.one:∀ {x:V} {us:List Value},Vals [x] us -> ∃ u,us = [u] /\ RelV x u
 | _,_,.cons r .nil=>⟨_,rfl,r⟩
theorem Vals.two:∀ {x y:V} {us:List Value},Vals [x,y] us -> ∃ u v,us = [u,v] /\ RelV x u /\ RelV y v
 | _,_,_,.cons r (.cons q .nil)=>⟨_,_,rfl,r,q⟩
theorem Vals.zero:∀ {us:List Value},Vals [] us -> us = []
 | _,.nil=>rfl
theorem Vals.dropLast {xs:List V} {us:List Value} (h:Vals xs us):Vals xs.dropLast us.dropLast:=by
 induction h with
 | nil=>exact .nil
 | cons r t ih=>
   cases t with
   | nil=>exact .nil
   | cons q t'=>exact .cons r ih
theorem Vals.eraseIdx:∀ {xs:List V} {us:List Value} (i:Nat),Vals xs us -> Vals (xs.eraseIdx i) (us.eraseIdx i)
 | _,_,_,.nil=>.nil
 | _,_,0,.cons _ t=>t
 | _,_,i + 1,.cons r t=>.cons r (Vals.eraseIdx i t)
theorem Vals.rep {xs:List V} {us:List Value} (h:Vals xs us):∀ k:Nat,Vals (List.replicate k xs).flatten (List.replicate k us).flatten
 | 0=>.nil
 | k + 1=>by
   rw [List.replicate_succ,List.replicate_succ,List.flatten_cons,List.flatten_cons]
   exact Vals.append h (Vals.rep h k)
theorem xv {α:Type} (l:List α):l.eraseIdx (l.length - 1) = l.dropLast:=by
 induction l with
 | nil=>rfl
 | cons a r ih=>
   cases r with
   | nil=>rfl
   | cons b r=>
     have e:(a ::b ::r).length - 1 = ((b ::r).length - 1) + 1:=by
      have h1:(a ::b ::r).length = r.length + 2:=rfl
      have h2:(b ::r).length = r.length + 1:=rfl
      omega
     rw [e,List.eraseIdx_cons_succ,ih]
     all_goals rfl
theorem foldl_rep (its:List Value):∀ (k:Nat) (acc:List Value),
  List.foldl (fun x1 x2=>x1 ++ x2) acc.toArray (List.replicate k its.toArray) = (acc ++ (List.replicate k its).flatten).toArray
 | 0,acc=>by simp
 | k + 1,acc=>by
   have e:acc.toArray ++ its.toArray = (acc ++ its).toArray:=by simp
   have e2:(acc ++ its) ++ (List.replicate k its).flatten = acc ++ (List.replicate (k + 1) its).flatten:=by
    rw [List.replicate_succ,List.flatten_cons,List.append_assoc]
   rw [<- e2,<- foldl_rep its k (acc ++ its),<- e,List.replicate_succ,List.foldl_cons]
section
variable {X:Cx} {pins:List (Addr × Obj)} {σ:St} {H:Hp} {s:Shared} {l b:Addr} {xs ys zs:List V}
theorem Inv.Es {its its':List Value} {n:Nat} {f:Array Value -> Array Value} {t':Nat} (I:Inv X pins σ H s) (hH:H l = some (.lst xs))
  (e:s.heap.get? l = some { cls:=.type "list",data:=.seq its.toArray n }) (hf:f its.toArray = its'.toArray) (hv:Vals ys its') (hz:ys.length <= sizeLine):
  Inv X pins σ (upd H l (.lst ys)) { s with heap:=s.heap.update l (Obj.mapSeq f),toks:=t' }:=by
 have q:=PySem.IsL.update e f
 rw [hf] at q
 refine I.write (x:=l) (e:=l) (by rw [hH]; exact trivial) (.inl rfl) (fun b' u hb hu=>(Heap.get?_update_other s.heap (Obj.mapSeq f) (Ne.symm hb)).trans hu) ⟨_,q⟩ ?_
 exact ⟨hz,its',_,hv,q⟩
theorem Inv.BP {its:List Value} {t':Nat} (I:Inv X pins σ H s) (hv:Vals ys its) (hz:ys.length <= sizeLine):
  Inv X pins σ (upd H s.heap.objs.size (.lst ys)) { s with heap:=s.heap.push { cls:=.type "list",data:=.seq its.toArray },toks:=t' }:=
 I.laid (fun _ _ q=>Heap.get?_push_of_some _ q) (Nat.le_refl _) ⟨hz,its,0,hv,Heap.get?_push_size _ rfl⟩
theorem Inv.fresh (I:Inv X pins σ H s):H s.heap.objs.size = none:=I.hok.fresh (Nat.le_refl _)
theorem Inv.zL (I:Inv X pins σ H s) (hH:H l = some (.lst xs)):xs.length <= sizeLine /\ ∃ (its:List Value) (n:Nat),Vals xs its /\ xs.length = its.length /\ s.heap.get? l = some { cls:=.type "list",data:=.seq its.toArray n }:=by
 obtain ⟨z,its,n,r,e⟩:=I.hok l _ hH
 exact ⟨z,its,n,r,r.length,e⟩
theorem vX {n:Nat} (h:n <= sizeLine):Builtin.List.listTooLong n = false:=by
 unfold Builtin.List.listTooLong
 exact decide_eq_false (by omega)
end
section
variable {X:Cx}
noncomputable def uR:V -> List V -> Hp -> VK -> Prop:=fun x vs H Q=>∃ l xs y,x = .ref l /\ vs = [y] /\ H l = some (.lst xs) /\ xs.length < sizeLine /\ Q .non (upd H l (.lst (xs ++ [y])))
theorem e6:MtM X "list.append" uR:=by
 intro pins s σ H x vs v us Q I rx rv h
 obtain ⟨l,xs,y,rfl,rfl,hH,hz,q⟩:=h
 cases rx
 obtain ⟨u,rfl,ru⟩:=rv.one
 obtain ⟨z,its,n,r,hl,e⟩:=I.zL hH
 refine call_meets F.slot_list_append ⟨_,e,rfl⟩ F.entry_list_append (F.args_list_append_2 _ _) (PySem.list_append l its.toArray n u (by rw [List.size_toArray]; omega)) ⟨e,?_⟩
 refine ⟨.non,_,I.Es (its':=its ++ [u]) hH e (by simp) (r.append (.cons ru .nil)) ?_,rfl,q⟩
 rw [List.length_append,List.length_singleton]
 omega
noncomputable def yu:V -> List V -> Hp -> VK -> Prop:=fun x vs H Q=>∃ l b xs zs,x = .ref l /\ vs = [.ref b] /\ H l = some (.lst xs) /\ H b = some (.lst zs) /\ xs.length + zs.length <= sizeLine /\ Q .non (upd H l (.lst (xs ++ zs)))
theorem yR:MtM X "list.extend" yu:=by
 intro pins s σ H x vs v us Q I rx rv h
 obtain ⟨l,b,xs,zs,rfl,rfl,hH,hB,hz,q⟩:=h
 cases rx
 obtain ⟨u,rfl,ru⟩:=rv.one
 cases ru
 obtain ⟨z,its,n,r,hl,e⟩:=I.zL hH
 obtain ⟨z2,its2,n2,r2,hl2,e2⟩:=I.zL hB
 have hsz:its.toArray.size + its2.toArray.size <= sizeLine:=by rw [List.size_toArray,List.size_toArray]; omega
 have hlong:¬ (!its.toArray.isEmpty && Builtin.List.listTooLong (its.toArray.size + its2.toArray.size)) = true:=by
  rw [vX hsz,Bool.and_false]
  exact Bool.false_ne_true
 refine call_meets F.slot_list_extend ⟨_,e,rfl⟩ F.entry_list_extend (F.args_list_extend_2 _ _)
  (AutoSeq1.list_extend_list_list_0 l its.toArray n b its2.toArray n2 hlong (by rw [List.size_toArray]; omega) (by omega)) ⟨e,e2,?_⟩
 refine ⟨.non,_,I.Es (its':=its ++ its2) hH e (by simp) (r.append r2) ?_,rfl,q⟩
 rw [List.length_append]
 omega
noncomputable def Hu:V -> List V -> Hp -> VK -> Prop:=fun x vs H Q=>∃ l xs y,x = .ref l /\ vs = [] /\ H l = some (.lst xs) /\ xs[xs.length - 1]? = some y /\ Q y (upd H l (.lst xs.dropLast))
theorem AB:MtM X "list.pop" Hu:=by
 intro pins s σ H x vs v us Q I rx rv h
 obtain ⟨l,xs,y,rfl,rfl,hH,hy,q⟩:=h
 cases rx
 have hus:=rv.zero
 subst hus
 obtain ⟨z,its,n,r,hl,e⟩:=I.zL hH
 obtain ⟨u,hu,ru⟩:=r.get hy
 have hy':its.toArray[its.toArray.size - 1]? = some u:=by
  show its.toArray[its.length - 1]? = some u
  rw [<- Array.getElem?_toList,<- hl]
  exact hu
 refine call_meets F.slot_list_pop ⟨_,e,rfl⟩ F.entry_list_pop (F.args_list_pop_1 _) (MeetsSeq.list_pop_last l its.toArray n u hy' (by rw [List.size_toArray]; omega)) ⟨e,?_⟩
 refine ⟨y,_,I.Es (its':=its.dropLast) hH e ?_ r.dropLast ?_,ru,q⟩
 . show its.toArray.eraseIdxIfInBounds (its.toArray.size - 1) = its.dropLast.toArray
   rw [List.size_toArray,List.eraseIdxIfInBounds_toArray,xv]
 . rw [List.length_dropLast]
   omega
noncomputable def Hb:R2:=fun x y H Q=>∃ l k xs,x = .ref l /\ y = .int k /\ H l = some (.lst xs) /\ -(2 ^ 63) <= k /\ k < 2 ^ 63 /\ xs.length * k.toNat <= sizeLine /\
 ∀ p,H p = none -> Q (.ref p) (upd H p (.lst (List.replicate k.toNat xs).flatten))
theorem len_rep {α:Type} (xs:List α) (k:Nat):(List.replicate k xs).flatten.length = k * xs.length:=by
 induction k with
 | zero=>simp
 | succ k ih=>rw [List.replicate_succ,List.flatten_cons,List.length_append,ih,Nat.succ_mul,Nat.add_comm]
theorem tN:OpR X (binaryOp .Mult) Hb:=by
 intro pins s σ H x y v u Q I rx ry h
 obtain ⟨l,k,xs,rfl,rfl,hH,h1,h2,hz,q⟩:=h
 cases rx
 obtain ⟨t,rfl⟩:=ry
 obtain ⟨z,its,n,r,hl,e⟩:=I.zL hH
 have hlen:its.toArray.size * k.toNat <= sizeLine:=by rw [List.size_toArray,<- hl]; exact hz
 have hcap:¬ its.toArray.size * k.toNat > (2 ^ 63 - 1) / 8:=by
  have:(sizeLine:Nat) <= (2 ^ 63 - 1) / 8:=by decide
  omega
 have hfit:¬ (!Builtin.List.listFitsIndex k) = true:=by
  rw [fitsIndex_both h1 h2]
  exact Bool.false_ne_true
 have hlong:¬ Builtin.List.listTooLong (its.toArray.size * k.toNat) = true:=by
  rw [vX hlen]
  exact Bool.false_ne_true
 have hnew:List.foldl (fun x1 x2=>x1 ++ x2) #[] (List.replicate (if its.toArray.isEmpty = true then 0 else k.toNat) its.toArray) = (List.replicate k.toNat its).flatten.toArray:=by
  have f0:∀ m:Nat,List.foldl (fun x1 x2=>x1 ++ x2) #[] (List.replicate m its.toArray) = (List.replicate m its).flatten.toArray:=fun m=>by
   have:=foldl_rep its m []
   rw [List.nil_append] at this
   exact this
  rw [f0]
  cases its with
  | nil=>simp
  | cons a r'=>rw [if_neg (by simp)]
 refine wpAny_binaryOp_repeat_ref (T:="list") (U:="int") (by decide) ⟨_,e,rfl⟩ (fun s'=>typeIs_int s' k t) noFill_list_mul F.fills_int_mul F.slot_int_rmul repeat_list F.slot_int_index.lookup
  (call_meets F.slot_int_rmul (typeIs_int s k t) F.entry_int_rmul (F.args_int_rmul_2 _ _) (int___rmul___int_list k t l its.toArray n)
    ⟨e,rfl,⟨_,e,rfl⟩,call_meets F.slot_list_mul ⟨_,e,rfl⟩ F.entry_list_mul (F.args_list_mul_2 _ _) (AutoListH.list___mul___list_int_3 l its.toArray n k t hfit hcap hlong) ⟨e,?_⟩⟩)
 rw [hnew]
 exact ⟨.ref _,_,I.BP (t':=s.toks) (r.rep k.toNat) (by rw [len_rep,Nat.mul_comm]; exact hz),rfl,q _ I.fresh⟩
end
section
variable {prog:Program} {w:World} {A:Around} {E:Value -> Shared -> Prop} {s:Shared}
set_option maxRecDepth 100000 in
end
end L2
namespace Att
open PySem PySem.W PySem.Calls PyProof.Rows
theorem qp {P:Params} {h:Heap}:∀ (ns:List Int) (vs:List Value),WellAll P h vs (ns.map WData.int) -> IntsAre vs ns:=by
 intro ns
 induction ns with
 | nil=>
   intro vs w
   rw [List.map_nil] at w
   cases w
   exact .nil
 | cons n ns ih=>
   intro vs w
   rw [List.map_cons] at w
   cases w with
   | cons a b=>
     cases a
     exact .cons _ _ (ih _ b)
theorem zm {l:OpenLaw} {n:Nat} (hn:l.most = some n) {P:Params} {h:Heap} {args:List WData} {vals:List Value}
  (hpre:l.row.toRowW.claim.pre args = true) (hwl:WellAll P h vals args):
  ∃ a vs ns,vals = [Value.ref a] /\ args = [WData.list (ns.map WData.int)] /\ h.get? a = some { cls:=.type "list",data:=.seq vs.toArray } /\ IntsAre vs ns /\ ns.length <= n:=by
 have hsh:WShape.hasAll [] args [.list .int] = true:=(pre_splitW hpre).1
 have hc:l.pre.holds [] { args:=args } = true:=(pre_splitW hpre).2
 obtain ⟨d,r,rfl,h1,h2⟩:=hasAllW_cons hsh
 obtain rfl:=hasAllW_nil h2
 obtain ⟨xs,rfl,h3⟩:=hasW_list h1
 obtain ⟨ns,rfl⟩:=items_int h3
 have hlen:ns.length <= n:=by
  unfold OpenLaw.pre at hc
  have h4:(WTm.not (.lt (.lit (.int (n:Int))) (.len (.arg 0)))).holds [] { args:=[.list (ns.map .int)] } = true:=by
   have h4:=(holds_andW hc).1
   rw [hn] at h4
   exact h4
  have h5:=condW_of h4 (w_not (w_lt w_lit (w_len_list (w_arg rfl))))
  rw [List.length_map] at h5
  refine Nat.le_of_not_lt fun q=>?_
  have q':(n:Int) < ((ns.length:Nat):Int):=by omega
  first
   | (rw [decide_eq_true q'] at h5; exact absurd h5 (by decide))
   | (simp at h5; omega)
 cases hwl with
 | cons w1 w2=>
   cases w2
   cases w1 with
   | list ho hall=>exact ⟨_,_,ns,rfl,rfl,ho,qp ns _ hall,hlen⟩
theorem yX (l:OpenLaw) (args:List WData):l.row.toRowW.claim.post args (.bool true) args = true:=
 postW_of (r:=l.row.toRowW) (X:=(true == true))
  (show WShape.has [] (.bool true) .bool = true by first | rfl | decide | simp [WShape.has,WShape.arms,WShape.armsAll])
  (show (WTm.eq .res (.lit (.bool true))).value [] { args:=args,res:=some (.bool true),after:=args } = some (.bool (true == true)) from w_eq_bool (w_res rfl) w_lit) rfl
theorem u7 {l:OpenLaw} {n:Nat} {q:Program} {loose:List Str} {XP:(Str -> Option Value) -> Heap -> Prop} {YP:World -> Heap -> Prop} {d:DefRec}
  (hn:l.most = some n) (hdf:d.params.defaults = [])
  (call:∀ (w:World) (s₀ s₁:Shared) (mg mb:Str -> Option Value) (fa:Addr) (o:Obj) (pm cd doc:Value) (a:Addr) (vs:List Value) (ns:List Int),
    Ground q loose [] XP w s₀ mg mb s₁.heap -> YP w s₁.heap ->
    s₁.heap.get? fa = some o -> o.data = .func (docDef d.name d.params d.body d.scope pm cd doc) -> s₁.heap.CodeRec cd d.name -> mg d.name = some (.ref fa) ->
    s₁.heap.get? a = some { cls:=.type "list",data:=.seq vs.toArray } -> IntsAre vs ns -> ns.length <= n -> s₁.gens = #[] ->
    codeAny (model l.prog w) callerA (.call (.ref fa) ⟨[.ref a],[]⟩) (fun r s'=>r = .ok (.ret (.bool true)) /\ OldK s₁.heap s'.heap /\ s'.os = s₁.os /\ AllBare s'.gens) s₁):
  WalkO q loose XP YP l.row.toRowW d [] (fun f vs=>PySem.call f vs):=by
 intro w s₀ s₁ mg mb G Y fa o pm cd doc dV kV ho hd hcd hD hmg hg args vals as hpre hlay hrd hwl hlo
 obtain rfl:dV = .none:=Dflts.none hD hdf
 obtain rfl:kV = .none:=Dflts.noKw hD
 obtain ⟨a,vs,ns,rfl,rfl,hobj,hints,hlen⟩:=zm hn hpre hwl
 refine enter_call (codeAny_mono (call w s₀ s₁ mg mb fa o pm cd doc a vs ns G Y ho (fd_plain hd) hcd hmg hobj hints hlen hg) fun r s' hq=>?_)
 obtain ⟨rfl,h2,h3,h4⟩:=hq
 exact ⟨.inl ⟨.bool true,.bool true,[],rfl,fun _=>rfl,.bool true,yX l _,fun _=>⟨List.Pairwise.nil,fun _ hm=>(nomatch hm)⟩⟩,h2,h3,h4⟩
end Att
namespace L2
open PySem PySem.Spec PyProof.Rows
theorem sq:∀ {vs:List Value} {ns:List Int},IntsAre vs ns -> Vals (ns.map V.int) vs
 | _,_,.nil=>.nil
 | _,_,.cons n t h=>.cons ⟨t,rfl⟩ (sq h)
noncomputable def F5 (H:Hp):Prop:=∀ b,H b = none \/ ∃ o xs,H b = some (.frz o (.lst xs))
theorem BO {P:Program} {w:World} {K:PySem.W.Frag} {mg mb:Str -> Option Value} {CX:CXT} {k:Nat} {fa a:Addr} {fd:FuncData} {x:Str} {sp:Sp} {s₁:Shared} {vs:List Value} {ns:List Int}
  (KX:K.In s₁.heap) (hns:s₁.heap.Ns mainGlobals mg) (hb:s₁.heap.Ns builtinsNs mb) (hbb:∀ x:Str,x ≠ "__name__" -> mb x = bootBuiltins x) (hlim:s₁.heap.NoLimit) (hg:s₁.gens = #[])
  (ha:s₁.heap.get? a = some { cls:=.type "list",data:=.seq vs.toArray }) (hi:IntsAre vs ns) (hl:ns.length <= sizeLine) (hr:gY k callerA)
  (F:∀ base:Heap,K.In base -> base.Ns mainGlobals mg -> cw P w K mg base CX k fa fd [x] sp) (hbind:∀ (s:Shared) (u:Value),BindsTo s fd ⟨[u],[]⟩ [(x,u)])
  (hsp:∀ H:Hp,F5 H -> SqL K H a (ns.map V.int) -> sp [.ref a] H (fun v _=>v = .bl true) fun _ _ _=>False)
  (hCX:∀ H e s',CX [] H s₁ (fun _ _ _=>False) e s' -> False):
  codeAny (model P w) callerA (.call (.ref fa) ⟨[.ref a],[]⟩) (fun r s'=>r = .ok (.ret (.bool true)) /\ OldK s₁.heap s'.heap /\ s'.os = s₁.os /\ AllBare s'.gens) s₁:=by
 have rv:=sq hi
 have lenV:=hi.length
 have core:∀ H:Hp,F5 H -> SqL K H a (ns.map V.int) -> HOk P w H s₁.heap -> (∀ b,H b ≠ none -> b = a) -> (H a ≠ none -> K.lookup a = none) ->
   codeAny (model P w) callerA (.call (.ref fa) ⟨[.ref a],[]⟩) (fun r s'=>r = .ok (.ret (.bool true)) /\ OldK s₁.heap s'.heap /\ s'.os = s₁.os /\ AllBare s'.gens) s₁:=by
  intro H hO hS hok hA hK
  have base_of:∀ {b:Addr} {o:Obj},s₁.heap.get? b = some o -> H b = none -> (uq s₁.heap H).get? b = some o:=fun e n=>zO e n
  have noA:∀ {b:Addr} {o:Obj} {es:Array DictEntry} {ep:Nat},s₁.heap.get? b = some o -> o.data = .dict es ep -> H b = none:=fun {b o es ep} e d=>by
   cases q:H b with
   | none=>rfl
   | some u=>
     have e':b = a:=hA b (by rw [q]; simp)
     subst e'
     rw [ha] at e; cases e
     have d':Data.seq vs.toArray _ = Data.dict es ep:=d
     cases d'
  have nsK:∀ {b:Addr} {m:Str -> Option Value},s₁.heap.Ns b m -> (uq s₁.heap H).Ns b m:=fun {b m} ⟨o,es,ep,e,d,r⟩=>⟨o,es,ep,base_of e (noA e d),d,r⟩
  have hKb:K.In (uq s₁.heap H):=fun b o e=>base_of (KX b o e) (by
   cases q:H b with
   | none=>rfl
   | some u=>
     have e':b = a:=hA b (by rw [q]; simp)
     subst e'
     rw [hK (by rw [q]; simp)] at e; cases e)
  have hM:Mod K mg (uq s₁.heap H):=⟨hKb,nsK hns,⟨mb,nsK hb,hbb⟩,let ⟨mc,h1,h2⟩:=hlim; ⟨mc,nsK h1,h2⟩⟩
  have e0:xB P w K mg (uq s₁.heap H) callerA [] s₁ H:=⟨rfl,hM,fun b o e=>Cd e,Nat.le_of_eq (y4 _ _),trivial,fun b hb=>absurd (show b ∈ ([]:List Addr) from hb) (by simp),hok,.of_eq hg⟩
  refine codeAny_mono ((F _ hKb (nsK hns)).run callerA [] s₁ H ⟨[.ref a],[]⟩ [.ref a] [.ref a] _ _ hr e0 (hbind s₁ (.ref a)) (.cons rfl .nil) (hsp H hO hS)) fun r s' h=>?_
  cases r with
  | error e=>exact (hCX H e s' h).elim
  | ok fl=>
    cases fl with
    | next=>exact False.elim h
    | brk=>exact False.elim h
    | cont=>exact False.elim h
    | ret u=>
      obtain ⟨v,H',os,bare,un,hok',r',q⟩:=h
      have q':v = .bl true:=q
      subst q'
      obtain rfl:u = Value.bool true:=r'
      refine ⟨rfl,OldK.of_keep fun b o e=>?_,os,bare⟩
      cases q:H b with
      | none=>exact un.keep b o e q (by intro z; exact absurd (show b ∈ ([]:List Addr) from z) (by simp)) (by simp)
      | some u=>
        rcases hO b with z | ⟨ob,xs,z⟩
        . rw [q] at z; cases z
        . have z2:=un.frzs b ob _ z
          obtain ⟨e1,_⟩:=hok b _ z
          obtain ⟨e2,_⟩:=hok' b _ z2
          rw [e] at e1; cases e1
          exact e2
 cases hk:K.lookup a with
 | some o=>
   have e:=KX a o hk
   rw [ha] at e
   cases e
   refine core (fun _=>none) (fun _=>.inl rfl) (.inr ⟨_,vs.toArray,_,hk,rfl,rfl,rfl,by rw [List.size_toArray,lenV]; exact hl,by simpa using rv⟩) (fun b u z=>by have z':(none:Option HO) = some u:=z; cases z') (fun b z=>absurd rfl z) fun z=>absurd rfl z
 | none=>
   refine core (fun b=>if b = a then some (.frz { cls:=.type "list",data:=.seq vs.toArray } (.lst (ns.map V.int))) else none) (fun b=>?_) (.inl (.inr ⟨{ cls:=.type "list",data:=.seq vs.toArray },if_pos rfl⟩)) (fun b u z=>?_) (fun b z=>?_) fun _=>hk
   . by_cases hb:b = a
     . exact .inr ⟨_,_,if_pos hb⟩
     . exact .inl (if_neg hb)
   . by_cases hb:b = a
     . have z':=(if_pos hb).symm.trans z
       cases z'
       subst hb
       exact ⟨ha,by rw [List.length_map]; exact hl,vs,_,rv,ha⟩
     . have z':=(if_neg hb).symm.trans z
       cases z'
   . by_cases hb:b = a
     . exact hb
     . exact absurd (if_neg hb) z
end L2
namespace L2
open PySem PySem.Spec PyProof.Rows
abbrev KOf {K:PySem.W.Frag} {h:Heap} (_:K.In h):PySem.W.Frag:=K
theorem BS {l:PySem.W.OpenLaw} {n k:Nat} {q:Program} {loose:List Str} {XP:(Str -> Option Value) -> Heap -> Prop} {YP:World -> Heap -> Prop} {d:DefRec} {K:Params -> PySem.W.Frag} {CX:World -> CXT} {sp:World -> Sp} {x:Str}
  (hn:l.most = some n) (hn2:n <= sizeLine) (hdf:d.params.defaults = []) (hr:gY k callerA)
  (hY:∀ (w:World) (h:Heap),YP w h -> (K w.params).In h)
  (F:∀ (w:World) (mg:Str -> Option Value) (fa:Addr) (h:Heap),(K w.params).In h -> h.Ns mainGlobals mg -> mg d.name = some (.ref fa) ->
    ∃ fd:FuncData,(∀ (s:Shared) (u:Value),BindsTo s fd ⟨[u],[]⟩ [(x,u)]) /\
      ∀ base:Heap,(K w.params).In base -> base.Ns mainGlobals mg -> cw l.prog w (K w.params) mg base (CX w) k fa fd [x] (sp w))
  (hsp:∀ (w:World) (H:Hp) (a:Addr) (ns:List Int),ns.length <= n -> F5 H -> SqL (K w.params) H a (ns.map V.int) -> sp w [.ref a] H (fun v _=>v = .bl true) fun _ _ _=>False)
  (hCX:∀ (w:World) (H:Hp) (s:Shared) (e:Value) (s':Shared),CX w [] H s (fun _ _ _=>False) e s' -> False):
  PySem.W.WalkO q loose XP YP l.row.toRowW d [] (fun f vs=>PySem.call f vs):=by
 refine Att.u7 hn hdf fun w s₀ s₁ mg mb fa o pm cd doc a vs ns G Y ho hd hcd hmg hobj hints hlen hg=>?_
 have KX:=hY w _ Y
 obtain ⟨fd,hb,hF⟩:=F w mg fa _ KX G.T.g hmg
 exact BO KX G.T.g G.T.b G.T.builtins G.T.nolimit hg hobj hints (Nat.le_trans hlen hn2) hr hF hb (fun H hO hS=>hsp w H a ns hlen hO hS) fun H e s'=>hCX w H s₁ e s'
end L2
namespace L2
open PySem PySem.Spec PyProof.Rows
def inClass (s:Stmt) (j:Nat):Stmt:=match s with
 | .ClassDef _ _ _ body _ _ _ _ _ _ _=>body.getD j (.Pass ⟨0,0,0,0⟩)
 | _=>.Pass ⟨0,0,0,0⟩
noncomputable def aW (s:Stmt):Arguments:=match s with
 | .FunctionDef _ a _ _ _ _ _ _ _ _=>a
 | _=>{ posonlyargs:=[],args:=[],vararg:=none,kwonlyargs:=[],kw_defaults:=[],kwarg:=none,defaults:=[] }
noncomputable def aS (s:Stmt):List Stmt:=match s with
 | .FunctionDef _ _ b _ _ _ _ _ _ _=>b
 | _=>[]
noncomputable def av (s:Stmt):Scope:=match s with
 | .FunctionDef _ _ _ _ _ _ sc _ _ _=>sc
 | _=>{ kind:=.function,names:=[],isGenerator:=false,isCoroutine:=false }
structure Fun (K:PySem.W.Frag) (x qual:Str) (st:Stmt) (f:Addr) (fd:FuncData):Prop where
 ex:∃ (oc:Value) (od:Option Addr) (kV doc pm:Value) (an:Option Addr) (cdv ct:Value) (osl:Array (Option Value)),
  fd = PySem.W.fnOf x qual (aW st) (aS st) (av st) .none kV doc pm an cdv ct /\ K.lookup f = some ⟨oc,od,.func fd,osl⟩ /\ PySem.W.codeIn K cdv qual = true
 kp:PySem.W.keepIn K (.ref f) = true
section
variable {P:Program} {w:World} {K:PySem.W.Frag} {mg:Str -> Option Value} {base:Heap}
theorem Fun.binds {x qual:Str} {st:Stmt} {f:Addr} {fd:FuncData} {ps:List Str} (F:Fun K x qual st f fd)
  (h:∀ (kV doc pm:Value) (an:Option Addr) (cdv ct:Value) (us:List Value),us.length = ps.length -> bindArgs (PySem.W.fnOf x qual (aW st) (aS st) (av st) .none kV doc pm an cdv ct) ⟨us,[]⟩ = pure (ps.zip us)):Binds K fd ps []:=by
 obtain ⟨oc,od,kV,doc,pm,an,cdv,ct,osl,rfl,lk,hcd⟩:=F.ex
 exact .all (h kV doc pm an cdv ct)
theorem aF {x qual:Str} {st:Stmt} {f:Addr} {oc:Value} {od an:Option Addr} {osl:Array (Option Value)} {kV doc pm cdv ct:Value} (l:K.lookup f = some ⟨oc,od,.func (PySem.W.fnOf x qual (aW st) (aS st) (av st) .none kV doc pm an cdv ct),osl⟩)
  (c:PySem.W.codeIn K cdv qual = true) (k:PySem.W.keepIn K (.ref f) = true):Fun K x qual st f (PySem.W.fnOf x qual (aW st) (aS st) (av st) .none kV doc pm an cdv ct):=⟨⟨oc,od,kV,doc,pm,an,cdv,ct,osl,rfl,l,c⟩,k⟩
end
section
variable {X:Cx}
theorem pv (i:Nat) {x:Str} {pos:Pos} (hN:X.N[i]? = some x:=by rfl) (hv:Vis X.env.scope x:=by first | exact Or.inl rfl | exact Or.inr (Or.inl rfl) | exact Or.inr (Or.inr rfl)) (hd:(x == ("__debug__":Str)) = false:=by decide)
  (hcd:(x == ("__classdict__":Str)) = false:=by decide):PE X (.Name x pos) (rK i):=FZ hN hv hd hcd
end
theorem uj {A B:Prop} (h:B):if false = true then A else B:=by
 rw [if_neg Bool.false_ne_true]
 exact h
theorem uW {A B:Prop} (h:A):if true = true then A else B:=by
 rw [if_pos rfl]
 exact h
noncomputable def aG (H H':Hp):Prop:=∀ b o,H b = some o -> H' b = some o
theorem aG.refl (H:Hp):aG H H:=fun _ _ h=>h
theorem aG.trans {H H1 H2:Hp} (a:aG H H1) (b:aG H1 H2):aG H H2:=fun c o h=>b c o (a c o h)
theorem aG.free {H H':Hp} (e:aG H H') {l:Addr} (h:H' l = Option.none):H l = Option.none:=by
 cases q:H l with
 | none=>rfl
 | some o=>
   rw [e l o q] at h
   cases h
theorem aG.seq {K:PySem.W.Frag} {H H':Hp} {a:Addr} {xs:List V} (e:aG H H') (h:SqL K H a xs):SqL K H' a xs:=by
 rcases h with (h | ⟨o,h⟩) | h
 . exact .inl (.inl (e _ _ h))
 . exact .inl (.inr ⟨o,e _ _ h⟩)
 . exact .inr h
end L2
namespace L2
open PySem PySem.Spec PyProof.Rows
section
variable {κ:Type} [DecidableEq κ]
theorem bS.getD {o:Option V} {u:Option Value} {d:V} {d':Value} (r:bS o u) (rd:RelV d d'):RelV (o.getD d) (u.getD d'):=by
 cases o with
 | none=>cases u with
   | none=>exact rd
   | some _=>exact (show False from r).elim
 | some _=>cases u with
   | none=>exact (show False from r).elim
   | some _=>exact r
end
abbrev KT (H:Hp):List (List Key × V) -> List (List Key × Addr × Value) -> Prop:=Paired fun p q=>p.1 = q.1 /\ H q.2.1 = some (.tup (p.1.map kV)) /\ RelV p.2 q.2.2
theorem KT.keeps {H H':Hp} {kvs:List (List Key × V)} {xs:List (List Key × Addr × Value)} (r:KT H kvs xs) (ht:∀ b ys,H b = some (.tup ys) -> H' b = some (.tup ys)):KT H' kvs xs:=
 Paired.Em r fun _ _ z=>⟨z.1,ht _ _ z.2.1,z.2.2⟩
section
variable {X:Cx} {pins:List (Addr × Obj)} {σ:St} {H:Hp} {s:Shared} {a:Addr} {y v:V} {u r:Value} {o:Option V} {A:Around} {E:Value -> Shared -> Prop}
theorem Inv.big (I:Inv X pins σ H s):sysModules < s.heap.objs.size:=by
 have h:mainGlobals < s.heap.objs.size:=(I.mod.glob.keeps I.bk).lt
 exact Nat.lt_trans (by decide) h
end
end L2
namespace L2
open PySem PySem.Spec PyProof.Rows
end L2
set_option maxHeartbeats 4000000
namespace L2.E
open PySem PySem.Spec PyProof.Rows
noncomputable def Bz (a C:Addr) (dx:Option Addr) (h:Heap):Prop:=∃ o vs,h.get? a = some o /\ o.cls = .ref C /\ o.dict = dx /\ o.data = .fields vs /\ vs.size = 6
noncomputable def TbO (T:Addr) (h:Heap):Prop:=∃ o ts,h.get? T = some o /\ o.data = .fields ts /\ 3 < ts.size
noncomputable abbrev nF (a C:Addr) (dx:Option Addr):HO:=.ext (Bz a C dx)
noncomputable abbrev oTb (T:Addr):HO:=.ext (TbO T)
theorem xM {P:Program} {w:World} {H:Hp} {h:Heap} {a C:Addr} {dx:Option Addr} (x:Bz a C dx h):iI P w H h a (nF a C dx):=by
 refine ⟨x,let ⟨o,_,e,_⟩:=x; ⟨o,e⟩,fun h1 h2 p k=>?_⟩
 obtain ⟨o,vs,e,r⟩:=p
 exact ⟨o,vs,k o e,r⟩
theorem DY {P:Program} {w:World} {H:Hp} {h:Heap} {T:Addr} (x:TbO T h):iI P w H h T (oTb T):=by
 refine ⟨x,let ⟨o,_,e,_⟩:=x; ⟨o,e⟩,fun h1 h2 p k=>?_⟩
 obtain ⟨o,vs,e,r⟩:=p
 exact ⟨o,vs,k o e,r⟩
theorem zK {H:Hp} {a:Addr} {o:HO} (h:H a = some o):upd H a o = H:=by
 funext b
 unfold upd
 split
 . rename_i e
   rw [e,h]
 . rfl
structure Fly (H:Hp) (h:Heap) (a C:Addr) (dx:Option Addr):Prop where
 exc:H a = some (nF a C dx)
 tb:∃ o vs,h.get? a = some o /\ o.data = .fields vs /\ (vs[1]? = some Value.none \/ ∃ T,vs[1]? = some (.ref T) /\ H T = some (oTb T) /\ T ≠ a)
structure uA (H:Hp) (h:Heap) (a C:Addr) (dx:Option Addr):Prop where
 exc:H a = some (nF a C dx)
 tb:∃ o vs T,h.get? a = some o /\ o.data = .fields vs /\ vs[1]? = some (.ref T) /\ H T = some (oTb T) /\ T ≠ a
theorem uA.fly {H:Hp} {h:Heap} {a C:Addr} {dx:Option Addr} (F:uA H h a C dx):Fly H h a C dx:=
 let ⟨o,vs,T,e1,e2,e3,e4,e5⟩:=F.tb
 ⟨F.exc,o,vs,e1,e2,.inr ⟨T,e3,e4,e5⟩⟩
section
variable {X:Cx} {pins:List (Addr × Obj)} {σ:St} {H:Hp} {s:Shared} {a C:Addr} {dx:Option Addr}
theorem AK {h₁:Heap} (I:Inv X pins σ H s) (k:Heap.SlotsOnly (frs X.stack) s.heap h₁):Un (frs X.stack) [] H H s.heap h₁ where
 keep:=fun b o e _ hb _=>(k.2.1 b hb).trans e
 slot:=fun b o e _ _ _=>k.2.2 b o e
 free:=fun _ _ _ n _=>n
 there:=fun b o e _=>let ⟨_,q⟩:=k.2.2 b o e; ⟨_,q⟩
 tups:=fun _ _ q=>q
 frzs:=fun _ _ _ q=>q
 tbls:=fun _ ps q=>⟨#[],by rw [q]; simp⟩
theorem yN {h₁:Heap} (I:Inv X pins σ H s) (k:Heap.SlotsOnly (frs X.stack) s.heap h₁):HOk X.prog X.w H h₁:=fun b o e=>by
 have nf:∀ c u,H c = some u -> c ∉ frs X.stack:=fun c u q z=>by rw [I.uh c z] at q; cases q
 refine (I.hok b o e).n8 (fun c v hc q=>(k.2.1 c ?_).trans q) (fun _ q=>q) fun _ _ q=>q
 rcases hc with z | z
 . rw [z]; exact nf b o e
 . exact nf c _ z
theorem BV {i:Nat} {v:Value} (I:Inv X pins σ H s) (e:H a = some (nF a C dx)):
  Inv X pins σ H { s with heap:=s.heap.update a (Obj.mapFields (·.setIfInBounds i v)) }:=by
 obtain ⟨⟨o,vs,ho,hc,hd,hf,hz⟩,_,_⟩:=I.hok a _ e
 have hs:=Heap.get?_update_self (Obj.mapFields (·.setIfInBounds i v)) ho (Obj.isFreed_of_fields (Obj.data_mapFields hf _))
 have q:=I.write (x:=a) (e:=a) (o:=nF a C dx) (t':=s.toks) (h':=s.heap.update a (Obj.mapFields (·.setIfInBounds i v))) (by rw [e]; trivial) (.inl rfl)
  (fun b u hb q=>(Heap.get?_update_other _ _ (Ne.symm hb)).trans q) ⟨_,hs⟩ (xM ⟨_,_,hs,by rw [Obj.cls_mapFields]; exact hc,by obtain ⟨c,d,dt,sl⟩:=o; cases dt <;> exact hd,Obj.data_mapFields hf _,by simpa using hz⟩)
 rw [zK e] at q
 exact q
theorem Bl {T:Addr} {i:Nat} {v:Value} (I:Inv X pins σ H s) (e:H T = some (oTb T)):
  Inv X pins σ H { s with heap:=s.heap.update T (Obj.mapFields (·.setIfInBounds i v)) }:=by
 obtain ⟨⟨o,vs,ho,hf,hz⟩,_,_⟩:=I.hok T _ e
 have hs:=Heap.get?_update_self (Obj.mapFields (·.setIfInBounds i v)) ho (Obj.isFreed_of_fields (Obj.data_mapFields hf _))
 have q:=I.write (x:=T) (e:=T) (o:=oTb T) (t':=s.toks) (h':=s.heap.update T (Obj.mapFields (·.setIfInBounds i v))) (by rw [e]; trivial) (.inl rfl)
  (fun b u hb q=>(Heap.get?_update_other _ _ (Ne.symm hb)).trans q) ⟨_,hs⟩ (DY ⟨_,_,hs,Obj.data_mapFields hf _,by simpa using hz⟩)
 rw [zK e] at q
 exact q
theorem vt {L:Addr} {head:Value} {had:Bool} {Q:Unit -> Shared -> Prop} {E:Value -> Shared -> Prop} (I:Inv X pins σ H s) (hst:X.stack = X.env ::X.outer) (hf:X.env.frame = some L) (e:H a = some (nF a C dx))
  (h:∀ s' H',Inv X pins σ H' s' -> aG H H' -> uA H' s'.heap a C dx -> Q () s'):
  wpAny (model X.prog X.w) X.A (do let fr <- frameOf X.env; let pl <- entryPlaceOf L had; let b <- EntryCells.newEntry head fr .none (rawInt L) .none pl; setField (.ref a) 1 b) Q E s:=by
 have hfr:X.A.frames = some (X.env ::X.outer):=by rw [<- hst]; exact I.ok.frames
 have hl:s.heap.FunFrames X.base (X.env ::X.outer):=by rw [<- hst]; exact I.stack
 refine wpAny_bind (wpAny_frameOf_fun hfr hl hf fun h₁ k₁=>?_)
 have k₁':Heap.SlotsOnly (frs X.stack) s.heap h₁:=by rw [hst]; exact k₁
 have I₁:=I.call (g':=s.gens) (t':=s.toks) (d':=s.drawn) (ch:=[]) (AK I k₁') (yN I k₁') I.bare (fun b z=>absurd z (by simp))
 refine wpAny_bind (wpAny_entryPlaceOf fun pl hpl=>?_)
 unfold EntryCells.newEntry newFields
 refine wpAny_bind (wpAny_newObj_type ?_ (hpl.sizeOk5 _ _ _ _ _))
 have big:3 < ([head,.ref L,.none,rawInt L,.none] ++ (if pl.isEmpty then List.replicate 6 Value.none else pl)).toArray.size:=by
  rw [List.size_toArray,List.length_append]
  show 3 < 5 + _
  omega
 have new:=Heap.get?_push_size h₁ (o:={ cls:=.type "traceback",dict:=none,data:=.fields ([head,.ref L,.none,rawInt L,.none] ++ (if pl.isEmpty then List.replicate 6 Value.none else pl)).toArray }) rfl
 have fr:H h₁.objs.size = none:=I₁.hok.fresh (Nat.le_refl _)
 have ne:h₁.objs.size ≠ a:=fun z=>by rw [z,e] at fr; cases fr
 have I₂:=I₁.laid (a:=h₁.objs.size) (o:=oTb h₁.objs.size) (t':=s.toks) (fun b u q=>Heap.get?_push_of_some _ q) (Nat.le_refl _) (DY ⟨_,_,new,rfl,big⟩)
 have g:aG H (upd H h₁.objs.size (oTb h₁.objs.size)):=fun b u q=>by rw [aY (cS q fr)]; exact q
 obtain ⟨⟨o,vs,ho,hc,hd,hv,hz⟩,_,_⟩:=I₂.hok a _ (g _ _ e)
 refine wpAny_setField ho hv (by omega) ?_
 refine h _ _ (BV I₂ (g _ _ e)) g ⟨g _ _ e,_,_,h₁.objs.size,Heap.get?_update_self _ ho (Obj.isFreed_of_fields (Obj.data_mapFields hv _)),Obj.data_mapFields hv _,by simp [hz],bg,ne⟩
theorem xS {Q:Unit -> Shared -> Prop} {E:Value -> Shared -> Prop} (I:Inv X pins σ H s) (hst:X.stack = X.env ::X.outer /\ X.env.frame = some X.env.locals) (F:Fly H s.heap a C dx)
  (h:∀ s' H',Inv X pins σ H' s' -> aG H H' -> uA H' s'.heap a C dx -> Q () s'):wpAny (model X.prog X.w) X.A (noteFrame (.ref a) X.env) Q E s:=by
 obtain ⟨o,vs,ho,hv,hw⟩:=F.tb
 unfold noteFrame
 simp only [hst.2]
 rcases hw with h1 | ⟨T,h1,hT,ne⟩
 . refine wpAny_bind (wpAny_field ho hv h1 ?_)
   rw [if_neg (by decide)]
   exact vt I hst.1 hst.2 F.exc h
 . obtain ⟨⟨oT,ts,hoT,hdT,hz⟩,_,_⟩:=I.hok T _ hT
   refine wpAny_bind (wpAny_field ho hv h1 ?_)
   rw [if_pos (show (Value.ref T != Value.none) = true from by simp)]
   have h3:ts[3]? = some ts[3]:=by simp [hz]
   refine wpAny_bind (wpAny_field hoT hdT h3 ?_)
   by_cases c:(ts[3] == rawInt X.env.locals) = true
   . rw [if_pos c]
     exact wpAny_pure (h s H I (aG.refl H) ⟨F.exc,o,vs,T,ho,hv,h1,hT,ne⟩)
   . rw [if_neg c]
     refine wpAny_bind (wpAny_setField hoT hdT hz ?_)
     exact vt (Bl I hT) hst.1 hst.2 F.exc h
theorem m9 {x:Option Addr} {Q:Unit -> Shared -> Prop} {E:Value -> Shared -> Prop} (I:Inv X pins σ H s) (F:uA H s.heap a C dx)
  (h:∀ s',Inv X pins σ H s' -> uA H s'.heap a C dx -> Q () s'):wpAny (model X.prog X.w) X.A (setFlight (.ref a) x) Q E s:=by
 obtain ⟨o,vs,T,ho,hv,h1,hT,ne⟩:=F.tb
 unfold setFlight
 obtain ⟨⟨oT,ts,hoT,hdT,hz⟩,_,_⟩:=I.hok T _ hT
 refine wpAny_bind (wpAny_field ho hv h1 ?_)
 rw [if_pos (show (Value.ref T != Value.none) = true from by simp)]
 refine wpAny_setField hoT hdT hz ?_
 exact h _ (Bl I hT) ⟨F.exc,o,vs,T,(Heap.get?_update_other _ _ ne).trans ho,hv,h1,hT,ne⟩
theorem B7 {α:Type} {what:String} {Q:α -> Shared -> Prop} {E:Value -> Shared -> Prop} (I:Inv X pins σ H s) (F:uA H s.heap a C dx)
  (h:∀ s',Inv X pins σ H s' -> uA H s'.heap a C dx -> E (.ref a) s'):wpAny (model X.prog X.w) X.A (PySem.passOn what (.ref a) X.env:Sem α) Q E s:=by
 obtain ⟨o,vs,T,ho,hv,h1,hT,ne⟩:=id F.tb
 unfold PySem.passOn
 refine wpAny_bind (wpAny_field ho hv h1 ?_)
 rw [if_neg (show ¬ (Value.ref T == Value.none) = true from by simp)]
 exact wpAny_bind (m9 I F fun s' I' F'=>wpAny_throw (h s' I' F'))
end
noncomputable def CXE (P:Program) (w:World):CXT:=fun outer H s E e s'=>∃ a C dx H',e = .ref a /\ s'.os = s.os /\ AllBare s'.gens /\ Un (frs outer) [] H H' s.heap s'.heap /\ HOk P w H' s'.heap /\ Fly H' s'.heap a C dx /\ E (.ref C) (some a) H'
abbrev XW:=Value -> Option Addr -> St -> Hp -> Prop
noncomputable def Thr (X:Cx) (W:XW):Prop:=∀ (pins:List (Addr × Obj)) (σ:St) (H:Hp) (s:Shared) (a C:Addr) (dx:Option Addr),Inv X pins σ H s -> Fly H s.heap a C dx -> W (.ref C) (some a) σ H -> X.xe (.ref a) s
section
variable {CX:CXT} {P:Program} {w:World} {K:PySem.W.Frag} {mg:Str -> Option Value} {base:Heap} {N:List Str} {qual:Str} {scope:Scope} {f:Addr} {cd:Value} {A:Around} {outer:List Env} {s₀:Shared} {H₀:Hp} {E:XK}
theorem aI:Thr (oJ (CXE P w) P w K mg base N qual scope f cd A outer s₀ H₀ E) (fun C a _ H=>∀ H',aG H H' -> E C a H'):=by
 intro pins σ H s a C dx I F hw
 show wpAny _ _ (leaving _ _) _ _ s
 unfold leaving
 refine wpAny_bind (xS I ⟨rfl,rfl⟩ F fun s1 H1 I1 g1 F1=>?_)
 refine m9 I1 F1 fun s2 I2 F2=>?_
 exact ⟨a,C,dx,H1,rfl,I2.os,I2.bare,I2.base,I2.hok,F2.fly,hw H1 g1⟩
theorem gO:PassesOwn (model P w) (oJ (CXE P w) P w K mg base N qual scope f cd A outer s₀ H₀ E).A (oJ (CXE P w) P w K mg base N qual scope f cd A outer s₀ H₀ E).env (oJ (CXE P w) P w K mg base N qual scope f cd A outer s₀ H₀ E).xe:=by
 show PassesOwn (model P w) (A.deeper (envOfC qual scope s₀.heap.objs.size f cd)) (envOfC qual scope s₀.heap.objs.size f cd) (fun e s'=>wpAny (model P w) (A.deeper (envOfC qual scope s₀.heap.objs.size f cd)) (leaving (envOfC qual scope s₀.heap.objs.size f cd) e) (fun _ s''=>CXE P w outer H₀ s₀ E e s'') (fun e' s''=>CXE P w outer H₀ s₀ E e' s'') s')
 passes_own
end
section
variable {X:Cx} {k:Nat} {f:Addr} {fd:FuncData} {ps:List Str} {sp:Sp} {dvs:List V} {ds:List Value} {W:XW} {x m:Str} {p pos apos:Pos} {e o:Expr} {es:List Expr} {ta:TE} {t:TA}
noncomputable def qJ (sp:Sp) (dvs:List V) (W:XW) (t:TA):TE:=fun σ H Q=>t σ H fun vs H1=>sp (vs ++ dvs) H1 Q fun C a H'=>W C a σ H'
theorem qC {pins:List (Addr × Obj)} {σ:St} {H:Hp} {s:Shared} {Q:VK} {us:List Value} {vs:List V} (F:cw X.prog X.w X.K X.mg X.base (CXE X.prog X.w) k f fd ps sp) (hr:gY k X.A) (hb:Binds X.K fd ps ds) (hd:Vals dvs ds) (hx:Thr X W)
  (I:Inv X pins σ H s) (r:Vals vs us) (h:sp (vs ++ dvs) H Q fun C a H'=>W C a σ H'):wpAny (model X.prog X.w) X.A (call (.ref f) us) (EP X pins σ Q) X.xe s:=by
 have r2:Vals (vs ++ dvs) (us ++ ds):=r.append hd
 have hl:(us ++ ds).length = ps.length:=by rw [<- r2.length]; exact F.len _ _ _ _ h
 refine wpAny_call (codeAny_mono (F.run X.A X.stack s H ⟨us,[]⟩ (us ++ ds) (vs ++ dvs) Q _ hr I.EB (hb s us I.kIn hl) r2 h) fun r s' hq=>?_)
 cases r with
 | error e=>
   obtain ⟨a,C,dx,H',rfl,ho,bare,un,hok,fl,hw⟩:=hq
   exact hx pins σ H' s' a C dx (I.DI ho un hok bare fun b z=>absurd z (by simp)) fl hw
 | ok fl=>
   cases fl with
   | ret u=>exact I.after hq
   | next=>exact False.elim hq
   | brk=>exact False.elim hq
   | cont=>exact False.elim hq
theorem AL (F:cw X.prog X.w X.K X.mg X.base (CXE X.prog X.w) k f fd ps sp) (hr:gY k X.A) (hg:Gl X x) (hm:X.mg x = some (.ref f)) (hk:PySem.W.keepIn X.K (.ref f) = true) (hb:Binds X.K fd ps ds) (hd:Vals dvs ds) (hx:Thr X W)
  (ha:PA X (e ::es) t) (hdb:(x == ("__debug__":Str)) = false:=by decide) (he:starEach (e ::es) X.env = (false,eval e X.env) ::starEach es X.env:=by rfl) (hpl:(backTo pos (starEach es X.env)).any (·.1) = false:=by rfl):
  PE X (.Call (.Name x p) (e ::es) [] pos) (qJ sp dvs W t):=by
 intro pins s σ H Q I h
 refine wpAny_Call_Name_kw (lr I hg hm ?_ hdb)
 refine PySem.W.callWith_K (h₀:=X.base) I.ok.mod.kin hk (thn (ha pos pins s σ H _ I h) fun us s1 ⟨vs,H1,I1,r,q⟩=>⟨I1.kIn,?_⟩) he hpl
 exact qC F hr hb hd hx I1 r q
theorem zf (F:cw X.prog X.w X.K X.mg X.base (CXE X.prog X.w) k f fd ps sp) (hr:gY k X.A) (hg:Gl X x) (hm:X.mg x = some (.ref f)) (hk:PySem.W.keepIn X.K (.ref f) = true) (hb:Binds X.K fd ps ds) (hd:Vals dvs ds) (hx:Thr X W)
  (hdb:(x == ("__debug__":Str)) = false:=by decide):PE X (.Call (.Name x p) [] [] pos) (qJ sp dvs W kN):=by
 intro pins s σ H Q I h
 refine wpAny_Call_Name_kw (lr I hg hm ?_ hdb)
 exact PySem.W.callWith_K0 I.kIn hk (qC (us:=[]) F hr hb hd hx I .nil h)
end
end L2.E
namespace L2.E
open PySem PySem.Spec PyProof.Rows
theorem By {P:Program} {w:World} {H:Hp} {h:Heap} {a:Addr} {o:HO} (x:iI P w H h a o):∃ u,h.get? a = some u:=by
 cases o with
 | lst xs=>obtain ⟨_,_,_,_,e⟩:=x; exact ⟨_,e⟩
 | tup xs=>obtain ⟨_,_,_,u,e,_⟩:=x; exact ⟨_,e⟩
 | dK kvs=>obtain ⟨_,_,_,_,o,_,_,e,_⟩:=x; exact ⟨_,e⟩
 | dT kvs=>obtain ⟨_,_,_,_,o,_,_,e,_⟩:=x; exact ⟨_,e⟩
 | set S n=>obtain ⟨o,_,_,_,e,_⟩:=x; exact ⟨_,e⟩
 | ins C dx fs=>obtain ⟨_,_,_,e,_⟩:=x; exact ⟨_,e⟩
 | own y=>exact x
 | xd fs=>obtain ⟨_,⟨_,_,_,e,_⟩,_⟩:=x; exact ⟨_,e⟩
 | rng lo hi=>obtain ⟨_,_,_,e⟩:=x; exact ⟨_,e⟩
 | frz ob u=>obtain ⟨e,_⟩:=x; exact ⟨_,e⟩
 | tbl ps=>exact ⟨_,x⟩
 | met f y=>exact ⟨_,x⟩
 | ext φ=>exact x.2.1
section
variable {X:Cx} {pins:List (Addr × Obj)} {σ:St} {H:Hp} {s:Shared} {h':Heap} {a:Addr} {o:HO}
theorem u4 (I:Inv X pins σ H s) (hn:s.heap.get? a = none):H a = none:=by
 cases q:H a with
 | none=>rfl
 | some u=>
   obtain ⟨v,e⟩:=By (I.hok a u q)
   rw [hn] at e; cases e
theorem DL (I:Inv X pins σ H s) (k:∀ b u,s.heap.get? b = some u -> h'.get? b = some u) (hn:s.heap.get? a = none) (new:iI X.prog X.w (upd H a o) h' a o):
  Inv X pins σ (upd H a o) { s with heap:=h' }:=by
 have fr:=u4 I hn
 have ne:∀ b u,s.heap.get? b = some u -> b ≠ a:=fun b u q z=>by rw [z,hn] at q; cases q
 have un:Un X.fs [] H (upd H a o) s.heap h':=⟨fun b u q _ _ _=>k b u q,fun b u q _ _ _=>⟨u.slots,k b u q⟩,fun b u q n _=>by rw [aY (ne b u q)]; exact n,fun b u q _=>⟨u,k b u q⟩,
  fun b xs q=>by rw [aY (cS q fr)]; exact q,fun b u xs q=>by rw [aY (cS q fr)]; exact q,fun b ps q=>⟨#[],by rw [aY (cS q fr),q]; simp⟩⟩
 refine I.un (t':=s.toks) un fun b u q=>?_
 by_cases hb:b = a
 . subst hb
   rw [bg] at q; cases q
   exact new
 . rw [aY hb] at q
   exact (I.hok b u q).n8 (fun c v _ z=>k c v z) (fun c z=>by rw [aY (cS z fr)]; exact z) fun c xs z=>by rw [aY (cS z fr)]; exact z
end
noncomputable def xK (C:Addr) (W:XW) (t:TA):TS:=fun D σ H=>t σ H fun vs H1=>vs.length <= sizeLine /\ ∀ a,H1 a = none -> W (.ref C) (some a) σ (upd H1 a (nF a C none))
theorem xY {K:PySem.W.Frag} {h₀:Heap} {mg:Str -> Option Value} {x:Str} {C:Addr} {bmB:List Value} {newId:String} (X:K.In h₀) (e:mg x = some (.ref C)) (q:PySem.W.excIn K C bmB newId = true):
  OwnCls x C bmB newId mg h₀:=by
 refine ⟨e,?_⟩
 unfold PySem.W.excIn at q
 split at q
 next dd cd sl ho=>
  split at q
  next C' bm k0 k1 k2 k3 n k5 hm hs=>
   simp only [Bool.and_eq_true,beq_iff_eq,Bool.not_eq_true'] at q
   obtain ⟨⟨⟨⟨⟨e1,e2⟩,del⟩,ht⟩,ok⟩,ini⟩:=q
   subst e1 e2
   cases cd with
   | mk nm bs mro ns qn hd sn sub ab col dl=>
     dsimp only at hm del ok ini
     subst hm del
     have z:sl = #[k0,k1,k2,k3,some (.builtin n),k5]:=by cases sl; simp only at hs; rw [hs]
     subst z
     exact ⟨bm,ns,nm,qn,bs,hd,sn,sub,ab,col,dd,k0,k1,k2,k3,k5,_,X _ _ ho,.of_isNs (PySem.W.isNs_of_in X ok),PySem.W.nsMap_none_of_in X ok ini,PySem.W.tail_of_in X ht⟩
  next=>cases q
 next=>cases q
theorem CZ {X:Cx} {pins:List (Addr × Obj)} {σ:St} {H:Hp} {s:Shared} {h':Heap} {e C:Addr} {us:List Value} (I:Inv X pins σ H s) (hm:Heap.MadeExcOf s.heap h' e (.ref C) us):
  H e = none /\ Inv X pins σ (upd H e (nF e C none)) { s with heap:=h' } /\ Fly (upd H e (nF e C none)) h' e C none:=by
 obtain ⟨t,he,_,_⟩:=hm.there
 refine ⟨u4 I hm.new,DL I hm.keeps hm.new (xM ⟨_,_,he,rfl,rfl,rfl,rfl⟩),bg,_,_,he,rfl,.inl rfl⟩
section
variable {X:Cx} {x:Str} {np cpos pos:Pos} {e₀:Expr} {rest:List Expr} {t:TA} {W:XW} {C:Addr} {B newId initId:String} {bm:List Value}
theorem An (hT:Thr X W) (hh:X.A.handled = none) (FB:ExcBaseFacts B newId initId bm) (hg:Gl X x) (hm:X.mg x = some (.ref C)) (hC:PySem.W.excIn X.K C bm newId = true) (ha:PA X (e₀ ::rest) t)
  (he:starEach (e₀ ::rest) X.env = (false,eval e₀ X.env) ::starEach rest X.env:=by rfl) (hpl:(backTo cpos (starEach rest X.env)).any (·.1) = false:=by rfl) (hd:(x == ("__debug__":Str)) = false:=by decide):
  PS X (.Raise (some (.Call (.Name x np) (e₀ ::rest) [] cpos)) none pos) (xK C W t):=by
 intro pins s σ H D I h
 have O:=xY I.mod.kin hm hC
 obtain ⟨tl,N,nm,q,bs,hdct,sn,sub,ab,col,dd,k0,k1,k2,k3,k5,mN,hc,hN,hni,T⟩:=O.obj
 refine wpAny_Raise_call_subT (nm:=nm) (q:=q) (N:=N) (bs:=bs) (hdct:=hdct) (sn:=sn) (sub:=sub)
  (ab:=ab) (col:=col) (dd:=dd) (k0:=k0) (k1:=k1) (k2:=k2) (k3:=k3) (k5:=k5) (mN:=mN) FB (T.hasType FB.hasBase) hh ?_ hni (lr I hg hm ⟨rfl,?_⟩ hd)
 . rw [he]
   show (false || (backTo cpos (starEach rest X.env)).any (·.1)) = false
   rw [hpl]; rfl
 . have hsp:=ha cpos pins s σ H _ I h
   rw [he] at hsp ⊢
   refine Calls.evalArgs_plain (wpAny_mono hsp (fun us s2 ⟨vs,H2,I2,r,z,w⟩=>⟨rfl,by rw [<- r.length]; exact z,I2.bk _ _ hc,hN.keeps I2.bk,T.keeps I2.bk,fun h' e hm=>?_⟩) fun _ _ y=>y)
   obtain ⟨f1,f2,f3⟩:=CZ I2 hm
   exact hT pins σ _ _ e C none f2 f3 (w e f1)
end
noncomputable abbrev hand (X:Cx) (a:Addr):Cx:={ X with A:=X.A.mark (some (.ref a)),calm:=false,xe:=fun _ _=>False }
theorem yx {X:Cx} {pins:List (Addr × Obj)} {σ:St} {H:Hp} {s:Shared} (I:Inv X pins σ H s) (a:Addr):Inv (hand X a) pins σ H s:=
 ⟨⟨I.ok.mod,I.ok.kind,I.ok.glob,I.ok.blt,I.ok.above,I.ok.inj,I.ok.has,I.ok.cab,fun z=>absurd z Bool.false_ne_true,I.ok.frames,I.ok.stk,I.ok.exf,I.ok.bs,I.ok.bsz,I.ok.noex,I.ok.exfs,I.ok.qr,I.ok.frf⟩,I.os,I.bare,I.base,I.loc,I.cell,I.free,I.freeC,I.pin,I.hok,I.len⟩
theorem oF {X:Cx} {pins:List (Addr × Obj)} {σ:St} {H:Hp} {s:Shared} {a:Addr} (ok:X.Ok) (I:Inv (hand X a) pins σ H s):Inv X pins σ H s:=
 ⟨ok,I.os,I.bare,I.base,I.loc,I.cell,I.free,I.freeC,I.pin,I.hok,I.len⟩
noncomputable abbrev rl (X:Cx) (pn:List (Addr × Obj)) (xe:Value -> Shared -> Prop):Cx:={ X with pn:=pn,xe:=xe }
theorem FK {X:Cx} {pins:List (Addr × Obj)} {σ:St} {H:Hp} {s:Shared} (I:Inv X pins σ H s) (xe:Value -> Shared -> Prop):Inv (rl X (X.pn ++ pins) xe) [] σ H s:=
 ⟨⟨I.ok.mod,I.ok.kind,I.ok.glob,I.ok.blt,I.ok.above,I.ok.inj,I.ok.has,I.ok.cab,I.ok.hd,I.ok.frames,I.ok.stk,I.ok.exf,I.ok.bs,I.ok.bsz,I.ok.noex,I.ok.exfs,I.ok.qr,I.ok.frf⟩,I.os,I.bare,I.base,I.loc,I.cell,I.free,I.freeC,fun p hp=>I.pin p (by simpa using hp),I.hok,I.len⟩
theorem pb {X:Cx} {pins pins':List (Addr × Obj)} {σ:St} {H:Hp} {s:Shared} {xe:Value -> Shared -> Prop} (ok:X.Ok) (I:Inv (rl X (X.pn ++ pins) xe) pins' σ H s):Inv X pins σ H s:=
 ⟨ok,I.os,I.bare,I.base,I.loc,I.cell,I.free,I.freeC,fun p hp=>I.pin p (List.mem_append_left _ hp),I.hok,I.len⟩
noncomputable def lJ (K:PySem.W.Frag) (C:Addr) (bm:List Value):Prop:=bm.contains (.type "BaseException") = true /\ ∃ nm q N bs hdct sn sub ab col dd k0 k1 k2 k3 k5 newId,K.lookup C = some (excClassObj nm q C N bs bm hdct sn sub ab col dd k0 k1 k2 k3 k5 newId)
noncomputable def tm (K:PySem.W.Frag) (T C:Addr) (b:Bool):Prop:=∃ bmC bmT,lJ K C bmC /\ lJ K T bmT /\ (Value.ref C ::bmC).contains (.ref T) = b
theorem wN {M:Model} {A:Around} {E:Value -> Shared -> Prop} {K:PySem.W.Frag} {s:Shared} {a C T:Addr} {dx:Option Addr} {b:Bool} {Q:Bool -> Shared -> Prop} (X:K.In s.heap) (e:Bz a C dx s.heap) (t:tm K T C b) (hq:Q b s):
  wpAny M A (excMatches (.ref a) (.ref T)) Q E s:=by
 obtain ⟨bmC,bmT,⟨bC,nm,q,N,bs,hdct,sn,sub,ab,col,dd,k0,k1,k2,k3,k5,nid,lC⟩,⟨bT,nm',q',N',bs',hdct',sn',sub',ab',col',dd',k0',k1',k2',k3',k5',nid',lT⟩,hb⟩:=t
 obtain ⟨o,vs,he,hcls,_⟩:=e
 have hC:=X _ _ lC
 have hT:=X _ _ lT
 obtain ⟨hp,g,d,tk,os⟩:=s
 have f:=tc_notTuple
 have cB:(Value.ref T ::bmT).contains (.type "BaseException") = true:=by rw [List.contains_cons,bT,Bool.or_true]
 unfold excMatches
 repeat (first
  | (with_reducible refine wpAny_loadPart_at he ?_; rw [hcls])
  | with_reducible refine wpAny_loadPart_at hT ?_
  | (with_reducible refine wpAny_isSubtype_exc hC ?_; rw [hb])
  | (with_reducible refine wpAny_isSubtype_exc hT ?_; rw [cB])
  | wp_step)
 cases b <;> (wp_walk; exact hq)
end L2.E
namespace L2.E
open PySem PySem.Spec PyProof.Rows
theorem CN {X:Cx} {pins:List (Addr × Obj)} {σ:St} {H:Hp} {s:Shared} {h':Heap} {t':Nat} {i:Nat} {n:Str} {m:Str -> Option Value} {v:Option Value} (I:Inv X pins σ H s) (hN:X.N.Nodup) (hi:X.N[i]? = some n)
  (hl:∀ (j:Nat) (x:Str) (v:V),X.N[j]? = some x -> σ[j]? = some (some v) -> Vis X.env.scope x -> ∃ u,RelV v u /\ Look X.env s.heap m x u)
  (hs:Heap.SameBut X.env.locals s.heap h') (hn:h'.Ns X.env.locals (fun x=>if x = n then v else m x)):Inv X pins (σ.set i none) H { s with heap:=h',toks:=t' }:=by
 have cne:=I.cne
 refine ⟨I.ok,I.os,I.bare,⟨fun b o e k hb hx=>?_,fun b o e k hb hx=>?_,I.base.free,fun b o e hx=>?_,I.base.tups,I.base.frzs,I.base.tbls⟩,⟨_,hn,fun j y w e1 e2 e3=>?_⟩,fun y c e=>?_,I.free,I.freeC,fun p hp=>?_,fun b ob e=>?_,by simpa using I.len⟩
 . exact (hs.2 b (Nat.ne_of_lt (Nat.lt_of_lt_of_le (Heap.lt_size e) I.ok.above))).trans (I.base.keep b o e k hb hx)
 . obtain ⟨sl,z⟩:=I.base.slot b o e k hb hx
   exact ⟨sl,(hs.2 b (Nat.ne_of_lt (Nat.lt_of_lt_of_le (Heap.lt_size e) I.ok.above))).trans z⟩
 . obtain ⟨o',z⟩:=I.base.there b o e hx
   exact ⟨o',(hs.2 b (Nat.ne_of_lt (Nat.lt_of_lt_of_le (Heap.lt_size e) I.ok.above))).trans z⟩
 . by_cases hj:j = i
   . subst hj
     rw [List.getElem?_set] at e2
     split at e2
     . split at e2 <;> cases e2
     . exact absurd rfl ‹_›
   . rw [List.getElem?_set_ne (Ne.symm hj)] at e2
     obtain ⟨u,r,q⟩:=hl j y w e1 e2 e3
     refine ⟨u,r,?_⟩
     rcases q with ⟨k,e⟩ | ⟨k,c,e,z⟩
     . refine .inl ⟨k,?_⟩
       have:y ≠ n:=fun z=>hj (qH hN e1 (z ▸ hi))
       simp [this,e]
     . exact .inr ⟨k,c,e,z.sameBut hs (cne y c e)⟩
 . obtain ⟨w,z⟩:=I.cell y c e
   exact ⟨w,z.sameBut hs (cne y c e)⟩
 . obtain ⟨e,k,ne,nf,d⟩:=I.pin p hp
   exact ⟨(hs.2 p.1 ne).trans e,k,ne,nf,d⟩
 . refine (I.hok b ob e).n8 (fun c w hc q=>(hs.2 c ?_).trans q) (fun _ q=>q) fun _ _ q=>q
   rintro rfl
   rcases hc with z | z
   . rw [<- z,I.free] at e; cases e
   . rw [I.free] at z; cases z
noncomputable def GF (i:Option Nat) (a:Option Addr) (σ:St):St:=match i,a with
 | some j,some b=>σ.set j (some (.ref b))
 | _,_=>σ
noncomputable def zU (i:Option Nat) (σ:St):St:=match i with
 | some j=>σ.set j none
 | none=>σ
noncomputable def Bx (i:Option Nat) (D:Ends):Ends:={ nx:=fun σ H=>D.nx (zU i σ) H,rt:=D.rt,bk:=fun σ H=>D.bk (zU i σ) H,ct:=fun σ H=>D.ct (zU i σ) H }
noncomputable def GJ (K:PySem.W.Frag) (T:Addr) (ts:TS) (i:Option Nat) (W₀:XW) (D:Ends):XW:=fun C a σ H=>∀ H',aG H H' -> ∃ c b,C = .ref c /\ tm K T c b /\ if b = true then ts (Bx i D) (GF i a σ) H' else W₀ C a σ H'
noncomputable def Fv (K:PySem.W.Frag) (tb:XW -> TS) (T:Addr) (ts:TS) (i:Option Nat) (W₀:XW):TS:=fun D σ H=>tb (GJ K T ts i W₀ D) D σ H
section
variable {X:Cx} {x n:Str} {np hpos pos:Pos} {body suite:List Stmt} {b₀:Stmt} {tb:XW -> TS} {ts:TS} {T:Addr} {W₀:XW}
theorem CI {a:Addr} {pins:List (Addr × Obj)} {D:Ends} {f:Flow} {s:Shared} (ok:X.Ok) (h:SP (hand X a) pins D f s):SP X pins D f s:=by
 cases f with
 | next=>obtain ⟨σ',H',I,q⟩:=h; exact ⟨σ',H',oF ok I,q⟩
 | brk=>obtain ⟨σ',H',I,q⟩:=h; exact ⟨σ',H',oF ok I,q⟩
 | cont=>obtain ⟨σ',H',I,q⟩:=h; exact ⟨σ',H',oF ok I,q⟩
 | ret u=>obtain ⟨v,σ',H',I,r,q⟩:=h; exact ⟨v,σ',H',oF ok I,r,q⟩
theorem Er {pins pins':List (Addr × Obj)} {xe:Value -> Shared -> Prop} {D:Ends} {f:Flow} {s:Shared} (ok:X.Ok) (h:SP (rl X (X.pn ++ pins) xe) pins' D f s):SP X pins D f s:=by
 cases f with
 | next=>obtain ⟨σ',H',I,q⟩:=h; exact ⟨σ',H',pb ok I,q⟩
 | brk=>obtain ⟨σ',H',I,q⟩:=h; exact ⟨σ',H',pb ok I,q⟩
 | cont=>obtain ⟨σ',H',I,q⟩:=h; exact ⟨σ',H',pb ok I,q⟩
 | ret u=>obtain ⟨v,σ',H',I,r,q⟩:=h; exact ⟨v,σ',H',pb ok I,r,q⟩
theorem zE {pins:List (Addr × Obj)} {σ:St} {H:Hp} {s:Shared} {a C:Addr} {dx:Option Addr} {b:Bool} {R:Result -> Shared -> Prop} (I:Inv X pins σ H s) (F:uA H s.heap a C dx) (hg:Gl X x) (hm:X.mg x = some (.ref T)) (hk:tm X.K T C b)
  (hd:(x == ("__debug__":Str)) = false) (h:R (.ok (if b then .brk else .next)) s):codeAny (model X.prog X.w) (X.A.mark (some (.ref a))) (.handlers (.ref a) [.ExceptHandler (some (.Name x np)) none [] hpos] X.env) R s:=by
 refine codeAny_handlers_test (lr (X:=hand X a) (yx I a) hg hm ?_ hd)
 obtain ⟨e,_,_⟩:=I.hok a _ F.exc
 exact wN I.kIn e hk h
theorem Aw {i:Nat} (hst:X.stack = X.env ::X.outer /\ X.env.frame = some X.env.locals) (hN:X.N.Nodup) (hi:X.N[i]? = some n) (hl:X.env.scope.names.lookup n = some .local) (hb:∀ pn xe W,Thr (rl X pn xe) W -> PassesOwn (model X.prog X.w) X.A X.env xe -> PSs (rl X pn xe) body (tb W))
  (hg:Gl X x) (hm:X.mg x = some (.ref T)) (hs:∀ a,PSs (hand X a) (b₀ ::suite) ts) (hX:Thr X W₀) (hd:(x == ("__debug__":Str)) = false:=by decide):
  PS X (.Try body [.ExceptHandler (some (.Name x np)) (some n) (b₀ ::suite) hpos] [] [] pos) (Fv X.K tb T ts (some i) W₀):=by
 intro pins s σ H D I h
 have hcls:(X.env.scope.kind == .class || (X.env.scope.kind == .module && X.env.locals != X.env.globals)) = false:=by rw [I.ok.kind]; rfl
 have fin:∀ {σ' H' s'},Inv X pins σ' H' s' -> ∀ {Q:Unit -> Shared -> Prop} {E:Value -> Shared -> Prop},(∀ s'',Inv X pins (σ'.set i none) H' s'' -> Q () s'') -> wpAny (model X.prog X.w) X.A (do bindName X.env n .none; unbindBehindTheSuite X.env n hpos) Q E s':=fun {σ' H' s'} J {Q E} k=>by
  obtain ⟨m,hn,hlk⟩:=id J.loc
  exact wpAny_nameGoes_keeps hl hn hcls fun h2 v hn2 hs2=>k _ (CN J hN hi hlk hs2 hn2)
 refine wpAny_Try_except ?_
 refine wpAny_mono (hb (X.pn ++ pins) _ (GJ X.K T ts (some i) W₀ D) ?_ PassesOwn.looking [] s σ H D (FK I _) h) (fun f s1 h1=>?_) fun _ _ z=>z
 . intro pins' σ' H' s' a C dx I' F' hw
   refine xS (pb (pins:=pins) I.ok I') hst F' fun s1 H1 I1 g1 F1=>?_
   refine m9 I1 F1 fun s2 I2 F2=>?_
   obtain ⟨c,b,hc,hk,q⟩:=hw H1 g1
   cases hc
   refine wpAny_handleBy_cons (zE I2 F2 hg hm hk hd ?_) (by intro z; cases z)
   cases b with
   | true=>
     refine codeAny_handlers_suite_as (m9 (X:=hand X a) (yx I2 a) F2 fun s3 I3 F3=>?_)
     refine i6 (X:=hand X a) (v:=.ref a) I3 hN hi (.inl hl) rfl (fun s4 I4=>?_) (.inr hl)
     refine wpAny_mono (hs a pins s4 _ H1 (Bx (some i) D) I4 q) (fun f s5 h5=>?_) fun _ _ z=>False.elim z
     have z:=CI I.ok h5
     show wpAny _ _ _ _ _ s5
     cases f with
     | next=>obtain ⟨σ6,H6,J,r⟩:=z; exact fin J fun s7 J7=>⟨_,_,J7,r⟩
     | brk=>obtain ⟨σ6,H6,J,r⟩:=z; exact fin J fun s7 J7=>⟨_,_,J7,r⟩
     | cont=>obtain ⟨σ6,H6,J,r⟩:=z; exact fin J fun s7 J7=>⟨_,_,J7,r⟩
     | ret u=>obtain ⟨v,σ6,H6,J,rv,r⟩:=z; exact fin J fun s7 J7=>⟨v,_,_,J7,rv,r⟩
   | false=>
     refine wpAny_handleBy_nil (B7 I2 F2 fun s3 I3 F3=>?_)
     exact hX pins σ' H1 s3 a C dx I3 F3.fly q
 . have z:=Er I.ok h1
   cases f with
   | next=>exact wpAny_execs_nil z
   | brk=>exact z
   | cont=>exact z
   | ret u=>exact z
end
end L2.E
namespace L2.E
open PySem PySem.Spec PyProof.Rows
noncomputable abbrev blk (X:Cx) (scope:Scope) (cl:List (Str × Addr)) (N:List Str) (C:Addr) (s₀:Shared) (H₀:Hp) (ex:List Addr):Cx:=
 { prog:=X.prog,w:=X.w,K:=X.K,mg:=X.mg,base:=X.base,A:=X.A,N:=N,s₀:=s₀,H₀:=H₀,env:=compEnvC scope cl C X.env,outer:=X.stack,stack:=X.stack,ex:=ex,fn:=fun _=>false,calm:=X.calm,pn:=[],xe:=fun _ _=>False }
theorem Fo {X:Cx}:Thr X (fun _ _ _ _=>False):=fun _ _ _ _ _ _ _ _ _ h=>h.elim
structure kL (X:Cx) (scope:Scope) (cl:List (Str × Addr)) (M:List Str) (ι:List Nat) (x:Str):Prop where
 clos:closureFor scope X.env = pure cl
 kind:scope.kind = .function
 nocell:(scope.names.all fun p=>p.2 != .cell) = true
 locs:(scope.names.all fun p=>p.2 != .local || scope.names.lookup p.1 == some .local) = true
 var:scope.names.lookup x = some .local
 names:M.map some = ι.map fun i=>X.N[i]?
 cells:M.map (fun y=>scope.names.lookup y) = M.map fun _=>some .free
 kinds:M.map X.env.kindOf = M.map fun _=>some .cell
 same:M.map (fun y=>cl.lookup y) = M.map fun y=>X.env.cells.lookup y
 sub:cl.map (fun p=>X.env.cells.lookup p.1) = cl.map fun p=>some p.2
 all:(scope.names.all fun p=>!(p.2 == .free) || (cl.lookup p.1).isSome) = true
 nd:(M ++ [x]).Nodup
theorem tL {α β:Type} {f g:α -> β} {l:List α} (h:l.map f = l.map g) {a:α} (ha:a ∈ l):f a = g a:=by
 induction l with
 | nil=>cases ha
 | cons b r ih=>
   rw [List.map_cons,List.map_cons] at h
   injection h with h1 h2
   rcases List.mem_cons.mp ha with z | z
   . rw [z]; exact h1
   . exact ih h2 z
theorem uL {scope:Scope} {env:Env} {y:Str} (h:scope.names.lookup y = some .free):(relabel scope env).names.lookup y = some .cell \/ (relabel scope env).names.lookup y = some .free:=by
 unfold relabel
 dsimp only
 generalize scope.names = l at h
 induction l with
 | nil=>cases h
 | cons p r ih=>
   obtain ⟨n,k⟩:=p
   rw [List.lookup_cons] at h
   rw [List.map_cons]
   by_cases e:(y == n) = true
   . rw [e] at h
     have hk:k = .free:=Option.some.inj h
     subst hk
     dsimp only
     split
     . rw [List.lookup_cons,e]; exact .inl rfl
     . rw [List.lookup_cons,e]; exact .inr rfl
   . have e':(y == n) = false:=by simpa using e
     rw [e'] at h
     dsimp only
     split
     . rw [List.lookup_cons,e']; exact ih h
     . rw [List.lookup_cons,e']; exact ih h
theorem uF {scope:Scope} {env:Env} {y:Str} (hc:(scope.names.all fun p=>p.2 != .cell) = true) (h:(relabel scope env).names.lookup y = some .cell \/ (relabel scope env).names.lookup y = some .free):∃ p ∈ scope.names,p.1 = y /\ p.2 = .free:=by
 unfold relabel at h
 dsimp only at h
 generalize scope.names = l at h hc
 induction l with
 | nil=>rcases h with h | h <;> cases h
 | cons p r ih=>
   obtain ⟨n,k⟩:=p
   rw [List.all_cons,Bool.and_eq_true] at hc
   rw [List.map_cons] at h
   by_cases e:(y == n) = true
   . refine ⟨(n,k),List.mem_cons_self,(beq_iff_eq.mp e).symm,?_⟩
     dsimp only at h ⊢
     split at h
     . rename_i c
       simp only [Bool.and_eq_true,beq_iff_eq] at c
       exact c.1.1
     . rw [List.lookup_cons,e] at h
       have hk:(k != NameKind.cell) = true:=hc.1
       rcases h with h | h
       . have:k = .cell:=Option.some.inj h
         subst this
         exact absurd hk (by decide)
       . exact Option.some.inj h
   . have e':(y == n) = false:=by simpa using e
     have h':(List.map (fun x=>match x with | (n,k)=>if (k == NameKind.free && env.scope.kind == ScopeKind.function && env.kindOf n == some NameKind.cell) = true then (n,NameKind.cell) else (n,k)) r).lookup y = some .cell \/
       (List.map (fun x=>match x with | (n,k)=>if (k == NameKind.free && env.scope.kind == ScopeKind.function && env.kindOf n == some NameKind.cell) = true then (n,NameKind.cell) else (n,k)) r).lookup y = some .free:=by
      dsimp only at h
      split at h
      . rw [List.lookup_cons,e'] at h; exact h
      . rw [List.lookup_cons,e'] at h; exact h
     obtain ⟨q,hq,z⟩:=ih h' hc.2
     exact ⟨q,List.mem_cons_of_mem _ hq,z⟩
noncomputable def pick (ι:List Nat) (σ:St):St:=ι.map fun i=>(σ[i]?).join
noncomputable def qb (wi:TI) (ι:List Nat) (te:TE):TE:=fun σ H Q=>wi σ H fun J H1=>∀ D,H1 D = none -> ∃ W:Nat -> Nat -> List V -> Hp -> Prop,(∃ m,W 0 m [] (upd H1 D (.lst []))) /\ ∀ i m ys H,W i m ys H ->
 H D = some (.lst ys) /\ ((J.stop i H /\ Q (.ref D) H) \/ (J.go i H /\ ∀ x H',J.yld i H x H' -> te (pick ι σ ++ [some x]) H' fun y H2=>H2 D = some (.lst ys) /\ ys.length < sizeLine /\ ∃ m',m' < m /\ W (i + 1) m' (ys ++ [y]) (upd H2 D (.lst (ys ++ [y])))))
section
variable {X:Cx} {scope:Scope} {cl:List (Str × Addr)} {M:List Str} {ι:List Nat} {x:Str}
theorem kL.rX (S:kL X scope cl M ι x) {y:Str} {c:Addr} (h:cl.lookup y = some c):X.env.cells.lookup y = some c:=tL S.sub (PySem.mem_of_lookup h)
theorem xa {pins:List (Addr × Obj)} {σ:St} {H:Hp} {s:Shared} {h₁:Heap} {t':Nat} {ex:List Addr} (S:kL X scope cl M ι x) (I:Inv X pins σ H s) (hex:∀ b ∈ ex,mR X pins H b /\ b < s.heap.objs.size) (hn:h₁.Ns s.heap.objs.size (fun _=>none))
  (hk:∀ b o,s.heap.get? b = some o -> h₁.get? b = some o):Inv (blk X scope cl (M ++ [x]) s.heap.objs.size s H ex) [] (pick ι σ ++ [none]) H { s with heap:=h₁,toks:=t' }:=by
 have noM:∀ b:Addr,b ∈ ex -> b ≠ s.heap.objs.size:=fun b hb=>Nat.ne_of_lt (hex b hb).2
 have fsx:∀ b ∈ ex,b ∉ frs X.stack:=fun b hb z=>by
  obtain ⟨⟨_,f1,f2,_⟩,_⟩:=hex b hb
  rcases List.mem_cons.mp (I.xA b z) with e | e
  . exact f1 e
  . exact f2 e
 have base0:∀ b o,X.base.get? b = some o -> b ∉ ex:=fun b o e z=>by
  obtain ⟨⟨_,_,_,f3,_⟩,_⟩:=hex b z
  rcases f3 with f | f
  . exact I.ok.noex b o e f
  . exact absurd (Nat.lt_of_lt_of_le (Heap.lt_size e) (Nat.le_trans I.ok.bsz f)) (Nat.lt_irrefl _)
 refine ⟨⟨I.ok.mod,S.kind,I.ok.glob,I.ok.blt,Nat.le_refl _,fun y z c h1 h2=>I.ok.inj y z c (S.rX h1) (S.rX h2),fun y hy=>?_,fun y c z=>absurd z Bool.false_ne_true,I.ok.hd,I.ok.frames,.inl rfl,
  fun b hb=>⟨noM b hb,fun y c h z=>(hex b hb).1.2.2.2.2.1 y c (S.rX h) z⟩,I.bs,Nat.le_trans I.ok.bsz I.sz,base0,fsx,I.stack,I.uh⟩,
  rfl,I.bare,Un.kept hk,⟨_,hn,fun i y v e1 e2 e3=>?_⟩,fun y c h=>?_,I.fresh,fun y c h=>?_,fun p hp=>absurd (show p ∈ ([]:List (Addr × Obj)) from hp) (by simp),I.hok.kept hk,?_⟩
 . obtain ⟨p,hp,rfl,hpf⟩:=uF S.nocell hy
   have q:=List.all_eq_true.mp S.all p hp
   rw [hpf] at q
   have q':(cl.lookup p.1).isSome = true:=by
    cases e:(cl.lookup p.1).isSome with
    | true=>rfl
    | false=>rw [e] at q; exact absurd q (by decide)
   exact Option.isSome_iff_exists.mp q'
 . have hiM:i < M.length:=by
    by_cases hlt:i < M.length
    . exact hlt
    . exfalso
      have hl:(pick ι σ).length = M.length:=by
       have q:=congrArg List.length S.names
       rw [List.length_map,List.length_map] at q
       unfold pick
       rw [List.length_map,q]
      rw [List.getElem?_append_right (by omega),hl] at e2
      have:i - M.length = 0 \/ 1 <= i - M.length:=by omega
      rcases this with z | z
      . rw [z] at e2; cases e2
      . rw [List.getElem?_eq_none (by simpa using z)] at e2; cases e2
   have hl:ι.length = M.length:=by
    have q:=congrArg List.length S.names
    rw [List.length_map,List.length_map] at q
    exact q.symm
   rw [List.getElem?_append_left hiM] at e1
   have hyM:y ∈ M:=List.mem_of_getElem? e1
   have e2':((σ[ι[i]]?).join) = some v:=by
    rw [List.getElem?_append_left (by unfold pick; rw [List.length_map]; omega)] at e2
    unfold pick at e2
    rw [List.getElem?_map,List.getElem?_eq_getElem (by omega)] at e2
    exact Option.some.inj e2
   have e4:σ[ι[i]]? = some (some v):=by
    cases q:σ[ι[i]]? with
    | none=>rw [q] at e2'; cases e2'
    | some w=>rw [q] at e2'; exact congrArg some e2'
   have e5:X.N[ι[i]]? = some y:=by
    have q:=congrArg (fun l=>l[i]?) S.names
    rw [List.getElem?_map,List.getElem?_map,e1,List.getElem?_eq_getElem (by omega)] at q
    exact (Option.some.inj q).symm
   have kc:X.env.kindOf y = some .cell:=tL S.kinds hyM
   obtain ⟨m,hm,hl⟩:=I.loc
   obtain ⟨u,r,q⟩:=hl _ y v e5 e4 (.inr (.inl kc))
   refine ⟨u,r,.inr ⟨?_,?_⟩⟩
   . exact uL (tL S.cells hyM)
   . rcases q with ⟨k,_⟩ | ⟨_,c,e,o,ho,hd⟩
     . rw [kc] at k; cases k
     . exact ⟨c,(tL S.same hyM).trans e,o,hk _ _ ho,hd⟩
 . obtain ⟨v,o,ho,hd⟩:=I.cell y c (S.rX h)
   exact ⟨v,o,hk _ _ ho,hd⟩
 . exact I.freeC y c (S.rX h)
 . have q:=congrArg List.length S.names
   rw [List.length_map,List.length_map] at q
   show (pick ι σ ++ [none]).length = (M ++ [x]).length
   unfold pick
   rw [List.length_append,List.length_append,List.length_map,q]
   rfl
theorem uQ {pins:List (Addr × Obj)} {σ σ':St} {H H':Hp} {s s':Shared} {h':Heap} {ex:List Addr} {C:Addr} (I:Inv X pins σ H s) (hC:C = s.heap.objs.size) (hex:∀ b ∈ ex,mR X pins H b) {N:List Str} (J:Inv (blk X scope cl N C s H ex) [] σ' H' s')
  (hs:Heap.SameBut C s'.heap h'):Inv X pins σ H' { s' with heap:=h' }:=by
 subst hC
 have K:Inv X pins σ H' s':=I.DI (ch:=ex) J.os J.base J.hok J.bare fun b hb=>by
  obtain ⟨_,f1,_,f3,f4,f5⟩:=hex b hb
  exact ⟨f3,f1,f4,f5⟩
 refine K.turned (t':=s'.toks) (it:=s.heap.objs.size) (fun b o hb e=>(hs.2 b hb).trans e) J.free (Nat.ne_of_gt I.lt) (.inr I.sz) (fun y c e z=>?_) (fun p hp z=>?_)
 . obtain ⟨v,q⟩:=I.cell y c e
   exact absurd (z ▸ q.lt) (Nat.lt_irrefl _)
 . exact absurd (z ▸ Heap.lt_size (I.pin p hp).1) (Nat.lt_irrefl _)
theorem tF (elt target iter:Expr) (scope:Scope) (pos:Pos) (it acc:Value) (env:Env):
  compTurn (.ListComp elt [⟨target,iter,[],0⟩] scope pos) 0 it acc env = (do
   standAt iter.pos
   match <- pyNext it with
   | none=>pure (.done .next)
   | some v=>do
     letOwnedTupleGo target it v
     assign target env v
     (do let x <- eval elt env; let _ <- call (.builtin "list.append") [acc,x]; pure ())
     again (.compLoop (.ListComp elt [⟨target,iter,[],0⟩] scope pos) 0 it acc env)):=by rfl
theorem C6 {elt iter:Expr} {px pos:Pos} {wi:TI} {te:TE} (S:kL X scope cl M ι x) (hc:X.calm = true) (hi:PI X (.Name x px) iter wi) (he:∀ C s₀ H₀ ex,PE (blk X scope cl (M ++ [x]) C s₀ H₀ ex) elt te)
  (hs:∀ v,foldedSetIterable iter X.env v = pure v:=by intro _; rfl):PE X (.ListComp elt [⟨.Name x px,iter,[],0⟩] scope pos) (qb wi ι te):=by
 intro pins s σ H Q I h
 rw [eval_ListComp]
 refine wpAny_comprehension_free (use:=none) rfl hs S.clos S.kind (fun y hy hl=>?_) (wpAny_mono (hi pins s σ H _ I h) (fun v s1 h1=>wpAny_mono h1 (fun itv s2 h2=>?_) fun _ _ z=>z) fun _ _ z=>z)
 . have q:=List.all_eq_true.mp S.locs y hy
   rw [hl] at q
   simpa using q
 obtain ⟨it,fp,tn,J,H2,rfl,I2,T,st2,f2,hW⟩:=h2
 have I3:=I2.BP (ys:=[]) (its:=[]) (t':=s2.toks) .nil (Nat.zero_le _)
 obtain ⟨W,⟨m0,w0⟩,turn⟩:=hW s2.heap.objs.size I2.fresh
 have fpo:∀ b ∈ fp,b < s2.heap.objs.size:=fun b hb=>let ⟨_,e,_⟩:=T.obj _ _ st2 b hb; Heap.lt_size e
 have f3:∀ b ∈ fp,mR X pins (upd H2 s2.heap.objs.size (.lst [])) b:=fun b hb=>by
  obtain ⟨q0,q⟩:=f2 b hb
  exact ⟨by rw [aY (Nat.ne_of_lt (fpo b hb))]; exact q0,q⟩
 show wpAny _ _ (newObj (.type "list") _ none) _ _ s2
 refine wpAny_newObj_type (wpAny_newFunctionEnv (fun y hy=>?_) (by intro y hy; simp at hy) (fun h₁ hn₁ sb₁=>?_) S.kind)
 . have q:=List.all_eq_true.mp S.nocell y hy
   simpa using q
 have hsz:(s2.heap.push { cls:=.type "list",dict:=none,data:=.seq ([]:List Value).toArray }).objs.size = s2.heap.objs.size + 1:=Heap.size_push ..
 have hk₁:∀ b o,(s2.heap.push { cls:=.type "list",dict:=none,data:=.seq ([]:List Value).toArray }).get? b = some o -> h₁.get? b = some o:=fun b o e=>
  (sb₁.2 b (Nat.ne_of_lt (Heap.lt_size e))).trans (Heap.get?_push_of_some _ e)
 have J0:=xa (t':=s2.toks + ([]:List (Str × Value)).length) S I3 (ex:=fp) (fun b hb=>⟨f3 b hb,Nat.lt_of_lt_of_le (fpo b hb) (by rw [hsz]; exact Nat.le_succ _)⟩) hn₁ hk₁
 have old:∀ b ∈ fp,∀ o,s2.heap.get? b = some o -> h₁.get? b = some o:=fun b _ o e=>hk₁ b o (Heap.get?_push_of_some _ e)
 have st₁:tn 0 h₁:=T.keep _ _ _ st2 old
 have loop:codeAny (model X.prog X.w) X.A (.compLoop (.ListComp elt [⟨.Name x px,iter,[],0⟩] scope pos) 0 (.ref it) (.ref s2.heap.objs.size) (compEnvC scope cl (s2.heap.objs.size + 1) X.env))
   (compPost (model X.prog X.w) X.A X.xe none (EP X pins σ Q) (.ref s2.heap.objs.size) (s2.heap.objs.size + 1)) { s2 with heap:=h₁,toks:=s2.toks + ([]:List (Str × Value)).length }:=by
  rw [hsz] at J0
  refine codeAny_loop rfl (fun n s'=>∃ i H' ys v,Inv (blk X scope cl (M ++ [x]) (s2.heap.objs.size + 1) { s2 with heap:=s2.heap.push { cls:=.type "list",data:=.seq ([]:List Value).toArray },toks:=s2.toks } (upd H2 s2.heap.objs.size (.lst [])) fp) [] (pick ι σ ++ [v]) H' s' /\ tn i s'.heap /\ (∀ b ∈ fp,H' b = none) /\ W i n ys H')
   (fun n s' hI=>?_) m0 ⟨0,_,[],none,J0,st₁,fun b hb=>(f3 b hb).1,w0⟩
  obtain ⟨i,H',ys,v,J',st',fr',w'⟩:=hI
  obtain ⟨hD,alt⟩:=turn i n ys H' w'
  have fpY:∀ {G:Hp},(∀ b ∈ fp,G b = none) -> ∀ b ∈ fp,mR (blk X scope cl (M ++ [x]) (s2.heap.objs.size + 1) { s2 with heap:=s2.heap.push { cls:=.type "list",data:=.seq ([]:List Value).toArray },toks:=s2.toks } (upd H2 s2.heap.objs.size (.lst [])) fp) [] G b:=fun hG b hb=>
   ⟨hG b hb,(J'.ok.exf b hb).1,J'.ok.exfs b hb,.inl hb,(J'.ok.exf b hb).2,fun p hp=>absurd (show p ∈ ([]:List (Addr × Obj)) from hp) (by simp)⟩
  show wpAny _ _ ((compTurn _ 0 (.ref it) (.ref s2.heap.objs.size) (compEnvC scope cl (s2.heap.objs.size + 1) X.env)).onRaise _) _ _ s'
  refine wpAny_noted (wpAny_noRaise ?_)
  rw [tF]
  refine wpAny_bind (wpAny_standAt (wpAny_bind ?_))
  rcases alt with ⟨stop,qn⟩ | ⟨go,step⟩
  . refine thn (T.done (blk X scope cl (M ++ [x]) (s2.heap.objs.size + 1) _ _ fp) rfl rfl rfl hc i [] s' _ H' _ J' (fpY fr') st' stop) fun r s4 ⟨hr,J4⟩=>?_
    subst hr
    refine wpAny_pure ?_
    obtain ⟨m,hm,_⟩:=id J4.loc
    refine ⟨m,hm,fun h' sb=>⟨.ref s2.heap.objs.size,H',uQ I3 hsz.symm f3 J4 sb,rfl,qn⟩⟩
  . refine thn (T.item (blk X scope cl (M ++ [x]) (s2.heap.objs.size + 1) _ _ fp) rfl rfl rfl hc i [] s' _ H' _ J' (fpY fr') st' go) fun r s4 ⟨u,hr,h4⟩=>?_
    subst hr
    refine wpAny_bind (thn h4 fun _ s5 ⟨z,H5,J5,r5,y5,st5,fr5⟩=>?_)
    have J5':=J5.pinned (fpY fr5) (T.obj _ _ st5)
    have hxN:(M ++ [x])[M.length]? = some x:=by simp
    refine wpAny_bind ?_
    refine wpAny_assign_Name ?_
    refine i6 (X:=blk X scope cl (M ++ [x]) (s2.heap.objs.size + 1) _ _ fp) (i:=M.length) (v:=z) J5' S.nd hxN (.inl (lookup_relabel_local S.var)) r5 (fun s6 J6=>?_) (.inr (lookup_relabel_local S.var))
    have hlp:(pick ι σ).length = M.length:=by
     have q:=congrArg List.length S.names
     rw [List.length_map,List.length_map] at q
     unfold pick
     rw [List.length_map,q]
    have hset:(pick ι σ ++ [v]).set M.length (some z) = pick ι σ ++ [some z]:=by
     rw [<- hlp,List.set_append_right _ _ (Nat.le_refl _),Nat.sub_self]
     rfl
    rw [hset] at J6
    refine wpAny_bind (wpAny_bind (thn (he _ _ _ _ _ s6 _ H5 _ J6 (step z H5 y5)) fun yv s7 ⟨y,H7,J7,r7,hD7,hz7,m',hm',w7⟩=>?_))
    refine wpAny_bind (thn (e6 (X:=blk X scope cl (M ++ [x]) (s2.heap.objs.size + 1) _ _ fp) _ s7 _ H7 (.ref s2.heap.objs.size) [y] (.ref s2.heap.objs.size) [yv] (fun _ G=>G = upd H7 s2.heap.objs.size (.lst (ys ++ [y]))) J7 rfl (.cons r7 .nil) ⟨_,_,y,rfl,rfl,hD7,hz7,rfl⟩) fun _ s8 ⟨_,H8,J8,_,e8⟩=>?_)
    subst e8
    refine wpAny_pure (wpAny_pure ⟨rfl,m',hm',i + 1,_,_,some z,J8.i4,?_,fun b hb=>?_,w7⟩)
    . exact T.keep _ _ _ st5 fun b hb o e=>(J8.pin (b,o) (List.mem_append_right _ (List.mem_append_right _ (eO hb e)))).1
    . obtain ⟨o,e,d⟩:=T.obj _ _ st5 b hb
      exact (J8.pin (b,o) (List.mem_append_right _ (List.mem_append_right _ (eO hb e)))).2.1
 rw [hsz] at *
 exact codeAny_compStart_list loop (T.self X.A 0 _ _ _ st₁ loop)
end
end L2.E
namespace L2.E
open PySem PySem.Spec PyProof.Rows
section
variable {X:Cx}
noncomputable def IsV (K:PySem.W.Frag) (T:String) (x:V) (H:Hp) (b:Bool):Prop:=match x with
 | .int _=>(T = "int" /\ b = true) \/ (T = "bool" /\ b = false) \/ (T = "list" /\ b = false) \/ (T = "tuple" /\ b = false) \/ (T = "str" /\ b = false)
 | .bl _=>(T = "int" /\ b = true) \/ (T = "bool" /\ b = true) \/ (T = "list" /\ b = false) \/ (T = "tuple" /\ b = false) \/ (T = "str" /\ b = false)
 | .non=>(T = "int" /\ b = false) \/ (T = "bool" /\ b = false) \/ (T = "list" /\ b = false) \/ (T = "tuple" /\ b = false) \/ (T = "str" /\ b = false)
 | .str _=>(T = "int" /\ b = false) \/ (T = "bool" /\ b = false) \/ (T = "list" /\ b = false) \/ (T = "tuple" /\ b = false) \/ (T = "str" /\ b = true)
 | .ref p=>((∃ xs,SqL K H p xs) /\ ((T = "int" /\ b = false) \/ (T = "bool" /\ b = false) \/ (T = "list" /\ b = true) \/ (T = "tuple" /\ b = false) \/ (T = "str" /\ b = false))) \/
    ((∃ xs,SqT K H p xs) /\ ((T = "int" /\ b = false) \/ (T = "bool" /\ b = false) \/ (T = "list" /\ b = false) \/ (T = "tuple" /\ b = true) \/ (T = "str" /\ b = false)))
 | _=>False
theorem oV:mw X (.builtin "isinstance") (fun xs H Q=>∃ x T b,xs = [x,.ty T] /\ IsV X.K T x H b /\ Q (.bl b) H):=by
 intro pins s σ H vs us Q I rv h
 obtain ⟨x,T,b,rfl,hv,q⟩:=h
 obtain ⟨u,v,rfl,ru,rT⟩:=rv.two
 cases rT
 cases x with
 | int i=>
   obtain ⟨t,rfl⟩:=ru
   rcases hv with ⟨rfl,rfl⟩ | ⟨rfl,rfl⟩ | ⟨rfl,rfl⟩ | ⟨rfl,rfl⟩ | ⟨rfl,rfl⟩
   . exact IsiPair.int_int ⟨.bl _,H,I,rfl,q⟩
   . exact IsiPair.int_bool ⟨.bl _,H,I.tok _,rfl,q⟩
   . exact IsiPair.int_list ⟨.bl _,H,I.tok _,rfl,q⟩
   . exact IsiPair.int_tuple ⟨.bl _,H,I.tok _,rfl,q⟩
   . exact IsiPair.int_str ⟨.bl _,H,I.tok _,rfl,q⟩
 | bl i=>
   cases ru
   rcases hv with ⟨rfl,rfl⟩ | ⟨rfl,rfl⟩ | ⟨rfl,rfl⟩ | ⟨rfl,rfl⟩ | ⟨rfl,rfl⟩
   . exact IsiPair.bool_int ⟨.bl _,H,I,rfl,q⟩
   . exact IsiPair.bool_bool ⟨.bl _,H,I,rfl,q⟩
   . exact IsiPair.bool_list ⟨.bl _,H,I.tok _,rfl,q⟩
   . exact IsiPair.bool_tuple ⟨.bl _,H,I.tok _,rfl,q⟩
   . exact IsiPair.bool_str ⟨.bl _,H,I.tok _,rfl,q⟩
 | non=>
   cases ru
   rcases hv with ⟨rfl,rfl⟩ | ⟨rfl,rfl⟩ | ⟨rfl,rfl⟩ | ⟨rfl,rfl⟩ | ⟨rfl,rfl⟩
   . exact IsiPair.NoneType_int ⟨.bl _,H,I.tok _,rfl,q⟩
   . exact IsiPair.NoneType_bool ⟨.bl _,H,I.tok _,rfl,q⟩
   . exact IsiPair.NoneType_list ⟨.bl _,H,I.tok _,rfl,q⟩
   . exact IsiPair.NoneType_tuple ⟨.bl _,H,I.tok _,rfl,q⟩
   . exact IsiPair.NoneType_str ⟨.bl _,H,I.tok _,rfl,q⟩
 | str i=>
   obtain ⟨t,rfl⟩:=ru
   rcases hv with ⟨rfl,rfl⟩ | ⟨rfl,rfl⟩ | ⟨rfl,rfl⟩ | ⟨rfl,rfl⟩ | ⟨rfl,rfl⟩
   . exact IsiPair.str_int ⟨.bl _,H,I.tok _,rfl,q⟩
   . exact IsiPair.str_bool ⟨.bl _,H,I.tok _,rfl,q⟩
   . exact IsiPair.str_list ⟨.bl _,H,I.tok _,rfl,q⟩
   . exact IsiPair.str_tuple ⟨.bl _,H,I.tok _,rfl,q⟩
   . exact IsiPair.str_str ⟨.bl _,H,I,rfl,q⟩
 | ref p=>
   cases ru
   rcases hv with ⟨⟨xs,hS⟩,hv⟩ | ⟨⟨xs,hS⟩,hv⟩
   . obtain ⟨its,r,pl,hz⟩:=I.list hS
     obtain ⟨o,e,c,_⟩:=pl.isList
     rcases hv with ⟨rfl,rfl⟩ | ⟨rfl,rfl⟩ | ⟨rfl,rfl⟩ | ⟨rfl,rfl⟩ | ⟨rfl,rfl⟩
     . exact IsiPair.list_int e c ⟨.bl _,H,I.tok _,rfl,q⟩
     . exact IsiPair.list_bool e c ⟨.bl _,H,I.tok _,rfl,q⟩
     . exact IsiPair.list_list e c ⟨.bl _,H,I,rfl,q⟩
     . exact IsiPair.list_tuple e c ⟨.bl _,H,I.tok _,rfl,q⟩
     . exact IsiPair.list_str e c ⟨.bl _,H,I.tok _,rfl,q⟩
   . obtain ⟨its,r,pl,hz⟩:=I.tuple hS
     obtain ⟨o,e,c,_⟩:=pl
     rcases hv with ⟨rfl,rfl⟩ | ⟨rfl,rfl⟩ | ⟨rfl,rfl⟩ | ⟨rfl,rfl⟩ | ⟨rfl,rfl⟩
     . exact IsiPair.tuple_int e c ⟨.bl _,H,I.tok _,rfl,q⟩
     . exact IsiPair.tuple_bool e c ⟨.bl _,H,I.tok _,rfl,q⟩
     . exact IsiPair.tuple_list e c ⟨.bl _,H,I.tok _,rfl,q⟩
     . exact IsiPair.tuple_tuple e c ⟨.bl _,H,I,rfl,q⟩
     . exact IsiPair.tuple_str e c ⟨.bl _,H,I.tok _,rfl,q⟩
 | _=>exact hv.elim
theorem Dd:typeOf (.type "ValueError") = pure (.type "type"):=by kernel_rfl
theorem boot_bool:bootBuiltins "bool" = some (.type "bool"):=by decide +kernel
theorem boot_isinstance:bootBuiltins "isinstance" = some (.builtin "isinstance"):=by decide +kernel
theorem boot_all:bootBuiltins "all" = some (.builtin "all"):=by decide +kernel
theorem boot_tuple:bootBuiltins "tuple" = some (.type "tuple"):=by decide +kernel
theorem boot_int:bootBuiltins "int" = some (.type "int"):=by decide +kernel
theorem boot_str:bootBuiltins "str" = some (.type "str"):=by decide +kernel
theorem boot_len:bootBuiltins "len" = some (.builtin "len"):=by decide +kernel
theorem qP {prog:Program} {w:World} {A:Around} {E:Value -> Shared -> Prop} {K:PySem.W.Frag} {s:Shared} {a C:Addr} {T:Value} {dx:Option Addr} {bm:List Value} {k:Value} {dep:Int} {tk:Tok} {Q:Fin -> Shared -> Prop} (hk:k = .int dep tk) (X:K.In s.heap) (e:Bz a C dx s.heap)
  (hC:lJ K C bm) (hty:(∃ n,T = .type n /\ typeOf (.type n) = pure (.type "type")) \/ ∃ B bmB,T = .ref B /\ lJ K B bmB) (hb:(Value.ref C ::bm).contains T = true) (hq:Q (.done (.ret (.bool true))) s):
  wpAny (model prog w) A (Builtin.«isinstance.nested» ⟨[.ref a,T,k],[]⟩) Q E s:=by
 subst hk
 obtain ⟨_,nm,q,N,bs,hdct,sn,sub,ab,col,dd,k0,k1,k2,k3,k5,nid,lC⟩:=hC
 obtain ⟨o,vs,he,hcls,_⟩:=e
 have hC:=X _ _ lC
 obtain ⟨hp,g,d,tks,os⟩:=s
 by_cases same:(Value.ref C == T) = true
 . rcases hty with ⟨n,rfl,hty⟩ | ⟨B,bmB,rfl,_⟩
   . cases same
   . repeat (first
      | (with_reducible refine wpAny_loadPart_at he ?_; rw [hcls])
      | assumption
      | wp_step)
     all_goals first | assumption | exact hq
 . have same':(Value.ref C == T) = false:=by simpa using same
   rcases hty with ⟨n,rfl,hty⟩ | ⟨B,bmB,rfl,⟨_,nm',q',N',bs',hdct',sn',sub',ab',col',dd',k0',k1',k2',k3',k5',nid',lB⟩⟩
   . repeat (first
      | (with_reducible refine wpAny_loadPart_at he ?_; rw [hcls])
      | (with_reducible refine wpAny_isSubtype_exc hC ?_; rw [hb])
      | assumption
      | wp_step)
     all_goals first | assumption | exact hq
   . have hB:=X _ _ lB
     repeat (first
      | (with_reducible refine wpAny_loadPart_at he ?_; rw [hcls])
      | with_reducible refine wpAny_loadPart_at hB ?_
      | (with_reducible refine wpAny_isSubtype_exc hC ?_; rw [hb])
      | assumption
      | wp_step)
     all_goals first | assumption | exact hq
theorem Bm:mw X (.builtin "isinstance") (fun xs H Q=>∃ a T C dx bm,xs = [.ref a,T] /\ H a = some (nF a C dx) /\ lJ X.K C bm /\ ((∃ B bmB,T = .ref B /\ lJ X.K B bmB /\ (Value.ref C ::bm).contains (.ref B) = true) \/ (T = .ty "ValueError" /\ bm.contains (.type "ValueError") = true)) /\ Q (.bl true) H):=by
 intro pins s σ H vs us Q I rv h
 obtain ⟨a,T,C,dx,bm,rfl,ha,hC,hT,q⟩:=h
 obtain ⟨u,v,rfl,ru,rT⟩:=rv.two
 cases ru
 obtain ⟨e,_,_⟩:=I.hok a _ ha
 rcases hT with ⟨B,bmB,rfl,hB,hb⟩ | ⟨rfl,hb⟩
 . cases rT
   refine call_isinstance (S:=fun _ R s'=>s' = s /\ R (.ok (.ret (.bool true))) s) (fun prog w A R s' hs=>?_) ⟨rfl,?_⟩
   . obtain ⟨rfl,hs⟩:=hs
     exact isinstance_outer (qP rfl I.kIn e hC (.inr ⟨B,bmB,rfl,hB⟩) hb hs) (by intro z; cases z)
   . exact ⟨.bl _,H,I,rfl,q⟩
 . cases rT
   refine call_isinstance (S:=fun _ R s'=>s' = s /\ R (.ok (.ret (.bool true))) s) (fun prog w A R s' hs=>?_) ⟨rfl,?_⟩
   . obtain ⟨rfl,hs⟩:=hs
     exact isinstance_outer (qP rfl I.kIn e hC (.inl ⟨_,rfl,Dd⟩) (by rw [List.contains_cons,hb,Bool.or_true]) hs) (by intro z; cases z)
   . exact ⟨.bl _,H,I,rfl,q⟩
end
section
variable {P:Program} {w:World} {K:PySem.W.Frag} {mg:Str -> Option Value} {base:Heap}
theorem okX {x qual:Str} {st:Stmt} {f:Addr} {fd:FuncData} {N ps:List Str} {k:Nat} {sp:Sp} (F:Fun K x qual st f fd) (S:aT N ps (av st)) (len:∀ vs H Q E,sp vs H Q E -> vs.length = ps.length)
  (hbody:∀ (cdv:Value) (A:Around) (outer:List Env) (s:Shared) (H:Hp) (vs:List V) (Q:VK) (E:XK),gY k (A.deeper (envOfC qual (av st) s.heap.objs.size f cdv)) -> sp vs H Q E ->
    ∃ t,PSs (oJ (CXE P w) P w K mg base N qual (av st) f cdv A outer s H E) (aS st) t /\ t { nx:=fun _ H'=>Q .non H',rt:=Q } (start N vs) H):cw P w K mg base (CXE P w) (k + 1) f fd ps sp:=by
 obtain ⟨oc,od,kV,doc,pm,an,cdv,ct,osl,rfl,lk,hcd⟩:=F.ex
 exact Ha lk hcd S len fun A outer s H vs Q E hr hsp=>hbody cdv A outer s H vs Q E hr hsp
end
end L2.E
namespace L2.E
open PySem PySem.Spec PyProof.Rows
theorem SqL.new {K:PySem.W.Frag} {H:Hp} {p:Addr} {xs:List V} (h:H p = some (.lst xs)):SqL K H p xs:=.inl (.inl h)
theorem SqT.new {K:PySem.W.Frag} {H:Hp} {p:Addr} {xs:List V} (h:H p = some (.tup xs)):SqT K H p xs:=.inl (.inl h)
theorem uD {H:Hp} {p q:Addr} {o:HO} (h:H q = some o) (n:H p = none):q ≠ p:=fun z=>by rw [z,n] at h; cases h
theorem _root_.L2.aG.upd {H H':Hp} {p:Addr} {o:HO} (e:aG H H') (n:H p = none):aG H (upd H' p o):=fun b u h=>by
 rw [aY (uD h n)]; exact e b u h
theorem _root_.L2.aG.new {H:Hp} {p:Addr} {o:HO} (n:H p = none):aG H (L2.upd H p o):=(aG.refl H).upd n
abbrev Goes (H:Hp) (E:XK) (C:Addr) (dx:Option Addr):Prop:=∀ H' a,aG H H' -> H' a = some (nF a C dx) -> E (.ref C) (some a) H'
end L2.E
namespace L2.E
open PySem PySem.Spec PyProof.Rows
theorem takes {K:PySem.W.Frag} {T C:Addr} {b:Bool} {bmC bmT:List Value} (h1:lJ K C bmC) (h2:lJ K T bmT) (h:(Value.ref C ::bmC).contains (.ref T) = b):tm K T C b:=⟨bmC,bmT,h1,h2,h⟩
end L2.E
namespace L2.E
open PySem PySem.Spec PyProof.Rows
section
variable {X:Cx}
noncomputable def DE (K:PySem.W.Frag):R2:=fun x y H Q=>∃ l b xs zs,x = .ref l /\ y = .ref b /\ SqL K H l xs /\ SqL K H b zs /\ xs.length + zs.length <= sizeLine /\ ∀ p,H p = none -> Q (.ref p) (upd H p (.lst (xs ++ zs)))
theorem fN:OpR X (binaryOp .Add) (DE X.K):=by
 intro pins s σ H x y v u Q I rx ry h
 obtain ⟨l,b,xs,zs,rfl,rfl,hH,hB,hz,q⟩:=h
 cases rx
 cases ry
 obtain ⟨its,r,pl,_⟩:=I.list hH
 obtain ⟨its2,r2,pl2,_⟩:=I.list hB
 obtain ⟨⟨cls,dd,data,sl⟩,ho,hc,n,hd⟩:=pl.isList
 obtain ⟨⟨cls2,dd2,data2,sl2⟩,ho2,hc2,n2,hd2⟩:=pl2.isList
 simp only at hc hd hc2 hd2
 subst hc hd hc2 hd2
 have hsz:its.toArray.size + its2.toArray.size <= sizeLine:=by rw [List.size_toArray,List.size_toArray,<- r.length,<- r2.length]; exact hz
 refine concat_meets ⟨_,ho,rfl⟩ ⟨_,ho2,rfl⟩ noFill_list_add seq_list_add PySem.F.slot_list_add PySem.F.entry_list_add (PySem.F.args_list_add_2 _ _) (list_addW l b its.toArray its2.toArray n n2 dd dd2 sl sl2 hsz) ⟨ho,ho2,?_⟩
 have ea:its.toArray ++ its2.toArray = (its ++ its2).toArray:=by simp
 rw [ea]
 exact ⟨.ref _,_,I.BP (t':=s.toks) (r.append r2) (by rw [List.length_append]; exact hz),rfl,q _ I.fresh⟩
theorem yZ:mw X (.builtin "all") (fun xs H Q=>∃ (p:Addr) (bs:List Bool),xs = [.ref p] /\ SqL X.K H p (bs.map V.bl) /\ X.A.handled = none /\ Q (.bl (bs.all id)) H):=by
 intro pins s σ H vs us Q I rv h
 obtain ⟨p,bs,rfl,hp,hh,q⟩:=h
 obtain ⟨u,rfl,ru⟩:=rv.one
 cases ru
 obtain ⟨its,r,pl,_⟩:=I.list hp
 have hl:=r.length
 have isl:s.heap.IsList p its.toArray:=pl.isList
 obtain ⟨o,e,_⟩:=id isl
 refine call_all_walk (wpAny_pyIter_list isl ?_)
 have ne:p ≠ s.heap.objs.size:=Nat.ne_of_lt (Heap.lt_size e)
 have tv:∀ (i:Nat) (v:Value),its.toArray[i]? = some v -> ∃ b,bs[i]? = some b /\ v = Value.bool b:=fun i v hv=>by
  have hv':its[i]? = some v:=by simpa using hv
  have hi:i < its.length:=(List.getElem?_eq_some_iff.mp hv').1
  rw [<- hl,List.length_map] at hi
  have hx:(bs.map V.bl)[i]? = some (V.bl bs[i]):=by simp [hi]
  obtain ⟨u,hu,ru⟩:=r.get hx
  rw [hv'] at hu; cases hu
  exact ⟨bs[i],by simp [hi],ru⟩
 refine ⟨s.heap.objs.size,_,_,_,_,_,(fun i=>(bs[i]?).getD false),rfl,Walks.list (A:=X.A.in1) hh s.heap.objs.size p ne its.toArray,⟨⟨_,Heap.get?_push_size _ rfl,rfl,rfl⟩,isl.at fun o e=>Heap.get?_push_of_some _ e⟩,fun i v s' Q' E' hP hQ=>?_,fun h' tk hk=>?_⟩
 . obtain ⟨b,hb,rfl⟩:=tv i v hP
   have hQ':Q' ((bs[i]?).getD false) s':=hQ
   rw [hb] at hQ'
   exact wpAny_truthy_bool hQ'
 . have en:its.toArray.size = bs.length:=by rw [List.size_toArray,<- hl,List.length_map]
   have eb:(List.range its.toArray.size).all (fun i=>(bs[i]?).getD false) = bs.all id:=by
    rw [en]
    rw [Bool.eq_iff_iff,List.all_eq_true,List.all_eq_true]
    constructor
    . intro hA b hb
      obtain ⟨i,hi,rfl⟩:=List.mem_iff_getElem.mp hb
      have:=hA i (by simpa using hi)
      simpa [hi] using this
    . intro hA i hi
      have hi':i < bs.length:=by simpa using hi
      have:=hA bs[i] (List.getElem_mem hi')
      simpa [hi'] using this
   rw [eb]
   refine ⟨.bl _,H,I.kept (h':=h') (t':=tk) fun b o e'=>hk b o ?_ (Heap.get?_push_of_some _ e'),rfl,q⟩
   have lt:=Heap.lt_size e'
   intro z
   have z':b = s.heap.objs.size:=by simpa using z
   exact absurd (z' ▸ lt) (Nat.lt_irrefl _)
end
end L2.E
namespace L2.E
open PySem PySem.Spec PyProof.Rows
noncomputable def isStar:Expr -> Bool
 | .Starred ..=>true
 | _=>false
theorem nj {e:Expr} {es:List Expr} {env:Env} (h:isStar e = false):starEach (e ::es) env = (false,eval e env) ::starEach es env:=by
 cases e <;> first | rfl | cases h
theorem zX {X:Cx} {e:Expr} {es:List Expr} {te:TE} {t:TA} (ha:PE X e te) (hr:PA X es t) (hs:isStar e = false:=by rfl):PA X (e ::es) (js te t):=CG ha hr (nj hs)
end L2.E
namespace L2.P
open PySem
noncomputable def ixP (n:Nat) (i:Int):Option Nat:=if 0 <= i then (if i < n then some i.toNat else none) else if -(n:Int) <= i then some (i + n).toNat else none
noncomputable def atP {α:Type} (xs:List α) (i:Int):Option α:=(ixP xs.length i).bind fun j=>xs[j]?
noncomputable def kX (n d:Nat):Option Int -> Nat
 | none=>d
 | some v=>if v < 0 then (v + (n:Int)).toNat else min v.toNat n
inductive PV where
 | non | bl (b:Bool) | int (i:Int) | str (s:Str) | lst (xs:List PV) | tup (xs:List PV)
inductive OV where
 | sh (x:PV) | ol (ts:List OV) | ob (c:String) (ks:List Str) (ts:List OV)
   | di (kvs:List (Int × PV)) | dt (kvs:List (List Int × PV))
inductive Sl where
 | sh (x:PV) | ow (xs:List PV) | ex (c:String) (fs:List (Str × PV))
   | tr (io:Bool) (t:OV) | bo (t:OV)
abbrev ae:=List (Option Sl)
inductive RV where
 | sh (x:PV) | fr (xs:List PV) | al (xs:List PV)
noncomputable def RV.pv:RV -> PV
 | .sh x=>x
 | .fr xs=>.lst xs
 | .al xs=>.lst xs
abbrev XF:=List (Str × PV)
inductive OE where
 | ok (r:RV) | exc (c:String) (fs:XF) | bad
inductive OT where
 | ok (b:Bool) | exc (c:String) (fs:XF) | bad
inductive OA where
 | ok (xs:List PV) | exc (c:String) (fs:XF) | bad
inductive OS where
 | nx (ρ:ae) | rt (ρ:ae) (r:RV) | bk (ρ:ae) | ct (ρ:ae) | exc (ρ:ae) (c:String) (fs:XF) | bad
noncomputable def OE.bind:OE -> (RV -> OE) -> OE
 | .ok r,f=>f r
 | .exc c fs,_=>.exc c fs
 | .bad,_=>.bad
noncomputable def OE.fX:OE -> (RV -> OT) -> OT
 | .ok r,f=>f r
 | .exc c fs,_=>.exc c fs
 | .bad,_=>.bad
noncomputable def OE.fH:OE -> (RV -> OA) -> OA
 | .ok r,f=>f r
 | .exc c fs,_=>.exc c fs
 | .bad,_=>.bad
noncomputable def OE.bO (ρ:ae):OE -> (RV -> OS) -> OS
 | .ok r,f=>f r
 | .exc c fs,_=>.exc ρ c fs
 | .bad,_=>.bad
noncomputable def OT.bind:OT -> (Bool -> OE) -> OE
 | .ok r,f=>f r
 | .exc c fs,_=>.exc c fs
 | .bad,_=>.bad
noncomputable def OT.fX:OT -> (Bool -> OT) -> OT
 | .ok r,f=>f r
 | .exc c fs,_=>.exc c fs
 | .bad,_=>.bad
noncomputable def OT.bO (ρ:ae):OT -> (Bool -> OS) -> OS
 | .ok r,f=>f r
 | .exc c fs,_=>.exc ρ c fs
 | .bad,_=>.bad
noncomputable def OA.bind:OA -> (List PV -> OE) -> OE
 | .ok r,f=>f r
 | .exc c fs,_=>.exc c fs
 | .bad,_=>.bad
noncomputable def OA.fH:OA -> (List PV -> OA) -> OA
 | .ok r,f=>f r
 | .exc c fs,_=>.exc c fs
 | .bad,_=>.bad
noncomputable def OA.bO (ρ:ae):OA -> (List PV -> OS) -> OS
 | .ok r,f=>f r
 | .exc c fs,_=>.exc ρ c fs
 | .bad,_=>.bad
noncomputable def ak (i:Nat):ae -> OE:=fun ρ=>match ρ[i]? with
 | some (some (.sh x))=>.ok (.sh x)
 | some (some (.ow xs))=>.ok (.al xs)
 | _=>.bad
noncomputable def mC (x:PV):ae -> OE:=fun _=>.ok (.sh x)
noncomputable def oE:Option RV -> OE
 | some r=>.ok r
 | none=>.bad
noncomputable def mOp (g:PV -> PV -> Option RV) (ma mb:ae -> OE):ae -> OE:=fun ρ=>(ma ρ).bind fun a=>(mb ρ).bind fun b=>oE (g a.pv b.pv)
noncomputable def gI (C:Int -> Int -> Bool) (f:Int -> Int -> PV):PV -> PV -> Option RV
 | .int i,.int j=>if C i j then some (.sh (f i j)) else none
 | _,_=>none
noncomputable def gb:=gI (fun _ _=>true) fun i j=>.int (i + j)
noncomputable def rE:=gI (fun _ _=>true) fun i j=>.int (i - j)
noncomputable def uT:=gI (fun i j=>(decide (-(2 ^ 64) < i) && decide (i < 2 ^ 64)) || (decide (-(2 ^ 64) < j) && decide (j < 2 ^ 64))) fun i j=>.int (i * j)
noncomputable def gU:=gI (fun _ j=>decide (0 < j) && decide (j < 1073741824)) fun i j=>.int (i / j)
noncomputable def d9:=gI (fun _ j=>decide (0 < j)) fun i j=>.int (i % j)
noncomputable def Jm:=gI (fun i j=>decide (0 <= j) && (decide (j <= 1000000) && decide (i.natAbs < 2 ^ 64))) fun i j=>.int (i ^ j.toNat)
noncomputable def gLt:=gI (fun _ _=>true) fun i j=>.bl (decide (i < j))
noncomputable def gLe:=gI (fun _ _=>true) fun i j=>.bl (decide (i <= j))
noncomputable def gGt:=gI (fun _ _=>true) fun i j=>.bl (decide (j < i))
noncomputable def gGe:=gI (fun _ _=>true) fun i j=>.bl (decide (j <= i))
noncomputable def eqS:PV -> PV -> Option Bool
 | .non,.non=>some true | .non,.int _=>some false | .int _,.non=>some false | .non,.bl _=>some false | .bl _,.non=>some false | .non,.str _=>some false | .str _,.non=>some false
 | .int a,.int b=>some (decide (a = b)) | .bl a,.bl b=>some (decide (a = b)) | .str a,.str b=>some (decide (a = b))
 | .int _,.str _=>some false | .str _,.int _=>some false | .bl _,.str _=>some false | .str _,.bl _=>some false
 | _,_=>none
noncomputable def gEq:PV -> PV -> Option RV:=fun x y=>(eqS x y).map fun b=>.sh (.bl b)
noncomputable def gNe:PV -> PV -> Option RV:=fun x y=>(eqS x y).map fun b=>.sh (.bl (!b))
noncomputable def kn:RV -> Option PV
 | .sh x=>some x
 | .fr xs=>some (.lst xs)
 | .al _=>none
noncomputable def aE:ae -> OA:=fun _=>.ok []
noncomputable def ah (me:ae -> OE) (mr:ae -> OA):ae -> OA:=fun ρ=>(me ρ).fH fun r=>match kn r with
 | some x=>(mr ρ).fH fun xs=>.ok (x ::xs)
 | none=>.bad
noncomputable def lim:Nat:=16777216
noncomputable def cu (ma:ae -> OA):ae -> OE:=fun ρ=>(ma ρ).bind fun xs=>if xs.length <= lim then .ok (.fr xs) else .bad
noncomputable def gA (ma:ae -> OA):ae -> OE:=fun ρ=>(ma ρ).bind fun xs=>if xs.length <= lim then .ok (.sh (.tup xs)) else .bad
noncomputable def aX (f:List PV -> OE) (ma:ae -> OA):ae -> OE:=fun ρ=>(ma ρ).bind f
noncomputable def mUn (g:PV -> Option RV) (ma:ae -> OE):ae -> OE:=fun ρ=>(ma ρ).bind fun a=>oE (g a.pv)
noncomputable def pV:PV -> Option RV
 | .int i=>some (.sh (.int (-i)))
 | _=>none
noncomputable def kM:PV -> Option RV
 | .lst xs=>some (.sh (.int xs.length))
 | .tup xs=>some (.sh (.int xs.length))
 | _=>none
noncomputable def DZ:PV -> Option RV
 | .int i=>some (.sh (.int i))
 | .bl b=>some (.sh (.int (if b then 1 else 0)))
 | _=>none
noncomputable def yo:PV -> Option RV
 | .lst xs=>some (.fr xs)
 | .tup xs=>some (.fr xs)
 | _=>none
noncomputable def jB:PV -> PV -> Option RV
 | .lst xs,.int i=>(atP xs i).map .sh
 | _,_=>none
noncomputable def iD:PV -> PV -> Option RV
 | .tup xs,.int i=>(atP xs i).map .sh
 | _,_=>none
noncomputable def iC:PV -> PV -> Option RV
 | .lst xs,.lst ys=>if xs.length + ys.length <= lim then some (.fr (xs ++ ys)) else none
 | _,_=>none
noncomputable def xJ:List PV -> Option (List Int)
 | []=>some []
 | .int i ::r=>(xJ r).map (i ::·)
 | _ ::_=>none
noncomputable def oy:List PV -> Option (List Bool)
 | []=>some []
 | .bl i ::r=>(oy r).map (i ::·)
 | _ ::_=>none
noncomputable def BU:PV -> Option RV
 | .lst xs=>(oy xs).map fun bs=>.sh (.bl (bs.all id))
 | _=>none
noncomputable def isP (T:String):PV -> Option Bool
 | .int _=>if T = "int" then some true else if T = "bool" \/ T = "list" \/ T = "tuple" \/ T = "str" then some false else none
 | .bl _=>if T = "int" \/ T = "bool" then some true else if T = "list" \/ T = "tuple" \/ T = "str" then some false else none
 | .non=>if T = "int" \/ T = "bool" \/ T = "list" \/ T = "tuple" \/ T = "str" then some false else none
 | .str _=>if T = "str" then some true else if T = "int" \/ T = "bool" \/ T = "list" \/ T = "tuple" then some false else none
 | .lst _=>if T = "list" then some true else if T = "int" \/ T = "bool" \/ T = "tuple" \/ T = "str" then some false else none
 | .tup _=>if T = "tuple" then some true else if T = "int" \/ T = "bool" \/ T = "list" \/ T = "str" then some false else none
noncomputable def mIs (T:String) (ma:ae -> OE):ae -> OE:=mUn (fun x=>(isP T x).map fun b=>.sh (.bl b)) ma
noncomputable def qV:PV -> Option Bool
 | .non=>some false
 | .bl b=>some b
 | .int i=>some (i != 0)
 | .lst xs=>some (!xs.isEmpty)
 | .tup xs=>some (!xs.isEmpty)
 | .str _=>none
noncomputable def oT:Option Bool -> OT
 | some b=>.ok b
 | none=>.bad
noncomputable def d7 (ma:ae -> OE):ae -> OT:=fun ρ=>(ma ρ).fX fun r=>oT (qV r.pv)
noncomputable def aP (ma:ae -> OE):ae -> OT:=fun ρ=>(ma ρ).fX fun r=>match r.pv with
 | .bl b=>.ok b
 | _=>.bad
noncomputable def x8 (m:ae -> OT):ae -> OT:=fun ρ=>(m ρ).fX fun b=>.ok (!b)
noncomputable def oG (m n:ae -> OT):ae -> OT:=fun ρ=>(m ρ).fX fun b=>if b = true then n ρ else .ok false
noncomputable def Az (m n:ae -> OT):ae -> OT:=fun ρ=>(m ρ).fX fun b=>if b = true then .ok true else n ρ
noncomputable def qa (m n:ae -> OE):ae -> OE:=fun ρ=>(m ρ).bind fun r=>match r.pv with
 | .bl b=>if b = true then n ρ else .ok (.sh (.bl false))
 | _=>.bad
noncomputable def IU (m n:ae -> OE):ae -> OE:=fun ρ=>(m ρ).bind fun r=>match r.pv with
 | .bl b=>if b = true then .ok (.sh (.bl true)) else n ρ
 | _=>.bad
noncomputable def Bg (m:ae -> OE):ae -> OE:=fun ρ=>(m ρ).bind fun r=>match r.pv with
 | .bl b=>.ok (.sh (.bl (!b)))
 | _=>.bad
noncomputable def jz (c:ae -> OT) (m n:ae -> OE):ae -> OE:=fun ρ=>(c ρ).bind fun b=>if b = true then m ρ else n ρ
noncomputable def kl (g g':PV -> PV -> Option RV) (ma mb mc:ae -> OE):ae -> OE:=fun ρ=>(ma ρ).bind fun a=>(mb ρ).bind fun b=>(oE (g a.pv b.pv)).bind fun r=>match r.pv with
 | .bl k=>if k = true then (mc ρ).bind fun c=>oE (g' b.pv c.pv) else .ok (.sh (.bl false))
 | _=>.bad
noncomputable def OS.andThen:OS -> (ae -> OS) -> OS
 | .nx ρ,k=>k ρ
 | o,_=>o
noncomputable def OS.turn:OS -> (ae -> OS) -> OS
 | .nx ρ,k=>k ρ
 | .ct ρ,k=>k ρ
 | .bk ρ,_=>.nx ρ
 | o,_=>o
noncomputable def aR (a b:ae -> OS):ae -> OS:=fun ρ=>(a ρ).andThen b
noncomputable def bc:ae -> OS:=fun ρ=>.nx ρ
noncomputable def Eo:ae -> OS:=fun ρ=>.bk ρ
noncomputable def GP:ae -> OS:=fun ρ=>.ct ρ
noncomputable def zT:RV -> Option Sl
 | .sh x=>some (.sh x)
 | .fr xs=>some (.ow xs)
 | .al _=>none
noncomputable def bN (i:Nat) (me:ae -> OE):ae -> OS:=fun ρ=>(me ρ).bO ρ fun r=>match zT r with
 | some s=>.nx (ρ.set i (some s))
 | none=>.bad
noncomputable def bR (c:ae -> OT) (m n:ae -> OS):ae -> OS:=fun ρ=>(c ρ).bO ρ fun b=>if b = true then m ρ else n ρ
noncomputable def bt (me:ae -> OE):ae -> OS:=fun ρ=>(me ρ).bO ρ fun r=>match r with
 | .al _=>.bad
 | r=>.rt ρ r
noncomputable def jC (i:Nat):ae -> OS:=fun ρ=>match ρ[i]? with
 | some (some (.sh x))=>.rt ρ (.sh x)
 | some (some (.ow xs))=>.rt (ρ.set i none) (.fr xs)
 | _=>.bad
noncomputable def G1:ae -> OS:=fun ρ=>.rt ρ (.sh .non)
noncomputable def yc (me:ae -> OE):ae -> OS:=fun ρ=>(me ρ).bO ρ fun _=>.nx ρ
noncomputable def jy (i:Nat) (ρ:ae):ae:=match ρ[i]? with
 | some (some (.ow xs))=>ρ.set i (some (.sh (.lst xs)))
 | _=>ρ
noncomputable def ef (i:Nat) (me:ae -> OE):ae -> OS:=fun ρ=>match ρ[i]? with
 | some (some (.ow xs))=>(me ρ).bO ρ fun r=>match kn r with
   | some y=>if xs.length < lim then .nx (ρ.set i (some (.ow (xs ++ [y])))) else .bad
   | none=>.bad
 | _=>.bad
noncomputable def Co (i:Nat) (me:ae -> OE):ae -> OS:=fun ρ=>match ρ[i]? with
 | some (some (.ow xs))=>(me ρ).bO ρ fun r=>match r with
   | .fr ys=>if xs.length + ys.length <= lim then .nx (ρ.set i (some (.ow (xs ++ ys)))) else .bad
   | _=>.bad
 | _=>.bad
noncomputable def iP (i:Nat) (mb:ae -> OS):List PV -> ae -> OS
 | [],ρ=>.nx ρ
 | x ::xs,ρ=>(mb (ρ.set i (some (.sh x)))).turn (iP i mb xs)
noncomputable def wU:RV -> Option (List PV)
 | .sh (.lst xs)=>some xs
 | .fr xs=>some xs
 | _=>none
noncomputable def qe (i:Nat) (ml:ae -> OE) (mb:ae -> OS):ae -> OS:=fun ρ=>(ml ρ).bO ρ fun r=>match wU r with
 | some xs=>iP i mb xs ρ
 | none=>.bad
noncomputable def eZ (n:Nat):List PV:=(List.range n).map fun k:Nat=>PV.int (k:Int)
noncomputable def ym (i:Nat) (me:ae -> OE) (mb:ae -> OS):ae -> OS:=fun ρ=>(me ρ).bO ρ fun r=>match r.pv with
 | .int j=>if -(2 ^ 62) <= j /\ j < 2 ^ 62 then iP i mb (eZ j.toNat) ρ else .bad
 | _=>.bad
noncomputable def cC (mc:ae -> OT) (mb:ae -> OS):Nat -> ae -> OS
 | 0,_=>.bad
 | n + 1,ρ=>(mc ρ).bO ρ fun b=>if b = true then (mb ρ).turn (cC mc mb n) else .nx ρ
noncomputable def qS:PV -> Option Int
 | .int i=>some i
 | _=>none
noncomputable def lF (m:ae -> OE):ae -> OE:=fun ρ=>(m ρ).bind fun r=>match r.pv with
 | .int i=>.ok (.sh (.int i))
 | _=>.bad
noncomputable def lK (xs:List PV) (lo hi:Option Int):List PV:=(xs.drop (kX xs.length 0 lo)).take (kX xs.length xs.length hi - kX xs.length 0 lo)
noncomputable def Eh (x:PV) (lo hi:Option Int):Option RV:=match x with
 | .lst xs=>some (.fr (lK xs lo hi))
 | _=>none
noncomputable def rP (ma ml mh:ae -> OE):ae -> OE:=fun ρ=>(ma ρ).bind fun a=>(ml ρ).bind fun l=>(mh ρ).bind fun h=>oE (Eh a.pv (qS l.pv) (qS h.pv))
noncomputable def dQ (ι:List Nat) (ρ:ae):ae:=ι.map fun i=>(ρ[i]?).join
noncomputable def dC (me:ae -> OE) (ρ:ae):List PV -> OA
 | []=>.ok []
 | x ::xs=>(me (ρ ++ [some (.sh x)])).fH fun r=>match kn r with
   | some y=>(dC me ρ xs).fH fun ys=>.ok (y ::ys)
   | none=>.bad
noncomputable def noX:OA -> OE
 | .ok xs=>if xs.length <= lim then .ok (.fr xs) else .bad
 | _=>.bad
noncomputable def qK (ml:ae -> OE) (ι:List Nat) (me:ae -> OE):ae -> OE:=fun ρ=>(ml ρ).bind fun r=>match r.pv with
 | .lst xs=>noX (dC me (dQ ι ρ) xs)
 | _=>.bad
noncomputable def wA (mn:ae -> OE) (ι:List Nat) (me:ae -> OE):ae -> OE:=fun ρ=>(mn ρ).bind fun r=>match r.pv with
 | .int j=>if -(2 ^ 62) <= j /\ j < 2 ^ 62 then noX (dC me (dQ ι ρ) (eZ j.toNat)) else .bad
 | _=>.bad
noncomputable def xO (c:String) (ma:ae -> OA):ae -> OS:=fun ρ=>(ma ρ).bO ρ fun xs=>if xs.length <= lim then .exc ρ c [] else .bad
noncomputable def vg:OS -> OS
 | .exc _ _ _=>.bad
 | o=>o
noncomputable def IM (mb:ae -> OS) (takes:String -> Option Bool) (ms:ae -> OS):ae -> OS:=fun ρ=>match mb ρ with
 | .exc ρ' c fs=>(match takes c with
   | some true=>vg (ms ρ')
   | some false=>.exc ρ' c fs
   | none=>.bad)
 | o=>o
noncomputable def EE (i:Nat):OS -> OS
 | .nx ρ=>.nx (ρ.set i none)
 | .bk ρ=>.bk (ρ.set i none)
 | .ct ρ=>.ct (ρ.set i none)
 | o=>o
noncomputable def uy (i:Nat) (mb:ae -> OS) (takes:String -> Option Bool) (ms:ae -> OS):ae -> OS:=fun ρ=>match mb ρ with
 | .exc ρ' c fs=>(match takes c with
   | some true=>EE i (vg (ms (ρ'.set i (some (.ex c fs)))))
   | some false=>.exc ρ' c fs
   | none=>.bad)
 | o=>o
noncomputable def B0 (i:Nat) (under:String -> Bool):ae -> OE:=fun ρ=>match ρ[i]? with
 | some (some (.ex c _))=>if under c = true then .ok (.sh (.bl true)) else .bad
 | _=>.bad
noncomputable def fin:OS -> OE
 | .nx _=>.ok (.sh .non)
 | .rt _ (.al _)=>.bad
 | .rt _ r=>.ok r
 | .exc _ c fs=>.exc c fs
 | _=>.bad
noncomputable def mm (n:Nat) (xs:List PV):ae:=xs.map (fun x=>some (.sh x)) ++ List.replicate (n - xs.length) none
noncomputable def fnP (np n:Nat) (m:ae -> OS):List PV -> OE:=fun xs=>if xs.length = np then fin (m (mm n xs)) else .bad
noncomputable def fuel:Nat:=100000
noncomputable def gi (i:Nat) (m:ae -> OS):ae -> OS:=fun ρ=>m (jy i ρ)
noncomputable def qk (i:Nat) (g:PV -> PV -> Option RV) (me:ae -> OE):ae -> OS:=fun ρ=>match ρ[i]? with
 | some (some (.sh x))=>(me ρ).bO ρ fun r=>match g x r.pv with
   | some (.sh z)=>.nx (ρ.set i (some (.sh z)))
   | _=>.bad
 | _=>.bad
noncomputable def cF:PV -> Bool
 | .non=>true
 | _=>false
noncomputable def vj:PV -> PV -> Option RV
 | x,.non=>some (.sh (.bl (cF x)))
 | _,_=>none
noncomputable def tD:PV -> PV -> Option RV
 | x,.non=>some (.sh (.bl (!cF x)))
 | _,_=>none
noncomputable def Hf (xs:List PV) (i:Int) (y:PV):List PV:=xs.take (if i < 0 then (i + (xs.length:Int)).toNat else min i.toNat xs.length) ++ y ::xs.drop (if i < 0 then (i + (xs.length:Int)).toNat else min i.toNat xs.length)
noncomputable def Dg (i:Nat) (mk me:ae -> OE):ae -> OS:=fun ρ=>match ρ[i]? with
 | some (some (.ow xs))=>(ah mk (ah me aE) ρ).bO ρ fun ys=>match ys with
   | [.int k,y]=>if (-(2 ^ 63) <= k /\ k < 2 ^ 63) /\ xs.length < lim then .nx (ρ.set i (some (.ow (Hf xs k y)))) else .bad
   | _=>.bad
 | _=>.bad
@[simp] theorem xw (i:Nat) (ρ:ae):ak i ρ = (match ρ[i]? with
  | some (some (.sh x))=>.ok (.sh x)
  | some (some (.ow xs))=>.ok (.al xs)
  | _=>.bad):=rfl
@[simp] theorem yt (g:PV -> PV -> Option RV) (ma mb:ae -> OE) (ρ:ae):mOp g ma mb ρ = ((ma ρ).bind fun a=>(mb ρ).bind fun b=>oE (g a.pv b.pv)):=rfl
@[simp] theorem C7 (me:ae -> OE) (mr:ae -> OA) (ρ:ae):ah me mr ρ = ((me ρ).fH fun r=>match kn r with
  | some x=>(mr ρ).fH fun xs=>.ok (x ::xs)
  | none=>.bad):=rfl
@[simp] theorem E7 (ma:ae -> OA) (ρ:ae):cu ma ρ = ((ma ρ).bind fun xs=>if xs.length <= lim then .ok (.fr xs) else .bad):=rfl
@[simp] theorem Jf (ma:ae -> OA) (ρ:ae):gA ma ρ = ((ma ρ).bind fun xs=>if xs.length <= lim then .ok (.sh (.tup xs)) else .bad):=rfl
@[simp] theorem Ic (f:List PV -> OE) (ma:ae -> OA) (ρ:ae):aX f ma ρ = ((ma ρ).bind f):=rfl
@[simp] theorem BG (g:PV -> Option RV) (ma:ae -> OE) (ρ:ae):mUn g ma ρ = ((ma ρ).bind fun a=>oE (g a.pv)):=rfl
@[simp] theorem BM (ma:ae -> OE) (ρ:ae):d7 ma ρ = ((ma ρ).fX fun r=>oT (qV r.pv)):=rfl
@[simp] theorem B5 (ma:ae -> OE) (ρ:ae):aP ma ρ = ((ma ρ).fX fun r=>match r.pv with
  | .bl b=>.ok b
  | _=>.bad):=rfl
@[simp] theorem HJ (m:ae -> OT) (ρ:ae):x8 m ρ = ((m ρ).fX fun b=>.ok (!b)):=rfl
@[simp] theorem Cy (m n:ae -> OT) (ρ:ae):oG m n ρ = ((m ρ).fX fun b=>if b = true then n ρ else .ok false):=rfl
@[simp] theorem Ih (m n:ae -> OT) (ρ:ae):Az m n ρ = ((m ρ).fX fun b=>if b = true then .ok true else n ρ):=rfl
@[simp] theorem HP (m n:ae -> OE) (ρ:ae):qa m n ρ = ((m ρ).bind fun r=>match r.pv with
  | .bl b=>if b = true then n ρ else .ok (.sh (.bl false))
  | _=>.bad):=rfl
@[simp] theorem IE (m n:ae -> OE) (ρ:ae):IU m n ρ = ((m ρ).bind fun r=>match r.pv with
  | .bl b=>if b = true then .ok (.sh (.bl true)) else n ρ
  | _=>.bad):=rfl
@[simp] theorem HU (m:ae -> OE) (ρ:ae):Bg m ρ = ((m ρ).bind fun r=>match r.pv with
  | .bl b=>.ok (.sh (.bl (!b)))
  | _=>.bad):=rfl
@[simp] theorem Ii (c:ae -> OT) (m n:ae -> OE) (ρ:ae):jz c m n ρ = ((c ρ).bind fun b=>if b = true then m ρ else n ρ):=rfl
@[simp] theorem G8 (g g':PV -> PV -> Option RV) (ma mb mc:ae -> OE) (ρ:ae):kl g g' ma mb mc ρ = ((ma ρ).bind fun a=>(mb ρ).bind fun b=>(oE (g a.pv b.pv)).bind fun r=>match r.pv with
  | .bl k=>if k = true then (mc ρ).bind fun c=>oE (g' b.pv c.pv) else .ok (.sh (.bl false))
  | _=>.bad):=rfl
@[simp] theorem km (a b:ae -> OS) (ρ:ae):aR a b ρ = ((a ρ).andThen b):=rfl
@[simp] theorem BX (ρ:ae):bc  ρ = (.nx ρ):=rfl
@[simp] theorem GN (ρ:ae):Eo  ρ = (.bk ρ):=rfl
@[simp] theorem HD (ρ:ae):GP  ρ = (.ct ρ):=rfl
@[simp] theorem rW (i:Nat) (me:ae -> OE) (ρ:ae):bN i me ρ = ((me ρ).bO ρ fun r=>match zT r with
  | some s=>.nx (ρ.set i (some s))
  | none=>.bad):=rfl
@[simp] theorem uG (c:ae -> OT) (m n:ae -> OS) (ρ:ae):bR c m n ρ = ((c ρ).bO ρ fun b=>if b = true then m ρ else n ρ):=rfl
@[simp] theorem AU (me:ae -> OE) (ρ:ae):bt me ρ = ((me ρ).bO ρ fun r=>match r with
  | .al _=>.bad
  | r=>.rt ρ r):=rfl
@[simp] theorem GC (i:Nat) (ρ:ae):jC i ρ = (match ρ[i]? with
  | some (some (.sh x))=>.rt ρ (.sh x)
  | some (some (.ow xs))=>.rt (ρ.set i none) (.fr xs)
  | _=>.bad):=rfl
@[simp] theorem HK (me:ae -> OE) (ρ:ae):yc me ρ = ((me ρ).bO ρ fun _=>.nx ρ):=rfl
@[simp] theorem Gv (i:Nat) (me:ae -> OE) (ρ:ae):ef i me ρ = (match ρ[i]? with
  | some (some (.ow xs))=>(me ρ).bO ρ fun r=>match kn r with
    | some y=>if xs.length < lim then .nx (ρ.set i (some (.ow (xs ++ [y])))) else .bad
    | none=>.bad
  | _=>.bad):=rfl
@[simp] theorem Gy (i:Nat) (me:ae -> OE) (ρ:ae):Co i me ρ = (match ρ[i]? with
  | some (some (.ow xs))=>(me ρ).bO ρ fun r=>match r with
    | .fr ys=>if xs.length + ys.length <= lim then .nx (ρ.set i (some (.ow (xs ++ ys)))) else .bad
    | _=>.bad
  | _=>.bad):=rfl
@[simp] theorem HS (i:Nat) (ml:ae -> OE) (mb:ae -> OS) (ρ:ae):qe i ml mb ρ = ((ml ρ).bO ρ fun r=>match wU r with
  | some xs=>iP i mb xs ρ
  | none=>.bad):=rfl
@[simp] theorem Hy (i:Nat) (me:ae -> OE) (mb:ae -> OS) (ρ:ae):ym i me mb ρ = ((me ρ).bO ρ fun r=>match r.pv with
  | .int j=>if -(2 ^ 62) <= j /\ j < 2 ^ 62 then iP i mb (eZ j.toNat) ρ else .bad
  | _=>.bad):=rfl
@[simp] theorem HZ (m:ae -> OE) (ρ:ae):lF m ρ = ((m ρ).bind fun r=>match r.pv with
  | .int i=>.ok (.sh (.int i))
  | _=>.bad):=rfl
@[simp] theorem Jr (ma ml mh:ae -> OE) (ρ:ae):rP ma ml mh ρ = ((ma ρ).bind fun a=>(ml ρ).bind fun l=>(mh ρ).bind fun h=>oE (Eh a.pv (qS l.pv) (qS h.pv))):=rfl
@[simp] theorem A3 (ml:ae -> OE) (ι:List Nat) (me:ae -> OE) (ρ:ae):qK ml ι me ρ = ((ml ρ).bind fun r=>match r.pv with
  | .lst xs=>noX (dC me (dQ ι ρ) xs)
  | _=>.bad):=rfl
@[simp] theorem GR (mn:ae -> OE) (ι:List Nat) (me:ae -> OE) (ρ:ae):wA mn ι me ρ = ((mn ρ).bind fun r=>match r.pv with
  | .int j=>if -(2 ^ 62) <= j /\ j < 2 ^ 62 then noX (dC me (dQ ι ρ) (eZ j.toNat)) else .bad
  | _=>.bad):=rfl
@[simp] theorem G0 (c:String) (ma:ae -> OA) (ρ:ae):xO c ma ρ = ((ma ρ).bO ρ fun xs=>if xs.length <= lim then .exc ρ c [] else .bad):=rfl
@[simp] theorem Iw (mb:ae -> OS) (takes:String -> Option Bool) (ms:ae -> OS) (ρ:ae):IM mb takes ms ρ = (match mb ρ with
  | .exc ρ' c fs=>(match takes c with
    | some true=>vg (ms ρ')
    | some false=>.exc ρ' c fs
    | none=>.bad)
  | o=>o):=rfl
@[simp] theorem Hw (i:Nat) (mb:ae -> OS) (takes:String -> Option Bool) (ms:ae -> OS) (ρ:ae):uy i mb takes ms ρ = (match mb ρ with
  | .exc ρ' c fs=>(match takes c with
    | some true=>EE i (vg (ms (ρ'.set i (some (.ex c fs)))))
    | some false=>.exc ρ' c fs
    | none=>.bad)
  | o=>o):=rfl
@[simp] theorem Jp (i:Nat) (under:String -> Bool) (ρ:ae):B0 i under ρ = (match ρ[i]? with
  | some (some (.ex c _))=>if under c = true then .ok (.sh (.bl true)) else .bad
  | _=>.bad):=rfl
@[simp] theorem Gr (i:Nat) (m:ae -> OS) (ρ:ae):gi i m ρ = (m (jy i ρ)):=rfl
@[simp] theorem IP (i:Nat) (g:PV -> PV -> Option RV) (me:ae -> OE) (ρ:ae):qk i g me ρ = (match ρ[i]? with
  | some (some (.sh x))=>(me ρ).bO ρ fun r=>match g x r.pv with
    | some (.sh z)=>.nx (ρ.set i (some (.sh z)))
    | _=>.bad
  | _=>.bad):=rfl
@[simp] theorem GD (i:Nat) (mk me:ae -> OE) (ρ:ae):Dg i mk me ρ = (match ρ[i]? with
  | some (some (.ow xs))=>(ah mk (ah me aE) ρ).bO ρ fun ys=>match ys with
    | [.int k,y]=>if (-(2 ^ 63) <= k /\ k < 2 ^ 63) /\ xs.length < lim then .nx (ρ.set i (some (.ow (Hf xs k y)))) else .bad
    | _=>.bad
  | _=>.bad):=rfl
@[simp] theorem GL (x:PV) (ρ:ae):mC x ρ = .ok (.sh x):=rfl
@[simp] theorem F4 (ρ:ae):aE ρ = .ok []:=rfl
@[simp] theorem HM (ρ:ae):G1 ρ = .rt ρ (.sh .non):=rfl
@[simp] theorem jG (r:RV) (f:RV -> OE):OE.bind (.ok r) f = f r:=rfl
@[simp] theorem El (c:String) (fs:XF) (f:RV -> OE):OE.bind (.exc c fs) f = .exc c fs:=rfl
@[simp] theorem Gj {p:Prop} [Decidable p] (x y:OE) (f:RV -> OE):OE.bind (if p then x else y) f = if p then OE.bind x f else OE.bind y f:=by split <;> rfl
@[simp] theorem EL (r:RV) (f:RV -> OT):OE.fX (.ok r) f = f r:=rfl
@[simp] theorem DT (c:String) (fs:XF) (f:RV -> OT):OE.fX (.exc c fs) f = .exc c fs:=rfl
@[simp] theorem D2 {p:Prop} [Decidable p] (x y:OE) (f:RV -> OT):OE.fX (if p then x else y) f = if p then OE.fX x f else OE.fX y f:=by split <;> rfl
@[simp] theorem xo (r:RV) (f:RV -> OA):OE.fH (.ok r) f = f r:=rfl
@[simp] theorem DX (c:String) (fs:XF) (f:RV -> OA):OE.fH (.exc c fs) f = .exc c fs:=rfl
@[simp] theorem DJ {p:Prop} [Decidable p] (x y:OE) (f:RV -> OA):OE.fH (if p then x else y) f = if p then OE.fH x f else OE.fH y f:=by split <;> rfl
@[simp] theorem Gu (r:Bool) (f:Bool -> OE):OT.bind (.ok r) f = f r:=rfl
@[simp] theorem EF (c:String) (fs:XF) (f:Bool -> OE):OT.bind (.exc c fs) f = .exc c fs:=rfl
@[simp] theorem FI {p:Prop} [Decidable p] (x y:OT) (f:Bool -> OE):OT.bind (if p then x else y) f = if p then OT.bind x f else OT.bind y f:=by split <;> rfl
@[simp] theorem Gi (r:Bool) (f:Bool -> OT):OT.fX (.ok r) f = f r:=rfl
@[simp] theorem DK (c:String) (fs:XF) (f:Bool -> OT):OT.fX (.exc c fs) f = .exc c fs:=rfl
@[simp] theorem D6 {p:Prop} [Decidable p] (x y:OT) (f:Bool -> OT):OT.fX (if p then x else y) f = if p then OT.fX x f else OT.fX y f:=by split <;> rfl
@[simp] theorem zw (r:List PV) (f:List PV -> OE):OA.bind (.ok r) f = f r:=rfl
@[simp] theorem Gp (c:String) (fs:XF) (f:List PV -> OE):OA.bind (.exc c fs) f = .exc c fs:=rfl
@[simp] theorem Ej {p:Prop} [Decidable p] (x y:OA) (f:List PV -> OE):OA.bind (if p then x else y) f = if p then OA.bind x f else OA.bind y f:=by split <;> rfl
@[simp] theorem xl (r:List PV) (f:List PV -> OA):OA.fH (.ok r) f = f r:=rfl
@[simp] theorem DD (c:String) (fs:XF) (f:List PV -> OA):OA.fH (.exc c fs) f = .exc c fs:=rfl
@[simp] theorem Dx {p:Prop} [Decidable p] (x y:OA) (f:List PV -> OA):OA.fH (if p then x else y) f = if p then OA.fH x f else OA.fH y f:=by split <;> rfl
@[simp] theorem gB (ρ:ae) (r:RV) (f:RV -> OS):OE.bO ρ (.ok r) f = f r:=rfl
@[simp] theorem DS (ρ:ae) (c:String) (fs:XF) (f:RV -> OS):OE.bO ρ (.exc c fs) f = .exc ρ c fs:=rfl
@[simp] theorem D3 {p:Prop} [Decidable p] (ρ:ae) (x y:OE) (f:RV -> OS):OE.bO ρ (if p then x else y) f = if p then OE.bO ρ x f else OE.bO ρ y f:=by split <;> rfl
@[simp] theorem ft (ρ:ae) (r:Bool) (f:Bool -> OS):OT.bO ρ (.ok r) f = f r:=rfl
@[simp] theorem DC (ρ:ae) (c:String) (fs:XF) (f:Bool -> OS):OT.bO ρ (.exc c fs) f = .exc ρ c fs:=rfl
@[simp] theorem DO {p:Prop} [Decidable p] (ρ:ae) (x y:OT) (f:Bool -> OS):OT.bO ρ (if p then x else y) f = if p then OT.bO ρ x f else OT.bO ρ y f:=by split <;> rfl
@[simp] theorem Ef (ρ:ae) (r:List PV) (f:List PV -> OS):OA.bO ρ (.ok r) f = f r:=rfl
@[simp] theorem DQ (ρ:ae) (c:String) (fs:XF) (f:List PV -> OS):OA.bO ρ (.exc c fs) f = .exc ρ c fs:=rfl
@[simp] theorem D8 {p:Prop} [Decidable p] (ρ:ae) (x y:OA) (f:List PV -> OS):OA.bO ρ (if p then x else y) f = if p then OA.bO ρ x f else OA.bO ρ y f:=by split <;> rfl
@[simp] theorem fO (ρ:ae) (k:ae -> OS):(OS.nx ρ).andThen k = k ρ:=rfl
@[simp] theorem jv (ρ:ae) (k:ae -> OS):(OS.nx ρ).turn k = k ρ:=rfl
@[simp] theorem FU (ρ:ae) (k:ae -> OS):(OS.bk ρ).andThen k = OS.bk ρ:=rfl
@[simp] theorem H0 (ρ:ae) (k:ae -> OS):(OS.bk ρ).turn k = .nx ρ:=rfl
@[simp] theorem Ec (ρ:ae) (k:ae -> OS):(OS.ct ρ).andThen k = OS.ct ρ:=rfl
@[simp] theorem HB (ρ:ae) (k:ae -> OS):(OS.ct ρ).turn k = k ρ:=rfl
@[simp] theorem r6 (ρ:ae) (r:RV) (k:ae -> OS):(OS.rt ρ r).andThen k = OS.rt ρ r:=rfl
@[simp] theorem x6 (ρ:ae) (r:RV) (k:ae -> OS):(OS.rt ρ r).turn k = OS.rt ρ r:=rfl
@[simp] theorem D9 (ρ:ae) (c:String) (fs:XF) (k:ae -> OS):(OS.exc ρ c fs).andThen k = OS.exc ρ c fs:=rfl
@[simp] theorem G6 (ρ:ae) (c:String) (fs:XF) (k:ae -> OS):(OS.exc ρ c fs).turn k = OS.exc ρ c fs:=rfl
@[simp] theorem DV {p:Prop} [Decidable p] (x y:OS) (k:ae -> OS):OS.andThen (if p then x else y) k = if p then x.andThen k else y.andThen k:=by split <;> rfl
@[simp] theorem Hg {p:Prop} [Decidable p] (x y:OS) (k:ae -> OS):OS.turn (if p then x else y) k = if p then x.turn k else y.turn k:=by split <;> rfl
@[simp] theorem Im (ρ:ae):fin (.nx ρ) = .ok (.sh .non):=rfl
@[simp] theorem IW (ρ:ae) (x:PV):fin (.rt ρ (.sh x)) = .ok (.sh x):=rfl
@[simp] theorem Jn (ρ:ae) (x:List PV):fin (.rt ρ (.fr x)) = .ok (.fr x):=rfl
@[simp] theorem HG (ρ:ae) (c:String) (fs:XF):fin (.exc ρ c fs) = .exc c fs:=rfl
@[simp] theorem HW {p:Prop} [Decidable p] (x y:OS):fin (if p then x else y) = if p then fin x else fin y:=by split <;> rfl
@[simp] theorem JN (x:PV):RV.pv (.sh x) = x:=rfl
@[simp] theorem vF (x:List PV):RV.pv (.fr x) = .lst x:=rfl
@[simp] theorem zN (x:List PV):RV.pv (.al x) = .lst x:=rfl
@[simp] theorem oP (r:RV):oE (some r) = .ok r:=rfl
@[simp] theorem HI (r:Bool):oT (some r) = .ok r:=rfl
@[simp] theorem GA (i:Nat) (mb:ae -> OS) (ρ:ae):iP i mb [] ρ = .nx ρ:=rfl
@[simp] theorem jP (i:Nat) (mb:ae -> OS) (x:PV) (xs:List PV) (ρ:ae):iP i mb (x ::xs) ρ = (mb (ρ.set i (some (.sh x)))).turn (iP i mb xs):=rfl
@[simp] theorem Jc (i j:Int):gb (.int i) (.int j) = some (.sh (.int (i + j))):=rfl
@[simp] theorem Ja (i j:Int):rE (.int i) (.int j) = some (.sh (.int (i - j))):=rfl
@[simp] theorem Iy (i j:Int):uT (.int i) (.int j) = if ((decide (-(2 ^ 64) < i) && decide (i < 2 ^ 64)) || (decide (-(2 ^ 64) < j) && decide (j < 2 ^ 64))) = true then some (.sh (.int (i * j))) else none:=rfl
@[simp] theorem Ji (i j:Int):gU (.int i) (.int j) = if (decide (0 < j) && decide (j < 1073741824)) = true then some (.sh (.int (i / j))) else none:=rfl
@[simp] theorem IZ (i j:Int):d9 (.int i) (.int j) = if decide (0 < j) = true then some (.sh (.int (i % j))) else none:=rfl
@[simp] theorem I8 (i j:Int):Jm (.int i) (.int j) = if (decide (0 <= j) && (decide (j <= 1000000) && decide (i.natAbs < 2 ^ 64))) = true then some (.sh (.int (i ^ j.toNat))) else none:=rfl
@[simp] theorem JQ (i j:Int):gLt (.int i) (.int j) = some (.sh (.bl (decide (i < j)))):=rfl
@[simp] theorem Jt (i j:Int):gLe (.int i) (.int j) = some (.sh (.bl (decide (i <= j)))):=rfl
@[simp] theorem JJ (i j:Int):gGt (.int i) (.int j) = some (.sh (.bl (decide (j < i)))):=rfl
@[simp] theorem Js (i j:Int):gGe (.int i) (.int j) = some (.sh (.bl (decide (j <= i)))):=rfl
@[simp] theorem JC (i j:Int):gEq (.int i) (.int j) = some (.sh (.bl (decide (i = j)))):=rfl
@[simp] theorem JI (i j:Int):gNe (.int i) (.int j) = some (.sh (.bl (!decide (i = j)))):=rfl
@[simp] theorem Jw (i j:Bool):gEq (.bl i) (.bl j) = some (.sh (.bl (decide (i = j)))):=rfl
@[simp] theorem Jy (i j:Bool):gNe (.bl i) (.bl j) = some (.sh (.bl (!decide (i = j)))):=rfl
@[simp] theorem Fe (xs:List PV):kM (.lst xs) = some (.sh (.int xs.length)):=rfl
@[simp] theorem IV (xs:List PV):kM (.tup xs) = some (.sh (.int xs.length)):=rfl
@[simp] theorem ID (xs:List PV) (i:Int):jB (.lst xs) (.int i) = (atP xs i).map .sh:=rfl
@[simp] theorem Iu (xs:List PV) (i:Int):iD (.tup xs) (.int i) = (atP xs i).map .sh:=rfl
@[simp] theorem w9 (xs ys:List PV):iC (.lst xs) (.lst ys) = if xs.length + ys.length <= lim then some (.fr (xs ++ ys)) else none:=rfl
@[simp] theorem Jq {p:Prop} [Decidable p] (x y:Option RV):oE (if p then x else y) = if p then oE x else oE y:=by split <;> rfl
@[simp] theorem Jg (b:Bool):qV (.bl b) = some b:=rfl
@[simp] theorem Ik (i:Int):qV (.int i) = some (i != 0):=rfl
@[simp] theorem IA (xs:List PV):qV (.lst xs) = some (!xs.isEmpty):=rfl
@[simp] theorem Il (xs:List PV):qV (.tup xs) = some (!xs.isEmpty):=rfl
@[simp] theorem Jd:qV .non = some false:=rfl
@[simp] theorem Gq (i:Int):isP "int" (.int i) = some true:=rfl
@[simp] theorem Gg (i:Int):isP "bool" (.int i) = some false:=rfl
@[simp] theorem Ez (i:Bool):isP "bool" (.bl i) = some true:=rfl
@[simp] theorem Fu (xs:List PV):isP "list" (.lst xs) = some true:=rfl
@[simp] theorem Gx (xs:List PV):yo (.lst xs) = some (.fr xs):=rfl
@[simp] theorem GB (xs:List PV):yo (.tup xs) = some (.fr xs):=rfl
@[simp] theorem IC (xs:List PV) (lo hi:Option Int):Eh (.lst xs) lo hi = some (.fr (lK xs lo hi)):=rfl
@[simp] theorem Hz:qS .non = none:=rfl
@[simp] theorem HE (i:Int):qS (.int i) = some i:=rfl
@[simp] theorem Jh (i:Int):pV (.int i) = some (.sh (.int (-i))):=rfl
@[simp] theorem Ib (i:Int):DZ (.int i) = some (.sh (.int i)):=rfl
@[simp] theorem HL (i:Bool):DZ (.bl i) = some (.sh (.int (if i then 1 else 0))):=rfl
@[simp] theorem B2 (x:PV):kn (.sh x) = some x:=rfl
@[simp] theorem HA (x:List PV):kn (.fr x) = some (.lst x):=rfl
@[simp] theorem B1 (x:PV):zT (.sh x) = some (.sh x):=rfl
@[simp] theorem ug (x:List PV):zT (.fr x) = some (.ow x):=rfl
@[simp] theorem vz (np n:Nat) (m:ae -> OS) (xs:List PV):fnP np n m xs = if xs.length = np then fin (m (mm n xs)) else .bad:=rfl
@[simp] theorem ot (n:Nat) (xs:List PV):mm n xs = xs.map (fun x=>some (.sh x)) ++ List.replicate (n - xs.length) none:=rfl
@[simp] theorem EI (xs:List PV):wU (.sh (.lst xs)) = some xs:=rfl
@[simp] theorem HF (xs:List PV):wU (.fr xs) = some xs:=rfl
@[simp] theorem Ij (x:PV):vj x .non = some (.sh (.bl (cF x))):=rfl
@[simp] theorem Ia (x:PV):tD x .non = some (.sh (.bl (!cF x))):=rfl
@[simp] theorem zS (xs:List PV):noX (.ok xs) = if xs.length <= lim then .ok (.fr xs) else .bad:=rfl
@[simp] theorem FL (me:ae -> OE) (ρ:ae):dC me ρ [] = .ok []:=rfl
@[simp] theorem E3 (f:RV -> OE):OE.bind .bad f = .bad:=rfl
@[simp] theorem Du (f:RV -> OT):OE.fX .bad f = .bad:=rfl
@[simp] theorem DH (f:RV -> OA):OE.fH .bad f = .bad:=rfl
@[simp] theorem FA (f:Bool -> OE):OT.bind .bad f = .bad:=rfl
@[simp] theorem Dv (f:Bool -> OT):OT.fX .bad f = .bad:=rfl
@[simp] theorem Ew (f:List PV -> OE):OA.bind .bad f = .bad:=rfl
@[simp] theorem Dz (f:List PV -> OA):OA.fH .bad f = .bad:=rfl
@[simp] theorem DM (ρ:ae) (f:RV -> OS):OE.bO ρ .bad f = .bad:=rfl
@[simp] theorem D4 (ρ:ae) (f:Bool -> OS):OT.bO ρ .bad f = .bad:=rfl
@[simp] theorem DG (ρ:ae) (f:List PV -> OS):OA.bO ρ .bad f = .bad:=rfl
@[simp] theorem DP (k:ae -> OS):OS.bad.andThen k = .bad:=rfl
@[simp] theorem G3 (k:ae -> OS):OS.bad.turn k = .bad:=rfl
@[simp] theorem HC:fin .bad = .bad:=rfl
@[simp] theorem HQ:oE none = .bad:=rfl
@[simp] theorem HR:oT none = .bad:=rfl
@[simp] theorem HN (x:List PV):kn (.al x) = none:=rfl
@[simp] theorem HV (x:List PV):zT (.al x) = none:=rfl
@[simp] theorem JK:(0 <= lim) = True:=by simp [lim]
@[simp] theorem Jz:(1 <= lim) = True:=by simp [lim]
@[simp] theorem GV:(2 <= lim) = True:=by simp [lim]
@[simp] theorem JF:(3 <= lim) = True:=by simp [lim]
@[simp] theorem Jv:(4 <= lim) = True:=by simp [lim]
@[simp] theorem Ju:(5 <= lim) = True:=by simp [lim]
@[simp] theorem Jx:(6 <= lim) = True:=by simp [lim]
@[simp] theorem JW:(7 <= lim) = True:=by simp [lim]
@[simp] theorem JM:(8 <= lim) = True:=by simp [lim]
@[simp] theorem JL:(9 <= lim) = True:=by simp [lim]
@[simp] theorem Jb:(10 <= lim) = True:=by simp [lim]
@[simp] theorem IS:(11 <= lim) = True:=by simp [lim]
@[simp] theorem IQ:(12 <= lim) = True:=by simp [lim]
@[simp] theorem Jj:(13 <= lim) = True:=by simp [lim]
@[simp] theorem IT:(14 <= lim) = True:=by simp [lim]
@[simp] theorem II:(15 <= lim) = True:=by simp [lim]
@[simp] theorem Ig:(16 <= lim) = True:=by simp [lim]
theorem dY {n:Nat} (h:n <= 1000000):n <= lim:=by unfold lim; omega
theorem kI {n:Nat} (h:n <= 1000000):n < lim:=by unfold lim; omega
theorem ni {α:Type} (xs:List α) (k:Nat):atP xs (k:Int) = xs[k]?:=by
 unfold atP ixP
 by_cases h:k < xs.length
 . simp [h]
 . simp [h]
@[simp] theorem JG {α:Type} (xs:List α):atP xs 0 = xs[0]?:=ni xs 0
@[simp] theorem JV {α:Type} (xs:List α):atP xs 1 = xs[1]?:=ni xs 1
@[simp] theorem HH {α:Type} (xs:List α) (n:Nat):atP xs (no_index (OfNat.ofNat n:Int)) = xs[n]?:=ni xs n
theorem EY {α:Type} (xs:List α) (i:Int) (h:0 <= i):atP xs i = xs[i.toNat]?:=by
 have:=ni xs i.toNat
 rwa [Int.toNat_of_nonneg h] at this
@[simp] theorem JH (T:String) (ma:ae -> OE) (ρ:ae):mIs T ma ρ = (ma ρ).bind fun a=>oE ((isP T a.pv).map fun b=>.sh (.bl b)):=rfl
@[simp] theorem Fx (ns:List Int):xJ (ns.map .int) = some ns:=by
  induction ns with
  | nil=>rfl
  | cons n ns ih=>show (xJ (ns.map .int)).map (n ::·) = _; rw [ih]; rfl
@[simp] theorem vI (ns:List Bool):oy (ns.map .bl) = some ns:=by
  induction ns with
  | nil=>rfl
  | cons n ns ih=>show (oy (ns.map .bl)).map (n ::·) = _; rw [ih]; rfl
@[simp] theorem wO (n:Nat):(eZ n).length = n:=by simp [eZ]
theorem pS {me:ae -> OE} {ρ:ae} {α:Type} {g:α -> PV} {f:α -> PV} (l:List α) (h:∀ a ∈ l,me (ρ ++ [some (.sh (g a))]) = .ok (.sh (f a))):dC me ρ (l.map g) = .ok (l.map f):=by
 induction l with
 | nil=>rfl
 | cons a l ih=>
   have h1:=h a (List.mem_cons_self)
   have h2:=ih fun b hb=>h b (List.mem_cons_of_mem _ hb)
   simp [dC,h1,h2]
noncomputable def BD (b:Bool):PV -> Bool
 | .bl c=>decide (c = b)
 | _=>false
noncomputable def Iq:PV -> PV -> Option RV
 | x,.bl b=>some (.sh (.bl (BD b x)))
 | _,_=>none
noncomputable def Cf:PV -> PV -> Option RV
 | x,.bl b=>some (.sh (.bl (!BD b x)))
 | _,_=>none
@[simp] theorem IK (x:PV) (b:Bool):Iq x (.bl b) = some (.sh (.bl (BD b x))):=rfl
@[simp] theorem Gs (x:PV) (b:Bool):Cf x (.bl b) = some (.sh (.bl (!BD b x))):=rfl
@[simp] theorem Iv (b c:Bool):BD b (.bl c) = decide (c = b):=rfl
noncomputable def tS (c:String) (f:Str) (ma:ae -> OA):ae -> OS:=fun ρ=>(ma ρ).bO ρ fun xs=>match xs with
 | [x]=>.exc ρ c [(f,x)]
 | _=>.bad
@[simp] theorem Gz (c:String) (f:Str) (ma:ae -> OA) (ρ:ae):tS c f ma ρ = (ma ρ).bO ρ fun xs=>match xs with
  | [x]=>.exc ρ c [(f,x)]
  | _=>.bad:=rfl
noncomputable def GO (i:Nat) (f:Str) (under:String -> Bool):ae -> OE:=fun ρ=>match ρ[i]? with
 | some (some (.ex c fs))=>if under c = true then (match fs.lookup f with
   | some x=>.ok (.sh x)
   | none=>.bad) else .bad
 | _=>.bad
@[simp] theorem HX (i:Nat) (f:Str) (under:String -> Bool) (ρ:ae):GO i f under ρ = match ρ[i]? with
  | some (some (.ex c fs))=>if under c = true then (match fs.lookup f with
    | some x=>.ok (.sh x)
    | none=>.bad) else .bad
  | _=>.bad:=rfl
noncomputable def pz (ma mb:ae -> OE):ae -> OE:=fun ρ=>(ma ρ).bind fun a=>(mb ρ).bind fun b=>match a,b.pv with
 | .fr xs,.int k=>if (-(2 ^ 63) <= k /\ k < 2 ^ 63) /\ xs.length * k.toNat <= lim then .ok (.fr (List.replicate k.toNat xs).flatten) else .bad
 | _,_=>.bad
@[simp] theorem IX (ma mb:ae -> OE) (ρ:ae):pz ma mb ρ = (ma ρ).bind fun a=>(mb ρ).bind fun b=>match a,b.pv with
  | .fr xs,.int k=>if (-(2 ^ 63) <= k /\ k < 2 ^ 63) /\ xs.length * k.toNat <= lim then .ok (.fr (List.replicate k.toNat xs).flatten) else .bad
  | _,_=>.bad:=rfl
noncomputable def Cs (i:Nat) (mk mv:ae -> OE):ae -> OS:=fun ρ=>match ρ[i]? with
 | some (some (.ow xs))=>(mv ρ).bO ρ fun r=>match kn r with
   | some y=>(mk ρ).bO ρ fun kk=>match kk.pv with
     | .int k=>match ixP xs.length k with
       | some j=>.nx (ρ.set i (some (.ow (xs.set j y))))
       | none=>.bad
     | _=>.bad
   | none=>.bad
 | _=>.bad
@[simp] theorem IY (i:Nat) (mk mv:ae -> OE) (ρ:ae):Cs i mk mv ρ = match ρ[i]? with
  | some (some (.ow xs))=>(mv ρ).bO ρ fun r=>match kn r with
    | some y=>(mk ρ).bO ρ fun kk=>match kk.pv with
      | .int k=>match ixP xs.length k with
        | some j=>.nx (ρ.set i (some (.ow (xs.set j y))))
        | none=>.bad
      | _=>.bad
    | none=>.bad
  | _=>.bad:=rfl
end L2.P
namespace L2.P
open PySem PySem.Spec PyProof.Rows L2 L2.E
mutual
noncomputable def Rep (K:PySem.W.Frag) (S:Hp):PV -> V -> Prop
 | .non,v=>v = .non
 | .bl b,v=>v = .bl b
 | .int i,v=>v = .int i
 | .str s,v=>v = .str s
 | .lst xs,v=>∃ p vs,v = .ref p /\ SqL K S p vs /\ bL K S xs vs
 | .tup xs,v=>∃ p vs,v = .ref p /\ SqT K S p vs /\ bL K S xs vs
noncomputable def bL (K:PySem.W.Frag) (S:Hp):List PV -> List V -> Prop
 | [],vs=>vs = []
 | x ::xs,vs=>∃ v r,vs = v ::r /\ Rep K S x v /\ bL K S xs r
end
theorem _root_.L2.aG.tup {K:PySem.W.Frag} {H H':Hp} {a:Addr} {xs:List V} (e:aG H H') (h:SqT K H a xs):SqT K H' a xs:=by
 rcases h with (h | ⟨o,h⟩) | h
 . exact .inl (.inl (e _ _ h))
 . exact .inl (.inr ⟨o,e _ _ h⟩)
 . exact .inr h
section
variable {K:PySem.W.Frag} {S S':Hp}
mutual
theorem Rep.mono (s:aG S S'):∀ {x:PV} {v:V},Rep K S x v -> Rep K S' x v
 | .non,_,h=>by unfold Rep at h ⊢; exact h
 | .bl _,_,h=>by unfold Rep at h ⊢; exact h
 | .int _,_,h=>by unfold Rep at h ⊢; exact h
 | .str _,_,h=>by unfold Rep at h ⊢; exact h
 | .lst _,_,h=>by
   unfold Rep at h ⊢
   obtain ⟨p,vs,e,q,r⟩:=h
   exact ⟨p,vs,e,aG.seq s q,bL.mono s r⟩
 | .tup _,_,h=>by
   unfold Rep at h ⊢
   obtain ⟨p,vs,e,q,r⟩:=h
   exact ⟨p,vs,e,aG.tup s q,bL.mono s r⟩
theorem bL.mono (s:aG S S'):∀ {xs:List PV} {vs:List V},bL K S xs vs -> bL K S' xs vs
 | [],_,h=>by unfold bL at h ⊢; exact h
 | _ ::_,_,h=>by
   unfold bL at h ⊢
   obtain ⟨v,r,e,q,t⟩:=h
   exact ⟨v,r,e,Rep.mono s q,bL.mono s t⟩
end
theorem bL.nil:bL K S [] []:=by unfold bL; rfl
theorem bL.cons {x:PV} {xs:List PV} {v:V} {vs:List V} (h:Rep K S x v) (t:bL K S xs vs):bL K S (x ::xs) (v ::vs):=by unfold bL; exact ⟨v,vs,rfl,h,t⟩
theorem bL.nil_inv {vs:List V} (h:bL K S [] vs):vs = []:=by unfold bL at h; exact h
theorem bL.cons_inv {x:PV} {xs:List PV} {vs:List V} (h:bL K S (x ::xs) vs):∃ v r,vs = v ::r /\ Rep K S x v /\ bL K S xs r:=by unfold bL at h; exact h
theorem bL.append {xs ys:List PV} {vs us:List V} (h:bL K S xs vs) (t:bL K S ys us):bL K S (xs ++ ys) (vs ++ us):=by
 induction xs generalizing vs with
 | nil=>rw [h.nil_inv]; exact t
 | cons x xs ih=>
   obtain ⟨v,r,rfl,q,h'⟩:=h.cons_inv
   exact .cons q (ih h')
theorem bL.length {xs:List PV} {vs:List V} (h:bL K S xs vs):vs.length = xs.length:=by
 induction xs generalizing vs with
 | nil=>rw [h.nil_inv]; rfl
 | cons x xs ih=>
   obtain ⟨v,r,rfl,q,h'⟩:=h.cons_inv
   simp [ih h']
theorem bL.get {xs:List PV} {vs:List V} (h:bL K S xs vs):∀ {i:Nat} {x:PV},xs[i]? = some x -> ∃ v,vs[i]? = some v /\ Rep K S x v:=by
 induction xs generalizing vs with
 | nil=>intro i x e; simp at e
 | cons y xs ih=>
   obtain ⟨v,r,rfl,q,h'⟩:=h.cons_inv
   intro i x e
   cases i with
   | zero=>simp at e; subst e; exact ⟨v,rfl,q⟩
   | succ i=>simp at e; obtain ⟨u,e1,e2⟩:=ih h' e; exact ⟨u,by simpa using e1,e2⟩
theorem bL.Ho {xs:List PV} {vs:List V} (h:bL K S xs vs) {i:Nat} {v:V} (e:vs[i]? = some v):∃ x,xs[i]? = some x /\ Rep K S x v:=by
 have hi:i < xs.length:=by rw [<- h.length]; exact (List.getElem?_eq_some_iff.mp e).1
 obtain ⟨u,e1,e2⟩:=h.get (i:=i) (x:=xs[i]) (by simp [hi])
 rw [e] at e1; cases e1
 exact ⟨_,by simp [hi],e2⟩
theorem bL.take {xs:List PV} {vs:List V} (h:bL K S xs vs):∀ n,bL K S (xs.take n) (vs.take n):=by
 induction xs generalizing vs with
 | nil=>intro n; rw [h.nil_inv]; simpa using bL.nil
 | cons y xs ih=>
   obtain ⟨v,r,rfl,q,h'⟩:=h.cons_inv
   intro n
   cases n with
   | zero=>exact .nil
   | succ n=>exact .cons q (ih h' n)
theorem bL.drop {xs:List PV} {vs:List V} (h:bL K S xs vs):∀ n,bL K S (xs.drop n) (vs.drop n):=by
 induction xs generalizing vs with
 | nil=>intro n; rw [h.nil_inv]; simpa using bL.nil
 | cons y xs ih=>
   obtain ⟨v,r,rfl,q,h'⟩:=h.cons_inv
   intro n
   cases n with
   | zero=>exact .cons q h'
   | succ n=>exact ih h' n
theorem bL.ints {ns:List Int}:bL K S (ns.map .int) (ns.map V.int):=by
 induction ns with
 | nil=>exact .nil
 | cons n ns ih=>exact .cons (by unfold Rep; rfl) ih
theorem bL.set {xs:List PV} {vs:List V} {x:PV} {v:V} (h:bL K S xs vs) (q:Rep K S x v):∀ i,bL K S (xs.set i x) (vs.set i v):=by
 induction xs generalizing vs with
 | nil=>intro i; rw [h.nil_inv]; exact .nil
 | cons y xs ih=>
   obtain ⟨u,r,rfl,qu,h'⟩:=h.cons_inv
   intro i
   cases i with
   | zero=>exact .cons q h'
   | succ i=>exact .cons qu (ih h' i)
end
end L2.P
namespace L2.P
open PySem PySem.Spec PyProof.Rows L2 L2.E
noncomputable def mH (K:PySem.W.Frag) (cls:String -> Option Addr) (S H:Hp) (c:String) (fs:XF) (a C:Addr):Prop:=
 cls c = some C /\ ∃ dx,H a = some (nF a C dx) /\ (fs = [] \/ ∃ d us,dx = some d /\ H d = some (.xd us) /\ fs.map (·.1) = us.map (·.1) /\ bL K S (fs.map (·.2)) (us.map (·.2)))
noncomputable def isX:HO -> Bool
 | .ext _=>true
 | .xd _=>true
 | _=>false
noncomputable def Bd (K:PySem.W.Frag) (S:Hp) (kvs:List (Int × PV)) (us:List (Key × V)):Prop:=Paired (fun (p:Int × PV) (q:Key × V)=>q.1 = Sum.inl p.1 /\ Rep K S p.2 q.2) kvs us
noncomputable def ve (K:PySem.W.Frag) (S:Hp) (kvs:List (List Int × PV)) (us:List (List Key × V)):Prop:=Paired (fun (p:List Int × PV) (q:List Key × V)=>q.1 = p.1.map Sum.inl /\ Rep K S p.2 q.2) kvs us
theorem Bd.mono {K:PySem.W.Frag} {S S':Hp} (s:aG S S'):∀ {kvs:List (Int × PV)} {us:List (Key × V)},Bd K S kvs us -> Bd K S' kvs us
 | _,_,.nil=>.nil
 | _,_,.cons h t=>.cons ⟨h.1,Rep.mono s h.2⟩ (Bd.mono s t)
theorem ve.mono {K:PySem.W.Frag} {S S':Hp} (s:aG S S'):∀ {kvs:List (List Int × PV)} {us:List (List Key × V)},ve K S kvs us -> ve K S' kvs us
 | _,_,.nil=>.nil
 | _,_,.cons h t=>.cons ⟨h.1,Rep.mono s h.2⟩ (ve.mono s t)
mutual
noncomputable def bS (K:PySem.W.Frag) (cls:String -> Option Addr) (S H:Hp):OV -> V -> List Addr -> Prop
 | .sh x,v,fp=>fp = [] /\ Rep K S x v
 | .ol ts,v,fp=>∃ p vs f,v = .ref p /\ H p = some (.lst vs) /\ fp = p ::f /\ bP K cls S H ts vs f
 | .ob c ks ts,v,fp=>∃ p C dx us f,v = .ref p /\ cls c = some C /\ H p = some (.ins C dx us) /\ H dx = some (.own p) /\ us.map (·.1) = ks /\ fp = p ::dx ::f /\ bP K cls S H ts (us.map (·.2)) f
 | .di kvs,v,fp=>∃ p us,v = .ref p /\ H p = some (.dK us) /\ fp = [p] /\ Bd K S kvs us
 | .dt kvs,v,fp=>∃ p us,v = .ref p /\ H p = some (.dT us) /\ fp = [p] /\ ve K S kvs us
noncomputable def bP (K:PySem.W.Frag) (cls:String -> Option Addr) (S H:Hp):List OV -> List V -> List Addr -> Prop
 | [],vs,fp=>vs = [] /\ fp = []
 | t ::ts,vs,fp=>∃ v r f1 f2,vs = v ::r /\ fp = f1 ++ f2 /\ bS K cls S H t v f1 /\ bP K cls S H ts r f2
end
noncomputable def qj (K:PySem.W.Frag) (cls:String -> Option Addr) (Av G S H:Hp) (i:Nat):Sl -> V -> List Addr -> Prop
 | .sh x,v,fp=>fp = [] /\ Rep K S x v
 | .ow xs,v,fp=>∃ p vs,v = .ref p /\ fp = [p] /\ G p = none /\ S p = none /\ H p = some (.lst vs) /\ bL K S xs vs
 | .ex c fs,v,fp=>fp = [] /\ ∃ a C,v = .ref a /\ mH K cls S H c fs a C
 | .tr io t,v,fp=>bS K cls S H t v fp /\ fp.Nodup /\ (∀ a ∈ fp,G a = none /\ S a = none) /\ (io = true -> Av i = some (.lst [v]))
 | .bo t,v,fp=>fp = [] /\ ∃ f,bS K cls S G t v f
noncomputable def DR (K:PySem.W.Frag) (cls:String -> Option Addr) (G S H:Hp):Sl -> V -> Prop
 | .sh x,v=>Rep K S x v
 | .ow xs,v=>∃ p vs,v = .ref p /\ G p = none /\ S p = none /\ H p = some (.lst vs) /\ bL K S xs vs
 | .ex c fs,v=>∃ a C,v = .ref a /\ mH K cls S H c fs a C
 | _,_=>True
noncomputable def kv (K:PySem.W.Frag) (B S H:Hp):RV -> V -> Prop
 | .sh x,v=>Rep K S x v
 | .fr xs,v=>∃ p vs,v = .ref p /\ B p = none /\ S p = none /\ H p = some (.lst vs) /\ bL K S xs vs
 | .al xs,v=>∃ p vs,v = .ref p /\ SqL K H p vs /\ bL K S xs vs
noncomputable def RdV (K:PySem.W.Frag) (S H:Hp):PV -> V -> Prop
 | .lst xs,v=>∃ p vs,v = .ref p /\ SqL K H p vs /\ bL K S xs vs
 | x,v=>Rep K S x v
structure SRF (K:PySem.W.Frag) (cls:String -> Option Addr) (Av G S₀:Hp) (ρ:ae) (σ:St) (S H:Hp) (F:Nat -> List Addr):Prop where
 gh:aG G H
 s0:aG S₀ S
 sh:aG S H
 new:∀ b,S b ≠ none -> S₀ b ≠ none \/ G b = none
 own:∀ (i:Nat) (s:Sl),ρ[i]? = some (some s) -> ∃ v,σ[i]? = some (some v) /\ qj K cls Av G S H i s v (F i)
 apart:∀ i j a,a ∈ F i -> a ∈ F j -> i = j
 live:∀ i a,a ∈ F i -> (∃ o,H a = some o /\ isX o = false) /\ G a = none /\ S a = none
 len:ρ.length = σ.length
noncomputable def SR (K:PySem.W.Frag) (cls:String -> Option Addr) (Av G S₀:Hp) (ρ:ae) (σ:St) (S H:Hp):Prop:=∃ F,SRF K cls Av G S₀ ρ σ S H F
section
variable {K:PySem.W.Frag} {cls:String -> Option Addr} {Av G S₀ S S' H H' B:Hp} {ρ:ae} {σ:St} {F:Nat -> List Addr}
theorem SR.gh (I:SR K cls Av G S₀ ρ σ S H):aG G H:=let ⟨_,J⟩:=I; J.gh
theorem SR.s0 (I:SR K cls Av G S₀ ρ σ S H):aG S₀ S:=let ⟨_,J⟩:=I; J.s0
theorem SR.sh (I:SR K cls Av G S₀ ρ σ S H):aG S H:=let ⟨_,J⟩:=I; J.sh
theorem SR.new (I:SR K cls Av G S₀ ρ σ S H):∀ b,S b ≠ none -> S₀ b ≠ none \/ G b = none:=let ⟨_,J⟩:=I; J.new
theorem SR.len (I:SR K cls Av G S₀ ρ σ S H):ρ.length = σ.length:=let ⟨_,J⟩:=I; J.len
theorem qj.one {i:Nat} {s:Sl} {v:V} {fp:List Addr} (h:qj K cls Av G S H i s v fp):DR K cls G S H s v:=by
 cases s with
 | sh x=>exact h.2
 | ow xs=>obtain ⟨p,vs,e,_,r⟩:=h; exact ⟨p,vs,e,r⟩
 | ex c fs=>exact h.2
 | tr io t=>trivial
 | bo t=>trivial
theorem SR.good (I:SR K cls Av G S₀ ρ σ S H) (i:Nat) (s:Sl) (e:ρ[i]? = some (some s)):∃ v,σ[i]? = some (some v) /\ DR K cls G S H s v:=by
 obtain ⟨F,J⟩:=I
 obtain ⟨v,e1,r⟩:=J.own i s e
 exact ⟨v,e1,r.one⟩
theorem mH.mono {c:String} {fs:XF} {a C:Addr} (h:mH K cls S H c fs a C) (s:aG S S') (g:aG H H'):mH K cls S' H' c fs a C:=by
 obtain ⟨h1,dx,h2,h3⟩:=h
 refine ⟨h1,dx,g _ _ h2,?_⟩
 rcases h3 with h3 | ⟨d,us,e1,e2,e3,e4⟩
 . exact .inl h3
 . exact .inr ⟨d,us,e1,g _ _ e2,e3,e4.mono s⟩
theorem mH.Hn {c:String} {fs:XF} {a C:Addr} (h:mH K cls S H c fs a C) (s:aG S S') (g:∀ b o,isX o = true -> H b = some o -> H' b = some o):mH K cls S' H' c fs a C:=by
 obtain ⟨h1,dx,h2,h3⟩:=h
 refine ⟨h1,dx,g _ _ rfl h2,?_⟩
 rcases h3 with h3 | ⟨d,us,e1,e2,e3,e4⟩
 . exact .inl h3
 . exact .inr ⟨d,us,e1,g _ _ rfl e2,e3,e4.mono s⟩
mutual
theorem bS.mono (s:aG S S'):∀ {t:OV} {v:V} {fp:List Addr},bS K cls S H t v fp -> (∀ a ∈ fp,∀ o,H a = some o -> H' a = some o) -> bS K cls S' H' t v fp
 | .sh _,_,_,h,_=>by unfold bS at h ⊢; exact ⟨h.1,Rep.mono s h.2⟩
 | .ol _,_,_,h,g=>by
   unfold bS at h ⊢
   obtain ⟨p,vs,f,e,q,e2,r⟩:=h
   subst e2
   exact ⟨p,vs,f,e,g p (by simp) _ q,rfl,bP.mono s r fun a ha=>g a (by simp [ha])⟩
 | .ob _ _ _,_,_,h,g=>by
   unfold bS at h ⊢
   obtain ⟨p,C,dx,us,f,e,c,q,q2,k,e2,r⟩:=h
   subst e2
   exact ⟨p,C,dx,us,f,e,c,g p (by simp) _ q,g dx (by simp) _ q2,k,rfl,bP.mono s r fun a ha=>g a (by simp [ha])⟩
 | .di _,_,_,h,g=>by
   unfold bS at h ⊢
   obtain ⟨p,us,e,q,e2,r⟩:=h
   subst e2
   exact ⟨p,us,e,g p (by simp) _ q,rfl,r.mono s⟩
 | .dt _,_,_,h,g=>by
   unfold bS at h ⊢
   obtain ⟨p,us,e,q,e2,r⟩:=h
   subst e2
   exact ⟨p,us,e,g p (by simp) _ q,rfl,r.mono s⟩
theorem bP.mono (s:aG S S'):∀ {ts:List OV} {vs:List V} {fp:List Addr},bP K cls S H ts vs fp -> (∀ a ∈ fp,∀ o,H a = some o -> H' a = some o) -> bP K cls S' H' ts vs fp
 | [],_,_,h,_=>by unfold bP at h ⊢; exact h
 | _ ::_,_,_,h,g=>by
   unfold bP at h ⊢
   obtain ⟨v,r,f1,f2,e,e2,q,t⟩:=h
   subst e2
   exact ⟨v,r,f1,f2,e,rfl,bS.mono s q fun a ha=>g a (List.mem_append_left _ ha),bP.mono s t fun a ha=>g a (List.mem_append_right _ ha)⟩
end
mutual
theorem bS.live:∀ {t:OV} {v:V} {fp:List Addr},bS K cls S H t v fp -> ∀ a ∈ fp,∃ o,H a = some o /\ isX o = false
 | .sh _,_,_,h,a,ha=>by unfold bS at h; rw [h.1] at ha; cases ha
 | .ol _,_,_,h,a,ha=>by
   unfold bS at h
   obtain ⟨p,vs,f,e,q,e2,r⟩:=h
   subst e2
   rcases List.mem_cons.mp ha with z | z
   . subst z; exact ⟨_,q,rfl⟩
   . exact bP.live r a z
 | .ob _ _ _,_,_,h,a,ha=>by
   unfold bS at h
   obtain ⟨p,C,dx,us,f,e,c,q,q2,k,e2,r⟩:=h
   subst e2
   rcases List.mem_cons.mp ha with z | z
   . subst z; exact ⟨_,q,rfl⟩
   . rcases List.mem_cons.mp z with z | z
     . subst z; exact ⟨_,q2,rfl⟩
     . exact bP.live r a z
 | .di _,_,_,h,a,ha=>by
   unfold bS at h
   obtain ⟨p,us,e,q,e2,r⟩:=h
   subst e2
   have z:a = p:=by simpa using ha
   subst z
   exact ⟨_,q,rfl⟩
 | .dt _,_,_,h,a,ha=>by
   unfold bS at h
   obtain ⟨p,us,e,q,e2,r⟩:=h
   subst e2
   have z:a = p:=by simpa using ha
   subst z
   exact ⟨_,q,rfl⟩
theorem bP.live:∀ {ts:List OV} {vs:List V} {fp:List Addr},bP K cls S H ts vs fp -> ∀ a ∈ fp,∃ o,H a = some o /\ isX o = false
 | [],_,_,h,a,ha=>by unfold bP at h; rw [h.2] at ha; cases ha
 | _ ::_,_,_,h,a,ha=>by
   unfold bP at h
   obtain ⟨v,r,f1,f2,e,e2,q,t⟩:=h
   subst e2
   rcases List.mem_append.mp ha with z | z
   . exact bS.live q a z
   . exact bP.live t a z
end
theorem qj.mono {i:Nat} {sl:Sl} {v:V} {fp:List Addr} (h:qj K cls Av G S H i sl v fp) (s:aG S S') (g:∀ a ∈ fp,∀ o,H a = some o -> H' a = some o) (x:∀ b o,isX o = true -> H b = some o -> H' b = some o) (n:∀ a ∈ fp,S' a = none):qj K cls Av G S' H' i sl v fp:=by
 cases sl with
 | sh y=>exact ⟨h.1,Rep.mono s h.2⟩
 | ow xs=>
   obtain ⟨p,vs,e,e2,h1,h2,h3,h4⟩:=h
   subst e2
   exact ⟨p,vs,e,rfl,h1,n p (by simp),g p (by simp) _ h3,h4.mono s⟩
 | ex c fs=>obtain ⟨e,a,C,e2,q⟩:=h; exact ⟨e,a,C,e2,q.Hn s x⟩
 | tr io t=>exact ⟨h.1.mono s g,h.2.1,fun a ha=>⟨(h.2.2.1 a ha).1,n a ha⟩,h.2.2.2⟩
 | bo t=>obtain ⟨e,f,r⟩:=h; exact ⟨e,f,r.mono s fun _ _ _ z=>z⟩
theorem RdV.mono {x:PV} {v:V} (h:RdV K S H x v) (s:aG S S') (g:aG H H'):RdV K S' H' x v:=by
 cases x with
 | lst xs=>obtain ⟨p,vs,e,q,r⟩:=h; exact ⟨p,vs,e,aG.seq g q,r.mono s⟩
 | non=>exact Rep.mono s h
 | bl b=>exact Rep.mono s h
 | int i=>exact Rep.mono s h
 | str x=>exact Rep.mono s h
 | tup xs=>exact Rep.mono s h
theorem Rep.rd {x:PV} {v:V} (h:Rep K S x v) (g:aG S H):RdV K S H x v:=by
 cases x with
 | lst xs=>unfold Rep at h; obtain ⟨p,vs,e,q,r⟩:=h; exact ⟨p,vs,e,aG.seq g q,r⟩
 | non=>exact h
 | bl b=>exact h
 | int i=>exact h
 | str x=>exact h
 | tup xs=>exact h
theorem kv.rd {r:RV} {v:V} (h:kv K B S H r v) (g:aG S H):RdV K S H r.pv v:=by
 cases r with
 | sh x=>exact Rep.rd h g
 | fr xs=>obtain ⟨p,vs,e,_,_,q,r⟩:=h; exact ⟨p,vs,e,SqL.new q,r⟩
 | al xs=>exact h
theorem SRF.change (I:SRF K cls Av G S₀ ρ σ S H F) (gh:aG G H') (s:aG S S') (sh:aG S' H') (new:∀ b,S' b ≠ none -> S₀ b ≠ none \/ G b = none)
  (g:∀ i a,a ∈ F i -> ∀ o,H a = some o -> H' a = some o) (x:∀ b o,isX o = true -> H b = some o -> H' b = some o) (n:∀ i a,a ∈ F i -> S' a = none):SRF K cls Av G S₀ ρ σ S' H' F where
 gh:=gh
 s0:=I.s0.trans s
 sh:=sh
 new:=new
 own:=fun i t e=>by
  obtain ⟨v,e1,r⟩:=I.own i t e
  exact ⟨v,e1,r.mono s (fun a ha=>g i a ha) x fun a ha=>n i a ha⟩
 apart:=I.apart
 live:=fun i a ha=>by
  obtain ⟨⟨o,h1,h2⟩,h3,_⟩:=I.live i a ha
  exact ⟨⟨o,g i a ha o h1,h2⟩,h3,n i a ha⟩
 len:=I.len
theorem SRF.same (I:SRF K cls Av G S₀ ρ σ S H F) (g:aG H H'):SRF K cls Av G S₀ ρ σ S H' F:=
 I.change (I.gh.trans g) (aG.refl _) (I.sh.trans g) I.new (fun _ _ _ o e=>g _ _ e) (fun _ _ _ e=>g _ _ e) fun i a ha=>(I.live i a ha).2.2
theorem SR.same (I:SR K cls Av G S₀ ρ σ S H) (g:aG H H'):SR K cls Av G S₀ ρ σ S H':=let ⟨F,J⟩:=I; ⟨F,J.same g⟩
theorem set_inv {α:Type} {l:List (Option α)} {i j:Nat} {x:Option α} {s:α} (h:(l.set i x)[j]? = some (some s)):(j = i /\ x = some s /\ i < l.length) \/ (j ≠ i /\ l[j]? = some (some s)):=by
 by_cases e:j = i
 . subst e
   rw [List.getElem?_set] at h
   simp only [if_true] at h
   split at h
   . rename_i hl
     exact .inl ⟨rfl,Option.some.inj h,hl⟩
   . cases h
 . rw [List.getElem?_set_ne (Ne.symm e)] at h
   exact .inr ⟨e,h⟩
theorem EZ {α:Type} {l:List (Option α)} {i:Nat} {x:Option α} (h:i < l.length):(l.set i x)[i]? = some x:=by
 rw [List.getElem?_set]; simp [h]
noncomputable def nA (F:Nat -> List Addr) (i:Nat) (fp:List Addr):Nat -> List Addr:=fun j=>if j = i then fp else F j
theorem iY {i:Nat} {fp:List Addr}:nA F i fp i = fp:=by unfold nA; rw [if_pos rfl]
theorem fM {i j:Nat} {fp:List Addr} (h:j ≠ i):nA F i fp j = F j:=by unfold nA; rw [if_neg h]
theorem SRF.put {i:Nat} {s:Option Sl} {u:Option V} {fp:List Addr} (I:SRF K cls Av G S₀ ρ σ S H F) (h:∀ t,s = some t -> ∃ v,u = some v /\ qj K cls Av G S H i t v fp)
  (hl:∀ a ∈ fp,(∃ o,H a = some o /\ isX o = false) /\ G a = none /\ S a = none) (ap:∀ j a,j ≠ i -> a ∈ fp -> a ∉ F j):SRF K cls Av G S₀ (ρ.set i s) (σ.set i u) S H (nA F i fp) where
 gh:=I.gh
 s0:=I.s0
 sh:=I.sh
 new:=I.new
 own:=fun j t e=>by
  rcases set_inv e with ⟨rfl,e1,hl⟩ | ⟨ne,e1⟩
  . obtain ⟨v,e2,r⟩:=h t e1
    exact ⟨v,by rw [EZ (by rw [<- I.len]; exact hl),e2],by rw [iY]; exact r⟩
  . rw [List.getElem?_set_ne (Ne.symm ne),fM ne]
    exact I.own j t e1
 apart:=fun j k a h1 h2=>by
  by_cases ej:j = i
  . by_cases ek:k = i
    . rw [ej,ek]
    . subst ej; rw [iY] at h1; rw [fM ek] at h2; exact absurd h2 (ap k a ek h1)
  . by_cases ek:k = i
    . subst ek; rw [iY] at h2; rw [fM ej] at h1; exact absurd h1 (ap j a ej h2)
    . rw [fM ej] at h1; rw [fM ek] at h2; exact I.apart j k a h1 h2
 live:=fun j a ha=>by
  by_cases ej:j = i
  . subst ej; rw [iY] at ha; exact hl a ha
  . rw [fM ej] at ha; exact I.live j a ha
 len:=by simp [I.len]
theorem SR.vx {i:Nat} {x:PV} {v:V} (I:SR K cls Av G S₀ ρ σ S H) (h:Rep K S x v):SR K cls Av G S₀ (ρ.set i (some (.sh x))) (σ.set i (some v)) S H:=by
 obtain ⟨F,J⟩:=I
 exact ⟨_,J.put (fp:=[]) (fun t e=>by cases e; exact ⟨v,rfl,rfl,h⟩) (fun a ha=>nomatch ha) fun j a _ ha=>nomatch ha⟩
theorem SR.xV {i:Nat} {v:Option V} (I:SR K cls Av G S₀ ρ σ S H):SR K cls Av G S₀ (ρ.set i none) (σ.set i v) S H:=by
 obtain ⟨F,J⟩:=I
 exact ⟨_,J.put (fp:=[]) (fun t e=>nomatch e) (fun a ha=>nomatch ha) fun j a _ ha=>nomatch ha⟩
theorem kq {α:Type} {l:List α} {i:Nat} {x:α} (h:l[i]? = some x):l.set i x = l:=by
 apply List.ext_getElem?
 intro j
 by_cases e:i = j
 . subst e; rw [List.getElem?_set,if_pos rfl,if_pos (List.getElem?_eq_some_iff.mp h).1,h]
 . rw [List.getElem?_set_ne e]
theorem SR.drop {i:Nat} (I:SR K cls Av G S₀ ρ σ S H):SR K cls Av G S₀ (ρ.set i none) σ S H:=by
 cases e:σ[i]? with
 | some v=>have:=I.xV (i:=i) (v:=v); rwa [kq e] at this
 | none=>
   have h1:σ.length <= i:=List.getElem?_eq_none_iff.mp e
   rw [List.set_eq_of_length_le (by rw [I.len]; exact h1)]
   exact I
theorem SR.Hs {i:Nat} {c:String} {fs:XF} {a C:Addr} (I:SR K cls Av G S₀ ρ σ S H) (h:mH K cls S H c fs a C):SR K cls Av G S₀ (ρ.set i (some (.ex c fs))) (σ.set i (some (.ref a))) S H:=by
 obtain ⟨F,J⟩:=I
 exact ⟨_,J.put (fp:=[]) (fun t e=>by cases e; exact ⟨.ref a,rfl,rfl,a,C,rfl,h⟩) (fun a ha=>nomatch ha) fun j a _ ha=>nomatch ha⟩
theorem SR.mut {i:Nat} {xs ys:List PV} {p:Addr} {us:List V} (I:SR K cls Av G S₀ ρ σ S H) (hi:ρ[i]? = some (some (.ow xs))) (hv:σ[i]? = some (some (.ref p))) (hr:bL K S ys us):SR K cls Av G S₀ (ρ.set i (some (.ow ys))) σ S (upd H p (.lst us)):=by
 obtain ⟨F,J⟩:=I
 obtain ⟨v,e1,q,vs,e2,e3,hG,hS,hH,_⟩:=J.own i _ hi
 rw [hv] at e1
 cases e1
 cases e2
 have J1:SRF K cls Av G S₀ (ρ.set i none) (σ.set i none) S H (nA F i []):=J.put (fun t e=>nomatch e) (fun a ha=>nomatch ha) fun j a _ ha=>nomatch ha
 have off:∀ j a,a ∈ nA F i [] j -> a ≠ p:=fun j a ha z=>by
  by_cases ej:j = i
  . subst ej; rw [iY] at ha; cases ha
  . rw [fM ej] at ha
    exact ej (J.apart j i a ha (by rw [e3,z]; simp))
 have J2:=J1.change (H':=upd H p (.lst us)) (J.gh.upd hG) (aG.refl _) (J.sh.upd hS) J.new (fun j a ha o h=>by rw [aY (off j a ha)]; exact h)
  (fun b o hx h=>by
    rw [aY]
    . exact h
    . intro z; rw [z,hH] at h; cases h; cases hx)
  fun j a ha=>(J1.live j a ha).2.2
 have J3:=J2.put (i:=i) (s:=some (.ow ys)) (u:=some (.ref p)) (fp:=[p]) (fun t e=>by cases e; exact ⟨_,rfl,p,us,rfl,rfl,hG,hS,bg,hr⟩) (fun a ha=>by
  have z:a = p:=by simpa using ha
  subst z
  exact ⟨⟨_,bg,rfl⟩,hG,hS⟩) fun j a hj ha hz=>by
   have z:a = p:=by simpa using ha
   exact off j a hz z
 rw [List.set_set,List.set_set,kq hv] at J3
 exact ⟨_,J3⟩
theorem SR.GH {i:Nat} {xs:List PV} (I:SR K cls Av G S₀ ρ σ S H) (hi:ρ[i]? = some (some (.ow xs))):∃ S',aG S S' /\ SR K cls Av G S₀ (ρ.set i (some (.sh (.lst xs)))) σ S' H:=by
 obtain ⟨F,J⟩:=I
 obtain ⟨v,hv,p,vs,e2,e3,hG,hS,hH,hr⟩:=J.own i _ hi
 subst e2
 have J1:SRF K cls Av G S₀ (ρ.set i none) (σ.set i none) S H (nA F i []):=J.put (fun t e=>nomatch e) (fun a ha=>nomatch ha) fun j a _ ha=>nomatch ha
 have off:∀ j a,a ∈ nA F i [] j -> a ≠ p:=fun j a ha z=>by
  by_cases ej:j = i
  . subst ej; rw [iY] at ha; cases ha
  . rw [fM ej] at ha
    exact ej (J.apart j i a ha (by rw [e3,z]; simp))
 have J2:=J1.change (S':=upd S p (.lst vs)) (H':=H) J.gh (aG.new hS) (fun b u h=>by
   by_cases e:b = p
   . subst e; rw [bg] at h; cases h; exact hH
   . rw [aY e] at h; exact J.sh b u h) (fun b h=>by
   by_cases e:b = p
   . subst e; exact .inr hG
   . rw [aY e] at h; exact J.new b h) (fun _ _ _ _ h=>h) (fun _ _ _ h=>h) fun j a ha=>by
     rw [aY (off j a ha)]; exact (J1.live j a ha).2.2
 have J3:=J2.put (i:=i) (s:=some (.sh (.lst xs))) (u:=some (.ref p)) (fp:=[]) (fun t e=>by
  cases e
  refine ⟨_,rfl,rfl,?_⟩
  unfold Rep
  exact ⟨p,vs,rfl,SqL.new bg,hr.mono (aG.new hS)⟩) (fun a ha=>nomatch ha) fun j a _ ha=>nomatch ha
 rw [List.set_set,List.set_set,kq hv] at J3
 exact ⟨_,aG.new hS,_,J3⟩
end
end L2.P
namespace L2.P
open PySem PySem.Spec PyProof.Rows L2 L2.E
structure bu (S H S' H':Hp):Prop where
 s:aG S S'
 g:aG H H'
 sh:aG S' H'
 new:∀ b,S' b ≠ none -> S b ≠ none \/ H b = none
theorem bu.refl {S H:Hp} (h:aG S H):bu S H S H:=⟨aG.refl _,aG.refl _,h,fun _ z=>.inl z⟩
theorem bu.trans {S H S1 H1 S2 H2:Hp} (a:bu S H S1 H1) (b:bu S1 H1 S2 H2):bu S H S2 H2:=
 ⟨a.s.trans b.s,a.g.trans b.g,b.sh,fun x h=>by
   rcases b.new x h with z | z
   . exact a.new x z
   . exact .inr (a.g.free z)⟩
theorem SRF.grow {K:PySem.W.Frag} {cls:String -> Option Addr} {Av G S₀ S S' H H':Hp} {ρ:ae} {σ:St} {F:Nat -> List Addr} (I:SRF K cls Av G S₀ ρ σ S H F) (w:bu S H S' H'):SRF K cls Av G S₀ ρ σ S' H' F:=
 I.change (I.gh.trans w.g) w.s w.sh (fun b h=>by
  rcases w.new b h with z | z
  . exact I.new b z
  . exact .inr (I.gh.free z)) (fun i a _ o h=>w.g _ _ h) (fun b o _ h=>w.g _ _ h) fun i a ha=>by
    obtain ⟨⟨o,h1,_⟩,_,h3⟩:=I.live i a ha
    cases q:S' a with
    | none=>rfl
    | some o=>
      rcases w.new a (by rw [q]; simp) with z | z
      . exact absurd h3 z
      . rw [h1] at z; cases z
theorem SR.grow {K:PySem.W.Frag} {cls:String -> Option Addr} {Av G S₀ S S' H H':Hp} {ρ:ae} {σ:St} (I:SR K cls Av G S₀ ρ σ S H) (w:bu S H S' H'):SR K cls Av G S₀ ρ σ S' H':=let ⟨F,J⟩:=I; ⟨F,J.grow w⟩
theorem SR.Hj {K:PySem.W.Frag} {cls:String -> Option Addr} {Av G S₀ S S' H H':Hp} {ρ:ae} {σ:St} {i:Nat} {xs:List PV} {v:V} (I:SR K cls Av G S₀ ρ σ S H) (w:bu S H S' H') (h:kv K H S' H' (.fr xs) v):SR K cls Av G S₀ (ρ.set i (some (.ow xs))) (σ.set i (some v)) S' H':=by
 obtain ⟨F,J⟩:=I
 obtain ⟨p,vs,rfl,hB,hS,hH,hr⟩:=h
 have hG:=J.gh.free hB
 refine ⟨_,(J.grow w).put (fp:=[p]) (fun t e=>by cases e; exact ⟨_,rfl,p,vs,rfl,rfl,hG,hS,hH,hr⟩) (fun a ha=>?_) fun j a _ ha hz=>?_⟩
 . have z:a = p:=by simpa using ha
   subst z
   exact ⟨⟨_,hH,rfl⟩,hG,hS⟩
 . have z:a = p:=by simpa using ha
   subst z
   obtain ⟨⟨o,h1,_⟩,_⟩:=J.live j a hz
   rw [hB] at h1; cases h1
theorem bu.heap {S H:Hp} {p:Addr} {o:HO} (h:aG S H) (hp:H p = none):bu S H S (upd H p o):=⟨aG.refl _,aG.new hp,h.trans (aG.new hp),fun _ z=>.inl z⟩
theorem bu.both {S H:Hp} {p:Addr} {o:HO} (h:aG S H) (hp:H p = none):bu S H (upd S p o) (upd H p o):=by
 have hS:=h.free hp
 refine ⟨aG.new hS,aG.new hp,fun b u z=>?_,fun b z=>?_⟩
 . by_cases e:b = p
   . subst e; rw [bg] at z ⊢; exact z
   . rw [aY e] at z ⊢; exact h b u z
 . by_cases e:b = p
   . subst e; exact .inr hp
   . rw [aY e] at z; exact .inl z
section
variable (K:PySem.W.Frag) (cls:String -> Option Addr) (W:XW)
noncomputable def j4 (σ:St) (S H:Hp) (Q:VK):OE -> Prop
 | .ok r=>∀ v S' H',bu S H S' H' -> kv K H S' H' r v -> Q v H'
 | .exc c fs=>∀ a C S' H',bu S H S' H' -> mH K cls S' H' c fs a C -> W (.ref C) (some a) σ H'
 | .bad=>False
noncomputable def qg (σ:St) (S H:Hp) (Q:Bool -> Hp -> Prop):OT -> Prop
 | .ok b=>∀ S' H',bu S H S' H' -> Q b H'
 | .exc c fs=>∀ a C S' H',bu S H S' H' -> mH K cls S' H' c fs a C -> W (.ref C) (some a) σ H'
 | .bad=>False
noncomputable def tB (σ:St) (S H:Hp) (Q:List V -> Hp -> Prop):OA -> Prop
 | .ok xs=>∀ vs S' H',bu S H S' H' -> bL K S' xs vs -> Q vs H'
 | .exc c fs=>∀ a C S' H',bu S H S' H' -> mH K cls S' H' c fs a C -> W (.ref C) (some a) σ H'
 | .bad=>False
noncomputable def gZ (Av G S₀:Hp) (S:Hp) (D:Ends):OS -> Prop
 | .nx ρ=>∀ σ' S' H',SR K cls Av G S₀ ρ σ' S' H' -> aG S S' -> D.nx σ' H'
 | .bk ρ=>∀ σ' S' H',SR K cls Av G S₀ ρ σ' S' H' -> aG S S' -> D.bk σ' H'
 | .ct ρ=>∀ σ' S' H',SR K cls Av G S₀ ρ σ' S' H' -> aG S S' -> D.ct σ' H'
 | .rt ρ r=>∀ v σ' S' H',SR K cls Av G S₀ ρ σ' S' H' -> aG S S' -> kv K G S' H' r v -> D.rt v H'
 | .exc ρ c fs=>∀ a C σ' S' H',SR K cls Av G S₀ ρ σ' S' H' -> aG S S' -> mH K cls S' H' c fs a C -> W (.ref C) (some a) σ' H'
 | .bad=>False
noncomputable def JE (te:TE) (m:ae -> OE):Prop:=∀ Av G S₀ ρ σ S H Q,SR K cls Av G S₀ ρ σ S H -> j4 K cls W σ S H Q (m ρ) -> te σ H Q
noncomputable def JT (te:TT) (m:ae -> OT):Prop:=∀ Av G S₀ ρ σ S H Q,SR K cls Av G S₀ ρ σ S H -> qg K cls W σ S H Q (m ρ) -> te σ H Q
noncomputable def JA (te:TA) (m:ae -> OA):Prop:=∀ Av G S₀ ρ σ S H Q,SR K cls Av G S₀ ρ σ S H -> tB K cls W σ S H Q (m ρ) -> te σ H Q
noncomputable def JS (ts:TS) (m:ae -> OS):Prop:=∀ Av G S₀ ρ σ S H D,SR K cls Av G S₀ ρ σ S H -> gZ K cls W Av G S₀ S D (m ρ) -> ts D σ H
end
section
variable {K:PySem.W.Frag} {cls:String -> Option Addr} {W:XW} {Av G S₀ S S' H H' B B':Hp} {ρ:ae} {σ:St} {Q:VK}
theorem kv.back {r:RV} {v:V} (h:kv K B' S H r v) (g:aG B B'):kv K B S H r v:=by
 cases r with
 | sh x=>exact h
 | fr xs=>obtain ⟨p,vs,e,h1,h2⟩:=h; exact ⟨p,vs,e,g.free h1,h2⟩
 | al xs=>exact h
theorem j4.back {o:OE} {S1 H1:Hp} (w:bu S H S1 H1) (h:j4 K cls W σ S H Q o):j4 K cls W σ S1 H1 Q o:=by
 cases o with
 | ok r=>exact fun v S' H' w' r=>h v S' H' (w.trans w') (r.back w.g)
 | exc c fs=>exact fun a C S' H' w' r=>h a C S' H' (w.trans w') r
 | bad=>exact h
theorem qg.back {o:OT} {Q:Bool -> Hp -> Prop} {S1 H1:Hp} (w:bu S H S1 H1) (h:qg K cls W σ S H Q o):qg K cls W σ S1 H1 Q o:=by
 cases o with
 | ok r=>exact fun S' H' w'=>h S' H' (w.trans w')
 | exc c fs=>exact fun a C S' H' w' r=>h a C S' H' (w.trans w') r
 | bad=>exact h
theorem tB.back {o:OA} {Q:List V -> Hp -> Prop} {S1 H1:Hp} (w:bu S H S1 H1) (h:tB K cls W σ S H Q o):tB K cls W σ S1 H1 Q o:=by
 cases o with
 | ok r=>exact fun v S' H' w' r=>h v S' H' (w.trans w') r
 | exc c fs=>exact fun a C S' H' w' r=>h a C S' H' (w.trans w') r
 | bad=>exact h
theorem gZ.back {o:OS} {D:Ends} {S1:Hp} (s:aG S S1) (h:gZ K cls W Av G S₀ S D o):gZ K cls W Av G S₀ S1 D o:=by
 cases o with
 | nx ρ=>exact fun σ' S' H' I s'=>h σ' S' H' I (s.trans s')
 | bk ρ=>exact fun σ' S' H' I s'=>h σ' S' H' I (s.trans s')
 | ct ρ=>exact fun σ' S' H' I s'=>h σ' S' H' I (s.trans s')
 | rt ρ r=>exact fun v σ' S' H' I s'=>h v σ' S' H' I (s.trans s')
 | exc ρ c fs=>exact fun a C σ' S' H' I s'=>h a C σ' S' H' I (s.trans s')
 | bad=>exact h
theorem JE.go {te:TE} {m:ae -> OE} {f:RV -> OE} {Q':VK} (h:JE K cls W te m) (I:SR K cls Av G S₀ ρ σ S H) (p:j4 K cls W σ S H Q ((m ρ).bind f))
  (k:∀ r v S1 H1,SR K cls Av G S₀ ρ σ S1 H1 -> bu S H S1 H1 -> kv K H S1 H1 r v -> j4 K cls W σ S1 H1 Q (f r) -> Q' v H1):te σ H Q':=by
 refine h Av G S₀ ρ σ S H Q' I ?_
 cases e:m ρ with
 | ok r=>rw [e] at p; exact fun v S1 H1 w r1=>k r v S1 H1 (I.grow w) w r1 (p.back w)
 | exc c fs=>rw [e] at p; exact p
 | bad=>rw [e] at p; exact p
theorem JE.goT {te:TE} {m:ae -> OE} {f:RV -> OT} {Q':VK} {Q:Bool -> Hp -> Prop} (h:JE K cls W te m) (I:SR K cls Av G S₀ ρ σ S H) (p:qg K cls W σ S H Q ((m ρ).fX f))
  (k:∀ r v S1 H1,SR K cls Av G S₀ ρ σ S1 H1 -> bu S H S1 H1 -> kv K H S1 H1 r v -> qg K cls W σ S1 H1 Q (f r) -> Q' v H1):te σ H Q':=by
 refine h Av G S₀ ρ σ S H Q' I ?_
 cases e:m ρ with
 | ok r=>rw [e] at p; exact fun v S1 H1 w r1=>k r v S1 H1 (I.grow w) w r1 (p.back w)
 | exc c fs=>rw [e] at p; exact p
 | bad=>rw [e] at p; exact p
theorem JE.goS {te:TE} {m:ae -> OE} {f:RV -> OS} {Q':VK} {D:Ends} (h:JE K cls W te m) (I:SR K cls Av G S₀ ρ σ S H) (p:gZ K cls W Av G S₀ S D ((m ρ).bO ρ f))
  (k:∀ r v S1 H1,SR K cls Av G S₀ ρ σ S1 H1 -> bu S H S1 H1 -> kv K H S1 H1 r v -> gZ K cls W Av G S₀ S1 D (f r) -> Q' v H1):te σ H Q':=by
 refine h Av G S₀ ρ σ S H Q' I ?_
 cases e:m ρ with
 | ok r=>rw [e] at p; exact fun v S1 H1 w r1=>k r v S1 H1 (I.grow w) w r1 (p.back w.s)
 | exc c fs=>rw [e] at p; exact fun a C S' H' w x=>p a C σ S' H' (I.grow w) w.s x
 | bad=>rw [e] at p; exact p
theorem JT.go {te:TT} {m:ae -> OT} {f:Bool -> OE} {Q':Bool -> Hp -> Prop} (h:JT K cls W te m) (I:SR K cls Av G S₀ ρ σ S H) (p:j4 K cls W σ S H Q ((m ρ).bind f))
  (k:∀ b S1 H1,SR K cls Av G S₀ ρ σ S1 H1 -> bu S H S1 H1 -> j4 K cls W σ S1 H1 Q (f b) -> Q' b H1):te σ H Q':=by
 refine h Av G S₀ ρ σ S H Q' I ?_
 cases e:m ρ with
 | ok r=>rw [e] at p; exact fun S1 H1 w=>k r S1 H1 (I.grow w) w (p.back w)
 | exc c fs=>rw [e] at p; exact p
 | bad=>rw [e] at p; exact p
theorem JT.goT {te:TT} {m:ae -> OT} {f:Bool -> OT} {Q Q':Bool -> Hp -> Prop} (h:JT K cls W te m) (I:SR K cls Av G S₀ ρ σ S H) (p:qg K cls W σ S H Q ((m ρ).fX f))
  (k:∀ b S1 H1,SR K cls Av G S₀ ρ σ S1 H1 -> bu S H S1 H1 -> qg K cls W σ S1 H1 Q (f b) -> Q' b H1):te σ H Q':=by
 refine h Av G S₀ ρ σ S H Q' I ?_
 cases e:m ρ with
 | ok r=>rw [e] at p; exact fun S1 H1 w=>k r S1 H1 (I.grow w) w (p.back w)
 | exc c fs=>rw [e] at p; exact p
 | bad=>rw [e] at p; exact p
theorem JT.goS {te:TT} {m:ae -> OT} {f:Bool -> OS} {Q':Bool -> Hp -> Prop} {D:Ends} (h:JT K cls W te m) (I:SR K cls Av G S₀ ρ σ S H) (p:gZ K cls W Av G S₀ S D ((m ρ).bO ρ f))
  (k:∀ b S1 H1,SR K cls Av G S₀ ρ σ S1 H1 -> bu S H S1 H1 -> gZ K cls W Av G S₀ S1 D (f b) -> Q' b H1):te σ H Q':=by
 refine h Av G S₀ ρ σ S H Q' I ?_
 cases e:m ρ with
 | ok r=>rw [e] at p; exact fun S1 H1 w=>k r S1 H1 (I.grow w) w (p.back w.s)
 | exc c fs=>rw [e] at p; exact fun a C S' H' w x=>p a C σ S' H' (I.grow w) w.s x
 | bad=>rw [e] at p; exact p
theorem JA.go {te:TA} {m:ae -> OA} {f:List PV -> OE} {Q':List V -> Hp -> Prop} (h:JA K cls W te m) (I:SR K cls Av G S₀ ρ σ S H) (p:j4 K cls W σ S H Q ((m ρ).bind f))
  (k:∀ xs vs S1 H1,SR K cls Av G S₀ ρ σ S1 H1 -> bu S H S1 H1 -> bL K S1 xs vs -> j4 K cls W σ S1 H1 Q (f xs) -> Q' vs H1):te σ H Q':=by
 refine h Av G S₀ ρ σ S H Q' I ?_
 cases e:m ρ with
 | ok r=>rw [e] at p; exact fun v S1 H1 w r1=>k r v S1 H1 (I.grow w) w r1 (p.back w)
 | exc c fs=>rw [e] at p; exact p
 | bad=>rw [e] at p; exact p
theorem JA.goA {te:TA} {m:ae -> OA} {f:List PV -> OA} {Q Q':List V -> Hp -> Prop} (h:JA K cls W te m) (I:SR K cls Av G S₀ ρ σ S H) (p:tB K cls W σ S H Q ((m ρ).fH f))
  (k:∀ xs vs S1 H1,SR K cls Av G S₀ ρ σ S1 H1 -> bu S H S1 H1 -> bL K S1 xs vs -> tB K cls W σ S1 H1 Q (f xs) -> Q' vs H1):te σ H Q':=by
 refine h Av G S₀ ρ σ S H Q' I ?_
 cases e:m ρ with
 | ok r=>rw [e] at p; exact fun v S1 H1 w r1=>k r v S1 H1 (I.grow w) w r1 (p.back w)
 | exc c fs=>rw [e] at p; exact p
 | bad=>rw [e] at p; exact p
theorem JA.goS {te:TA} {m:ae -> OA} {f:List PV -> OS} {Q':List V -> Hp -> Prop} {D:Ends} (h:JA K cls W te m) (I:SR K cls Av G S₀ ρ σ S H) (p:gZ K cls W Av G S₀ S D ((m ρ).bO ρ f))
  (k:∀ xs vs S1 H1,SR K cls Av G S₀ ρ σ S1 H1 -> bu S H S1 H1 -> bL K S1 xs vs -> gZ K cls W Av G S₀ S1 D (f xs) -> Q' vs H1):te σ H Q':=by
 refine h Av G S₀ ρ σ S H Q' I ?_
 cases e:m ρ with
 | ok r=>rw [e] at p; exact fun v S1 H1 w r1=>k r v S1 H1 (I.grow w) w r1 (p.back w.s)
 | exc c fs=>rw [e] at p; exact fun a C S' H' w x=>p a C σ S' H' (I.grow w) w.s x
 | bad=>rw [e] at p; exact p
theorem af {i:Nat}:JE K cls W (rK i) (ak i):=by
 intro Av G S₀ ρ σ S H Q I p
 unfold ak at p
 split at p
 . rename_i x e
   obtain ⟨v,e1,r⟩:=I.good i _ e
   exact ⟨v,e1,p v S H (bu.refl I.sh) r⟩
 . rename_i xs e
   obtain ⟨v,e1,a,vs,e2,_,_,h3,h4⟩:=I.good i _ e
   exact ⟨v,e1,p v S H (bu.refl I.sh) ⟨a,vs,e2,SqL.new h3,h4⟩⟩
 . exact p.elim
theorem uO {x:PV} {v:V} (h:∀ S,Rep K S x v):JE K cls W (tC v) (mC x):=fun Av G S₀ ρ σ S H Q I p=>p v S H (bu.refl I.sh) (h S)
theorem ai {n:Int}:JE K cls W (tC (.int n)) (mC (.int n)):=uO fun _=>by unfold Rep; rfl
theorem xU {n:Bool}:JE K cls W (tC (.bl n)) (mC (.bl n)):=uO fun _=>by unfold Rep; rfl
theorem dD:JE K cls W (tC .non) (mC .non):=uO fun _=>by unfold Rep; rfl
theorem aO {n:Str}:JE K cls W (tC (.str n)) (mC (.str n)):=uO fun _=>by unfold Rep; rfl
theorem kW {p:Addr} {ns:List Int} (h:∀ S,SqT K S p (ns.map V.int)):JE K cls W (tC (.ref p)) (mC (.tup (ns.map .int))):=uO fun S=>by unfold Rep; exact ⟨p,_,rfl,h S,bL.ints⟩
noncomputable def JR (K:PySem.W.Frag) (r:R2) (g:PV -> PV -> Option RV):Prop:=∀ S H x y v u rr Q,aG S H -> RdV K S H x v -> RdV K S H y u -> g x y = some rr ->
 (∀ z S' H',bu S H S' H' -> kv K H S' H' rr z -> Q z H') -> r v u H Q
theorem aw {r:R2} {g:PV -> PV -> Option RV} {ta tb:TE} {ma mb:ae -> OE} (hr:JR K r g) (ha:JE K cls W ta ma) (hb:JE K cls W tb mb):JE K cls W (tOp r ta tb) (mOp g ma mb):=by
 intro Av G S₀ ρ σ S H Q I p
 refine ha.go I p fun a v S1 H1 I1 w1 r1 p1=>hb.go I1 p1 fun b u S2 H2 I2 w2 r2 p2=>?_
 cases e:g a.pv b.pv with
 | none=>rw [e] at p2; exact p2.elim
 | some rr=>
   rw [e] at p2
   exact hr S2 H2 a.pv b.pv v u rr Q I2.sh ((r1.rd I1.sh).mono w2.s w2.g) (r2.rd I2.sh) e p2
noncomputable def sv:PV -> V
 | .non=>.non
 | .bl b=>.bl b
 | .int i=>.int i
 | .str s=>.str s
 | _=>.non
theorem dO {i:Int} {v:V} (h:RdV K S H (.int i) v):v = .int i:=by unfold RdV Rep at h; exact h
theorem mO {i:Bool} {v:V} (h:RdV K S H (.bl i) v):v = .bl i:=by unfold RdV Rep at h; exact h
theorem iR {i:Str} {v:V} (h:RdV K S H (.str i) v):v = .str i:=by unfold RdV Rep at h; exact h
theorem iN {v:V} (h:RdV K S H .non v):v = .non:=by unfold RdV Rep at h; exact h
theorem iM {xs:List PV} {v:V} (h:RdV K S H (.lst xs) v):∃ p vs,v = .ref p /\ SqL K H p vs /\ bL K S xs vs:=h
theorem mB {xs:List PV} {v:V} (h:RdV K S H (.tup xs) v):∃ p vs,v = .ref p /\ SqT K S p vs /\ bL K S xs vs:=by unfold RdV Rep at h; exact h
theorem Al {C:Int -> Int -> Prop} {c:Int -> Int -> Bool} {f:Int -> Int -> PV} {fv:Int -> Int -> V} (hc:∀ i j,c i j = true -> C i j) (hf:∀ S i j,Rep K S (f i j) (fv i j)):JR K (rI C fv) (gI c f):=by
 intro S H x y v u rr Q I hx hy e k
 unfold gI at e
 split at e
 . rename_i i j
   split at e
   . rename_i hcc
     cases e
     exact ⟨i,j,dO hx,dO hy,hc i j hcc,k _ S H (bu.refl I) (hf S i j)⟩
   . cases e
 . cases e
theorem qZ {f:Int -> Int -> PV} {fv:Int -> Int -> V} (hf:∀ S i j,Rep K S (f i j) (fv i j)):JR K (rI0 fv) (gI (fun _ _=>true) f):=by
 intro S H x y v u rr Q I hx hy e k
 unfold gI at e
 split at e
 . rename_i i j
   simp only [if_true] at e
   cases e
   exact ⟨i,j,dO hx,dO hy,k _ S H (bu.refl I) (hf S i j)⟩
 . cases e
theorem fk:JR K (rI0 fun i j=>.int (i + j)) gb:=qZ fun _ _ _=>by unfold Rep; rfl
theorem mx:JR K (rI0 fun i j=>.int (i - j)) rE:=qZ fun _ _ _=>by unfold Rep; rfl
theorem n9:JR K (rI BC fun i j=>.int (i * j)) uT:=Al (fun i j h=>by simpa [BC,Bool.or_eq_true,Bool.and_eq_true,decide_eq_true_eq] using h) fun _ _ _=>by unfold Rep; rfl
theorem gj:JR K (rI Gh fun i j=>.int (i / j)) gU:=Al (fun i j h=>by simpa [Gh,Bool.and_eq_true,decide_eq_true_eq] using h) fun _ _ _=>by unfold Rep; rfl
theorem eD:JR K (rI (fun _ j=>0 < j) fun i j=>.int (i % j)) d9:=Al (fun i j h=>by simpa using h) fun _ _ _=>by unfold Rep; rfl
theorem lu:JR K (rI0 fun i j=>.bl (decide (i < j))) gLt:=qZ fun _ _ _=>by unfold Rep; rfl
theorem ku:JR K (rI0 fun i j=>.bl (decide (i <= j))) gLe:=qZ fun _ _ _=>by unfold Rep; rfl
theorem Hk:JR K (rI0 fun i j=>.bl (decide (j <= i))) gGe:=qZ fun _ _ _=>by unfold Rep; rfl
theorem A6 {x y:PV} {v u:V} {b:Bool} (hx:RdV K S H x v) (hy:RdV K S H y u) (e:eqS x y = some b):Fj v u = true /\ decide (v = u) = b:=by
 unfold eqS at e
 split at e
 all_goals first
  | (have h1:=iN hx; subst h1; have h2:=iN hy; subst h2; cases e; exact ⟨rfl,by simp⟩)
  | (have h1:=iN hx; subst h1; have h2:=dO hy; subst h2; cases e; exact ⟨rfl,by simp⟩)
  | (have h1:=dO hx; subst h1; have h2:=iN hy; subst h2; cases e; exact ⟨rfl,by simp⟩)
  | (have h1:=iN hx; subst h1; have h2:=mO hy; subst h2; cases e; exact ⟨rfl,by simp⟩)
  | (have h1:=mO hx; subst h1; have h2:=iN hy; subst h2; cases e; exact ⟨rfl,by simp⟩)
  | (have h1:=iN hx; subst h1; have h2:=iR hy; subst h2; cases e; exact ⟨rfl,by simp⟩)
  | (have h1:=iR hx; subst h1; have h2:=iN hy; subst h2; cases e; exact ⟨rfl,by simp⟩)
  | (have h1:=dO hx; subst h1; have h2:=dO hy; subst h2; cases e; exact ⟨rfl,by simp⟩)
  | (have h1:=mO hx; subst h1; have h2:=mO hy; subst h2; cases e; exact ⟨rfl,by simp⟩)
  | (have h1:=iR hx; subst h1; have h2:=iR hy; subst h2; cases e; exact ⟨rfl,by simp⟩)
  | (have h1:=dO hx; subst h1; have h2:=iR hy; subst h2; cases e; exact ⟨rfl,by simp⟩)
  | (have h1:=iR hx; subst h1; have h2:=dO hy; subst h2; cases e; exact ⟨rfl,by simp⟩)
  | (have h1:=mO hx; subst h1; have h2:=iR hy; subst h2; cases e; exact ⟨rfl,by simp⟩)
  | (have h1:=iR hx; subst h1; have h2:=mO hy; subst h2; cases e; exact ⟨rfl,by simp⟩)
  | cases e
theorem cf:JR K rEq gEq:=by
 intro S H x y v u rr Q I hx hy e k
 obtain ⟨b,e1,e2⟩:=Option.map_eq_some_iff.mp e
 obtain ⟨h1,h2⟩:=A6 hx hy e1
 refine ⟨h1,k _ S H (bu.refl I) ?_⟩
 subst e2
 show Rep K S _ _
 unfold Rep; rw [h2]
theorem vp:JR K rNe gNe:=by
 intro S H x y v u rr Q I hx hy e k
 obtain ⟨b,e1,e2⟩:=Option.map_eq_some_iff.mp e
 obtain ⟨h1,h2⟩:=A6 hx hy e1
 refine ⟨h1,k _ S H (bu.refl I) ?_⟩
 subst e2
 show Rep K S _ _
 unfold Rep; rw [h2]
end
end L2.P
namespace L2.P
open PySem PySem.Spec PyProof.Rows L2 L2.E
section
variable {K:PySem.W.Frag} {cls:String -> Option Addr} {W:XW} {Av G S₀ S S' H H' B B':Hp} {ρ:ae} {σ:St} {Q:VK}
theorem kv.share {S1 H1:Hp} {r:RV} {v:V} {x:PV} (h:kv K H S1 H1 r v) (w:bu S H S1 H1) (e:kn r = some x):∃ S2,bu S H S2 H1 /\ aG S1 S2 /\ Rep K S2 x v:=by
 cases r with
 | sh y=>cases e; exact ⟨S1,w,aG.refl _,h⟩
 | al xs=>cases e
 | fr xs=>
   cases e
   obtain ⟨p,vs,rfl,hB,hS,hH,hr⟩:=h
   refine ⟨upd S1 p (.lst vs),⟨w.s.trans (aG.new hS),w.g,fun b u z=>?_,fun b z=>?_⟩,aG.new hS,?_⟩
   . by_cases e:b = p
     . subst e; rw [bg] at z; cases z; exact hH
     . rw [aY e] at z; exact w.sh b u z
   . by_cases e:b = p
     . subst e; exact .inr hB
     . rw [aY e] at z; exact w.new b z
   . unfold Rep
     exact ⟨p,vs,rfl,SqL.new bg,hr.mono (aG.new hS)⟩
theorem ax:JA K cls W kN aE:=fun Av G S₀ ρ σ S H Q I p=>p [] S H (bu.refl I.sh) .nil
theorem ag {te:TE} {t:TA} {me:ae -> OE} {mr:ae -> OA} (he:JE K cls W te me) (ht:JA K cls W t mr):JA K cls W (js te t) (ah me mr):=by
 intro Av G S₀ ρ σ S H Q I p
 refine he Av G S₀ ρ σ S H _ I ?_
 unfold ah at p
 cases e:me ρ with
 | exc c fs=>rw [e] at p; exact p
 | bad=>rw [e] at p; exact p
 | ok r=>
   rw [e] at p
   intro v S1 H1 w1 r1
   simp only [OE.fH] at p
   cases es:kn r with
   | none=>rw [es] at p; exact p.elim
   | some x=>
     rw [es] at p
     obtain ⟨S2,w2,s2,rx⟩:=r1.share w1 es
     refine ht.goA (I.grow w2) (p.back w2) fun xs vs S3 H3 I3 w3 r3 p3=>?_
     exact p3 (v ::vs) S3 H3 (bu.refl I3.sh) (.cons (Rep.mono w3.s rx) r3)
theorem xp:lim = sizeLine:=by decide
theorem br {t:TA} {ma:ae -> OA} (h:JA K cls W t ma):JE K cls W (Fs t) (cu ma):=by
 intro Av G S₀ ρ σ S H Q I p
 refine h.go I p fun xs vs S1 H1 I1 w1 r1 p1=>?_
 split at p1
 . rename_i hl
   refine ⟨by rw [r1.length]; exact hl,fun q hq=>p1 (.ref q) S1 _ (bu.heap I1.sh hq) ⟨q,vs,rfl,hq,I1.sh.free hq,bg,r1⟩⟩
 . exact p1.elim
theorem cT {t:TA} {ma:ae -> OA} (h:JA K cls W t ma):JE K cls W (FQ t) (gA ma):=by
 intro Av G S₀ ρ σ S H Q I p
 refine h.go I p fun xs vs S1 H1 I1 w1 r1 p1=>?_
 split at p1
 . rename_i hl
   refine ⟨by rw [r1.length]; exact hl,fun q hq=>p1 (.ref q) _ _ (bu.both I1.sh hq) ?_⟩
   show Rep K _ _ _
   unfold Rep
   exact ⟨q,vs,rfl,SqT.new bg,r1.mono (bu.both (o:=.tup vs) I1.sh hq).s⟩
 . exact p1.elim
noncomputable def Hd (K:PySem.W.Frag) (cls:String -> Option Addr) (S H:Hp) (Q:VK) (E:XK):OE -> Prop
 | .ok r=>∀ v S' H',bu S H S' H' -> kv K H S' H' r v -> Q v H'
 | .exc c fs=>∀ a C S' H',bu S H S' H' -> mH K cls S' H' c fs a C -> E (.ref C) (some a) H'
 | .bad=>False
noncomputable def spP (K:PySem.W.Frag) (cls:String -> Option Addr) (f:List PV -> OE):Sp:=fun vs H Q E=>∃ S xs,aG S H /\ bL K S xs vs /\ Hd K cls S H Q E (f xs)
theorem aL {t:TA} {ma:ae -> OA} {f:List PV -> OE} (h:JA K cls W t ma):JE K cls W (qJ (spP K cls f) [] W t) (aX f ma):=by
 intro Av G S₀ ρ σ S H Q I p
 refine h.go I p fun xs vs S1 H1 I1 w1 r1 p1=>?_
 show spP K cls f (vs ++ []) H1 Q _
 rw [List.append_nil]
 refine ⟨S1,xs,I1.sh,r1,?_⟩
 cases e:f xs with
 | ok r=>rw [e] at p1; exact p1
 | exc c fs=>rw [e] at p1; exact p1
 | bad=>rw [e] at p1; exact p1
noncomputable def JU (K:PySem.W.Frag) (r:List V -> Hp -> VK -> Prop) (g:PV -> Option RV):Prop:=∀ S H x v rr Q,aG S H -> RdV K S H x v -> g x = some rr ->
 (∀ z S' H',bu S H S' H' -> kv K H S' H' rr z -> Q z H') -> r [v] H Q
theorem fB {r:List V -> Hp -> VK -> Prop} {g:PV -> Option RV} {ta:TE} {ma:ae -> OE} (hr:JU K r g) (ha:JE K cls W ta ma):JE K cls W (tCB r (js ta kN)) (mUn g ma):=by
 intro Av G S₀ ρ σ S H Q I p
 refine ha.go I p fun a v S1 H1 I1 w1 r1 p1=>?_
 show r [v] H1 Q
 cases e:g a.pv with
 | none=>rw [e] at p1; exact p1.elim
 | some rr=>rw [e] at p1; exact hr S1 H1 a.pv v rr Q I1.sh (r1.rd I1.sh) e p1
theorem sY {r:V -> Hp -> VK -> Prop} {g:PV -> Option RV} {ta:TE} {ma:ae -> OE} (hr:JU K (fun vs H Q=>∃ v,vs = [v] /\ r v H Q) g) (ha:JE K cls W ta ma):JE K cls W (tUn r ta) (mUn g ma):=by
 intro Av G S₀ ρ σ S H Q I p
 refine ha.go I p fun a v S1 H1 I1 w1 r1 p1=>?_
 cases e:g a.pv with
 | none=>rw [e] at p1; exact p1.elim
 | some rr=>
   rw [e] at p1
   obtain ⟨u,e1,h⟩:=hr S1 H1 a.pv v rr Q I1.sh (r1.rd I1.sh) e p1
   cases e1
   exact h
theorem pq:JU K (fun vs H Q=>∃ v,vs = [v] /\ rU (fun i=>.int (-i)) v H Q) pV:=by
 intro S H x v rr Q I hx e k
 cases x with
 | int i=>cases e; exact ⟨v,rfl,i,dO hx,k _ S H (bu.refl I) (by show Rep K S _ _; unfold Rep; rfl)⟩
 | _=>cases e
theorem iy:JU K (fun xs H Q=>∃ p ys,xs = [.ref p] /\ (SqL K H p ys \/ SqT K H p ys) /\ Q (.int ys.length) H) kM:=by
 intro S H x v rr Q I hx e k
 cases x with
 | lst xs=>
   cases e
   obtain ⟨p,vs,rfl,hq,r⟩:=iM hx
   exact ⟨p,vs,rfl,.inl hq,k _ S H (bu.refl I) (by show Rep K S _ _; unfold Rep; rw [r.length])⟩
 | tup xs=>
   cases e
   obtain ⟨p,vs,rfl,hq,r⟩:=mB hx
   exact ⟨p,vs,rfl,.inr (aG.tup I hq),k _ S H (bu.refl I) (by show Rep K S _ _; unfold Rep; rw [r.length])⟩
 | _=>cases e
theorem EA {α:Type} (xs:List α) (i:Int):atP xs i = L2.atI xs i:=rfl
theorem bL.atI {xs:List PV} {vs:List V} {i:Int} {x:PV} (h:bL K S xs vs) (e:atP xs i = some x):∃ v,L2.atI vs i = some v /\ Rep K S x v:=by
 rw [EA] at e
 unfold L2.atI at e ⊢
 rw [h.length]
 cases q:ixN xs.length i with
 | none=>rw [q] at e; cases e
 | some j=>rw [q] at e; exact h.get e
theorem fT:JR K (GI K) jB:=by
 intro S H x y v u rr Q I hx hy e k
 unfold jB at e
 split at e
 . rename_i xs i
   obtain ⟨z,e1,e2⟩:=Option.map_eq_some_iff.mp e
   obtain ⟨p,vs,rfl,hq,r⟩:=iM hx
   obtain ⟨w,e3,rw'⟩:=r.atI e1
   subst e2
   exact ⟨p,vs,i,w,rfl,dO hy,hq,e3,k _ S H (bu.refl I) rw'⟩
 . cases e
theorem eX:JR K (GQ K) iD:=by
 intro S H x y v u rr Q I hx hy e k
 unfold iD at e
 split at e
 . rename_i xs i
   obtain ⟨z,e1,e2⟩:=Option.map_eq_some_iff.mp e
   obtain ⟨p,vs,rfl,hq,r⟩:=mB hx
   obtain ⟨w,e3,rw'⟩:=r.atI e1
   subst e2
   exact ⟨p,vs,i,w,rfl,dO hy,aG.tup I hq,e3,k _ S H (bu.refl I) rw'⟩
 . cases e
end
end L2.P
namespace L2.P
open PySem PySem.Spec PyProof.Rows L2 L2.E
section
variable {K:PySem.W.Frag} {cls:String -> Option Addr} {W:XW} {Av G S₀ S S' H H' B B':Hp} {ρ:ae} {σ:St} {Q:VK}
theorem ic:JR K (DE K) iC:=by
 intro S H x y v u rr Q I hx hy e k
 unfold iC at e
 split at e
 . rename_i xs ys
   split at e
   . rename_i hl
     cases e
     obtain ⟨p,vs,rfl,hq,r⟩:=iM hx
     obtain ⟨p2,vs2,rfl,hq2,r2⟩:=iM hy
     exact ⟨p,p2,vs,vs2,rfl,rfl,hq,hq2,by rw [r.length,r2.length]; exact hl,fun l hn=>k _ S _ (bu.heap I hn) ⟨l,_,rfl,hn,I.free hn,bg,r.append r2⟩⟩
   . cases e
 . cases e
theorem wW {xs:List PV} {vs:List V} {bs:List Bool} (h:oy xs = some bs) (r:bL K S xs vs):vs = bs.map V.bl:=by
 induction xs generalizing bs vs with
 | nil=>cases h; exact r.nil_inv
 | cons x xs ih=>
   cases x with
   | bl i=>
     obtain ⟨ms,e1,e2⟩:=Option.map_eq_some_iff.mp h
     subst e2
     obtain ⟨v,t,rfl,h1,h2⟩:=r.cons_inv
     unfold Rep at h1
     rw [ih e1 h2,h1]; rfl
   | _=>cases h
theorem En {A:Around} (hh:A.handled = none):JU K (fun xs H Q=>∃ (p:Addr) (bs:List Bool),xs = [.ref p] /\ SqL K H p (bs.map V.bl) /\ A.handled = none /\ Q (.bl (bs.all id)) H) BU:=by
 intro S H x v rr Q I hx e k
 cases x with
 | lst xs=>
   obtain ⟨bs,e1,e2⟩:=Option.map_eq_some_iff.mp e
   obtain ⟨p,vs,rfl,hq,r⟩:=iM hx
   rw [wW e1 r] at hq
   subst e2
   exact ⟨p,bs,rfl,hq,hh,k _ S H (bu.refl I) (by show Rep K S _ _; unfold Rep; rfl)⟩
 | _=>cases e
theorem Ei {T:String} {x:PV} {v:V} {b:Bool} (s:aG S H) (hx:RdV K S H x v) (e:isP T x = some b):IsV K T v H b:=by
 cases x with
 | int i=>
   have:=dO hx; subst this
   simp only [isP] at e
   split at e
   . cases e; exact .inl ⟨by assumption,rfl⟩
   . split at e
     . rename_i h; cases e; rcases h with h | h | h | h
       . exact .inr (.inl ⟨h,rfl⟩)
       . exact .inr (.inr (.inl ⟨h,rfl⟩))
       . exact .inr (.inr (.inr (.inl ⟨h,rfl⟩)))
       . exact .inr (.inr (.inr (.inr ⟨h,rfl⟩)))
     . cases e
 | bl i=>
   have:=mO hx; subst this
   simp only [isP] at e
   split at e
   . rename_i h; cases e; rcases h with h | h
     . exact .inl ⟨h,rfl⟩
     . exact .inr (.inl ⟨h,rfl⟩)
   . split at e
     . rename_i h; cases e; rcases h with h | h | h
       . exact .inr (.inr (.inl ⟨h,rfl⟩))
       . exact .inr (.inr (.inr (.inl ⟨h,rfl⟩)))
       . exact .inr (.inr (.inr (.inr ⟨h,rfl⟩)))
     . cases e
 | non=>
   have:=iN hx; subst this
   simp only [isP] at e
   split at e
   . rename_i h; cases e; rcases h with h | h | h | h | h
     . exact .inl ⟨h,rfl⟩
     . exact .inr (.inl ⟨h,rfl⟩)
     . exact .inr (.inr (.inl ⟨h,rfl⟩))
     . exact .inr (.inr (.inr (.inl ⟨h,rfl⟩)))
     . exact .inr (.inr (.inr (.inr ⟨h,rfl⟩)))
   . cases e
 | str i=>
   have:=iR hx; subst this
   simp only [isP] at e
   split at e
   . cases e; exact .inr (.inr (.inr (.inr ⟨by assumption,rfl⟩)))
   . split at e
     . rename_i h; cases e; rcases h with h | h | h | h
       . exact .inl ⟨h,rfl⟩
       . exact .inr (.inl ⟨h,rfl⟩)
       . exact .inr (.inr (.inl ⟨h,rfl⟩))
       . exact .inr (.inr (.inr (.inl ⟨h,rfl⟩)))
     . cases e
 | lst xs=>
   obtain ⟨p,vs,rfl,hq,r⟩:=iM hx
   refine .inl ⟨⟨vs,hq⟩,?_⟩
   simp only [isP] at e
   split at e
   . cases e; exact .inr (.inr (.inl ⟨by assumption,rfl⟩))
   . split at e
     . rename_i h; cases e; rcases h with h | h | h | h
       . exact .inl ⟨h,rfl⟩
       . exact .inr (.inl ⟨h,rfl⟩)
       . exact .inr (.inr (.inr (.inl ⟨h,rfl⟩)))
       . exact .inr (.inr (.inr (.inr ⟨h,rfl⟩)))
     . cases e
 | tup xs=>
   obtain ⟨p,vs,rfl,hq,r⟩:=mB hx
   refine .inr ⟨⟨vs,aG.tup s hq⟩,?_⟩
   simp only [isP] at e
   split at e
   . cases e; exact .inr (.inr (.inr (.inl ⟨by assumption,rfl⟩)))
   . split at e
     . rename_i h; cases e; rcases h with h | h | h | h
       . exact .inl ⟨h,rfl⟩
       . exact .inr (.inl ⟨h,rfl⟩)
       . exact .inr (.inr (.inl ⟨h,rfl⟩))
       . exact .inr (.inr (.inr (.inr ⟨h,rfl⟩)))
     . cases e
theorem tX {T:String} {ta:TE} {ma:ae -> OE} (ha:JE K cls W ta ma):
  JE K cls W (tCB (fun xs H Q=>∃ x T b,xs = [x,.ty T] /\ IsV K T x H b /\ Q (.bl b) H) (js ta (js (tC (.ty T)) kN))) (mIs T ma):=by
 intro Av G S₀ ρ σ S H Q I p
 refine ha.go I p fun a v S1 H1 I1 w1 r1 p1=>?_
 show ∃ x T' b,[v,V.ty T] = [x,V.ty T'] /\ _
 dsimp only at p1
 cases e:isP T a.pv with
 | none=>rw [e] at p1; exact p1.elim
 | some b=>
   rw [e] at p1
   exact ⟨v,T,b,rfl,Ei I1.sh (r1.rd I1.sh) e,p1 _ S1 H1 (bu.refl I1.sh) (by show Rep K S1 _ _; unfold Rep; rfl)⟩
end
end L2.P
namespace L2.P
open PySem PySem.Spec PyProof.Rows L2 L2.E
section
variable {K:PySem.W.Frag} {cls:String -> Option Addr} {W:XW} {Av G S₀ S S' H H' B B':Hp} {ρ:ae} {σ:St} {Q:VK}
theorem pd {xs:List PV} {vs:List V} (h:bL K S xs vs):vs.isEmpty = xs.isEmpty:=by
 cases xs with
 | nil=>rw [h.nil_inv]; rfl
 | cons x xs=>obtain ⟨v,r,rfl,_⟩:=h.cons_inv; rfl
theorem x5 {x:PV} {v:V} {b:Bool} (s:aG S H) (hx:RdV K S H x v) (e:qV x = some b):wM K v H b:=by
 cases x with
 | non=>have:=iN hx; subst this; cases e; rfl
 | bl c=>have:=mO hx; subst this; cases e; rfl
 | int i=>have:=dO hx; subst this; cases e; rfl
 | str z=>cases e
 | lst xs=>
   obtain ⟨p,vs,rfl,hq,r⟩:=iM hx
   cases e
   exact .inl ⟨vs,hq,by rw [pd r]⟩
 | tup xs=>
   obtain ⟨p,vs,rfl,hq,r⟩:=mB hx
   cases e
   exact .inr (.inl ⟨vs,aG.tup s hq,by rw [pd r]⟩)
theorem dP {ta:TE} {ma:ae -> OE} (ha:JE K cls W ta ma):JT K cls W (fun σ H Q=>ta σ H fun x H'=>∃ k,wM K x H' k /\ Q k H') (d7 ma):=by
 intro Av G S₀ ρ σ S H Q I p
 refine ha.goT I p fun r v S1 H1 I1 w1 r1 p1=>?_
 cases e:qV r.pv with
 | none=>rw [e] at p1; exact p1.elim
 | some b=>rw [e] at p1; exact ⟨b,x5 I1.sh (r1.rd I1.sh) e,p1 S1 H1 (bu.refl I1.sh)⟩
theorem uJ {r:RV} {b:Bool} {v:V} {S1 H1:Hp} (h:r.pv = .bl b) (r1:kv K H S1 H1 r v) (s:aG S1 H1):v = .bl b:=by
 have:=r1.rd s
 rw [h] at this
 exact mO this
theorem az {ta:TE} {ma:ae -> OE} (ha:JE K cls W ta ma):JT K cls W (u6 ta) (aP ma):=by
 intro Av G S₀ ρ σ S H Q I p
 refine ha.goT I p fun r v S1 H1 I1 w1 r1 p1=>?_
 cases e:r.pv with
 | bl b=>rw [e] at p1; exact ⟨b,uJ e r1 I1.sh,p1 S1 H1 (bu.refl I1.sh)⟩
 | _=>rw [e] at p1; exact p1.elim
theorem Aj {ta:TT} {ma:ae -> OT} (ha:JT K cls W ta ma):JT K cls W (B9 ta) (x8 ma):=by
 intro Av G S₀ ρ σ S H Q I p
 exact ha.goT I p fun b S1 H1 I1 w1 p1=>p1 S1 H1 (bu.refl I1.sh)
theorem n5 {ta tb:TT} {ma mb:ae -> OT} (ha:JT K cls W ta ma) (hb:JT K cls W tb mb):JT K cls W (E4 ta tb) (oG ma mb):=by
 intro Av G S₀ ρ σ S H Q I p
 refine ha.goT I p fun b S1 H1 I1 w1 p1=>?_
 cases b with
 | true=>exact uW (hb Av G S₀ ρ σ S1 H1 Q I1 p1)
 | false=>exact uj (p1 S1 H1 (bu.refl I1.sh))
theorem A0 {ta tb:TT} {ma mb:ae -> OT} (ha:JT K cls W ta ma) (hb:JT K cls W tb mb):JT K cls W (tOr ta tb) (Az ma mb):=by
 intro Av G S₀ ρ σ S H Q I p
 refine ha.goT I p fun b S1 H1 I1 w1 p1=>?_
 cases b with
 | false=>exact uj (hb Av G S₀ ρ σ S1 H1 Q I1 p1)
 | true=>exact uW (p1 S1 H1 (bu.refl I1.sh))
theorem kR {b:Bool}:kv K B S H (.sh (.bl b)) (.bl b):=by show Rep K S _ _; unfold Rep; rfl
theorem pA {ta tb:TE} {ma mb:ae -> OE} (ha:JE K cls W ta ma) (hb:JE K cls W tb mb):JE K cls W (AG ta tb) (qa ma mb):=by
 intro Av G S₀ ρ σ S H Q I p
 refine ha.go I p fun r v S1 H1 I1 w1 r1 p1=>?_
 cases e:r.pv with
 | bl b=>
   rw [e] at p1
   refine ⟨b,uJ e r1 I1.sh,?_⟩
   cases b with
   | true=>exact uW (hb Av G S₀ ρ σ S1 H1 Q I1 p1)
   | false=>exact uj (p1 _ S1 H1 (bu.refl I1.sh) kR)
 | _=>rw [e] at p1; exact p1.elim
theorem EW {ta:TE} {ma:ae -> OE} (ha:JE K cls W ta ma):JE K cls W (AQ ta) (Bg ma):=by
 intro Av G S₀ ρ σ S H Q I p
 refine ha.go I p fun r v S1 H1 I1 w1 r1 p1=>?_
 cases e:r.pv with
 | bl b=>rw [e] at p1; exact ⟨b,uJ e r1 I1.sh,p1 _ S1 H1 (bu.refl I1.sh) kR⟩
 | _=>rw [e] at p1; exact p1.elim
theorem iO {tc:TT} {ta tb:TE} {mc:ae -> OT} {ma mb:ae -> OE} (hc:JT K cls W tc mc) (ha:JE K cls W ta ma) (hb:JE K cls W tb mb):JE K cls W (tIf tc ta tb) (jz mc ma mb):=by
 intro Av G S₀ ρ σ S H Q I p
 refine hc.go I p fun b S1 H1 I1 w1 p1=>?_
 cases b with
 | true=>exact uW (ha Av G S₀ ρ σ S1 H1 Q I1 p1)
 | false=>exact uj (hb Av G S₀ ρ σ S1 H1 Q I1 p1)
theorem jd {r r':R2} {g g':PV -> PV -> Option RV} {ta tb tc:TE} {ma mb mc:ae -> OE} (hr:JR K r g) (hr':JR K r' g') (ha:JE K cls W ta ma) (hb:JE K cls W tb mb) (hc:JE K cls W tc mc):
  JE K cls W (qL r r' ta tb tc) (kl g g' ma mb mc):=by
 intro Av G S₀ ρ σ S H Q I p
 refine ha.go I p fun a v S1 H1 I1 w1 r1 p1=>hb.go I1 p1 fun b u S2 H2 I2 w2 r2 p2=>?_
 cases e:g a.pv b.pv with
 | none=>rw [e] at p2; exact p2.elim
 | some rr=>
   rw [e] at p2
   refine hr S2 H2 a.pv b.pv v u rr _ I2.sh ((r1.rd I1.sh).mono w2.s w2.g) (r2.rd I2.sh) e fun z S3 H3 w3 r3=>?_
   have I3:=I2.grow w3
   simp only [oE,OE.bind] at p2
   cases e3:rr.pv with
   | bl k=>
     rw [e3] at p2
     have hz:=uJ e3 r3 I3.sh
     refine ⟨k,hz,?_⟩
     cases k with
     | false=>exact uj (p2 _ S3 H3 w3 kR)
     | true=>
       refine uW (hc.go I3 (p2.back w3) fun c y S4 H4 I4 w4 r4 p4=>?_)
       cases e4:g' b.pv c.pv with
       | none=>rw [e4] at p4; exact p4.elim
       | some r'=>rw [e4] at p4; exact hr' S4 H4 b.pv c.pv u y r' Q I4.sh (((r2.rd I2.sh).mono w3.s w3.g).mono w4.s w4.g) (r4.rd I4.sh) e4 p4
   | _=>rw [e3] at p2; exact p2.elim
theorem ay {ta tb:TS} {ma mb:ae -> OS} (ha:JS K cls W ta ma) (hb:JS K cls W tb mb):JS K cls W (E9 ta tb) (aR ma mb):=by
 intro Av G S₀ ρ σ S H D I p
 refine ha Av G S₀ ρ σ S H _ I ?_
 unfold aR at p
 cases e:ma ρ with
 | nx ρ'=>rw [e] at p; exact fun σ' S' H' I' s'=>hb Av G S₀ ρ' σ' S' H' D I' (p.back s')
 | bk ρ'=>rw [e] at p; exact p
 | ct ρ'=>rw [e] at p; exact p
 | rt ρ' r=>rw [e] at p; exact p
 | exc ρ' c fs=>rw [e] at p; exact p
 | bad=>rw [e] at p; exact p
theorem aK:JS K cls W AX bc:=fun Av G S₀ ρ σ S H D I p=>p σ S H I (aG.refl _)
theorem bf {i:Nat} {te:TE} {me:ae -> OE} (he:JE K cls W te me):JS K cls W (sk te (kh i)) (bN i me):=by
 intro Av G S₀ ρ σ S H D I p
 refine he.goS I p fun r v S1 H1 I1 w1 r1 p1=>?_
 show D.nx (σ.set i (some v)) H1
 cases r with
 | sh x=>exact p1 _ S1 H1 (I1.vx r1) (aG.refl _)
 | fr xs=>exact p1 _ S1 H1 (I.Hj w1 r1) (aG.refl _)
 | al xs=>exact p1.elim
theorem bp {tc:TT} {ta tb:TS} {mc:ae -> OT} {ma mb:ae -> OS} (hc:JT K cls W tc mc) (ha:JS K cls W ta ma) (hb:JS K cls W tb mb):JS K cls W (CH tc ta tb) (bR mc ma mb):=by
 intro Av G S₀ ρ σ S H D I p
 refine hc.goS I p fun b S1 H1 I1 w1 p1=>?_
 cases b with
 | true=>exact uW (ha Av G S₀ ρ σ S1 H1 D I1 p1)
 | false=>exact uj (hb Av G S₀ ρ σ S1 H1 D I1 p1)
theorem aD {te:TE} {me:ae -> OE} (he:JE K cls W te me):JS K cls W (Cw te) (bt me):=by
 intro Av G S₀ ρ σ S H D I p
 refine he.goS I p fun r v S1 H1 I1 w1 r1 p1=>?_
 cases r with
 | sh x=>exact p1 v σ S1 H1 I1 (aG.refl _) r1
 | fr xs=>exact p1 v σ S1 H1 I1 (aG.refl _) (r1.back I.gh)
 | al xs=>exact p1.elim
theorem jF {i:Nat}:JS K cls W (Cw (rK i)) (jC i):=by
 intro Av G S₀ ρ σ S H D I p
 unfold jC at p
 split at p
 . rename_i x e
   obtain ⟨v,e1,r⟩:=I.good i _ e
   exact ⟨v,e1,p v σ S H I (aG.refl _) r⟩
 . rename_i xs e
   obtain ⟨v,e1,a,vs,e2,h1,h2,h3,h4⟩:=I.good i _ e
   exact ⟨v,e1,p v σ S H I.drop (aG.refl _) ⟨a,vs,e2,h1,h2,h3,h4⟩⟩
 . exact p.elim
theorem yC {te:TE} {me:ae -> OE} (he:JE K cls W te me):JS K cls W (sA te) (yc me):=by
 intro Av G S₀ ρ σ S H D I p
 exact he.goS I p fun r v S1 H1 I1 w1 r1 p1=>p1 σ S1 H1 I1 (aG.refl _)
theorem fZ {i:Nat} {ts:TS} {m:ae -> OS} (h:JS K cls W ts m):JS K cls W ts (gi i m):=by
 intro Av G S₀ ρ σ S H D I p
 unfold gi jy at p
 split at p
 . rename_i xs e
   obtain ⟨S',s,J⟩:=I.GH e
   exact h Av G S₀ _ σ S' H D J (p.back s)
 . exact h Av G S₀ ρ σ S H D I p
theorem iz {i:Nat} {te:TE} {me:ae -> OE} (he:JE K cls W te me):JS K cls W (sA (tBM K "list" uR (rK i) (js te kN))) (ef i me):=by
 intro Av G S₀ ρ σ S H D I p
 unfold ef at p
 split at p
 . rename_i xs e
   obtain ⟨v,e1,a,vs,rfl,h1,h2,h3,h4⟩:=I.good i _ e
   refine ⟨_,e1,.inl ⟨rfl,_,SqL.new h3⟩,?_⟩
   refine he Av G S₀ ρ σ S H _ I ?_
   cases em:me ρ with
   | exc c fs=>rw [em] at p; exact fun a C S' H' w x=>p a C σ S' H' (I.grow w) w.s x
   | bad=>rw [em] at p; exact p
   | ok r=>
     rw [em] at p
     intro u S1 H1 w1 r1
     simp only [OE.bO] at p
     cases es:kn r with
     | none=>rw [es] at p; exact p.elim
     | some y=>
       rw [es] at p
       dsimp only at p
       split at p
       . rename_i hl
         obtain ⟨S2,w2,s2,rx⟩:=r1.share w1 es
         have I2:=I.grow w2
         refine ⟨a,vs,u,rfl,rfl,w2.g _ _ h3,by rw [h4.length]; exact hl,?_⟩
         exact p σ S2 _ (I2.mut e e1 ((h4.mono w2.s).append (.cons rx .nil))) w2.s
       . exact p.elim
 . exact p.elim
theorem sV {i:Nat} {tb:TS} {mb:ae -> OS} {D:Ends} {x:PV} {xs:List PV} {v:V} {N:St -> Hp -> Prop} (hb:JS K cls W tb mb) (I:SR K cls Av G S₀ ρ σ S H) (hx:Rep K S x v)
  (p:gZ K cls W Av G S₀ S D (iP i mb (x ::xs) ρ)) (hN:∀ ρ' σ' S' H',SR K cls Av G S₀ ρ' σ' S' H' -> aG S S' -> gZ K cls W Av G S₀ S' D (iP i mb xs ρ') -> N σ' H'):
  kh i v σ H fun σ2 H2=>tb { D with nx:=N,ct:=N,bk:=D.nx } σ2 H2:=by
 refine hb Av G S₀ _ _ S H _ (I.vx hx) ?_
 rw [jP] at p
 cases e:mb (ρ.set i (some (.sh x))) with
 | nx ρ'=>rw [e] at p; exact fun σ' S' H' I' s'=>hN ρ' σ' S' H' I' s' (p.back s')
 | ct ρ'=>rw [e] at p; exact fun σ' S' H' I' s'=>hN ρ' σ' S' H' I' s' (p.back s')
 | bk ρ'=>rw [e] at p; exact p
 | rt ρ' r=>rw [e] at p; exact p
 | exc ρ' c fs=>rw [e] at p; exact p
 | bad=>rw [e] at p; exact p
theorem uB {i:Nat} {tl:TE} {tb:TS} {ml:ae -> OE} {mb:ae -> OS} (hl:JE K cls W tl ml) (hb:JS K cls W tb mb):JS K cls W (Ap (v8 K tl) (kh i) tb) (qe i ml mb):=by
 intro Av G S₀ ρ σ S H D I p
 refine hl Av G S₀ ρ σ S H _ I ?_
 unfold qe at p
 cases em:ml ρ with
 | exc c fs=>rw [em] at p; exact fun a C S' H' w x=>p a C σ S' H' (I.grow w) w.s x
 | bad=>rw [em] at p; exact p
 | ok r=>
   rw [em] at p
   intro v S1 H1 w1 r1
   simp only [OE.bO] at p
   cases ei:wU r with
   | none=>rw [ei] at p; exact p.elim
   | some xs=>
     rw [ei] at p
     have es:kn r = some (.lst xs):=by
      cases r with
      | sh y=>cases y <;> cases ei <;> rfl
      | fr ys=>cases ei; rfl
      | al ys=>cases ei
     obtain ⟨S2,w2,s2,rx⟩:=r1.share w1 es
     have I2:=I.grow w2
     unfold Rep at rx
     obtain ⟨a,vs,rfl,hq,hr⟩:=rx
     refine ⟨a,rfl,⟨vs,aG.seq I2.sh hq⟩,?_⟩
     refine AW (xs:=vs) (fun k σ' H'=>∃ ρ' S',SR K cls Av G S₀ ρ' σ' S' H' /\ aG S2 S' /\ gZ K cls W Av G S₀ S' D (iP i mb (xs.drop k) ρ'))
      ⟨ρ,S2,I2,aG.refl _,p.back w2.s⟩ ?_ ?_ ?_
     . rintro k σ' H' _ ⟨ρ',S',I',s',_⟩
       exact aG.seq (s'.trans I'.sh) hq
     . rintro k x σ' H' hx ⟨ρ',S',I',s',p'⟩
       obtain ⟨y,hy,ry⟩:=hr.Ho hx
       have hd:xs.drop k = y ::xs.drop (k + 1):=by
        have hk:k < xs.length:=(List.getElem?_eq_some_iff.mp hy).1
        rw [List.drop_eq_getElem_cons hk]
        congr 1
        have:=List.getElem?_eq_getElem hk
        rw [hy] at this
        exact (Option.some.inj this).symm
       rw [hd] at p'
       exact sV hb I' (Rep.mono s' ry) p' fun ρ2 σ2 S3 H3 I3 s3 p3=>⟨ρ2,S3,I3,s'.trans s3,p3⟩
     . rintro σ' H' ⟨ρ',S',I',s',p'⟩
       rw [List.drop_of_length_le (by rw [hr.length]; exact Nat.le_refl _)] at p'
       exact p' σ' S' H' I' (aG.refl _)
theorem vw {n k:Nat} (h:k < n):(eZ n).drop k = .int (k:Int) ::(eZ n).drop (k + 1):=by
 have hk:k < (eZ n).length:=by unfold eZ; simpa using h
 rw [List.drop_eq_getElem_cons hk]
 congr 1
 simp [eZ]
theorem Dl {i:Nat} {te:TE} {tb:TS} {me:ae -> OE} {mb:ae -> OS} (he:JE K cls W te me) (hb:JS K cls W tb mb):JS K cls W (Ap (x4 (js te kN)) (kh i) tb) (ym i me mb):=by
 intro Av G S₀ ρ σ S H D I p
 refine he.goS I p fun r v S1 H1 I1 w1 r1 p1=>?_
 cases e:r.pv with
 | int j=>
   rw [e] at p1
   have hv:v = .int j:=by have:=r1.rd I1.sh; rw [e] at this; exact dO this
   subst hv
   dsimp only at p1
   split at p1
   . rename_i hj
     refine ⟨j,rfl,hj.1,hj.2,?_⟩
     refine yM (n:=j.toNat) (fun k σ' H'=>∃ ρ' S',SR K cls Av G S₀ ρ' σ' S' H' /\ aG S1 S' /\ gZ K cls W Av G S₀ S' D (iP i mb ((eZ j.toNat).drop k) ρ'))
      ⟨ρ,S1,I1,aG.refl _,p1⟩ ?_ ?_
     . rintro k σ' H' hk ⟨ρ',S',I',s',p'⟩
       rw [vw hk] at p'
       refine sV hb I' ?_ p' fun ρ2 σ2 S3 H3 I3 s3 p3=>⟨ρ2,S3,I3,s'.trans s3,p3⟩
       unfold Rep
       rw [Int.zero_add]
     . rintro σ' H' ⟨ρ',S',I',s',p'⟩
       rw [List.drop_of_length_le (by unfold eZ; simp)] at p'
       exact p' σ' S' H' I' (aG.refl _)
   . exact p1.elim
 | _=>rw [e] at p1; exact p1.elim
theorem i9 {tc:TT} {tb:TS} {mc:ae -> OT} {mb:ae -> OS} {n:Nat} (hc:JT K cls W tc mc) (hb:JS K cls W tb mb):JS K cls W (xr tc tb) (cC mc mb n):=by
 intro Av G S₀ ρ σ S H D I p
 refine ⟨fun m σ' H'=>∃ ρ' S',SR K cls Av G S₀ ρ' σ' S' H' /\ aG S S' /\ gZ K cls W Av G S₀ S' D (cC mc mb m ρ'),⟨n,ρ,S,I,aG.refl _,p⟩,?_⟩
 rintro m σ1 H1 ⟨ρ1,S1,I1,s1,p1⟩
 cases m with
 | zero=>exact p1.elim
 | succ m=>
   unfold cC at p1
   refine hc.goS I1 p1 fun b S2 H2 I2 w2 p2=>?_
   cases b with
   | false=>exact uj (p2 σ1 S2 H2 I2 (aG.refl _))
   | true=>
     refine uW ⟨fun σ' H'=>∃ ρ' S',SR K cls Av G S₀ ρ' σ' S' H' /\ aG S S' /\ gZ K cls W Av G S₀ S' D (cC mc mb m ρ'),fun σ' H' h=>⟨m,Nat.lt_succ_self m,h⟩,?_⟩
     refine hb Av G S₀ ρ1 σ1 S2 H2 _ I2 ?_
     simp only [if_true] at p2
     cases e:mb ρ1 with
     | nx ρ'=>rw [e] at p2; exact fun σ' S' H' I' s'=>⟨ρ',S',I',(s1.trans w2.s).trans s',p2.back s'⟩
     | ct ρ'=>rw [e] at p2; exact fun σ' S' H' I' s'=>⟨ρ',S',I',(s1.trans w2.s).trans s',p2.back s'⟩
     | bk ρ'=>rw [e] at p2; exact p2
     | rt r=>rw [e] at p2; exact p2
     | exc ρ' c fs=>rw [e] at p2; exact p2
     | bad=>rw [e] at p2; exact p2
end
end L2.P
namespace L2.P
open PySem PySem.Spec PyProof.Rows L2 L2.E
section
variable {K:PySem.W.Frag} {cls:String -> Option Addr} {W:XW} {Av G S₀ S S' H H' B B':Hp} {ρ:ae} {σ:St} {Q:VK}
noncomputable def Bi:V -> Option Int
 | .int i=>some i
 | _=>none
noncomputable def JO (K:PySem.W.Frag) (cls:String -> Option Addr) (W:XW) (to:TO) (m:ae -> OE):Prop:=∀ Av G S₀ ρ σ S H (Q:Option Int -> Hp -> Prop),SR K cls Av G S₀ ρ σ S H ->
 j4 K cls W σ S H (fun v H'=>Q (Bi v) H') (m ρ) -> to σ H Q
theorem kU:JO K cls W tT (mC .non):=fun Av G S₀ ρ σ S H Q I p=>p .non S H (bu.refl I.sh) (by show Rep K S _ _; unfold Rep; rfl)
theorem jw {te:TE} {m:ae -> OE} (h:JE K cls W te m):JO K cls W (Bs te) (lF m):=by
 intro Av G S₀ ρ σ S H Q I p
 refine h.go I p fun r v S1 H1 I1 w1 r1 p1=>?_
 cases e:r.pv with
 | int i=>
   rw [e] at p1
   have hv:v = .int i:=by have:=r1.rd I1.sh; rw [e] at this; exact dO this
   exact ⟨i,hv,p1 (.int i) S1 H1 (bu.refl I1.sh) (by show Rep K S1 _ _; unfold Rep; rfl)⟩
 | _=>rw [e] at p1; exact p1.elim
theorem JO.go {to:TO} {m:ae -> OE} {f:RV -> OE} {Q':Option Int -> Hp -> Prop} (h:JO K cls W to m) (I:SR K cls Av G S₀ ρ σ S H) (p:j4 K cls W σ S H Q ((m ρ).bind f))
  (k:∀ r v S1 H1,SR K cls Av G S₀ ρ σ S1 H1 -> bu S H S1 H1 -> kv K H S1 H1 r v -> j4 K cls W σ S1 H1 Q (f r) -> Q' (Bi v) H1):to σ H Q':=by
 refine h Av G S₀ ρ σ S H Q' I ?_
 cases e:m ρ with
 | ok r=>rw [e] at p; exact fun v S1 H1 w r1=>k r v S1 H1 (I.grow w) w r1 (p.back w)
 | exc c fs=>rw [e] at p; exact p
 | bad=>rw [e] at p; exact p
theorem part_of {x:PV} {v:V} (h:RdV K S H x v):Bi v = qS x:=by
 cases x with
 | int i=>rw [dO h]; rfl
 | non=>rw [iN h]; rfl
 | bl b=>rw [mO h]; rfl
 | str b=>rw [iR h]; rfl
 | lst xs=>obtain ⟨p,vs,rfl,_⟩:=iM h; rfl
 | tup xs=>obtain ⟨p,vs,rfl,_⟩:=mB h; rfl
theorem bL.cut {xs:List PV} {vs:List V} (h:bL K S xs vs) (lo hi:Option Int):bL K S (lK xs lo hi) (zF vs lo hi):=by
 have es:∀ n d o,kX n d o = HT.sIx n d o:=fun n d o=>by cases o <;> rfl
 unfold lK zF
 simp only [es]
 rw [h.length]
 exact (h.drop _).take _
theorem mP {te:TE} {tl th:TO} {ma ml mh:ae -> OE} (ha:JE K cls W te ma) (hl:JO K cls W tl ml) (hh:JO K cls W th mh):JE K cls W (tSl (GZ K) te tl th) (rP ma ml mh):=by
 intro Av G S₀ ρ σ S H Q I p
 refine ha.go I p fun a v S1 H1 I1 w1 r1 p1=>hl.go I1 p1 fun l u S2 H2 I2 w2 r2 p2=>hh.go I2 p2 fun h z S3 H3 I3 w3 r3 p3=>?_
 rw [part_of (r2.rd I2.sh),part_of (r3.rd I3.sh)]
 have ra:=((r1.rd I1.sh).mono w2.s w2.g).mono w3.s w3.g
 cases e:a.pv with
 | lst xs=>
   rw [e] at p3 ra
   obtain ⟨q,vs,rfl,hq,hr⟩:=iM ra
   exact ⟨q,vs,rfl,hq,fun b hb=>p3 _ S3 _ (bu.heap I3.sh hb) ⟨b,_,rfl,hb,I3.sh.free hb,bg,hr.cut _ _⟩⟩
 | _=>rw [e] at p3; exact p3.elim
theorem join_some {α:Type} {o:Option (Option α)} {s:α} (h:o.join = some s):o = some (some s):=by
 cases o with
 | none=>cases h
 | some x=>cases x with
   | none=>cases h
   | some y=>rw [show y = s from Option.some.inj h]
theorem Cb {α:Type} {l:List (Option α)} {ι:List Nat} {j:Nat} {s:α} (h:(ι.map fun i=>(l[i]?).join)[j]? = some (some s)):∃ i,ι[j]? = some i /\ l[i]? = some (some s):=by
 rw [List.getElem?_map] at h
 cases e:ι[j]? with
 | none=>rw [e] at h; cases h
 | some i=>rw [e] at h; exact ⟨i,rfl,join_some (Option.some.inj h)⟩
noncomputable def DU (ι:List Nat) (Av:Hp):Hp:=fun j=>match ι[j]? with
 | some i=>Av i
 | none=>none
noncomputable def u5 (ι:List Nat) (F:Nat -> List Addr):Nat -> List Addr:=fun j=>match ι[j]? with
 | some i=>F i
 | none=>[]
theorem qj.at {i j:Nat} {Av':Hp} {s:Sl} {v:V} {fp:List Addr} (h:qj K cls Av G S H i s v fp) (e:Av' j = Av i):qj K cls Av' G S H j s v fp:=by
 cases s with
 | sh x=>exact h
 | ow xs=>exact h
 | ex c fs=>exact h
 | tr io t=>exact ⟨h.1,h.2.1,h.2.2.1,fun z=>by rw [e]; exact h.2.2.2 z⟩
 | bo t=>exact h
theorem SR.pick {ι:List Nat} {x:PV} {v:V} (I:SR K cls Av G S₀ ρ σ S H) (hι:ι.Nodup) (hx:Rep K S x v):SR K cls (DU ι Av) G S₀ (dQ ι ρ ++ [some (.sh x)]) (L2.E.pick ι σ ++ [some v]) S H:=by
 obtain ⟨F,J⟩:=I
 have hl:(dQ ι ρ).length = (L2.E.pick ι σ).length:=by unfold dQ L2.E.pick; simp
 have hp:(dQ ι ρ).length = ι.length:=by unfold dQ; simp
 refine ⟨u5 ι F,J.gh,J.s0,J.sh,J.new,fun j s e=>?_,fun j k a h1 h2=>?_,fun j a h=>?_,by unfold dQ L2.E.pick; simp⟩
 . by_cases hj:j < (dQ ι ρ).length
   . rw [List.getElem?_append_left hj] at e
     obtain ⟨i,e1,e2⟩:=Cb e
     obtain ⟨u,e3,r⟩:=J.own i s e2
     refine ⟨u,?_,?_⟩
     . rw [List.getElem?_append_left (by rw [<- hl]; exact hj)]
       unfold L2.E.pick
       rw [List.getElem?_map,e1]
       show some (σ[i]?).join = _
       rw [e3]; rfl
     . unfold u5
       rw [e1]
       exact r.at (by unfold DU; rw [e1])
   . have hj':(dQ ι ρ).length <= j:=Nat.le_of_not_lt hj
     rw [List.getElem?_append_right hj'] at e
     have h0:j - (dQ ι ρ).length = 0:=by
      by_cases h:j - (dQ ι ρ).length = 0
      . exact h
      . rw [List.getElem?_eq_none (by simp; omega)] at e; cases e
     rw [h0] at e
     cases e
     refine ⟨v,?_,?_,hx⟩
     . rw [List.getElem?_append_right (by rw [<- hl]; exact hj'),<- hl,h0]; rfl
     . unfold u5
       rw [List.getElem?_eq_none (by rw [<- hp]; exact hj')]
 . unfold u5 at h1 h2
   cases e1:ι[j]? with
   | none=>rw [e1] at h1; cases h1
   | some i=>
     cases e2:ι[k]? with
     | none=>rw [e2] at h2; cases h2
     | some i'=>
       rw [e1] at h1
       rw [e2] at h2
       have z:=J.apart i i' a h1 h2
       subst z
       obtain ⟨ha,ea⟩:=List.getElem?_eq_some_iff.mp e1
       obtain ⟨hb,eb⟩:=List.getElem?_eq_some_iff.mp e2
       exact (List.getElem_inj hι).mp (ea.trans eb.symm)
 . unfold u5 at h
   cases e1:ι[j]? with
   | none=>rw [e1] at h; cases h
   | some i=>rw [e1] at h; exact J.live i a h
theorem AR {me:ae -> OE} {x:PV} {xs ys:List PV} (h:dC me ρ (x ::xs) = .ok ys):∃ r y zs,me (ρ ++ [some (.sh x)]) = .ok r /\ kn r = some y /\ dC me ρ xs = .ok zs /\ ys = y ::zs:=by
 unfold dC at h
 cases e:me (ρ ++ [some (.sh x)]) with
 | ok r=>
   rw [e] at h
   simp only [OE.fH] at h
   cases e2:kn r with
   | none=>rw [e2] at h; cases h
   | some y=>
     rw [e2] at h
     dsimp only at h
     cases e3:dC me ρ xs with
     | ok zs=>rw [e3] at h; cases h; exact ⟨r,y,zs,rfl,e2,rfl,rfl⟩
     | exc c fs=>rw [e3] at h; cases h
     | bad=>rw [e3] at h; cases h
 | exc c fs=>rw [e] at h; cases h
 | bad=>rw [e] at h; cases h
theorem ng {J:It} {ι:List Nat} {te:TE} {me:ae -> OE} {xs ys:List PV} (hι:ι.Nodup) (he:JE K cls (fun _ _ _ _=>False) te me) (I:SR K cls Av G S₀ ρ σ S H) (hy:dC me (dQ ι ρ) xs = .ok ys) (hl:ys.length <= lim)
  (go:∀ k H' x,aG H H' -> xs[k]? = some x -> J.go k H' /\ ∀ v H2,J.yld k H' v H2 -> H2 = H' /\ Rep K S x v) (stop:∀ H',aG H H' -> J.stop xs.length H')
  (hQ:∀ D S' H',bu S H S' H' -> H D = none -> S' D = none -> (∃ us,H' D = some (.lst us) /\ bL K S' ys us) -> Q (.ref D) H'):
  ∀ D,H D = none -> ∃ W:Nat -> Nat -> List V -> Hp -> Prop,(∃ m,W 0 m [] (upd H D (.lst []))) /\ ∀ i m us H',W i m us H' ->
    H' D = some (.lst us) /\ ((J.stop i H' /\ Q (.ref D) H') \/ (J.go i H' /\ ∀ x H2,J.yld i H' x H2 -> te (L2.E.pick ι σ ++ [some x]) H2 fun y H3=>H3 D = some (.lst us) /\ us.length < sizeLine /\ ∃ m',m' < m /\ W (i + 1) m' (us ++ [y]) (upd H3 D (.lst (us ++ [y]))))):=by
 intro D nD
 refine ⟨fun k m us H'=>m + k = xs.length /\ H' D = some (.lst us) /\ ∃ S' zs ws,aG S S' /\ aG H H' /\ aG S' H' /\ (∀ b,S' b ≠ none -> S b ≠ none \/ (H b = none /\ b ≠ D)) /\ bL K S' zs us /\ dC me (dQ ι ρ) (xs.drop k) = .ok ws /\ ys = zs ++ ws,
  ⟨xs.length,rfl,bg,S,[],ys,aG.refl _,aG.new nD,I.sh.trans (aG.new nD),fun b z=>.inl z,.nil,hy,rfl⟩,?_⟩
 rintro k m us H' ⟨hm,hD,S',zs,ws,s1,g1,sh1,n1,r1,e1,rfl⟩
 refine ⟨hD,?_⟩
 have hSD:S' D = none:=by
  cases q:S' D with
  | none=>rfl
  | some o=>
    rcases n1 D (by rw [q]; simp) with z | ⟨_,z⟩
    . exact absurd (I.sh.free nD) z
    . exact absurd rfl z
 by_cases hk:k < xs.length
 . refine .inr ?_
   have hx:xs[k]? = some xs[k]:=by simp [hk]
   obtain ⟨hgo,hyld⟩:=go k H' xs[k] g1 hx
   refine ⟨hgo,fun v H2 hv=>?_⟩
   obtain ⟨rfl,rv⟩:=hyld v H2 hv
   rw [List.drop_eq_getElem_cons hk] at e1
   obtain ⟨r,y,zs',em,es,e2,rfl⟩:=AR e1
   have I1:SR K cls Av G S₀ ρ σ S' H2:=I.grow ⟨s1,g1,sh1,fun b z=>by
    rcases n1 b z with z | ⟨z,_⟩
    . exact .inl z
    . exact .inr z⟩
   refine he _ G S₀ _ _ S' H2 _ (I1.pick hι (Rep.mono s1 rv)) ?_
   rw [em]
   intro u S2 H3 w2 r2
   obtain ⟨S3,w3,s3,ru⟩:=r2.share w2 es
   have hl2:(zs ++ y ::zs').length <= lim:=hl
   have hSD3:S3 D = none:=by
    cases q:S3 D with
    | none=>rfl
    | some o=>
      rcases w3.new D (by rw [q]; simp) with z | z
      . exact absurd hSD z
      . rw [hD] at z; cases z
   refine ⟨w3.g _ _ hD,?_,m - 1,by omega,by omega,bg,S3,zs ++ [y],zs',s1.trans w3.s,(g1.trans w3.g).upd nD,w3.sh.upd hSD3,fun b z=>?_,(r1.mono w3.s).append (.cons ru .nil),e2,by simp⟩
   . rw [r1.length,<- xp]
     rw [List.length_append,List.length_cons] at hl2
     omega
   . rcases w3.new b z with z | z
     . exact n1 b z
     . refine .inr ⟨g1.free z,fun e=>?_⟩
       rw [e,hD] at z; cases z
 . have hk':k = xs.length:=by omega
   subst hk'
   refine .inl ⟨stop H' g1,?_⟩
   rw [List.drop_length] at e1
   cases e1
   exact hQ D S' H' ⟨s1,g1,sh1,fun b z=>by
    rcases n1 b z with z | ⟨z,_⟩
    . exact .inl z
    . exact .inr z⟩ nD hSD ⟨us,hD,by rw [List.append_nil]; exact r1⟩
theorem wd {tl te:TE} {ml me:ae -> OE} {ι:List Nat} (hι:ι.Nodup) (hl:JE K cls W tl ml) (he:JE K cls (fun _ _ _ _=>False) te me):JE K cls W (qb (v8 K tl) ι te) (qK ml ι me):=by
 intro Av G S₀ ρ σ S H Q I p
 refine hl.go I p fun r v S1 H1 I1 w1 r1 p1=>?_
 have ra:=r1.rd I1.sh
 cases e:r.pv with
 | lst xs=>
   rw [e] at p1 ra
   obtain ⟨a,vs,rfl,hq,hr⟩:=iM ra
   refine ⟨a,rfl,⟨vs,hq⟩,?_⟩
   dsimp only at p1
   cases em:dC me (dQ ι ρ) xs with
   | exc c fs=>rw [em] at p1; exact p1.elim
   | bad=>rw [em] at p1; exact p1.elim
   | ok ys=>
     rw [em] at p1
     simp only [noX] at p1
     split at p1
     . rename_i hlen
       refine ng hι he I1 em hlen (fun k H' x g hx=>?_) (fun H' g=>⟨vs,aG.seq g hq,by rw [hr.length]; exact Nat.le_refl _⟩) fun D S' H' w nD sD ⟨us,hD,rr⟩=>p1 (.ref D) S' H' w ⟨D,us,rfl,nD,sD,hD,rr⟩
       obtain ⟨u,hu,ru⟩:=hr.get hx
       refine ⟨⟨vs,u,aG.seq g hq,hu⟩,?_⟩
       rintro v' H2 ⟨rfl,hv⟩
       have:=hv vs (aG.seq g hq)
       rw [hu] at this
       cases this
       exact ⟨rfl,ru⟩
     . exact p1.elim
 | _=>rw [e] at p1; exact p1.elim
theorem zW {tn te:TE} {mn me:ae -> OE} {ι:List Nat} (hι:ι.Nodup) (hn:JE K cls W tn mn) (he:JE K cls (fun _ _ _ _=>False) te me):JE K cls W (qb (x4 (js tn kN)) ι te) (wA mn ι me):=by
 intro Av G S₀ ρ σ S H Q I p
 refine hn.go I p fun r v S1 H1 I1 w1 r1 p1=>?_
 have ra:=r1.rd I1.sh
 cases e:r.pv with
 | int j=>
   rw [e] at p1 ra
   have hv:=dO ra
   subst hv
   dsimp only at p1
   split at p1
   . rename_i hj
     refine ⟨j,rfl,hj.1,hj.2,?_⟩
     cases em:dC me (dQ ι ρ) (eZ j.toNat) with
     | exc c fs=>rw [em] at p1; exact p1.elim
     | bad=>rw [em] at p1; exact p1.elim
     | ok ys=>
       rw [em] at p1
       simp only [noX] at p1
       split at p1
       . rename_i hlen
         have hln:(eZ j.toNat).length = j.toNat:=by unfold eZ; simp
         refine ng hι he I1 em hlen (fun k H' x g hx=>?_) (fun H' g=>by rw [hln]; exact Nat.le_refl _) fun D S' H' w nD sD ⟨us,hD,rr⟩=>p1 (.ref D) S' H' w ⟨D,us,rfl,nD,sD,hD,rr⟩
         have hk:k < j.toNat:=by rw [<- hln]; exact (List.getElem?_eq_some_iff.mp hx).1
         refine ⟨hk,?_⟩
         rintro v' H2 ⟨rfl,rfl⟩
         refine ⟨rfl,?_⟩
         have:x = .int (k:Int):=by
          unfold eZ at hx
          rw [List.getElem?_map,List.getElem?_range hk] at hx
          exact (Option.some.inj hx).symm
         subst this
         unfold Rep
         rw [Int.zero_add]
       . exact p1.elim
   . exact p1.elim
 | _=>rw [e] at p1; exact p1.elim
theorem AH {C:Addr} {c:String} {t:TA} {ma:ae -> OA} (hc:cls c = some C) (ha:JA K cls W t ma):JS K cls W (xK C W t) (xO c ma):=by
 intro Av G S₀ ρ σ S H D I p
 refine ha.goS I p fun xs vs S1 H1 I1 w1 r1 p1=>?_
 split at p1
 . rename_i hl
   refine ⟨by rw [r1.length]; exact hl,fun a hn=>p1 a C σ S1 _ (I1.grow (bu.heap I1.sh hn)) (aG.refl _) ⟨hc,none,bg,.inl rfl⟩⟩
 . exact p1.elim
theorem BF {i:Nat} {tb:XW -> TS} {T:Addr} {ts:TS} {mb ms:ae -> OS} {takes:String -> Option Bool} (hb:∀ W,JS K cls W (tb W) mb) (hs:JS K cls (fun _ _ _ _=>False) ts ms) (hT:∀ c C b,cls c = some C -> takes c = some b -> tm K T C b):
  JS K cls W (Fv K tb T ts (some i) W) (uy i mb takes ms):=by
 intro Av G S₀ ρ σ S H D I p
 refine hb _ Av G S₀ ρ σ S H D I ?_
 unfold uy at p
 cases e:mb ρ with
 | exc ρ' c fs=>
   rw [e] at p
   dsimp only at p
   intro a C σ' S' H' I' s' x H2 g2
   cases et:takes c with
   | none=>rw [et] at p; exact p.elim
   | some b=>
     rw [et] at p
     refine ⟨C,b,rfl,hT c C b x.1 et,?_⟩
     have I2:=I'.same g2
     have x2:=x.mono (aG.refl _) g2
     cases b with
     | true=>
       refine uW (hs Av G S₀ _ _ S' H2 _ (I2.Hs (i:=i) x2) ?_)
       dsimp only at p
       cases eo:ms (ρ'.set i (some (.ex c fs))) with
       | exc ρ c fs=>rw [eo] at p; exact p.elim
       | nx ρ=>rw [eo] at p; exact fun σ3 S3 H3 I3 s3=>p (σ3.set i none) S3 H3 I3.xV (s'.trans s3)
       | bk ρ=>rw [eo] at p; exact fun σ3 S3 H3 I3 s3=>p (σ3.set i none) S3 H3 I3.xV (s'.trans s3)
       | ct ρ=>rw [eo] at p; exact fun σ3 S3 H3 I3 s3=>p (σ3.set i none) S3 H3 I3.xV (s'.trans s3)
       | rt ρ r=>rw [eo] at p; exact fun v σ3 S3 H3 I3 s3 r3=>p v σ3 S3 H3 I3 (s'.trans s3) r3
       | bad=>rw [eo] at p; exact p.elim
     | false=>exact uj (p a C σ' S' H2 I2 s' x2)
 | nx ρ'=>rw [e] at p; exact p
 | bk ρ'=>rw [e] at p; exact p
 | ct ρ'=>rw [e] at p; exact p
 | rt ρ' r=>rw [e] at p; exact p
 | bad=>rw [e] at p; exact p
theorem Ek {i:Nat} {T:V} {under:String -> Bool} (hT:∀ c C,cls c = some C -> under c = true -> ∃ bm,lJ K C bm /\ ((∃ B bmB,T = .ref B /\ lJ K B bmB /\ (Value.ref C ::bm).contains (.ref B) = true) \/ (T = .ty "ValueError" /\ bm.contains (.type "ValueError") = true))):
  JE K cls W (tCB (fun xs H Q=>∃ a T C dx bm,xs = [.ref a,T] /\ H a = some (nF a C dx) /\ lJ K C bm /\ ((∃ B bmB,T = .ref B /\ lJ K B bmB /\ (Value.ref C ::bm).contains (.ref B) = true) \/ (T = .ty "ValueError" /\ bm.contains (.type "ValueError") = true)) /\ Q (.bl true) H) (js (rK i) (js (tC T) kN))) (B0 i under):=by
 intro Av G S₀ ρ σ S H Q I p
 unfold B0 at p
 split at p
 . rename_i c fs e
   obtain ⟨v,e1,a,C,rfl,hc,dx,hx,_⟩:=I.good i _ e
   split at p
   . rename_i hu
     obtain ⟨bm,h1,h2⟩:=hT c C hc hu
     exact ⟨_,e1,a,T,C,dx,bm,rfl,hx,h1,h2,p _ S H (bu.refl I.sh) kR⟩
   . exact p.elim
 . exact p.elim
theorem bL.begin {xs:List PV} {vs:List V} (h:bL K S xs vs) (N:List Str) (i:Nat) (s:Sl) (e:(mm N.length xs)[i]? = some (some s)):∃ x v,s = .sh x /\ (L2.start N vs)[i]? = some (some v) /\ Rep K S x v:=by
 unfold mm at e
 by_cases hi:i < xs.length
 . rw [List.getElem?_append_left (by simpa using hi),List.getElem?_map] at e
   have hx:xs[i]? = some xs[i]:=by simp [hi]
   rw [hx] at e
   cases e
   obtain ⟨v,hv,r⟩:=h.get hx
   refine ⟨_,v,rfl,?_,r⟩
   unfold L2.start
   rw [List.getElem?_append_left (by rw [List.length_map,h.length]; exact hi),List.getElem?_map,hv]; rfl
 . rw [List.getElem?_append_right (by simpa using hi)] at e
   rw [List.getElem?_replicate] at e
   split at e <;> cases e
theorem IL {P:Program} {w:World} {mg:Str -> Option Value} {base:Heap} {x qual:Str} {st:Stmt} {f:Addr} {fd:FuncData} {N ps:List Str} {k:Nat} {m:ae -> OS} (F:Fun K x qual st f fd) (Sc:aT N ps (av st))
  (hbody:∀ (cdv:Value) (A:Around) (outer:List Env) (s:Shared) (H:Hp) (E:XK),gY k (A.deeper (envOfC qual (av st) s.heap.objs.size f cdv)) ->
    ∃ t,PSs (oJ (CXE P w) P w K mg base N qual (av st) f cdv A outer s H E) (aS st) t /\ JS K cls (fun C a _ H=>∀ H',aG H H' -> E C a H') t m):cw P w K mg base (CXE P w) (k + 1) f fd ps (spP K cls (fnP ps.length N.length m)):=by
 refine okX F Sc (fun vs H Q E h=>?_) fun cdv A outer s H vs Q E hr h=>?_
 . obtain ⟨S,xs,_,r,q⟩:=h
   unfold fnP at q
   split at q
   . rw [r.length]; assumption
   . exact q.elim
 . obtain ⟨S,xs,sS,r,q⟩:=h
   unfold fnP at q
   split at q
   . rename_i hl
     obtain ⟨t,ht,J⟩:=hbody cdv A outer s H E hr
     refine ⟨t,ht,?_⟩
     refine J (fun _=>none) H S (mm N.length xs) (start N vs) S H _ ⟨fun _=>[],aG.refl _,aG.refl _,sS,fun _ z=>.inl z,fun i s e=>?_,fun i j a h=>(nomatch h),fun i a h=>(nomatch h),?_⟩ ?_
     . obtain ⟨x,v,rfl,e1,rx⟩:=r.begin N i s e
       exact ⟨v,e1,rfl,rx⟩
     . unfold mm L2.start
       simp [r.length]
     . cases e:m (mm N.length xs) with
       | nx ρ'=>rw [e] at q; exact fun σ' S' H' I' s'=>q .non S' H' ⟨I'.s0,I'.gh,I'.sh,I'.new⟩ (by show Rep K S' _ _; unfold Rep; rfl)
       | bk ρ'=>rw [e] at q; exact q.elim
       | ct ρ'=>rw [e] at q; exact q.elim
       | bad=>rw [e] at q; exact q.elim
       | rt ρ' r=>
         rw [e] at q
         cases r with
         | al ys=>exact q.elim
         | sh y=>exact fun v σ' S' H' b' s' rr=>q v S' H' ⟨b'.s0,b'.gh,b'.sh,b'.new⟩ rr
         | fr ys=>exact fun v σ' S' H' b' s' rr=>q v S' H' ⟨b'.s0,b'.gh,b'.sh,b'.new⟩ rr
       | exc ρ' c fs=>
         rw [e] at q
         exact fun a C σ' S' H' I' s' x H2 g2=>q a C S' H2 ⟨I'.s0,I'.gh.trans g2,I'.sh.trans g2,I'.new⟩ (x.mono (aG.refl _) g2)
   . exact q.elim
noncomputable def tW (K:PySem.W.Frag):Sp:=fun vs H Q _=>∃ (a:Addr) (ns:List Int),vs = [.ref a] /\ SqL K H a (ns.map V.int) /\ ns.length <= 63 /\ ∀ H',Q (.bl true) H'
theorem CU {f:List PV -> OE} (h:∀ ns:List Int,ns.length <= 63 -> f [.lst (ns.map .int)] = .ok (.sh (.bl true))) (vs:List V) (H:Hp) (Q:VK) (E:XK) (q:tW K vs H Q E):spP K cls f vs H Q E:=by
 obtain ⟨a,ns,rfl,hS,hl,q⟩:=q
 refine ⟨H,[.lst (ns.map .int)],aG.refl _,.cons (by unfold Rep; exact ⟨a,_,rfl,hS,bL.ints⟩) .nil,?_⟩
 rw [h ns hl]
 intro v S' H' w r
 have:v = .bl true:=by have r':Rep K S' (.bl true) v:=r; unfold Rep at r'; exact r'
 subst this
 exact q H'
end
end L2.P
namespace L2.P
open PySem PySem.Spec PyProof.Rows L2 L2.E
section
variable {K:PySem.W.Frag} {cls:String -> Option Addr} {W:XW} {Av G S₀ S S' H H' B B':Hp} {ρ:ae} {σ:St} {Q:VK}
theorem BR {i:Nat} {te:TE} {me:ae -> OE} {f:Int -> Int -> Int} (he:JE K cls W te me):JS K cls W (Dc i te (ipI f)) (qk i (gI (fun _ _=>true) fun i j=>.int (f i j)) me):=by
 intro Av G S₀ ρ σ S H D I p
 unfold qk at p
 split at p
 . rename_i x e
   obtain ⟨v,e1,r⟩:=I.good i _ e
   refine ⟨v,e1,he.goS I p fun rr u S1 H1 I1 w1 r1 p1=>?_⟩
   have ra:=r1.rd I1.sh
   cases x with
   | int a=>
     cases eb:rr.pv with
     | int b=>
       rw [eb] at p1 ra
       have r':Rep K S (.int a) v:=r
       unfold Rep at r'
       subst r'
       exact ⟨a,b,rfl,dO ra,p1 _ S1 H1 (I1.vx (by unfold Rep; rfl)) (aG.refl _)⟩
     | _=>rw [eb] at p1; exact p1.elim
   | _=>cases eb:rr.pv <;> (rw [eb] at p1; exact p1.elim)
 . exact p.elim
theorem gG {i:Nat} {te:TE} {me:ae -> OE} (he:JE K cls W te me):JS K cls W (Dc i te (ipI fun i j=>i + j)) (qk i gb me):=BR he
theorem sZ {x:PV} {v:V} (h:RdV K S H x v):decide (v = .non) = cF x:=by
 cases x with
 | non=>rw [iN h]; rfl
 | bl b=>rw [mO h]; rfl
 | int b=>rw [dO h]; rfl
 | str b=>rw [iR h]; rfl
 | lst xs=>obtain ⟨p,vs,rfl,_⟩:=iM h; rfl
 | tup xs=>obtain ⟨p,vs,rfl,_⟩:=mB h; rfl
theorem rH:JR K (fun x y H Q=>y = .non /\ Q (.bl (decide (x = .non))) H) vj:=by
 intro S H x y v u rr Q I hx hy e k
 unfold vj at e
 split at e
 . cases e
   exact ⟨iN hy,k _ S H (bu.refl I) (by rw [sZ hx]; exact kR)⟩
 . cases e
theorem uN:JR K (fun x y H Q=>y = .non /\ Q (.bl (!decide (x = .non))) H) tD:=by
 intro S H x y v u rr Q I hx hy e k
 unfold tD at e
 split at e
 . cases e
   exact ⟨iN hy,k _ S H (bu.refl I) (by rw [sZ hx]; exact kR)⟩
 . cases e
end
end L2.P
namespace L2
open PySem PySem.Spec PyProof.Rows
structure QE (X:Cx) (e:Expr) (t:TE):Prop where
 out:PE X e t
structure QA (X:Cx) (es:List Expr) (t:TA):Prop where
 out:PA X es t
structure QS (X:Cx) (st:Stmt) (t:TS):Prop where
 out:PS X st t
structure QSs (X:Cx) (st:List Stmt) (t:TS):Prop where
 out:PSs X st t
structure QT (X:Cx) (e:Expr) (t:TT):Prop where
 out:PT X e t
structure QW (X:Cx) (e:Expr) (t:TT):Prop where
 out:PW X e t
structure QI (X:Cx) (tg e:Expr) (t:TI):Prop where
 out:PI X tg e t
structure QG (X:Cx) (e:Expr) (t:TG):Prop where
 out:PG X e t
structure QO (X:Cx) (e:Option Expr) (t:TO):Prop where
 out:PO X e t
end L2
namespace L2.E
open PySem PySem.Spec PyProof.Rows L2
theorem yn {X:L2.Cx} {b:Bool} {j:Nat} {pos:PySem.Pos}:L2.QE X (PySem.Expr.Constant (PySem.Const.bool b) j pos) (L2.tC (L2.V.bl b)):=⟨L2.He ⟩
theorem aq {X:L2.Cx} {i:Int} {j:Nat} {pos:PySem.Pos}:L2.QE X (PySem.Expr.Constant (PySem.Const.int i) j pos) (L2.tC (L2.V.int i)):=⟨L2.Gn ⟩
theorem aN {X:L2.Cx} {x:PySem.Str} {j:Nat} {pos:PySem.Pos}:L2.QE X (PySem.Expr.Constant (PySem.Const.str x) j pos) (L2.tC (L2.V.str x)):=⟨L2.Eg ⟩
theorem dA {X:L2.Cx} {j:Nat} {pos:PySem.Pos}:L2.QE X (PySem.Expr.Constant PySem.Const.none j pos) (L2.tC L2.V.non):=⟨L2.Ea ⟩
theorem qv {X:L2.Cx} (h1:Nat) {x:PySem.Str} {pos:PySem.Pos} (h4:X.N[h1]? = Option.some x:=by first | rfl | decide | exact .inl rfl | exact .inr rfl | exact .inr (.inl rfl) | exact .inr (.inr rfl) | assumption | (intro _; rfl) | with_unfolding_all rfl) (h5:L2.Vis X.env.scope x:=by first | rfl | decide | exact .inl rfl | exact .inr rfl | exact .inr (.inl rfl) | exact .inr (.inr rfl) | assumption | (intro _; rfl) | with_unfolding_all rfl) (h6:(x == PySem.Str.ofString "__debug__") = Bool.false:=by first | rfl | decide | exact .inl rfl | exact .inr rfl | exact .inr (.inl rfl) | exact .inr (.inr rfl) | assumption | (intro _; rfl) | with_unfolding_all rfl) (h7:(x == PySem.Str.ofString "__classdict__") = Bool.false:=by first | rfl | decide | exact .inl rfl | exact .inr rfl | exact .inr (.inl rfl) | exact .inr (.inr rfl) | assumption | (intro _; rfl) | with_unfolding_all rfl):L2.QE X (PySem.Expr.Name x pos) (L2.rK h1):=⟨L2.pv h1 h4 h5 h6 h7⟩
theorem aM {X:L2.Cx} {x:PySem.Str} {v:L2.V} {u:PySem.Value} {pos:PySem.Pos} (h5:L2.Gl X x) (h6:X.mg x = Option.some u) (h7:L2.RelV v u) (h8:(x == PySem.Str.ofString "__debug__") = Bool.false:=by first | rfl | decide | exact .inl rfl | exact .inr rfl | exact .inr (.inl rfl) | exact .inr (.inr rfl) | assumption | (intro _; rfl) | with_unfolding_all rfl):L2.QE X (PySem.Expr.Name x pos) (L2.tC v):=⟨L2.BY h5 h6 h7 h8⟩
theorem qt {X:L2.Cx} {x:PySem.Str} {v:L2.V} {u:PySem.Value} {pos:PySem.Pos} (h5:L2.Gl X x) (h6:X.mg x = Option.none) (h7:PySem.bootBuiltins x = Option.some u) (h8:L2.RelV v u) (h9:x ≠ PySem.Str.ofString "__name__":=by first | rfl | decide | exact .inl rfl | exact .inr rfl | exact .inr (.inl rfl) | exact .inr (.inr rfl) | assumption | (intro _; rfl) | with_unfolding_all rfl) (h10:(x == PySem.Str.ofString "__debug__") = Bool.false:=by first | rfl | decide | exact .inl rfl | exact .inr rfl | exact .inr (.inl rfl) | exact .inr (.inr rfl) | assumption | (intro _; rfl) | with_unfolding_all rfl):L2.QE X (PySem.Expr.Name x pos) (L2.tC v):=⟨L2.CS h5 h6 h7 h8 h9 h10⟩
theorem EH {X:L2.Cx} {a:PySem.Expr} {ta:L2.TE} {pos:PySem.Pos} (h4:L2.QE X a ta):L2.QE X (PySem.Expr.UnaryOp PySem.UnaryOp.Not a pos) (L2.AQ ta):=⟨L2.EO h4.out⟩
theorem sy {X:L2.Cx} {a:PySem.Expr} {ta:L2.TE} {pos:PySem.Pos} {op:PySem.UnaryOp} {r:L2.V -> L2.Hp -> L2.VK -> Prop} (h6:L2.UnR X (PySem.unaryOp op) r) (h7:L2.QE X a ta):L2.QE X (PySem.Expr.UnaryOp op a pos) (L2.tUn r ta):=⟨L2.Hl h6 h7.out⟩
theorem aU {X:L2.Cx} {a:PySem.Expr} {b:PySem.Expr} {ta:L2.TE} {tb:L2.TE} {pos:PySem.Pos} {op:PySem.Operator} {r:L2.R2} (h8:L2.OpR X (PySem.binaryOp op) r) (h9:L2.QE X a ta) (h10:L2.QE X b tb):L2.QE X (PySem.Expr.BinOp a op b pos) (L2.tOp r ta tb):=⟨L2.Ht h8 h9.out h10.out⟩
theorem j6 {X:L2.Cx} {a:PySem.Expr} {b:PySem.Expr} {ta:L2.TE} {tb:L2.TE} {pos:PySem.Pos} {op:PySem.CmpOp} {r:L2.R2} (h8:L2.OpR X (PySem.compareOp op) r) (h9:L2.QE X a ta) (h10:L2.QE X b tb) (h11:PySem.behindInMarks op b = Bool.false):L2.QE X (PySem.Expr.Compare a [op] [b] pos) (L2.tOp r ta tb):=⟨L2.CP h8 h9.out h10.out h11⟩
theorem AO {X:L2.Cx} {a:PySem.Expr} {b:PySem.Expr} {c:PySem.Expr} {ta:L2.TE} {tb:L2.TE} {tc:L2.TE} {pos:PySem.Pos} {op:PySem.CmpOp} {op':PySem.CmpOp} {r:L2.R2} {r':L2.R2} (h12:L2.OpR X (PySem.compareOp op) r) (h13:L2.OpR X (PySem.compareOp op') r') (h14:L2.QE X a ta) (h15:L2.QE X b tb) (h16:L2.QE X c tc) (h17:PySem.lastMarks [op,op'] [b,c] = Bool.false:=by first | rfl | decide | exact .inl rfl | exact .inr rfl | exact .inr (.inl rfl) | exact .inr (.inr rfl) | assumption | (intro _; rfl) | with_unfolding_all rfl):L2.QE X (PySem.Expr.Compare a [op,op'] [b,c] pos) (L2.qL r r' ta tb tc):=⟨L2.Bu h12 h13 h14.out h15.out h16.out h17⟩
theorem uC {X:L2.Cx} {a:PySem.Expr} {pos:PySem.Pos} {op:PySem.BoolOp} {t:L2.TE} (h5:L2.QE X a t):L2.QE X (PySem.Expr.BoolOp op [a] pos) t:=⟨L2.E5 h5.out⟩
theorem pU {X:L2.Cx} {a:PySem.Expr} {b:PySem.Expr} {ta:L2.TE} {tb:L2.TE} {pos:PySem.Pos} {rest:List PySem.Expr} (h7:L2.QE X a ta) (h8:L2.QE X (PySem.Expr.BoolOp PySem.BoolOp.And (b ::rest) pos) tb):L2.QE X (PySem.Expr.BoolOp PySem.BoolOp.And (a ::b ::rest) pos) (L2.AG ta tb):=⟨L2.FD h7.out h8.out⟩
theorem dH {X:L2.Cx} {a:PySem.Expr} {b:PySem.Expr} {ta:L2.TE} {tb:L2.TE} {pos:PySem.Pos} {tA:L2.TT} {c:PySem.Expr} (h8:L2.QT X c tA) (h9:L2.QE X a ta) (h10:L2.QE X b tb):L2.QE X (PySem.Expr.IfExp c a b pos) (L2.tIf tA ta tb):=⟨L2.BQ h8.out h9.out h10.out⟩
theorem bq {X:L2.Cx} {es:List PySem.Expr} {t:L2.TA} {pos:PySem.Pos} (h4:L2.QA X es t):L2.QE X (PySem.Expr.List es pos) (L2.Fs t):=⟨L2.ET h4.out⟩
theorem cU {X:L2.Cx} {es:List PySem.Expr} {t:L2.TA} {pos:PySem.Pos} {x1:Nat} (h5:L2.QA X es t):L2.QE X (PySem.Expr.Tuple es x1 pos) (L2.FQ t):=⟨L2.Fq h5.out⟩
theorem jf {X:L2.Cx} {e:PySem.Expr} {te:L2.TE} {lo:Option PySem.Expr} {hi:Option PySem.Expr} {tl:L2.TO} {th:L2.TO} {pos:PySem.Pos} {p2:PySem.Pos} {r:L2.V -> Option Int -> Option Int -> L2.Hp -> L2.VK -> Prop} (h10:L2.SlR X r) (h11:L2.QE X e te) (h12:L2.QO X lo tl) (h13:L2.QO X hi th):L2.QE X (PySem.Expr.Subscript e (PySem.Expr.Slice lo hi Option.none p2) pos) (L2.tSl r te tl th):=⟨L2.AM h10 h11.out h12.out h13.out⟩
theorem df {X:L2.Cx} {a:PySem.Expr} {b:PySem.Expr} {ta:L2.TE} {tb:L2.TE} {pos:PySem.Pos} {r:L2.R2} (h7:L2.IxR X r) (h8:L2.QE X a ta) (h9:L2.QE X b tb) (h10:L2.xZ b):L2.QE X (PySem.Expr.Subscript a b pos) (L2.tOp r ta tb):=⟨L2.GS h7 h8.out h9.out h10⟩
theorem oB {X:L2.Cx} {scope:PySem.Scope} {cl:List (PySem.Str × PySem.Addr)} {M:List PySem.Str} {ι:List Nat} {x:PySem.Str} {elt:PySem.Expr} {iter:PySem.Expr} {px:PySem.Pos} {pos:PySem.Pos} {wi:L2.TI} {te:L2.TE} (h12:L2.E.kL X scope cl M ι x) (h13:X.calm = Bool.true) (h14:L2.QI X (PySem.Expr.Name x px) iter wi) (h15:∀ (C:PySem.Addr) (s₀:PySem.Shared) (H₀:L2.Hp) (ex:List PySem.Addr),L2.QE (L2.E.blk X scope cl (M ++ [x]) C s₀ H₀ ex) elt te) (h16:∀ (v:PySem.Value),PySem.foldedSetIterable iter X.env v = Pure.pure v:=by first | rfl | decide | exact .inl rfl | exact .inr rfl | exact .inr (.inl rfl) | exact .inr (.inr rfl) | assumption | (intro _; rfl) | with_unfolding_all rfl):L2.QE X (PySem.Expr.ListComp elt [PySem.Comprehension.mk (PySem.Expr.Name x px) iter [] 0] scope pos) (L2.E.qb wi ι te):=⟨L2.E.C6 h12 h13 h14.out (fun z0 z1 z2 z3=>(h15 z0 z1 z2 z3).out) h16⟩
theorem aC {X:L2.Cx} {k:Nat} {f:PySem.Addr} {fd:PySem.FuncData} {ps:List PySem.Str} {sp:L2.Sp} {dvs:List L2.V} {ds:List PySem.Value} {W:L2.E.XW} {x:PySem.Str} {p:PySem.Pos} {pos:PySem.Pos} {e:PySem.Expr} {es:List PySem.Expr} {t:L2.TA} (h15:L2.cw X.prog X.w X.K X.mg X.base (L2.E.CXE X.prog X.w) k f fd ps sp) (h16:L2.gY k X.A) (h17:L2.Gl X x) (h18:X.mg x = Option.some (PySem.Value.ref f)) (h19:PySem.W.keepIn X.K (PySem.Value.ref f) = Bool.true) (h20:L2.Binds X.K fd ps ds) (h21:L2.Vals dvs ds) (h22:L2.E.Thr X W) (h23:L2.QA X (e ::es) t) (h24:(x == PySem.Str.ofString "__debug__") = Bool.false:=by first | rfl | decide | exact .inl rfl | exact .inr rfl | exact .inr (.inl rfl) | exact .inr (.inr rfl) | assumption | (intro _; rfl) | with_unfolding_all rfl) (h25:PySem.starEach (e ::es) X.env = (Bool.false,PySem.eval e X.env) ::PySem.starEach es X.env:=by first | rfl | decide | exact .inl rfl | exact .inr rfl | exact .inr (.inl rfl) | exact .inr (.inr rfl) | assumption | (intro _; rfl) | with_unfolding_all rfl) (h26:(List.any (PySem.backTo pos (PySem.starEach es X.env)) fun x=>x.fst) = Bool.false:=by first | rfl | decide | exact .inl rfl | exact .inr rfl | exact .inr (.inl rfl) | exact .inr (.inr rfl) | assumption | (intro _; rfl) | with_unfolding_all rfl):L2.QE X (PySem.Expr.Call (PySem.Expr.Name x p) (e ::es) [] pos) (L2.E.qJ sp dvs W t):=⟨L2.E.AL h15 h16 h17 h18 h19 h20 h21 h22 h23.out h24 h25 h26⟩
theorem cR {X:L2.Cx} {x:PySem.Str} {p:PySem.Pos} {pos:PySem.Pos} {e:PySem.Expr} {es:List PySem.Expr} {t:L2.TA} {id:String} {r:List L2.V -> L2.Hp -> L2.VK -> Prop} (h9:L2.mw X (PySem.Value.builtin id) r) (h10:L2.Gl X x) (h11:X.mg x = Option.none) (h12:PySem.bootBuiltins x = Option.some (PySem.Value.builtin id)) (h13:L2.QA X (e ::es) t) (h14:x ≠ PySem.Str.ofString "__name__":=by first | rfl | decide | exact .inl rfl | exact .inr rfl | exact .inr (.inl rfl) | exact .inr (.inr rfl) | assumption | (intro _; rfl) | with_unfolding_all rfl) (h15:(x == PySem.Str.ofString "__debug__") = Bool.false:=by first | rfl | decide | exact .inl rfl | exact .inr rfl | exact .inr (.inl rfl) | exact .inr (.inr rfl) | assumption | (intro _; rfl) | with_unfolding_all rfl) (h16:PySem.starEach (e ::es) X.env = (Bool.false,PySem.eval e X.env) ::PySem.starEach es X.env:=by first | rfl | decide | exact .inl rfl | exact .inr rfl | exact .inr (.inl rfl) | exact .inr (.inr rfl) | assumption | (intro _; rfl) | with_unfolding_all rfl) (h17:(List.any (PySem.backTo pos (PySem.starEach es X.env)) fun x=>x.fst) = Bool.false:=by first | rfl | decide | exact .inl rfl | exact .inr rfl | exact .inr (.inl rfl) | exact .inr (.inr rfl) | assumption | (intro _; rfl) | with_unfolding_all rfl):L2.QE X (PySem.Expr.Call (PySem.Expr.Name x p) (e ::es) [] pos) (L2.tCB r t):=⟨L2.zR h9 h10 h11 h12 h13.out h14 h15 h16 h17⟩
theorem pe {X:L2.Cx} {x:PySem.Str} {p:PySem.Pos} {pos:PySem.Pos} {e:PySem.Expr} {es:List PySem.Expr} {t:L2.TA} {T:String} {r:List L2.V -> L2.Hp -> L2.VK -> Prop} (h9:L2.mw X (PySem.Value.type T) r) (h10:L2.Gl X x) (h11:X.mg x = Option.none) (h12:PySem.bootBuiltins x = Option.some (PySem.Value.type T)) (h13:L2.QA X (e ::es) t) (h14:x ≠ PySem.Str.ofString "__name__":=by first | rfl | decide | exact .inl rfl | exact .inr rfl | exact .inr (.inl rfl) | exact .inr (.inr rfl) | assumption | (intro _; rfl) | with_unfolding_all rfl) (h15:(x == PySem.Str.ofString "__debug__") = Bool.false:=by first | rfl | decide | exact .inl rfl | exact .inr rfl | exact .inr (.inl rfl) | exact .inr (.inr rfl) | assumption | (intro _; rfl) | with_unfolding_all rfl) (h16:PySem.starEach (e ::es) X.env = (Bool.false,PySem.eval e X.env) ::PySem.starEach es X.env:=by first | rfl | decide | exact .inl rfl | exact .inr rfl | exact .inr (.inl rfl) | exact .inr (.inr rfl) | assumption | (intro _; rfl) | with_unfolding_all rfl) (h17:(List.any (PySem.backTo pos (PySem.starEach es X.env)) fun x=>x.fst) = Bool.false:=by first | rfl | decide | exact .inl rfl | exact .inr rfl | exact .inr (.inl rfl) | exact .inr (.inr rfl) | assumption | (intro _; rfl) | with_unfolding_all rfl):L2.QE X (PySem.Expr.Call (PySem.Expr.Name x p) (e ::es) [] pos) (L2.tCB r t):=⟨L2.zo h9 h10 h11 h12 h13.out h14 h15 h16 h17⟩
theorem nQ {X:L2.Cx} {o:PySem.Expr} {e:PySem.Expr} {es:List PySem.Expr} {to:L2.TE} {t:L2.TA} {name:PySem.Str} {apos:PySem.Pos} {cpos:PySem.Pos} {T:String} {id:String} {r:L2.V -> List L2.V -> L2.Hp -> L2.VK -> Prop} (h12:PySem.PlainAttrs T) (h13:PySem.Slot T name id) (h14:PySem.typeOf (PySem.Value.builtin id) = Pure.pure (PySem.Value.type "method_descriptor")) (h15:L2.MtR X id r) (h16:L2.QE X o to) (h17:L2.QA X (e ::es) t) (h18:PySem.attributeBase o name X.env (PySem.eval o X.env) = PySem.eval o X.env:=by first | rfl | decide | exact .inl rfl | exact .inr rfl | exact .inr (.inl rfl) | exact .inr (.inr rfl) | assumption | (intro _; rfl) | with_unfolding_all rfl) (h19:(((List.all (PySem.backTo cpos (PySem.starEach (e ::es) X.env)) fun x=>!x.fst) && List.all (PySem.backToKw cpos (PySem.keywordEach [] X.env)) fun x=>Option.isSome x.fst) && Decidable.decide ((List.length (e ::es) + List.length ([]:List Keyword) + if List.isEmpty ([]:List Keyword) = Bool.true then 0 else 1) < 30)) = Bool.true:=by first | rfl | decide | exact .inl rfl | exact .inr rfl | exact .inr (.inl rfl) | exact .inr (.inr rfl) | assumption | (intro _; rfl) | with_unfolding_all rfl) (h20:(apos.endLine == cpos.line) = Bool.true:=by first | rfl | decide | exact .inl rfl | exact .inr rfl | exact .inr (.inl rfl) | exact .inr (.inr rfl) | assumption | (intro _; rfl) | with_unfolding_all rfl) (h21:PySem.starEach (e ::es) X.env = (Bool.false,PySem.eval e X.env) ::PySem.starEach es X.env:=by first | rfl | decide | exact .inl rfl | exact .inr rfl | exact .inr (.inl rfl) | exact .inr (.inr rfl) | assumption | (intro _; rfl) | with_unfolding_all rfl) (h22:(List.any (PySem.backTo cpos (PySem.starEach es X.env)) fun x=>x.fst) = Bool.false:=by first | rfl | decide | exact .inl rfl | exact .inr rfl | exact .inr (.inl rfl) | exact .inr (.inr rfl) | assumption | (intro _; rfl) | with_unfolding_all rfl):L2.QE X (PySem.Expr.Call (PySem.Expr.Attribute o name apos) (e ::es) [] cpos) (L2.tBM X.K T r to t):=⟨L2.Hv h12 h13 h14 h15 h16.out h17.out h18 h19 h20 h21 h22⟩
theorem Ao {X:L2.Cx} {o:PySem.Expr} {to:L2.TE} {name:PySem.Str} {apos:PySem.Pos} {cpos:PySem.Pos} {T:String} {id:String} {r:L2.V -> List L2.V -> L2.Hp -> L2.VK -> Prop} (h9:PySem.PlainAttrs T) (h10:PySem.Slot T name id) (h11:PySem.typeOf (PySem.Value.builtin id) = Pure.pure (PySem.Value.type "method_descriptor")) (h12:L2.MtR X id r) (h13:L2.QE X o to) (h14:PySem.attributeBase o name X.env (PySem.eval o X.env) = PySem.eval o X.env:=by first | rfl | decide | exact .inl rfl | exact .inr rfl | exact .inr (.inl rfl) | exact .inr (.inr rfl) | assumption | (intro _; rfl) | with_unfolding_all rfl) (h15:(apos.endLine == cpos.line) = Bool.true:=by first | rfl | decide | exact .inl rfl | exact .inr rfl | exact .inr (.inl rfl) | exact .inr (.inr rfl) | assumption | (intro _; rfl) | with_unfolding_all rfl):L2.QE X (PySem.Expr.Call (PySem.Expr.Attribute o name apos) [] [] cpos) (L2.Fy X.K T r to):=⟨L2.Fd h9 h10 h11 h12 h13.out h14 h15⟩
theorem kQ {X:L2.Cx}:L2.QO X Option.none L2.tT:=⟨L2.B3 ⟩
theorem jx {X:L2.Cx} {e:PySem.Expr} {te:L2.TE} (h3:L2.QE X e te):L2.QO X (Option.some e) (L2.Bs te):=⟨L2.CK h3.out⟩
theorem ao {X:L2.Cx}:L2.QA X [] L2.kN:=⟨L2.Et ⟩
theorem aa {X:L2.Cx} {e:PySem.Expr} {es:List PySem.Expr} {te:L2.TE} {t:L2.TA} (h5:L2.QE X e te) (h6:L2.QA X es t) (h7:L2.E.isStar e = Bool.false:=by first | rfl | decide | exact .inl rfl | exact .inr rfl | exact .inr (.inl rfl) | exact .inr (.inr rfl) | assumption | (intro _; rfl) | with_unfolding_all rfl):L2.QA X (e ::es) (L2.js te t):=⟨L2.E.zX h5.out h6.out h7⟩
theorem aB {X:L2.Cx} {a:PySem.Expr} {b:PySem.Expr} {ta:L2.TE} {tb:L2.TE} {pos:PySem.Pos} {op:PySem.CmpOp} {r:L2.R2} (h8:L2.OpR X (PySem.compareOp op) r) (h9:L2.QE X a ta) (h10:L2.QE X b tb) (h11:PySem.behindInMarks op b = Bool.false):L2.QT X (PySem.Expr.Compare a [op] [b] pos) (L2.u6 (L2.tOp r ta tb)):=⟨L2.Df h8 h9.out h10.out h11⟩
theorem jV {X:L2.Cx} {a:PySem.Expr} {b:PySem.Expr} {c:PySem.Expr} {ta:L2.TE} {tb:L2.TE} {tc:L2.TE} {pos:PySem.Pos} {op:PySem.CmpOp} {op':PySem.CmpOp} {r:L2.R2} {r':L2.R2} (h12:L2.OpR X (PySem.compareOp op) r) (h13:L2.OpR X (PySem.compareOp op') r') (h14:L2.QE X a ta) (h15:L2.QE X b tb) (h16:L2.QE X c tc) (h17:PySem.lastMarks [op,op'] [b,c] = Bool.false:=by first | rfl | decide | exact .inl rfl | exact .inr rfl | exact .inr (.inl rfl) | exact .inr (.inr rfl) | assumption | (intro _; rfl) | with_unfolding_all rfl):L2.QT X (PySem.Expr.Compare a [op,op'] [b,c] pos) (L2.u6 (L2.qL r r' ta tb tc)):=⟨L2.Ax h12 h13 h14.out h15.out h16.out h17⟩
theorem xk {X:L2.Cx} {a:PySem.Expr} {pos:PySem.Pos} {tA:L2.TT} (h4:L2.QT X a tA):L2.QT X (PySem.Expr.UnaryOp PySem.UnaryOp.Not a pos) (L2.B9 tA):=⟨L2.Fm h4.out⟩
theorem dw {X:L2.Cx} {a:PySem.Expr} {ta:L2.TE} (h3:L2.QE X a ta) (h4:∀ (whole:PySem.Sem PySem.Value),
 PySem.isTrue a X.env whole = do
  let v <- whole
  PySem.standAt (PySem.Expr.pos a)
  PySem.holding [v] (PySem.truthy v)):L2.QT X a fun σ H Q=>ta σ H fun x H'=>∃ k,L2.wM X.K x H' k /\ Q k H':=⟨L2.Bk h3.out h4⟩
theorem oS {X:L2.Cx} {e:PySem.Expr} {t:L2.TT} (h3:L2.QW X e t):L2.QT X e t:=⟨L2.PW.pt h3.out⟩
theorem m8 {X:L2.Cx} {a:PySem.Expr} {pos:PySem.Pos} {tA:L2.TT} (h4:L2.QT X a tA):L2.QW X (PySem.Expr.BoolOp PySem.BoolOp.And [a] pos) tA:=⟨L2.CL h4.out⟩
theorem wF {X:L2.Cx} {a:PySem.Expr} {pos:PySem.Pos} {tA:L2.TT} (h4:L2.QT X a tA):L2.QW X (PySem.Expr.BoolOp PySem.BoolOp.Or [a] pos) tA:=⟨L2.Eb h4.out⟩
theorem oh {X:L2.Cx} {a:PySem.Expr} {b:PySem.Expr} {pos:PySem.Pos} {tA:L2.TT} {tB':L2.TT} {rest:List PySem.Expr} (h7:L2.QT X a tA) (h8:L2.QW X (PySem.Expr.BoolOp PySem.BoolOp.And (b ::rest) pos) tB'):L2.QW X (PySem.Expr.BoolOp PySem.BoolOp.And (a ::b ::rest) pos) (L2.E4 tA tB'):=⟨L2.Fw h7.out h8.out⟩
theorem Ba {X:L2.Cx} {a:PySem.Expr} {b:PySem.Expr} {pos:PySem.Pos} {tA:L2.TT} {tB':L2.TT} {rest:List PySem.Expr} (h7:L2.QT X a tA) (h8:L2.QW X (PySem.Expr.BoolOp PySem.BoolOp.Or (b ::rest) pos) tB'):L2.QW X (PySem.Expr.BoolOp PySem.BoolOp.Or (a ::b ::rest) pos) (L2.tOr tA tB'):=⟨L2.GG h7.out h8.out⟩
theorem su {X:L2.Cx} {tg:PySem.Expr} {a:PySem.Expr} {ta:L2.TA} {p:PySem.Pos} {pos:PySem.Pos} (h6:L2.Gl X (PySem.Str.ofString "range")) (h7:X.mg (PySem.Str.ofString "range") = Option.none) (h8:L2.QA X [a] ta) (h9:PySem.starEach [a] X.env = [(Bool.false,PySem.eval a X.env)]:=by first | rfl | decide | exact .inl rfl | exact .inr rfl | exact .inr (.inl rfl) | exact .inr (.inr rfl) | assumption | (intro _; rfl) | with_unfolding_all rfl):L2.QI X tg (PySem.Expr.Call (PySem.Expr.Name (PySem.Str.ofString "range") p) [a] [] pos) (L2.x4 ta):=⟨L2.yO h6 h7 h8.out h9⟩
theorem m7 {X:L2.Cx} {tg:PySem.Expr} {l:PySem.Expr} {tl:L2.TE} (h4:L2.QE X l tl):L2.QI X tg l (L2.v8 X.K tl):=⟨L2.CA h4.out⟩
theorem ED {X:L2.Cx} {tg:PySem.Expr} {l:PySem.Expr} {tl:L2.TE} (h4:L2.QE X l tl):L2.QI X tg l (L2.Eu X.K tl):=⟨L2.Ex h4.out⟩
theorem aZ {X:L2.Cx} {pos:PySem.Pos} {i:Nat} {x:PySem.Str} {e:PySem.Expr} {te:L2.TE} {pos':PySem.Pos} (h7:List.Nodup X.N) (h8:X.N[i]? = Option.some x) (h9:L2.Loc X.env.scope x) (h10:L2.QE X e te) (h11:PySem.swapsWith e (Option.some (PySem.Expr.Name x pos')) pos.line X.env = Pure.pure Bool.false:=by first | rfl | decide | exact .inl rfl | exact .inr rfl | exact .inr (.inl rfl) | exact .inr (.inr rfl) | assumption | (intro _; rfl) | with_unfolding_all rfl) (h12:X.fn x = Bool.true \/ List.lookup x X.env.scope.names = Option.some PySem.NameKind.local:=by first | rfl | decide | exact .inl rfl | exact .inr rfl | exact .inr (.inl rfl) | exact .inr (.inr rfl) | assumption | (intro _; rfl) | with_unfolding_all rfl):L2.QS X (PySem.Stmt.Assign [PySem.Expr.Name x pos'] e pos) (L2.sk te (L2.kh i)):=⟨L2.Fi h7 h8 h9 h10.out h11 h12⟩
theorem F8 {X:L2.Cx} {pos:PySem.Pos} {tg:PySem.Expr} {e:PySem.Expr} {te:L2.TE} {g:L2.TG} (h6:L2.QE X e te) (h7:L2.QG X tg g) (h8:PySem.swapsWithSole [tg] e pos.line X.env = Pure.pure Bool.false:=by first | rfl | decide | exact .inl rfl | exact .inr rfl | exact .inr (.inl rfl) | exact .inr (.inr rfl) | assumption | (intro _; rfl) | with_unfolding_all rfl) (h9:PySem.swappedStores [tg] e X.env = Pure.pure Option.none:=by first | rfl | decide | exact .inl rfl | exact .inr rfl | exact .inr (.inl rfl) | exact .inr (.inr rfl) | assumption | (intro _; rfl) | with_unfolding_all rfl) (h10:List.map (fun x=>x.snd) (PySem.assignEach [tg] X.env) = [PySem.assign tg X.env]:=by first | rfl | decide | exact .inl rfl | exact .inr rfl | exact .inr (.inl rfl) | exact .inr (.inr rfl) | assumption | (intro _; rfl) | with_unfolding_all rfl):L2.QS X (PySem.Stmt.Assign [tg] e pos) (L2.sk te g):=⟨L2.FG h6.out h7.out h8 h9 h10⟩
theorem mz {X:L2.Cx} {pos:PySem.Pos} {i:Nat} {x:PySem.Str} {e:PySem.Expr} {te:L2.TE} {op:PySem.Operator} {ti:L2.TIp} {pos':PySem.Pos} (h9:List.Nodup X.N) (h10:X.N[i]? = Option.some x) (h11:L2.Loc X.env.scope x) (h12:L2.QE X e te) (h13:L2.PIp X op ti) (h14:X.fn x = Bool.true \/ List.lookup x X.env.scope.names = Option.some PySem.NameKind.local:=by first | rfl | decide | exact .inl rfl | exact .inr rfl | exact .inr (.inl rfl) | exact .inr (.inr rfl) | assumption | (intro _; rfl) | with_unfolding_all rfl):L2.QS X (PySem.Stmt.AugAssign (PySem.Expr.Name x pos') op e pos) (L2.Dc i te ti):=⟨L2.ES h9 h10 h11 h12.out h13 h14⟩
theorem bj {X:L2.Cx} {t:L2.TS} {u:L2.TS} {pos:PySem.Pos} {c:PySem.Expr} {a:List PySem.Stmt} {b:List PySem.Stmt} {tc:L2.TT} (h8:L2.QT X c tc) (h9:L2.QSs X a t) (h10:L2.QSs X b u):L2.QS X (PySem.Stmt.If c a b pos) (L2.CH tc t u):=⟨L2.GX h8.out h9.out h10.out⟩
theorem aA {X:L2.Cx} {e:PySem.Expr} {te:L2.TE} {pos:PySem.Pos} (h4:L2.QE X e te):L2.QS X (PySem.Stmt.Return (Option.some e) pos) (L2.Cw te):=⟨L2.FC h4.out⟩
theorem hZ {X:L2.Cx} {e:PySem.Expr} {te:L2.TE} {pos:PySem.Pos} (h4:L2.QE X e te) (h5:PySem.swapsWith e Option.none pos.line X.env = Pure.pure Bool.false:=by first | rfl | decide | exact .inl rfl | exact .inr rfl | exact .inr (.inl rfl) | exact .inr (.inr rfl) | assumption | (intro _; rfl) | with_unfolding_all rfl):L2.QS X (PySem.Stmt.Expr e pos) (L2.sA te):=⟨L2.Cj h4.out h5⟩
theorem i7 {X:L2.Cx} {pos:PySem.Pos} {c:PySem.Expr} {body:List PySem.Stmt} {tc:L2.TT} {tb:L2.TS} (h6:PySem.PassesOwn (PySem.model X.prog X.w) X.A X.env X.xe) (h7:L2.QT X c tc) (h8:L2.QSs X body tb):L2.QS X (PySem.Stmt.While c body [] pos) (L2.xr tc tb):=⟨L2.Bb h6 h7.out h8.out⟩
theorem qU {X:L2.Cx} {tg:PySem.Expr} {iter:PySem.Expr} {body:List PySem.Stmt} {wi:L2.TI} {g:L2.TG} {tb:L2.TS} {pos:PySem.Pos} (h8:PySem.PassesOwn (PySem.model X.prog X.w) X.A X.env X.xe) (h9:X.calm = Bool.true) (h10:L2.QI X tg iter wi) (h11:L2.QG X tg g) (h12:L2.QSs X body tb) (h13:∀ (x:PySem.Value),PySem.foldedSetIterable iter X.env x = Pure.pure x:=by first | rfl | decide | exact .inl rfl | exact .inr rfl | exact .inr (.inl rfl) | exact .inr (.inr rfl) | assumption | (intro _; rfl) | with_unfolding_all rfl):L2.QS X (PySem.Stmt.For tg iter body [] pos) (L2.Ap wi g tb):=⟨L2.FE h8 h9 h10.out h11.out h12.out h13⟩
theorem BH {X:L2.Cx} {x:PySem.Str} {np:PySem.Pos} {cpos:PySem.Pos} {pos:PySem.Pos} {e₀:PySem.Expr} {rest:List PySem.Expr} {t:L2.TA} {W:L2.E.XW} {C:PySem.Addr} {B:String} {newId:String} {initId:String} {bm:List PySem.Value} (h14:L2.E.Thr X W) (h15:X.A.handled = Option.none) (h16:PySem.ExcBaseFacts B newId initId bm) (h17:L2.Gl X x) (h18:X.mg x = Option.some (PySem.Value.ref C)) (h19:PySem.W.excIn X.K C bm newId = Bool.true) (h20:L2.QA X (e₀ ::rest) t) (h21:PySem.starEach (e₀ ::rest) X.env = (Bool.false,PySem.eval e₀ X.env) ::PySem.starEach rest X.env:=by first | rfl | decide | exact .inl rfl | exact .inr rfl | exact .inr (.inl rfl) | exact .inr (.inr rfl) | assumption | (intro _; rfl) | with_unfolding_all rfl) (h22:(List.any (PySem.backTo cpos (PySem.starEach rest X.env)) fun x=>x.fst) = Bool.false:=by first | rfl | decide | exact .inl rfl | exact .inr rfl | exact .inr (.inl rfl) | exact .inr (.inr rfl) | assumption | (intro _; rfl) | with_unfolding_all rfl) (h23:(x == PySem.Str.ofString "__debug__") = Bool.false:=by first | rfl | decide | exact .inl rfl | exact .inr rfl | exact .inr (.inl rfl) | exact .inr (.inr rfl) | assumption | (intro _; rfl) | with_unfolding_all rfl):L2.QS X (PySem.Stmt.Raise (Option.some (PySem.Expr.Call (PySem.Expr.Name x np) (e₀ ::rest) [] cpos)) Option.none pos) (L2.E.xK C W t):=⟨L2.E.An h14 h15 h16 h17 h18 h19 h20.out h21 h22 h23⟩
theorem zJ {X:L2.Cx} {x:PySem.Str} {n:PySem.Str} {np:PySem.Pos} {hpos:PySem.Pos} {pos:PySem.Pos} {body:List PySem.Stmt} {suite:List PySem.Stmt} {b₀:PySem.Stmt} {tb:L2.E.XW -> L2.TS} {ts:L2.TS} {T:PySem.Addr} {W₀:L2.E.XW} {i:Nat} (h14:X.stack = X.env ::X.outer /\ X.env.frame = Option.some X.env.locals) (h15:List.Nodup X.N) (h16:X.N[i]? = Option.some n) (h17:List.lookup n X.env.scope.names = Option.some PySem.NameKind.local) (h18:∀ (pn:List (PySem.Addr × PySem.Obj)) (xe:PySem.Value -> PySem.Shared -> Prop) (W:L2.E.XW),L2.E.Thr (L2.E.rl X pn xe) W -> PySem.PassesOwn (PySem.model X.prog X.w) X.A X.env xe -> L2.QSs (L2.E.rl X pn xe) body (tb W)) (h19:L2.Gl X x) (h20:X.mg x = Option.some (PySem.Value.ref T)) (h21:∀ (a:PySem.Addr),L2.QSs (L2.E.hand X a) (b₀ ::suite) ts) (h22:L2.E.Thr X W₀) (h23:(x == PySem.Str.ofString "__debug__") = Bool.false:=by first | rfl | decide | exact .inl rfl | exact .inr rfl | exact .inr (.inl rfl) | exact .inr (.inr rfl) | assumption | (intro _; rfl) | with_unfolding_all rfl):L2.QS X (PySem.Stmt.Try body [PySem.ExceptHandler.ExceptHandler (Option.some (PySem.Expr.Name x np)) (Option.some n) (b₀ ::suite) hpos] [] [] pos) (L2.E.Fv X.K tb T ts (Option.some i) W₀):=⟨L2.E.Aw h14 h15 h16 h17 (fun z0 z1 z2 z3 z4=>(h18 z0 z1 z2 z3 z4).out) h19 h20 (fun z0=>(h21 z0).out) h22 h23⟩
theorem nc {X:L2.Cx} {pos:PySem.Pos} {i:Nat} {x:PySem.Str} (h4:List.Nodup X.N) (h5:X.N[i]? = Option.some x) (h6:L2.Loc X.env.scope x) (h7:X.fn x = Bool.true \/ List.lookup x X.env.scope.names = Option.some PySem.NameKind.local:=by first | rfl | decide | exact .inl rfl | exact .inr rfl | exact .inr (.inl rfl) | exact .inr (.inr rfl) | assumption | (intro _; rfl) | with_unfolding_all rfl):L2.QG X (PySem.Expr.Name x pos) (L2.kh i):=⟨L2.Dk h4 h5 h6 h7⟩
theorem aJ {X:L2.Cx}:L2.QSs X [] L2.AX:=⟨L2.CQ ⟩
theorem au {X:L2.Cx} {st:PySem.Stmt} {t:L2.TS} (h3:L2.QS X st t):L2.QSs X [st] t:=⟨L2.yi h3.out⟩
theorem aj {X:L2.Cx} {st:PySem.Stmt} {rest:List PySem.Stmt} {t:L2.TS} {u:L2.TS} (h5:L2.QS X st t) (h6:L2.QSs X rest u):L2.QSs X (st ::rest) (L2.E9 t u):=⟨L2.AZ h5.out h6.out⟩
end L2.E
namespace L2.P
open PySem PySem.Spec PyProof.Rows L2 L2.E
theorem fo {K:PySem.W.Frag} {cls:String -> Option Addr} {P:Program} {w:World} {mg:Str -> Option Value} {base:Heap} {x qual:Str} {st:Stmt} {f:Addr} {fd:FuncData} {N ps:List Str} {k:Nat} {m:ae -> OS} (F:Fun K x qual st f fd) (Sc:aT N ps (av st))
  (hbody:∀ (cdv:Value) (A:Around) (outer:List Env) (s:Shared) (H:Hp) (E:XK),gY k (A.deeper (envOfC qual (av st) s.heap.objs.size f cdv)) ->
    ∃ t,QSs (oJ (CXE P w) P w K mg base N qual (av st) f cdv A outer s H E) (aS st) t /\ JS K cls (fun C a _ H=>∀ H',aG H H' -> E C a H') t m):cw P w K mg base (CXE P w) (k + 1) f fd ps (spP K cls (fnP ps.length N.length m)):=
 IL F Sc fun cdv A outer s H E hr=>let ⟨t,h1,h2⟩:=hbody cdv A outer s H E hr; ⟨t,h1.out,h2⟩
end L2.P
namespace L2.E
open PySem PySem.Spec PyProof.Rows L2
end L2.E
namespace L2.P
open PySem PySem.Spec PyProof.Rows L2 L2.E
end L2.P
namespace L2.E
open PySem PySem.Spec PyProof.Rows L2
noncomputable def dy:List Value:=[.type "ValueError",.type "Exception",.type "BaseException",.type "object"]
noncomputable def dM:List Value -> Bool
 | .ref _ ::r=>dM r
 | l=>l == dy
theorem kD {c:Addr} {r:List Value}:dM (.ref c ::r) = dM r:=by simp [dM]
theorem qQ:∀ {l:List Value},dM l = true -> l.contains (.type "object") = true /\ l.contains (.type "BaseException") = true /\ l.isEmpty = false
 | .ref c ::r,e=>by
   rw [kD] at e
   obtain ⟨h1,h2,h3⟩:=qQ e
   exact ⟨by rw [List.contains_cons,h1,Bool.or_true],by rw [List.contains_cons,h2,Bool.or_true],rfl⟩
 | [],e=>by simp [dM,dy] at e
 | .type n ::r,e=>by
   have e':(Value.type n ::r) = dy:=by simpa [dM] using e
   rw [e']; decide
 | .none ::r,e=>by simp [dM,dy] at e
 | .bool b ::r,e=>by simp [dM,dy] at e
 | .int i t ::r,e=>by simp [dM,dy] at e
 | .str i t ::r,e=>by simp [dM,dy] at e
 | .builtin i ::r,e=>by simp [dM,dy] at e
 | .float i t ::r,e=>by simp [dM,dy] at e
 | .bytes i t ::r,e=>by simp [dM,dy] at e
 | .ellipsis ::r,e=>by simp [dM,dy] at e
theorem qX (self:Value):∀ {l:List Value},dM l = true -> refuseLoop self "__setattr__" l = pure ()
 | .ref c ::r,e=>by rw [refuseLoop_ref]; exact qX self (by rw [kD] at e; exact e)
 | [],e=>by simp [dM,dy] at e
 | .type n ::r,e=>by
   have e':(Value.type n ::r) = dy:=by simpa [dM] using e
   rw [e']; exact PySem.F.store_ValueError.passes self
 | .none ::r,e=>by simp [dM,dy] at e
 | .bool b ::r,e=>by simp [dM,dy] at e
 | .int i t ::r,e=>by simp [dM,dy] at e
 | .str i t ::r,e=>by simp [dM,dy] at e
 | .builtin i ::r,e=>by simp [dM,dy] at e
 | .float i t ::r,e=>by simp [dM,dy] at e
 | .bytes i t ::r,e=>by simp [dM,dy] at e
 | .ellipsis ::r,e=>by simp [dM,dy] at e
noncomputable def rY (K:PySem.W.Frag) (C:Addr):Bool:=(PySem.W.clsIn K C).any fun cd=>dM cd.mro
structure xx (K:PySem.W.Frag) (C:Addr) (f:Str):Prop where
 hd:PySem.W.hasDictIn K C = true
 mr:rY K C = true
 sa:PySem.W.findIn K (.ref C) "__setattr__" = some (some (.builtin "object.__setattr__"))
 ga:PySem.W.findIn K (.ref C) "__getattribute__" = some (some (.builtin "BaseException.__getattribute__"))
 gt:PySem.W.findIn K (.ref C) "__getattr__" = some none
 na:PySem.W.findIn K (.ref C) f = some none
section
variable {prog:Program} {w:World} {A:Around} {E:Value -> Shared -> Prop} {s:Shared} {K:PySem.W.Frag} {x C:Addr} {name:Str} {v:Value}
open PySem.W in
theorem IJ {ox:Obj} {od:Option Obj} {tk:Tok} {R:Result -> Shared -> Prop} (X:K.In s.heap) (I:InstAt s.heap x ox C od) (c:xx K C name)
  (h:wpAny (model prog w) A.in1 (Builtin.ObjectAttr.storeInOwnDict (.ref x) (.ref C) (.str name tk) name v false)
    (fun fin s'=>match fin with | .done f=>R (.ok f) s' | .again c'=>c'.quiet = true /\ codeAny (model prog w) A c' R s') (fun e s'=>R (.error e) s') s):
  codeAny (model prog w) A (.call (.builtin "object.__setattr__") ⟨[.ref x,.str name tk,v],[]⟩) R s:=by
 have SF:=PySem.F.store_object
 obtain ⟨cd,hc,ho⟩:=any_some (show (clsIn K C).any (fun cd=>dM cd.mro) = true from c.mr)
 obtain ⟨q1,q2,q3⟩:=qQ ho
 have sub:Looks (model prog w) s.heap (isInstance (.ref x) (.type "object")) true:=I.type.andThen (looks_mroIn X (by unfold mroIn; rw [hc,Option.bind_some,if_neg (by rw [q3]; decide),q1]))
 refine codeAny_call_builtin SF.slot.plain SF.entry (@check_slot (model prog w) _ _ s "object.__setattr__" "object" "__setattr__" (.ref x) [.str name tk,v] [] _ SF.kind SF.split sub (SF.args (.ref x) (.str name tk) v) ?_)
 have hm:Looks (model prog w) s.heap (mroOf (.ref C)) cd.mro:=(looks_clsIn X hc).andThen .now
 rw [osa_eq,refuse_eq]
 refine wpAny_bind (wpAny_bind (I.type.here (wpAny_bind (hm.here ?_))))
 rw [qX _ ho]
 exact wpAny_pure (wpAny_bind (I.type.here (wpAny_bind ((looks_findIn X c.na).here (wpAny_bind (Looks.here (r:=none) .now h))))))
open PySem.W in
theorem IB {ox:Obj} {vs:Array Value} {Q:Unit -> Shared -> Prop} (X:K.In s.heap) (hx:s.heap.get? x = some ox) (hcls:ox.cls = .ref C) (hdict:ox.dict = none) (hdat:ox.data = .fields vs) (c:xx K C name)
  (h:∀ h',h'.get? x = some { ox with dict:=some s.heap.objs.size } -> h'.Ns1 s.heap.objs.size (fun y=>if y = name then some v else none) -> (∀ b o,b ≠ x -> s.heap.get? b = some o -> h'.get? b = some o) -> Q () { s with heap:=h',toks:=s.toks + 2 }):
  wpAny (model prog w) A (setAttr (.ref x) name v) Q E s:=by
 obtain ⟨oc,odi,oda,osl⟩:=ox
 dsimp only at hcls hdict hdat
 subst hcls hdict hdat
 have I:InstAt s.heap x ⟨.ref C,none,.fields vs,osl⟩ C none:=⟨hx,rfl,rfl,trivial⟩
 refine set_plain X I c.sa (IJ (s:={ s with toks:=s.toks + 1 }) X I c ?_)
 obtain ⟨cd,hc,hd'⟩:=any_some c.hd
 have ne:s.heap.objs.size ≠ x:=Nat.ne_of_gt (Heap.lt_size hx)
 refine wpAny_bind (wpAny_pure (wpAny_bind (wpAny_bind (wpAny_loadPart hx (wpAny_bind (Looks.here (s:={ s with toks:=s.toks + 1 }) (looks_clsIn X hc) ?_))))))
 rw [hd']
 refine wpAny_bind (wpAny_alloc ?_)
 have hx1:(s.heap.push { cls:=.type "dict",data:=.dict #[] }).get? x = some ⟨.ref C,none,.fields vs,osl⟩:=Heap.get?_push_of_some _ hx
 refine wpAny_bind (wpAny_update hx1 ?_)
 refine wpAny_pure (a:=some s.heap.objs.size) (wpAny_bind (wpAny_pure (wpAny_bind ?_)))
 have e1:(s.heap.push { cls:=.type "dict",data:=.dict #[] }).get? s.heap.objs.size = some { cls:=.type "dict",data:=.dict #[] }:=Heap.get?_push_size s.heap rfl
 have e2:((s.heap.push { cls:=.type "dict",data:=.dict #[] }).update x fun o=>{ o with dict:=some s.heap.objs.size }).get? s.heap.objs.size = some { cls:=.type "dict",data:=.dict #[] }:=
  (Heap.get?_update_other _ _ (Ne.symm ne)).trans e1
 have n1:Heap.Ns1 ((s.heap.push { cls:=.type "dict",data:=.dict #[] }).update x fun o=>{ o with dict:=some s.heap.objs.size }) s.heap.objs.size (fun _=>none):=
  Heap.Ns1.of_empty ⟨_,#[],_,e2,rfl,(fun e he=>absurd he (by simp)),fun _=>rfl⟩
 refine wpAny_nsSet1 n1 fun h' hn2 hs2=>?_
 have hw:PySem.Within (fun _=>(none:Option Value)) ([]:List Str):=fun y hy=>absurd rfl hy
 obtain ⟨oD,esD,epD,hoD,hdD,hcD⟩:=hn2.count (PySem.Within.cons name v hw)
 refine wpAny_bind (wpAny_lookBehind hoD (by rw [hdD]; exact pastItsLine_dict (Nat.le_trans hcD (by simp))) ?_)
 have hx2:((s.heap.push { cls:=.type "dict",data:=.dict #[] }).update x fun o=>{ o with dict:=some s.heap.objs.size }).get? x = some ⟨.ref C,some s.heap.objs.size,.fields vs,osl⟩:=
  Heap.get?_update_self _ hx1 rfl
 exact wpAny_pure (h h' ((hs2.2 _ (Ne.symm ne)).trans hx2) hn2 fun b o hb e=>(hs2.2 b (Nat.ne_of_lt (Heap.lt_size e))).trans ((Heap.get?_update_other _ _ (Ne.symm hb)).trans (Heap.get?_push_of_some _ e)))
end
noncomputable def AE (a C:Addr) (dx:Option Addr) (h:Heap):Prop:=∃ o t,h.get? a = some o /\ o.cls = .ref C /\ o.dict = dx /\ o.data = .fields #[.ref t,.none,.none,.none,.bool false,.none]
noncomputable abbrev kb (a C:Addr) (dx:Option Addr):HO:=.ext (AE a C dx)
theorem yA {P:Program} {w:World} {H:Hp} {h:Heap} {a C:Addr} {dx:Option Addr} (x:AE a C dx h):iI P w H h a (kb a C dx):=by
 refine ⟨x,let ⟨o,_,e,_⟩:=x; ⟨o,e⟩,fun h1 h2 p k=>?_⟩
 obtain ⟨o,vs,e,r⟩:=p
 exact ⟨o,vs,k o e,r⟩
theorem AE.exc {a C:Addr} {dx:Option Addr} {h:Heap} (x:AE a C dx h):Bz a C dx h:=let ⟨o,t,e,c,d,f⟩:=x; ⟨o,_,e,c,d,f,rfl⟩
section
variable {X:Cx} {pins:List (Addr × Obj)} {σ:St} {H:Hp} {s:Shared} {a C:Addr} {f:Str} {A:Around} {E:Value -> Shared -> Prop}
theorem Ag {y:V} {u:Value} {Q:Unit -> Shared -> Prop} (I:Inv X pins σ H s) (e:H a = some (kb a C none)) (c:xx X.K C f) (ry:RelV y u)
  (h:∀ s' d,H d = none -> Inv X pins σ (upd (upd H a (kb a C (some d))) d (.xd [(f,y)])) s' -> Q () s'):wpAny (model X.prog X.w) A (setAttr (.ref a) f u) Q E s:=by
 obtain ⟨⟨o,tv,ho,hc,hd,hv⟩,_,_⟩:=I.hok a _ e
 refine IB I.kIn ho hc hd hv c fun h' h1 h2 h3=>?_
 have nd:H s.heap.objs.size = none:=I.hok.fresh (Nat.le_refl _)
 have ned:∀ b ob,s.heap.get? b = some ob -> b ≠ s.heap.objs.size:=fun b ob q=>Nat.ne_of_lt (Heap.lt_size q)
 have nea:s.heap.objs.size ≠ a:=Ne.symm (ned a o ho)
 have off:∀ b,b ≠ a -> b ≠ s.heap.objs.size -> (upd (upd H a (kb a C (some s.heap.objs.size))) s.heap.objs.size (.xd [(f,y)])) b = H b:=fun b q1 q2=>by rw [aY q2,aY q1]
 have na:∀ b ob,H b = some ob -> ob ≠ kb a C none -> b ≠ a:=fun b ob q n z=>by rw [z,e] at q; exact n (Option.some.inj q).symm
 have nb:∀ b ob,H b = some ob -> b ≠ s.heap.objs.size:=fun b ob q z=>by rw [z,nd] at q; cases q
 have un:Un (frs X.stack) [] H (upd (upd H a (kb a C (some s.heap.objs.size))) s.heap.objs.size (.xd [(f,y)])) s.heap h':=by
  have keep:∀ b ob,s.heap.get? b = some ob -> H b = none -> h'.get? b = some ob:=fun b ob q n=>h3 b ob (fun z=>by rw [z,e] at n; cases n) q
  refine ⟨fun b ob q n _ _=>keep b ob q n,fun b ob q n _ _=>⟨ob.slots,keep b ob q n⟩,fun b ob q n _=>?_,fun b ob q _=>?_,fun b xs q=>?_,fun b ob xs q=>?_,fun b ps q=>⟨#[],?_⟩⟩
  . rw [off b (fun z=>by rw [z,e] at n; cases n) (ned b ob q)]; exact n
  . by_cases z:b = a
    . subst z; exact ⟨_,h1⟩
    . exact ⟨ob,h3 b ob z q⟩
  . rw [off b (na b _ q (by intro z; cases z)) (nb b _ q)]; exact q
  . rw [off b (na b _ q (by intro z; cases z)) (nb b _ q)]; exact q
  . rw [off b (na b _ q (by intro z; cases z)) (nb b _ q),q]; simp
 have hok:HOk X.prog X.w (upd (upd H a (kb a C (some s.heap.objs.size))) s.heap.objs.size (.xd [(f,y)])) h':=fun b ob q=>by
  by_cases zb:b = s.heap.objs.size
  . subst zb
    rw [bg] at q
    cases q
    refine ⟨_,h2,fun g=>?_⟩
    show bS (List.lookup g [(f,y)]) (if g = f then some u else none)
    by_cases z:g = f
    . subst z; simp [List.lookup,bS,ry]
    . have zz:(g == f) = false:=beq_eq_false_iff_ne.mpr z
      simp [List.lookup,zz,z,bS]
  . rw [aY zb] at q
    by_cases za:b = a
    . subst za
      rw [bg] at q
      cases q
      exact yA ⟨_,tv,h1,hc,rfl,hv⟩
    . rw [aY za] at q
      refine (I.hok b ob q).n8 (fun b' u' hb' r=>h3 b' u' ?_ r) (fun b' r=>?_) fun b' xs r=>?_
      . rcases hb' with z | z
        . rw [z]; exact za
        . exact na b' _ z (by intro z; cases z)
      . rw [off b' (na b' _ r (by intro z; cases z)) (nb b' _ r)]; exact r
      . rw [off b' (na b' _ r (by intro z; cases z)) (nb b' _ r)]; exact r
 exact h _ s.heap.objs.size nd (I.call (g':=s.gens) (t':=s.toks + 2) (d':=s.drawn) (ch:=[]) un hok I.bare (fun b z=>absurd z (by simp)))
end
end L2.E
namespace L2.E
open PySem PySem.Spec PyProof.Rows L2
section
variable {prog:Program} {w:World} {A:Around} {E:Value -> Shared -> Prop} {s:Shared} {K:PySem.W.Frag} {x C:Addr} {name:Str} {v:Value} {tk:Tok}
open PySem.W in
end
section
variable {prog:Program} {w:World} {A:Around} {E:Value -> Shared -> Prop} {hh:Heap} {g:Array GenState} {d:Drawn} {t:Nat} {os:OsState} {K:PySem.W.Frag} {x C:Addr} {name:Str} {v:Value} {tk:Tok}
open PySem.W in
end
section
variable {prog:Program} {w:World} {A:Around} {E:Value -> Shared -> Prop} {s:Shared} {K:PySem.W.Frag} {x C:Addr} {name:Str} {v:Value}
open PySem.W in
end
section
variable {X:Cx} {pins:List (Addr × Obj)} {σ:St} {H:Hp} {s:Shared} {a C d:Addr} {f:Str} {A:Around} {E:Value -> Shared -> Prop}
noncomputable def Ar (K:PySem.W.Frag) (ta tv:TE) (f:Str):TS:=fun D σ H=>tv σ H fun y H1=>ta σ H1 fun x H2=>∃ a C,x = .ref a /\ H2 a = some (kb a C none) /\ xx K C f /\ ∀ d,H2 d = none -> D.nx σ (upd (upd H2 a (kb a C (some d))) d (.xd [(f,y)]))
theorem CO {o value:Expr} {ta tv:TE} {pos pos':Pos} (ha:PE X o ta) (hv:PE X value tv) (hs:swapsWith value (some (.Attribute o f pos')) pos.line X.env = pure false:=by rfl):PS X (.Assign [.Attribute o f pos'] value pos) (Ar X.K ta tv f):=by
 intro pins s σ H D I h
 refine plainObj_wpAny_Assign_Attribute (thn (hv pins s σ H _ I h) fun u s1 ⟨y,H1,I1,ry,q⟩=>thn (ha pins s1 σ H1 _ I1 q) fun ov s2 ⟨x,H2,I2,rx,a,C,ex,ea,c,q2⟩=>?_) hs
 subst ex
 obtain rfl:ov = Value.ref a:=rx
 exact Ag I2 ea c ry fun s3 d nd I3=>⟨σ,_,I3,q2 d nd⟩
end
noncomputable def rO (C:Addr) (f:Str):Sp:=fun vs H Q _=>∃ a v,vs = [.ref a,v] /\ H a = some (kb a C none) /\ ∀ d,H d = none -> Q .non (upd (upd H a (kb a C (some d))) d (.xd [(f,v)]))
end L2.E
namespace L2.E
open PySem PySem.Spec PyProof.Rows L2
section
variable {prog:Program} {w:World} {A:Around} {E:Value -> Shared -> Prop} {h:Heap} {g:Array GenState} {d:Drawn} {t:Nat} {os:OsState} {K:PySem.W.Frag}
variable {nm q:Str} {C N:Addr} {bs bm bmB:List Value} {hdct:Bool} {sn:List Str} {sub:List Value} {ab:Bool} {col:Option Bool} {dd:Option Addr} {k0 k1 k2 k3 k5:Option Value} {B newId initId:String}
open PySem.W in
theorem EU (F:ExcBaseFacts B newId initId bmB) (T:OwnTail h bmB bm) {rest:List Value} {fI:Addr} {oI:Obj} {Q:Fin -> Shared -> Prop} (X:K.In h)
  (hC:h.get? C = some (excClassObj nm q C N bs bm hdct sn sub ab col dd k0 k1 k2 k3 k5 newId)) (hi:findIn K (.ref C) "__init__" = some (some (.ref fI)))
  (hfI:h.get? fI = some oI) (hfc:oI.cls = .type "function")
  (hq:∀ h' e,Heap.MadeExcOf h h' e (.ref C) rest ->
    wpAny (model prog w) A (call (.ref fI) (.ref e ::rest)) (fun r s'=>r = .none /\ Q (.done (.ret (.ref e))) s') E ⟨h',g,d,t,os⟩) (hrest:rest.length <= sizeLine):
  wpAny (model prog w) A (Builtin.«type.__call__» ⟨.ref C ::rest,[]⟩) Q E ⟨h,g,d,t,os⟩:=by
 repeat (first | with_reducible refine wpAny_loadPart_at hC ?_ | with_reducible refine wpAny_madeBy_exc hC ?_ | wp_step)
 refine codeAny_call_builtin_code (Code.quiet_builtin _ F.quiet) (wpAny_check_new_subT F T hC ?_)
 refine codeAny_exc_new_subT F T hC ?_ hrest
 show wpAny _ _ _ _ _ _
 have hC₁:=Heap.get?_push_of_some { cls:=.ref C,data:=.fields #[.ref h.objs.size,.none,.none,.none,.bool false,.none] }
  (Heap.get?_push_of_some { cls:=.type "tuple",data:=.seq rest.toArray } hC)
 have hfI₁:=Heap.get?_push_of_some { cls:=.ref C,data:=.fields #[.ref h.objs.size,.none,.none,.none,.bool false,.none] }
  (Heap.get?_push_of_some { cls:=.type "tuple",data:=.seq rest.toArray } hfI)
 have X₁:K.In ((h.push { cls:=.type "tuple",data:=.seq rest.toArray }).push { cls:=.ref C,data:=.fields #[.ref h.objs.size,.none,.none,.none,.bool false,.none] }):=
  X.keeps fun b o e=>Heap.get?_push_of_some _ (Heap.get?_push_of_some _ e)
 have hget:((h.push { cls:=.type "tuple",data:=.seq rest.toArray }).push
   { cls:=.ref C,data:=.fields #[.ref h.objs.size,.none,.none,.none,.bool false,.none] }).get? (h.objs.size + 1) = some
   { cls:=.ref C,data:=.fields #[.ref h.objs.size,.none,.none,.none,.bool false,.none] }:=by heap_get
 have hcC:(Value.ref C ::bm).contains (.ref C) = true:=by simp
 unfold isInstance
 repeat (first | with_reducible refine wpAny_loadPart_at hget ?_ | (with_reducible refine wpAny_isSubtype_exc hC₁ ?_; rw [hcC]) | wp_step)
 show wpAny _ _ (typeLookup (.ref C) _) _ _ _
 refine (looks_findIn (M:=model prog w) X₁ hi).at ?_
 refine wpAny_holding (wpAny_bind ?_)
 unfold bindSpecial
 refine wpAny_bind (wpAny_typeOf (T:="function") ⟨_,hfI₁,hfc⟩ ?_)
 rw [if_pos (by decide)]
 refine wpAny_pure (wpAny_bind (wpAny_mono (hq _ (h.objs.size + 1) ⟨fun b o hb=>Heap.get?_push_of_some _ (Heap.get?_push_of_some _ hb),Heap.get?_none_of_le (Nat.le_succ _),h.objs.size,hget,Heap.get?_none_of_le (Nat.le_refl _),?_⟩) (fun r s' hr=>?_) fun _ _ x=>x))
 . exact Heap.get?_push_of_some _ (Heap.get?_push_at rfl rfl)
 . obtain ⟨rfl,hQ⟩:=hr
   wp_walk
   exact hQ
open PySem.W in
theorem Bq (F:ExcBaseFacts B newId initId bmB) (T:OwnTail h bmB bm) {rest:List Value} {fI:Addr} {oI:Obj} {Q:Value -> Shared -> Prop} (X:K.In h)
  (hC:h.get? C = some (excClassObj nm q C N bs bm hdct sn sub ab col dd k0 k1 k2 k3 k5 newId)) (hi:findIn K (.ref C) "__init__" = some (some (.ref fI)))
  (hfI:h.get? fI = some oI) (hfc:oI.cls = .type "function")
  (hq:∀ h' e,Heap.MadeExcOf h h' e (.ref C) rest ->
    wpAny (model prog w) (A.under (.builtin "type.__call__" ⟨.ref C ::rest,[]⟩)) (call (.ref fI) (.ref e ::rest)) (fun r s'=>r = .none /\ Q (.ref e) s') E ⟨h',g,d,t,os⟩) (hrest:rest.length <= sizeLine):
  wpAny (model prog w) A (call (.ref C) rest) Q E ⟨h,g,d,t,os⟩:=by
 have f1:=tc_lookup
 have f2:=tc_bind (.ref C)
 have hT:(⟨h,g,d,t,os⟩:Shared).TypeIs (.ref C) "type":=⟨_,hC,rfl⟩
 refine wpAny_call (codeAny_of_tree ?_)
 show wpAny _ _ (callAny (.ref C) _) _ _ _
 repeat (any_goals (first | assumption | with_reducible refine wpAny_loadPart_at hC ?_ | wp_step))
 refine ⟨rfl,?_⟩
 refine codeAny_call_builtin_at (Code.quiet_builtin _ (by decide +kernel)) entry_typeCall (wpAny_check_type_call_sub hC (EU F T X hC hi hfI hfc (fun h' e hm=>?_) hrest))
 exact hq h' e hm
theorem wX {M:Model} {env:Env} {s:Shared} {x:Sem Value} {Q:Flow -> Shared -> Prop} (hbase:bm.contains (.type "BaseException") = true) (hh:A.handled = none)
  (h:wpAny M A x (fun v s₁=>∃ e dct tt sl,v = .ref e /\ s₁.heap.get? C = some (excClassObj nm q C N bs bm hdct sn sub ab col dd k0 k1 k2 k3 k5 newId) /\
    s₁.heap.get? e = some ⟨.ref C,dct,.fields #[.ref tt,.none,.none,.none,.bool false,.none],sl⟩ /\ E (.ref e) s₁) E s):
  wpAny M A (raiseStmt env (some x) none) Q E s:=by
 have hcB:(Value.ref C ::bm).contains (.type "BaseException") = true:=by rw [List.contains_cons,hbase,Bool.or_true]
 unfold raiseStmt
 refine wpAny_bind (wpAny_mono h (fun v s₁ h₁=>?_) fun _ _ x=>x)
 obtain ⟨e,dct,tt,sl,rfl,hC,he,hE⟩:=h₁
 obtain ⟨hp,g,d,tk,os⟩:=s₁
 repeat (first | with_reducible refine wpAny_loadPart_at he ?_ | with_reducible refine wpAny_loadPart_at hC ?_ | (with_reducible refine wpAny_isSubtype_exc hC ?_; rw [hcB]) | wp_step)
 exact wpAny_raiseNew_none hh hE
end
structure XMk (K:PySem.W.Frag) (mg:Str -> Option Value) (x:Str) (C fI:Addr) (bm:List Value) (f:Str):Prop where
 m:mg x = some (.ref C)
 lk:∃ nm q N bs hdct sn sub ab col dd k0 k1 k2 k3 k5,K.lookup C = some (excClassObj nm q C N bs bm hdct sn sub ab col dd k0 k1 k2 k3 k5 "ValueError.__new__")
 bx:bm.contains (.type "BaseException") = true
 tl:∀ h:Heap,K.In h -> OwnTail h dy bm
 ini:PySem.W.findIn K (.ref C) "__init__" = some (some (.ref fI))
 fn:∃ o,K.lookup fI = some o /\ o.cls = .type "function"
 xc:xx K C f
section
variable {X:Cx} {x f:Str} {np cpos pos:Pos} {e₀:Expr} {t:TA} {W:XW} {C fI:Addr} {bm:List Value} {k:Nat} {fd:FuncData} {ps:List Str}
noncomputable def uK (C:Addr) (f:Str) (W:XW) (t:TA):TS:=fun D σ H=>t σ H fun vs H1=>∃ v,vs = [v] /\ ∀ a d H2,aG H1 H2 -> H2 a = some (nF a C (some d)) -> H2 d = some (.xd [(f,v)]) -> W (.ref C) (some a) σ H2
theorem I0 {X:Cx} {pins:List (Addr × Obj)} {σ:St} {H:Hp} {s:Shared} {h':Heap} {e C:Addr} {us:List Value} (I:Inv X pins σ H s) (hm:Heap.MadeExcOf s.heap h' e (.ref C) us):
  H e = none /\ Inv X pins σ (upd H e (kb e C none)) { s with heap:=h' }:=by
 obtain ⟨t,he,_,_⟩:=hm.there
 exact ⟨u4 I hm.new,DL I hm.keeps hm.new (yA ⟨_,t,he,rfl,rfl,rfl⟩)⟩
theorem yW (M:XMk X.K X.mg x C fI bm f) (F:cw X.prog X.w X.K X.mg X.base (CXE X.prog X.w) k fI fd ps (rO C f)) (hb:Binds X.K fd ps []) (hr:gY (k + 1) X.A) (hT:Thr X W) (hg:Gl X x) (ha:PA X [e₀] t)
  (he:isStar e₀ = false:=by rfl) (hd:(x == ("__debug__":Str)) = false:=by decide):
  PS X (.Raise (some (.Call (.Name x np) [e₀] [] cpos)) none pos) (uK C f W t):=by
 intro pins s σ H D I h
 have FB:=PySem.F.excBase_ValueError
 obtain ⟨nm,q,N,bs,hdct,sn,sub,ab,col,dd,k0,k1,k2,k3,k5,lk⟩:=M.lk
 obtain ⟨oI,lI,cI⟩:=M.fn
 have hpl:(backTo cpos (starEach [e₀] X.env)).any (·.1) = false:=by rw [nj he]; rfl
 have hsp:=ha cpos pins s σ H _ I h
 rw [arm_exec_Raise]
 refine wpAny_bind (wpAny_standAt (wX (C:=C) (nm:=nm) (q:=q) (N:=N) (bs:=bs) (bm:=bm) (hdct:=hdct) (sn:=sn) (sub:=sub) (ab:=ab) (col:=col) (dd:=dd) (k0:=k0) (k1:=k1) (k2:=k2) (k3:=k3) (k5:=k5) (newId:="ValueError.__new__") M.bx hr.hd
  (wpAny_bind (wpAny_mono (wpAny_Call_ofName (lr I hg M.m ?_ hd)) (fun v s₃ h₃=>wpAny_bind (wpAny_standAt (wpAny_pure h₃))) fun _ _ x=>x))))
 unfold callWith
 refine wpAny_bind (wpAny_holding ?_)
 rw [nj he] at hsp
 rw [nj he]
 refine Calls.evalArgs_plain (wpAny_mono hsp (fun us s2 h2=>wpAny_bind (wpAny_standAt ?_)) fun _ _ y=>y)
 obtain ⟨vs,H2,I2,r,v,rfl,wv⟩:=h2
 obtain ⟨u,rfl,ru⟩:=vals1 r
 obtain ⟨hp,g,d,tk,os⟩:=s2
 have hpl':(backTo cpos ((false,eval e₀ X.env) ::starEach [] X.env)).any (·.1) = false:=rfl
 simp only [hpl']
 have hC:=I2.kIn _ _ lk
 refine wpAny_bind (wpAny_keeperOf_exc hC ?_)
 refine wpAny_bind (Bq FB (M.tl _ I2.kIn) I2.kIn hC M.ini (I2.kIn _ _ lI) cI (fun h' e hm=>?_) (by show 1 <= sizeLine; decide))
 obtain ⟨nE,I3⟩:=I0 I2 hm
 have hsp3:rO C f [.ref e,v] (upd H2 e (kb e C none)) (fun z H4=>z = .non /\ ∃ dd,aG H2 H4 /\ H4 e = some (kb e C (some dd)) /\ H4 dd = some (.xd [(f,v)])) (fun _ _ _=>False):=by
  refine ⟨e,v,rfl,bg,fun dd nd=>⟨rfl,dd,?_,?_,bg⟩⟩
  . have ne:dd ≠ e:=fun z=>by rw [z,bg] at nd; cases nd
    intro b o hb
    have nb:b ≠ e:=uD hb nE
    have nd2:b ≠ dd:=fun z=>by rw [z] at hb; rw [aY ne,hb] at nd; cases nd
    rw [aY nd2,aY nb,aY nb]; exact hb
  . have ne:e ≠ dd:=fun z=>by rw [<- z,bg] at nd; cases nd
    rw [aY ne,bg]
 have hl:([Value.ref e,u] ++ []).length = ps.length:=by
  have e1:=F.len _ _ _ _ hsp3
  rw [<- e1]; rfl
 refine wpAny_call (codeAny_mono (F.run _ X.stack _ _ ⟨[Value.ref e,u],[]⟩ ([Value.ref e,u] ++ []) [.ref e,v] _ _ (hr.make C [u] []) (I3.EB.make C [u] []) (hb _ [Value.ref e,u] I3.kIn hl) (.cons rfl (.cons ru .nil)) hsp3) fun r s' hq'=>?_)
 cases r with
 | error e'=>
   obtain ⟨_,_,_,_,_,_,_,_,_,_,z⟩:=hq'
   exact z.elim
 | ok fl=>
   cases fl with
   | next=>exact False.elim hq'
   | brk=>exact False.elim hq'
   | cont=>exact False.elim hq'
   | ret u'=>
     obtain ⟨z,H4,I4,rz,ez,dd',sm,h4,h5⟩:=I3.after hq'
     subst ez
     obtain ⟨⟨o4,tt,g4,c4,d4,f4⟩,_,_⟩:=I4.hok e _ h4
     refine ⟨rz,wpAny_bind (wpAny_holding (wpAny_point (wpAny_pure ?_)))⟩
     obtain ⟨oc,od,oda,osl⟩:=o4
     dsimp only at c4 d4 f4
     subst c4 d4 f4
     refine ⟨e,some dd',tt,osl,rfl,I4.kIn _ _ lk,g4,?_⟩
     obtain ⟨hh,gg,d2,t2,o2⟩:=s'
     have I5:=I4.write (x:=e) (e:=e) (o:=nF e C (some dd')) (t':=t2) (h':=hh) (by rw [h4]; trivial) (.inl rfl) (fun b u hb q=>q) ⟨_,g4⟩ (xM (AE.exc ⟨_,tt,g4,rfl,rfl,rfl⟩))
     have ned:dd' ≠ e:=fun z=>by rw [z,h4] at h5; cases h5
     have sm2:aG H2 (upd H4 e (nF e C (some dd'))):=fun b o hb=>by
      have nb:b ≠ e:=uD hb nE
      rw [aY nb]; exact sm b o hb
     exact hT pins σ _ _ e C (some dd') I5 ⟨bg,_,_,g4,rfl,.inl rfl⟩ (wv e dd' _ sm2 bg (by rw [aY ned]; exact h5))
end
end L2.E
namespace L2.E
open PySem PySem.Spec PyProof.Rows L2
theorem zt {X:Cx} {x f:Str} {np cpos pos:Pos} {e₀:Expr} {t:TA} {W:XW} {C fI:Addr} {bm:List Value} {k:Nat} {fd:FuncData} {ps:List Str} (M:XMk X.K X.mg x C fI bm f) (F:cw X.prog X.w X.K X.mg X.base (CXE X.prog X.w) k fI fd ps (rO C f)) (hb:Binds X.K fd ps []) (hr:gY (k + 1) X.A) (hT:Thr X W) (hg:Gl X x) (ha:QA X [e₀] t)
  (he:isStar e₀ = false:=by rfl) (hd:(x == ("__debug__":Str)) = false:=by decide):QS X (.Raise (some (.Call (.Name x np) [e₀] [] cpos)) none pos) (uK C f W t):=⟨yW M F hb hr hT hg ha.out he hd⟩
theorem C8 {K:PySem.W.Frag} {G:Addr} {bm:List Value} (eG:lJ K G bm) (q:PySem.W.excIn K G dy "ValueError.__new__" = true):∀ h:Heap,K.In h -> OwnTail h dy (.ref G ::bm):=by
 intro h Xh
 have O:=xY (mg:=fun _=>some (.ref G)) (x:="") Xh rfl q
 obtain ⟨tl,N,nm,q',bs,hdct,sn,sub,ab,col,dd,k0,k1,k2,k3,k5,mN,hc,hN,hni,T⟩:=O.obj
 obtain ⟨_,nm2,q2,N2,bs2,hd2,sn2,sub2,ab2,col2,dd2,j0,j1,j2,j3,j5,nid,lG⟩:=eG
 have e:=Xh _ _ lG
 rw [hc] at e
 have e1:tl = bm:=by
  have e':=Option.some.inj e
  unfold excClassObj at e'
  simp only [Obj.mk.injEq,Data.cls.injEq,ClassData.mk.injEq,List.cons.injEq] at e'
  exact e'.2.2.1.2.2.1.2
 subst e1
 exact OwnTail.own hc hN hni T
theorem yV {K:PySem.W.Frag} {nm q:Str} {C N:Addr} {bs bm:List Value} {hdct:Bool} {sn:List Str} {sub:List Value} {ab:Bool} {col:Option Bool} {dd:Option Addr} {k0 k1 k2 k3 k5:Option Value} {newId:String}
  (l:K.lookup C = some (excClassObj nm q C N bs bm hdct sn sub ab col dd k0 k1 k2 k3 k5 newId)) (h:dM (.ref C ::bm) = true):rY K C = true:=by
 unfold rY PySem.W.clsIn
 rw [l]
 exact h
theorem B6 {P:Program} {w:World} {K:PySem.W.Frag} {mg:Str -> Option Value} {base:Heap} {C fI:Addr} {fd:FuncData} {st:Stmt} {x qual:Str} {n0 n1 f:Str} (F:Fun K x qual st fI fd) (S:aT [n0,n1] [n0,n1] (av st)) (xc:xx K C f)
  (hbody:∀ (cdv:Value) (A:Around) (outer:List Env) (s:Shared) (H:Hp) (E:XK),QSs (oJ (CXE P w) P w K mg base [n0,n1] qual (av st) fI cdv A outer s H E) (aS st) (Ar K (rK 0) (rK 1) f)):
  cw P w K mg base (CXE P w) 1 fI fd [n0,n1] (rO C f):=
 okX F S (fun vs H Q E h=>by obtain ⟨a,v,rfl,_⟩:=h; rfl) fun cdv A outer s H vs Q E hr h=>by
  obtain ⟨a,v,rfl,hH,q⟩:=h
  exact ⟨_,(hbody cdv A outer s H E).out,_,rfl,_,rfl,a,C,rfl,hH,xc,fun d nd=>q d nd⟩
theorem A5 {X:Cx} {o value:Expr} {ta tv:TE} {f:Str} {pos pos':Pos} (ha:QE X o ta) (hv:QE X value tv) (hs:swapsWith value (some (.Attribute o f pos')) pos.line X.env = pure false:=by rfl):QSs X [.Assign [.Attribute o f pos'] value pos] (Ar X.K ta tv f):=⟨yi (CO ha.out hv.out hs)⟩
theorem FJ {X:Cx} {o i:Expr} {to ti:TE} {t:CW} {pos:Pos} (ho:QE X o to) (hi:QE X i ti) (hs:EJ X t)
  (ha:∀ v,assign (.Subscript o i pos) X.env v = (do
    let ov <- holding [v] (eval o X.env)
    let iv <- holding [v,ov] (eval i X.env)
    standAt pos
    holding [v,ov,iv] (setItem ov iv v)
    release [v,ov,iv] []):=by intro _; rfl):QG X (.Subscript o i pos) (Fp to ti t):=⟨Fg ho.out hi.out hs ha⟩
end L2.E
namespace L2.P
open PySem PySem.Spec PyProof.Rows L2 L2.E
section
variable {K:PySem.W.Frag} {cls:String -> Option Addr} {W:XW} {S H:Hp}
theorem zc {C:Addr} {c:String} {f:Str} {t:TA} {ma:ae -> OA} (hc:cls c = some C) (ha:JA K cls W t ma):JS K cls W (uK C f W t) (tS c f ma):=by
 intro Av G S₀ ρ σ S H D I p
 refine ha.goS I p fun xs vs S1 H1 I1 w1 r1 p1=>?_
 match xs,r1,p1 with
 | [x],r1,p1=>
   obtain ⟨v,r,rfl,q1,r2⟩:=r1.cons_inv
   obtain rfl:=r2.nil_inv
   exact ⟨v,rfl,fun a d H2 sm h4 h5=>p1 a C σ S1 H2 (I1.same sm) (aG.refl _) ⟨hc,some d,h4,.inr ⟨d,[(f,v)],rfl,h5,rfl,.cons q1 .nil⟩⟩⟩
 | [],r1,p1=>exact p1.elim
 | _ ::_ ::_,r1,p1=>exact p1.elim
theorem bL.rep {xs:List PV} {vs:List V} (h:bL K S xs vs) (k:Nat):bL K S (List.replicate k xs).flatten (List.replicate k vs).flatten:=by
 induction k with
 | zero=>exact .nil
 | succ k ih=>rw [List.replicate_succ,List.replicate_succ,List.flatten_cons,List.flatten_cons]; exact h.append ih
theorem ux {ta tb:TE} {ma mb:ae -> OE} (ha:JE K cls W ta ma) (hb:JE K cls W tb mb):JE K cls W (tOp Hb ta tb) (pz ma mb):=by
 intro Av G S₀ ρ σ S H Q I p
 refine ha.go I p fun a v S1 H1 I1 w1 r1 p1=>hb.go I1 p1 fun b u S2 H2 I2 w2 r2 p2=>?_
 cases a with
 | sh x=>exact p2.elim
 | al xs=>exact p2.elim
 | fr xs=>
   have rb:=r2.rd I2.sh
   cases e:b.pv with
   | int k=>
     rw [e] at p2 rb
     obtain ⟨q,vs,rfl,k1,k2,k3,k4⟩:=r1
     have hu:=dO rb
     subst hu
     dsimp only at p2
     split at p2
     . rename_i hc
       refine ⟨q,k,vs,rfl,rfl,w2.g _ _ k3,hc.1.1,hc.1.2,by rw [k4.length,<- xp]; exact hc.2,fun z hz=>p2 _ S2 _ (bu.heap I2.sh hz) ⟨z,_,rfl,hz,I2.sh.free hz,bg,(k4.mono w2.s).rep _⟩⟩
     . exact p2.elim
   | _=>rw [e] at p2; exact p2.elim
theorem FY {i:Nat} {tk tv:TE} {mk mv:ae -> OE} (hk:JE K cls W tk mk) (hv:JE K cls W tv mv):JS K cls W (sk tv (Fp (rK i) tk DN)) (Cs i mk mv):=by
 intro Av G S₀ ρ σ S H D I p
 unfold Cs at p
 split at p
 . rename_i xs e
   refine hv Av G S₀ ρ σ S H _ I ?_
   cases em:mv ρ with
   | exc c fs=>rw [em] at p; exact fun a C S' H' w x=>p a C σ S' H' (I.grow w) w.s x
   | bad=>rw [em] at p; exact p
   | ok r=>
     rw [em] at p
     intro u S1 H1 w1 r1
     simp only [OE.bO] at p
     cases es:kn r with
     | none=>rw [es] at p; exact p.elim
     | some y=>
       rw [es] at p
       obtain ⟨S2,w2,s2,rx⟩:=r1.share w1 es
       have I2:=I.grow w2
       obtain ⟨v,e1,a,vs,rfl,h1,h2,h3,h4⟩:=I2.good i _ e
       refine ⟨_,e1,?_⟩
       refine hk.goS I2 (p.back w2.s) fun kk z S3 H3 I3 w3 r3 p3=>?_
       have rk:=r3.rd I3.sh
       cases ek:kk.pv with
       | int k=>
         rw [ek] at p3 rk
         have hz:=dO rk
         subst hz
         dsimp only at p3
         cases ej:ixP xs.length k with
         | none=>rw [ej] at p3; exact p3.elim
         | some j=>
           rw [ej] at p3
           refine ⟨a,vs,k,j,rfl,rfl,w3.g _ _ h3,by rw [h4.length]; exact ej,?_⟩
           exact p3 σ S3 _ (I3.mut e e1 ((h4.mono w3.s).set (Rep.mono w3.s rx) j)) (aG.refl _)
       | _=>rw [ek] at p3; exact p3.elim
 . exact p.elim
end
end L2.P
namespace L2.P
open PySem
inductive Stp where
 | ix (k:Nat) | fd (f:Str)
noncomputable def my:List Str -> List OV -> Str -> Option OV
 | k ::ks,t ::ts,f=>if k = f then some t else my ks ts f
 | _,_,_=>none
noncomputable def sf:List Str -> List OV -> Str -> OV -> List OV
 | k ::ks,t ::ts,f,u=>if k = f then u ::ts else t ::sf ks ts f u
 | _,ts,_,_=>ts
noncomputable def OV.at1:OV -> Stp -> Option OV
 | .ol ts,.ix k=>ts[k]?
 | .ob _ ks ts,.fd f=>my ks ts f
 | _,_=>none
noncomputable def OV.zQ:OV -> Stp -> OV -> OV
 | .ol ts,.ix k,u=>.ol (ts.set k u)
 | .ob c ks ts,.fd f,u=>.ob c ks (sf ks ts f u)
 | t,_,_=>t
noncomputable def OV.get:OV -> List Stp -> Option OV
 | t,[]=>some t
 | t,s ::π=>(t.at1 s).bind fun u=>u.get π
noncomputable def OV.put:OV -> List Stp -> OV -> OV
 | _,[],u=>u
 | t,s ::π,u=>match t.at1 s with
   | some t'=>t.zQ s (t'.put π u)
   | none=>t
noncomputable def slT:Sl -> Option OV
 | .tr _ t=>some t
 | .bo t=>some t
 | _=>none
noncomputable def jU (i:Nat) (ρ:ae):Option OV:=match ρ[i]? with
 | some (some s)=>slT s
 | _=>none
abbrev MP:=ae -> Option (List Stp)
noncomputable def fe:MP:=fun _=>some []
noncomputable def pIx (i:Nat) (mp:MP) (mk:ae -> OE):MP:=fun ρ=>match jU i ρ with
 | some t=>(match mp ρ with
   | some π=>(match t.get π with
     | some (.ol ts)=>(match mk ρ with
       | .ok r=>(match r.pv with
         | .int k=>(ixP ts.length k).map fun j=>π ++ [.ix j]
         | _=>none)
       | _=>none)
     | _=>none)
   | none=>none)
 | none=>none
noncomputable def subAt (i:Nat) (mp:MP) (ρ:ae):Option OV:=match jU i ρ with
 | some t=>(match mp ρ with
   | some π=>t.get π
   | none=>none)
 | none=>none
noncomputable def pFd (i:Nat) (mp:MP) (f:Str) (ok:String -> Bool):MP:=fun ρ=>match subAt i mp ρ with
 | some (.ob c ks ts)=>if (ok c && (my ks ts f).isSome) = true then (mp ρ).map fun π=>π ++ [.fd f] else none
 | _=>none
noncomputable def vv:List OV -> Option (List PV)
 | []=>some []
 | .sh x ::r=>(vv r).map (x ::·)
 | _ ::_=>none
@[simp] theorem sL (xs:List PV):vv (xs.map .sh) = some xs:=by
  induction xs with
  | nil=>rfl
  | cons x xs ih=>show (vv (xs.map .sh)).map (x ::·) = _; rw [ih]; rfl
noncomputable def qd (i:Nat) (mp:MP):ae -> OE:=fun ρ=>match subAt i mp ρ with
 | some (.sh x)=>.ok (.sh x)
 | some (.ol ts)=>(match vv ts with
   | some xs=>.ok (.al xs)
   | none=>.bad)
 | _=>.bad
noncomputable def oA (i:Nat) (mp:MP):ae -> OT:=fun ρ=>match subAt i mp ρ with
 | some (.ol ts)=>.ok (!ts.isEmpty)
 | _=>.bad
inductive OD where
 | ok (t:OV) | exc (c:String) (fs:XF) | bad
inductive ODs where
 | ok (ts:List OV) | exc (c:String) (fs:XF) | bad
noncomputable def mD (me:ae -> OE):ae -> OD:=fun ρ=>match me ρ with
 | .ok (.sh x)=>.ok (.sh x)
 | .ok (.fr xs)=>.ok (.ol (xs.map .sh))
 | .ok (.al _)=>.bad
 | .exc c fs=>.exc c fs
 | .bad=>.bad
noncomputable def mDc (md:ae -> OD) (mr:ae -> ODs):ae -> ODs:=fun ρ=>match md ρ with
 | .ok t=>(match mr ρ with
   | .ok ts=>.ok (t ::ts)
   | .exc c fs=>.exc c fs
   | .bad=>.bad)
 | .exc c fs=>.exc c fs
 | .bad=>.bad
noncomputable def p0 (i:Nat) (md:ae -> OD):ae -> OS:=fun ρ=>match md ρ with
 | .ok t=>.nx (ρ.set i (some (.tr false t)))
 | .exc c fs=>.exc ρ c fs
 | .bad=>.bad
noncomputable def wQ (i:Nat) (mp:MP) (ρ:ae) (k:OV -> (OV -> ae) -> OS):OS:=match ρ[i]? with
 | some (some (.tr io t))=>(match mp ρ with
   | some π=>(match t.get π with
     | some u=>k u fun u'=>ρ.set i (some (.tr io (t.put π u')))
     | none=>.bad)
   | none=>.bad)
 | _=>.bad
noncomputable def mI (i:Nat) (mp:MP) (md:ae -> OD):ae -> OS:=fun ρ=>wQ i mp ρ fun u put=>match u with
 | .ol ts=>(match md ρ with
   | .ok x=>if ts.length < lim then .nx (put (.ol (ts ++ [x]))) else .bad
   | .exc c fs=>.exc ρ c fs
   | .bad=>.bad)
 | _=>.bad
noncomputable def lU (i:Nat) (mp:MP) (me:ae -> OE):ae -> OS:=fun ρ=>wQ i mp ρ fun u put=>match u with
 | .ol ts=>(me ρ).bO ρ fun r=>(match r with
   | .fr ys=>if ts.length + ys.length <= lim then .nx (put (.ol (ts ++ ys.map .sh))) else .bad
   | _=>.bad)
 | _=>.bad
noncomputable def AD (i:Nat) (mp:MP) (f:Str) (okc:String -> Bool) (md:ae -> OD):ae -> OS:=fun ρ=>match md ρ with
 | .ok x=>wQ i mp ρ fun u put=>(match u with
   | .ob c ks ts=>if (okc c && decide (ks.length < 1000)) = true then (if ks.contains f = true then .nx (put (.ob c ks (sf ks ts f x))) else .nx (put (.ob c (ks ++ [f]) (ts ++ [x])))) else .bad
   | _=>.bad)
 | .exc c fs=>.exc ρ c fs
 | .bad=>.bad
inductive OX where
 | ok (ρ:ae) (s:Sl) | exc (ρ:ae) (c:String) (fs:XF) | bad
noncomputable def slO:OV -> Sl
 | .sh x=>.sh x
 | t=>.tr false t
noncomputable def nP (i:Nat) (mp:MP):ae -> OX:=fun ρ=>match ρ[i]? with
 | some (some (.tr io t))=>(match mp ρ with
   | some π=>(match t.get π with
     | some (.ol ts)=>(match ts.getLast? with
       | some x=>.ok (ρ.set i (some (.tr io (t.put π (.ol ts.dropLast))))) (slO x)
       | none=>.bad)
     | _=>.bad)
   | none=>.bad)
 | _=>.bad
noncomputable def nio:Sl -> Bool
 | .tr true _=>false
 | .bo _=>false
 | _=>true
noncomputable def mT (i:Nat) (m:ae -> OX):ae -> OS:=fun ρ=>match m ρ with
 | .ok ρ' s=>if nio s then .nx (ρ'.set i (some s)) else .bad
 | .exc ρ' c fs=>.exc ρ' c fs
 | .bad=>.bad
noncomputable def CC (neg:Bool) (m:ae -> OX) (a b:ae -> OS):ae -> OS:=fun ρ=>match m ρ with
 | .ok ρ' (.sh x)=>(match qV x with
   | some k=>if (k != neg) = true then a ρ' else b ρ'
   | none=>.bad)
 | .ok _ _=>.bad
 | .exc ρ' c fs=>.exc ρ' c fs
 | .bad=>.bad
mutual
noncomputable def pvO:OV -> Option PV
 | .sh x=>some x
 | .ol ts=>(G5 ts).map .lst
 | .ob _ _ _=>none
 | .di _=>none
 | .dt _=>none
noncomputable def G5:List OV -> Option (List PV)
 | []=>some []
 | t ::ts=>(pvO t).bind fun x=>(G5 ts).map (x ::·)
end
noncomputable def HY (i:Nat) (ρ:ae):ae:=match ρ[i]? with
 | some (some (.tr false t))=>(match pvO t with
   | some x=>ρ.set i (some (.sh x))
   | none=>ρ)
 | _=>ρ
inductive OI where
 | ok (x:PV) (outs:List (Option OV)) | exc (c:String) (fs:XF) (outs:List (Option OV)) | bad
inductive Arg where
 | e (me:ae -> OE) | t (i:Nat) (mp:MP) | b (i:Nat) (mp:MP)
noncomputable def sF:Option Sl -> Option OV
 | some (.tr true t)=>some t
 | _=>none
noncomputable def wR (np:Nat):OS -> OI
 | .nx ρ=>.ok .non ((ρ.take np).map sF)
 | .rt ρ (.sh x)=>.ok x ((ρ.take np).map sF)
 | .exc ρ c fs=>.exc c fs ((ρ.take np).map sF)
 | _=>.bad
noncomputable def kB (n:Nat) (as:List Sl):ae:=as.map some ++ List.replicate (n - as.length) none
noncomputable def fnI (np n:Nat) (m:ae -> OS) (as:List Sl):OI:=if as.length = np then wR np (m (kB n as)) else .bad
noncomputable def kY (a:Arg) (ρ:ae):Option Sl:=match a with
 | .e me=>(match me ρ with
   | .ok r=>(kn r).map .sh
   | _=>none)
 | .t i mp=>(match ρ[i]? with
   | some (some (.tr _ t))=>((mp ρ).bind fun π=>t.get π).map (.tr true)
   | _=>none)
 | .b i mp=>(subAt i mp ρ).map .bo
noncomputable def kx:List Arg -> ae -> Option (List Sl)
 | [],_=>some []
 | a ::as,ρ=>(kY a ρ).bind fun s=>(kx as ρ).map (s ::·)
noncomputable def ki (ρ₀:ae):Arg -> Option OV -> ae -> ae
 | .t i mp,some u,ρ=>(match ρ[i]? with
   | some (some (.tr io t))=>(match mp ρ₀ with
     | some π=>ρ.set i (some (.tr io (t.put π u)))
     | none=>ρ.set i none)
   | _=>ρ.set i none)
 | .t i _,none,ρ=>ρ.set i none
 | _,_,ρ=>ρ
noncomputable def gd (ρ₀:ae):List Arg -> List (Option OV) -> ae -> ae
 | [],_,ρ=>ρ
 | a ::as,us,ρ=>gd ρ₀ as us.tail (ki ρ₀ a us.head?.join ρ)
noncomputable def um (f:List Sl -> OI) (as:List Arg):ae -> OX:=fun ρ=>match kx as ρ with
 | some ss=>(match f ss with
   | .ok x outs=>.ok (gd ρ as outs ρ) (.sh x)
   | .exc c fs outs=>.exc (gd ρ as outs ρ) c fs
   | .bad=>.bad)
 | none=>.bad
noncomputable def uk (f:List Sl -> OI) (as:List Arg):ae -> OE:=fun ρ=>match kx as ρ with
 | some ss=>(match f ss with
   | .ok x _=>.ok (.sh x)
   | .exc c fs _=>.exc c fs
   | .bad=>.bad)
 | none=>.bad
noncomputable def recv (c:String) (m:Str):Option Sl -> Bool
 | some (.tr true (.ob c' ks _))=>c' == c && !ks.contains m
 | some (.bo (.ob c' ks _))=>c' == c && !ks.contains m
 | _=>false
noncomputable def mQ (c:String) (m:Str) (f:List Sl -> OI) (as:List Arg):ae -> OX:=fun ρ=>match as with
 | a ::_=>if recv c m (kY a ρ) = true then um f as ρ else .bad
 | []=>.bad
noncomputable def lb (c:String) (m:Str) (f:List Sl -> OI) (as:List Arg):ae -> OE:=fun ρ=>match as with
 | a ::_=>if recv c m (kY a ρ) = true then uk f as ρ else .bad
 | []=>.bad
noncomputable def sW (c:String) (f:List Sl -> OI):ae -> OD:=fun _=>match f [.tr true (.ob c [] [])] with
 | .ok .non (some t ::_)=>.ok t
 | _=>.bad
noncomputable def kH (i j:Nat) (mb:ae -> OS):List PV -> ae -> OS
 | [],ρ=>.nx ρ
 | .tup [x,y] ::xs,ρ=>(mb ((ρ.set i (some (.sh x))).set j (some (.sh y)))).turn (kH i j mb xs)
 | _ ::_,_=>.bad
noncomputable def p5 (k:Nat):List PV -> List PV
 | []=>[]
 | x ::xs=>.tup [.int k,x] ::p5 (k + 1) xs
noncomputable def yr (i j:Nat) (ml:ae -> OE) (mb:ae -> OS):ae -> OS:=fun ρ=>(ml ρ).bO ρ fun r=>match wU r with
 | some xs=>kH i j mb (p5 0 xs) ρ
 | none=>.bad
noncomputable def rj (ml:ae -> OE) (ι:List Nat) (me:ae -> OE):ae -> OE:=fun ρ=>(ml ρ).bind fun r=>match r.pv with
 | .tup xs=>noX (dC me (dQ ι ρ) xs)
 | _=>.bad
noncomputable def g8 (mc:ae -> OT) (me:ae -> OE) (ρ:ae):List PV -> OA
 | []=>.ok []
 | x ::xs=>(match mc (ρ ++ [some (.sh x)]) with
   | .ok true=>(me (ρ ++ [some (.sh x)])).fH fun r=>(match kn r with
     | some y=>(g8 mc me ρ xs).fH fun ys=>.ok (y ::ys)
     | none=>.bad)
   | .ok false=>g8 mc me ρ xs
   | _=>.bad)
noncomputable def rq (ml:ae -> OE) (ι:List Nat) (mc:ae -> OT) (me:ae -> OE):ae -> OE:=fun ρ=>(ml ρ).bind fun r=>match r.pv with
 | .lst xs=>noX (g8 mc me (dQ ι ρ) xs)
 | _=>.bad
noncomputable def Di (ma ms:ae -> OE):ae -> OE:=fun ρ=>(ma ρ).bind fun a=>(ms ρ).bind fun k=>match a.pv,k.pv with
 | .lst xs,.int k=>if k = -1 then .ok (.fr xs.reverse) else .bad
 | _,_=>.bad
noncomputable def IG:PV -> Option RV
 | .lst xs=>some (.sh (.tup xs))
 | .tup xs=>some (.sh (.tup xs))
 | _=>none
mutual
noncomputable def eV:PV -> PV -> Bool
 | .non,y=>(match y with | .non=>true | _=>false)
 | .bl a,y=>(match y with | .bl b=>a == b | .int j=>(if a then 1 else 0) == j | _=>false)
 | .int i,y=>(match y with | .bl b=>i == (if b then 1 else 0) | .int j=>i == j | _=>false)
 | .str x,y=>(match y with | .str z=>x == z | _=>false)
 | .lst xs,y=>(match y with | .lst ys=>rQ xs ys | _=>false)
 | .tup xs,y=>(match y with | .tup ys=>rQ xs ys | _=>false)
noncomputable def rQ:List PV -> List PV -> Bool
 | [],ys=>(match ys with | []=>true | _ ::_=>false)
 | x ::xs,ys=>(match ys with | y ::ys=>eV x y && rQ xs ys | []=>false)
end
mutual
noncomputable def oK:PV -> Nat -> Bool
 | .str x,_=>x.cps.all (· < 0x110000)
 | .lst xs,n=>(match n with | 0=>false | n + 1=>tG xs n)
 | .tup xs,n=>(match n with | 0=>false | n + 1=>tG xs n)
 | _,_=>true
noncomputable def tG:List PV -> Nat -> Bool
 | [],_=>true
 | x ::xs,n=>oK x n && tG xs n
end
noncomputable def Bc:PV -> PV -> Option RV:=fun x y=>if (oK x 64 && oK y 64) = true then some (.sh (.bl (eV x y))) else none
noncomputable def b7:PV -> Bool
 | .lst _=>false
 | .tup _=>false
 | _=>true
noncomputable def eW:PV -> PV -> Option Bool
 | x,.tup ys=>if ys.all b7 = true then some (ys.any fun y=>eV y x) else none
 | x,.lst ys=>if ys.all b7 = true then some (ys.any fun y=>eV y x) else none
 | _,_=>none
noncomputable def gIn:PV -> PV -> Option RV:=fun x y=>(eW x y).map fun b=>.sh (.bl b)
noncomputable def jm:PV -> PV -> Option RV:=fun x y=>(eW x y).map fun b=>.sh (.bl (!b))
end L2.P
namespace L2.P
open PySem
noncomputable def yB (kvs:List (Int × PV)):PV -> Option RV
 | .int n=>(kvs.lookup n).map .sh
 | _=>none
noncomputable def gD (kvs:List (Int × PV)):PV -> Option RV
 | .int n=>some (.sh ((kvs.lookup n).getD .non))
 | _=>none
end L2.P
namespace L2.P
open PySem
end L2.P
namespace L2
open PySem PySem.Spec PyProof.Rows
section
variable {X:Cx} {pins:List (Addr × Obj)} {σ:St} {H:Hp} {s:Shared} {h':Heap}
theorem Inv.y6 {t':Nat} {its:List Addr} {a:Addr} {o:HO} (I:Inv X pins σ H s) (k:∀ b u,b ∉ its -> s.heap.get? b = some u -> h'.get? b = some u) (hf:∀ b ∈ its,mR X pins H b)
  (hp:s.heap.objs.size <= a) (new:iI X.prog X.w (upd H a o) h' a o):Inv X pins σ (upd H a o) { s with heap:=h',toks:=t' }:=by
 have hn:=I.hok.fresh hp
 have nit:∀ b u,H b = some u -> b ∉ its:=fun b u e z=>by rw [(hf b z).1] at e; cases e
 refine I.step (g':=s.gens) (d':=s.drawn) (ch:=its) (fun b hb=>?_) (fun b u _ _ hc e _=>k b u hc e) (fun b u _ _ hc e _=>⟨u.slots,k b u hc e⟩)
  (fun b u _ q n=>by rw [aY (Nat.ne_of_lt (Nat.lt_of_lt_of_le (Heap.lt_size q) hp))]; exact n)
  (fun b u hc e=>⟨u,k b u hc e⟩) (fun b xs q=>by rw [aY (cS q hn)]; exact q) (fun b u xs q=>by rw [aY (cS q hn)]; exact q) (fun b ps q=>⟨#[],by rw [aY (cS q hn),q]; simp⟩) (fun m hm=>?_) (fun b u e=>?_) I.bare
 . obtain ⟨_,f1,f2,f3,f4,f5⟩:=hf b hb
   exact ⟨f3,f1,f4,f5⟩
 . obtain ⟨ob,es,ep,ho,r⟩:=hm
   exact ⟨ob,es,ep,k _ ob (fun z=>(hf _ z).2.1 rfl) ho,r⟩
 . by_cases hb:b = a
   . subst hb; rw [bg] at e; cases e; exact new
   . rw [aY hb] at e
     refine (I.hok b u e).n8 (fun c v hc q=>k c v ?_ q) (fun c q=>by rw [aY (cS q hn)]; exact q) fun c xs q=>by rw [aY (cS q hn)]; exact q
     rcases hc with z | z
     . rw [z]; exact nit b u e
     . exact nit c _ z
end
noncomputable def Ite (K:PySem.W.Frag) (a:Addr):It:=
 ⟨fun i H=>∃ xs x,SqL K H a xs /\ xs[i]? = some x,fun i H v H'=>∃ t x,(∀ xs,SqL K H a xs -> xs[i]? = some x) /\ H t = none /\ v = .ref t /\ H' = upd H t (.tup [.int i,x]),fun i H=>∃ xs,SqL K H a xs /\ xs.length <= i⟩
theorem zC {P:Program} {w:World} {K:PySem.W.Frag} {elts:List Expr} {k:Nat} {pos:Pos} (a e it:Addr) (hei:e ≠ it):
  Turn P w K (.Tuple elts k pos) (Ite K a) [e,it] e (fun i h=>(∃ old,IsEnum h e it i old) /\ h.IsListIter it a i) where
 mem:=by simp
 obj:=fun i h st b hb=>by
  obtain ⟨⟨old,h1⟩,o,h2,c,d⟩:=st
  rcases List.mem_cons.mp hb with z | z
  . subst z; exact ⟨_,h1,fun v z=>by cases z⟩
  . have z':b = it:=by simpa using z
    subst z'; exact ⟨o,h2,fun v z=>by rw [d] at z; cases z⟩
 keep:=fun i h h' st k=>by
  obtain ⟨⟨old,h1⟩,h2⟩:=st
  exact ⟨⟨old,k e (by simp) _ h1⟩,h2.at fun o x=>k it (by simp) o x⟩
 item:=by
  intro X hP hw hK hc i pins s σ H E I hf st hg
  subst hP hw hK
  obtain ⟨xs,x,hq,hx⟩:=hg
  obtain ⟨its,rv,p,hz⟩:=I.list hq
  obtain ⟨u,hu,ru⟩:=rv.get hx
  obtain ⟨⟨old,he⟩,hit⟩:=st
  refine wpAny_pyNext_enum_item he hit p.isList (x:=u) (by simpa using hu) hei fun h1 ho hit1 hT hsz hk=>⟨_,rfl,?_⟩
  refine wpAny_letOwnedTupleGo_enum ho fun h2 he2 hs2=>?_
  have hT2:h2.get? s.heap.objs.size = some { cls:=.type "tuple",data:=.seq #[.int i s.toks,u] }:=(hs2.2 _ (Nat.ne_of_gt (Heap.lt_size he))).trans hT
  have nH:H s.heap.objs.size = none:=I.hok.fresh (Nat.le_refl _)
  refine ⟨.ref s.heap.objs.size,upd H s.heap.objs.size (.tup [.int i,x]),I.y6 (its:=[e,it]) (t':=s.toks + 1) (fun b o hb q=>?_) hf (Nat.le_refl _) ?_,rfl,⟨_,x,fun ys hy=>by rw [I.vH hy hq]; exact hx,nH,rfl,rfl⟩,⟨⟨u,by simpa using he2⟩,?_⟩,fun b hb=>?_⟩
  . have nb:b ≠ e /\ b ≠ it:=by simpa using hb
    exact (hs2.2 b nb.1).trans (hk b o nb.1 nb.2 q)
  . exact ⟨by show 2 <= sizeLine; decide,[.int i s.toks,u],.cons ⟨_,rfl⟩ (.cons ru .nil),⟨_,hT2,rfl,_,rfl⟩⟩
  . exact hit1.at fun o y=>(hs2.2 it hei.symm).trans y
  . have:b < s.heap.objs.size:=by
     rcases List.mem_cons.mp hb with z | z
     . subst z; exact Heap.lt_size he
     . have z':b = it:=by simpa using z
       subst z'; obtain ⟨_,y,_⟩:=hit; exact Heap.lt_size y
    rw [aY (Nat.ne_of_lt this)]
    exact (hf b hb).1
 done:=by
  intro X hP hw hK hc i pins s σ H E I hf st hg
  subst hP hw hK
  obtain ⟨xs,hq,hx⟩:=hg
  obtain ⟨its,rv,p,hz⟩:=I.list hq
  obtain ⟨⟨old,he⟩,hit⟩:=st
  obtain ⟨f0,f1,f2,f3,f4,f5⟩:=hf it (by simp)
  have hl:=rv.length
  exact wpAny_pyNext_enum_end (I.ok.hd hc) he hit p.isList (by simp; omega) fun h' eb=>⟨rfl,I.turned (t':=s.toks) (fun b o hb e=>eb b o hb e) f0 f1 f3 f4 f5⟩
 self:=fun _ _ _ _ _ st h=>by
  obtain ⟨⟨old,he⟩,_⟩:=st
  exact wpAny_pyIter_enum he h
section
variable {X:Cx}
noncomputable def Ab (K:PySem.W.Frag) (ta:TA):TI:=fun σ H R=>ta σ H fun vs H1=>∃ a,vs = [.ref a] /\ (∃ xs,SqL K H1 a xs) /\ R (Ite K a) H1
theorem Dt {elts:List Expr} {k:Nat} {tp:Pos} {a:Expr} {ta:TA} {p pos:Pos} (hg:Gl X "enumerate") (hm:X.mg "enumerate" = none) (ha:PA X [a] ta) (hs:starEach [a] X.env = [(false,eval a X.env)]:=by rfl):
  PI X (.Tuple elts k tp) (.Call (.Name "enumerate" p) [a] [] pos) (Ab X.K ta):=by
 intro pins s σ H R I h
 refine Call_ (qG I hg hm (show bootBuiltins "enumerate" = some (.type "enumerate") by rfl) (PyProof.Rows.callWith_type1 (thn (ha pos pins s σ H _ I h) fun us s1 ⟨vs,H1,I1,r1,q1⟩=>?_) hs rfl))
 obtain ⟨l,e,⟨xs,hq⟩,q⟩:=q1
 subst e
 cases r1 with
 | cons r rr=>
   cases rr
   cases r
   obtain ⟨its,rv,p,hz⟩:=I1.list hq
   refine call_enumerate_list p.isList fun h' he hit hsz hk=>?_
   refine wpAny_pyIter_enum he ?_
   have I2:Inv X pins σ H1 { s1 with heap:=h' }:=I1.kept (t':=s1.toks) hk
   refine ⟨s1.heap.objs.size + 1,[s1.heap.objs.size + 1,s1.heap.objs.size],_,_,H1,rfl,I2,zC l _ _ (Nat.succ_ne_self _),⟨⟨.none,he⟩,hit⟩,fun b hb=>?_,q⟩
   have:s1.heap.objs.size <= b:=by
    rcases List.mem_cons.mp hb with z | z
    . subst z; exact Nat.le_succ _
    . have z':b = s1.heap.objs.size:=by simpa using z
      subst z'; exact Nat.le_refl _
   exact I1.yU this (I1.hok.fresh this)
end
theorem Bw {K:PySem.W.Frag} {a:Addr} {xs:List V} {g:TG} {tb:TS} {D:Ends} {σ:St} {H:Hp} (Pv:Nat -> St -> Hp -> Prop) (h0:Pv 0 σ H) (hl:∀ i σ H,i <= xs.length -> Pv i σ H -> SqL K H a xs)
  (hs:∀ i x σ H t,xs[i]? = some x -> Pv i σ H -> H t = none -> g (.ref t) σ (upd H t (.tup [.int i,x])) fun σ2 H2=>tb { D with nx:=Pv (i + 1),ct:=Pv (i + 1),bk:=D.nx } σ2 H2) (hd:∀ σ H,Pv xs.length σ H -> D.nx σ H):
  ∃ W:Nat -> Nat -> St -> Hp -> Prop,(∃ m,W 0 m σ H) /\ ∀ i m σ H,W i m σ H ->
    ((Ite K a).stop i H /\ D.nx σ H) \/ ((Ite K a).go i H /\ ∃ N:St -> Hp -> Prop,(∀ σ' H',N σ' H' -> ∃ m',m' < m /\ W (i + 1) m' σ' H') /\ ∀ x H',(Ite K a).yld i H x H' -> g x σ H' fun σ2 H2=>tb { D with nx:=N,ct:=N,bk:=D.nx } σ2 H2):=by
 refine ⟨fun i m σ H=>m = xs.length - i /\ i <= xs.length /\ Pv i σ H,⟨xs.length,by simp,Nat.zero_le _,h0⟩,?_⟩
 rintro i m σ H ⟨rfl,hi,p⟩
 have q:=hl i σ H hi p
 by_cases hlt:i < xs.length
 . refine .inr ⟨⟨xs,xs[i],q,by simp [hlt]⟩,Pv (i + 1),fun σ' H' p'=>⟨xs.length - (i + 1),by omega,rfl,hlt,p'⟩,fun x H' y=>?_⟩
   obtain ⟨t,z,y1,y3,e1,e2⟩:=y
   subst e1 e2
   exact hs i z σ _ t (y1 xs q) p y3
 . have e:i = xs.length:=by omega
   subst e
   exact .inl ⟨⟨xs,q,Nat.le_refl _⟩,hd σ H p⟩
end L2
namespace L2.P
open PySem PySem.Spec PyProof.Rows L2 L2.E PySem.SeqAt
mutual
noncomputable def dOf:PV -> PyData
 | .non=>.none
 | .bl b=>.bool b
 | .int i=>.int i
 | .str x=>.str x
 | .lst xs=>.list (oo xs)
 | .tup xs=>.tuple (oo xs)
noncomputable def oo:List PV -> List PyData
 | []=>[]
 | x ::xs=>dOf x ::oo xs
end
mutual
theorem yI:∀ x y:PV,PyData.eqv (dOf x) (dOf y) = eV x y
 | .non,y=>by cases y <;> simp [dOf,PyData.eqv,eV]
 | .bl a,y=>by cases y <;> simp [dOf,PyData.eqv,eV]
 | .int a,y=>by cases y <;> simp [dOf,PyData.eqv,eV]
 | .str a,y=>by cases y <;> simp [dOf,PyData.eqv,eV]
 | .lst xs,y=>by cases y <;> simp [dOf,PyData.eqv,eV,qT xs]
 | .tup xs,y=>by cases y <;> simp [dOf,PyData.eqv,eV,qT xs]
theorem qT:∀ xs ys:List PV,PyData.eqvAll (oo xs) (oo ys) = rQ xs ys
 | [],ys=>by cases ys <;> simp [oo,PyData.eqvAll,rQ]
 | x ::xs,ys=>by cases ys <;> simp [oo,PyData.eqvAll,rQ,yI x,qT xs]
end
mutual
theorem As:∀ (x:PV) (n:Nat),oK x n = true -> (dOf x).canLay0 = true /\ (dOf x).depth <= n
 | .non,n,h=>by simp [dOf,PyData.canLay0,PyData.depth]
 | .bl a,n,h=>by simp [dOf,PyData.canLay0,PyData.depth]
 | .int a,n,h=>by simp [dOf,PyData.canLay0,PyData.depth]
 | .str a,n,h=>by simp [dOf,PyData.canLay0,PyData.depth]; exact h
 | .lst xs,n,h=>by
   cases n with
   | zero=>simp [oK] at h
   | succ n=>
     have:=tY xs n (by simpa [oK] using h)
     simp [dOf,PyData.canLay0,PyData.depth]
     exact ⟨this.1,by omega⟩
 | .tup xs,n,h=>by
   cases n with
   | zero=>simp [oK] at h
   | succ n=>
     have:=tY xs n (by simpa [oK] using h)
     simp [dOf,PyData.canLay0,PyData.depth]
     exact ⟨this.1,by omega⟩
theorem tY:∀ (xs:List PV) (n:Nat),tG xs n = true -> PyData.canLayAll0 (oo xs) = true /\ PyData.depthAll (oo xs) <= n
 | [],n,h=>by simp [oo,PyData.canLayAll0,PyData.depthAll]
 | x ::xs,n,h=>by
   simp [tG] at h
   have h1:=As x n h.1
   have h2:=tY xs n h.2
   simp [oo,PyData.canLayAll0,PyData.depthAll]
   exact ⟨⟨h1.1,h2.1⟩,by omega⟩
end
section
variable {X:Cx} {pins:List (Addr × Obj)} {σ:St} {H:Hp} {s:Shared}
mutual
theorem qO (I:Inv X pins σ H s):∀ (x:PV) (v:V) (u:Value),Rep X.K H x v -> RelV v u -> ∃ as,Reads s.heap u (dOf x) as
 | .non,v,u,h,r=>by unfold Rep at h; subst h; cases r; exact ⟨_,.none⟩
 | .bl b,v,u,h,r=>by unfold Rep at h; subst h; cases r; exact ⟨_,.bool b⟩
 | .int i,v,u,h,r=>by unfold Rep at h; subst h; obtain ⟨t,rfl⟩:=r; exact ⟨_,.int i t⟩
 | .str x,v,u,h,r=>by unfold Rep at h; subst h; obtain ⟨t,rfl⟩:=r; exact ⟨_,.str x t⟩
 | .lst xs,v,u,h,r=>by
   unfold Rep at h
   obtain ⟨p,vs,rfl,hq,hr⟩:=h
   cases r
   obtain ⟨its,rv,pl,hz⟩:=I.list hq
   obtain ⟨as,ra⟩:=mY I xs vs its hr rv
   obtain ⟨o,e,c,n,d⟩:=pl.isList
   exact ⟨_,.list (xs:=oo xs) e c d (by simpa using ra)⟩
 | .tup xs,v,u,h,r=>by
   unfold Rep at h
   obtain ⟨p,vs,rfl,hq,hr⟩:=h
   cases r
   obtain ⟨its,rv,pl,hz⟩:=I.tuple hq
   obtain ⟨as,ra⟩:=mY I xs vs its hr rv
   obtain ⟨o,e,c,n,d⟩:=pl
   exact ⟨_,.tuple (xs:=oo xs) e c d (by simpa using ra)⟩
theorem mY (I:Inv X pins σ H s):∀ (xs:List PV) (vs:List V) (us:List Value),bL X.K H xs vs -> Vals vs us -> ∃ as,ReadsAll s.heap us (oo xs) as
 | [],vs,us,h,r=>by rw [h.nil_inv] at r; cases r; exact ⟨_,.nil⟩
 | x ::xs,vs,us,h,r=>by
   obtain ⟨v,t,rfl,h1,h2⟩:=h.cons_inv
   cases r with
   | cons r1 r2=>
     obtain ⟨as,ra⟩:=qO I x _ _ h1 r1
     obtain ⟨bs,rb⟩:=mY I xs _ _ h2 r2
     exact ⟨_,.cons ra rb⟩
end
noncomputable def Hc (K:PySem.W.Frag) (A:Around) (neg:Bool):R2:=fun v u H Q=>∃ x y,Rep K H x v /\ Rep K H y u /\ (oK x 64 && oK y 64) = true /\ A.units + 64 < cLine /\ Q (.bl (if neg then !eV x y else eV x y)) H
theorem sE {x:PV} (h:oK x 64 = true):shaped (dOf x) = true:=by
 have:=As x 64 h
 unfold shaped
 simp [this]
theorem F0:OpR X (compareOp .Eq) (Hc X.K X.A false):=by
 intro pins s σ H v u a b Q I rx ry h
 obtain ⟨x,y,h1,h2,ok,hu,q⟩:=h
 rw [Bool.and_eq_true] at ok
 obtain ⟨as,ra⟩:=qO I x v a h1 rx
 obtain ⟨bs,rb⟩:=qO I y u b h2 ry
 refine eq_dataH ra rb (sE ok.1) (sE ok.2) hu ⟨.bl _,H,I,rfl,?_⟩
 rw [yI]; exact q
end
section
variable {K:PySem.W.Frag} {S H:Hp}
theorem RdV.rep {x:PV} {v:V} (h:RdV K S H x v) (s:aG S H):Rep K H x v:=by
 cases x with
 | lst xs=>obtain ⟨p,vs,e,q,r⟩:=h; unfold Rep; exact ⟨p,vs,e,q,r.mono s⟩
 | non=>exact Rep.mono s h
 | bl b=>exact Rep.mono s h
 | int i=>exact Rep.mono s h
 | str x=>exact Rep.mono s h
 | tup xs=>exact Rep.mono s h
theorem FN {A:Around} (hu:A.units + 64 < cLine):JR K (Hc K A false) Bc:=by
 intro S H x y v u rr Q I hx hy e k
 unfold Bc at e
 split at e
 . rename_i ok
   cases e
   exact ⟨x,y,hx.rep I,hy.rep I,ok,hu,k _ S H (bu.refl I) kR⟩
 . cases e
end
end L2.P
namespace L2.P
open PySem PySem.Spec PyProof.Rows L2 L2.E PySem.SeqAt
section
variable {X:Cx} {K:PySem.W.Frag} {S H:Hp}
theorem rM {x:PV} {v:V} (h:Rep K H x v) (f:b7 x = true):nT v = true:=by
 cases x with
 | lst xs=>cases f
 | tup xs=>cases f
 | non=>unfold Rep at h; subst h; rfl
 | bl b=>unfold Rep at h; subst h; rfl
 | int b=>unfold Rep at h; subst h; rfl
 | str b=>unfold Rep at h; subst h; rfl
theorem Dn {x y:PV} {v u:V} (h:Rep K H x v) (k:Rep K H y u) (f:b7 x = true) (g:b7 y = true):eqV u v = eV y x:=by
 cases x <;> first | (cases f; done) | skip
 all_goals (unfold Rep at h; subst h; cases y <;> first | (cases g; done) | (unfold Rep at k; subst k; simp [eqV,eV]))
theorem tE {xs:List PV} {vs:List V} (h:bL K H xs vs) (f:xs.all b7 = true):vs.all nT = true:=by
 induction xs generalizing vs with
 | nil=>rw [h.nil_inv]; rfl
 | cons x xs ih=>
   obtain ⟨v,r,rfl,h1,h2⟩:=h.cons_inv
   rw [List.all_cons,Bool.and_eq_true] at f ⊢
   exact ⟨rM h1 f.1,ih h2 f.2⟩
theorem vT {x:PV} {v:V} {xs:List PV} {vs:List V} (hx:Rep K H x v) (g:b7 x = true) (h:bL K H xs vs) (f:xs.all b7 = true):inV v vs = xs.any fun y=>eV y x:=by
 induction xs generalizing vs with
 | nil=>rw [h.nil_inv]; rfl
 | cons y xs ih=>
   obtain ⟨u,r,rfl,h1,h2⟩:=h.cons_inv
   rw [List.all_cons,Bool.and_eq_true] at f
   have:=ih h2 f.2
   unfold inV at this ⊢
   rw [List.any_cons,List.any_cons,this,Dn hx h1 g f.1]
theorem wu {x:PV} {xs:List PV} (g:b7 x = false) (f:xs.all b7 = true):(xs.any fun y=>eV y x) = false:=by
 induction xs with
 | nil=>rfl
 | cons y xs ih=>
   rw [List.all_cons,Bool.and_eq_true] at f
   rw [List.any_cons,ih f.2,Bool.or_false]
   have f1:=f.1
   cases y <;> first | (cases f1; done) | (cases x <;> first | (cases g; done) | simp [eV])
theorem u3 {α:Type} (l:List α):(l.any fun _=>false) = false:=by induction l <;> simp_all
theorem o8 {A:Around} {s:Shared} {pins:List (Addr × Obj)} {σ:St} (I:Inv X pins σ H s) (hu:A.units < cLine) {x:PV} {v:V} {a:Value} (hx:Rep X.K H x v) (ra:RelV v a) (g:b7 x = false):
  ∀ {xs:List PV} {vs:List V} {us:List Value},bL X.K H xs vs -> Vals vs us -> xs.all b7 = true -> ∀ u ∈ us,EqAt A s u a false:=by
 intro xs
 induction xs with
 | nil=>intro vs us h r _ u hu; rw [h.nil_inv] at r; cases r; cases hu
 | cons y xs ih=>
   intro vs us h r f u hm
   obtain ⟨w,t,rfl,h1,h2⟩:=h.cons_inv
   rw [List.all_cons,Bool.and_eq_true] at f
   cases r with
   | cons r1 r2=>
     rcases List.mem_cons.mp hm with rfl | hm
     . cases x with
       | non=>cases g
       | bl b=>cases g
       | int b=>cases g
       | str b=>cases g
       | lst zs=>
         unfold Rep at hx
         obtain ⟨p,us',rfl,hq,_⟩:=hx
         cases ra
         obtain ⟨its,_,pl,_⟩:=I.list hq
         cases y with
         | non=>unfold Rep at h1; subst h1; cases r1; exact EqAt.none_list pl.isList hu
         | bl b=>unfold Rep at h1; subst h1; cases r1; exact EqAt.bool_list b pl.isList hu
         | int b=>unfold Rep at h1; subst h1; obtain ⟨t',rfl⟩:=r1; exact EqAt.int_list b t' pl.isList hu
         | str b=>unfold Rep at h1; subst h1; obtain ⟨t',rfl⟩:=r1; exact EqAt.str_list b t' pl.isList hu
         | lst _=>cases f.1
         | tup _=>cases f.1
       | tup zs=>
         unfold Rep at hx
         obtain ⟨p,us',rfl,hq,_⟩:=hx
         cases ra
         obtain ⟨its,_,pl,_⟩:=I.tuple hq
         cases y with
         | non=>unfold Rep at h1; subst h1; cases r1; exact EqAt.none_tuple pl hu
         | bl b=>unfold Rep at h1; subst h1; cases r1; exact EqAt.bool_tuple b pl hu
         | int b=>unfold Rep at h1; subst h1; obtain ⟨t',rfl⟩:=r1; exact EqAt.int_tuple b t' pl hu
         | str b=>unfold Rep at h1; subst h1; obtain ⟨t',rfl⟩:=r1; exact EqAt.str_tuple b t' pl hu
         | lst _=>cases f.1
         | tup _=>cases f.1
     . exact ih h2 r2 f.2 u hm
noncomputable def Be (K:PySem.W.Frag) (A:Around) (neg:Bool):R2:=fun v u H Q=>∃ x ys p vs,Rep K H x v /\ u = .ref p /\ (SqL K H p vs \/ SqT K H p vs) /\ bL K H ys vs /\ ys.all b7 = true /\ A.units + 64 < cLine /\ Q (.bl (if neg then !(ys.any fun y=>eV y x) else ys.any fun y=>eV y x)) H
theorem jq:OpR X (compareOp .In) (Be X.K X.A false):=by
 intro pins s σ H v u a b Q I rx ry h
 obtain ⟨x,ys,p,vs,hx,rfl,hq,hr,hf,hu,q⟩:=h
 cases g:b7 x with
 | true=>exact zh pins s σ H v _ a b Q I rx ry ⟨p,vs,rfl,hq,rM hx g,tE hr hf,by rw [vT hx g hr hf]; exact q⟩
 | false=>
   rw [wu g hf] at q
   cases ry
   rcases hq with hq | hq
   . obtain ⟨its,r,pl,hz⟩:=I.list hq
     refine SeqAt.in_listAt (fun _=>false) pl.isList (fun w hw=>o8 I (by show X.A.units + 1 < cLine; omega) hx rx g hr r hf w (by simpa using hw)) ⟨.bl _,H,I,rfl,?_⟩
     rw [show (its.toArray.any fun _=>false) = false by simp [u3]]
     exact q
   . obtain ⟨its,r,pl,hz⟩:=I.tuple hq
     refine SeqAt.in_tupleAt (fun _=>false) pl (fun w hw=>o8 I (by show X.A.units + 1 < cLine; omega) hx rx g hr r hf w (by simpa using hw)) ⟨.bl _,H,I,rfl,?_⟩
     rw [show (its.toArray.any fun _=>false) = false by simp [u3]]
     exact q
theorem pP:OpR X (compareOp .NotIn) (Be X.K X.A true):=by
 intro pins s σ H v u a b Q I rx ry h
 obtain ⟨x,ys,p,vs,hx,rfl,hq,hr,hf,hu,q⟩:=h
 cases g:b7 x with
 | true=>exact tU pins s σ H v _ a b Q I rx ry ⟨p,vs,rfl,hq,rM hx g,tE hr hf,by rw [vT hx g hr hf]; exact q⟩
 | false=>
   rw [wu g hf] at q
   cases ry
   rcases hq with hq | hq
   . obtain ⟨its,r,pl,hz⟩:=I.list hq
     refine SeqAt.notIn_listAt (fun _=>false) pl.isList (fun w hw=>o8 I (by show X.A.units + 1 < cLine; omega) hx rx g hr r hf w (by simpa using hw)) ⟨.bl _,H,I,rfl,?_⟩
     rw [show (its.toArray.any fun _=>false) = false by simp [u3]]
     exact q
   . obtain ⟨its,r,pl,hz⟩:=I.tuple hq
     refine SeqAt.notIn_tupleAt (fun _=>false) pl (fun w hw=>o8 I (by show X.A.units + 1 < cLine; omega) hx rx g hr r hf w (by simpa using hw)) ⟨.bl _,H,I,rfl,?_⟩
     rw [show (its.toArray.any fun _=>false) = false by simp [u3]]
     exact q
theorem ya {A:Around} {neg:Bool} {x y:PV} {v u:V} {b:Bool} {Q:VK} (hu:A.units + 64 < cLine) (I:aG S H) (hx:RdV K S H x v) (hy:RdV K S H y u) (e:eW x y = some b) (k:∀ z S' H',bu S H S' H' -> kv K H S' H' (.sh (.bl (if neg then !b else b))) z -> Q z H'):Be K A neg v u H Q:=by
 cases y with
 | tup ys=>
   simp only [eW] at e
   by_cases hf:ys.all b7 = true
   . rw [if_pos hf] at e
     cases e
     obtain ⟨p,vs,rfl,hq,hr⟩:=mB hy
     exact ⟨x,ys,p,vs,hx.rep I,rfl,.inr (aG.tup I hq),hr.mono I,hf,hu,k _ S H (bu.refl I) kR⟩
   . rw [if_neg hf] at e; cases e
 | lst ys=>
   simp only [eW] at e
   by_cases hf:ys.all b7 = true
   . rw [if_pos hf] at e
     cases e
     obtain ⟨p,vs,rfl,hq,hr⟩:=iM hy
     exact ⟨x,ys,p,vs,hx.rep I,rfl,.inl hq,hr.mono I,hf,hu,k _ S H (bu.refl I) kR⟩
   . rw [if_neg hf] at e; cases e
 | _=>simp only [eW] at e; cases e
theorem lE {A:Around} (hu:A.units + 64 < cLine):JR K (Be K A false) gIn:=by
 intro S H x y v u rr Q I hx hy e k
 obtain ⟨b,e1,e2⟩:=Option.map_eq_some_iff.mp e
 subst e2
 exact ya hu I hx hy e1 k
theorem rf {A:Around} (hu:A.units + 64 < cLine):JR K (Be K A true) jm:=by
 intro S H x y v u rr Q I hx hy e k
 obtain ⟨b,e1,e2⟩:=Option.map_eq_some_iff.mp e
 subst e2
 exact ya hu I hx hy e1 k
end
end L2.P
namespace L2.P
open PySem PySem.Spec PyProof.Rows L2 L2.E
section
variable {K:PySem.W.Frag} {cls:String -> Option Addr} {W:XW} {Av G S₀ S S' H H' B B':Hp} {ρ:ae} {σ:St} {Q:VK}
noncomputable abbrev g2 (K:PySem.W.Frag) (i j:Nat):TG:=FX K 2 (yD (kh i) (yD (kh j) FT))
theorem wz {i j:Nat} {tb:TS} {mb:ae -> OS} {D:Ends} {x y:PV} {xs:List PV} {v u:V} {t:Addr} {N:St -> Hp -> Prop} (hb:JS K cls W tb mb) (I:SR K cls Av G S₀ ρ σ S H) (hx:Rep K S x v) (hy:Rep K S y u) (ht:SqT K H t [v,u])
  (p:gZ K cls W Av G S₀ S D (kH i j mb (.tup [x,y] ::xs) ρ)) (hN:∀ ρ' σ' S' H',SR K cls Av G S₀ ρ' σ' S' H' -> aG S S' -> gZ K cls W Av G S₀ S' D (kH i j mb xs ρ') -> N σ' H'):
  g2 K i j (.ref t) σ H fun σ2 H2=>tb { D with nx:=N,ct:=N,bk:=D.nx } σ2 H2:=by
 refine ⟨t,_,rfl,ht,rfl,_,_,rfl,_,_,rfl,rfl,?_⟩
 refine hb Av G S₀ _ _ S H _ ((I.vx hx).vx hy) ?_
 unfold kH at p
 cases e:mb ((ρ.set i (some (.sh x))).set j (some (.sh y))) with
 | nx ρ'=>rw [e] at p; exact fun σ' S' H' I' s'=>hN ρ' σ' S' H' I' s' (p.back s')
 | ct ρ'=>rw [e] at p; exact fun σ' S' H' I' s'=>hN ρ' σ' S' H' I' s' (p.back s')
 | bk ρ'=>rw [e] at p; exact p
 | rt ρ' r=>rw [e] at p; exact p
 | exc ρ' c fs=>rw [e] at p; exact p
 | bad=>rw [e] at p; exact p
theorem wx (xs:List PV):∀ (k n:Nat) (y:PV),xs[k]? = some y -> p5 (n + k) (xs.drop k) = .tup [.int ((n + k:Nat):Int),y] ::p5 (n + (k + 1)) (xs.drop (k + 1)):=by
 intro k n y hy
 have hk:k < xs.length:=(List.getElem?_eq_some_iff.mp hy).1
 rw [List.drop_eq_getElem_cons hk]
 have:xs[k] = y:=(List.getElem?_eq_some_iff.mp hy).2
 rw [this]
 rfl
theorem CT {i j:Nat} {tl:TE} {tb:TS} {ml:ae -> OE} {mb:ae -> OS} (hl:JE K cls W tl ml) (hb:JS K cls W tb mb):JS K cls W (Ap (Ab K (js tl kN)) (g2 K i j) tb) (yr i j ml mb):=by
 intro Av G S₀ ρ σ S H D I p
 refine hl Av G S₀ ρ σ S H _ I ?_
 unfold yr at p
 cases em:ml ρ with
 | exc c fs=>rw [em] at p; exact fun a C S' H' w x=>p a C σ S' H' (I.grow w) w.s x
 | bad=>rw [em] at p; exact p
 | ok r=>
   rw [em] at p
   intro v S1 H1 w1 r1
   simp only [OE.bO] at p
   cases ei:wU r with
   | none=>rw [ei] at p; exact p.elim
   | some xs=>
     rw [ei] at p
     have es:kn r = some (.lst xs):=by
      cases r with
      | sh y=>cases y <;> cases ei <;> rfl
      | fr ys=>cases ei; rfl
      | al ys=>cases ei
     obtain ⟨S2,w2,s2,rx⟩:=r1.share w1 es
     have I2:=I.grow w2
     unfold Rep at rx
     obtain ⟨a,vs,rfl,hq,hr⟩:=rx
     show ∃ a',[V.ref a] = [V.ref a'] /\ _
     refine ⟨a,rfl,⟨vs,aG.seq I2.sh hq⟩,?_⟩
     refine Bw (xs:=vs) (fun k σ' H'=>∃ ρ' S',SR K cls Av G S₀ ρ' σ' S' H' /\ aG S2 S' /\ gZ K cls W Av G S₀ S' D (kH i j mb (p5 (0 + k) (xs.drop k)) ρ'))
      ⟨ρ,S2,I2,aG.refl _,p.back w2.s⟩ ?_ ?_ ?_
     . rintro k σ' H' _ ⟨ρ',S',I',s',_⟩
       exact aG.seq (s'.trans I'.sh) hq
     . rintro k x σ' H' t hx ⟨ρ',S',I',s',p'⟩ ht
       obtain ⟨y,hy,ry⟩:=hr.Ho hx
       rw [wx xs k 0 y hy] at p'
       have w3:bu S' H' S' (upd H' t (.tup [.int k,x])):=bu.heap I'.sh ht
       refine wz hb (I'.grow w3) (x:=.int ((0 + k:Nat):Int)) (v:=.int k) (by unfold Rep; rw [Nat.zero_add]) (Rep.mono s' ry) (SqT.new bg) p' fun ρ2 σ2 S3 H3 I3 s3 p3=>⟨ρ2,S3,I3,s'.trans s3,p3⟩
     . rintro σ' H' ⟨ρ',S',I',s',p'⟩
       rw [List.drop_of_length_le (by rw [hr.length]; exact Nat.le_refl _)] at p'
       exact p' σ' S' H' I' (aG.refl _)
end
end L2.P
namespace L2.E
open PySem PySem.Spec PyProof.Rows L2
theorem Cc {X:Cx} {elts:List Expr} {k:Nat} {tp:Pos} {a:Expr} {ta:TA} {p pos:Pos} (hg:Gl X "enumerate") (hm:X.mg "enumerate" = none) (ha:QA X [a] ta) (hs:starEach [a] X.env = [(false,eval a X.env)]:=by rfl):
  QI X (.Tuple elts k tp) (.Call (.Name "enumerate" p) [a] [] pos) (Ab X.K ta):=⟨Dt hg hm ha.out hs⟩
structure QGs (X:Cx) (es:List Expr) (t:TGs):Prop where
 out:PGs X es t
theorem BW {X:Cx}:QGs X [] FT:=⟨CD⟩
theorem wb {X:Cx} {e:Expr} {es:List Expr} {t:TG} {u:TGs} (h1:QG X e t) (h2:QGs X es u)
  (hs:(assignEach (e ::es) X.env).map (·.2) = assign e X.env ::(assignEach es X.env).map (·.2):=by rfl):QGs X (e ::es) (yD t u):=⟨Bp h1.out h2.out hs⟩
theorem Ga {X:Cx} {es:List Expr} {k:Nat} {t:TGs} {n:Nat} {pos:Pos} (hc:X.calm = true) (h:QGs X es t)
  (hn:(assignEach es X.env).length = n:=by rfl) (hst:(assignEach es X.env).findIdx? (·.1) = none:=by rfl):QG X (.Tuple es k pos) (FX X.K n t):=⟨EX hc h.out hn hst⟩
end L2.E
namespace L2.P
open PySem PySem.Spec PyProof.Rows L2 L2.E
section
variable {K:PySem.W.Frag} {cls:String -> Option Addr} {W:XW} {Av G S₀ S S' H H' B B':Hp} {ρ:ae} {σ:St} {Q:VK} {F:Nat -> List Addr}
theorem bP.length {ts:List OV} {vs:List V} {f:List Addr} (h:bP K cls S H ts vs f):vs.length = ts.length:=by
 induction ts generalizing vs f with
 | nil=>unfold bP at h; rw [h.1]; rfl
 | cons t ts ih=>
   unfold bP at h
   obtain ⟨v,r,f1,f2,rfl,_,_,h2⟩:=h
   simp [ih h2]
theorem bP.cons_inv {t:OV} {ts:List OV} {vs:List V} {fp:List Addr} (h:bP K cls S H (t ::ts) vs fp):∃ v r f1 f2,vs = v ::r /\ fp = f1 ++ f2 /\ bS K cls S H t v f1 /\ bP K cls S H ts r f2:=by unfold bP at h; exact h
theorem bP.cons {t:OV} {ts:List OV} {v:V} {vs:List V} {f1 f2:List Addr} (h:bS K cls S H t v f1) (r:bP K cls S H ts vs f2):bP K cls S H (t ::ts) (v ::vs) (f1 ++ f2):=by unfold bP; exact ⟨v,vs,f1,f2,rfl,rfl,h,r⟩
theorem bP.nil:bP K cls S H [] [] []:=by unfold bP; exact ⟨rfl,rfl⟩
theorem bP.append {ts us:List OV} {vs ws:List V} {f g:List Addr} (h:bP K cls S H ts vs f) (k:bP K cls S H us ws g):bP K cls S H (ts ++ us) (vs ++ ws) (f ++ g):=by
 induction ts generalizing vs f with
 | nil=>unfold bP at h; rw [h.1,h.2]; exact k
 | cons t ts ih=>
   obtain ⟨v,r,f1,f2,rfl,rfl,h1,h2⟩:=h.cons_inv
   have:=bP.cons h1 (ih h2)
   rw [List.append_assoc]
   exact this
theorem bP.shs {xs:List PV} {vs:List V} (h:bL K S xs vs):bP K cls S H (xs.map .sh) vs []:=by
 induction xs generalizing vs with
 | nil=>rw [h.nil_inv]; exact .nil
 | cons x xs ih=>
   obtain ⟨v,r,rfl,h1,h2⟩:=h.cons_inv
   exact bP.cons (f1:=[]) (by unfold bS; exact ⟨rfl,h1⟩) (ih h2)
theorem bP.flat {ts:List OV} {xs:List PV} {vs:List V} {f:List Addr} (e:vv ts = some xs) (h:bP K cls S H ts vs f):bL K S xs vs /\ f = []:=by
 induction ts generalizing xs vs f with
 | nil=>cases e; unfold bP at h; rw [h.1,h.2]; exact ⟨.nil,rfl⟩
 | cons t ts ih=>
   cases t with
   | sh x=>
     obtain ⟨ys,e1,e2⟩:=Option.map_eq_some_iff.mp e
     subst e2
     obtain ⟨v,r,f1,f2,rfl,rfl,h1,h2⟩:=h.cons_inv
     unfold bS at h1
     obtain ⟨h3,h4⟩:=ih e1 h2
     exact ⟨.cons h1.2 h3,by rw [h1.1,h4]; rfl⟩
   | ol _=>cases e
   | ob _ _ _=>cases e
   | di _=>cases e
   | dt _=>cases e
theorem bP.at {ts:List OV} {vs:List V} {f:List Addr} {k:Nat} {u:OV} (h:bP K cls S H ts vs f) (e:ts[k]? = some u):
  ∃ w f1 rest,vs[k]? = some w /\ bS K cls S H u w f1 /\ f.Perm (f1 ++ rest) /\
    ∀ S' H' u' w' f',aG S S' -> bS K cls S' H' u' w' f' -> (∀ a ∈ rest,∀ o,H a = some o -> H' a = some o) -> ∃ g,bP K cls S' H' (ts.set k u') (vs.set k w') g /\ g.Perm (f' ++ rest):=by
 induction ts generalizing vs f k with
 | nil=>simp at e
 | cons t ts ih=>
   obtain ⟨v,r,f1,f2,rfl,rfl,h1,h2⟩:=h.cons_inv
   cases k with
   | zero=>
     simp at e
     subst e
     refine ⟨v,f1,f2,rfl,h1,List.Perm.refl _,fun S' H' u' w' f' s r' g=>?_⟩
     exact ⟨f' ++ f2,bP.cons r' (h2.mono s g),List.Perm.refl _⟩
   | succ k=>
     simp at e
     obtain ⟨w,g1,rest,e1,r1,p1,c1⟩:=ih h2 e
     refine ⟨w,g1,f1 ++ rest,by simpa using e1,r1,?_,fun S' H' u' w' f' s r' g=>?_⟩
     . have:(f1 ++ f2).Perm (f1 ++ (g1 ++ rest)):=List.Perm.append_left f1 p1
       refine this.trans ?_
       rw [<- List.append_assoc,<- List.append_assoc]
       exact List.Perm.append_right rest List.perm_append_comm
     . obtain ⟨g2,r2,p2⟩:=c1 S' H' u' w' f' s r' fun a ha=>g a (List.mem_append_right _ ha)
       refine ⟨f1 ++ g2,bP.cons (h1.mono s fun a ha=>g a (List.mem_append_left _ ha)) r2,?_⟩
       refine (List.Perm.append_left f1 p2).trans ?_
       rw [<- List.append_assoc,<- List.append_assoc]
       exact List.Perm.append_right rest List.perm_append_comm
theorem yb {ks:List Str} {ts:List OV} {f:Str} {u:OV} (h:my ks ts f = some u):∃ k,ts[k]? = some u /\ ks[k]? = some f /\ (∀ u',sf ks ts f u' = ts.set k u') /\ ∀ {α:Type} (us:List (Str × α)),us.map (·.1) = ks -> us.lookup f = (us.map (·.2))[k]?:=by
 induction ks generalizing ts with
 | nil=>simp [my] at h
 | cons g ks ih=>
   cases ts with
   | nil=>simp [my] at h
   | cons t ts=>
     unfold my at h
     split at h
     . rename_i e
       subst e
       cases h
       refine ⟨0,rfl,rfl,fun u'=>by simp [sf],fun us eu=>?_⟩
       cases us with
       | nil=>cases eu
       | cons q us=>
         simp at eu
         obtain ⟨a,b⟩:=q
         simp at eu
         rw [<- eu.1]
         simp [List.lookup]
     . rename_i ne
       obtain ⟨k,e1,e2,e3,e4⟩:=ih h
       refine ⟨k + 1,by simpa using e1,by simpa using e2,fun u'=>by simp [sf,ne,e3],fun us eu=>?_⟩
       cases us with
       | nil=>cases eu
       | cons q us=>
         obtain ⟨a,b⟩:=q
         simp at eu
         have:(f == a) = false:=by rw [eu.1]; simpa using Ne.symm ne
         simp [List.lookup,this,e4 us eu.2]
noncomputable def sR (H:Hp):Stp -> V -> V -> Prop
 | .ix k,v,w=>∃ p vs,v = .ref p /\ H p = some (.lst vs) /\ vs[k]? = some w
 | .fd f,v,w=>∃ p C dx us,v = .ref p /\ H p = some (.ins C dx us) /\ us.lookup f = some w
noncomputable def ja (H:Hp):V -> List Stp -> V -> Prop
 | v,[],w=>w = v
 | v,s ::π,w=>∃ u,sR H s v u /\ ja H u π w
theorem sR.inj {s:Stp} {v w w':V} (h:sR H s v w) (k:sR H s v w'):w = w':=by
 cases s with
 | ix n=>
   obtain ⟨p,vs,rfl,e1,e2⟩:=h
   obtain ⟨p',vs',e3,e4,e5⟩:=k
   cases e3
   rw [e1] at e4; cases e4
   rw [e2] at e5; cases e5; rfl
 | fd f=>
   obtain ⟨p,C,dx,us,rfl,e1,e2⟩:=h
   obtain ⟨p',C',dx',us',e3,e4,e5⟩:=k
   cases e3
   rw [e1] at e4; cases e4
   rw [e2] at e5; cases e5; rfl
theorem ja.inj {π:List Stp}:∀ {v w w':V},ja H v π w -> ja H v π w' -> w = w':=by
 induction π with
 | nil=>intro v w w' h k; rw [h,k]
 | cons s π ih=>
   rintro v w w' ⟨u,h1,h2⟩ ⟨u',k1,k2⟩
   have:=h1.inj k1
   subst this
   exact ih h2 k2
theorem ja.snoc {π:List Stp} {s:Stp}:∀ {v w u:V},ja H v π w -> sR H s w u -> ja H v (π ++ [s]) u:=by
 induction π with
 | nil=>intro v w u h k; rw [h] at k; exact ⟨u,k,rfl⟩
 | cons t π ih=>
   rintro v w u ⟨x,h1,h2⟩ k
   exact ⟨x,h1,ih h2 k⟩
theorem ja.mono {π:List Stp} (g:aG H H'):∀ {v w:V},ja H v π w -> ja H' v π w:=by
 induction π with
 | nil=>intro v w h; exact h
 | cons t π ih=>
   rintro v w ⟨x,h1,h2⟩
   refine ⟨x,?_,ih h2⟩
   cases t with
   | ix k=>obtain ⟨p,vs,e,e1,e2⟩:=h1; exact ⟨p,vs,e,g _ _ e1,e2⟩
   | fd f=>obtain ⟨p,C,dx,us,e,e1,e2⟩:=h1; exact ⟨p,C,dx,us,e,g _ _ e1,e2⟩
theorem bS.step {t u:OV} {v:V} {fp:List Addr} {s:Stp} (h:bS K cls S H t v fp) (e:t.at1 s = some u):
  ∃ w f1 rest,sR H s v w /\ bS K cls S H u w f1 /\ fp.Perm (f1 ++ rest) /\
    ∀ S' H' u' f',aG S S' -> bS K cls S' H' u' w f' -> (∀ a ∈ rest,∀ o,H a = some o -> H' a = some o) -> ∃ g,bS K cls S' H' (t.zQ s u') v g /\ g.Perm (f' ++ rest):=by
 cases t with
 | sh x=>cases s <;> cases e
 | di x=>cases s <;> cases e
 | dt x=>cases s <;> cases e
 | ol ts=>
   cases s with
   | fd f=>cases e
   | ix k=>
     unfold bS at h
     obtain ⟨p,vs,f,rfl,hp,rfl,r⟩:=h
     obtain ⟨w,f1,rest,e1,r1,p1,c1⟩:=r.at e
     refine ⟨w,f1,p ::rest,⟨p,vs,rfl,hp,e1⟩,r1,?_,fun S' H' u' f' s r' g=>?_⟩
     . exact (List.Perm.cons p p1).trans (List.perm_middle.symm)
     . obtain ⟨g2,r2,p2⟩:=c1 S' H' u' w f' s r' fun a ha=>g a (by simp [ha])
       refine ⟨p ::g2,?_,(List.Perm.cons p p2).trans List.perm_middle.symm⟩
       rw [kq e1] at r2
       unfold OV.zQ bS
       exact ⟨p,vs,g2,rfl,g p (by simp) _ hp,rfl,r2⟩
 | ob c ks ts=>
   cases s with
   | ix k=>cases e
   | fd f=>
     unfold bS at h
     obtain ⟨p,C,dx,us,ff,rfl,hc,hp,hd,hk,rfl,r⟩:=h
     obtain ⟨k,e1,e2,e3,e4⟩:=yb e
     obtain ⟨w,f1,rest,q1,r1,p1,c1⟩:=r.at e1
     refine ⟨w,f1,p ::dx ::rest,⟨p,C,dx,us,rfl,hp,by rw [e4 us hk]; exact q1⟩,r1,?_,fun S' H' u' f' s r' g=>?_⟩
     . exact ((List.Perm.cons p ((List.Perm.cons dx p1).trans List.perm_middle.symm))).trans List.perm_middle.symm
     . obtain ⟨g2,r2,p2⟩:=c1 S' H' u' w f' s r' fun a ha=>g a (by simp [ha])
       refine ⟨p ::dx ::g2,?_,(List.Perm.cons p ((List.Perm.cons dx p2).trans List.perm_middle.symm)).trans List.perm_middle.symm⟩
       rw [kq q1] at r2
       unfold OV.zQ bS
       exact ⟨p,C,dx,us,g2,rfl,hc,g p (by simp) _ hp,g dx (by simp) _ hd,hk,rfl,by rw [e3]; exact r2⟩
theorem bS.focus {π:List Stp}:∀ {t u:OV} {v:V} {fp:List Addr},bS K cls S H t v fp -> t.get π = some u ->
  ∃ w f1 rest,ja H v π w /\ bS K cls S H u w f1 /\ fp.Perm (f1 ++ rest) /\
    ∀ S' H' u' f',aG S S' -> bS K cls S' H' u' w f' -> (∀ a ∈ rest,∀ o,H a = some o -> H' a = some o) -> ∃ g,bS K cls S' H' (t.put π u') v g /\ g.Perm (f' ++ rest):=by
 induction π with
 | nil=>
   intro t u v fp h e
   cases e
   exact ⟨v,fp,[],rfl,h,by simp,fun S' H' u' f' _ r' _=>⟨f',by unfold OV.put; exact r',by simp⟩⟩
 | cons s π ih=>
   intro t u v fp h e
   unfold OV.get at e
   obtain ⟨t1,e1,e2⟩:=Option.bind_eq_some_iff.mp e
   obtain ⟨w1,f1,rest1,st,r1,p1,c1⟩:=h.step e1
   obtain ⟨w,f2,rest2,wk,r2,p2,c2⟩:=ih r1 e2
   refine ⟨w,f2,rest2 ++ rest1,⟨w1,st,wk⟩,r2,?_,fun S' H' u' f' s' r' g=>?_⟩
   . rw [<- List.append_assoc]
     exact p1.trans (List.Perm.append_right rest1 p2)
   . obtain ⟨g1,q1,k1⟩:=c2 S' H' u' f' s' r' fun a ha=>g a (List.mem_append_left _ ha)
     obtain ⟨g2,q2,k2⟩:=c1 S' H' _ g1 s' q1 fun a ha=>g a (List.mem_append_right _ ha)
     refine ⟨g2,?_,?_⟩
     . unfold OV.put
       rw [e1]
       exact q2
     . rw [<- List.append_assoc]
       exact k2.trans (List.Perm.append_right rest1 k1)
theorem SR.tree {i:Nat} {t:OV} (I:SR K cls Av G S₀ ρ σ S H) (e:jU i ρ = some t):∃ v fp,σ[i]? = some (some v) /\ bS K cls S H t v fp:=by
 obtain ⟨F,J⟩:=I
 unfold jU at e
 cases q:ρ[i]? with
 | none=>rw [q] at e; cases e
 | some o=>
   cases o with
   | none=>rw [q] at e; cases e
   | some s=>
     rw [q] at e
     obtain ⟨v,e1,r⟩:=J.own i s q
     cases s with
     | tr io t'=>cases e; exact ⟨v,_,e1,r.1⟩
     | bo t'=>
       cases e
       obtain ⟨_,f,r⟩:=r
       exact ⟨v,f,e1,r.mono (aG.refl _) fun _ _ _ h=>J.gh _ _ h⟩
     | sh x=>cases e
     | ow xs=>cases e
     | ex c fs=>cases e
noncomputable def JP (K:PySem.W.Frag) (cls:String -> Option Addr) (te:TE) (i:Nat) (mp:MP):Prop:=∀ Av G S₀ ρ σ S H Q v0 t π,SR K cls Av G S₀ ρ σ S H -> jU i ρ = some t -> σ[i]? = some (some v0) -> mp ρ = some π -> (t.get π).isSome = true ->
 (∀ w S' H',bu S H S' H' -> ja H' v0 π w -> Q w H') -> te σ H Q
theorem jn {i:Nat}:JP K cls (rK i) i fe:=by
 intro Av G S₀ ρ σ S H Q v0 t π I e ev ep _ k
 cases ep
 exact ⟨v0,ev,k v0 S H (bu.refl I.sh) rfl⟩
theorem JP.sub {i:Nat} {te:TE} {mp:MP} {u:OV} {Q:VK} (hp:JP K cls te i mp) (I:SR K cls Av G S₀ ρ σ S H) (e:subAt i mp ρ = some u)
  (k:∀ w S' H' f,bu S H S' H' -> SR K cls Av G S₀ ρ σ S' H' -> bS K cls S' H' u w f -> Q w H'):te σ H Q:=by
 unfold subAt at e
 split at e
 . rename_i t et
   split at e
   . rename_i π eπ
     obtain ⟨v0,fp0,ev,_⟩:=I.tree et
     refine hp Av G S₀ ρ σ S H _ v0 t π I et ev eπ (by rw [e]; rfl) fun w S1 H1 w1 wk=>?_
     obtain ⟨v,fp,ev',ro⟩:=(I.grow w1).tree et
     rw [ev] at ev'; cases ev'
     obtain ⟨w',f1,rest,wk',r',_,_⟩:=ro.focus e
     have:=wk.inj wk'
     subst this
     exact k w S1 H1 f1 w1 (I.grow w1) r'
   . cases e
 . cases e
theorem wm {i:Nat} {te:TE} {mp:MP} {f:Str} {ok:String -> Bool} (hp:JP K cls te i mp) (ha:∀ c C,cls c = some C -> ok c = true -> Cls K C /\ kj K C f):JP K cls (E1 K te f) i (pFd i mp f ok):=by
 intro Av G S₀ ρ σ S H Q v0 t π I e ev ep hs k
 unfold pFd at ep
 split at ep
 . rename_i c ks ts es
   split at ep
   . rename_i hok
     rw [Bool.and_eq_true] at hok
     obtain ⟨π0,e0,rfl⟩:=Option.map_eq_some_iff.mp ep
     have e1:t.get π0 = some (.ob c ks ts):=by
      unfold subAt at es
      rw [e] at es
      dsimp only at es
      rw [e0] at es
      exact es
     refine hp Av G S₀ ρ σ S H _ v0 t π0 I e ev e0 (by rw [e1]; rfl) fun w S1 H1 w1 wk=>?_
     have I1:=I.grow w1
     obtain ⟨v,fp,ev',ro⟩:=I1.tree e
     rw [ev] at ev'; cases ev'
     obtain ⟨w',f1,rest,wk',r',_,_⟩:=ro.focus e1
     have:=wk.inj wk'
     subst this
     unfold bS at r'
     obtain ⟨p,C,dx,us,ff,rfl,hcl,hp',hd,hk,rfl,r⟩:=r'
     obtain ⟨a1,a2⟩:=ha c C hcl hok.1
     cases q:my ks ts f with
     | none=>rw [q] at hok; cases hok.2
     | some u=>
       obtain ⟨n,h1,h2,h3,h4⟩:=yb q
       have hn:n < (us.map (·.2)).length:=by rw [r.length]; exact (List.getElem?_eq_some_iff.mp h1).1
       have hx:us.lookup f = some (us.map (·.2))[n]:=by rw [h4 us hk]; exact List.getElem?_eq_getElem hn
       exact ⟨p,C,dx,us,_,rfl,hp',a1,a2,hx,k _ S1 H1 w1 (wk'.snoc ⟨p,C,dx,us,rfl,hp',hx⟩)⟩
   . cases ep
 . cases ep
theorem xT {i:Nat} {te:TE} {mp:MP} (hp:JP K cls te i mp):JE K cls W te (qd i mp):=by
 intro Av G S₀ ρ σ S H Q I p
 unfold qd at p
 split at p
 . rename_i x e
   refine hp.sub I e fun w S1 H1 f w1 _ r=>?_
   unfold bS at r
   exact p w S1 H1 w1 r.2
 . rename_i ts e
   split at p
   . rename_i xs ex
     refine hp.sub I e fun w S1 H1 f w1 _ r=>?_
     unfold bS at r
     obtain ⟨q,vs,ff,rfl,hq,_,rs⟩:=r
     exact p _ S1 H1 w1 ⟨q,vs,rfl,SqL.new hq,(rs.flat ex).1⟩
   . exact p.elim
 . exact p.elim
theorem zB {i:Nat} {te:TE} {mp:MP} (hp:JP K cls te i mp):JT K cls W (fun σ H Q=>te σ H fun x H'=>∃ k,wM K x H' k /\ Q k H') (oA i mp):=by
 intro Av G S₀ ρ σ S H Q I p
 unfold oA at p
 split at p
 . rename_i ts e
   refine hp.sub I e fun w S1 H1 f w1 _ r=>?_
   unfold bS at r
   obtain ⟨q,vs,ff,rfl,hq,_,rs⟩:=r
   refine ⟨_,.inl ⟨vs,SqL.new hq,rfl⟩,?_⟩
   have:vs.isEmpty = ts.isEmpty:=by
    have:=rs.length
    cases vs <;> cases ts <;> simp_all
   rw [this]
   exact p S1 H1 w1
 . exact p.elim
end
end L2.P
namespace L2.P
open PySem PySem.Spec PyProof.Rows L2 L2.E
section
variable {K:PySem.W.Frag} {cls:String -> Option Addr} {W:XW} {Av G S₀ S S' H H' B B':Hp} {ρ:ae} {σ:St} {Q:VK} {F:Nat -> List Addr}
theorem SRF.part {i:Nat} {io:Bool} {t u:OV} {v0:V} {π:List Stp} (J:SRF K cls Av G S₀ ρ σ S H F) (hi:ρ[i]? = some (some (.tr io t))) (hv:σ[i]? = some (some v0)) (e:t.get π = some u):
  ∃ w f1 rest,ja H v0 π w /\ bS K cls S H u w f1 /\ (F i).Perm (f1 ++ rest) /\ (f1 ++ rest).Nodup /\ (∀ a ∈ f1,G a = none /\ S a = none) /\
    ∀ S' H' u' f',aG S S' -> aG S' H' -> aG G H' -> (∀ b,S' b ≠ none -> S₀ b ≠ none \/ G b = none) -> bS K cls S' H' u' w f' -> f'.Nodup -> (∀ a ∈ f',a ∈ f1 \/ H a = none) -> (∀ a ∈ f',S' a = none) ->
      (∀ a o,a ∉ f1 -> H a = some o -> H' a = some o) -> (∀ a,S' a ≠ none -> S a ≠ none \/ H a = none \/ a ∈ f1) ->
      ∃ g,SRF K cls Av G S₀ (ρ.set i (some (.tr io (t.put π u')))) σ S' H' (nA F i g) /\ g.Perm (f' ++ rest):=by
 obtain ⟨v,ev,ro,nd,gs,hio⟩:=J.own i _ hi
 rw [hv] at ev; cases ev
 obtain ⟨w,f1,rest,wk,r1,p1,c1⟩:=ro.focus e
 have nd1:(f1 ++ rest).Nodup:=p1.nodup_iff.mp nd
 have in1:∀ a,a ∈ f1 -> a ∈ F i:=fun a ha=>p1.mem_iff.mpr (List.mem_append_left _ ha)
 have inr:∀ a,a ∈ rest -> a ∈ F i:=fun a ha=>p1.mem_iff.mpr (List.mem_append_right _ ha)
 have off1:∀ a,a ∈ rest -> a ∉ f1:=fun a ha hb=>(List.nodup_append.mp nd1).2.2 a hb a ha rfl
 refine ⟨w,f1,rest,wk,r1,p1,nd1,fun a ha=>gs a (in1 a ha),fun S' H' u' f' s sh gh new r' nd' fr nS keep nw=>?_⟩
 obtain ⟨g,rg,pg⟩:=c1 S' H' u' f' s r' fun a ha o h=>keep a o (off1 a ha) h
 have noS:∀ j a,a ∈ F j -> a ∉ f1 -> S' a = none:=fun j a ha hb=>by
  cases q:S' a with
  | none=>rfl
  | some o=>
    obtain ⟨⟨o',h1,_⟩,_,h3⟩:=J.live j a ha
    rcases nw a (by rw [q]; simp) with z | z | z
    . exact absurd h3 z
    . rw [h1] at z; cases z
    . exact absurd z hb
 have J1:SRF K cls Av G S₀ (ρ.set i none) (σ.set i none) S H (nA F i []):=J.put (fun t e=>nomatch e) (fun a ha=>nomatch ha) fun j a _ ha=>nomatch ha
 have off:∀ j a,a ∈ nA F i [] j -> a ∉ f1 /\ j ≠ i:=fun j a ha=>by
  by_cases ej:j = i
  . subst ej; rw [iY] at ha; cases ha
  . rw [fM ej] at ha
    exact ⟨fun hb=>ej (J.apart j i a ha (in1 a hb)),ej⟩
 have J2:=J1.change (S':=S') (H':=H') gh s sh new (fun j a ha o h=>keep a o (off j a ha).1 h)
  (fun b o hx h=>keep b o (fun hb=>by
    obtain ⟨⟨o',h1,h2⟩,_⟩:=J.live i b (in1 b hb)
    rw [h] at h1; cases h1; rw [hx] at h2; cases h2) h)
  fun j a ha=>by
   have hj:=off j a ha
   rw [fM hj.2] at ha
   exact noS j a ha hj.1
 have mem:∀ a,a ∈ g -> a ∈ f' \/ a ∈ rest:=fun a ha=>List.mem_append.mp (pg.mem_iff.mp ha)
 have hlive:∀ a ∈ g,(∃ o,H' a = some o /\ isX o = false) /\ G a = none /\ S' a = none:=fun a ha=>by
  refine ⟨rg.live a ha,?_,?_⟩
  . rcases mem a ha with z | z
    . rcases fr a z with y | y
      . exact (gs a (in1 a y)).1
      . exact J.gh.free y
    . exact (gs a (inr a z)).1
  . rcases mem a ha with z | z
    . exact nS a z
    . exact noS i a (inr a z) (off1 a z)
 have ndg:g.Nodup:=pg.nodup_iff.mpr (List.nodup_append.mpr ⟨nd',(List.nodup_append.mp nd1).2.1,fun a ha b hb z=>by
  subst z
  rcases fr a ha with y | y
  . exact off1 a hb y
  . obtain ⟨⟨o',h1,_⟩,_⟩:=J.live i a (inr a hb)
    rw [y] at h1; cases h1⟩)
 have J3:=J2.put (i:=i) (s:=some (.tr io (t.put π u'))) (u:=some v0) (fp:=g) (fun t' e=>by
  cases e
  exact ⟨v0,rfl,rg,ndg,fun a ha=>⟨(hlive a ha).2.1,(hlive a ha).2.2⟩,hio⟩) hlive fun j a hj ha hz=>by
   rw [fM hj] at hz
   rcases mem a ha with z | z
   . rcases fr a z with y | y
     . exact hj (J.apart j i a hz (in1 a y))
     . obtain ⟨⟨o',h1,_⟩,_⟩:=J.live j a hz
       rw [y] at h1; cases h1
   . exact hj (J.apart j i a hz (inr a z))
 rw [List.set_set,List.set_set,kq hv] at J3
 have eF:nA (nA F i []) i g = nA F i g:=by
  funext j
  by_cases ej:j = i
  . subst ej; rw [iY,iY]
  . rw [fM ej,fM ej,fM ej]
 rw [eF] at J3
 exact ⟨g,J3,pg⟩
theorem SRF.more {s:Option Sl} {u:Option V} {fp:List Addr} (I:SRF K cls Av G S₀ ρ σ S H F) (h:∀ t,s = some t -> ∃ v,u = some v /\ qj K cls Av G S H ρ.length t v fp)
  (hl:∀ a ∈ fp,(∃ o,H a = some o /\ isX o = false) /\ G a = none /\ S a = none) (ap:∀ j a,j < ρ.length -> a ∈ fp -> a ∉ F j):∃ F',SRF K cls Av G S₀ (ρ ++ [s]) (σ ++ [u]) S H F':=by
 refine ⟨fun j=>if j < ρ.length then F j else if j = ρ.length then fp else [],I.gh,I.s0,I.sh,I.new,fun j t e=>?_,fun j k a h1 h2=>?_,fun j a ha=>?_,by simp [I.len]⟩
 . by_cases hj:j < ρ.length
   . rw [List.getElem?_append_left hj] at e
     rw [List.getElem?_append_left (by rw [<- I.len]; exact hj)]
     simp only [hj,if_true]
     exact I.own j t e
   . rw [List.getElem?_append_right (Nat.le_of_not_lt hj)] at e
     have h0:j - ρ.length = 0:=by
      by_cases h:j - ρ.length = 0
      . exact h
      . rw [List.getElem?_eq_none (by simp; omega)] at e; cases e
     rw [h0] at e
     have ej:j = ρ.length:=by omega
     obtain ⟨v,e2,r⟩:=h t (Option.some.inj e)
     refine ⟨v,?_,?_⟩
     . rw [List.getElem?_append_right (by rw [<- I.len]; omega),<- I.len,h0,e2]; rfl
     . subst ej
       simp only [Nat.lt_irrefl,if_false,if_true]
       exact r
 . by_cases hj:j < ρ.length
   . simp only [hj,if_true] at h1
     by_cases hk:k < ρ.length
     . simp only [hk,if_true] at h2; exact I.apart j k a h1 h2
     . simp only [hk,if_false] at h2
       split at h2
       . exact absurd h1 (ap j a hj h2)
       . cases h2
   . simp only [hj,if_false] at h1
     split at h1
     . rename_i ej
       by_cases hk:k < ρ.length
       . simp only [hk,if_true] at h2; exact absurd h2 (ap k a hk h1)
       . simp only [hk,if_false] at h2
         split at h2
         . rename_i ek; rw [ej,ek]
         . cases h2
     . cases h1
 . by_cases hj:j < ρ.length
   . simp only [hj,if_true] at ha; exact I.live j a ha
   . simp only [hj,if_false] at ha
     split at ha
     . exact hl a ha
     . cases ha
theorem SR.fold {i:Nat} {s:Sl} {v:V} (I:SR K cls Av G S₀ (ρ ++ [some s]) (σ ++ [some v]) S H) (hs:nio s = true):SR K cls Av G S₀ (ρ.set i (some s)) (σ.set i (some v)) S H:=by
 obtain ⟨F,J⟩:=I
 have hlen:ρ.length = σ.length:=by have:=J.len; simpa using this
 obtain ⟨v',ev,r⟩:=J.own ρ.length s (by simp)
 have ev':v' = v:=by
  rw [List.getElem?_append_right (by rw [hlen]; exact Nat.le_refl _),hlen,Nat.sub_self] at ev
  cases ev; rfl
 subst ev'
 have J1:SRF K cls Av G S₀ ρ σ S H (fun j=>if j < ρ.length then F j else []):=by
  refine ⟨J.gh,J.s0,J.sh,J.new,fun j t e=>?_,fun j k a h1 h2=>?_,fun j a ha=>?_,hlen⟩
  . have hj:j < ρ.length:=(List.getElem?_eq_some_iff.mp e).1
    obtain ⟨v2,e2,r2⟩:=J.own j t (by rw [List.getElem?_append_left hj]; exact e)
    rw [List.getElem?_append_left (by rw [<- hlen]; exact hj)] at e2
    simp only [hj,if_true]
    exact ⟨v2,e2,r2⟩
  . split at h1
    . split at h2
      . exact J.apart j k a h1 h2
      . cases h2
    . cases h1
  . split at ha
    . exact J.live j a ha
    . cases ha
 refine ⟨_,J1.put (i:=i) (s:=some s) (u:=some v') (fp:=F ρ.length) (fun t e=>?_) (fun a ha=>J.live _ a ha) fun j a hj ha hz=>?_⟩
 . cases e
   refine ⟨v',rfl,?_⟩
   cases s with
   | sh x=>exact r
   | ow xs=>exact r
   | ex c fs=>exact r
   | tr io t=>
     cases io with
     | true=>cases hs
     | false=>exact ⟨r.1,r.2.1,r.2.2.1,fun z=>nomatch z⟩
   | bo t=>cases hs
 . split at hz
   . rename_i hj'
     have:=J.apart j ρ.length a hz ha
     omega
   . cases hz
theorem SR.yz {s:Option Sl} {u:Option V} (I:SR K cls Av G S₀ (ρ ++ [s]) (σ ++ [u]) S H):SR K cls Av G S₀ ρ σ S H:=by
 obtain ⟨F,J⟩:=I
 have hlen:ρ.length = σ.length:=by have:=J.len; simpa using this
 refine ⟨F,J.gh,J.s0,J.sh,J.new,fun j t e=>?_,J.apart,J.live,hlen⟩
 have hj:j < ρ.length:=(List.getElem?_eq_some_iff.mp e).1
 obtain ⟨v2,e2,r2⟩:=J.own j t (by rw [List.getElem?_append_left hj]; exact e)
 rw [List.getElem?_append_left (by rw [<- hlen]; exact hj)] at e2
 exact ⟨v2,e2,r2⟩
noncomputable def Bn (K:PySem.W.Frag) (cls:String -> Option Addr) (B S H:Hp) (t:OV) (v:V):Prop:=∃ fp,bS K cls S H t v fp /\ fp.Nodup /\ ∀ a ∈ fp,B a = none /\ S a = none
noncomputable def Hr (K:PySem.W.Frag) (cls:String -> Option Addr) (W:XW) (σ:St) (S H:Hp) (Q:VK):OD -> Prop
 | .ok t=>∀ v S' H',bu S H S' H' -> Bn K cls H S' H' t v -> Q v H'
 | .exc c fs=>∀ a C S' H',bu S H S' H' -> mH K cls S' H' c fs a C -> W (.ref C) (some a) σ H'
 | .bad=>False
noncomputable def JD (K:PySem.W.Frag) (cls:String -> Option Addr) (W:XW) (te:TE) (m:ae -> OD):Prop:=∀ Av G S₀ ρ σ S H Q,SR K cls Av G S₀ ρ σ S H -> Hr K cls W σ S H Q (m ρ) -> te σ H Q
theorem Bn.grow {S1 H1:Hp} {t:OV} {v:V} (h:Bn K cls B S H t v) (w:bu S H S1 H1):Bn K cls B S1 H1 t v:=by
 obtain ⟨fp,r,nd,g⟩:=h
 refine ⟨fp,r.mono w.s fun a _ o z=>w.g _ _ z,nd,fun a ha=>⟨(g a ha).1,?_⟩⟩
 obtain ⟨o,h1,_⟩:=r.live a ha
 cases q:S1 a with
 | none=>rfl
 | some o'=>
   rcases w.new a (by rw [q]; simp) with z | z
   . exact absurd (g a ha).2 z
   . rw [h1] at z; cases z
theorem ER {te:TE} {me:ae -> OE} (h:JE K cls W te me):JD K cls W te (mD me):=by
 intro Av G S₀ ρ σ S H Q I p
 refine h Av G S₀ ρ σ S H Q I ?_
 unfold mD at p
 cases e:me ρ with
 | exc c fs=>rw [e] at p; exact p
 | bad=>rw [e] at p; exact p
 | ok r=>
   rw [e] at p
   cases r with
   | sh x=>exact fun v S' H' w r=>p v S' H' w ⟨[],by unfold bS; exact ⟨rfl,r⟩,List.nodup_nil,fun a ha=>nomatch ha⟩
   | al xs=>exact p.elim
   | fr xs=>
     intro v S' H' w r
     obtain ⟨q,vs,rfl,hB,hS,hH,hr⟩:=r
     refine p _ S' H' w ⟨[q],by unfold bS; exact ⟨q,vs,[],rfl,hH,rfl,.shs hr⟩,by simp,fun a ha=>?_⟩
     have z:a = q:=by simpa using ha
     subst z; exact ⟨hB,hS⟩
theorem SR.Hq {i:Nat} {t:OV} {v:V} (I:SR K cls Av G S₀ ρ σ S H) (w:bu S H S' H') (h:Bn K cls H S' H' t v):SR K cls Av G S₀ (ρ.set i (some (.tr false t))) (σ.set i (some v)) S' H':=by
 obtain ⟨F,J⟩:=I
 obtain ⟨fp,r,nd,g⟩:=h
 refine ⟨_,(J.grow w).put (fp:=fp) (fun t' e=>by cases e; exact ⟨v,rfl,r,nd,fun a ha=>⟨J.gh.free (g a ha).1,(g a ha).2⟩,fun z=>nomatch z⟩) (fun a ha=>⟨r.live a ha,J.gh.free (g a ha).1,(g a ha).2⟩) fun j a _ ha hz=>?_⟩
 obtain ⟨⟨o,h1,_⟩,_⟩:=J.live j a hz
 rw [(g a ha).1] at h1; cases h1
theorem yd {i:Nat} {te:TE} {md:ae -> OD} (h:JD K cls W te md):JS K cls W (sk te (kh i)) (p0 i md):=by
 intro Av G S₀ ρ σ S H D I p
 refine h Av G S₀ ρ σ S H _ I ?_
 unfold p0 at p
 cases e:md ρ with
 | exc c fs=>rw [e] at p; exact fun a C S' H' w x=>p a C σ S' H' (I.grow w) w.s x
 | bad=>rw [e] at p; exact p
 | ok t=>rw [e] at p; exact fun v S1 H1 w1 r1=>p _ S1 H1 (I.Hq w1 r1) w1.s
end
end L2.P
namespace L2.P
open PySem PySem.Spec PyProof.Rows L2 L2.E
section
variable {K:PySem.W.Frag} {cls:String -> Option Addr} {W:XW} {Av G S₀ S S' H H' B B':Hp} {ρ:ae} {σ:St} {Q:VK} {F:Nat -> List Addr}
theorem bS.Gm {ts:List OV} {v:V} {fp:List Addr} (h:bS K cls S H (.ol ts) v fp):∃ p vs f,v = .ref p /\ H p = some (.lst vs) /\ fp = p ::f /\ bP K cls S H ts vs f:=by unfold bS at h; exact h
theorem SRF.ui {i:Nat} {io:Bool} {t:OV} {ts:List OV} {v0:V} {π:List Stp} (J:SRF K cls Av G S₀ ρ σ S H F) (hi:ρ[i]? = some (some (.tr io t))) (hv:σ[i]? = some (some v0)) (e:t.get π = some (.ol ts)):
  ∃ q vs ff rest,ja H v0 π (.ref q) /\ H q = some (.lst vs) /\ vs.length = ts.length /\ bP K cls S H ts vs ff /\ (F i).Perm ((q ::ff) ++ rest) /\ ((q ::ff) ++ rest).Nodup /\
    ∀ S' H' ts' vs' f',bu S H S' H' -> bP K cls S' H' ts' vs' f' -> f'.Nodup -> (∀ a ∈ f',a ∈ ff \/ (H a = none /\ S' a = none)) ->
      ∃ g,SRF K cls Av G S₀ (ρ.set i (some (.tr io (t.put π (.ol ts'))))) σ S' (upd H' q (.lst vs')) (nA F i g) /\ g.Perm ((q ::f') ++ rest):=by
 obtain ⟨w,f1,rest,wk,r1,p1,nd1,gs,c⟩:=J.part hi hv e
 obtain ⟨q,vs,ff,rfl,hq,rfl,rs⟩:=r1.Gm
 refine ⟨q,vs,ff,rest,wk,hq,rs.length,rs,p1,nd1,fun S' H' ts' vs' f' wg r' nd' fr=>?_⟩
 have hGq:=(gs q (by simp)).1
 have hSq:=(gs q (by simp)).2
 have hS'q:S' q = none:=by
  cases z:S' q with
  | none=>rfl
  | some o=>
    rcases wg.new q (by rw [z]; simp) with y | y
    . exact absurd hSq y
    . rw [hq] at y; cases y
 have nq:q ∉ f':=fun z=>by
  rcases fr q z with y | y
  . exact (List.nodup_cons.mp (List.nodup_append.mp nd1).1).1 y
  . rw [y.1] at hq; cases hq
 have nS:∀ a ∈ f',S' a = none:=fun a ha=>by
  rcases fr a ha with y | y
  . cases z:S' a with
    | none=>rfl
    | some o=>
      obtain ⟨o',h1,_⟩:=rs.live a y
      rcases wg.new a (by rw [z]; simp) with k | k
      . exact absurd (gs a (by simp [y])).2 k
      . rw [h1] at k; cases k
  . exact y.2
 refine c S' (upd H' q (.lst vs')) (.ol ts') (q ::f') wg.s (wg.sh.upd hS'q) ((J.gh.trans wg.g).upd hGq) (fun b h=>?_) ?_ (List.nodup_cons.mpr ⟨nq,nd'⟩) (fun a ha=>?_) (fun a ha=>?_) (fun a o hn h=>?_) fun a h=>?_
 . rcases wg.new b h with z | z
   . exact J.new b z
   . exact .inr (J.gh.free z)
 . unfold bS
   exact ⟨q,vs',f',rfl,bg,rfl,r'.mono (aG.refl _) fun a ha o h=>by rw [aY (fun z=>nq (by rw [<- z]; exact ha))]; exact h⟩
 . rcases List.mem_cons.mp ha with z | z
   . subst z; exact .inl (by simp)
   . rcases fr a z with y | y
     . exact .inl (by simp [y])
     . exact .inr y.1
 . rcases List.mem_cons.mp ha with z | z
   . subst z; exact hS'q
   . exact nS a z
 . rw [aY (fun z=>hn (by rw [z]; simp))]; exact wg.g _ _ h
 . rcases wg.new a h with z | z
   . exact .inl z
   . exact .inr (.inl z)
theorem JP.at {i:Nat} {te:TE} {mp:MP} {io:Bool} {t u:OV} {v0:V} {π:List Stp} {Q:VK} (hp:JP K cls te i mp) (I:SR K cls Av G S₀ ρ σ S H) (hi:ρ[i]? = some (some (.tr io t))) (hv:σ[i]? = some (some v0)) (e0:mp ρ = some π) (e1:t.get π = some u)
  (k:∀ w S' H',bu S H S' H' -> SR K cls Av G S₀ ρ σ S' H' -> ja H' v0 π w -> Q w H'):te σ H Q:=
 hp Av G S₀ ρ σ S H Q v0 t π I (by unfold jU; rw [hi]; rfl) hv e0 (by rw [e1]; rfl) fun w S1 H1 w1 wk=>k w S1 H1 w1 (I.grow w1) wk
theorem rS {i:Nat} {mp:MP} {k:OV -> (OV -> ae) -> OS} {D:Ends} (p:gZ K cls W Av G S₀ S D (wQ i mp ρ k)):∃ io t π u,ρ[i]? = some (some (.tr io t)) /\ mp ρ = some π /\ t.get π = some u /\ gZ K cls W Av G S₀ S D (k u fun u'=>ρ.set i (some (.tr io (t.put π u')))):=by
 unfold wQ at p
 split at p
 . rename_i io t hi
   split at p
   . rename_i π e0
     split at p
     . rename_i u e1
       exact ⟨io,t,π,u,hi,e0,e1,p⟩
     . exact p.elim
   . exact p.elim
 . exact p.elim
theorem SR.val {i:Nat} {s:Sl} (I:SR K cls Av G S₀ ρ σ S H) (e:ρ[i]? = some (some s)):∃ v,σ[i]? = some (some v):=let ⟨v,h,_⟩:=I.good i s e; ⟨v,h⟩
theorem wC {i:Nat} {te tx:TE} {mp:MP} {md:ae -> OD} (hp:JP K cls te i mp) (hx:JD K cls W tx md):JS K cls W (sA (tBM K "list" uR te (js tx kN))) (mI i mp md):=by
 intro Av G S₀ ρ σ S H D I p
 obtain ⟨io,t,π,u,hi,e0,e1,p⟩:=rS p
 obtain ⟨v0,hv⟩:=I.val hi
 cases u with
 | sh x=>exact p.elim
 | ob c ks us=>exact p.elim
 | di x=>exact p.elim
 | dt x=>exact p.elim
 | ol ts=>
   dsimp only at p
   refine hp.at I hi hv e0 e1 fun w S1 H1 w1 I1 wk=>?_
   obtain ⟨F,J1⟩:=I1
   obtain ⟨q,vs,ff,rest,wk',hq,hl,rs,_,nd,c⟩:=J1.ui hi hv e1
   have:=wk.inj wk'
   subst this
   refine ⟨.inl ⟨rfl,_,SqL.new hq⟩,?_⟩
   refine hx Av G S₀ ρ σ S1 H1 _ ⟨F,J1⟩ ?_
   cases ed:md ρ with
   | exc c fs=>rw [ed] at p; exact fun a C S' H' w x=>p a C σ S' H' (SR.grow ⟨F,J1⟩ w) (w1.s.trans w.s) x
   | bad=>rw [ed] at p; exact p
   | ok x=>
     rw [ed] at p
     dsimp only at p
     split at p
     . rename_i hlt
       intro v S2 H2 w2 r2
       obtain ⟨fx,rx,ndx,gx⟩:=r2
       refine ⟨q,vs,v,rfl,rfl,w2.g _ _ hq,by rw [hl]; exact hlt,?_⟩
       have ndf:ff.Nodup:=(List.nodup_cons.mp (List.nodup_append.mp nd).1).2
       have apx:∀ a ∈ ff,a ∉ fx:=fun a ha hb=>by
        obtain ⟨o,h1,_⟩:=rs.live a ha
        rw [(gx a hb).1] at h1; cases h1
       obtain ⟨g,J3,_⟩:=c S2 H2 (ts ++ [x]) (vs ++ [v]) (ff ++ (fx ++ [])) w2 ((rs.mono w2.s fun a _ o h=>w2.g _ _ h).append (.cons rx .nil)) (by
         rw [List.append_nil]
         exact List.nodup_append.mpr ⟨ndf,ndx,fun a ha b hb z=>by subst z; exact apx a ha hb⟩) (fun a ha=>by
         rw [List.append_nil] at ha
         rcases List.mem_append.mp ha with z | z
         . exact .inl z
         . exact .inr (gx a z))
       exact p σ S2 _ ⟨_,J3⟩ (w1.s.trans w2.s)
     . exact p.elim
end
end L2.P
namespace L2.P
open PySem PySem.Spec PyProof.Rows L2 L2.E
section
variable {K:PySem.W.Frag} {cls:String -> Option Addr} {W:XW} {Av G S₀ S S' H H' B B':Hp} {ρ:ae} {σ:St} {Q:VK} {F:Nat -> List Addr}
theorem xH {i:Nat} {te tx:TE} {mp:MP} {me:ae -> OE} (hp:JP K cls te i mp) (hx:JE K cls W tx me):JS K cls W (sA (tBM K "list" yu te (js tx kN))) (lU i mp me):=by
 intro Av G S₀ ρ σ S H D I p
 obtain ⟨io,t,π,u,hi,e0,e1,p⟩:=rS p
 obtain ⟨v0,hv⟩:=I.val hi
 cases u with
 | sh x=>exact p.elim
 | ob c ks us=>exact p.elim
 | di x=>exact p.elim
 | dt x=>exact p.elim
 | ol ts=>
   dsimp only at p
   refine hp.at I hi hv e0 e1 fun w S1 H1 w1 I1 wk=>?_
   have p1:=p.back w1.s
   obtain ⟨F,J1⟩:=id I1
   obtain ⟨q,vs,ff,rest,wk',hq,hl,rs,_,nd,c⟩:=J1.ui hi hv e1
   have:=wk.inj wk'
   subst this
   refine ⟨.inl ⟨rfl,_,SqL.new hq⟩,?_⟩
   refine hx.goS I1 p1 fun r v S2 H2 I2 w2 r2 p2=>?_
   cases r with
   | sh x=>exact p2.elim
   | al ys=>exact p2.elim
   | fr ys=>
     dsimp only at p2
     split at p2
     . rename_i hlt
       obtain ⟨b,us,rfl,k1,k2,k3,k4⟩:=r2
       refine ⟨q,b,vs,us,rfl,rfl,w2.g _ _ hq,k3,by rw [hl,k4.length]; exact hlt,?_⟩
       have ndf:ff.Nodup:=(List.nodup_cons.mp (List.nodup_append.mp nd).1).2
       obtain ⟨g,J3,_⟩:=c S2 H2 (ts ++ ys.map .sh) (vs ++ us) (ff ++ []) w2 ((rs.mono w2.s fun a _ o h=>w2.g _ _ h).append (.shs k4)) (by rw [List.append_nil]; exact ndf) fun a ha=>.inl (by simpa using ha)
       exact p2 σ S2 _ ⟨_,J3⟩ (aG.refl _)
     . exact p2.elim
noncomputable def Dw (K:PySem.W.Frag) (cls:String -> Option Addr) (W:XW) (Av G S₀:Hp) (σ:St) (S:Hp) (Q:VK):OX -> Prop
 | .ok ρ' s=>∀ v S' H',SR K cls Av G S₀ (ρ' ++ [some s]) (σ ++ [some v]) S' H' -> aG S S' -> Q v H'
 | .exc ρ' c fs=>∀ a C S' H',SR K cls Av G S₀ ρ' σ S' H' -> aG S S' -> mH K cls S' H' c fs a C -> W (.ref C) (some a) σ H'
 | .bad=>False
noncomputable def JX (K:PySem.W.Frag) (cls:String -> Option Addr) (W:XW) (te:TE) (m:ae -> OX):Prop:=∀ Av G S₀ ρ σ S H Q,SR K cls Av G S₀ ρ σ S H -> Dw K cls W Av G S₀ σ S Q (m ρ) -> te σ H Q
theorem uS {i:Nat} {te:TE} {m:ae -> OX} (h:JX K cls W te m):JS K cls W (sk te (kh i)) (mT i m):=by
 intro Av G S₀ ρ σ S H D I p
 refine h Av G S₀ ρ σ S H _ I ?_
 unfold mT at p
 cases e:m ρ with
 | exc ρ' c fs=>rw [e] at p; exact fun a C S' H' I' s' x=>p a C σ S' H' I' s' x
 | bad=>rw [e] at p; exact p
 | ok ρ' s=>
   rw [e] at p
   dsimp only at p
   split at p
   . rename_i hs
     exact fun v S' H' I' s'=>p _ S' H' (I'.fold hs) s'
   . exact p.elim
theorem SR.E0 {x:PV} {v:V} (I:SR K cls Av G S₀ (ρ ++ [some (.sh x)]) (σ ++ [some v]) S H):Rep K S x v:=by
 obtain ⟨F,J⟩:=I
 have hlen:ρ.length = σ.length:=by have:=J.len; simpa using this
 obtain ⟨v',ev,r⟩:=J.own ρ.length (.sh x) (by simp)
 rw [List.getElem?_append_right (by rw [hlen]; exact Nat.le_refl _),hlen,Nat.sub_self] at ev
 cases ev
 exact r.2
theorem C4 {te:TE} {m:ae -> OX} {ta tb:TS} {ma mb:ae -> OS} (h:JX K cls W te m) (ha:JS K cls W ta ma) (hb:JS K cls W tb mb):
  JS K cls W (CH (B9 (fun σ H Q=>te σ H fun x H'=>∃ k,wM K x H' k /\ Q k H')) ta tb) (CC true m ma mb):=by
 intro Av G S₀ ρ σ S H D I p
 refine h Av G S₀ ρ σ S H _ I ?_
 unfold CC at p
 cases e:m ρ with
 | exc ρ' c fs=>rw [e] at p; exact fun a C S' H' I' s' x=>p a C σ S' H' I' s' x
 | bad=>rw [e] at p; exact p
 | ok ρ' s=>
   rw [e] at p
   cases s with
   | sh x=>
     dsimp only at p
     intro v S' H' I' s'
     cases et:qV x with
     | none=>rw [et] at p; exact p.elim
     | some k=>
       rw [et] at p
       refine ⟨k,x5 I'.sh (I'.E0.rd I'.sh) et,?_⟩
       cases k with
       | false=>exact uW (ha Av G S₀ ρ' σ S' H' D I'.yz (p.back s'))
       | true=>exact uj (hb Av G S₀ ρ' σ S' H' D I'.yz (p.back s'))
   | ow xs=>exact p.elim
   | ex c fs=>exact p.elim
   | tr io t=>exact p.elim
   | bo t=>exact p.elim
theorem bP.last {ts:List OV} {vs:List V} {f:List Addr} {x:OV} (h:bP K cls S H ts vs f) (e:ts.getLast? = some x):∃ y f1 f2,vs[vs.length - 1]? = some y /\ bP K cls S H ts.dropLast vs.dropLast f1 /\ bS K cls S H x y f2 /\ f = f1 ++ f2:=by
 induction ts generalizing vs f with
 | nil=>cases e
 | cons t ts ih=>
   obtain ⟨v,r,f1,f2,rfl,rfl,h1,h2⟩:=h.cons_inv
   cases ts with
   | nil=>
     unfold bP at h2
     obtain ⟨rfl,rfl⟩:=h2
     simp at e
     subst e
     exact ⟨v,[],f1,rfl,.nil,h1,by simp⟩
   | cons t2 ts2=>
     rw [List.getLast?_cons_cons] at e
     obtain ⟨y,g1,g2,e1,r1,r2,rfl⟩:=ih h2 e
     have hr:r ≠ []:=by intro z; subst z; have:=h2.length; simp at this
     refine ⟨y,f1 ++ g1,g2,?_,?_,r2,by simp⟩
     . cases r with
       | nil=>exact absurd rfl hr
       | cons a r'=>simpa using e1
     . cases r with
       | nil=>exact absurd rfl hr
       | cons a r'=>exact bP.cons h1 r1
theorem Dh {x:OV} {v:V} {fp:List Addr} {i:Nat} (h:bS K cls S H x v fp) (nd:fp.Nodup) (g:∀ a ∈ fp,G a = none /\ S a = none):qj K cls Av G S H i (slO x) v fp:=by
 cases x with
 | sh y=>unfold bS at h; exact h
 | ol ts=>exact ⟨h,nd,g,fun z=>nomatch z⟩
 | ob c ks ts=>exact ⟨h,nd,g,fun z=>nomatch z⟩
 | di x=>exact ⟨h,nd,g,fun z=>nomatch z⟩
 | dt x=>exact ⟨h,nd,g,fun z=>nomatch z⟩
theorem xR {i:Nat} {te:TE} {mp:MP} (hp:JP K cls te i mp):JX K cls W (Fy K "list" Hu te) (nP i mp):=by
 intro Av G S₀ ρ σ S H Q I p
 unfold nP at p
 split at p
 . rename_i io t hi
   split at p
   . rename_i π e0
     split at p
     . rename_i ts e1
       split at p
       . rename_i x ex
         obtain ⟨v0,hv⟩:=I.val hi
         refine hp.at I hi hv e0 e1 fun w S1 H1 w1 I1 wk=>?_
         obtain ⟨F,J1⟩:=id I1
         obtain ⟨q,vs,ff,rest,wk',hq,hl,rs,pF,nd,c⟩:=J1.ui hi hv e1
         have:=wk.inj wk'
         subst this
         obtain ⟨y,f1,f2,ey,ri,rx,rfl⟩:=rs.last ex
         have ndf:(f1 ++ f2).Nodup:=(List.nodup_cons.mp (List.nodup_append.mp nd).1).2
         have nq:q ∉ f1 ++ f2:=(List.nodup_cons.mp (List.nodup_append.mp nd).1).1
         refine ⟨.inl ⟨rfl,_,SqL.new hq⟩,q,vs,y,rfl,rfl,hq,ey,?_⟩
         obtain ⟨g,J3,pg⟩:=c S1 H1 ts.dropLast vs.dropLast f1 (bu.refl J1.sh) ri (List.nodup_append.mp ndf).1 fun a ha=>.inl (List.mem_append_left _ ha)
         have in2:∀ a ∈ f2,a ∈ F i:=fun a ha=>pF.mem_iff.mpr (by simp [ha])
         have rx':bS K cls S1 (upd H1 q (.lst vs.dropLast)) x y f2:=rx.mono (aG.refl _) fun a ha o h=>by rw [aY (fun z=>nq (by rw [<- z]; simp [ha]))]; exact h
         have gs2:∀ a ∈ f2,G a = none /\ S1 a = none:=fun a ha=>(J1.live i a (in2 a ha)).2
         obtain ⟨F',J4⟩:=J3.more (s:=some (slO x)) (u:=some y) (fp:=f2) (fun t' e=>by cases e; exact ⟨y,rfl,Dh rx' (List.nodup_append.mp ndf).2.1 gs2⟩) (fun a ha=>⟨rx'.live a ha,gs2 a ha⟩) fun j a hj ha hz=>by
          by_cases ej:j = i
          . subst ej
            rw [iY] at hz
            have hm:=pg.mem_iff.mp hz
            have hd:=List.nodup_append.mp nd
            rcases List.mem_append.mp hm with z | z
            . rcases List.mem_cons.mp z with z | z
              . subst z; exact nq (by simp [ha])
              . exact (List.nodup_append.mp ndf).2.2 a z a ha rfl
            . exact hd.2.2 a (by simp [ha]) a z rfl
          . rw [fM ej] at hz
            exact ej (J1.apart j i a hz (in2 a ha))
         exact p y S1 _ ⟨F',J4⟩ w1.s
       . exact p.elim
     . exact p.elim
   . exact p.elim
 . exact p.elim
end
end L2.P
namespace L2.P
open PySem PySem.Spec PyProof.Rows L2 L2.E
section
variable {K:PySem.W.Frag} {cls:String -> Option Addr} {W:XW} {Av G S₀ S S' H H' B B':Hp} {ρ:ae} {σ:St} {Q:VK} {F:Nat -> List Addr}
theorem CF {ks:List Str} {us:List (Str × V)} {f:Str} {y:V} (hk:us.map (·.1) = ks) {k:Nat} (hf:∀ j,ks[j]? = some f -> k <= j) (he:ks[k]? = some f):(jk f y us).map (·.1) = ks /\ (jk f y us).map (·.2) = (us.map (·.2)).set k y:=by
 induction us generalizing ks k with
 | nil=>subst hk; cases he
 | cons q us ih=>
   obtain ⟨g,x⟩:=q
   subst hk
   unfold jk
   by_cases e:g = f
   . rw [if_pos e]
     have k0:k = 0:=by have:=hf 0 (by simp [e]); omega
     subst k0
     exact ⟨rfl,rfl⟩
   . rw [if_neg e]
     cases k with
     | zero=>simp at he; exact absurd he e
     | succ k=>
       obtain ⟨h1,h2⟩:=ih (ks:=us.map (·.1)) (k:=k) rfl (fun j hj=>by have:=hf (j + 1) (by simpa using hj); omega) (by simpa using he)
       simp [h1,h2]
theorem Ad {us:List (Str × V)} {f:Str} {y:V} (h:f ∉ us.map (·.1)):jk f y us = us ++ [(f,y)]:=by
 induction us with
 | nil=>rfl
 | cons q us ih=>
   obtain ⟨g,x⟩:=q
   simp at h
   unfold jk
   rw [if_neg (fun z=>h.1 z.symm),ih (by simpa using h.2)]
   rfl
theorem wD {ks:List Str} {ts:List OV} {f:Str} (hl:ts.length = ks.length) (h:f ∈ ks):∃ k,ks[k]? = some f /\ (∀ j,ks[j]? = some f -> k <= j) /\ k < ts.length /\ ∀ u,sf ks ts f u = ts.set k u:=by
 induction ks generalizing ts with
 | nil=>cases h
 | cons g ks ih=>
   cases ts with
   | nil=>cases hl
   | cons t ts=>
     by_cases e:g = f
     . subst e
       exact ⟨0,rfl,fun j _=>Nat.zero_le _,by simp,fun u=>by simp [sf]⟩
     . obtain ⟨k,h1,h2,h3,h4⟩:=ih (ts:=ts) (by simpa using hl) (by
        rcases List.mem_cons.mp h with z | z
        . exact absurd z.symm e
        . exact z)
       refine ⟨k + 1,by simpa using h1,fun j hj=>?_,by simpa using h3,fun u=>by simp [sf,e,h4]⟩
       cases j with
       | zero=>simp at hj; exact absurd hj e
       | succ j=>have:=h2 j (by simpa using hj); omega
theorem C9 {i:Nat} {te tx:TE} {mp:MP} {f:Str} {okc:String -> Bool} {md:ae -> OD} (hp:JP K cls te i mp) (hx:JD K cls W tx md) (ha:∀ c C,cls c = some C -> okc c = true -> Cls K C /\ kj K C f):JS K cls W (EK K te tx f) (AD i mp f okc md):=by
 intro Av G S₀ ρ σ S H D I p
 refine hx Av G S₀ ρ σ S H _ I ?_
 unfold AD at p
 cases ed:md ρ with
 | exc c fs=>rw [ed] at p; exact fun a C S' H' w x=>p a C σ S' H' (I.grow w) w.s x
 | bad=>rw [ed] at p; exact p
 | ok x=>
   rw [ed] at p
   dsimp only at p
   obtain ⟨io,t,π,u,hi,e0,e1,p⟩:=rS p
   obtain ⟨v0,hv⟩:=I.val hi
   cases u with
   | sh x=>exact p.elim
   | ol ts=>exact p.elim
   | di x=>exact p.elim
   | dt x=>exact p.elim
   | ob c ks ts=>
     dsimp only at p
     split at p
     . rename_i hok
       rw [Bool.and_eq_true,decide_eq_true_eq] at hok
       intro v S1 H1 w1 r1
       refine hp.at (I.grow w1) hi hv e0 e1 fun w S2 H2 w2 I2 wk=>?_
       obtain ⟨F,J⟩:=id I
       obtain ⟨w0,f1,rest,wk',ro,pF,nd,gs,cc⟩:=J.part hi hv e1
       have wg:bu S H S2 H2:=w1.trans w2
       have:=wk.inj (wk'.mono wg.g)
       subst this
       unfold bS at ro
       obtain ⟨q,C,dx,us,ff,rfl,hcl,hq,hd,hk,rfl,rs⟩:=ro
       obtain ⟨a1,a2⟩:=ha c C hcl hok.1
       have nd1:=(List.nodup_append.mp nd).1
       have nq:q ∉ dx ::ff:=(List.nodup_cons.mp nd1).1
       have ndx':dx ∉ ff:=(List.nodup_cons.mp (List.nodup_cons.mp nd1).2).1
       have ndf:ff.Nodup:=(List.nodup_cons.mp (List.nodup_cons.mp nd1).2).2
       have hlen:us.length < 1000:=by have:=congrArg List.length hk; simp at this; omega
       obtain ⟨fx,rx,nx,gx⟩:=r1.grow w2
       refine ⟨q,C,dx,us,rfl,wg.g _ _ hq,a1,a2,hlen,?_⟩
       have noS:∀ a ∈ q ::dx ::ff,S2 a = none:=fun a ha=>by
        cases z:S2 a with
        | none=>rfl
        | some o=>
          obtain ⟨⟨o',h1,_⟩,_,h3⟩:=J.live i a (pF.mem_iff.mpr (List.mem_append_left _ ha))
          rcases wg.new a (by rw [z]; simp) with y | y
          . exact absurd h3 y
          . rw [h1] at y; cases y
       have fin:∀ ks' ts' f',(jk f v us).map (·.1) = ks' -> bP K cls S2 H2 ts' ((jk f v us).map (·.2)) f' -> f'.Nodup -> (∀ a ∈ f',a ∈ ff \/ (H a = none /\ S2 a = none)) ->
         SR K cls Av G S₀ (ρ.set i (some (.tr io (t.put π (.ob c ks' ts'))))) σ S2 (upd H2 q (.ins C dx (jk f v us))):=by
        intro ks' ts' f' hk' rs' nd' fr
        have nqf:q ∉ f':=fun z=>by
         rcases fr q z with y | y
         . exact nq (by simp [y])
         . rw [y.1] at hq; cases hq
        have ndf':dx ∉ f':=fun z=>by
         rcases fr dx z with y | y
         . exact ndx' y
         . rw [y.1] at hd; cases hd
        have ndq:dx ≠ q:=fun z=>nq (by simp [z])
        obtain ⟨g,J3,_⟩:=cc S2 (upd H2 q (.ins C dx (jk f v us))) (.ob c ks' ts') (q ::dx ::f') wg.s (wg.sh.upd (noS q (by simp))) ((J.gh.trans wg.g).upd (gs q (by simp)).1) (fun b h=>by
          rcases wg.new b h with z | z
          . exact J.new b z
          . exact .inr (J.gh.free z)) (by
          unfold bS
          exact ⟨q,C,dx,_,f',rfl,hcl,bg,by rw [aY ndq]; exact wg.g _ _ hd,hk',rfl,rs'.mono (aG.refl _) fun a ha o h=>by rw [aY (fun z=>nqf (by rw [<- z]; exact ha))]; exact h⟩)
         (List.nodup_cons.mpr ⟨fun z=>by
           rcases List.mem_cons.mp z with z | z
           . exact ndq z.symm
           . exact nqf z,List.nodup_cons.mpr ⟨ndf',nd'⟩⟩) (fun a ha=>by
           rcases List.mem_cons.mp ha with z | z
           . subst z; exact .inl (by simp)
           . rcases List.mem_cons.mp z with z | z
             . subst z; exact .inl (by simp)
             . rcases fr a z with y | y
               . exact .inl (by simp [y])
               . exact .inr y.1) (fun a ha=>by
           rcases List.mem_cons.mp ha with z | z
           . subst z; exact noS _ (by simp)
           . rcases List.mem_cons.mp z with z | z
             . subst z; exact noS _ (by simp)
             . rcases fr a z with y | y
               . exact noS a (by simp [y])
               . exact y.2) (fun a o hn h=>by rw [aY (fun z=>hn (by rw [z]; simp))]; exact wg.g _ _ h) fun a h=>by
           rcases wg.new a h with z | z
           . exact .inl z
           . exact .inr (.inl z)
        exact ⟨_,J3⟩
       have hlts:ts.length = ks.length:=by rw [<- rs.length,<- hk]; simp
       split at p
       . rename_i hc
         obtain ⟨k,h1,h2,h3,h4⟩:=wD hlts (by simpa using hc)
         obtain ⟨k1,k2⟩:=CF (y:=v) hk h2 h1
         obtain ⟨w3,g1,rest3,e3,r3,p3,c3⟩:=rs.at (k:=k) (u:=ts[k]) (by simp [h3])
         obtain ⟨g,rg,pg⟩:=c3 S2 H2 x v fx wg.s rx fun a _ o h=>wg.g _ _ h
         have inff:∀ a ∈ rest3,a ∈ ff:=fun a ha=>p3.mem_iff.mpr (List.mem_append_right _ ha)
         have ndr:rest3.Nodup:=(List.nodup_append.mp (p3.nodup_iff.mp ndf)).2.1
         have ndg:g.Nodup:=pg.nodup_iff.mpr (List.nodup_append.mpr ⟨nx,ndr,fun a ha b hb z=>by
          subst z
          obtain ⟨o,h1,_⟩:=rs.live a (inff a hb)
          rw [(gx a ha).1] at h1; cases h1⟩)
         have q1:=fin ks (ts.set k x) g k1 (by rw [k2]; exact rg) ndg fun a ha=>by
          rcases List.mem_append.mp (pg.mem_iff.mp ha) with z | z
          . exact .inr (gx a z)
          . exact .inl (inff a z)
         rw [h4] at p
         exact p σ S2 _ q1 wg.s
       . rename_i hc
         have hn:f ∉ us.map (·.1):=by rw [hk]; simpa using hc
         have e2:=Ad (y:=v) hn
         have ndg:(ff ++ (fx ++ [])).Nodup:=by
          rw [List.append_nil]
          exact List.nodup_append.mpr ⟨ndf,nx,fun a ha b hb z=>by
           subst z
           obtain ⟨o,h1,_⟩:=rs.live a ha
           rw [(gx a hb).1] at h1; cases h1⟩
         have q1:=fin (ks ++ [f]) (ts ++ [x]) (ff ++ (fx ++ [])) (by rw [e2]; simp [hk]) (by rw [e2,List.map_append]; exact (rs.mono wg.s fun a _ o h=>wg.g _ _ h).append (.cons rx .nil)) ndg fun a ha=>by
          rw [List.append_nil] at ha
          rcases List.mem_append.mp ha with z | z
          . exact .inl z
          . exact .inr (gx a z)
         exact p σ S2 _ q1 wg.s
     . exact p.elim
end
end L2.P
namespace L2.P
open PySem PySem.Spec PyProof.Rows L2 L2.E
open Classical in
noncomputable def minus (H:Hp) (Fc:Nat -> List Addr):Hp:=fun a=>if ∃ k,a ∈ Fc k then none else H a
section
variable {K:PySem.W.Frag} {cls:String -> Option Addr} {W:XW} {Av G S₀ S S' H H' B B':Hp} {ρ:ae} {σ:St} {Q:VK} {F Fc Fc':Nat -> List Addr}
theorem vf {a:Addr} {k:Nat} (h:a ∈ Fc k):minus H Fc a = none:=by unfold minus; rw [if_pos ⟨k,h⟩]
theorem iS {a:Addr} (h:∀ k,a ∉ Fc k):minus H Fc a = H a:=by unfold minus; rw [if_neg (fun ⟨k,z⟩=>h k z)]
theorem rB:aG (minus H Fc) H:=fun b u h=>by
 unfold minus at h
 split at h
 . cases h
 . exact h
theorem kS {a:Addr} (h:minus H Fc a = none):H a = none \/ ∃ k,a ∈ Fc k:=by
 unfold minus at h
 split at h
 . rename_i z; exact .inr z
 . exact .inl h
noncomputable def Io (K:PySem.W.Frag) (cls:String -> Option Addr) (S H Hm:Hp):Sl -> V -> List Addr -> Prop
 | .sh x,v,fp=>fp = [] /\ Rep K S x v
 | .tr true t,v,fp=>bS K cls S H t v fp /\ fp.Nodup
 | .bo t,v,fp=>fp = [] /\ ∃ f,bS K cls S Hm t v f
 | _,_,_=>False
structure AS (K:PySem.W.Frag) (cls:String -> Option Addr) (vs:List V) (S H:Hp) (Fc:Nat -> List Addr) (outs:List (Option OV)) (S' H':Hp) (Fc':Nat -> List Addr):Prop where
 s:aG S S'
 sh:aG S' H'
 keep:aG (minus H Fc) H'
 new:∀ b,S' b ≠ none -> S b ≠ none \/ H b = none \/ ∃ k,b ∈ Fc k
 out:∀ k t',outs[k]? = some (some t') -> ∃ u,vs[k]? = some u /\ bS K cls S' H' t' u (Fc' k) /\ (Fc' k).Nodup
 apart:∀ j k a,a ∈ Fc' j -> a ∈ Fc' k -> j = k
 live:∀ k a,a ∈ Fc' k -> minus H Fc a = none /\ S' a = none
noncomputable def Hh (K:PySem.W.Frag) (cls:String -> Option Addr) (vs:List V) (S H:Hp) (Fc:Nat -> List Addr) (Q:VK) (E:XK):OI -> Prop
 | .ok x outs=>∀ v S' H' Fc',AS K cls vs S H Fc outs S' H' Fc' -> Rep K S' x v -> Q v H'
 | .exc c fs outs=>∀ a C S' H' Fc',AS K cls vs S H Fc outs S' H' Fc' -> mH K cls S' H' c fs a C -> E (.ref C) (some a) H'
 | .bad=>False
structure Ay (K:PySem.W.Frag) (cls:String -> Option Addr) (as:List Sl) (vs:List V) (S H:Hp) (Fc:Nat -> List Addr):Prop where
 sh:aG S H
 len:as.length = vs.length
 rel:∀ (k:Nat) (s:Sl),as[k]? = some s -> ∃ v,vs[k]? = some v /\ Io K cls S H (minus H Fc) s v (Fc k)
 apart:∀ j k a,a ∈ Fc j -> a ∈ Fc k -> j = k
 live:∀ k a,a ∈ Fc k -> (∃ o,H a = some o /\ isX o = false) /\ S a = none
noncomputable def spI (K:PySem.W.Frag) (cls:String -> Option Addr) (f:List Sl -> OI):Sp:=fun vs H Q E=>∃ S as Fc,Ay K cls as vs S H Fc /\ Hh K cls vs S H Fc Q E (f as)
theorem Ds {as:List Sl} {vs:List V} {N:List Str} {i:Nat} {s:Sl} (hl:as.length = vs.length) (e:(kB N.length as)[i]? = some (some s)):as[i]? = some s /\ (L2.start N vs)[i]? = some ((vs[i]?)):=by
 unfold kB at e
 by_cases hi:i < as.length
 . rw [List.getElem?_append_left (by simpa using hi),List.getElem?_map] at e
   have hx:as[i]? = some as[i]:=by simp [hi]
   rw [hx] at e
   cases e
   refine ⟨hx,?_⟩
   unfold L2.start
   rw [List.getElem?_append_left (by rw [List.length_map,<- hl]; exact hi),List.getElem?_map]
   have hv:vs[i]? = some (vs[i]'(by rw [<- hl]; exact hi)):=by simp [<- hl,hi]
   rw [hv]; rfl
 . rw [List.getElem?_append_right (by simpa using hi)] at e
   rw [List.getElem?_replicate] at e
   split at e <;> cases e
noncomputable def zM (vs:List V):Hp:=fun i=>(vs[i]?).map fun v=>.lst [v]
theorem SR.EM {vs:List V} {np:Nat} {ρ':ae} {σ':St} (A:aG S H) (I:SR K cls (zM vs) (minus H Fc) S ρ' σ' S' H'):∃ Fc',AS K cls vs S H Fc ((ρ'.take np).map sF) S' H' Fc':=by
 obtain ⟨F,J⟩:=I
 refine ⟨F,J.s0,J.sh,J.gh,fun b h=>?_,fun k t' e=>?_,J.apart,fun k a ha=>(J.live k a ha).2⟩
 . rcases J.new b h with z | z
   . exact .inl z
   . rcases kS z with y | y
     . exact .inr (.inl y)
     . exact .inr (.inr y)
 . rw [List.getElem?_map] at e
   obtain ⟨s,e1,e2⟩:=Option.map_eq_some_iff.mp e
   have e3:ρ'[k]? = some s:=by
    rw [List.getElem?_take] at e1
    split at e1
    . exact e1
    . cases e1
   cases s with
   | none=>cases e2
   | some s=>
     cases s with
     | tr io t=>
       cases io with
       | false=>cases e2
       | true=>
         cases e2
         obtain ⟨v,ev,ro,nd,_,hio⟩:=J.own k _ e3
         have:=hio rfl
         unfold zM at this
         obtain ⟨u,eu,e4⟩:=Option.map_eq_some_iff.mp this
         cases e4
         exact ⟨v,eu,ro,nd⟩
     | sh x=>cases e2
     | ow x=>cases e2
     | ex c fs=>cases e2
     | bo t=>cases e2
theorem vS {P:Program} {w:World} {mg:Str -> Option Value} {base:Heap} {x qual:Str} {st:Stmt} {f:Addr} {fd:FuncData} {N ps:List Str} {k:Nat} {m:ae -> OS} (Fn:Fun K x qual st f fd) (Sc:aT N ps (av st))
  (hbody:∀ (cdv:Value) (A:Around) (outer:List Env) (s:Shared) (H:Hp) (E:XK),gY k (A.deeper (envOfC qual (av st) s.heap.objs.size f cdv)) ->
    ∃ t,QSs (oJ (CXE P w) P w K mg base N qual (av st) f cdv A outer s H E) (aS st) t /\ JS K cls (fun C a _ H=>∀ H',aG H H' -> E C a H') t m):cw P w K mg base (CXE P w) (k + 1) f fd ps (spI K cls (fnI ps.length N.length m)):=by
 refine okX Fn Sc (fun vs H Q E h=>?_) fun cdv A outer s H vs Q E hr h=>?_
 . obtain ⟨S,as,Fc,a,q⟩:=h
   unfold fnI at q
   split at q
   . rw [<- a.len]; assumption
   . exact q.elim
 . obtain ⟨S,as,Fc,a,q⟩:=h
   unfold fnI at q
   split at q
   . rename_i hl
     obtain ⟨t,ht,J⟩:=hbody cdv A outer s H E hr
     refine ⟨t,ht.out,?_⟩
     have start:SR K cls (zM vs) (minus H Fc) S (kB N.length as) (L2.start N vs) S H:=by
      refine ⟨Fc,rB,aG.refl _,a.sh,fun _ z=>.inl z,fun i s e=>?_,a.apart,fun i b hb=>⟨(a.live i b hb).1,vf hb,(a.live i b hb).2⟩,?_⟩
      . obtain ⟨e1,e2⟩:=Ds a.len e
        obtain ⟨v,ev,r⟩:=a.rel i s e1
        rw [ev] at e2
        refine ⟨v,e2,?_⟩
        cases s with
        | sh x=>exact r
        | ow x=>exact r.elim
        | ex c fs=>exact r.elim
        | tr io t=>
          cases io with
          | false=>exact r.elim
          | true=>exact ⟨r.1,r.2,fun b hb=>⟨vf hb,(a.live i b hb).2⟩,fun _=>by unfold zM; rw [ev]; rfl⟩
        | bo t=>exact r
      . unfold kB L2.start
        simp [a.len]
     refine J (zM vs) (minus H Fc) S (kB N.length as) (L2.start N vs) S H _ start ?_
     cases e:m (kB N.length as) with
     | nx ρ'=>rw [e] at q; exact fun σ' S' H' I' s'=>let ⟨Fc',E'⟩:=I'.EM (np:=ps.length) a.sh; q .non S' H' Fc' E' (by unfold Rep; rfl)
     | bk ρ'=>rw [e] at q; exact q.elim
     | ct ρ'=>rw [e] at q; exact q.elim
     | bad=>rw [e] at q; exact q.elim
     | rt ρ' r=>
       rw [e] at q
       cases r with
       | al ys=>exact q.elim
       | fr ys=>exact q.elim
       | sh y=>exact fun v σ' S' H' I' s' rr=>let ⟨Fc',E'⟩:=I'.EM (np:=ps.length) a.sh; q v S' H' Fc' E' rr
     | exc ρ' c fs=>
       rw [e] at q
       exact fun b C σ' S' H' I' s' x H2 g2=>let ⟨Fc',E'⟩:=(I'.same g2).EM (np:=ps.length) a.sh; q b C S' H2 Fc' E' (x.mono (aG.refl _) g2)
   . exact q.elim
noncomputable def AR1 (K:PySem.W.Frag) (S H:Hp) (ρ:ae) (σ:St):Arg -> Sl -> V -> Prop
 | .e _,.sh x,v=>Rep K S x v
 | .t i mp,.tr true u,v=>∃ io t π v0,ρ[i]? = some (some (.tr io t)) /\ mp ρ = some π /\ t.get π = some u /\ σ[i]? = some (some v0) /\ ja H v0 π v
 | .b i mp,.bo u,v=>∃ t π v0,jU i ρ = some t /\ mp ρ = some π /\ t.get π = some u /\ σ[i]? = some (some v0) /\ ja H v0 π v
 | _,_,_=>False
noncomputable def ARs (K:PySem.W.Frag) (S H:Hp) (ρ:ae) (σ:St):List Arg -> List Sl -> List V -> Prop
 | [],ss,vs=>ss = [] /\ vs = []
 | a ::as,ss,vs=>∃ s sr v vr,ss = s ::sr /\ vs = v ::vr /\ AR1 K S H ρ σ a s v /\ ARs K S H ρ σ as sr vr
theorem AR1.mono {a:Arg} {s:Sl} {v:V} (h:AR1 K S H ρ σ a s v) (s1:aG S S') (g:aG H H'):AR1 K S' H' ρ σ a s v:=by
 cases a with
 | e me=>cases s <;> first | exact h.elim | exact Rep.mono s1 h
 | t i mp=>
   cases s with
   | tr io u=>
     cases io with
     | false=>exact h.elim
     | true=>obtain ⟨io,t,π,v0,h1,h2,h3,h4,h5⟩:=h; exact ⟨io,t,π,v0,h1,h2,h3,h4,h5.mono g⟩
   | _=>exact h.elim
 | b i mp=>
   cases s with
   | bo u=>obtain ⟨t,π,v0,h1,h2,h3,h4,h5⟩:=h; exact ⟨t,π,v0,h1,h2,h3,h4,h5.mono g⟩
   | _=>exact h.elim
theorem ARs.at {as:List Arg}:∀ {ss:List Sl} {vs:List V} {k:Nat} {a:Arg},ARs K S H ρ σ as ss vs -> as[k]? = some a -> ∃ s v,ss[k]? = some s /\ vs[k]? = some v /\ AR1 K S H ρ σ a s v:=by
 induction as with
 | nil=>intro ss vs k a _ e; simp at e
 | cons b as ih=>
   rintro ss vs k a ⟨s,sr,v,vr,rfl,rfl,h1,h2⟩ e
   cases k with
   | zero=>simp at e; subst e; exact ⟨s,v,rfl,rfl,h1⟩
   | succ k=>simp at e; obtain ⟨s',v',e1,e2,r⟩:=ih h2 e; exact ⟨s',v',by simpa using e1,by simpa using e2,r⟩
theorem ARs.len {as:List Arg}:∀ {ss:List Sl} {vs:List V},ARs K S H ρ σ as ss vs -> ss.length = as.length /\ vs.length = as.length:=by
 induction as with
 | nil=>intro ss vs h; rw [h.1,h.2]; exact ⟨rfl,rfl⟩
 | cons b as ih=>
   rintro ss vs ⟨s,sr,v,vr,rfl,rfl,h1,h2⟩
   have:=ih h2
   simp [this]
noncomputable def JAI (K:PySem.W.Frag) (cls:String -> Option Addr) (t:TA) (as:List Arg):Prop:=∀ Av G S₀ ρ σ S H Q ss,SR K cls Av G S₀ ρ σ S H -> kx as ρ = some ss -> (∀ vs S' H',bu S H S' H' -> ARs K S' H' ρ σ as ss vs -> Q vs H') -> t σ H Q
noncomputable def JA1 (K:PySem.W.Frag) (cls:String -> Option Addr) (te:TE) (a:Arg):Prop:=∀ Av G S₀ ρ σ S H Q s,SR K cls Av G S₀ ρ σ S H -> kY a ρ = some s -> (∀ v S' H',bu S H S' H' -> AR1 K S' H' ρ σ a s v -> Q v H') -> te σ H Q
theorem D7 {te:TE} {me:ae -> OE} (h:JE K cls W te me):JA1 K cls te (.e me):=by
 intro Av G S₀ ρ σ S H Q s I e k
 unfold kY at e
 dsimp only at e
 refine h Av G S₀ ρ σ S H Q I ?_
 cases em:me ρ with
 | exc c fs=>rw [em] at e; cases e
 | bad=>rw [em] at e; cases e
 | ok r=>
   rw [em] at e
   obtain ⟨x,e1,rfl⟩:=Option.map_eq_some_iff.mp e
   intro v S1 H1 w1 r1
   obtain ⟨S2,w2,s2,rx⟩:=r1.share w1 e1
   exact k v S2 H1 w2 rx
theorem DA {te:TE} {i:Nat} {mp:MP} (h:JP K cls te i mp):JA1 K cls te (.t i mp):=by
 intro Av G S₀ ρ σ S H Q s I e k
 unfold kY at e
 dsimp only at e
 split at e
 . rename_i io t hi
   obtain ⟨u,e1,rfl⟩:=Option.map_eq_some_iff.mp e
   obtain ⟨π,e2,e3⟩:=Option.bind_eq_some_iff.mp e1
   obtain ⟨v0,hv⟩:=I.val hi
   exact h.at I hi hv e2 e3 fun w S1 H1 w1 I1 wk=>k w S1 H1 w1 ⟨io,t,π,v0,hi,e2,e3,hv,wk⟩
 . cases e
theorem DW {te:TE} {i:Nat} {mp:MP} (h:JP K cls te i mp):JA1 K cls te (.b i mp):=by
 intro Av G S₀ ρ σ S H Q s I e k
 unfold kY at e
 dsimp only at e
 obtain ⟨u,e1,rfl⟩:=Option.map_eq_some_iff.mp e
 unfold subAt at e1
 split at e1
 . rename_i t et
   split at e1
   . rename_i π eπ
     obtain ⟨v0,fp,hv,_⟩:=I.tree et
     exact h Av G S₀ ρ σ S H Q v0 t π I et hv eπ (by rw [e1]; rfl) fun w S1 H1 w1 wk=>k w S1 H1 w1 ⟨t,π,v0,et,eπ,e1,hv,wk⟩
   . cases e1
 . cases e1
theorem qA:JAI K cls kN []:=by
 intro Av G S₀ ρ σ S H Q ss I e k
 cases e
 exact k [] S H (bu.refl I.sh) ⟨rfl,rfl⟩
theorem vO {te:TE} {t:TA} {a:Arg} {as:List Arg} (h:JA1 K cls te a) (r:JAI K cls t as):JAI K cls (js te t) (a ::as):=by
 intro Av G S₀ ρ σ S H Q ss I e k
 unfold kx at e
 obtain ⟨s,e1,e2⟩:=Option.bind_eq_some_iff.mp e
 obtain ⟨sr,e3,rfl⟩:=Option.map_eq_some_iff.mp e2
 refine h Av G S₀ ρ σ S H _ s I e1 fun v S1 H1 w1 h1=>?_
 refine r Av G S₀ ρ σ S1 H1 _ sr (I.grow w1) e3 fun vs S2 H2 w2 h2=>?_
 exact k (v ::vs) S2 H2 (w1.trans w2) ⟨s,sr,v,vs,rfl,rfl,h1.mono w2.s w2.g,h2⟩
end
end L2.P
namespace L2.P
open PySem PySem.Spec PyProof.Rows L2 L2.E
section
variable {K:PySem.W.Frag} {cls:String -> Option Addr} {W:XW} {Av G S₀ S S' H H' B B':Hp} {ρ:ae} {σ:St} {Q:VK} {F Fc Fc':Nat -> List Addr}
noncomputable def dB:List Arg -> List Nat
 | []=>[]
 | .t i _ ::as=>i ::dB as
 | _ ::as=>dB as
noncomputable def pO:List Arg -> List Nat
 | []=>[]
 | .b i _ ::as=>i ::pO as
 | _ ::as=>pO as
noncomputable def argsOk (as:List Arg):Bool:=decide (dB as).Nodup && (pO as).all fun i=>!(dB as).contains i
theorem gJ {as:List Arg} {k i:Nat} {mp:MP} (h:as[k]? = some (.t i mp)):i ∈ dB as:=by
 induction as generalizing k with
 | nil=>simp at h
 | cons a as ih=>
   cases k with
   | zero=>simp at h; subst h; simp [dB]
   | succ k=>
     simp at h
     have:=ih h
     cases a <;> simp [dB,this]
theorem xI {as:List Arg} {k i:Nat} {mp:MP} (h:as[k]? = some (.b i mp)):i ∈ pO as:=by
 induction as generalizing k with
 | nil=>simp at h
 | cons a as ih=>
   cases k with
   | zero=>simp at h; subst h; simp [pO]
   | succ k=>
     simp at h
     have:=ih h
     cases a <;> simp [pO,this]
theorem kP {as:List Arg} (nd:(dB as).Nodup) {j k i:Nat} {mp mp':MP} (h:as[j]? = some (.t i mp)) (h':as[k]? = some (.t i mp')):j = k:=by
 induction as generalizing j k with
 | nil=>simp at h
 | cons a as ih=>
   cases j with
   | zero=>
     simp at h
     subst h
     cases k with
     | zero=>rfl
     | succ k=>
       simp at h'
       have:=gJ h'
       simp [dB] at nd
       exact absurd this nd.1
   | succ j=>
     cases k with
     | zero=>
       simp at h'
       subst h'
       simp at h
       have:=gJ h
       simp [dB] at nd
       exact absurd this nd.1
     | succ k=>
       simp at h h'
       have nd':(dB as).Nodup:=by
        cases a with
        | t i' mp=>simp [dB] at nd; exact nd.2
        | e me=>exact nd
        | b i' mp=>exact nd
       rw [ih nd' h h']
theorem pJ {as:List Arg} {i:Nat} (h:i ∈ dB as):∃ (k:Nat) (mp:MP),as[k]? = some (.t i mp):=by
 induction as with
 | nil=>simp [dB] at h
 | cons a as ih=>
   cases a with
   | t j mp=>
     simp [dB] at h
     rcases h with h | h
     . subst h; exact ⟨0,mp,rfl⟩
     . obtain ⟨k,mp',e⟩:=ih h; exact ⟨k + 1,mp',by simpa using e⟩
   | e me=>obtain ⟨k,mp',e⟩:=ih h; exact ⟨k + 1,mp',by simpa using e⟩
   | b j mp=>obtain ⟨k,mp',e⟩:=ih h; exact ⟨k + 1,mp',by simpa using e⟩
theorem qh {as:List Arg} {ρ₀:ae}:∀ {us:List (Option OV)} {ρ:ae} {i:Nat},i ∉ dB as -> (gd ρ₀ as us ρ)[i]? = ρ[i]?:=by
 induction as with
 | nil=>intro us ρ i _; rfl
 | cons a as ih=>
   intro us ρ i h
   unfold gd
   cases a with
   | e me=>rw [ih h]; rfl
   | b j mp=>rw [ih h]; rfl
   | t j mp=>
     simp [dB] at h
     rw [ih h.2]
     have:∀ x:Option Sl,(ρ.set j x)[i]? = ρ[i]?:=fun x=>List.getElem?_set_ne (Ne.symm h.1)
     cases us.head?.join with
     | none=>exact this _
     | some u=>
       unfold ki
       dsimp only
       split
       . split
         . exact this _
         . exact this _
       . exact this _
theorem xh {as:List Arg} {ρ₀:ae}:∀ {us:List (Option OV)} {ρ:ae} {i k:Nat} {mp:MP} {s:Sl},(dB as).Nodup -> as[k]? = some (.t i mp) -> (gd ρ₀ as us ρ)[i]? = some (some s) ->
  ∃ io t π u,us[k]? = some (some u) /\ ρ[i]? = some (some (.tr io t)) /\ mp ρ₀ = some π /\ s = .tr io (t.put π u):=by
 induction as with
 | nil=>intro us ρ i k mp s _ h; simp at h
 | cons a as ih=>
   intro us ρ i k mp s nd h e
   unfold gd at e
   cases k with
   | zero=>
     simp at h
     subst h
     simp [dB] at nd
     rw [qh nd.1] at e
     cases us with
     | nil=>
       unfold ki at e
       simp at e
       rw [List.getElem?_set] at e
       simp at e
     | cons u us=>
       cases u with
       | none=>
         unfold ki at e
         simp at e
         rw [List.getElem?_set] at e
         simp at e
       | some u=>
         unfold ki at e
         simp only [List.head?_cons,Option.join_some] at e
         split at e
         . rename_i io t hi
           split at e
           . rename_i π hπ
             rw [List.getElem?_set] at e
             simp at e
             exact ⟨io,t,π,u,rfl,hi,hπ,e.2.symm⟩
           . rw [List.getElem?_set] at e
             simp at e
         . rw [List.getElem?_set] at e
           simp at e
   | succ k=>
     simp at h
     have nd':(dB as).Nodup:=by
      cases a with
      | t i' mp=>simp [dB] at nd; exact nd.2
      | e me=>exact nd
      | b i' mp=>exact nd
     obtain ⟨io,t,π,u,e1,e2,e3,e4⟩:=ih nd' h e
     refine ⟨io,t,π,u,?_,?_,e3,e4⟩
     . cases us with
       | nil=>simp at e1
       | cons _ us=>simpa using e1
     . cases a with
       | e me=>exact e2
       | b j mp=>exact e2
       | t j mp'=>
         have hij:i ≠ j:=by
          intro z
          subst z
          simp [dB] at nd
          exact nd.1 (gJ h)
         have:∀ x:Option Sl,(ρ.set j x)[i]? = ρ[i]?:=fun x=>List.getElem?_set_ne (Ne.symm hij)
         cases q:us.head?.join with
         | none=>rw [q] at e2; unfold ki at e2; simp only at e2; rw [this] at e2; exact e2
         | some u=>
           rw [q] at e2
           unfold ki at e2
           simp only at e2
           split at e2
           . split at e2
             . rw [this] at e2; exact e2
             . rw [this] at e2; exact e2
           . rw [this] at e2; exact e2
theorem vC {as:List Arg} {ρ₀:ae}:∀ {us:List (Option OV)} {ρ:ae},(gd ρ₀ as us ρ).length = ρ.length:=by
 induction as with
 | nil=>intro us ρ; rfl
 | cons a as ih=>
   intro us ρ
   unfold gd
   rw [ih]
   unfold ki
   split
   . split
     . split <;> simp
     . simp
   . simp
   . rfl
theorem SR.G7 {as:List Arg} {ss:List Sl} {vs:List V} (I:SR K cls Av G S₀ ρ σ S H) (ok:argsOk as = true) (h:ARs K S H ρ σ as ss vs):
  ∃ Fc,Ay K cls ss vs S H Fc /\ ∀ outs S' H' Fc',AS K cls vs S H Fc outs S' H' Fc' -> SR K cls Av G S₀ (gd ρ as outs ρ) σ S' H':=by
 obtain ⟨F,J⟩:=I
 unfold argsOk at ok
 rw [Bool.and_eq_true,decide_eq_true_eq] at ok
 obtain ⟨nd,hb⟩:=ok
 have cell:∀ k:Nat,∃ d:List Addr × List Addr,(∀ i mp,as[k]? = some (.t i mp) -> ∃ io t π u v0 w,ss[k]? = some (.tr true u) /\ vs[k]? = some w /\ ρ[i]? = some (some (.tr io t)) /\ mp ρ = some π /\ t.get π = some u /\ σ[i]? = some (some v0) /\ bS K cls S H u w d.1 /\ (F i).Perm (d.1 ++ d.2) /\ (d.1 ++ d.2).Nodup /\ (io = true -> Av i = some (.lst [v0])) /\
   ∀ S' H' u' f',aG S S' -> bS K cls S' H' u' w f' -> (∀ a ∈ d.2,∀ o,H a = some o -> H' a = some o) -> ∃ g,bS K cls S' H' (t.put π u') v0 g /\ g.Perm (f' ++ d.2)) /\ ((∀ i mp,as[k]? ≠ some (.t i mp)) -> d = ([],[])):=by
  intro k
  by_cases hk:∃ i mp,as[k]? = some (.t i mp)
  . obtain ⟨i,mp,e⟩:=hk
    obtain ⟨s,w,es,ev,r⟩:=h.at e
    cases s with
    | tr io' u=>
      cases io' with
      | false=>exact r.elim
      | true=>
        obtain ⟨io,t,π,v0,h1,h2,h3,h4,h5⟩:=r
        obtain ⟨v,ev',ro,ndf,gs,hio⟩:=J.own i _ h1
        rw [h4] at ev'; cases ev'
        obtain ⟨w',f1,rest,wk,r1,p1,c1⟩:=ro.focus h3
        have:=h5.inj wk
        subst this
        refine ⟨(f1,rest),fun i' mp' e'=>?_,fun z=>absurd e (z i mp)⟩
        rw [e] at e'
        cases e'
        exact ⟨io,t,π,u,v0,w,es,ev,h1,h2,h3,h4,r1,p1,p1.nodup_iff.mp ndf,hio,c1⟩
    | sh x=>exact r.elim
    | ow x=>exact r.elim
    | ex c fs=>exact r.elim
    | bo x=>exact r.elim
  . exact ⟨([],[]),fun i mp e=>absurd ⟨i,mp,e⟩ hk,fun _=>rfl⟩
 obtain ⟨d,hd⟩:=Classical.axiomOfChoice cell
 have tOf:∀ k a,a ∈ (d k).1 -> ∃ i mp,as[k]? = some (.t i mp) /\ a ∈ F i:=by
  intro k a ha
  by_cases hk:∃ i mp,as[k]? = some (.t i mp)
  . obtain ⟨i,mp,e⟩:=hk
    obtain ⟨io,t,π,u,v0,w,_,_,_,_,_,_,_,p1,_⟩:=(hd k).1 i mp e
    exact ⟨i,mp,e,p1.mem_iff.mpr (List.mem_append_left _ ha)⟩
  . rw [(hd k).2 fun i mp e=>hk ⟨i,mp,e⟩] at ha; cases ha
 have hlen:=h.len
 have n8:∀ i a,a ∈ F i -> (∀ k mp,as[k]? = some (.t i mp) -> a ∉ (d k).1) -> ∀ k,a ∉ (d k).1:=by
  intro i a ha hn k hk
  obtain ⟨i',mp,e,ha'⟩:=tOf k a hk
  have:=J.apart i i' a ha ha'
  subst this
  exact hn k mp e hk
 refine ⟨fun k=>(d k).1,⟨J.sh,by rw [hlen.1,hlen.2],fun k s es=>?_,fun j k a h1 h2=>?_,fun k a ha=>?_⟩,fun outs S' H' Fc' E=>?_⟩
 . have hk:k < as.length:=by rw [<- hlen.1]; exact (List.getElem?_eq_some_iff.mp es).1
   obtain ⟨s',w,es',ev,r⟩:=h.at (k:=k) (a:=as[k]) (by simp [hk])
   rw [es] at es'; cases es'
   refine ⟨w,ev,?_⟩
   cases q:as[k] with
   | e me=>
     rw [q] at r
     have hz:=(hd k).2 fun i mp e=>by rw [List.getElem?_eq_getElem hk,q] at e; cases e
     cases s <;> first | exact r.elim | exact ⟨by rw [hz],r⟩
   | t i mp=>
     have eq:as[k]? = some (.t i mp):=by rw [List.getElem?_eq_getElem hk,q]
     obtain ⟨io,t,π,u,v0,w',es',ev',_,_,_,_,r1,_,nd1,_⟩:=(hd k).1 i mp eq
     rw [es] at es'; cases es'
     rw [ev] at ev'; cases ev'
     exact ⟨r1,(List.nodup_append.mp nd1).1⟩
   | b i mp=>
     have eq:as[k]? = some (.b i mp):=by rw [List.getElem?_eq_getElem hk,q]
     rw [q] at r
     have hz:=(hd k).2 fun i mp e=>by rw [eq] at e; cases e
     cases s with
     | bo u=>
       obtain ⟨t,π,v0,h1,h2,h3,h4,h5⟩:=r
       refine ⟨by rw [hz],?_⟩
       have nt:i ∉ dB as:=by
        have:=List.all_eq_true.mp hb i (xI eq)
        simpa using this
       have ro:∃ f,bS K cls S (minus H fun k=>(d k).1) t v0 f:=by
        unfold jU at h1
        cases q1:ρ[i]? with
        | none=>rw [q1] at h1; cases h1
        | some o=>
          cases o with
          | none=>rw [q1] at h1; cases h1
          | some s1=>
            rw [q1] at h1
            obtain ⟨v,ev',r⟩:=J.own i s1 q1
            rw [h4] at ev'; cases ev'
            cases s1 with
            | tr io t'=>
              cases h1
              exact ⟨_,r.1.mono (aG.refl _) fun a ha o ho=>by
               rw [iS (n8 i a ha fun k' mp' e'=>absurd (gJ e') nt)]; exact ho⟩
            | bo t'=>
              cases h1
              obtain ⟨_,f,r⟩:=r
              exact ⟨f,r.mono (aG.refl _) fun a ha o ho=>by
               rw [iS fun k' hk'=>?_]
               . exact J.gh _ _ ho
               . obtain ⟨i',mp',_,ha'⟩:=tOf k' a hk'
                 rw [(J.live i' a ha').2.1] at ho; cases ho⟩
            | sh x=>cases h1
            | ow x=>cases h1
            | ex c fs=>cases h1
       obtain ⟨f,ro⟩:=ro
       obtain ⟨w',f1,rest,wk,r1,_,_⟩:=ro.focus h3
       have:=h5.inj (wk.mono rB)
       subst this
       exact ⟨f1,r1⟩
     | sh x=>exact r.elim
     | ow x=>exact r.elim
     | ex c fs=>exact r.elim
     | tr io x=>exact r.elim
 . obtain ⟨i,mp,e1,m1⟩:=tOf j a h1
   obtain ⟨i',mp',e2,m2⟩:=tOf k a h2
   have:=J.apart i i' a m1 m2
   subst this
   exact kP nd e1 e2
 . obtain ⟨i,mp,e1,m1⟩:=tOf k a ha
   exact ⟨(J.live i a m1).1,(J.live i a m1).2.2⟩
 .
  have noS:∀ i a,a ∈ F i -> (∀ k,a ∉ (d k).1) -> S' a = none:=fun i a ha hn=>by
   cases z:S' a with
   | none=>rfl
   | some o=>
     obtain ⟨⟨o',h1,_⟩,_,h3⟩:=J.live i a ha
     rcases E.new a (by rw [z]; simp) with y | y | ⟨k,y⟩
     . exact absurd h3 y
     . rw [h1] at y; cases y
     . exact absurd y (hn k)
  have keep:∀ a o,(∀ k,a ∉ (d k).1) -> H a = some o -> H' a = some o:=fun a o hn ho=>E.keep a o (by rw [iS hn]; exact ho)
  have restOff:∀ k i mp,as[k]? = some (.t i mp) -> ∀ a ∈ (d k).2,a ∈ F i /\ ∀ k',a ∉ (d k').1:=fun k i mp e a ha=>by
   obtain ⟨io,t,π,u,v0,w,_,_,_,_,_,_,_,p1,nd1,_⟩:=(hd k).1 i mp e
   have m:a ∈ F i:=p1.mem_iff.mpr (List.mem_append_right _ ha)
   refine ⟨m,n8 i a m fun k' mp' e' hk'=>?_⟩
   have:=kP nd e e'
   subst this
   exact (List.nodup_append.mp nd1).2.2 a hk' a ha rfl
  have gcell:∀ k:Nat,∃ g:List Addr,∀ i mp u',as[k]? = some (.t i mp) -> outs[k]? = some (some u') -> ∀ io t π,ρ[i]? = some (some (.tr io t)) -> mp ρ = some π -> ∃ v0,σ[i]? = some (some v0) /\ (io = true -> Av i = some (.lst [v0])) /\ bS K cls S' H' (t.put π u') v0 g /\ g.Perm (Fc' k ++ (d k).2):=by
   intro k
   by_cases hk:∃ i mp u',as[k]? = some (.t i mp) /\ outs[k]? = some (some u')
   . obtain ⟨i,mp,u',e,eo⟩:=hk
     obtain ⟨io,t,π,u,v0,w,es,ev,h1,h2,h3,h4,r1,p1,nd1,hio,c1⟩:=(hd k).1 i mp e
     obtain ⟨w',ew,r',ndf'⟩:=E.out k u' eo
     rw [ev] at ew; cases ew
     obtain ⟨g,rg,pg⟩:=c1 S' H' u' (Fc' k) E.s r' fun a ha o ho=>keep a o (restOff k i mp e a ha).2 ho
     refine ⟨g,fun i' mp' u'' e' eo' io' t' π' h1' h2'=>?_⟩
     rw [e] at e'; cases e'
     rw [eo] at eo'; cases eo'
     rw [h1] at h1'; cases h1'
     rw [h2] at h2'; cases h2'
     exact ⟨v0,h4,hio,rg,pg⟩
   . exact ⟨[],fun i mp u' e eo=>absurd ⟨i,mp,u',e,eo⟩ hk⟩
  obtain ⟨g,hg⟩:=Classical.axiomOfChoice gcell
  have fcell:∀ i:Nat,∃ f:List Addr,(i ∉ dB as -> f = F i) /\ ∀ k mp,as[k]? = some (.t i mp) -> ((∃ io t π u',ρ[i]? = some (some (.tr io t)) /\ mp ρ = some π /\ outs[k]? = some (some u')) -> f = g k) /\ ((¬ ∃ io t π u',ρ[i]? = some (some (.tr io t)) /\ mp ρ = some π /\ outs[k]? = some (some u')) -> f = []):=by
   intro i
   by_cases hi:i ∈ dB as
   . obtain ⟨k,mp,e⟩:=pJ hi
     by_cases hx:∃ io t π u',ρ[i]? = some (some (.tr io t)) /\ mp ρ = some π /\ outs[k]? = some (some u')
     . refine ⟨g k,fun z=>absurd hi z,fun k' mp' e'=>?_⟩
       have:=kP nd e e'
       subst this
       rw [e] at e'; cases e'
       exact ⟨fun _=>rfl,fun z=>absurd hx z⟩
     . refine ⟨[],fun z=>absurd hi z,fun k' mp' e'=>?_⟩
       have:=kP nd e e'
       subst this
       rw [e] at e'; cases e'
       exact ⟨fun z=>absurd z hx,fun _=>rfl⟩
   . exact ⟨F i,fun _=>rfl,fun k mp e=>absurd (gJ e) hi⟩
  obtain ⟨F',hF'⟩:=Classical.axiomOfChoice fcell
  have memF:∀ i a,a ∈ F' i -> (i ∉ dB as /\ a ∈ F i /\ ∀ k,a ∉ (d k).1) \/ (∃ k mp,as[k]? = some (.t i mp) /\ F' i = g k /\ ((a ∈ Fc' k) \/ (a ∈ F i /\ ∀ k,a ∉ (d k).1)) /\ ∃ io t π u',ρ[i]? = some (some (.tr io t)) /\ mp ρ = some π /\ outs[k]? = some (some u')):=by
   intro i a ha
   by_cases hi:i ∈ dB as
   . obtain ⟨k,mp,e⟩:=pJ hi
     by_cases hx:∃ io t π u',ρ[i]? = some (some (.tr io t)) /\ mp ρ = some π /\ outs[k]? = some (some u')
     . have e1:=((hF' i).2 k mp e).1 hx
       refine .inr ⟨k,mp,e,e1,?_,hx⟩
       obtain ⟨io,t,π,u',h1,h2,h3⟩:=hx
       obtain ⟨v0,_,_,rg,pg⟩:=hg k i mp u' e h3 io t π h1 h2
       rw [e1] at ha
       rcases List.mem_append.mp (pg.mem_iff.mp ha) with z | z
       . exact .inl z
       . exact .inr (restOff k i mp e a z)
     . rw [((hF' i).2 k mp e).2 hx] at ha; cases ha
   . have e1:=(hF' i).1 hi
     rw [e1] at ha
     exact .inl ⟨hi,ha,n8 i a ha fun k mp e=>absurd (gJ e) hi⟩
  refine ⟨F',?_,J.s0.trans E.s,E.sh,fun b hbn=>?_,fun i s e=>?_,fun i j a h1 h2=>?_,fun i a ha=>?_,?_⟩
  . intro b u hu
    refine keep b u (fun k hk=>?_) (J.gh b u hu)
    obtain ⟨i,mp,_,m⟩:=tOf k b hk
    rw [(J.live i b m).2.1] at hu; cases hu
  . rcases E.new b hbn with z | z | ⟨k,z⟩
    . exact J.new b z
    . exact .inr (J.gh.free z)
    . obtain ⟨i,mp,_,m⟩:=tOf k b z
      exact .inr (J.live i b m).2.1
  . by_cases hi:i ∈ dB as
    . obtain ⟨k,mp,ek⟩:=pJ hi
      obtain ⟨io,t,π,u,e1,e2,e3,rfl⟩:=xh nd ek e
      obtain ⟨v0,h1,hio,rg,pg⟩:=hg k i mp u ek e1 io t π e2 e3
      have e4:=((hF' i).2 k mp ek).1 ⟨io,t,π,u,e2,e3,e1⟩
      rw [e4]
      obtain ⟨w',ew,r',ndf'⟩:=E.out k u e1
      refine ⟨v0,h1,rg,pg.nodup_iff.mpr (List.nodup_append.mpr ⟨ndf',?_,fun a ha b hb' z=>?_⟩),fun a ha=>?_,hio⟩
      . obtain ⟨_,_,_,_,_,_,_,_,_,_,_,_,_,_,nd1,_⟩:=(hd k).1 i mp ek
        exact (List.nodup_append.mp nd1).2.1
      . subst z
        obtain ⟨m,off⟩:=restOff k i mp ek a hb'
        have:=(E.live k a ha).1
        rw [iS off] at this
        obtain ⟨⟨o,ho,_⟩,_⟩:=J.live i a m
        rw [this] at ho; cases ho
      . rcases List.mem_append.mp (pg.mem_iff.mp ha) with z | z
        . refine ⟨?_,(E.live k a z).2⟩
          rcases kS (E.live k a z).1 with y | ⟨k',y⟩
          . exact J.gh.free y
          . obtain ⟨i',mp',_,m⟩:=tOf k' a y
            exact (J.live i' a m).2.1
        . obtain ⟨m,off⟩:=restOff k i mp ek a z
          exact ⟨(J.live i a m).2.1,noS i a m off⟩
    . rw [qh hi] at e
      obtain ⟨v,ev,r⟩:=J.own i s e
      rw [(hF' i).1 hi]
      have off:∀ a ∈ F i,∀ k,a ∉ (d k).1:=fun a ha=>n8 i a ha fun k mp e=>absurd (gJ e) hi
      exact ⟨v,ev,r.mono E.s (fun a ha o ho=>keep a o (off a ha) ho) (fun b o hx ho=>keep b o (fun k hk=>by
       obtain ⟨i',mp',_,m⟩:=tOf k b hk
       obtain ⟨⟨o',h1,h2⟩,_⟩:=J.live i' b m
       rw [ho] at h1; cases h1; rw [hx] at h2; cases h2) ho) fun a ha=>noS i a ha (off a ha)⟩
  .
   have key:∀ i j a,a ∈ F' i -> a ∈ F' j -> (∃ k,a ∈ Fc' k) -> ∃ k mp,as[k]? = some (.t i mp) /\ a ∈ Fc' k:=by
    intro i j a ha _ ⟨k0,hk0⟩
    have no:∀ i',a ∈ F i' -> ¬ ∀ k,a ∉ (d k).1:=fun i' m off=>by
     have:=(E.live k0 a hk0).1
     rw [iS off] at this
     obtain ⟨⟨o,ho,_⟩,_⟩:=J.live i' a m
     rw [this] at ho; cases ho
    rcases memF i a ha with ⟨_,m,off⟩ | ⟨k,mp,e,_,z,_⟩
    . exact absurd off (no i m)
    . rcases z with z | ⟨m,off⟩
      . exact ⟨k,mp,e,z⟩
      . exact absurd off (no i m)
   by_cases hk:∃ k,a ∈ Fc' k
   . obtain ⟨k1,mp1,e1,z1⟩:=key i j a h1 h2 hk
     obtain ⟨k2,mp2,e2,z2⟩:=key j i a h2 h1 hk
     have:=E.apart k1 k2 a z1 z2
     subst this
     rw [e1] at e2; cases e2; rfl
   . have fromF:∀ i,a ∈ F' i -> a ∈ F i:=fun i ha=>by
      rcases memF i a ha with ⟨_,m,_⟩ | ⟨k,mp,e,_,z,_⟩
      . exact m
      . rcases z with z | ⟨m,_⟩
        . exact absurd ⟨k,z⟩ hk
        . exact m
     exact J.apart i j a (fromF i h1) (fromF j h2)
  . rcases memF i a ha with ⟨_,m,off⟩ | ⟨k,mp,e,eg,z,io,t,π,u',x1,x2,x3⟩
    . obtain ⟨⟨o,ho,hx⟩,hg',_⟩:=J.live i a m
      exact ⟨⟨o,keep a o off ho,hx⟩,hg',noS i a m off⟩
    . obtain ⟨v0,_,_,rg,pg⟩:=hg k i mp u' e x3 io t π x1 x2
      rw [eg] at ha
      refine ⟨rg.live a ha,?_⟩
      rcases z with z | ⟨m,off⟩
      . refine ⟨?_,(E.live k a z).2⟩
        rcases kS (E.live k a z).1 with y | ⟨k',y⟩
        . exact J.gh.free y
        . obtain ⟨i',mp',_,m⟩:=tOf k' a y
          exact (J.live i' a m).2.1
      . exact ⟨(J.live i a m).2.1,noS i a m off⟩
  . rw [vC]; exact J.len
end
end L2.P
namespace L2.E
open PySem PySem.Spec PyProof.Rows L2
section
variable {X:Cx} {k:Nat} {f C:Addr} {fd:FuncData} {ps:List Str} {sp:Sp} {ds:List Value} {W:XW} {x m:Str} {p pos apos:Pos} {e o:Expr} {es:List Expr} {ta:TE} {t:TA}
noncomputable def uu (C:Addr) (m:Str) (sp:Sp) (W:XW) (ta:TE) (t:TA):TE:=fun σ H Q=>ta σ H fun x H1=>∃ a dx fs,x = .ref a /\ H1 a = some (.ins C dx fs) /\ fs.lookup m = none /\
 t σ H1 fun vs H2=>sp (x ::vs) H2 Q fun C a H'=>W C a σ H'
theorem wt {pl:Sem Bool} (he:QE X o ta) (c:Cls X.K C) (hm:Meth X.K C m f) (F:cw X.prog X.w X.K X.mg X.base (CXE X.prog X.w) k f fd ps sp) (hr:gY k X.A) (hb:Binds X.K fd ps []) (hx:Thr X W) (ha:QA X (e ::es) t)
  (hst:starEach (e ::es) X.env = (false,eval e X.env) ::starEach es X.env:=by rfl) (hpl:(backTo pos (starEach es X.env)).any (·.1) = false:=by rfl)
  (ht:eval (.Call (.Attribute o m apos) (e ::es) [] pos) X.env = (do
    let ov <- eval o X.env
    standAt apos.atName
    let (f,first) <- holding [ov] (getMethod ov m pl)
    callWith pos f first (backTo pos (starEach (e ::es) X.env)) (backToKw pos (keywordEach [] X.env))):=by rfl):
  QE X (.Call (.Attribute o m apos) (e ::es) [] pos) (uu C m sp W ta t):=⟨by
 intro pins s σ H Q I h
 refine PySem.W.methodCall_KW (pl:=pl) (thn (he.out pins s σ H _ I h) fun u s1 ⟨x,H1,I1,rx,a,dx,fs,ex,ea,l,q⟩=>?_) ht
 subst ex
 obtain rfl:u = Value.ref a:=rx
 refine rA I1 ea c hm l ?_
 refine PySem.W.callWith_K (first:=[.ref a]) (h₀:=X.base) I.ok.mod.kin hm.kp (thn (ha.out pos pins s1 σ H1 _ I1 q) fun us s2 ⟨vs,H2,I2,r,q2⟩=>⟨I2.kIn,?_⟩) hst hpl
 exact qC (us:=.ref a ::us) (vs:=.ref a ::vs) (dvs:=[]) F hr hb .nil hx I2 (.cons rfl r) (by rw [List.append_nil]; exact q2)⟩
theorem tj {pl:Sem Bool} (he:QE X o ta) (c:Cls X.K C) (hm:Meth X.K C m f) (F:cw X.prog X.w X.K X.mg X.base (CXE X.prog X.w) k f fd ps sp) (hr:gY k X.A) (hb:Binds X.K fd ps []) (hx:Thr X W)
  (ht:eval (.Call (.Attribute o m apos) [] [] pos) X.env = (do
    let ov <- eval o X.env
    standAt apos.atName
    let (f,first) <- holding [ov] (getMethod ov m pl)
    callWith pos f first (backTo pos (starEach [] X.env)) (backToKw pos (keywordEach [] X.env))):=by rfl):
  QE X (.Call (.Attribute o m apos) [] [] pos) (uu C m sp W ta kN):=⟨by
 intro pins s σ H Q I h
 refine PySem.W.methodCall_KW (pl:=pl) (thn (he.out pins s σ H _ I h) fun u s1 ⟨x,H1,I1,rx,a,dx,fs,ex,ea,l,q⟩=>?_) ht
 subst ex
 obtain rfl:u = Value.ref a:=rx
 refine rA I1 ea c hm l ?_
 exact PySem.W.callWith_K0 (first:=[.ref a]) I1.kIn hm.kp (qC (us:=[.ref a]) (vs:=[.ref a]) (dvs:=[]) F hr hb .nil hx I1 (.cons rfl .nil) q)⟩
theorem sP {x:Str} (F:cw X.prog X.w X.K X.mg X.base (CXE X.prog X.w) k f fd ps sp) (hr:gY k X.A) (hg:Gl X x) (hm:X.mg x = some (.ref f)) (hk:PySem.W.keepIn X.K (.ref f) = true) (hb:Binds X.K fd ps []) (hx:Thr X W)
  (hdb:(x == ("__debug__":Str)) = false:=by decide):QE X (.Call (.Name x p) [] [] pos) (qJ sp [] W kN):=⟨zf F hr hg hm hk hb .nil hx hdb⟩
theorem AF (M:Mk X.K C f) (F:cw X.prog X.w X.K X.mg X.base (CXE X.prog X.w) k f fd ps sp) (hr:gY (k + 1) X.A) (hg:Gl X x) (hm:X.mg x = some (.ref C)) (hb:Binds X.K fd ps []) (hdb:(x == ("__debug__":Str)) = false:=by decide):
  QE X (.Call (.Name x p) [] [] pos) (BE C sp [] (fun _ _ _=>False) kN):=⟨Ac M F hr hg hm hb .nil (fun pins σ H s e s' I h=>by obtain ⟨a,C,dx,H',_,_,_,_,_,_,z⟩:=h; exact z.elim) hdb⟩
theorem qM {f:Str} (he:QE X e ta) (hb:attributeBase e f X.env (eval e X.env) = eval e X.env:=by rfl):QE X (.Attribute e f pos) (E1 X.K ta f):=⟨F7 he.out hb⟩
theorem FF {f:Str} {value:Expr} {tv:TE} {pos':Pos} (ha:QE X o ta) (hv:QE X value tv) (hs:swapsWith value (some (.Attribute o f pos')) pos.line X.env = pure false:=by rfl):QS X (.Assign [.Attribute o f pos'] value pos) (EK X.K ta tv f):=⟨Fh ha.out hv.out hs⟩
end
end L2.E
namespace L2.P
open PySem PySem.Spec PyProof.Rows L2 L2.E
section
variable {K:PySem.W.Frag} {cls:String -> Option Addr} {W:XW} {Av G S₀ S S' H H' B B':Hp} {ρ:ae} {σ:St} {Q:VK} {F Fc Fc':Nat -> List Addr}
theorem SR.more {x:PV} {v:V} (I:SR K cls Av G S₀ ρ σ S H) (h:Rep K S x v):SR K cls Av G S₀ (ρ ++ [some (.sh x)]) (σ ++ [some v]) S H:=by
 obtain ⟨F,J⟩:=I
 exact J.more (fp:=[]) (fun t e=>by cases e; exact ⟨v,rfl,rfl,h⟩) (fun a ha=>nomatch ha) fun j a _ ha=>nomatch ha
theorem wB {f:List Sl -> OI} {as:List Arg} {ss:List Sl} {vs:List V} {S1 H1:Hp} (ok:argsOk as = true) (I:SR K cls Av G S₀ ρ σ S1 H1) (s1:aG S S1) (ar:ARs K S1 H1 ρ σ as ss vs)
  (p:Dw K cls W Av G S₀ σ S Q (match f ss with
    | .ok x outs=>.ok (gd ρ as outs ρ) (.sh x)
    | .exc c fs outs=>.exc (gd ρ as outs ρ) c fs
    | .bad=>.bad)):spI K cls f vs H1 Q fun C a H'=>W C a σ H':=by
 obtain ⟨Fc,A,fin⟩:=I.G7 ok ar
 refine ⟨S1,ss,Fc,A,?_⟩
 cases e:f ss with
 | bad=>rw [e] at p; exact p
 | ok x outs=>rw [e] at p; exact fun v S' H' Fc' E r=>p v S' H' ((fin outs S' H' Fc' E).more r) (s1.trans E.s)
 | exc c fs outs=>rw [e] at p; exact fun a C S' H' Fc' E r=>p a C S' H' (fin outs S' H' Fc' E) (s1.trans E.s) r
theorem yj {c:String} {m:Str} {C:Addr} {a:Arg} {s:Sl} {v:V} (hc:cls c = some C) (I:SR K cls Av G S₀ ρ σ S H) (r:AR1 K S H ρ σ a s v) (h:recv c m (some s) = true):∃ q dx us,v = .ref q /\ H q = some (.ins C dx us) /\ us.lookup m = none:=by
 have main:∀ (ks:List Str) (ts:List OV) (f:List Addr),(c == c && !ks.contains m) = true -> bS K cls S H (.ob c ks ts) v f -> ∃ q dx us,v = .ref q /\ H q = some (.ins C dx us) /\ us.lookup m = none:=by
  intro ks ts f hk ro
  unfold bS at ro
  obtain ⟨q,C',dx,us,ff,rfl,hcl,hq,hd,hks,rfl,rs⟩:=ro
  rw [hc] at hcl; cases hcl
  refine ⟨q,dx,us,rfl,hq,?_⟩
  have hn:m ∉ us.map (·.1):=by rw [hks]; simpa using hk
  clear hks hk rs hq
  induction us with
  | nil=>rfl
  | cons p us ih=>
    obtain ⟨g,y⟩:=p
    simp at hn
    have:(m == g) = false:=by simpa using hn.1
    simp [List.lookup,this,ih (by simpa using hn.2)]
 cases a with
 | e me=>cases s <;> first | exact r.elim | cases h
 | t i mp=>
   cases s with
   | tr io u=>
     cases io with
     | false=>cases h
     | true=>
       cases u with
       | sh x=>cases h
       | ol ts=>cases h
       | di x=>cases h
       | dt x=>cases h
       | ob c' ks ts=>
         obtain ⟨io,t,π,v0,h1,h2,h3,h4,h5⟩:=r
         have h':(c' == c && !ks.contains m) = true:=h
         have hcc:c' = c:=by rw [Bool.and_eq_true] at h'; simpa using h'.1
         subst hcc
         obtain ⟨v',fp,ev,ro⟩:=I.tree (i:=i) (t:=t) (by unfold jU; rw [h1]; rfl)
         rw [h4] at ev; cases ev
         obtain ⟨w,f1,rest,wk,r1,_,_⟩:=ro.focus h3
         have:=h5.inj wk
         subst this
         exact main ks ts f1 h' r1
   | sh x=>exact r.elim
   | ow x=>exact r.elim
   | ex c fs=>exact r.elim
   | bo x=>exact r.elim
 | b i mp=>
   cases s with
   | bo u=>
     cases u with
     | sh x=>cases h
     | ol ts=>cases h
     | di x=>cases h
     | dt x=>cases h
     | ob c' ks ts=>
       obtain ⟨t,π,v0,h1,h2,h3,h4,h5⟩:=r
       have h':(c' == c && !ks.contains m) = true:=h
       have hcc:c' = c:=by rw [Bool.and_eq_true] at h'; simpa using h'.1
       subst hcc
       obtain ⟨v',fp,ev,ro⟩:=I.tree h1
       rw [h4] at ev; cases ev
       obtain ⟨w,f1,rest,wk,r1,_,_⟩:=ro.focus h3
       have:=h5.inj wk
       subst this
       exact main ks ts f1 h' r1
   | sh x=>exact r.elim
   | ow x=>exact r.elim
   | ex c fs=>exact r.elim
   | tr io x=>exact r.elim
theorem vY {c:String} {m:Str} {C:Addr} {f:List Sl -> OI} {a:Arg} {as:List Arg} {ta:TE} {t:TA} (hc:cls c = some C) (ok:argsOk (a ::as) = true) (ha:JA1 K cls ta a) (h:JAI K cls t as):JX K cls W (uu C m (spI K cls f) W ta t) (mQ c m f (a ::as)):=by
 intro Av G S₀ ρ σ S H Q I p
 unfold mQ at p
 dsimp only at p
 split at p
 . rename_i hr
   unfold um at p
   cases e:kx (a ::as) ρ with
   | none=>rw [e] at p; exact p.elim
   | some ss=>
     rw [e] at p
     have e':=e
     unfold kx at e'
     obtain ⟨s,e1,e2⟩:=Option.bind_eq_some_iff.mp e'
     obtain ⟨sr,e3,rfl⟩:=Option.map_eq_some_iff.mp e2
     rw [e1] at hr
     refine ha Av G S₀ ρ σ S H _ s I e1 fun v S1 H1 w1 r1=>?_
     have I1:=I.grow w1
     obtain ⟨q,dx,us,rfl,hq,hl⟩:=yj hc I1 r1 hr
     refine ⟨q,dx,us,rfl,hq,hl,?_⟩
     refine h Av G S₀ ρ σ S1 H1 _ sr I1 e3 fun vs S2 H2 w2 ar=>?_
     exact wB (ss:=s ::sr) ok (I1.grow w2) (w1.s.trans w2.s) ⟨s,sr,_,vs,rfl,rfl,r1.mono w2.s w2.g,ar⟩ p
 . exact p.elim
theorem wV {f:List Sl -> OI} {as:List Arg} {ss:List Sl} {vs:List V} (ok:dB as = []) (I:SR K cls Av G S₀ ρ σ S H) (ar:ARs K S H ρ σ as ss vs)
  (p:j4 K cls W σ S H Q (match f ss with
    | .ok x _=>.ok (.sh x)
    | .exc c fs _=>.exc c fs
    | .bad=>.bad)):spI K cls f vs H Q fun C a H'=>W C a σ H':=by
 have hm:minus H (fun _=>[]) = H:=by funext a; exact iS fun k h=>nomatch h
 have hlen:=ar.len
 refine ⟨S,ss,fun _=>[],⟨I.sh,by rw [hlen.1,hlen.2],fun k s es=>?_,fun j k a h=>(nomatch h),fun k a h=>(nomatch h)⟩,?_⟩
 . have hk:k < as.length:=by rw [<- hlen.1]; exact (List.getElem?_eq_some_iff.mp es).1
   obtain ⟨s',w,es',ev,r⟩:=ar.at (k:=k) (a:=as[k]) (by simp [hk])
   rw [es] at es'; cases es'
   refine ⟨w,ev,?_⟩
   cases q:as[k] with
   | e me=>
     rw [q] at r
     cases s <;> first | exact r.elim | exact ⟨rfl,r⟩
   | t i mp=>
     have:=gJ (as:=as) (k:=k) (i:=i) (mp:=mp) (by rw [List.getElem?_eq_getElem hk,q])
     rw [ok] at this; cases this
   | b i mp=>
     rw [q] at r
     cases s with
     | bo u=>
       obtain ⟨t,π,v0,h1,h2,h3,h4,h5⟩:=r
       obtain ⟨v',fp,ev',ro⟩:=I.tree h1
       rw [h4] at ev'; cases ev'
       obtain ⟨w',f1,rest,wk,r1,_,_⟩:=ro.focus h3
       have:=h5.inj wk
       subst this
       exact ⟨rfl,f1,by rw [hm]; exact r1⟩
     | sh x=>exact r.elim
     | ow x=>exact r.elim
     | ex c fs=>exact r.elim
     | tr io x=>exact r.elim
 . have gr:∀ {outs S' H' Fc'},AS K cls vs S H (fun _=>[]) outs S' H' Fc' -> bu S H S' H':=fun {outs S' H' Fc'} E=>⟨E.s,by have:=E.keep; rwa [hm] at this,E.sh,fun b hb=>by
    rcases E.new b hb with z | z | ⟨k,z⟩
    . exact .inl z
    . exact .inr z
    . cases z⟩
   cases e:f ss with
   | bad=>rw [e] at p; exact p
   | ok x outs=>rw [e] at p; exact fun v S' H' Fc' E r=>p v S' H' (gr E) r
   | exc c fs outs=>rw [e] at p; exact fun a C S' H' Fc' E r=>p a C S' H' (gr E) r
theorem vb {c:String} {m:Str} {C:Addr} {f:List Sl -> OI} {a:Arg} {as:List Arg} {ta:TE} {t:TA} (hc:cls c = some C) (ok:dB (a ::as) = []) (ha:JA1 K cls ta a) (h:JAI K cls t as):JE K cls W (uu C m (spI K cls f) W ta t) (lb c m f (a ::as)):=by
 intro Av G S₀ ρ σ S H Q I p
 unfold lb at p
 dsimp only at p
 split at p
 . rename_i hr
   unfold uk at p
   cases e:kx (a ::as) ρ with
   | none=>rw [e] at p; exact p.elim
   | some ss=>
     rw [e] at p
     have e':=e
     unfold kx at e'
     obtain ⟨s,e1,e2⟩:=Option.bind_eq_some_iff.mp e'
     obtain ⟨sr,e3,rfl⟩:=Option.map_eq_some_iff.mp e2
     rw [e1] at hr
     refine ha Av G S₀ ρ σ S H _ s I e1 fun v S1 H1 w1 r1=>?_
     have I1:=I.grow w1
     obtain ⟨q,dx,us,rfl,hq,hl⟩:=yj hc I1 r1 hr
     refine ⟨q,dx,us,rfl,hq,hl,?_⟩
     refine h Av G S₀ ρ σ S1 H1 _ sr I1 e3 fun vs S2 H2 w2 ar=>?_
     exact wV (ss:=s ::sr) ok (I1.grow w2) ⟨s,sr,_,vs,rfl,rfl,r1.mono w2.s w2.g,ar⟩ (p.back (w1.trans w2))
 . exact p.elim
theorem BZ {c:String} {C:Addr} {f:List Sl -> OI} (hc:cls c = some C):JD K cls W (BE C (spI K cls f) [] (fun _ _ _=>False) kN) (sW c f):=by
 intro Av G S₀ ρ σ S H Q I p
 unfold sW at p
 show ∀ x dx,H x = none -> H dx = none -> dx ≠ x -> _
 intro x dx hx hdx ne
 have gS:∀ a,H a = none -> S a = none:=fun a h=>I.sh.free h
 let H1:=upd (upd H dx (.own x)) x (.ins C dx [])
 have h1x:H1 x = some (.ins C dx []):=bg
 have h1d:H1 dx = some (.own x):=by show upd _ x _ dx = _; rw [aY ne,bg]
 have h1o:∀ a,a ≠ x -> a ≠ dx -> H1 a = H a:=fun a n1 n2=>by show upd _ x _ a = _; rw [aY n1,aY n2]
 let Fc:Nat -> List Addr:=fun k=>if k = 0 then [x,dx] else []
 have mF:∀ k a,a ∈ Fc k -> k = 0 /\ (a = x \/ a = dx):=fun k a h=>by
  have h':a ∈ (if k = 0 then [x,dx] else []):=h
  split at h'
  . rename_i e; exact ⟨e,by simpa using h'⟩
  . cases h'
 have A:Ay K cls [.tr true (.ob c [] [])] [.ref x] S H1 Fc:=by
  refine ⟨fun b u h=>?_,rfl,fun k s e=>?_,fun j k a h1 h2=>?_,fun k a h=>?_⟩
  . have hb:=I.sh b u h
    rw [h1o b (fun z=>by rw [z,hx] at hb; cases hb) (fun z=>by rw [z,hdx] at hb; cases hb)]; exact hb
  . cases k with
    | zero=>
      cases e
      refine ⟨.ref x,rfl,?_,?_⟩
      . unfold bS
        exact ⟨x,C,dx,[],[],rfl,hc,h1x,h1d,rfl,rfl,.nil⟩
      . show [x,dx].Nodup
        simp [Ne.symm ne]
    | succ k=>simp at e
  . rw [(mF j a h1).1,(mF k a h2).1]
  . rcases (mF k a h).2 with z | z
    . subst z; exact ⟨⟨_,h1x,rfl⟩,gS _ hx⟩
    . subst z; exact ⟨⟨_,h1d,rfl⟩,gS _ hdx⟩
 refine ⟨S,_,Fc,A,?_⟩
 have free:∀ a,minus H1 Fc a = none -> H a = none:=fun a h=>by
  rcases kS h with z | ⟨k,z⟩
  . by_cases n1:a = x
    . rw [n1]; exact hx
    . by_cases n2:a = dx
      . rw [n2]; exact hdx
      . rw [h1o a n1 n2] at z; exact z
  . rcases (mF k a z).2 with y | y
    . rw [y]; exact hx
    . rw [y]; exact hdx
 cases e:f [.tr true (.ob c [] [])] with
 | bad=>rw [e] at p; exact p.elim
 | exc c fs outs=>rw [e] at p; exact p.elim
 | ok y outs=>
   rw [e] at p
   cases y with
   | non=>
     cases outs with
     | nil=>exact p.elim
     | cons o outs=>
       cases o with
       | none=>exact p.elim
       | some t=>
         dsimp only at p
         intro v S' H' Fc' E r
         unfold Rep at r
         refine ⟨r,p (.ref x) S' H' ⟨E.s,fun b u h=>?_,E.sh,fun b h=>?_⟩ ?_⟩
         . have n1:b ≠ x:=fun z=>by rw [z,hx] at h; cases h
           have n2:b ≠ dx:=fun z=>by rw [z,hdx] at h; cases h
           refine E.keep b u ?_
           rw [iS fun k z=>?_]
           . exact (h1o b n1 n2).trans h
           . rcases (mF k b z).2 with y | y
             . exact n1 y
             . exact n2 y
         . rcases E.new b h with z | z | ⟨k,z⟩
           . exact .inl z
           . refine .inr ?_
             by_cases n1:b = x
             . rw [n1]; exact hx
             . by_cases n2:b = dx
               . rw [n2]; exact hdx
               . exact (h1o b n1 n2).symm.trans z
           . rcases (mF k b z).2 with y | y
             . rw [y]; exact .inr hx
             . rw [y]; exact .inr hdx
         . obtain ⟨u,eu,ro,nd⟩:=E.out 0 t rfl
           cases eu
           exact ⟨Fc' 0,ro,nd,fun a ha=>⟨free a (E.live 0 a ha).1,(E.live 0 a ha).2⟩⟩
   | bl b=>exact p.elim
   | int b=>exact p.elim
   | str b=>exact p.elim
   | lst b=>exact p.elim
   | tup b=>exact p.elim
end
end L2.P
namespace L2.E
open PySem PySem.Spec PyProof.Rows L2
noncomputable def uM (wi:TI) (ι:List Nat) (tc:TT) (te:TE):TE:=fun σ H Q=>wi σ H fun J H1=>∀ D,H1 D = none -> ∃ W:Nat -> Nat -> List V -> Hp -> Prop,(∃ m,W 0 m [] (upd H1 D (.lst []))) /\ ∀ i m ys H,W i m ys H ->
 H D = some (.lst ys) /\ ((J.stop i H /\ Q (.ref D) H) \/ (J.go i H /\ ∀ x H',J.yld i H x H' -> tc (pick ι σ ++ [some x]) H' fun b H3=>H3 D = some (.lst ys) /\ if b = true then
   te (pick ι σ ++ [some x]) H3 fun y H2=>H2 D = some (.lst ys) /\ ys.length < sizeLine /\ ∃ m',m' < m /\ W (i + 1) m' (ys ++ [y]) (upd H2 D (.lst (ys ++ [y]))) else ∃ m',m' < m /\ W (i + 1) m' ys H3))
section
variable {X:Cx} {scope:Scope} {cl:List (Str × Addr)} {M:List Str} {ι:List Nat} {x:Str}
theorem zr {elt iter c:Expr} {px pos:Pos} {wi:TI} {tc:TT} {te:TE} (S:kL X scope cl M ι x) (hc:X.calm = true) (hi:PI X (.Name x px) iter wi) (hcd:∀ C s₀ H₀ ex,PT (blk X scope cl (M ++ [x]) C s₀ H₀ ex) c tc) (he:∀ C s₀ H₀ ex,PE (blk X scope cl (M ++ [x]) C s₀ H₀ ex) elt te)
  (hs:∀ v,foldedSetIterable iter X.env v = pure v:=by intro _; rfl):PE X (.ListComp elt [⟨.Name x px,iter,[c],0⟩] scope pos) (uM wi ι tc te):=by
 intro pins s σ H Q I h
 rw [eval_ListComp]
 refine wpAny_comprehension_free (use:=none) rfl hs S.clos S.kind (fun y hy hl=>?_) (wpAny_mono (hi pins s σ H _ I h) (fun v s1 h1=>wpAny_mono h1 (fun itv s2 h2=>?_) fun _ _ z=>z) fun _ _ z=>z)
 . have q:=List.all_eq_true.mp S.locs y hy
   rw [hl] at q
   simpa using q
 obtain ⟨it,fp,tn,J,H2,rfl,I2,T,st2,f2,hW⟩:=h2
 have I3:=I2.BP (ys:=[]) (its:=[]) (t':=s2.toks) .nil (Nat.zero_le _)
 obtain ⟨W,⟨m0,w0⟩,turn⟩:=hW s2.heap.objs.size I2.fresh
 have fpo:∀ b ∈ fp,b < s2.heap.objs.size:=fun b hb=>let ⟨_,e,_⟩:=T.obj _ _ st2 b hb; Heap.lt_size e
 have f3:∀ b ∈ fp,mR X pins (upd H2 s2.heap.objs.size (.lst [])) b:=fun b hb=>by
  obtain ⟨q0,q⟩:=f2 b hb
  exact ⟨by rw [aY (Nat.ne_of_lt (fpo b hb))]; exact q0,q⟩
 show wpAny _ _ (newObj (.type "list") _ none) _ _ s2
 refine wpAny_newObj_type (wpAny_newFunctionEnv (fun y hy=>?_) (by intro y hy; simp at hy) (fun h₁ hn₁ sb₁=>?_) S.kind)
 . have q:=List.all_eq_true.mp S.nocell y hy
   simpa using q
 have hsz:(s2.heap.push { cls:=.type "list",dict:=none,data:=.seq ([]:List Value).toArray }).objs.size = s2.heap.objs.size + 1:=Heap.size_push ..
 have hk₁:∀ b o,(s2.heap.push { cls:=.type "list",dict:=none,data:=.seq ([]:List Value).toArray }).get? b = some o -> h₁.get? b = some o:=fun b o e=>
  (sb₁.2 b (Nat.ne_of_lt (Heap.lt_size e))).trans (Heap.get?_push_of_some _ e)
 have J0:=xa (t':=s2.toks + ([]:List (Str × Value)).length) S I3 (ex:=fp) (fun b hb=>⟨f3 b hb,Nat.lt_of_lt_of_le (fpo b hb) (by rw [hsz]; exact Nat.le_succ _)⟩) hn₁ hk₁
 have old:∀ b ∈ fp,∀ o,s2.heap.get? b = some o -> h₁.get? b = some o:=fun b _ o e=>hk₁ b o (Heap.get?_push_of_some _ e)
 have st₁:tn 0 h₁:=T.keep _ _ _ st2 old
 have loop:codeAny (model X.prog X.w) X.A (.compLoop (.ListComp elt [⟨.Name x px,iter,[c],0⟩] scope pos) 0 (.ref it) (.ref s2.heap.objs.size) (compEnvC scope cl (s2.heap.objs.size + 1) X.env))
   (compPost (model X.prog X.w) X.A X.xe none (EP X pins σ Q) (.ref s2.heap.objs.size) (s2.heap.objs.size + 1)) { s2 with heap:=h₁,toks:=s2.toks + ([]:List (Str × Value)).length }:=by
  rw [hsz] at J0
  refine codeAny_loop rfl (fun n s'=>∃ i H' ys v,Inv (blk X scope cl (M ++ [x]) (s2.heap.objs.size + 1) { s2 with heap:=s2.heap.push { cls:=.type "list",data:=.seq ([]:List Value).toArray },toks:=s2.toks } (upd H2 s2.heap.objs.size (.lst [])) fp) [] (pick ι σ ++ [v]) H' s' /\ tn i s'.heap /\ (∀ b ∈ fp,H' b = none) /\ W i n ys H')
   (fun n s' hI=>?_) m0 ⟨0,_,[],none,J0,st₁,fun b hb=>(f3 b hb).1,w0⟩
  obtain ⟨i,H',ys,v,J',st',fr',w'⟩:=hI
  obtain ⟨hD,alt⟩:=turn i n ys H' w'
  have fpY:∀ {G:Hp},(∀ b ∈ fp,G b = none) -> ∀ b ∈ fp,mR (blk X scope cl (M ++ [x]) (s2.heap.objs.size + 1) { s2 with heap:=s2.heap.push { cls:=.type "list",data:=.seq ([]:List Value).toArray },toks:=s2.toks } (upd H2 s2.heap.objs.size (.lst [])) fp) [] G b:=fun hG b hb=>
   ⟨hG b hb,(J'.ok.exf b hb).1,J'.ok.exfs b hb,.inl hb,(J'.ok.exf b hb).2,fun p hp=>absurd (show p ∈ ([]:List (Addr × Obj)) from hp) (by simp)⟩
  show wpAny _ _ ((compTurn _ 0 (.ref it) (.ref s2.heap.objs.size) (compEnvC scope cl (s2.heap.objs.size + 1) X.env)).onRaise _) _ _ s'
  refine wpAny_noted (wpAny_noRaise ?_)
  rw [compTurn_list]
  refine wpAny_bind (wpAny_standAt (wpAny_bind ?_))
  rcases alt with ⟨stop,qn⟩ | ⟨go,step⟩
  . refine thn (T.done (blk X scope cl (M ++ [x]) (s2.heap.objs.size + 1) _ _ fp) rfl rfl rfl hc i [] s' _ H' _ J' (fpY fr') st' stop) fun r s4 ⟨hr,J4⟩=>?_
    subst hr
    refine wpAny_pure ?_
    obtain ⟨m,hm,_⟩:=id J4.loc
    refine ⟨m,hm,fun h' sb=>⟨.ref s2.heap.objs.size,H',uQ I3 hsz.symm f3 J4 sb,rfl,qn⟩⟩
  . refine thn (T.item (blk X scope cl (M ++ [x]) (s2.heap.objs.size + 1) _ _ fp) rfl rfl rfl hc i [] s' _ H' _ J' (fpY fr') st' go) fun r s4 ⟨u,hr,h4⟩=>?_
    subst hr
    refine wpAny_bind (thn h4 fun _ s5 ⟨z,H5,J5,r5,y5,st5,fr5⟩=>?_)
    have J5':=J5.pinned (fpY fr5) (T.obj _ _ st5)
    have hxN:(M ++ [x])[M.length]? = some x:=by simp
    refine wpAny_bind ?_
    refine wpAny_assign_Name ?_
    refine i6 (X:=blk X scope cl (M ++ [x]) (s2.heap.objs.size + 1) _ _ fp) (i:=M.length) (v:=z) J5' S.nd hxN (.inl (lookup_relabel_local S.var)) r5 (fun s6 J6=>?_) (.inr (lookup_relabel_local S.var))
    have hlp:(pick ι σ).length = M.length:=by
     have q:=congrArg List.length S.names
     rw [List.length_map,List.length_map] at q
     unfold pick
     rw [List.length_map,q]
    have hset:(pick ι σ ++ [v]).set M.length (some z) = pick ι σ ++ [some z]:=by
     rw [<- hlp,List.set_append_right _ _ (Nat.le_refl _),Nat.sub_self]
     rfl
    rw [hset] at J6
    refine wpAny_bind (wpAny_tests_one (thn (hcd _ _ _ _ _ s6 _ H5 _ J6 (step z H5 y5)) fun b s7 ⟨H7,J7,hD7,q7⟩=>?_))
    cases b with
    | true=>
      rw [if_pos rfl] at q7
      refine wpAny_bind (wpAny_bind (thn (he _ _ _ _ _ s7 _ H7 _ J7 q7) fun yv s8 ⟨y,H8,J8,r8,hD8,hz8,m',hm',w8⟩=>?_))
      refine wpAny_bind (thn (e6 (X:=blk X scope cl (M ++ [x]) (s2.heap.objs.size + 1) _ _ fp) _ s8 _ H8 (.ref s2.heap.objs.size) [y] (.ref s2.heap.objs.size) [yv] (fun _ G=>G = upd H8 s2.heap.objs.size (.lst (ys ++ [y]))) J8 rfl (.cons r8 .nil) ⟨_,_,y,rfl,rfl,hD8,hz8,rfl⟩) fun _ s9 ⟨_,H9,J9,_,e9⟩=>?_)
      subst e9
      refine wpAny_pure (wpAny_pure ⟨rfl,m',hm',i + 1,_,_,some z,J9.i4,?_,fun b hb=>?_,w8⟩)
      . exact T.keep _ _ _ st5 fun b hb o e=>(J9.pin (b,o) (List.mem_append_right _ (List.mem_append_right _ (eO hb e)))).1
      . obtain ⟨o,e,d⟩:=T.obj _ _ st5 b hb
        exact (J9.pin (b,o) (List.mem_append_right _ (List.mem_append_right _ (eO hb e)))).2.1
    | false=>
      rw [if_neg (by decide)] at q7
      obtain ⟨m',hm',w8⟩:=q7
      refine wpAny_pure ⟨rfl,m',hm',i + 1,_,_,some z,J7.i4,?_,fun b hb=>?_,w8⟩
      . exact T.keep _ _ _ st5 fun b hb o e=>(J7.pin (b,o) (List.mem_append_right _ (List.mem_append_right _ (eO hb e)))).1
      . obtain ⟨o,e,d⟩:=T.obj _ _ st5 b hb
        exact (J7.pin (b,o) (List.mem_append_right _ (List.mem_append_right _ (eO hb e)))).2.1
 rw [hsz] at *
 exact codeAny_compStart_list loop (T.self X.A 0 _ _ _ st₁ loop)
end
end L2.E
namespace L2.E
open PySem PySem.Spec PyProof.Rows L2
theorem A4 (its:List Value):slicePick its.toArray none none (some (-1)) = its.reverse.toArray:=by
 unfold slicePick
 have hb:sliceBounds none none (some (-1)) its.toArray.size = ((its.length:Int) - 1,-1,-1):=by simp [sliceBounds]
 rw [hb]
 congr 1
 have hr:sliceRange ((its.length:Int) - 1) (-1) (-1) = (List.range its.length).map fun i=>its.length - 1 - i:=by
  unfold sliceRange
  rw [if_neg (by decide)]
  have hc:(if ((its.length:Int) - 1) > -1 then (((its.length:Int) - 1) - -1 - -1 - 1) / (- -1) else 0).toNat = its.length:=by
   split
   . rw [show (- -1:Int) = 1 by decide,Int.ediv_one]; omega
   . omega
  dsimp only
  rw [hc]
  refine List.map_congr_left fun k hk=>?_
  have:=List.mem_range.mp hk
  omega
 rw [hr]
 apply List.ext_getElem?
 intro n
 rw [List.filterMap_map]
 have hall:∀ m,m <= its.length -> List.filterMap ((fun x=>its.toArray[x]?) ∘ fun i=>its.length - 1 - i) (List.range m) = (its.reverse).take m:=by
  intro m
  induction m with
  | zero=>intro _; simp
  | succ m ih=>
    intro hm
    rw [List.range_succ,List.filterMap_append,ih (by omega)]
    have h1:its.length - 1 - m < its.length:=by omega
    have h2:m < its.reverse.length:=by rw [List.length_reverse]; omega
    rw [List.take_succ_eq_append_getElem h2]
    congr 1
    simp [h1]
 rw [hall its.length (Nat.le_refl _),List.take_of_length_le (by simp)]
theorem vJ:∀ {xs:List V} {us:List Value},Vals xs us -> Vals xs.reverse us.reverse
 | _,_,.nil=>.nil
 | _,_,.cons r t=>by
   rw [List.reverse_cons,List.reverse_cons]
   exact (vJ t).append (.cons r .nil)
section
variable {X:Cx} {e st:Expr} {te ts:TE} {pos p2:Pos}
noncomputable def Gk (K:PySem.W.Frag) (te ts:TE):TE:=fun σ H Q=>te σ H fun x H1=>ts σ H1 fun k H2=>k = .int (-1) /\ ∃ a xs,x = .ref a /\ SqL K H2 a xs /\ ∀ p,H2 p = none -> Q (.ref p) (upd H2 p (.lst xs.reverse))
theorem F9 (he:PE X e te) (hk:PE X st ts):PE X (.Subscript e (.Slice none none (some st) p2) pos) (Gk X.K te ts):=by
 intro pins s σ H Q I h
 refine Subscript_ (thn (he pins s σ H _ I h) fun v s1 ⟨x,H1,I1,r1,q1⟩=>?_)
 refine wpAny_Slice ?_
 rw [evalPart_none]
 refine wpAny_pure (wpAny_pure ?_)
 rw [evalPart_some]
 refine thn (hk pins s1 σ H1 _ I1 q1) fun u s3 ⟨k,H3,I3,r3,q3⟩=>?_
 obtain ⟨rfl,a,xs,rfl,hq,q⟩:=q3
 obtain ⟨t,rfl⟩:=r3
 cases r1
 have I4:Inv X pins σ H3 { s3 with heap:=s3.heap.push { cls:=.type "slice",data:=.fields #[.none,.none,.int (-1) t] } }:=I3.kept (t':=s3.toks) fun b ob q=>Heap.get?_push_of_some _ q
 obtain ⟨its,r,ht,hz⟩:=I4.list hq
 have hlen:=r.length
 show wpAny (model X.prog X.w) X.A (subscriptTail e (.Slice none none (some st) p2) (.ref a) (.ref s3.heap.objs.size)) (EP X pins σ Q) X.xe { s3 with heap:=s3.heap.push { cls:=.type "slice",data:=.fields #[.none,.none,.int (-1) t] } }
 refine tail_any (ops:=[.ref a,.ref s3.heap.objs.size]) ht.isList.typeIs slot_list_getitem.lookup ?_ (by with_unfolding_all rfl)
 refine wpAny_getItem_list_slice ht.isList (Heap.IsSliceOf.new ..) .none .none (.int (-1) t) (by decide) ?_ (by rw [List.size_toArray] <;> omega)
 rw [A4]
 refine ⟨.ref _,_,I4.laid (t':=s3.toks) (o:=.lst xs.reverse) (fun b ob q=>Heap.get?_push_of_some _ q) (Nat.le_refl _) ?_,rfl,q _ (I4.hok.fresh (Nat.le_refl _))⟩
 refine ⟨by rw [List.length_reverse]; exact hz,its.reverse,0,vJ r,Heap.get?_push_size _ rfl⟩
end
end L2.E
namespace L2.E
open PySem PySem.Spec PyProof.Rows L2
section
variable {X:Cx} {scope:Scope} {cl:List (Str × Addr)} {M:List Str} {ι:List Nat} {x:Str}
theorem CB {i:Nat} {y:Str} {py spos:Pos} {elt iter:Expr} {px pos:Pos} {wi:TI} {te:TE} (S:kL X scope cl M ι x) (hc:X.calm = true) (hi:PI X (.Name x px) iter wi) (he:∀ C s₀ H₀ ex,PE (blk X scope cl (M ++ [x]) C s₀ H₀ ex) elt te)
  (hN:X.N.Nodup) (hiy:X.N[i]? = some y) (hy:Loc X.env.scope y) (hsw:swapsWith (.ListComp elt [⟨.Name x px,iter,[],0⟩] scope pos) (some (.Name y py)) spos.line X.env = pure true) (hf:X.fn y = true \/ X.env.scope.names.lookup y = some .local:=by first | exact .inl rfl | exact .inr rfl | assumption)
  (hs:∀ v,foldedSetIterable iter X.env v = pure v:=by intro _; rfl):PS X (.Assign [.Name y py] (.ListComp elt [⟨.Name x px,iter,[],0⟩] scope pos) spos) (sk (qb wi ι te) (kh i)):=by
 intro pins s σ H D0 I h
 rw [exec_Assign_Name_used _ _ _ _ hsw]
 refine wpAny_bind (wpAny_standAt (wpAny_bind ?_))
 show wpAny _ _ (do let _ <- comprehension (.ListComp elt [⟨.Name x px,iter,[],0⟩] scope pos) scope X.env _ (newList []) false (eval iter X.env) (some (assign (.Name y py) X.env))) _ _ s
 refine wpAny_bind (wpAny_mono (wpAny_comprehension_free (use:=some (assign (.Name y py) X.env)) (Q:=fun _ s'=>∃ σ' H',Inv X pins σ' H' s' /\ D0.nx σ' H') rfl hs S.clos S.kind (fun y hy hl=>?_) (wpAny_mono (hi pins s σ H _ I h) (fun v s1 h1=>wpAny_mono h1 (fun itv s2 h2=>?_) fun _ _ z=>z) fun _ _ z=>z)) (fun _ s' hq=>wpAny_pure (wpAny_pure hq)) fun _ _ e=>e)
 . have q:=List.all_eq_true.mp S.locs y hy
   rw [hl] at q
   simpa using q
 obtain ⟨it,fp,tn,J,H2,rfl,I2,T,st2,f2,hW⟩:=h2
 have I3:=I2.BP (ys:=[]) (its:=[]) (t':=s2.toks) .nil (Nat.zero_le _)
 obtain ⟨W,⟨m0,w0⟩,turn⟩:=hW s2.heap.objs.size I2.fresh
 have fpo:∀ b ∈ fp,b < s2.heap.objs.size:=fun b hb=>let ⟨_,e,_⟩:=T.obj _ _ st2 b hb; Heap.lt_size e
 have f3:∀ b ∈ fp,mR X pins (upd H2 s2.heap.objs.size (.lst [])) b:=fun b hb=>by
  obtain ⟨q0,q⟩:=f2 b hb
  exact ⟨by rw [aY (Nat.ne_of_lt (fpo b hb))]; exact q0,q⟩
 show wpAny _ _ (newObj (.type "list") _ none) _ _ s2
 refine wpAny_newObj_type (wpAny_newFunctionEnv (fun y hy=>?_) (by intro y hy; simp at hy) (fun h₁ hn₁ sb₁=>?_) S.kind)
 . have q:=List.all_eq_true.mp S.nocell y hy
   simpa using q
 have hsz:(s2.heap.push { cls:=.type "list",dict:=none,data:=.seq ([]:List Value).toArray }).objs.size = s2.heap.objs.size + 1:=Heap.size_push ..
 have hk₁:∀ b o,(s2.heap.push { cls:=.type "list",dict:=none,data:=.seq ([]:List Value).toArray }).get? b = some o -> h₁.get? b = some o:=fun b o e=>
  (sb₁.2 b (Nat.ne_of_lt (Heap.lt_size e))).trans (Heap.get?_push_of_some _ e)
 have J0:=xa (t':=s2.toks + ([]:List (Str × Value)).length) S I3 (ex:=fp) (fun b hb=>⟨f3 b hb,Nat.lt_of_lt_of_le (fpo b hb) (by rw [hsz]; exact Nat.le_succ _)⟩) hn₁ hk₁
 have old:∀ b ∈ fp,∀ o,s2.heap.get? b = some o -> h₁.get? b = some o:=fun b _ o e=>hk₁ b o (Heap.get?_push_of_some _ e)
 have st₁:tn 0 h₁:=T.keep _ _ _ st2 old
 have loop:codeAny (model X.prog X.w) X.A (.compLoop (.ListComp elt [⟨.Name x px,iter,[],0⟩] scope pos) 0 (.ref it) (.ref s2.heap.objs.size) (compEnvC scope cl (s2.heap.objs.size + 1) X.env))
   (compPost (model X.prog X.w) X.A X.xe (some (assign (.Name y py) X.env)) (fun _ s'=>∃ σ' H',Inv X pins σ' H' s' /\ D0.nx σ' H') (.ref s2.heap.objs.size) (s2.heap.objs.size + 1)) { s2 with heap:=h₁,toks:=s2.toks + ([]:List (Str × Value)).length }:=by
  rw [hsz] at J0
  refine codeAny_loop rfl (fun n s'=>∃ i H' ys v,Inv (blk X scope cl (M ++ [x]) (s2.heap.objs.size + 1) { s2 with heap:=s2.heap.push { cls:=.type "list",data:=.seq ([]:List Value).toArray },toks:=s2.toks } (upd H2 s2.heap.objs.size (.lst [])) fp) [] (pick ι σ ++ [v]) H' s' /\ tn i s'.heap /\ (∀ b ∈ fp,H' b = none) /\ W i n ys H')
   (fun n s' hI=>?_) m0 ⟨0,_,[],none,J0,st₁,fun b hb=>(f3 b hb).1,w0⟩
  obtain ⟨i,H',ys,v,J',st',fr',w'⟩:=hI
  obtain ⟨hD,alt⟩:=turn i n ys H' w'
  have fpY:∀ {G:Hp},(∀ b ∈ fp,G b = none) -> ∀ b ∈ fp,mR (blk X scope cl (M ++ [x]) (s2.heap.objs.size + 1) { s2 with heap:=s2.heap.push { cls:=.type "list",data:=.seq ([]:List Value).toArray },toks:=s2.toks } (upd H2 s2.heap.objs.size (.lst [])) fp) [] G b:=fun hG b hb=>
   ⟨hG b hb,(J'.ok.exf b hb).1,J'.ok.exfs b hb,.inl hb,(J'.ok.exf b hb).2,fun p hp=>absurd (show p ∈ ([]:List (Addr × Obj)) from hp) (by simp)⟩
  show wpAny _ _ ((compTurn _ 0 (.ref it) (.ref s2.heap.objs.size) (compEnvC scope cl (s2.heap.objs.size + 1) X.env)).onRaise _) _ _ s'
  refine wpAny_noted (wpAny_noRaise ?_)
  rw [tF]
  refine wpAny_bind (wpAny_standAt (wpAny_bind ?_))
  rcases alt with ⟨stop,qn⟩ | ⟨go,step⟩
  . refine thn (T.done (blk X scope cl (M ++ [x]) (s2.heap.objs.size + 1) _ _ fp) rfl rfl rfl hc i [] s' _ H' _ J' (fpY fr') st' stop) fun r s4 ⟨hr,J4⟩=>?_
    subst hr
    refine wpAny_pure ?_
    obtain ⟨m,hm,_⟩:=id J4.loc
    have I4:Inv X pins σ H' s4:=uQ (h':=s4.heap) I3 hsz.symm f3 J4 ⟨rfl,fun _ _=>rfl⟩
    obtain ⟨oC,es,ep,hoC,rC⟩:=id hm
    have fC:mR X pins H' (s2.heap.objs.size + 1):=I3.yU (by rw [hsz]; exact Nat.le_refl _) J4.free
    obtain ⟨_,c1,c2,c3,c4,c5⟩:=id fC
    have I5:=I4.pinned (fp:=[s2.heap.objs.size + 1]) (fun b hb=>by
     have z:b = s2.heap.objs.size + 1:=by simpa using hb
     subst z; exact fC) fun b hb=>by
     have z:b = s2.heap.objs.size + 1:=by simpa using hb
     subst z
     exact ⟨oC,hoC,fun v z=>by rw [rC.1] at z; cases z⟩
    show wpAny _ _ (assign (.Name y py) X.env (.ref s2.heap.objs.size)) _ _ s4
    refine wpAny_assign_Name (i6 I5 hN hiy hy (v:=.ref s2.heap.objs.size) rfl (fun s5 I6=>?_) hf)
    have hC5:s5.heap.get? (s2.heap.objs.size + 1) = some oC:=(I6.pin (_,oC) (List.mem_append_right _ (List.mem_append_right _ (eO (List.mem_singleton.mpr rfl) hoC)))).1
    refine ⟨m,⟨oC,es,ep,hC5,rC⟩,fun h' sb=>⟨_,H',(I6.i4).turned (t':=s5.toks) (it:=s2.heap.objs.size + 1) (fun b o hb e=>(sb.2 b hb).trans e) J4.free c1 c3 c4 c5,qn⟩⟩
  . refine thn (T.item (blk X scope cl (M ++ [x]) (s2.heap.objs.size + 1) _ _ fp) rfl rfl rfl hc i [] s' _ H' _ J' (fpY fr') st' go) fun r s4 ⟨u,hr,h4⟩=>?_
    subst hr
    refine wpAny_bind (thn h4 fun _ s5 ⟨z,H5,J5,r5,y5,st5,fr5⟩=>?_)
    have J5':=J5.pinned (fpY fr5) (T.obj _ _ st5)
    have hxN:(M ++ [x])[M.length]? = some x:=by simp
    refine wpAny_bind ?_
    refine wpAny_assign_Name ?_
    refine i6 (X:=blk X scope cl (M ++ [x]) (s2.heap.objs.size + 1) _ _ fp) (i:=M.length) (v:=z) J5' S.nd hxN (.inl (lookup_relabel_local S.var)) r5 (fun s6 J6=>?_) (.inr (lookup_relabel_local S.var))
    have hlp:(pick ι σ).length = M.length:=by
     have q:=congrArg List.length S.names
     rw [List.length_map,List.length_map] at q
     unfold pick
     rw [List.length_map,q]
    have hset:(pick ι σ ++ [v]).set M.length (some z) = pick ι σ ++ [some z]:=by
     rw [<- hlp,List.set_append_right _ _ (Nat.le_refl _),Nat.sub_self]
     rfl
    rw [hset] at J6
    refine wpAny_bind (wpAny_bind (thn (he _ _ _ _ _ s6 _ H5 _ J6 (step z H5 y5)) fun yv s7 ⟨y,H7,J7,r7,hD7,hz7,m',hm',w7⟩=>?_))
    refine wpAny_bind (thn (e6 (X:=blk X scope cl (M ++ [x]) (s2.heap.objs.size + 1) _ _ fp) _ s7 _ H7 (.ref s2.heap.objs.size) [y] (.ref s2.heap.objs.size) [yv] (fun _ G=>G = upd H7 s2.heap.objs.size (.lst (ys ++ [y]))) J7 rfl (.cons r7 .nil) ⟨_,_,y,rfl,rfl,hD7,hz7,rfl⟩) fun _ s8 ⟨_,H8,J8,_,e8⟩=>?_)
    subst e8
    refine wpAny_pure (wpAny_pure ⟨rfl,m',hm',i + 1,_,_,some z,J8.i4,?_,fun b hb=>?_,w7⟩)
    . exact T.keep _ _ _ st5 fun b hb o e=>(J8.pin (b,o) (List.mem_append_right _ (List.mem_append_right _ (eO hb e)))).1
    . obtain ⟨o,e,d⟩:=T.obj _ _ st5 b hb
      exact (J8.pin (b,o) (List.mem_append_right _ (List.mem_append_right _ (eO hb e)))).2.1
 rw [hsz] at *
 exact codeAny_compStart_list loop (T.self X.A 0 _ _ _ st₁ loop)
end
end L2.E
namespace L2.P
open PySem PySem.Spec PyProof.Rows L2 L2.E
section
variable {K:PySem.W.Frag} {cls:String -> Option Addr} {W:XW} {Av G S₀ S S' H H' B B':Hp} {ρ:ae} {σ:St} {Q:VK}
theorem Br {tl te:TE} {ml me:ae -> OE} {ι:List Nat} (hι:ι.Nodup) (hl:JE K cls W tl ml) (he:JE K cls (fun _ _ _ _=>False) te me):JE K cls W (qb (Eu K tl) ι te) (rj ml ι me):=by
 intro Av G S₀ ρ σ S H Q I p
 refine hl.go I p fun r v S1 H1 I1 w1 r1 p1=>?_
 have ra:=r1.rd I1.sh
 cases e:r.pv with
 | tup xs=>
   rw [e] at p1 ra
   obtain ⟨a,vs,rfl,hq,hr⟩:=mB ra
   refine ⟨a,rfl,⟨vs,aG.tup I1.sh hq⟩,?_⟩
   dsimp only at p1
   cases em:dC me (dQ ι ρ) xs with
   | exc c fs=>rw [em] at p1; exact p1.elim
   | bad=>rw [em] at p1; exact p1.elim
   | ok ys=>
     rw [em] at p1
     simp only [noX] at p1
     split at p1
     . rename_i hlen
       refine ng hι he I1 em hlen (fun k H' x g hx=>?_) (fun H' g=>⟨vs,aG.tup (I1.sh.trans g) hq,by rw [hr.length]; exact Nat.le_refl _⟩) fun D S' H' w nD sD ⟨us,hD,rr⟩=>p1 (.ref D) S' H' w ⟨D,us,rfl,nD,sD,hD,rr⟩
       obtain ⟨u,hu,ru⟩:=hr.get hx
       refine ⟨⟨vs,u,aG.tup (I1.sh.trans g) hq,hu⟩,?_⟩
       rintro v' H2 ⟨rfl,hv⟩
       have:=hv vs (aG.tup (I1.sh.trans g) hq)
       rw [hu] at this
       cases this
       exact ⟨rfl,ru⟩
     . exact p1.elim
 | _=>rw [e] at p1; exact p1.elim
theorem wa {J:It} {ι:List Nat} {tc:TT} {mc:ae -> OT} {te:TE} {me:ae -> OE} {xs ys:List PV} (hι:ι.Nodup) (hc:JT K cls (fun _ _ _ _=>False) tc mc) (he:JE K cls (fun _ _ _ _=>False) te me) (I:SR K cls Av G S₀ ρ σ S H) (hy:g8 mc me (dQ ι ρ) xs = .ok ys) (hl:ys.length <= lim)
  (go:∀ k H' x,aG H H' -> xs[k]? = some x -> J.go k H' /\ ∀ v H2,J.yld k H' v H2 -> H2 = H' /\ Rep K S x v) (stop:∀ H',aG H H' -> J.stop xs.length H')
  (hQ:∀ D S' H',bu S H S' H' -> H D = none -> S' D = none -> (∃ us,H' D = some (.lst us) /\ bL K S' ys us) -> Q (.ref D) H'):
  ∀ D,H D = none -> ∃ W:Nat -> Nat -> List V -> Hp -> Prop,(∃ m,W 0 m [] (upd H D (.lst []))) /\ ∀ i m us H',W i m us H' ->
    H' D = some (.lst us) /\ ((J.stop i H' /\ Q (.ref D) H') \/ (J.go i H' /\ ∀ x H2,J.yld i H' x H2 -> tc (L2.E.pick ι σ ++ [some x]) H2 fun b H4=>H4 D = some (.lst us) /\ if b = true then te (L2.E.pick ι σ ++ [some x]) H4 fun y H3=>H3 D = some (.lst us) /\ us.length < sizeLine /\ ∃ m',m' < m /\ W (i + 1) m' (us ++ [y]) (upd H3 D (.lst (us ++ [y]))) else ∃ m',m' < m /\ W (i + 1) m' us H4)):=by
 intro D nD
 refine ⟨fun k m us H'=>m + k = xs.length /\ H' D = some (.lst us) /\ ∃ S' zs ws,aG S S' /\ aG H H' /\ aG S' H' /\ (∀ b,S' b ≠ none -> S b ≠ none \/ (H b = none /\ b ≠ D)) /\ bL K S' zs us /\ g8 mc me (dQ ι ρ) (xs.drop k) = .ok ws /\ ys = zs ++ ws,
  ⟨xs.length,rfl,bg,S,[],ys,aG.refl _,aG.new nD,I.sh.trans (aG.new nD),fun b z=>.inl z,.nil,hy,rfl⟩,?_⟩
 rintro k m us H' ⟨hm,hD,S',zs,ws,s1,g1,sh1,n1,r1,e1,rfl⟩
 refine ⟨hD,?_⟩
 have hSD:S' D = none:=by
  cases q:S' D with
  | none=>rfl
  | some o=>
    rcases n1 D (by rw [q]; simp) with z | ⟨_,z⟩
    . exact absurd (I.sh.free nD) z
    . exact absurd rfl z
 by_cases hk:k < xs.length
 . refine .inr ?_
   have hx:xs[k]? = some xs[k]:=by simp [hk]
   obtain ⟨hgo,hyld⟩:=go k H' xs[k] g1 hx
   refine ⟨hgo,fun v H2 hv=>?_⟩
   obtain ⟨rfl,rv⟩:=hyld v H2 hv
   rw [List.drop_eq_getElem_cons hk] at e1
   have I1:SR K cls Av G S₀ ρ σ S' H2:=I.grow ⟨s1,g1,sh1,fun b z=>by
    rcases n1 b z with z | ⟨z,_⟩
    . exact .inl z
    . exact .inr z⟩
   have Ip:=I1.pick hι (Rep.mono s1 rv)
   refine hc _ G S₀ _ _ S' H2 _ Ip ?_
   unfold g8 at e1
   split at e1
   . rename_i ec
     rw [ec]
     intro S2 H3 w2
     have hSD2:S2 D = none:=by
      cases q:S2 D with
      | none=>rfl
      | some o=>
        rcases w2.new D (by rw [q]; simp) with z | z
        . exact absurd hSD z
        . rw [hD] at z; cases z
     refine ⟨w2.g _ _ hD,?_⟩
     rw [if_pos rfl]
     refine he _ G S₀ _ _ S2 H3 _ (Ip.grow w2) ?_
     cases em:me (dQ ι ρ ++ [some (.sh xs[k])]) with
     | exc c fs=>rw [em] at e1; cases e1
     | bad=>rw [em] at e1; cases e1
     | ok r=>
       rw [em] at e1
       simp only [OE.fH] at e1
       cases es:kn r with
       | none=>rw [es] at e1; cases e1
       | some y=>
         rw [es] at e1
         dsimp only at e1
         cases e2:g8 mc me (dQ ι ρ) (xs.drop (k + 1)) with
         | exc c fs=>rw [e2] at e1; cases e1
         | bad=>rw [e2] at e1; cases e1
         | ok zs'=>
           rw [e2] at e1
           simp only [OA.fH] at e1
           cases e1
           intro u S4 H4 w4 r4
           obtain ⟨S3,w3,s3,ru⟩:=r4.share w4 es
           have hl2:(zs ++ y ::zs').length <= lim:=hl
           have w5:=w2.trans w3
           have hSD3:S3 D = none:=by
            cases q:S3 D with
            | none=>rfl
            | some o=>
              rcases w3.new D (by rw [q]; simp) with z | z
              . exact absurd hSD2 z
              . rw [w2.g _ _ hD] at z; cases z
           refine ⟨w5.g _ _ hD,?_,m - 1,by omega,by omega,bg,S3,zs ++ [y],zs',s1.trans w5.s,(g1.trans w5.g).upd nD,w3.sh.upd hSD3,fun b z=>?_,(r1.mono w5.s).append (.cons ru .nil),e2,by simp⟩
           . rw [r1.length,<- xp]
             rw [List.length_append,List.length_cons] at hl2
             omega
           . rcases w5.new b z with z | z
             . exact n1 b z
             . refine .inr ⟨g1.free z,fun e=>?_⟩
               rw [e,hD] at z; cases z
   . rename_i ec
     rw [ec]
     intro S2 H3 w2
     refine ⟨w2.g _ _ hD,?_⟩
     rw [if_neg (by decide)]
     refine ⟨m - 1,by omega,by omega,w2.g _ _ hD,S2,zs,ws,s1.trans w2.s,g1.trans w2.g,w2.sh,fun b z=>?_,r1.mono w2.s,e1,rfl⟩
     rcases w2.new b z with z | z
     . exact n1 b z
     . refine .inr ⟨g1.free z,fun e=>?_⟩
       rw [e,hD] at z; cases z
   . cases e1
 . have hk':k = xs.length:=by omega
   subst hk'
   refine .inl ⟨stop H' g1,?_⟩
   rw [List.drop_length] at e1
   cases e1
   exact hQ D S' H' ⟨s1,g1,sh1,fun b z=>by
    rcases n1 b z with z | ⟨z,_⟩
    . exact .inl z
    . exact .inr z⟩ nD hSD ⟨us,hD,by rw [List.append_nil]; exact r1⟩
theorem wZ {tl te:TE} {tc:TT} {ml me:ae -> OE} {mc:ae -> OT} {ι:List Nat} (hι:ι.Nodup) (hl:JE K cls W tl ml) (hc:JT K cls (fun _ _ _ _=>False) tc mc) (he:JE K cls (fun _ _ _ _=>False) te me):JE K cls W (uM (v8 K tl) ι tc te) (rq ml ι mc me):=by
 intro Av G S₀ ρ σ S H Q I p
 refine hl.go I p fun r v S1 H1 I1 w1 r1 p1=>?_
 have ra:=r1.rd I1.sh
 cases e:r.pv with
 | lst xs=>
   rw [e] at p1 ra
   obtain ⟨a,vs,rfl,hq,hr⟩:=iM ra
   refine ⟨a,rfl,⟨vs,hq⟩,?_⟩
   dsimp only at p1
   cases em:g8 mc me (dQ ι ρ) xs with
   | exc c fs=>rw [em] at p1; exact p1.elim
   | bad=>rw [em] at p1; exact p1.elim
   | ok ys=>
     rw [em] at p1
     simp only [noX] at p1
     split at p1
     . rename_i hlen
       refine wa hι hc he I1 em hlen (fun k H' x g hx=>?_) (fun H' g=>⟨vs,aG.seq g hq,by rw [hr.length]; exact Nat.le_refl _⟩) fun D S' H' w nD sD ⟨us,hD,rr⟩=>p1 (.ref D) S' H' w ⟨D,us,rfl,nD,sD,hD,rr⟩
       obtain ⟨u,hu,ru⟩:=hr.get hx
       refine ⟨⟨vs,u,aG.seq g hq,hu⟩,?_⟩
       rintro v' H2 ⟨rfl,hv⟩
       have:=hv vs (aG.seq g hq)
       rw [hu] at this
       cases this
       exact ⟨rfl,ru⟩
     . exact p1.elim
 | _=>rw [e] at p1; exact p1.elim
theorem E6 {ta ts:TE} {ma ms:ae -> OE} (ha:JE K cls W ta ma) (hs:JE K cls W ts ms):JE K cls W (Gk K ta ts) (Di ma ms):=by
 intro Av G S₀ ρ σ S H Q I p
 refine ha.go I p fun a v S1 H1 I1 w1 r1 p1=>hs.go I1 p1 fun k u S2 H2 I2 w2 r2 p2=>?_
 have ra:=(r1.rd I1.sh).mono w2.s w2.g
 have rk:=r2.rd I2.sh
 split at p2
 . rename_i xs n ea ek
   split at p2
   . rename_i hn
     rw [ea] at ra
     rw [ek] at rk
     obtain ⟨q,vs,rfl,hq,hr⟩:=iM ra
     refine ⟨by rw [dO rk,hn],q,vs,rfl,hq,fun l hl=>?_⟩
     refine p2 _ S2 _ (bu.heap I2.sh hl) ⟨l,_,rfl,hl,I2.sh.free hl,bg,?_⟩
     clear ea p2 hq ra
     induction xs generalizing vs with
     | nil=>rw [hr.nil_inv]; exact .nil
     | cons x xs ih=>
       obtain ⟨y,t,rfl,h1,h2⟩:=hr.cons_inv
       rw [List.reverse_cons,List.reverse_cons]
       exact (ih _ h2).append (.cons h1 .nil)
   . exact p2.elim
 . exact p2.elim
end
end L2.P
namespace L2.E
open PySem PySem.Spec PyProof.Rows L2
theorem zd {X:Cx} {scope:Scope} {cl:List (Str × Addr)} {M:List Str} {ι:List Nat} {x:Str} {elt iter c:Expr} {px pos:Pos} {wi:TI} {tc:TT} {te:TE} (S:kL X scope cl M ι x) (hc:X.calm = true) (hi:QI X (.Name x px) iter wi) (hcd:∀ C s₀ H₀ ex,QT (blk X scope cl (M ++ [x]) C s₀ H₀ ex) c tc) (he:∀ C s₀ H₀ ex,QE (blk X scope cl (M ++ [x]) C s₀ H₀ ex) elt te)
  (hs:∀ v,foldedSetIterable iter X.env v = pure v:=by intro _; rfl):QE X (.ListComp elt [⟨.Name x px,iter,[c],0⟩] scope pos) (uM wi ι tc te):=⟨zr S hc hi.out (fun a b c d=>(hcd a b c d).out) (fun a b c d=>(he a b c d).out) hs⟩
theorem FV {X:Cx} {e st:Expr} {te ts:TE} {pos p2:Pos} (he:QE X e te) (hk:QE X st ts):QE X (.Subscript e (.Slice none none (some st) p2) pos) (Gk X.K te ts):=⟨F9 he.out hk.out⟩
end L2.E
namespace L2.E
open PySem PySem.Spec PyProof.Rows L2
theorem Dp {X:Cx} {scope:Scope} {cl:List (Str × Addr)} {M:List Str} {ι:List Nat} {x:Str} {i:Nat} {y:Str} {py spos:Pos} {elt iter:Expr} {px pos:Pos} {wi:TI} {te:TE} (hN:X.N.Nodup) (hiy:X.N[i]? = some y) (hy:Loc X.env.scope y) (S:kL X scope cl M ι x) (hc:X.calm = true) (hi:QI X (.Name x px) iter wi) (he:∀ C s₀ H₀ ex,QE (blk X scope cl (M ++ [x]) C s₀ H₀ ex) elt te)
  (hsw:swapsWith (.ListComp elt [⟨.Name x px,iter,[],0⟩] scope pos) (some (.Name y py)) spos.line X.env = pure true:=by rfl) (hf:X.fn y = true \/ X.env.scope.names.lookup y = some .local:=by first | exact .inl rfl | exact .inr rfl | assumption)
  (hs:∀ v,foldedSetIterable iter X.env v = pure v:=by intro _; rfl):QS X (.Assign [.Name y py] (.ListComp elt [⟨.Name x px,iter,[],0⟩] scope pos) spos) (sk (qb wi ι te) (kh i)):=⟨CB S hc hi.out (fun a b c d=>(he a b c d).out) hN hiy hy hsw hf hs⟩
end L2.E
namespace L2.E
open PySem PySem.Spec PyProof.Rows L2
noncomputable def G4 (p:Int × V) (e:DictEntry):Prop:=e.hash = hashInt p.1 /\ (∃ t,e.key = .int p.1 t) /\ RelV p.2 e.val
noncomputable def DKI (K:PySem.W.Frag) (d:Addr) (kvs:List (Int × V)):Prop:=(d == sysModules) = false /\ (kvs.map (·.1)).Nodup /\ ∃ (es:List DictEntry) (ep:Nat),K.lookup d = some ⟨.type "dict",none,.dict es.toArray ep,#[]⟩ /\ Paired G4 kvs es
theorem v7 {prog:Program} {w:World}:∀ {kvs:List (Int × V)} {es:List DictEntry},Paired G4 kvs es ->
  ∃ us:List (Int × Value),us.map (·.1) = kvs.map (·.1) /\ Pairs (intKind prog w) es us /\ (∀ e ∈ es,∃ k,(intKind prog w).is k e.key = true /\ e.hash = (intKind prog w).hash k) /\
    ∀ n,match kvs.lookup n with
      | some v=>∃ u,valueAt us n = some u /\ RelV v u
      | none=>valueAt us n = none
 | _,_,.nil=>⟨[],rfl,.nil,fun e he=>(nomatch he),fun n=>rfl⟩
 | (n,v) ::kvs,e ::es,.cons h t=>by
   obtain ⟨us,h1,h2,h3,h4⟩:=v7 (prog:=prog) (w:=w) t
   obtain ⟨k1,⟨tk,k2⟩,k3⟩:=h
   have hk:(intKind prog w).is n e.key = true:=by rw [k2]; show Value.isInt n (.int n tk) = true; simp [Value.isInt]
   refine ⟨(n,e.val) ::us,by simp [h1],.cons hk rfl h2,fun e' he'=>?_,fun m=>?_⟩
   . rcases List.mem_cons.mp he' with z | z
     . subst z; exact ⟨n,hk,k1⟩
     . exact h3 e' z
   . have:=h4 m
     by_cases hm:m = n
     . subst hm
       simp [List.lookup,valueAt]
       exact k3
     . have hb:(m == n) = false:=by simpa using hm
       have hn:¬ n = m:=fun z=>hm z.symm
       simp only [List.lookup,hb]
       unfold valueAt at this ⊢
       simp only [List.find?_cons,hn,decide_false]
       exact this
theorem DKI.at {X:Cx} {pins:List (Addr × Obj)} {σ:St} {H:Hp} {s:Shared} {d:Addr} {kvs:List (Int × V)} (D:DKI X.K d kvs) (I:Inv X pins σ H s):
  ∃ us:List (Int × Value),s.heap.DictOf (intKind X.prog X.w) d us /\ ∀ n,match kvs.lookup n with
     | some v=>∃ u,valueAt us n = some u /\ RelV v u
     | none=>valueAt us n = none:=by
 obtain ⟨_,nd,es,ep,hk,pr⟩:=D
 obtain ⟨us,h1,h2,h3,h4⟩:=v7 (prog:=X.prog) (w:=X.w) pr
 exact ⟨us,⟨_,es.toArray,ep,I.kIn d _ hk,⟨rfl,rfl,rfl⟩,rfl,fun e he=>h3 e (by simpa using he),by simpa using h2,by rw [h1]; exact nd⟩,h4⟩
section
variable {X:Cx}
noncomputable def D5 (K:PySem.W.Frag):R2:=fun x y H Q=>∃ d kvs n v,x = .ref d /\ y = .int n /\ DKI K d kvs /\ kvs.lookup n = some v /\ Q v H
theorem GK:IxR X (D5 X.K):=by
 intro value slice pins s σ H x y v u Q I rx ry h hs
 obtain ⟨d,kvs,n,z,rfl,rfl,D,hl,q⟩:=h
 cases rx
 obtain ⟨t,rfl⟩:=ry
 obtain ⟨us,dd,hv⟩:=D.at I
 have h2:=hv n
 rw [hl] at h2
 obtain ⟨w,e,rw'⟩:=h2
 refine tail_any (ops:=[.ref d,.int n t]) dd.typeIs slot_dict_getitem.lookup ?_ hs
 exact wpAny_getItem_of (knd:=intKind X.prog X.w) (k:=n) (by show Value.isInt n (.int n t) = true; simp [Value.isInt]) dd.mapOf e ⟨z,H,I.tok _,rw',q⟩
noncomputable def Aq (K:PySem.W.Frag) (td te:TE):TE:=fun σ H Q=>td σ H fun x H1=>∃ d kvs,x = .ref d /\ DKI K d kvs /\ te σ H1 fun y H2=>∃ n,y = .int n /\ Q ((kvs.lookup n).getD .non) H2
theorem vD {o e:Expr} {td te:TE} {apos cpos:Pos} (ho:QE X o td) (he:QE X e te) (hbase:attributeBase o "get" X.env (eval o X.env) = eval o X.env:=by rfl)
  (few:((backTo cpos (starEach [e] X.env)).all (fun x=>!x.1) && (backToKw cpos (keywordEach [] X.env)).all (fun x=>x.1.isSome) && decide (([e]:List Expr).length + ([]:List Keyword).length + (if ([]:List Keyword).isEmpty then 0 else 1) < 30)) = true:=by rfl)
  (line:(apos.endLine == cpos.line) = true:=by rfl) (trees:backTo cpos (starEach [e] X.env) = [(false,eval e X.env)]:=by rfl):QE X (.Call (.Attribute o "get" apos) [e] [] cpos) (Aq X.K td te):=⟨by
 intro pins s σ H Q I h
 refine wpAny_Call_method hbase few line PySem.F.plainAttrs_dict PySem.F.slot_dict_get PySem.F.type_dict_get (thn (ho.out pins s σ H _ I h) fun u s1 ⟨x,H1,I1,rx,d,kvs,ex,D,q1⟩=>?_)
 subst ex
 obtain rfl:u = Value.ref d:=rx
 obtain ⟨us,dd,hv⟩:=D.at I1
 obtain ⟨_,nd,es,ep,hk,pr⟩:=id D
 refine ⟨dd.typeIs,fun b hb=>by cases hb; exact ⟨_,I1.kIn d _ hk,rfl⟩,?_⟩
 rw [trees]
 refine Calls.callWith_builtin rfl (Calls.evalArgs_plain (Calls.spliced_cons (thn (he.out pins s1 σ H1 _ I1 q1) fun iv s2 ⟨y,H2,I2,ry,n,ey,q2⟩=>Calls.spliced_nil ?_)))
 subst ey
 obtain ⟨t,rfl⟩:=ry
 obtain ⟨us2,dd2,hv2⟩:=D.at I2
 refine call_meetsIn PySem.F.slot_dict_get dd2.typeIs PySem.F.entry_dict_get (PySem.F.args_dict_get_2 _ _) (meets_dict_get (intKind X.prog X.w) d (k:=n) (key:=.int n t) (by show Value.isInt n (.int n t) = true; simp [Value.isInt]) D.1) ⟨_,dd2.mapOf,⟨_,H2,I2.tok _,?_,q2⟩⟩
 have h2:=hv2 n
 cases q:kvs.lookup n with
 | none=>rw [q] at h2; rw [h2]; rfl
 | some v=>rw [q] at h2; obtain ⟨u,e,r⟩:=h2; rw [e]; exact r⟩
end
end L2.E
namespace L2.P
open PySem PySem.Spec PyProof.Rows L2 L2.E
section
variable {K:PySem.W.Frag} {cls:String -> Option Addr} {W:XW} {Av G S₀ S S' H H' B B':Hp} {ρ:ae} {σ:St} {Q:VK}
noncomputable def DKP (K:PySem.W.Frag) (d:Addr) (kvs:List (Int × PV)):Prop:=∃ us,DKI K d us /\ Paired (fun (p:Int × PV) (q:Int × V)=>p.1 = q.1 /\ ∀ S,Rep K S p.2 q.2) kvs us
theorem DKP.look {d:Addr}:∀ {kvs:List (Int × PV)} {us:List (Int × V)},Paired (fun (p:Int × PV) (q:Int × V)=>p.1 = q.1 /\ ∀ S,Rep K S p.2 q.2) kvs us -> ∀ n,match kvs.lookup n with
  | some x=>∃ v,us.lookup n = some v /\ ∀ S,Rep K S x v
  | none=>us.lookup n = none
 | _,_,.nil,n=>rfl
 | (k,x) ::kvs,(k',v) ::us,.cons h t,n=>by
   obtain ⟨rfl,hr⟩:=h
   have:=DKP.look (d:=d) t n
   by_cases hm:n = k
   . subst hm
     simp [List.lookup]
     exact hr
   . have hb:(n == k) = false:=by simpa using hm
     simp only [List.lookup,hb]
     exact this
theorem Ce {d:Addr} {kvs:List (Int × PV)} {ta:TE} {ma:ae -> OE} (D:DKP K d kvs) (ha:JE K cls W ta ma):JE K cls W (tOp (D5 K) (tC (.ref d)) ta) (mUn (yB kvs) ma):=by
 intro Av G S₀ ρ σ S H Q I p
 refine ha.go I p fun a v S1 H1 I1 w1 r1 p1=>?_
 have ra:=r1.rd I1.sh
 cases e:a.pv with
 | int n=>
   rw [e] at p1 ra
   obtain ⟨us,D1,pr⟩:=D
   have:=DKP.look (d:=d) pr n
   simp only [yB] at p1
   cases q:kvs.lookup n with
   | none=>rw [q] at p1; exact p1.elim
   | some x=>
     rw [q] at p1 this
     obtain ⟨u,eu,hr⟩:=this
     exact ⟨d,us,n,u,rfl,dO ra,D1,eu,p1 _ S1 H1 (bu.refl I1.sh) (hr S1)⟩
 | _=>rw [e] at p1; exact p1.elim
theorem vo {d:Addr} {kvs:List (Int × PV)} {ta:TE} {ma:ae -> OE} (D:DKP K d kvs) (ha:JE K cls W ta ma):JE K cls W (Aq K (tC (.ref d)) ta) (mUn (gD kvs) ma):=by
 intro Av G S₀ ρ σ S H Q I p
 obtain ⟨us,D1,pr⟩:=D
 refine ⟨d,us,rfl,D1,?_⟩
 refine ha.go I p fun a v S1 H1 I1 w1 r1 p1=>?_
 have ra:=r1.rd I1.sh
 cases e:a.pv with
 | int n=>
   rw [e] at p1 ra
   have:=DKP.look (d:=d) pr n
   simp only [gD,oE] at p1
   refine ⟨n,dO ra,?_⟩
   cases q:kvs.lookup n with
   | none=>
     rw [q] at p1 this
     rw [this]
     exact p1 _ S1 H1 (bu.refl I1.sh) (by show Rep K S1 _ _; unfold Rep; rfl)
   | some x=>
     rw [q] at p1 this
     obtain ⟨u,eu,hr⟩:=this
     rw [eu]
     exact p1 _ S1 H1 (bu.refl I1.sh) (hr S1)
 | _=>rw [e] at p1; exact p1.elim
end
end L2.P
namespace L2.E
open PySem PySem.Spec PyProof.Rows L2
end L2.E
namespace L2.P
open PySem PySem.Spec PyProof.Rows L2 L2.E
end L2.P
namespace L2.P
open PySem
end L2.P
namespace L2.P
open PySem PySem.Spec PyProof.Rows L2 L2.E
end L2.P
namespace L2.P
open PySem
noncomputable def tZ (x:Str):List PV:=x.cps.toList.map fun c=>.str ⟨#[c]⟩
noncomputable def mZ (ml:ae -> OE) (ι:List Nat) (me:ae -> OE):ae -> OE:=fun ρ=>(ml ρ).bind fun r=>match r.pv with
 | .str x=>noX (dC me (dQ ι ρ) (tZ x))
 | _=>.bad
@[simp] theorem Ak (ml:ae -> OE) (ι:List Nat) (me:ae -> OE) (ρ:ae):mZ ml ι me ρ = ((ml ρ).bind fun r=>match r.pv with
  | .str x=>noX (dC me (dQ ι ρ) (tZ x))
  | _=>.bad):=rfl
noncomputable def BJ:PV -> Option RV
 | .str x=>if x.length = 1 then some (.sh (.int (x.cps.getD 0 0:Nat))) else none
 | _=>none
noncomputable def mE:PV -> Option RV
 | .int i=>if i.natAbs.log2 < 1920 then some (.sh (.str (toString i))) else none
 | _=>none
end L2.P
namespace L2.P
open PySem
end L2.P
namespace L2
open PySem PySem.Spec PyProof.Rows
noncomputable def Its (x:Str):It:=⟨fun i _=>i < x.cps.size,fun i H v H'=>H' = H /\ ∃ c,x.cps[i]? = some c /\ v = .str ⟨#[c]⟩,fun i _=>x.cps.size <= i⟩
theorem vN {P:Program} {w:World} {K:PySem.W.Frag} {tg:Expr} {it:Addr} {x:Str} {t:Tok} {n:String} (hn:["enumerate","zip","dict_itemiterator","dict_reverseitemiterator","odict_iterator","itertools.zip_longest","itertools.pairwise"].contains n = false)
  (W:∀ A:Around,A.handled = none -> Walks P w A it [it] [it] x.cps.size (SignAt x) (fun i h=>h.IsStrIter it n x t i))
  (De:∀ (A:Around) (s:Shared) (i:Nat) (Q:Option Value -> Shared -> Prop) (E:Value -> Shared -> Prop),A.handled = none -> s.heap.IsStrIter it n x t i -> x.cps[i]? = none -> (∀ h',Heap.ExtBut it s.heap h' -> Q none { s with heap:=h' }) -> wpAny (model P w) A (pyNext (.ref it)) Q E s)
  (Se:∀ (A:Around) (i:Nat) (s:Shared) (Q:Value -> Shared -> Prop) (E:Value -> Shared -> Prop),s.heap.IsStrIter it n x t i -> Q (.ref it) s -> wpAny (model P w) A (pyIter (.ref it)) Q E s):Turn P w K tg (Its x) [it] it (fun i h=>h.IsStrIter it n x t i) where
 mem:=by simp
 obj:=fun i h st b hb=>by
  have e:b = it:=by simpa using hb
  subst e
  obtain ⟨o,e,c,d⟩:=st
  exact ⟨o,e,fun v z=>by rw [d] at z; cases z⟩
 keep:=fun i h h' st k=>let ⟨o,e,r⟩:=st; ⟨o,k it (by simp) o e,r⟩
 item:=by
  intro X hP hw hK hc i pins s σ H E I hf st hg
  subst hP hw hK
  obtain ⟨f0,f1,f2,f3,f4,f5⟩:=hf it (by simp)
  refine (W X.A (I.ok.hd hc)).item i s _ _ hg st fun v h' tk hv st' kk=>?_
  obtain ⟨c,u,hc1,rfl⟩:=hv
  have I1:Inv X pins σ H { s with heap:=h',toks:=tk }:=I.turned (fun b o hb e=>kk b o (by simpa using hb) e) f0 f1 f3 f4 f5
  obtain ⟨o,e,cc,d⟩:=id st'
  exact ⟨_,rfl,yp (s:={ s with heap:=h',toks:=tk }) e cc d hn ⟨.str ⟨#[c]⟩,H,I1,⟨u,rfl⟩,⟨rfl,c,hc1,rfl⟩,st',fun b hb=>(hf b hb).1⟩⟩
 done:=by
  intro X hP hw hK hc i pins s σ H E I hf st hg
  subst hP hw hK
  obtain ⟨f0,f1,f2,f3,f4,f5⟩:=hf it (by simp)
  have hg':x.cps.size <= i:=hg
  exact De X.A s i _ _ (I.ok.hd hc) st (by simp; omega) fun h' eb=>⟨rfl,I.turned (t':=s.toks) (fun b o hb e=>eb b o hb e) f0 f1 f3 f4 f5⟩
 self:=fun A i s Q E st h=>Se A i s Q E st h
noncomputable def Gf (tl:TE):TI:=fun σ H R=>tl σ H fun v H1=>∃ x,v = .str x /\ R (Its x) H1
theorem EV {X:Cx} {tg:Expr} {l:Expr} {tl:TE} (hl:PE X l tl):PI X tg l (Gf tl):=by
 intro pins s σ H R I h
 refine thn (hl pins s σ H _ I h) fun v s1 ⟨y,H1,I1,r1,q1⟩=>?_
 obtain ⟨x,e,q⟩:=q1
 subst e
 obtain ⟨t,rfl⟩:=r1
 have hf:∀ b ∈ [s1.heap.objs.size],mR X pins H1 b:=fun b hb=>by
  have e:b = s1.heap.objs.size:=by simpa using hb
  subst e
  exact I1.yU (Nat.le_refl _) (I1.hok.fresh (Nat.le_refl _))
 cases ha:x.cps.all (· < 128) with
 | false=>
   exact wpAny_pyIter_wide ha ⟨s1.heap.objs.size,[s1.heap.objs.size],_,_,H1,rfl,I1.kept (t':=s1.toks) fun b o e=>Heap.get?_push_of_some _ e,
    vN (n:="str_iterator") (x:=x) (t:=t) (by decide) (fun A' hA=>Walks.strWide hA _ x t) (fun A s i Q E hA st hx hQ=>wpAny_pyNext_wide_end hA st hx hQ) (fun A i s Q E st h=>wpAny_pyIter_striter_wide st h),⟨_,Heap.get?_push_size _ rfl,rfl,rfl⟩,hf,q⟩
 | true=>
   exact wpAny_pyIter_ascii ha ⟨s1.heap.objs.size,[s1.heap.objs.size],_,_,H1,rfl,I1.kept (t':=s1.toks) fun b o e=>Heap.get?_push_of_some _ e,
    vN (n:="str_ascii_iterator") (x:=x) (t:=t) (by decide) (fun A' hA=>Walks.strAscii hA _ x t) (fun A s i Q E hA st hx hQ=>wpAny_pyNext_ascii_end hA st hx hQ) (fun A i s Q E st h=>wpAny_pyIter_striter_ascii st h),⟨_,Heap.get?_push_size _ rfl,rfl,rfl⟩,hf,q⟩
end L2
theorem L2.E.boot_ord:PySem.bootBuiltins "ord" = some (.builtin "ord"):=by decide +kernel
namespace L2.P
open PySem PySem.Spec PyProof.Rows L2 L2.E
theorem BB {X:L2.Cx} {tg l:Expr} {tl:TE} (h:QE X l tl):QI X tg l (Gf tl):=⟨EV h.out⟩
section
variable {K:PySem.W.Frag} {cls:String -> Option Addr} {W:XW} {Av G S₀ S S' H H' B B':Hp} {ρ:ae} {σ:St} {Q:VK} {F:Nat -> List Addr}
theorem vR {tl te:TE} {ml me:ae -> OE} {ι:List Nat} (hι:ι.Nodup) (hl:JE K cls W tl ml) (he:JE K cls (fun _ _ _ _=>False) te me):JE K cls W (qb (Gf tl) ι te) (mZ ml ι me):=by
 intro Av G S₀ ρ σ S H Q I p
 refine hl.go I p fun r v S1 H1 I1 w1 r1 p1=>?_
 have ra:=r1.rd I1.sh
 cases e:r.pv with
 | str x=>
   rw [e] at p1 ra
   have hv:=iR ra
   subst hv
   refine ⟨x,rfl,?_⟩
   dsimp only at p1
   cases em:dC me (dQ ι ρ) (tZ x) with
   | exc c fs=>rw [em] at p1; exact p1.elim
   | bad=>rw [em] at p1; exact p1.elim
   | ok ys=>
     rw [em] at p1
     simp only [noX] at p1
     split at p1
     . rename_i hlen
       have hcl:(tZ x).length = x.cps.size:=by simp [tZ]
       refine ng hι he I1 em hlen (fun k H' y g hx=>?_) (fun H' g=>by show x.cps.size <= (tZ x).length; rw [hcl]; exact Nat.le_refl _) fun D S' H' w nD sD ⟨us,hD,rr⟩=>p1 (.ref D) S' H' w ⟨D,us,rfl,nD,sD,hD,rr⟩
       have hk:k < x.cps.size:=by rw [<- hcl]; exact (List.getElem?_eq_some_iff.mp hx).1
       refine ⟨hk,?_⟩
       rintro v' H2 ⟨rfl,c,hc,rfl⟩
       refine ⟨rfl,?_⟩
       have hy:y = .str ⟨#[c]⟩:=by
        unfold tZ at hx
        rw [List.getElem?_map] at hx
        have:x.cps.toList[k]? = some c:=by simpa using hc
        rw [this] at hx
        exact (Option.some.inj hx).symm
       subst hy
       unfold Rep
       rfl
     . exact p1.elim
 | _=>rw [e] at p1; exact p1.elim
theorem E8:JU K (fun xs H Q=>∃ x,xs = [.str x] /\ x.length = 1 /\ Q (.int (x.cps.getD 0 0:Nat)) H) BJ:=by
 intro S H x v rr Q I hx e k
 cases x with
 | str x=>
   by_cases hl:x.length = 1
   . have e':BJ (.str x) = some (.sh (.int (x.cps.getD 0 0:Nat))):=if_pos hl
     rw [e'] at e
     cases e
     exact ⟨x,by rw [iR hx],hl,k _ S H (bu.refl I) (by show Rep K S _ _; unfold Rep; rfl)⟩
   . have e':BJ (.str x) = none:=if_neg hl
     rw [e'] at e
     cases e
 | _=>cases e
theorem AJ:JU K (fun xs H Q=>∃ i:Int,xs = [.int i] /\ i.natAbs.log2 < 1920 /\ Q (.str (toString i)) H) mE:=by
 intro S H x v rr Q I hx e k
 cases x with
 | int i=>
   by_cases hl:i.natAbs.log2 < 1920
   . have e':mE (.int i) = some (.sh (.str (toString i))):=if_pos hl
     rw [e'] at e
     cases e
     exact ⟨i,by rw [dO hx],hl,k _ S H (bu.refl I) (by show Rep K S _ _; unfold Rep; rfl)⟩
   . have e':mE (.int i) = none:=if_neg hl
     rw [e'] at e
     cases e
 | _=>cases e
end
end L2.P
namespace HT
open PySem PyProof.Rows
end HT
namespace L2
open PySem PySem.Spec PyProof.Rows
end L2
namespace L2.P
open PySem PySem.Spec PyProof.Rows L2 L2.E
end L2.P
namespace HT
open PySem PyProof.Rows
open AutoSeq1 (wpAny_loadPart')
end HT
namespace L2
open PySem PySem.Spec PyProof.Rows
end L2
namespace L2.P
open PySem PySem.Spec PyProof.Rows L2 L2.E
end L2.P
namespace L2.P
open PySem
noncomputable def lq (kvs:List (Int × PV)) (a b:RV):OE:=match a.pv,b with
 | .int n,.sh d=>.ok (.sh ((kvs.lookup n).getD d))
 | _,_=>.bad
noncomputable def uv (kvs:List (Int × PV)) (ma mb:ae -> OE):ae -> OE:=fun ρ=>(ma ρ).bind fun a=>(mb ρ).bind fun b=>lq kvs a b
@[simp] theorem Gw (kvs:List (Int × PV)) (ma mb:ae -> OE) (ρ:ae):uv kvs ma mb ρ = (ma ρ).bind fun a=>(mb ρ).bind fun b=>lq kvs a b:=rfl
noncomputable def yH:PV -> Option RV
 | .str x=>(match x.cps.toList with
   | [c]=>if 48 <= c /\ c <= 57 then some (.sh (.int ((c:Int) - 48))) else none
   | _=>none)
 | _=>none
noncomputable def Ir:PV -> Option RV
 | .int i=>some (.sh (.int (if i < 0 then -i else i)))
 | _=>none
@[simp] theorem Je (i:Int):Ir (.int i) = some (.sh (.int (if i < 0 then -i else i))):=rfl
end L2.P
namespace L2
open PySem PySem.Spec PyProof.Rows
end L2
namespace L2.E
open PySem PySem.Spec PyProof.Rows L2
section
variable {X:Cx}
noncomputable def yl (K:PySem.W.Frag) (td te tf:TE):TE:=fun σ H Q=>td σ H fun x H1=>∃ d kvs,x = .ref d /\ DKI K d kvs /\ te σ H1 fun y H2=>tf σ H2 fun z H3=>∃ n,y = .int n /\ Q ((kvs.lookup n).getD z) H3
theorem y9 {o e f:Expr} {td te tf:TE} {apos cpos:Pos} (ho:QE X o td) (he:QE X e te) (hf:QE X f tf) (hbase:attributeBase o "get" X.env (eval o X.env) = eval o X.env:=by rfl)
  (few:((backTo cpos (starEach [e,f] X.env)).all (fun x=>!x.1) && (backToKw cpos (keywordEach [] X.env)).all (fun x=>x.1.isSome) && decide (([e,f]:List Expr).length + ([]:List Keyword).length + (if ([]:List Keyword).isEmpty then 0 else 1) <= 15)) = true:=by rfl)
  (line:(apos.endLine == cpos.line) = true:=by rfl) (trees:backTo cpos (starEach [e,f] X.env) = [(false,eval e X.env),(false,eval f X.env)]:=by rfl):QE X (.Call (.Attribute o "get" apos) [e,f] [] cpos) (yl X.K td te tf):=⟨by
 intro pins s σ H Q I h
 refine wpAny_Call_method hbase few line PySem.F.plainAttrs_dict PySem.F.slot_dict_get PySem.F.type_dict_get (thn (ho.out pins s σ H _ I h) fun u s1 ⟨x,H1,I1,rx,d,kvs,ex,D,q1⟩=>?_)
 subst ex
 obtain rfl:u = Value.ref d:=rx
 obtain ⟨us,dd,hv⟩:=D.at I1
 obtain ⟨_,nd,es,ep,hk,pr⟩:=id D
 refine ⟨dd.typeIs,fun b hb=>by cases hb; exact ⟨_,I1.kIn d _ hk,rfl⟩,?_⟩
 rw [trees]
 refine Calls.callWith_builtin rfl (Calls.evalArgs_plain (Calls.spliced_cons (thn (he.out pins s1 σ H1 _ I1 q1) fun iv s2 ⟨y,H2,I2,ry,q2⟩=>Calls.spliced_cons (thn (hf.out pins s2 σ H2 _ I2 q2) fun fv s3 ⟨z,H3,I3,rz,n,ey,q3⟩=>Calls.spliced_nil ?_))))
 subst ey
 obtain ⟨t,rfl⟩:=ry
 obtain ⟨us2,dd2,hv2⟩:=D.at I3
 refine call_meetsIn PySem.F.slot_dict_get dd2.typeIs PySem.F.entry_dict_get (PySem.F.args_dict_get_3 _ _ _) (meets_dict_get_default (intKind X.prog X.w) d (k:=n) (key:=.int n t) (by show Value.isInt n (.int n t) = true; simp [Value.isInt]) D.1 fv) ⟨_,dd2.mapOf,_,H3,I3.tok _,?_,q3⟩
 have h2:=hv2 n
 cases q:kvs.lookup n with
 | none=>rw [q] at h2; rw [h2]; exact rz
 | some v=>rw [q] at h2; obtain ⟨u,e,r⟩:=h2; rw [e]; exact r⟩
end
end L2.E
namespace L2.P
open PySem PySem.Spec PyProof.Rows L2 L2.E
section
variable {K:PySem.W.Frag} {cls:String -> Option Addr} {W:XW} {S:Hp}
theorem zp {d:Addr} {kvs:List (Int × PV)} {ta tb:TE} {ma mb:ae -> OE} (D:DKP K d kvs) (ha:JE K cls W ta ma) (hb:JE K cls W tb mb):JE K cls W (yl K (tC (.ref d)) ta tb) (uv kvs ma mb):=by
 intro Av G S₀ ρ σ S H Q I p
 obtain ⟨us,D1,pr⟩:=D
 refine ⟨d,us,rfl,D1,?_⟩
 refine ha.go I p fun a v S1 H1 I1 w1 r1 p1=>hb.go I1 p1 fun b u S2 H2 I2 w2 r2 p2=>?_
 have ra:=(r1.rd I1.sh).mono w2.s w2.g
 cases e:a.pv with
 | int n=>
   rw [e] at ra
   have:=DKP.look (d:=d) pr n
   cases b with
   | fr xs=>unfold lq at p2; rw [e] at p2; exact p2.elim
   | al xs=>unfold lq at p2; rw [e] at p2; exact p2.elim
   | sh x=>
     unfold lq at p2
     rw [e] at p2
     refine ⟨n,dO ra,?_⟩
     cases q:kvs.lookup n with
     | none=>
       simp only [q] at p2 this
       rw [this]
       exact p2 _ S2 H2 (bu.refl I2.sh) r2
     | some y=>
       simp only [q] at p2 this
       obtain ⟨u,eu,hr⟩:=this
       rw [eu]
       exact p2 _ S2 H2 (bu.refl I2.sh) (hr S2)
 | _=>unfold lq at p2; rw [e] at p2; exact p2.elim
end
end L2.P
namespace L2.E
open PySem PySem.Spec PyProof.Rows L2
end L2.E
namespace L2.P
open PySem PySem.Spec PyProof.Rows L2 L2.E
end L2.P
namespace L2.E
open PySem PySem.Spec PyProof.Rows L2
end L2.E
namespace L2.P
open PySem PySem.Spec PyProof.Rows L2 L2.E
end L2.P
namespace L2.E
open PySem PySem.Spec PyProof.Rows L2
theorem zq {X:Cx}:mw X (.type "int") (fun xs H Q=>∃ x n,xs = [.str x] /\ PySem.intText? x = some n /\ x.length <= 640 /\ Q (.int n) H):=by
 intro pins s σ H xs us Q I r h
 obtain ⟨x,n,rfl,h1,h2,q⟩:=h
 obtain ⟨u,rfl,t,rfl⟩:=vals1 r
 exact PySem.W.KIN.call_text h1 h2 ⟨.int n,H,I.tok _,⟨_,rfl⟩,q⟩
theorem xj {x:Str} {c:Nat} (h:x.cps.toList = [c]) (h1:48 <= c) (h2:c <= 57):PySem.intText? x = some ((c:Int) - 48) /\ x.length <= 640:=by
 have e:x = ⟨#[c]⟩:=by
  cases x with
  | mk a=>cases a with
    | mk l=>simp at h; subst h; rfl
 subst e
 refine ⟨?_,by show 1 <= 640; decide⟩
 have hc:c = 48 \/ c = 49 \/ c = 50 \/ c = 51 \/ c = 52 \/ c = 53 \/ c = 54 \/ c = 55 \/ c = 56 \/ c = 57:=by omega
 rcases hc with rfl | rfl | rfl | rfl | rfl | rfl | rfl | rfl | rfl | rfl <;> decide +kernel
end L2.E
namespace L2.P
open PySem PySem.Spec PyProof.Rows L2 L2.E
theorem B8 {K:PySem.W.Frag}:JU K (fun xs H Q=>∃ x n,xs = [.str x] /\ PySem.intText? x = some n /\ x.length <= 640 /\ Q (.int n) H) yH:=by
 intro S H x v rr Q sh r e k
 cases x with
 | str z=>
   have hv:v = .str z:=by have r':Rep K S (.str z) v:=r; unfold Rep at r'; exact r'
   subst hv
   unfold yH at e
   dsimp only at e
   split at e
   . rename_i c hc
     split at e
     . rename_i h
       cases e
       obtain ⟨h1,h2⟩:=xj hc h.1 h.2
       exact ⟨z,_,rfl,h1,h2,k _ S H (bu.refl sh) (by show Rep K S _ _; unfold Rep; rfl)⟩
     . cases e
   . cases e
 | _=>cases e
end L2.P
namespace PG
noncomputable def cell (ns:List Int) (k:Int):Int:=if ns = [] then 0 else ns.getD (k % (ns.length:Int)).toNat 0
noncomputable def mix (ns:List Int) (k:Int):Int:=
 let a:=(cell ns k + 104729 * (k + 1)) % 4294967291
 let b:=a * 48271 % 4294967279
 (b / 64 * 69621 + b) % 4294967231
noncomputable def menu:List Int:=[34,92,47,8,12,10,13,9,0,31,127]
noncomputable def point (n:Int):Int:=
 if n % 8 < 2 then 32 + n / 8 % 95 else if n % 8 < 4 then menu.getD (n / 8 % 11).toNat 0 else if n % 8 = 4 then 128 + n / 8 % 1920
 else if n % 8 = 5 then 2048 + n / 8 % 53248 else if n % 8 = 6 then 57344 + n / 8 % 8192 else 65536 + n / 8 % 1048576
theorem qR (ns:List Int) (k:Int):0 <= mix ns k /\ mix ns k < 4294967231:=by unfold mix; dsimp only; omega
end PG
namespace PG
noncomputable def IF (b:Int):Int × Int:=if b = 224 then (160,191) else if b = 237 then (128,159) else (128,191)
noncomputable def Jk (b:Int):Int × Int:=if b = 240 then (144,191) else if b = 244 then (128,143) else (128,191)
noncomputable def spans (b:Int):Option (List (Int × Int)):=if 0 <= b /\ b < 128 then some [] else if 194 <= b /\ b < 224 then some [(128,191)] else if 224 <= b /\ b < 240 then some [IF b,(128,191)] else if 240 <= b /\ b < 245 then some [Jk b,(128,191),(128,191)] else none
noncomputable def mark (k:Nat):Int:=[0,192,224,240].getD k 0
noncomputable def val (b:Int) (cs:List Int):Int:=cs.foldl (fun n c=>n * 64 + c - 128) (b - mark cs.length)
end PG
namespace L2.P
open PySem
@[simp] theorem DB (s:String):(Str.ofString s).cps.all (· < 0x110000) = true:=by
  rw [Str.ofString_eq_toList,List.all_toArray,List.all_map]
  rw [List.all_eq_true]
  intro c _
  have:=c.valid
  simp only [Function.comp,decide_eq_true_eq]
  rcases this with h | ⟨_,h⟩
  . exact Nat.lt_of_lt_of_le h (by decide)
  . exact h
theorem toNat_inj:∀ (xs ys:List Char),xs.map Char.toNat = ys.map Char.toNat -> xs = ys
 | [],[],_=>rfl
 | [],_ ::_,h=>by cases h
 | _ ::_,[],h=>by cases h
 | x ::xs,y ::ys,h=>by
   rw [List.map_cons,List.map_cons] at h
   injection h with h1 h2
   have:x = y:=Char.ext (UInt32.toNat_inj.mp h1)
   rw [this,toNat_inj xs ys h2]
theorem aH (a b:String):Str.ofString a = Str.ofString b ↔ a = b:=by
 constructor
 . intro h
   rw [Str.ofString_eq_toList,Str.ofString_eq_toList] at h
   injection h with h
   have h2:a.toList.map Char.toNat = b.toList.map Char.toNat:=by
    have:=congrArg Array.toList h
    simpa using this
   exact String.toList_inj.mp (toNat_inj _ _ h2)
 . intro h; rw [h]
@[simp] theorem Cq (a b:String):(Str.ofString a == Str.ofString b) = decide (a = b):=by
  by_cases h:a = b
  . subst h; simp
  . have:Str.ofString a ≠ Str.ofString b:=fun z=>h ((aH a b).mp z)
    simp [h,this]
@[simp] theorem Hx (a b:String):eV (.str (Str.ofString a)) (.str (Str.ofString b)) = decide (a = b):=by simp [eV]
@[simp] theorem Jl (a:String) (n:Nat):oK (.str (Str.ofString a)) n = true:=by simp [oK]
end L2.P
namespace L2.P
open PySem
theorem FO (n:Nat):ixP (n + 1) (-1) = some n:=by
 unfold ixP
 rw [if_neg (by decide),if_pos (by omega)]
 congr 1
 omega
@[simp] theorem get_nil (t:OV):t.get [] = some t:=by cases t <;> rfl
@[simp] theorem Ca (t u:OV):t.put [] u = u:=by cases t <;> rfl
theorem v9 {ρ:ae} {i:Nat} {io:Bool} {ts:List OV} {md:ae -> OD} {x:OV} (h:ρ[i]? = some (some (.tr io (.ol ts)))) (hd:md ρ = .ok x) (hl:ts.length < lim):
  mI i fe md ρ = .nx (ρ.set i (some (.tr io (.ol (ts ++ [x]))))):=by
 unfold mI wQ fe
 rw [h]
 simp only [get_nil]
 rw [hd]
 simp only [hl,if_true,Ca]
end L2.P
namespace L2.P
open PySem
section
variable {ρ:ae} {i:Nat} {io:Bool} {init us:List OV} {x:PV}
theorem Dj (n k:Nat) (h:k < n):ixP n (k:Int) = some k:=by
 unfold ixP
 rw [if_pos (by omega),if_pos (by omega)]
 simp
end
theorem Aa {ρ:ae} {i:Nat} {io:Bool} {ts:List OV} {x:OV} (h:ρ[i]? = some (some (.tr io (.ol (ts ++ [x]))))):nP i fe ρ = .ok (ρ.set i (some (.tr io (.ol ts)))) (slO x):=by
 unfold nP fe
 rw [h]
 simp
end L2.P
namespace PG
open L2.P PySem
inductive It where
 | sp (lo hi:Int) | white | value | lead | figures | fraction | exponent | sign | text | escape | code | coded | hex | hexd | hexcf | row | mrow | fields | mfields | name
 deriving DecidableEq
noncomputable def ba:It -> PV
 | .sp lo hi=>.tup [.int lo,.int hi]
 | .white=>.str "white" | .value=>.str "value" | .lead=>.str "lead" | .figures=>.str "figures" | .fraction=>.str "fraction" | .exponent=>.str "exponent" | .sign=>.str "sign"
 | .text=>.str "text" | .escape=>.str "escape" | .code=>.str "code" | .coded=>.str "code d" | .hex=>.str "hex" | .hexd=>.str "hex d" | .hexcf=>.str "hex c to f"
 | .row=>.str "row" | .mrow=>.str "more row" | .fields=>.str "fields" | .mfields=>.str "more fields" | .name=>.str "name"
noncomputable def loose:It -> Bool
 | .white=>true | .figures=>true | .fraction=>true | .exponent=>true | .sign=>true
 | _=>false
noncomputable def opn:It -> Bool
 | .row=>true | .mrow=>true | .fields=>true | .mfields=>true
 | _=>false
noncomputable def wht (b:Int):Bool:=decide (9 = b) || (decide (10 = b) || (decide (13 = b) || decide (32 = b)))
noncomputable def fig (b:Int):Bool:=decide (48 <= b) && decide (b <= 57)
noncomputable def nr (b:Int):Option Int:=if 48 <= b /\ b <= 57 then some (b - 48) else if 65 <= b /\ b <= 70 then some (b - 55) else if 97 <= b /\ b <= 102 then some (b - 87) else none
noncomputable def jR (b:Int):Option (List It):=if b = 48 then some [.fraction,.exponent] else if 48 <= b /\ b <= 57 then some [.figures,.fraction,.exponent] else none
noncomputable def jN (b:Int):Option (List It):=
 if b = 91 then some [.white,.row] else if b = 123 then some [.white,.fields] else if b = 34 then some [.text] else if b = 45 then some [.lead]
 else if b = 110 then some [.sp 117 117,.sp 108 108,.sp 108 108] else if b = 116 then some [.sp 114 114,.sp 117 117,.sp 101 101] else if b = 102 then some [.sp 97 97,.sp 108 108,.sp 115 115,.sp 101 101]
 else jR b
noncomputable def rp:List It:=[.white,.sp 58 58,.white,.value,.white,.mfields]
noncomputable def tls (b:Int):Option (List It):=
 if 0 <= b /\ b < 128 then some [] else if 194 <= b /\ b < 224 then some [.sp 128 191]
 else if 224 <= b /\ b < 240 then some [if b = 224 then .sp 160 191 else if b = 237 then .sp 128 159 else .sp 128 191,.sp 128 191]
 else if 240 <= b /\ b < 245 then some [if b = 240 then .sp 144 191 else if b = 244 then .sp 128 143 else .sp 128 191,.sp 128 191,.sp 128 191]
 else none
noncomputable def r9 (b:Int):Option (List It):=if b = 34 then some [] else if b = 92 then some [.escape,.text] else if b < 32 then none else (tls b).map (· ++ [.text])
noncomputable def uZ (b:Int):Bool:=b = 34 || b = 92 || b = 47 || b = 98 || b = 102 || b = 110 || b = 114 || b = 116
noncomputable def BK (b:Int):Option (List It):=if b = 117 then some [.code] else if uZ b then some [] else none
noncomputable def BL (w:Int):Option (List It):=if w < 8 then some [.hex,.hex] else if w < 12 then some [.hex,.hex,.sp 92 92,.sp 117 117,.hexd,.hexcf,.hex,.hex] else none
noncomputable def bh:It -> Int -> Option (List It)
 | .sp lo hi,b=>if lo <= b /\ b <= hi then some [] else none
 | .white,b=>if wht b then some [.white] else none
 | .value,b=>jN b
 | .lead,b=>jR b
 | .figures,b=>if 48 <= b /\ b <= 57 then some [.figures] else none
 | .fraction,b=>if b = 46 then some [.sp 48 57,.figures] else none
 | .exponent,b=>if b = 101 \/ b = 69 then some [.sign,.sp 48 57,.figures] else none
 | .sign,b=>if b = 43 \/ b = 45 then some [] else none
 | .text,b=>r9 b
 | .escape,b=>BK b
 | .code,b=>(nr b).bind fun w=>if w = 13 then some [.coded] else some [.hex,.hex,.hex]
 | .coded,b=>(nr b).bind BL
 | .hex,b=>(nr b).map fun _=>[]
 | .hexd,b=>(nr b).bind fun w=>if w = 13 then some [] else none
 | .hexcf,b=>(nr b).bind fun w=>if 12 <= w then some [] else none
 | .row,b=>if b = 93 then some [] else (jN b).map (· ++ [.white,.mrow])
 | .mrow,b=>if b = 44 then some [.white,.value,.white,.mrow] else if b = 93 then some [] else none
 | .fields,b=>if b = 125 then some [] else if b = 34 then some (.text ::rp) else none
 | .mfields,b=>if b = 44 then some (.white ::.name ::rp) else if b = 125 then some [] else none
 | .name,b=>if b = 34 then some [.text] else none
noncomputable def cnt (st:List It):Nat:=(st.filter opn).length
noncomputable def gon:List It -> Int -> List It × Bool
 | [],_=>([],false)
 | it ::st,b=>match bh it b with
   | some l=>(l ++ st,decide (cnt (l ++ st) <= 64))
   | none=>if loose it then gon st b else (st,false)
noncomputable def tk:List It -> List Int -> List It × Nat
 | st,[]=>(st,0)
 | st,b ::r=>if (gon st b).2 then ((tk (gon st b).1 r).1,(tk (gon st b).1 r).2 + 1) else ((gon st b).1,0)
noncomputable def st0:List It:=[.white,.value,.white]
noncomputable def flt (row:List Int):Option Nat:=if (tk st0 row).2 = row.length /\ (tk st0 row).1.all loose = true then none else some (tk st0 row).2
noncomputable def wk (st:List It):OV:=.ob "Walk" ["coming"] [.ol ((st.reverse.map ba).map .sh)]
theorem zZ (it:It) (b:Int) (l:List It) (h:bh it b = some l):l.length <= 8:=by
 have hv:∀ l,jN b = some l -> l.length <= 5:=by
  intro l h
  unfold jN jR at h
  repeat' split at h
  all_goals (first | (cases h; done) | (injection h with h; subst h; decide))
 have ht:∀ l,tls b = some l -> l.length <= 5:=by
  intro l h
  unfold tls at h
  repeat' split at h
  all_goals (first | (cases h; done) | (injection h with h; subst h; simp))
 cases it with
 | value=>exact Nat.le_trans (hv l h) (by decide)
 | row=>
   simp only [bh] at h
   split at h
   . injection h with h; subst h; decide
   . cases e:jN b with
     | none=>rw [e] at h; cases h
     | some l'=>rw [e] at h; injection h with h; subst h; have:=hv l' e; simp; omega
 | text=>
   simp only [bh,r9] at h
   repeat' split at h
   all_goals first | (cases h; done) | (injection h with h; subst h; decide) | skip
   cases e:tls b with
   | none=>rw [e] at h; cases h
   | some l'=>rw [e] at h; injection h with h; subst h; have:=ht l' e; simp; omega
 | code=>
   simp only [bh] at h
   cases e:nr b with
   | none=>rw [e] at h; cases h
   | some w=>rw [e] at h; simp only [Option.bind_some] at h; split at h <;> (injection h with h; subst h; decide)
 | coded=>
   simp only [bh] at h
   cases e:nr b with
   | none=>rw [e] at h; cases h
   | some w=>
     rw [e] at h; simp only [Option.bind_some,BL] at h
     repeat' split at h
     all_goals first | (cases h; done) | (injection h with h; subst h; decide)
 | hex=>
   simp only [bh] at h
   cases e:nr b with
   | none=>rw [e] at h; cases h
   | some w=>rw [e] at h; injection h with h; subst h; simp
 | hexd=>
   simp only [bh] at h
   cases e:nr b with
   | none=>rw [e] at h; cases h
   | some w=>rw [e] at h; simp only [Option.bind_some] at h; split at h <;> first | (cases h; done) | (injection h with h; subst h; decide)
 | hexcf=>
   simp only [bh] at h
   cases e:nr b with
   | none=>rw [e] at h; cases h
   | some w=>rw [e] at h; simp only [Option.bind_some] at h; split at h <;> first | (cases h; done) | (injection h with h; subst h; decide)
 | _=>
   simp only [bh,jR,BK,rp] at h
   repeat' split at h
   all_goals first | (cases h; done) | (injection h with h; subst h; decide)
theorem ye (st:List It) (b:Int):(gon st b).1.length <= st.length + 8:=by
 induction st with
 | nil=>simp [gon]
 | cons it st ih=>
   unfold gon
   cases e:bh it b with
   | some l=>have:=zZ it b l e; simp; omega
   | none=>
     dsimp only
     split
     . simp; omega
     . simp; omega
end PG
namespace PG
noncomputable def hv (b:Int):Int:=(nr b).getD 0
theorem cnt_cons (it:It) (st:List It):cnt (it ::st) = (if opn it then 1 else 0) + cnt st:=by
 unfold cnt
 cases e:opn it <;> simp [e]
 omega
theorem CY (l st:List It):cnt (l ++ st) = cnt l + cnt st:=by
 unfold cnt; rw [List.filter_append,List.length_append]
theorem Cm {st st':List It} {b:Int} {r:List Int} (h:gon st b = (st',true)):tk st (b ::r) = ((tk st' r).1,(tk st' r).2 + 1):=by
 simp [tk,h]
theorem CM {it:It} {st l:List It} {b:Int} {r:List Int} (h:bh it b = some l) (hl:cnt l = 0) (hc:cnt st <= 64):tk (it ::st) (b ::r) = ((tk (l ++ st) r).1,(tk (l ++ st) r).2 + 1):=by
 refine Cm ?_
 have:cnt (l ++ st) <= 64:=by rw [CY]; omega
 simp [gon,h,this]
theorem Cz {it:It} {st:List It} {b:Int} {r:List Int} (h:bh it b = none) (hl:loose it = true):tk (it ::st) (b ::r) = tk st (b ::r):=by
 simp [tk,gon,h,hl]
noncomputable def Goes (st:List It) (bs:List Int) (st':List It):Prop:=∀ r,tk st (bs ++ r) = ((tk st' r).1,(tk st' r).2 + bs.length)
theorem Goes.nil (st:List It):Goes st [] st:=fun r=>by simp
theorem Goes.trans {a b c:List It} {xs ys:List Int} (h:Goes a xs b) (k:Goes b ys c):Goes a (xs ++ ys) c:=fun r=>by
 rw [List.append_assoc,h,k,List.length_append]
 congr 1
 omega
theorem Goes.step {it:It} {st l st':List It} {b:Int} {bs:List Int} (h:bh it b = some l) (hl:cnt l = 0) (hc:cnt st <= 64) (k:Goes (l ++ st) bs st'):Goes (it ::st) (b ::bs) st':=fun r=>by
 rw [List.cons_append,CM h hl hc,k,List.length_cons]
 congr 1
theorem Goes.skip {it:It} {st st':List It} {b:Int} {bs:List Int} (h:bh it b = none) (hl:loose it = true) (k:Goes st (b ::bs) st'):Goes (it ::st) (b ::bs) st':=fun r=>by
 rw [List.cons_append,Cz h hl,<- List.cons_append,k]
theorem Goes.flt {row:List Int} {st:List It} (h:Goes st0 row st) (hl:st.all loose = true):flt row = none:=by
 have e:=h []
 rw [List.append_nil] at e
 unfold PG.flt
 rw [e]
 simp [tk,hl]
end PG
namespace PG
noncomputable abbrev isF (b:Int):Prop:=48 <= b /\ b <= 57
noncomputable def cV (n:Nat):List Int:=if n < 10 then [48 + (n:Int)] else cV (n / 10) ++ [48 + ((n % 10:Nat):Int)]
termination_by n
decreasing_by omega
noncomputable def dz (n:Nat):List Int:=if n = 0 then [] else cV n
theorem Gb (n:Nat):cV n = dz (n / 10) ++ [48 + ((n % 10:Nat):Int)]:=by
 rw [cV]
 unfold dz
 by_cases h:n < 10
 . rw [if_pos h,if_pos (by omega),Nat.mod_eq_of_lt h]; rfl
 . rw [if_neg h,if_neg (by omega)]
theorem vU (n:Nat):∀ b ∈ cV n,isF b:=by
 induction n using Nat.strongRecOn with
 | _ n ih=>
   intro b hb
   rw [cV] at hb
   split at hb
   . simp at hb; unfold isF; omega
   . rcases List.mem_append.mp hb with z | z
     . exact ih (n / 10) (by omega) b z
     . simp at z; unfold isF; omega
theorem Ck (n:Nat):cV n ≠ []:=by rw [Gb]; simp
theorem zD (n:Nat) (h:0 < n):∃ d r,cV n = d ::r /\ 49 <= d /\ d <= 57 /\ ∀ b ∈ r,isF b:=by
 induction n using Nat.strongRecOn with
 | _ n ih=>
   rw [cV]
   split
   . exact ⟨48 + (n:Int),[],rfl,by omega,by omega,fun b hb=>by cases hb⟩
   . obtain ⟨d,r,e,h1,h2,h3⟩:=ih (n / 10) (by omega) (by omega)
     rw [e]
     refine ⟨d,r ++ [48 + ((n % 10:Nat):Int)],rfl,h1,h2,fun b hb=>?_⟩
     rcases List.mem_append.mp hb with z | z
     . exact h3 b z
     . simp at z; unfold isF; omega
theorem zy:cV 0 = [48]:=by rw [cV]; rfl
theorem mM (k:Nat):∀ n:Nat,n < 10 ^ (k + 1) -> (cV n).length <= k + 1:=by
 induction k with
 | zero=>intro n h; rw [cV,if_pos (by simpa using h)]; simp
 | succ k ih=>
   intro n h
   rw [cV]
   split
   . simp
   . have:n / 10 < 10 ^ (k + 1):=by rw [Nat.pow_succ] at h; omega
     have:=ih (n / 10) this
     simp; omega
noncomputable def cv (ds:List Int):Int:=ds.foldl (fun n d=>10 * n + d - 48) 0
theorem uw (ds:List Int) (d:Int):cv (ds ++ [d]) = 10 * cv ds + d - 48:=by simp [cv]
theorem Ci (n:Nat):cv (cV n) = n:=by
 induction n using Nat.strongRecOn with
 | _ n ih=>
   rw [cV]
   split
   . simp [cv]; omega
   . rw [uw,ih (n / 10) (by omega)]; omega
structure Nm where
 neg:Bool
 ip:List Int
 fr:List Int
 ex:Option (Int × List Int × List Int)
noncomputable def frB (fr:List Int):List Int:=if fr = [] then [] else 46 ::fr
noncomputable def exB:Option (Int × List Int × List Int) -> List Int
 | none=>[]
 | some (e,s,ds)=>e ::(s ++ ds)
noncomputable def nb (m:Nm):List Int:=(if m.neg then [45] else []) ++ (m.ip ++ (frB m.fr ++ exB m.ex))
structure Nok (m:Nm):Prop where
 ip:(m.ip = [48]) \/ ∃ d r,m.ip = d ::r /\ 49 <= d /\ d <= 57 /\ ∀ b ∈ r,isF b
 fr:∀ b ∈ m.fr,isF b
 ex:∀ e s ds,m.ex = some (e,s,ds) -> (e = 101 \/ e = 69) /\ (s = [] \/ s = [43] \/ s = [45]) /\ ds ≠ [] /\ ∀ b ∈ ds,isF b
noncomputable def nl:It -> Bool
 | .figures=>true | .fraction=>true | .exponent=>true
 | _=>false
theorem pj {st:List It} (hc:cnt st <= 64) (ds:List Int) (h:∀ b ∈ ds,isF b):Goes (.figures ::st) ds (.figures ::st):=by
 induction ds with
 | nil=>exact .nil _
 | cons d ds ih=>
   refine Goes.step (l:=[.figures]) ?_ rfl hc (ih fun b hb=>h b (List.mem_cons_of_mem _ hb))
   have:=h d List.mem_cons_self
   simp only [bh]
   rw [if_pos this]
theorem rD {m:Nm} (h:Nok m) {st:List It} (hc:cnt st <= 64):∃ ls,ls.all nl = true /\ Goes (.value ::st) (nb m) (ls ++ st):=by
 have n1:∀ it:It,opn it = false -> ∀ st,cnt st <= 64 -> cnt (it ::st) <= 64:=fun it ho st h=>by rw [cnt_cons,ho]; simp; omega
 have hlead:∃ ls,(ls = [.fraction,.exponent] \/ ls = [.figures,.fraction,.exponent]) /\ Goes (.lead ::st) m.ip (ls ++ st) /\ ∀ b r,m.ip = b ::r -> bh .value b = bh .lead b:=by
  rcases h.ip with e | ⟨d,r,e,h1,h2,h3⟩
  . exact ⟨_,.inl rfl,by rw [e]; exact Goes.step (l:=[.fraction,.exponent]) rfl rfl hc (.nil _),fun b r e2=>by rw [e] at e2; cases e2; rfl⟩
  . refine ⟨_,.inr rfl,?_,fun b r' e2=>?_⟩
    . rw [e]
      refine Goes.step (l:=[.figures,.fraction,.exponent]) ?_ rfl hc ?_
      . simp only [bh,jR]
        rw [if_neg (by omega),if_pos (by omega)]
      . exact pj (n1 _ rfl _ (n1 _ rfl _ hc)) r h3
    . rw [e] at e2
      cases e2
      simp only [bh,jN]
      rw [if_neg (by omega),if_neg (by omega),if_neg (by omega),if_neg (by omega),if_neg (by omega),if_neg (by omega),if_neg (by omega)]
 obtain ⟨ls,hls,g1,g2⟩:=hlead
 have g3:Goes (.value ::st) ((if m.neg then [45] else []) ++ m.ip) (ls ++ st):=by
  cases m.neg with
  | true=>exact Goes.step (l:=[.lead]) rfl rfl hc g1
  | false=>
    rw [if_neg (by decide),List.nil_append]
    rcases h.ip with e | ⟨d,r,e,_⟩
    . intro q
      have e1:=g1 q
      have e2:=g2 48 [] e
      rw [e] at e1 ⊢
      rw [<- e1]
      simp [tk,gon,e2,loose]
    . intro q
      have e1:=g1 q
      have e2:=g2 d r e
      have ne:∃ l,bh .lead d = some l:=by
       rw [e] at e1
       cases e3:bh .lead d with
       | some l=>exact ⟨l,rfl⟩
       | none=>simp [tk,gon,e3,loose] at e1
      obtain ⟨l,hl⟩:=ne
      rw [e] at e1 ⊢
      rw [<- e1]
      simp [tk,gon,e2,hl]
 have g4:∃ ls',(ls' = [.figures,.exponent] \/ ls' = [.fraction,.exponent] \/ ls' = [.figures,.fraction,.exponent]) /\ Goes (ls ++ st) (frB m.fr) (ls' ++ st):=by
  unfold frB
  cases e:m.fr with
  | nil=>
    rw [if_pos rfl]
    refine ⟨ls,?_,.nil _⟩
    rcases hls with z | z
    . exact .inr (.inl z)
    . exact .inr (.inr z)
  | cons d ds=>
    rw [if_neg (by simp)]
    have hf:=h.fr
    rw [e] at hf
    refine ⟨_,.inl rfl,?_⟩
    have base:Goes (.fraction ::.exponent ::st) (46 ::d ::ds) (.figures ::.exponent ::st):=by
     refine Goes.step (l:=[.sp 48 57,.figures]) rfl rfl (n1 _ rfl _ hc) (Goes.step (l:=[]) ?_ rfl (n1 _ rfl _ (n1 _ rfl _ hc)) (pj (n1 _ rfl _ hc) ds fun b hb=>hf b (List.mem_cons_of_mem _ hb)))
     have:=hf d List.mem_cons_self
     simp only [bh]
     rw [if_pos this]
    rcases hls with z | z
    . subst z; exact base
    . subst z; exact Goes.skip rfl rfl base
 obtain ⟨ls',hls',g5⟩:=g4
 have g6:∃ ls2,ls2.all nl = true /\ Goes (ls' ++ st) (exB m.ex) (ls2 ++ st):=by
  cases e:m.ex with
  | none=>
    refine ⟨ls',?_,.nil _⟩
    rcases hls' with z | z | z <;> (subst z; rfl)
  | some x=>
    obtain ⟨eb,s,ds⟩:=x
    obtain ⟨he,hs,hd,hf⟩:=h.ex eb s ds e
    refine ⟨[.figures],rfl,?_⟩
    have base:Goes (.exponent ::st) (eb ::(s ++ ds)) (.figures ::st):=by
     refine Goes.step (l:=[.sign,.sp 48 57,.figures]) (by rcases he with rfl | rfl <;> rfl) rfl hc ?_
     obtain ⟨d,r,ed⟩:∃ d r,ds = d ::r:=by
      cases ds with
      | nil=>exact absurd rfl hd
      | cons d r=>exact ⟨d,r,rfl⟩
     subst ed
     have hd1:=hf d List.mem_cons_self
     have tail:Goes (.sp 48 57 ::.figures ::st) (d ::r) (.figures ::st):=by
      refine Goes.step (l:=[]) ?_ rfl (n1 _ rfl _ hc) (pj hc r fun b hb=>hf b (List.mem_cons_of_mem _ hb))
      simp only [bh]
      rw [if_pos hd1]
     rcases hs with rfl | rfl | rfl
     . refine Goes.skip ?_ rfl tail
       unfold isF at hd1
       simp only [bh]
       rw [if_neg (by omega)]
     . exact Goes.step (l:=[]) rfl rfl (n1 _ rfl _ (n1 _ rfl _ hc)) tail
     . exact Goes.step (l:=[]) rfl rfl (n1 _ rfl _ (n1 _ rfl _ hc)) tail
    have k1:bh .figures eb = none:=by rcases he with rfl | rfl <;> rfl
    have k2:bh .fraction eb = none:=by rcases he with rfl | rfl <;> rfl
    rcases hls' with z | z | z
    . subst z; exact Goes.skip k1 rfl base
    . subst z; exact Goes.skip k2 rfl base
    . subst z; exact Goes.skip k1 rfl (Goes.skip k2 rfl base)
 obtain ⟨ls2,hl2,g7⟩:=g6
 refine ⟨ls2,hl2,?_⟩
 have:=g3.trans (g5.trans g7)
 unfold nb
 simpa using this
theorem sC {ls st st':List It} {b:Int} {bs:List Int} (h:ls.all nl = true) (hb:bh .figures b = none /\ bh .fraction b = none /\ bh .exponent b = none) (k:Goes st (b ::bs) st'):Goes (ls ++ st) (b ::bs) st':=by
 induction ls with
 | nil=>exact k
 | cons it ls ih=>
   simp only [List.all_cons,Bool.and_eq_true] at h
   cases it with
   | figures=>exact Goes.skip hb.1 rfl (ih h.2)
   | fraction=>exact Goes.skip hb.2.1 rfl (ih h.2)
   | exponent=>exact Goes.skip hb.2.2 rfl (ih h.2)
   | _=>exact absurd h.1 (by simp [nl])
theorem BN {ls:List It} (h:ls.all nl = true):ls.all loose = true:=by
 rw [List.all_eq_true] at h ⊢
 intro it hi
 have:=h it hi
 cases it <;> first | rfl | (exact absurd this (by simp [nl]))
theorem CV {m:Nm} (h:Nok m):flt (nb m) = none:=by
 obtain ⟨ls,hl,g⟩:=rD h (st:=[.white]) (by decide)
 refine Goes.flt (st:=ls ++ [.white]) ?_ (by rw [List.all_append,BN hl]; rfl)
 have hne:∃ b r,nb m = b ::r /\ bh .white b = none:=by
  unfold nb
  cases m.neg with
  | true=>exact ⟨45,_,rfl,rfl⟩
  | false=>
    rcases h.ip with e | ⟨d,r,e,h1,h2,h3⟩
    . rw [e]; exact ⟨48,_,rfl,rfl⟩
    . rw [e]
      refine ⟨d,_,rfl,?_⟩
      simp only [bh]
      have:wht d = false:=by
       unfold wht
       simp only [Bool.or_eq_false_iff,decide_eq_false_iff_not]
       omega
      rw [this]; rfl
 obtain ⟨b,r,e,hw⟩:=hne
 rw [e] at g ⊢
 exact Goes.skip hw rfl g
noncomputable def plb (b:Int):Prop:=isF b \/ b = 45 \/ b = 43 \/ b = 46 \/ b = 101 \/ b = 69
theorem mS {m:Nm} (h:Nok m):∀ b ∈ nb m,plb b:=by
 intro b hb
 unfold nb at hb
 rcases List.mem_append.mp hb with z | z
 . split at z
   . simp at z; exact .inr (.inl z)
   . cases z
 . rcases List.mem_append.mp z with z | z
   . left
     rcases h.ip with e | ⟨d,r,e,h1,h2,h3⟩
     . rw [e] at z; simp at z; unfold isF; omega
     . rw [e] at z
       rcases List.mem_cons.mp z with y | y
       . unfold isF; omega
       . exact h3 b y
   . rcases List.mem_append.mp z with z | z
     . unfold frB at z
       split at z
       . cases z
       . rcases List.mem_cons.mp z with y | y
         . exact .inr (.inr (.inr (.inl y)))
         . exact .inl (h.fr b y)
     . cases e:m.ex with
       | none=>rw [e] at z; cases z
       | some x=>
         obtain ⟨eb,s,ds⟩:=x
         obtain ⟨he,hs,hd,hf⟩:=h.ex eb s ds e
         rw [e] at z
         rcases List.mem_cons.mp z with y | y
         . subst y; rcases he with y | y
           . exact .inr (.inr (.inr (.inr (.inl y))))
           . exact .inr (.inr (.inr (.inr (.inr y))))
         . rcases List.mem_append.mp y with y | y
           . rcases hs with rfl | rfl | rfl
             . cases y
             . simp at y; exact .inr (.inr (.inl y))
             . simp at y; exact .inr (.inl y)
           . exact .inl (hf b y)
end PG
namespace L2.plainglass_k17_numbers_exact
open PySem L2.P
noncomputable def gT (c:String):Option Bool:=if c = "GlassError" then some true else if c = "Fault" then some true else if c = "NoNode" then some true else none
noncomputable def lO (c:String):Bool:=c == "Walk"
noncomputable def hU:ae -> OT:=
    (aP (mOp gEq (mOp d9 (ak 0) (mC (.int 10))) (mC (.int 0))))
noncomputable def iZ:ae -> OS:=
    (aR (bN 0 (mOp gU (ak 0) (mC (.int 10))))
    (bN 1 (mOp gb (ak 1) (mC (.int 1)))))
noncomputable def nK:ae -> OS:=
    (bt (gA (ah (ak 0) (ah (ak 1) aE))))
noncomputable def nR:ae -> OS:=
    (aR (cC hU
    iZ fuel)
    nK)
noncomputable def je:ae -> OS:=
    (aR (bR (aP (mOp gEq (ak 0) (mC (.int 0))))
    (bt (gA (ah (mC (.int 0)) (ah (mC (.int 0)) aE))))
    bc)
    nR)
noncomputable def eJ:List PV -> OE:=fnP 2 2 je
noncomputable def gK:ae -> OE:=
    (mUn yH (ak 0))
noncomputable def iG:ae -> OE:=
    (mOp gb (mC (.int 48)) (ak 0))
noncomputable def fD:ae -> OS:=
    (bN 4 (mOp gb (mOp uT (ak 4) (mC (.int 10))) (ak 5)))
noncomputable def gy:ae -> OS:=
    (aR (ef 3 (mOp gb (mC (.int 48)) (ak 5)))
    (aR (bN 4 (mOp gb (mOp uT (ak 4) (mC (.int 10))) (ak 5)))
    (bN 6 (mOp rE (ak 6) (mC (.int 1))))))
noncomputable def fE:ae -> OE:=
    (mUn BJ (ak 0))
noncomputable def jo:ae -> OS:=
    (gi 3 (bt (gA (ah (ak 3) (ah (aX eJ (ah (ak 4) (ah (ak 6) aE))) aE)))))
noncomputable def mW:ae -> OS:=
    (aR (bR (d7 (ak 1))
    (bN 4 (mUn pV (ak 4)))
    bc)
    jo)
noncomputable def lX:ae -> OS:=
    (aR (bR (aP (mOp gEq (mOp d9 (mOp gU (ak 0) (mC (.int 31))) (mC (.int 3))) (mC (.int 1))))
    (aR (bN 7 (mOp d9 (mOp gU (ak 0) (mC (.int 37))) (mC (.int 30))))
    (aR (ef 3 (mOp jB (cu (ah (mC (.int 101)) (ah (mC (.int 69)) aE))) (mOp d9 (mOp gU (ak 0) (mC (.int 41))) (mC (.int 2)))))
    (aR (bN 8 (mOp gEq (mOp d9 (mOp gU (ak 0) (mC (.int 43))) (mC (.int 3))) (mC (.int 1))))
    (aR (bR (d7 (ak 8))
    (ef 3 (mC (.int 45)))
    (bR (aP (mOp gEq (mOp d9 (mOp gU (ak 0) (mC (.int 43))) (mC (.int 3))) (mC (.int 2))))
    (ef 3 (mC (.int 43)))
    bc))
    (aR (bR (aP (mOp gEq (mOp d9 (mOp gU (ak 0) (mC (.int 47))) (mC (.int 4))) (mC (.int 1))))
    (ef 3 (mC (.int 48)))
    bc)
    (aR (bN 3 (mOp iC (ak 3) (mZ (mUn mE (ak 7)) [] fE)))
    (bN 6 (mOp gb (ak 6) (jz (d7 (ak 8)) (mUn pV (ak 7)) (ak 7))))))))))
    bc)
    mW)
noncomputable def mG:ae -> OS:=
    (aR (bR (aP (mOp gEq (mOp d9 (mOp gU (ak 0) (mC (.int 17))) (mC (.int 3))) (mC (.int 1))))
    (aR (ef 3 (mC (.int 46)))
    (qe 5 (rP (cu (ah (mOp d9 (mOp gU (ak 0) (mC (.int 19))) (mC (.int 10))) (ah (mOp d9 (mOp gU (ak 0) (mC (.int 23))) (mC (.int 4))) (ah (mC (.int 0)) aE)))) (mC .non) (lF (mOp gb (mC (.int 1)) (mOp d9 (mOp gU (ak 0) (mC (.int 29))) (mC (.int 3))))))
    gy))
    bc)
    lX)
noncomputable def mi:ae -> OS:=
    (aR (bN 6 (mC (.int 0)))
    mG)
noncomputable def lY:ae -> OS:=
    (aR (gi 2 (qe 5 (ak 2)
    fD))
    mi)
noncomputable def lZ:ae -> OS:=
    (aR (bN 4 (mC (.int 0)))
    lY)
noncomputable def lS:ae -> OS:=
    (aR (bN 3 (mOp iC (ak 3) (qK (ak 2) [] iG)))
    lZ)
noncomputable def mf:ae -> OS:=
    (aR (bN 3 (jz (d7 (ak 1)) (cu (ah (mC (.int 45)) aE)) (cu aE)))
    lS)
noncomputable def lP:ae -> OS:=
    (aR (bN 2 (mZ (mUn mE (mOp d9 (mOp gU (ak 0) (mC (.int 3))) (mC (.int 100000)))) [] gK))
    mf)
noncomputable def iE:ae -> OS:=
    (aR (bN 1 (mOp gEq (mOp d9 (ak 0) (mC (.int 3))) (mC (.int 0))))
    lP)
noncomputable def dc:List PV -> OE:=fnP 1 9 iE
noncomputable def qs:ae -> OS:=
    (AD 0 fe "coming" lO (mD (cu (ah (mC (.str "white")) (ah (mC (.str "value")) (ah (mC (.str "white")) aE))))))
noncomputable def cZ:List Sl -> OI:=fnI 1 1 qs
noncomputable def gn:ae -> OS:=
    (bt (mUn (gD [(110,.tup ([117,108,108].map .int)),(116,.tup ([114,117,101].map .int)),(102,.tup ([97,108,115,101].map .int))]) (ak 0)))
noncomputable def eK:List PV -> OE:=fnP 1 1 gn
noncomputable def iB:ae -> OS:=
    (bt (kl gLe gLe (mC (.int 48)) (ak 0) (mC (.int 57))))
noncomputable def eH:List PV -> OE:=fnP 1 1 iB
noncomputable def jl:ae -> OS:=
    (bt (mC .non))
noncomputable def ji:ae -> OS:=
    (aR (bR (d7 (aX eH (ah (ak 0) aE)))
    (bt (cu (ah (mC (.str "figures")) (ah (mC (.str "fraction")) (ah (mC (.str "exponent")) aE)))))
    bc)
    jl)
noncomputable def fY:ae -> OS:=
    (aR (bR (aP (mOp gEq (ak 0) (mC (.int 48))))
    (bt (cu (ah (mC (.str "fraction")) (ah (mC (.str "exponent")) aE))))
    bc)
    ji)
noncomputable def dF:List PV -> OE:=fnP 1 1 fY
noncomputable def cK:ae -> OE:=
    (gA (ah (ak 0) (ah (ak 0) aE)))
noncomputable def cH:ae -> OS:=
    (bt (aX dF (ah (ak 0) aE)))
noncomputable def cQ:ae -> OS:=
    (aR (bR (aP (mOp tD (ak 1) (mC .non)))
    (bt (rj (ak 1) [] cK))
    bc)
    cH)
noncomputable def cP:ae -> OS:=
    (aR (bN 1 (aX eK (ah (ak 0) aE)))
    cQ)
noncomputable def cO:ae -> OS:=
    (aR (bR (aP (mOp gEq (ak 0) (mC (.int 45))))
    (bt (cu (ah (mC (.str "lead")) aE)))
    bc)
    cP)
noncomputable def cM:ae -> OS:=
    (aR (bR (aP (mOp gEq (ak 0) (mC (.int 34))))
    (bt (cu (ah (mC (.str "text")) aE)))
    bc)
    cO)
noncomputable def cN:ae -> OS:=
    (aR (bR (aP (mOp gEq (ak 0) (mC (.int 123))))
    (bt (cu (ah (mC (.str "white")) (ah (mC (.str "fields")) aE))))
    bc)
    cM)
noncomputable def cy:ae -> OS:=
    (aR (bR (aP (mOp gEq (ak 0) (mC (.int 91))))
    (bt (cu (ah (mC (.str "white")) (ah (mC (.str "row")) aE))))
    bc)
    cN)
noncomputable def bA:List PV -> OE:=fnP 1 2 cy
noncomputable def bG:ae -> OS:=
    (bt (jz (aP (mOp gIn (ak 1) (gA (ah (mC (.int 43)) (ah (mC (.int 45)) aE))))) (cu aE) (mC .non)))
noncomputable def bD:ae -> OS:=
    (aR (bR (aP (mOp gEq (ak 0) (mC (.str "exponent"))))
    (bt (jz (aP (mOp gIn (ak 1) (gA (ah (mC (.int 101)) (ah (mC (.int 69)) aE))))) (cu (ah (mC (.str "sign")) (ah (gA (ah (mC (.int 48)) (ah (mC (.int 57)) aE))) (ah (mC (.str "figures")) aE)))) (mC .non)))
    bc)
    bG)
noncomputable def bB:ae -> OS:=
    (aR (bR (aP (mOp gEq (ak 0) (mC (.str "fraction"))))
    (bt (jz (aP (mOp gEq (ak 1) (mC (.int 46)))) (cu (ah (gA (ah (mC (.int 48)) (ah (mC (.int 57)) aE))) (ah (mC (.str "figures")) aE))) (mC .non)))
    bc)
    bD)
noncomputable def bE:ae -> OS:=
    (aR (bR (aP (mOp gEq (ak 0) (mC (.str "figures"))))
    (bt (jz (d7 (aX eH (ah (ak 1) aE))) (cu (ah (mC (.str "figures")) aE)) (mC .non)))
    bc)
    bB)
noncomputable def bw:ae -> OS:=
    (aR (bR (aP (mOp gEq (ak 0) (mC (.str "lead"))))
    (bt (aX dF (ah (ak 1) aE)))
    bc)
    bE)
noncomputable def aV:List PV -> OE:=fnP 2 2 bw
noncomputable def nM:ae -> OS:=
    (bt (mC .non))
noncomputable def nL:ae -> OS:=
    (aR (bR (aP (kl gLe gLe (mC (.int 97)) (ak 0) (mC (.int 102))))
    (bt (mOp rE (ak 0) (mC (.int 87))))
    bc)
    nM)
noncomputable def nG:ae -> OS:=
    (aR (bR (aP (kl gLe gLe (mC (.int 65)) (ak 0) (mC (.int 70))))
    (bt (mOp rE (ak 0) (mC (.int 55))))
    bc)
    nL)
noncomputable def jb:ae -> OS:=
    (aR (bR (d7 (aX eH (ah (ak 0) aE)))
    (bt (mOp rE (ak 0) (mC (.int 48))))
    bc)
    nG)
noncomputable def fi:List PV -> OE:=fnP 1 1 jb
noncomputable def iH:ae -> OS:=
    (bt (mC .non))
noncomputable def iJ:ae -> OS:=
    (aR (bR (aP (mOp gLt (ak 0) (mC (.int 12))))
    (aR (bN 1 (cu (ah (gA (ah (mC (.int 92)) (ah (mC (.int 92)) aE))) (ah (gA (ah (mC (.int 117)) (ah (mC (.int 117)) aE))) (ah (mC (.str "hex d")) (ah (mC (.str "hex c to f")) (ah (mC (.str "hex")) (ah (mC (.str "hex")) aE))))))))
    (bt (mOp iC (cu (ah (mC (.str "hex")) (ah (mC (.str "hex")) aE))) (ak 1))))
    bc)
    iH)
noncomputable def fW:ae -> OS:=
    (aR (bR (aP (mOp gLt (ak 0) (mC (.int 8))))
    (bt (cu (ah (mC (.str "hex")) (ah (mC (.str "hex")) aE))))
    bc)
    iJ)
noncomputable def de:List PV -> OE:=fnP 1 2 fW
noncomputable def gW:ae -> OS:=
    (bt (mC (.tup ([128,191].map .int))))
noncomputable def gX:ae -> OS:=
    (aR (bR (aP (mOp gEq (ak 0) (mC (.int 237))))
    (bt (gA (ah (mC (.int 128)) (ah (mC (.int 159)) aE))))
    bc)
    gW)
noncomputable def fc:ae -> OS:=
    (aR (bR (aP (mOp gEq (ak 0) (mC (.int 224))))
    (bt (gA (ah (mC (.int 160)) (ah (mC (.int 191)) aE))))
    bc)
    gX)
noncomputable def cA:List PV -> OE:=fnP 1 1 fc
noncomputable def ig:ae -> OS:=
    (bt (mC (.tup ([128,191].map .int))))
noncomputable def ir:ae -> OS:=
    (aR (bR (aP (mOp gEq (ak 0) (mC (.int 244))))
    (bt (gA (ah (mC (.int 128)) (ah (mC (.int 143)) aE))))
    bc)
    ig)
noncomputable def fz:ae -> OS:=
    (aR (bR (aP (mOp gEq (ak 0) (mC (.int 240))))
    (bt (gA (ah (mC (.int 144)) (ah (mC (.int 191)) aE))))
    bc)
    ir)
noncomputable def cJ:List PV -> OE:=fnP 1 1 fz
noncomputable def jH:ae -> OS:=
    (bt (mC .non))
noncomputable def jI:ae -> OS:=
    (aR (bR (aP (kl gLe gLt (mC (.int 240)) (ak 0) (mC (.int 245))))
    (bt (cu (ah (aX cJ (ah (ak 0) aE)) (ah (mC (.tup ([128,191].map .int))) (ah (mC (.tup ([128,191].map .int))) aE)))))
    bc)
    jH)
noncomputable def jE:ae -> OS:=
    (aR (bR (aP (kl gLe gLt (mC (.int 224)) (ak 0) (mC (.int 240))))
    (bt (cu (ah (aX cA (ah (ak 0) aE)) (ah (mC (.tup ([128,191].map .int))) aE))))
    bc)
    jI)
noncomputable def jJ:ae -> OS:=
    (aR (bR (aP (kl gLe gLt (mC (.int 194)) (ak 0) (mC (.int 224))))
    (bt (cu (ah (mC (.tup ([128,191].map .int))) aE)))
    bc)
    jE)
noncomputable def kf:ae -> OS:=
    (aR (bR (aP (kl gLe gLt (mC (.int 0)) (ak 0) (mC (.int 128))))
    (bt (cu aE))
    bc)
    jJ)
noncomputable def ib:List PV -> OE:=fnP 1 1 kf
noncomputable def d5:ae -> OS:=
    (bt (mOp iC (ak 1) (cu (ah (mC (.str "text")) aE))))
noncomputable def d8:ae -> OS:=
    (aR (bR (Az (aP (mOp gLt (ak 0) (mC (.int 32)))) (aP (mOp vj (ak 1) (mC .non))))
    (bt (mC .non))
    bc)
    d5)
noncomputable def d3:ae -> OS:=
    (aR (bN 1 (aX ib (ah (ak 0) aE)))
    d8)
noncomputable def d0:ae -> OS:=
    (aR (bR (aP (mOp gEq (ak 0) (mC (.int 92))))
    (bt (cu (ah (mC (.str "escape")) (ah (mC (.str "text")) aE))))
    bc)
    d3)
noncomputable def dq:ae -> OS:=
    (aR (bR (aP (mOp gEq (ak 0) (mC (.int 34))))
    (bt (cu aE))
    bc)
    d0)
noncomputable def bI:List PV -> OE:=fnP 1 2 dq
noncomputable def cx:ae -> OS:=
    (bt (mUn (gD [(34,.int 34),(92,.int 92),(47,.int 47),(98,.int 8),(102,.int 12),(110,.int 10),(114,.int 13),(116,.int 9)]) (ak 0)))
noncomputable def bz:List PV -> OE:=fnP 1 1 cx
noncomputable def eT:ae -> OS:=
    (aR (bR (aP (mOp gEq (ak 0) (mC (.int 117))))
    (bt (cu (ah (mC (.str "code")) aE)))
    bc)
    (bt (jz (aP (mOp vj (aX bz (ah (ak 0) aE)) (mC .non))) (mC .non) (cu aE))))
noncomputable def cq:List PV -> OE:=fnP 1 1 eT
noncomputable def dh:ae -> OS:=
    (bt (aX de (ah (ak 2) aE)))
noncomputable def dj:ae -> OS:=
    (aR (bR (aP (mOp gEq (ak 0) (mC (.str "code"))))
    (bt (jz (aP (mOp gEq (ak 2) (mC (.int 13)))) (cu (ah (mC (.str "code d")) aE)) (cu (ah (mC (.str "hex")) (ah (mC (.str "hex")) (ah (mC (.str "hex")) aE))))))
    bc)
    dh)
noncomputable def dv:ae -> OS:=
    (aR (bR (aP (mOp vj (ak 2) (mC .non)))
    (bt (mC .non))
    bc)
    dj)
noncomputable def dk:ae -> OS:=
    (aR (bN 2 (aX fi (ah (ak 1) aE)))
    dv)
noncomputable def dm:ae -> OS:=
    (aR (bR (aP (mOp gEq (ak 0) (mC (.str "escape"))))
    (bt (aX cq (ah (ak 1) aE)))
    bc)
    dk)
noncomputable def cL:ae -> OS:=
    (aR (bR (aP (mOp gEq (ak 0) (mC (.str "text"))))
    (bt (aX bI (ah (ak 1) aE)))
    bc)
    dm)
noncomputable def bH:List PV -> OE:=fnP 2 3 cL
noncomputable def gw:ae -> OS:=
    (bt (cu aE))
noncomputable def gp:ae -> OS:=
    (aR (bR (aP (mOp gEq (ak 0) (mC (.str "hex c to f"))))
    (bt (jz (aP (mOp gGe (ak 2) (mC (.int 12)))) (cu aE) (mC .non)))
    bc)
    gw)
noncomputable def gv:ae -> OS:=
    (aR (bR (aP (mOp gEq (ak 0) (mC (.str "hex d"))))
    (bt (jz (aP (mOp gEq (ak 2) (mC (.int 13)))) (cu aE) (mC .non)))
    bc)
    gp)
noncomputable def gN:ae -> OS:=
    (aR (bR (aP (mOp vj (ak 2) (mC .non)))
    (bt (mC .non))
    bc)
    gv)
noncomputable def fS:ae -> OS:=
    (aR (bN 2 (aX fi (ah (ak 1) aE)))
    gN)
noncomputable def dI:List PV -> OE:=fnP 2 3 fS
noncomputable def fh:ae -> OS:=
    (bt (jz (aP (mOp vj (ak 1) (mC .non))) (mC .non) (mOp iC (ak 1) (cu (ah (mC (.str "white")) (ah (mC (.str "more row")) aE))))))
noncomputable def fg:ae -> OS:=
    (aR (bN 1 (aX bA (ah (ak 0) aE)))
    fh)
noncomputable def dS:ae -> OS:=
    (aR (bR (aP (mOp gEq (ak 0) (mC (.int 93))))
    (bt (cu aE))
    bc)
    fg)
noncomputable def bW:List PV -> OE:=fnP 1 2 dS
noncomputable def hV:ae -> OS:=
    (bt (cu (ah (mC (.str "white")) (ah (gA (ah (mC (.int 58)) (ah (mC (.int 58)) aE))) (ah (mC (.str "white")) (ah (mC (.str "value")) (ah (mC (.str "white")) (ah (mC (.str "more fields")) aE))))))))
noncomputable def dX:List PV -> OE:=fnP 0 0 hV
noncomputable def dR:ae -> OS:=
    (aR (bR (aP (mOp gEq (ak 0) (mC (.int 125))))
    (bt (cu aE))
    bc)
    (bt (jz (aP (mOp gEq (ak 0) (mC (.int 34)))) (mOp iC (cu (ah (mC (.str "text")) aE)) (aX dX aE)) (mC .non))))
noncomputable def bJ:List PV -> OE:=fnP 1 1 dR
noncomputable def cj:ae -> OS:=
    (bt (jz (aP (mOp gEq (ak 1) (mC (.int 125)))) (cu aE) (mC .non)))
noncomputable def cn:ae -> OS:=
    (aR (bR (aP (mOp gEq (ak 1) (mC (.int 44))))
    (bt (mOp iC (cu (ah (mC (.str "white")) (ah (mC (.str "name")) aE))) (aX dX aE)))
    bc)
    cj)
noncomputable def cp:ae -> OS:=
    (aR (bR (aP (mOp gEq (ak 0) (mC (.str "more row"))))
    (aR (bR (aP (mOp gEq (ak 1) (mC (.int 44))))
    (bt (cu (ah (mC (.str "white")) (ah (mC (.str "value")) (ah (mC (.str "white")) (ah (mC (.str "more row")) aE))))))
    bc)
    (bt (jz (aP (mOp gEq (ak 1) (mC (.int 93)))) (cu aE) (mC .non))))
    bc)
    cn)
noncomputable def ck:ae -> OS:=
    (aR (bR (aP (mOp gEq (ak 0) (mC (.str "fields"))))
    (bt (aX bJ (ah (ak 1) aE)))
    bc)
    cp)
noncomputable def bQ:ae -> OS:=
    (aR (bR (aP (mOp gEq (ak 0) (mC (.str "row"))))
    (bt (aX bW (ah (ak 1) aE)))
    bc)
    ck)
noncomputable def bb:List PV -> OE:=fnP 2 2 bQ
noncomputable def il:ae -> OS:=
    (bt (mOp gIn (ak 0) (mC (.tup ([9,10,13,32].map .int)))))
noncomputable def eS:List PV -> OE:=fnP 1 1 il
noncomputable def bV:ae -> OS:=
    (bt (aX bA (ah (ak 1) aE)))
noncomputable def b5:ae -> OS:=
    (aR (bR (aP (mOp gEq (ak 0) (mC (.str "name"))))
    (bt (jz (aP (mOp gEq (ak 1) (mC (.int 34)))) (cu (ah (mC (.str "text")) aE)) (mC .non)))
    bc)
    bV)
noncomputable def bZ:ae -> OS:=
    (aR (bR (aP (mOp gEq (ak 0) (mC (.str "white"))))
    (bt (jz (d7 (aX eS (ah (ak 1) aE))) (cu (ah (mC (.str "white")) aE)) (mC .non)))
    bc)
    b5)
noncomputable def b6:ae -> OS:=
    (aR (bR (aP (mOp gIn (ak 0) (mC (.tup [.str "row",.str "more row",.str "fields",.str "more fields"]))))
    (bt (aX bb (ah (ak 0) (ah (ak 1) aE))))
    bc)
    bZ)
noncomputable def bY:ae -> OS:=
    (aR (bR (aP (mOp gIn (ak 0) (gA (ah (mC (.str "hex")) (ah (mC (.str "hex d")) (ah (mC (.str "hex c to f")) aE))))))
    (bt (aX dI (ah (ak 0) (ah (ak 1) aE))))
    bc)
    b6)
noncomputable def bX:ae -> OS:=
    (aR (bR (aP (mOp gIn (ak 0) (gA (ah (mC (.str "text")) (ah (mC (.str "escape")) (ah (mC (.str "code")) (ah (mC (.str "code d")) aE)))))))
    (bt (aX bH (ah (ak 0) (ah (ak 1) aE))))
    bc)
    bY)
noncomputable def bU:ae -> OS:=
    (aR (bR (aP (mOp gIn (ak 0) (gA (ah (mC (.str "lead")) (ah (mC (.str "figures")) (ah (mC (.str "fraction")) (ah (mC (.str "exponent")) (ah (mC (.str "sign")) aE))))))))
    (bt (aX aV (ah (ak 0) (ah (ak 1) aE))))
    bc)
    bX)
noncomputable def cE:ae -> OS:=
    (aR (bR (d7 (mIs "tuple" (ak 0)))
    (bt (jz (aP (kl gLe gLe (mOp iD (ak 0) (mC (.int 0))) (ak 1) (mOp iD (ak 0) (mC (.int 1))))) (cu aE) (mC .non)))
    bc)
    bU)
noncomputable def b9:List PV -> OE:=fnP 2 2 cE
noncomputable def iK:ae -> OE:=
    (ak 0)
noncomputable def gk:ae -> OT:=
    (aP (mOp gIn (ak 0) (mC (.tup [.str "row",.str "more row",.str "fields",.str "more fields"]))))
noncomputable def lx:ae -> OS:=
    (bt (mUn kM (rq (qd 0 (pFd 0 fe "coming" lO)) [] gk iK)))
noncomputable def cG:List Sl -> OI:=fnI 1 1 lx
noncomputable def gP:ae -> OT:=
    (oA 0 (pFd 0 fe "coming" lO))
noncomputable def gQ:ae -> OS:=
    (aR (mT 2 (nP 0 (pFd 0 fe "coming" lO)))
    (aR (bN 3 (aX b9 (ah (ak 2) (ah (ak 1) aE))))
    (aR (bR (aP (mOp tD (ak 3) (mC .non)))
    (aR (lU 0 (pFd 0 fe "coming" lO) (Di (ak 3) (mUn pV (mC (.int 1)))))
    (bt (mOp gLe (lb "Walk" "brackets" cG [.b 0 fe]) (mC (.int 64)))))
    bc)
    (bR (aP (mOp jm (ak 2) (mC (.tup [.str "white",.str "figures",.str "fraction",.str "exponent",.str "sign"]))))
    (bt (mC (.bl false)))
    bc))))
noncomputable def iF:ae -> OS:=
    (aR (cC gP
    gQ fuel)
    (bt (mC (.bl false))))
noncomputable def dZ:List Sl -> OI:=fnI 2 4 iF
noncomputable def i3:ae -> OS:=
    (CC true (mQ "Walk" "goes_on" dZ [.t 0 fe,.e (ak 3)])
    (jC 2)
    bc)
noncomputable def jX:ae -> OS:=
    (aR (yr 2 3 (ak 1)
    i3)
    (bt (mUn kM (ak 1))))
noncomputable def fL:List Sl -> OI:=fnI 2 4 jX
noncomputable def iL:ae -> OE:=
    (mOp gIn (ak 0) (mC (.tup [.str "white",.str "figures",.str "fraction",.str "exponent",.str "sign"])))
noncomputable def lH:ae -> OS:=
    (bt (mUn BU (qK (qd 0 (pFd 0 fe "coming" lO)) [] iL)))
noncomputable def da:List Sl -> OI:=fnI 1 1 lH
noncomputable def pK:ae -> OS:=
    (jC 2)
noncomputable def sO:ae -> OS:=
    (aR (bR (oG (aP (mOp gEq (ak 2) (mUn kM (ak 0)))) (d7 (lb "Walk" "is_whole" da [.b 1 fe])))
    (bt (mC .non))
    bc)
    pK)
noncomputable def sQ:ae -> OS:=
    (aR (mT 2 (mQ "Walk" "take" fL [.t 1 fe,.e (ak 0)]))
    sO)
noncomputable def qz:ae -> OS:=
    (aR (p0 1 (sW "Walk" cZ))
    sQ)
noncomputable def j7:List PV -> OE:=fnP 1 3 qz
noncomputable def gC:ae -> OS:=
    (aR (bN 1 (aX j7 (ah (ak 0) aE)))
    (bR (aP (mOp tD (ak 1) (mC .non)))
    (tS "Fault" "at" (ah (ak 1) aE))
    bc))
noncomputable def dG:List PV -> OE:=fnP 1 2 gC
noncomputable def jg:ae -> OS:=
    (bt (gA (ah (mOp iD (ak 2) (mC (.int 0))) (ah (mOp iD (ak 2) (mC (.int 1))) (ah (mOp iD (ak 2) (mC (.int 2))) (ah (mOp iD (mOp jB (ak 0) (mOp gb (ak 1) (mC (.int 1)))) (mC (.int 3))) aE))))))
noncomputable def jh:ae -> OS:=
    (aR (bR (aP (mOp gNe (mOp iD (ak 2) (mC (.int 0))) (mC (.str "name"))))
    (jC 2)
    bc)
    jg)
noncomputable def hJ:ae -> OS:=
    (aR (bN 2 (mOp jB (ak 0) (ak 1)))
    jh)
noncomputable def eI:List PV -> OE:=fnP 2 3 hJ
noncomputable def uz:ae -> OT:=
    (aP (mOp gNe (mOp jB (ak 0) (ak 2)) (mC (.int 34))))
noncomputable def tV:ae -> OS:=
    (qk 2 gb (jz (aP (mOp gEq (mOp jB (ak 0) (ak 2)) (mC (.int 92)))) (mC (.int 2)) (mC (.int 1))))
noncomputable def tP:ae -> OS:=
    (bt (mOp gb (ak 2) (mC (.int 1))))
noncomputable def tQ:ae -> OS:=
    (aR (cC uz
    tV fuel)
    tP)
noncomputable def nZ:ae -> OS:=
    (aR (bN 2 (mOp gb (ak 1) (mC (.int 1))))
    tQ)
noncomputable def iT:List PV -> OE:=fnP 2 3 nZ
noncomputable def dE:ae -> OT:=
    (oG (aP (mOp gLt (ak 2) (mUn kM (ak 0)))) (oG (x8 (d7 (aX eS (ah (mOp jB (ak 0) (ak 2)) aE)))) (aP (mOp jm (mOp jB (ak 0) (ak 2)) (gA (ah (mC (.int 44)) (ah (mC (.int 93)) (ah (mC (.int 125)) aE))))))))
noncomputable def i0:ae -> OS:=
    (qk 2 gb (mC (.int 1)))
noncomputable def nV:ae -> OS:=
    (jC 2)
noncomputable def nO:ae -> OS:=
    (aR (cC dE
    i0 fuel)
    nV)
noncomputable def ka:ae -> OS:=
    (aR (bN 2 (ak 1))
    nO)
noncomputable def fJ:List PV -> OE:=fnP 2 3 ka
noncomputable def v3:ae -> OT:=
    (oG (aP (mOp gLt (ak 1) (mUn kM (ak 0)))) (d7 (aX eS (ah (mOp jB (ak 0) (ak 1)) aE))))
noncomputable def vE:ae -> OS:=
    (qk 1 gb (mC (.int 1)))
noncomputable def pB:ae -> OS:=
    (aR (cC v3
    vE fuel)
    (bt (qa (mOp gLt (ak 1) (mUn kM (ak 0))) (mOp gEq (mOp jB (ak 0) (ak 1)) (mC (.int 58))))))
noncomputable def jK:List PV -> OE:=fnP 2 2 pB
noncomputable def vZ:ae -> OS:=
    (bt (gA (ah (jz (d7 (aX jK (ah (ak 0) (ah (ak 4) aE)))) (mC (.str "name")) (mC (.str "text"))) (ah (ak 1) (ah (ak 4) (ah (mOp gb (ak 2) (mC (.int 1))) aE))))))
noncomputable def we:ae -> OS:=
    (aR (bN 4 (aX iT (ah (ak 0) (ah (ak 1) aE))))
    vZ)
noncomputable def va:ae -> OS:=
    (aR (bR (aP (mOp gNe (ak 3) (mC (.str "text"))))
    (bt (gA (ah (ak 3) (ah (ak 1) (ah (aX fJ (ah (ak 0) (ah (ak 1) aE))) (ah (mOp gb (ak 2) (mC (.int 1))) aE))))))
    bc)
    we)
noncomputable def ud:ae -> OS:=
    (aR (bN 3 (uv [(34,.str "text"),(91,.str "row"),(102,.str "false"),(110,.str "null"),(116,.str "true"),(123,.str "fields")] (mOp jB (ak 0) (ak 1)) (mC (.str "number"))))
    va)
noncomputable def ll:List PV -> OE:=fnP 3 5 ud
noncomputable def gV:ae -> OT:=
    (aP (mOp gLt (ak 3) (mUn kM (ak 0))))
noncomputable def cX:ae -> OS:=
    (aR (bN 4 (mOp jB (ak 0) (ak 3)))
    (bR (aP (mOp gIn (ak 4) (gA (ah (mC (.int 91)) (ah (mC (.int 123)) aE)))))
    (aR (mI 2 fe (mD (mUn kM (ak 1))))
    (aR (ef 1 (gA (ah (mUn (yB [(34,.str "text"),(91,.str "row"),(102,.str "false"),(110,.str "null"),(116,.str "true"),(123,.str "fields")]) (ak 4)) (ah (ak 3) aE))))
    (qk 3 gb (mC (.int 1)))))
    (bR (aP (mOp gIn (ak 4) (gA (ah (mC (.int 93)) (ah (mC (.int 125)) aE)))))
    (aR (qk 3 gb (mC (.int 1)))
    (aR (mT 5 (nP 2 fe))
    (Cs 1 (ak 5) (gA (ah (mOp iD (mOp jB (ak 1) (ak 5)) (mC (.int 0))) (ah (mOp iD (mOp jB (ak 1) (ak 5)) (mC (.int 1))) (ah (ak 3) (ah (mUn kM (ak 1)) aE))))))))
    (bR (Az (d7 (aX eS (ah (ak 4) aE))) (aP (mOp gIn (ak 4) (gA (ah (mC (.int 44)) (ah (mC (.int 58)) aE))))))
    (qk 3 gb (mC (.int 1)))
    (aR (ef 1 (aX ll (ah (ak 0) (ah (ak 3) (ah (mUn kM (ak 1)) aE)))))
    (bN 3 (mOp iD (mOp jB (ak 1) (mUn pV (mC (.int 1)))) (mC (.int 2)))))))))
noncomputable def nh:ae -> OE:=
    (aX eI (ah (ak 0) (ah (ak 1) aE)))
noncomputable def pN:ae -> OS:=
    (gi 1 (bt (wA (mUn kM (ak 1)) [1] nh)))
noncomputable def sJ:ae -> OS:=
    (aR (cC gV
    cX fuel)
    pN)
noncomputable def sM:ae -> OS:=
    (aR (bN 3 (mC (.int 0)))
    sJ)
noncomputable def ph:ae -> OS:=
    (aR (p0 2 (mD (cu aE)))
    sM)
noncomputable def tH:ae -> OS:=
    (aR (bN 1 (cu aE))
    ph)
noncomputable def o3:ae -> OS:=
    (aR (yc (aX dG (ah (ak 0) aE)))
    tH)
noncomputable def ia:List PV -> OE:=fnP 1 6 o3
noncomputable def lp:ae -> OS:=
    (aR (bR (d7 (ak 0))
    (bt (mOp jB (ak 0) (mOp d9 (ak 1) (mUn kM (ak 0)))))
    bc)
    (bt (mC (.int 0))))
noncomputable def gM:List PV -> OE:=fnP 2 2 lp
noncomputable def p6:ae -> OS:=
    (bt (mOp d9 (mOp gb (mOp uT (mOp gU (ak 2) (mC (.int 64))) (mC (.int 69621))) (ak 2)) (mC (.int 4294967231))))
noncomputable def pZ:ae -> OS:=
    (aR (bN 2 (mOp d9 (mOp uT (ak 2) (mC (.int 48271))) (mC (.int 4294967279))))
    p6)
noncomputable def fG:ae -> OS:=
    (aR (bN 2 (mOp d9 (mOp gb (aX gM (ah (ak 0) (ah (ak 1) aE))) (mOp uT (mC (.int 104729)) (mOp gb (ak 1) (mC (.int 1))))) (mC (.int 4294967291))))
    pZ)
noncomputable def bM:List PV -> OE:=fnP 2 3 fG
noncomputable def gR:ae -> OS:=
    (bN 5 (mOp rE (mOp gb (mOp uT (ak 5) (mC (.int 10))) (ak 2)) (mC (.int 48))))
noncomputable def la:ae -> OS:=
    (gi 4 (bt (gA (ah (ak 4) (ah (gA (ah (ak 5) (ah (ak 7) aE))) aE)))))
noncomputable def o5:ae -> OS:=
    (aR (bR (aP (mOp gEq (mOp d9 (aX bM (ah (ak 0) (ah (mC (.int 1)) aE))) (mC (.int 2))) (mC (.int 1))))
    (aR (bN 4 (mOp iC (mOp iC (cu (ah (mC (.int 48)) (ah (mC (.int 46)) aE))) (pz (cu (ah (mC (.int 48)) aE)) (ak 3))) (pz (cu (ah (ak 2) aE)) (ak 1))))
    (bN 7 (mOp rE (mUn pV (ak 3)) (ak 1))))
    bc)
    la)
noncomputable def ou:ae -> OS:=
    (aR (bN 7 (ak 3))
    o5)
noncomputable def oU:ae -> OS:=
    (aR (ym 6 (ak 1)
    gR)
    ou)
noncomputable def o6:ae -> OS:=
    (aR (bN 5 (mC (.int 0)))
    oU)
noncomputable def o9:ae -> OS:=
    (aR (bN 4 (mOp iC (pz (cu (ah (ak 2) aE)) (ak 1)) (pz (cu (ah (mC (.int 48)) aE)) (ak 3))))
    o6)
noncomputable def oO:ae -> OS:=
    (aR (bN 3 (mOp d9 (aX bM (ah (ak 0) (ah (mC (.int 5)) aE))) (mC (.int 40))))
    o9)
noncomputable def oq:ae -> OS:=
    (aR (bN 2 (mOp gb (mC (.int 49)) (mOp d9 (aX bM (ah (ak 0) (ah (mC (.int 4)) aE))) (mC (.int 9)))))
    oO)
noncomputable def kJ:ae -> OS:=
    (aR (bN 1 (mOp gb (mC (.int 1)) (mOp d9 (aX bM (ah (ak 0) (ah (mC (.int 3)) aE))) (mC (.int 300)))))
    oq)
noncomputable def fR:List PV -> OE:=fnP 1 8 kJ
noncomputable def i8:ae -> OS:=
    (bt (qa (mIs "int" (ak 0)) (Bg (mIs "bool" (ak 0)))))
noncomputable def fb:List PV -> OE:=fnP 1 1 i8
noncomputable def iX:ae -> OS:=
    (aR (bR (Az (x8 (d7 (mIs "tuple" (ak 0)))) (aP (mOp gNe (mUn kM (ak 0)) (mC (.int 2)))))
    (bt (mC (.bl false)))
    bc)
    (bt (qa (aX fb (ah (mOp iD (ak 0) (mC (.int 0))) aE)) (qa (aX fb (ah (mOp iD (ak 0) (mC (.int 1))) aE)) (mOp Bc (ak 0) (ak 1))))))
noncomputable def eU:List PV -> OE:=fnP 2 2 iX
noncomputable def fQ:ae -> OT:=
    (oG (aP (mOp gLt (ak 2) (mUn kM (ak 0)))) (aP (mOp jm (mOp jB (ak 0) (ak 2)) (ak 1))))
noncomputable def jA:ae -> OS:=
    (qk 2 gb (mC (.int 1)))
noncomputable def oM:ae -> OS:=
    (jC 2)
noncomputable def oX:ae -> OS:=
    (aR (cC fQ
    jA fuel)
    oM)
noncomputable def jT:ae -> OS:=
    (aR (bN 2 (mC (.int 0)))
    oX)
noncomputable def eN:List PV -> OE:=fnP 2 3 jT
noncomputable def jc:ae -> OT:=
    (aP (mOp gEq (mOp d9 (ak 0) (mC (.int 10))) (mC (.int 0))))
noncomputable def kg:ae -> OS:=
    (aR (bN 0 (mOp gU (ak 0) (mC (.int 10))))
    (qk 1 gb (mC (.int 1))))
noncomputable def p7:ae -> OS:=
    (bt (gA (ah (ak 0) (ah (ak 1) aE))))
noncomputable def qf:ae -> OS:=
    (aR (cC jc
    kg fuel)
    p7)
noncomputable def jD:ae -> OS:=
    (aR (bR (aP (mOp gEq (ak 0) (mC (.int 0))))
    (bt (gA (ah (mC (.int 0)) (ah (mC (.int 0)) aE))))
    bc)
    qf)
noncomputable def cW:List PV -> OE:=fnP 2 2 jD
noncomputable def j8:ae -> OS:=
    (bN 1 (mOp rE (mOp gb (mOp uT (mC (.int 10)) (ak 1)) (ak 2)) (mC (.int 48))))
noncomputable def pW:ae -> OS:=
    (jC 1)
noncomputable def p8:ae -> OS:=
    (aR (qe 2 (ak 0)
    j8)
    pW)
noncomputable def jL:ae -> OS:=
    (aR (bN 1 (mC (.int 0)))
    p8)
noncomputable def fA:List PV -> OE:=fnP 1 3 jL
noncomputable def jS:ae -> OS:=
    (bt (aX fA (ah (ak 0) aE)))
noncomputable def jO:ae -> OS:=
    (aR (bR (oG (d7 (ak 0)) (aP (mOp gEq (mOp jB (ak 0) (mC (.int 0))) (mC (.int 43)))))
    (bt (aX fA (ah (rP (ak 0) (lF (mC (.int 1))) (mC .non)) aE)))
    bc)
    jS)
noncomputable def i5:ae -> OS:=
    (aR (bR (oG (d7 (ak 0)) (aP (mOp gEq (mOp jB (ak 0) (mC (.int 0))) (mC (.int 45)))))
    (bt (mUn pV (aX fA (ah (rP (ak 0) (lF (mC (.int 1))) (mC .non)) aE))))
    bc)
    jO)
noncomputable def eL:List PV -> OE:=fnP 1 1 i5
noncomputable def tq:ae -> OS:=
    (bt (aX cW (ah (aX eL (ah (mOp iC (rP (ak 2) (mC .non) (lF (ak 3))) (ak 4)) aE)) (ah (mOp rE (aX eL (ah (rP (ak 0) (lF (mOp gb (ak 1) (mC (.int 1)))) (mC .non)) aE)) (mUn kM (ak 4))) aE))))
noncomputable def sI:ae -> OS:=
    (aR (bN 4 (rP (ak 2) (lF (mOp gb (ak 3) (mC (.int 1)))) (mC .non)))
    tq)
noncomputable def tu:ae -> OS:=
    (aR (gi 2 (bN 3 (aX eN (ah (ak 2) (ah (gA (ah (mC (.int 46)) aE)) aE)))))
    sI)
noncomputable def sT:ae -> OS:=
    (aR (bN 2 (rP (ak 0) (mC .non) (lF (ak 1))))
    tu)
noncomputable def qB:ae -> OS:=
    (aR (bN 1 (aX eN (ah (ak 0) (ah (gA (ah (mC (.int 101)) (ah (mC (.int 69)) aE))) aE))))
    sT)
noncomputable def ju:List PV -> OE:=fnP 1 5 qB
noncomputable def pT:ae -> OS:=
    (bt (aX ju (ah (rP (ak 0) (lF (mOp iD (ak 3) (mC (.int 1)))) (lF (mOp iD (ak 3) (mC (.int 2))))) aE)))
noncomputable def pD:ae -> OS:=
    (aR (bR (aP (mOp gNe (mOp iD (ak 3) (mC (.int 0))) (mC (.str "number"))))
    (xO "NoNode" (ah (mC (.str "a node that is no number")) aE))
    bc)
    pT)
noncomputable def j9:ae -> OS:=
    (aR (bN 3 (mOp jB (ak 1) (ak 2)))
    pD)
noncomputable def gc:List PV -> OE:=fnP 3 4 j9
noncomputable def xX:ae -> OS:=
    (gi 4 (gi 3 (bt (qa (ak 5) (qa (aX eU (ah (aX gc (ah (ak 3) (ah (ak 4) (ah (mC (.int 1)) aE)))) (ah (mOp iD (ak 1) (mC (.int 1))) aE))) (aX eU (ah (aX gc (ah (ak 3) (ah (ak 4) (ah (mC (.int 2)) aE)))) (ah (mOp iD (ak 2) (mC (.int 1))) aE))))))))
noncomputable def yF:ae -> OS:=
    (aR (uy 6 (gi 4 (gi 3 (yc (aX gc (ah (ak 3) (ah (ak 4) (ah (mC (.int 0)) aE))))))) gT
    (bN 5 (B0 6 fun c=>c == "NoNode")))
    xX)
noncomputable def x9:ae -> OS:=
    (aR (bN 5 (mC (.bl false)))
    yF)
noncomputable def uV:ae -> OS:=
    (aR (gi 3 (bN 4 (aX ia (ah (ak 3) aE))))
    x9)
noncomputable def yh:ae -> OS:=
    (aR (bN 3 (mOp iC (mOp iC (mOp iC (mOp iC (cu (ah (mC (.int 91)) aE)) (mOp iD (ak 1) (mC (.int 0)))) (cu (ah (mC (.int 44)) aE))) (mOp iD (ak 2) (mC (.int 0)))) (cu (ah (mC (.int 93)) aE))))
    uV)
noncomputable def qx:ae -> OS:=
    (aR (bR (aP (mOp gEq (mOp d9 (aX bM (ah (ak 0) (ah (mC (.int 0)) aE))) (mC (.int 4))) (mC (.int 2))))
    (bt (aX eU (ah (aX gc (ah (mOp iD (ak 1) (mC (.int 0))) (ah (aX ia (ah (mOp iD (ak 1) (mC (.int 0))) aE)) (ah (mC (.int 0)) aE)))) (ah (mOp iD (ak 1) (mC (.int 1))) aE))))
    bc)
    yh)
noncomputable def yq:ae -> OS:=
    (aR (bN 2 (aX dc (ah (aX bM (ah (ak 0) (ah (mC (.int 2)) aE))) aE)))
    qx)
noncomputable def yy:ae -> OS:=
    (aR (bR (aP (mOp gEq (mOp d9 (aX bM (ah (ak 0) (ah (mC (.int 0)) aE))) (mC (.int 4))) (mC (.int 1))))
    (bN 1 (aX fR (ah (ak 0) aE)))
    bc)
    yq)
noncomputable def AN:ae -> OS:=
    (aR (bN 1 (aX dc (ah (aX bM (ah (ak 0) (ah (mC (.int 0)) aE))) aE)))
    yy)
noncomputable def rN:List PV -> OE:=fnP 1 7 AN
theorem wI (ns:List Int) (k:Int):gM [.lst (ns.map .int),.int k] = .ok (.sh (.int (PG.cell ns k))):=by
 unfold gM lp PG.cell
 cases ns with
 | nil=>simp
 | cons n r=>
   have hp:(0:Int) < (r.length:Int) + 1:=by omega
   have hm:0 <= k % ((r.length:Int) + 1):=Int.emod_nonneg _ (by omega)
   have hm2:k % ((r.length:Int) + 1) < (r.length:Int) + 1:=Int.emod_lt_of_pos _ hp
   have hi:(k % ((r.length:Int) + 1)).toNat < (n ::r).length:=by rw [List.length_cons]; omega
   have ha:atP (PV.int n ::r.map .int) (k % ((r.length:Int) + 1)) = some (.int ((n ::r).getD (k % ((r.length:Int) + 1)).toNat 0)):=by
    rw [EY _ _ hm]
    have:(PV.int n ::r.map .int) = (n ::r).map .int:=rfl
    rw [this,List.getElem?_map,List.getElem?_eq_getElem hi,List.getD_eq_getElem?_getD,List.getElem?_eq_getElem hi]
    rfl
   simp [hp,ha]
theorem fF (ns:List Int) (k:Int):bM [.lst (ns.map .int),.int k] = .ok (.sh (.int (PG.mix ns k))):=by
 unfold PG.mix
 simp [p6,pZ,fG,bM,wI]
theorem wo (n:Int):fb [.int n] = .ok (.sh (.bl true)):=by
 unfold fb i8
 simp
theorem fu (b:Int):eS [.int b] = .ok (.sh (.bl (PG.wht b))):=by
 simp -implicitDefEqProofs [il,eS,gIn,eW,b7,eV,PG.wht]
 simp [Bool.beq_eq_decide_eq]
theorem lW (b:Int):eH [.int b] = .ok (.sh (.bl (PG.fig b))):=by
 by_cases h:48 <= b <;> simp -implicitDefEqProofs [iB,eH,PG.fig,h]
theorem pY (b:Int):fi [.int b] = .ok (.sh (match PG.nr b with | some w=>.int w | none=>.non)):=by
 unfold PG.nr
 by_cases h1:48 <= b <;> by_cases h2:b <= 57 <;> by_cases h3:65 <= b <;> by_cases h4:b <= 70 <;> by_cases h5:97 <= b <;> by_cases h6:b <= 102 <;> first | omega | simp -implicitDefEqProofs [nM,nL,nG,jb,fi,lW,PG.fig,h1,h2,h3,h4,h5,h6]
theorem Ai (b:Int):ib [.int b] = .ok (match PG.tls b with | some l=>.fr (l.map PG.ba) | none=>.sh .non):=by
 have h3:cA [.int b] = .ok (.sh (PG.ba (if b = 224 then .sp 160 191 else if b = 237 then .sp 128 159 else .sp 128 191))):=by
  by_cases h1:b = 224
  . simp [gW,gX,fc,cA,h1,PG.ba]
  . by_cases h2:b = 237 <;> simp [gW,gX,fc,cA,h1,h2,PG.ba]
 have h4:cJ [.int b] = .ok (.sh (PG.ba (if b = 240 then .sp 144 191 else if b = 244 then .sp 128 143 else .sp 128 191))):=by
  by_cases h1:b = 240
  . simp [ig,ir,fz,cJ,h1,PG.ba]
  . by_cases h2:b = 244 <;> simp [ig,ir,fz,cJ,h1,h2,PG.ba]
 unfold PG.tls
 by_cases h0:0 <= b /\ b < 128
 . simp [jH,jI,jE,jJ,kf,ib,h0.1,h0.2]
 . by_cases ha:194 <= b /\ b < 224
   . have:¬ b < 128:=by omega
     have z:0 <= b:=by omega
     simp [jH,jI,jE,jJ,kf,ib,ha.1,ha.2,z,this,PG.ba]
   . by_cases hb:224 <= b /\ b < 240
     . have z1:¬ b < 128:=by omega
       have z2:¬ b < 224:=by omega
       have z:0 <= b:=by omega
       have z3:194 <= b:=by omega
       simp [jH,jI,jE,jJ,kf,ib,hb.1,hb.2,z,z1,z2,z3,h3]
       simp [PG.ba]
     . by_cases hc:240 <= b /\ b < 245
       . have z1:¬ b < 128:=by omega
         have z2:¬ b < 224:=by omega
         have z:0 <= b:=by omega
         have z3:194 <= b:=by omega
         have z4:224 <= b:=by omega
         have z5:¬ b < 240:=by omega
         simp [jH,jI,jE,jJ,kf,ib,hc.1,hc.2,z,z1,z2,z3,z4,z5,h4]
         simp [PG.ba]
       . simp only [h0,ha,hb,hc,if_false]
         by_cases g0:0 <= b <;> by_cases g1:b < 128 <;> by_cases g2:194 <= b <;> by_cases g3:b < 224 <;> by_cases g4:224 <= b <;> by_cases g5:b < 240 <;> by_cases g6:240 <= b <;> by_cases g7:b < 245 <;> first | omega | simp [jH,jI,jE,jJ,kf,ib,g0,g1,g2,g3,g4,g5,g6,g7]
noncomputable def rI:Option (List PG.It) -> RV
 | some l=>.fr (l.map PG.ba)
 | none=>.sh .non
theorem nI (b:Int):dF [.int b] = .ok (rI (PG.jR b)):=by
 unfold PG.jR
 by_cases h0:b = 48
 . simp [jl,ji,fY,dF,h0,rI,PG.ba]
 . by_cases h1:48 <= b <;> by_cases h2:b <= 57 <;> simp [jl,ji,fY,dF,h0,h1,h2,lW,PG.fig,rI,PG.ba]
theorem mU (b:Int):bA [.int b] = .ok (rI (PG.jN b)):=by
 unfold PG.jN
 by_cases h1:b = 91
 . simp [cK,cH,cQ,cP,cO,cM,cN,cy,bA,h1,rI,PG.ba]
 by_cases h2:b = 123
 . simp [cK,cH,cQ,cP,cO,cM,cN,cy,bA,h2,rI,PG.ba]
 by_cases h3:b = 34
 . simp [cK,cH,cQ,cP,cO,cM,cN,cy,bA,h3,rI,PG.ba]
 by_cases h4:b = 45
 . simp [cK,cH,cQ,cP,cO,cM,cN,cy,bA,h4,rI,PG.ba]
 by_cases h5:b = 110
 . simp [cK,cH,cQ,cP,cO,cM,cN,cy,bA,h5,rI,PG.ba,gn,eK,gD,cF,rj,dC,dQ,List.lookup]
 by_cases h6:b = 116
 . simp [cK,cH,cQ,cP,cO,cM,cN,cy,bA,h6,rI,PG.ba,gn,eK,gD,cF,rj,dC,dQ,List.lookup]
 by_cases h7:b = 102
 . simp [cK,cH,cQ,cP,cO,cM,cN,cy,bA,h7,rI,PG.ba,gn,eK,gD,cF,rj,dC,dQ,List.lookup]
 have z5:(b == 110) = false:=by simpa using h5
 have z6:(b == 116) = false:=by simpa using h6
 have z7:(b == 102) = false:=by simpa using h7
 simp [cK,cH,cQ,cP,cO,cM,cN,cy,bA,h1,h2,h3,h4,h5,h6,h7,z5,z6,z7,gn,eK,gD,cF,List.lookup,nI]
 cases PG.jR b <;> simp [rI]
theorem nN:dX [] = .ok (.fr (PG.rp.map PG.ba)):=by
 simp [hV,dX,PG.rp,PG.ba]
theorem ko (it:PG.It) (b:Int) (h:it = .lead \/ it = .figures \/ it = .fraction \/ it = .exponent \/ it = .sign):aV [PG.ba it,.int b] = .ok (rI (PG.bh it b)):=by
 rcases h with rfl | rfl | rfl | rfl | rfl
 . simp [bG,bD,bB,bE,bw,aV,PG.ba,gEq,eqS,aH,nI]
   cases e:PG.jR b <;> simp [PG.bh,rI,e]
 . by_cases h1:48 <= b <;> by_cases h2:b <= 57 <;> simp [bG,bD,bB,bE,bw,aV,PG.ba,gEq,eqS,aH,lW,PG.fig,PG.bh,rI,h1,h2]
 . by_cases h1:b = 46 <;> simp [bG,bD,bB,bE,bw,aV,PG.ba,gEq,eqS,aH,PG.bh,rI,h1]
 . by_cases h1:b = 101
   . simp [bG,bD,bB,bE,bw,aV,PG.ba,gEq,eqS,aH,PG.bh,rI,h1,gIn,eW,b7,eV]
   . by_cases h2:b = 69
     . simp [bG,bD,bB,bE,bw,aV,PG.ba,gEq,eqS,aH,PG.bh,rI,h2,gIn,eW,b7,eV]
     . have z1:¬ 101 = b:=fun z=>h1 z.symm
       have z2:¬ 69 = b:=fun z=>h2 z.symm
       simp [bG,bD,bB,bE,bw,aV,PG.ba,gEq,eqS,aH,PG.bh,rI,h1,h2,z1,z2,gIn,eW,b7,eV]
 . by_cases h1:b = 43
   . simp [bG,bD,bB,bE,bw,aV,PG.ba,gEq,eqS,aH,PG.bh,rI,h1,gIn,eW,b7,eV]
   . by_cases h2:b = 45
     . simp [bG,bD,bB,bE,bw,aV,PG.ba,gEq,eqS,aH,PG.bh,rI,h2,gIn,eW,b7,eV]
     . have z1:¬ 43 = b:=fun z=>h1 z.symm
       have z2:¬ 45 = b:=fun z=>h2 z.symm
       simp [bG,bD,bB,bE,bw,aV,PG.ba,gEq,eqS,aH,PG.bh,rI,h1,h2,z1,z2,gIn,eW,b7,eV]
theorem qE (b:Int):∃ x,bz [.int b] = .ok (.sh x) /\ cF x = !PG.uZ b:=by
 unfold PG.uZ
 by_cases h1:b = 34
 . exact ⟨.int 34,by simp [cx,bz,gD,List.lookup,h1],by simp [cF,h1]⟩
 by_cases h2:b = 92
 . exact ⟨.int 92,by simp [cx,bz,gD,List.lookup,h2],by simp [cF,h2]⟩
 by_cases h3:b = 47
 . exact ⟨.int 47,by simp [cx,bz,gD,List.lookup,h3],by simp [cF,h3]⟩
 by_cases h4:b = 98
 . exact ⟨.int 8,by simp [cx,bz,gD,List.lookup,h4],by simp [cF,h4]⟩
 by_cases h5:b = 102
 . exact ⟨.int 12,by simp [cx,bz,gD,List.lookup,h5],by simp [cF,h5]⟩
 by_cases h6:b = 110
 . exact ⟨.int 10,by simp [cx,bz,gD,List.lookup,h6],by simp [cF,h6]⟩
 by_cases h7:b = 114
 . exact ⟨.int 13,by simp [cx,bz,gD,List.lookup,h7],by simp [cF,h7]⟩
 by_cases h8:b = 116
 . exact ⟨.int 9,by simp [cx,bz,gD,List.lookup,h8],by simp [cF,h8]⟩
 have zz:∀ k:Int,¬ b = k -> (b == k) = false:=fun k h=>by simpa using h
 exact ⟨.non,by simp [cx,bz,gD,List.lookup,zz _ h1,zz _ h2,zz _ h3,zz _ h4,zz _ h5,zz _ h6,zz _ h7,zz _ h8],by simp [cF,h1,h2,h3,h4,h5,h6,h7,h8]⟩
theorem og (b:Int):cq [.int b] = .ok (rI (PG.BK b)):=by
 obtain ⟨x,hx,hn⟩:=qE b
 unfold PG.BK
 by_cases h1:b = 117
 . simp [eT,cq,h1,rI,PG.ba]
 . cases hs:PG.uZ b <;> rw [hs] at hn <;> simp at hn <;> simp [eT,cq,h1,hx,hn,rI]
theorem C5 (b:Int) (l:List PG.It) (h:PG.tls b = some l):l.length <= 3:=by
 unfold PG.tls at h
 repeat' split at h
 all_goals (first | (cases h; done) | (injection h with h; subst h; simp))
theorem nW (b:Int):bI [.int b] = .ok (rI (PG.r9 b)):=by
 have ht:=Ai b
 unfold PG.r9
 by_cases h1:b = 34
 . simp [d5,d8,d3,d0,dq,bI,h1,rI]
 by_cases h2:b = 92
 . simp [d5,d8,d3,d0,dq,bI,h2,rI,PG.ba]
 cases e:PG.tls b with
 | none=>
   rw [e] at ht
   by_cases h3:b < 32 <;> simp [d5,d8,d3,d0,dq,bI,h1,h2,h3,rI,ht,cF]
 | some l=>
   rw [e] at ht
   have hl:l.length + 1 <= lim:=dY (by have:=C5 b l e; omega)
   by_cases h3:b < 32 <;> simp [d5,d8,d3,d0,dq,bI,h1,h2,h3,rI,ht,cF,hl,PG.ba]
theorem qi (w:Int):de [.int w] = .ok (rI (PG.BL w)):=by
 unfold PG.BL
 by_cases h1:w < 8
 . simp [iH,iJ,fW,de,h1,rI,PG.ba]
 . by_cases h2:w < 12 <;> simp [iH,iJ,fW,de,h1,h2,rI,PG.ba]
theorem qw (it:PG.It) (b:Int) (h:it = .text \/ it = .escape \/ it = .code \/ it = .coded):bH [PG.ba it,.int b] = .ok (rI (PG.bh it b)):=by
 have hw:=pY b
 rcases h with rfl | rfl | rfl | rfl
 . simp [dh,dj,dv,dk,dm,cL,bH,PG.ba,gEq,eqS,aH,nW]
   cases e:PG.r9 b <;> simp [PG.bh,rI,e]
 . simp [dh,dj,dv,dk,dm,cL,bH,PG.ba,gEq,eqS,aH,og]
   cases e:PG.BK b <;> simp [PG.bh,rI,e]
 . cases e:PG.nr b with
   | none=>
     rw [e] at hw
     simp [dh,dj,dv,dk,dm,cL,bH,PG.ba,gEq,eqS,aH,hw,cF,PG.bh,e,rI]
   | some w=>
     rw [e] at hw
     by_cases h13:w = 13 <;> simp [dh,dj,dv,dk,dm,cL,bH,PG.ba,gEq,eqS,aH,hw,cF,PG.bh,e,rI,h13]
 . cases e:PG.nr b with
   | none=>
     rw [e] at hw
     simp [dh,dj,dv,dk,dm,cL,bH,PG.ba,gEq,eqS,aH,hw,cF,PG.bh,e,rI]
   | some w=>
     rw [e] at hw
     simp [dh,dj,dv,dk,dm,cL,bH,PG.ba,gEq,eqS,aH,hw,cF,PG.bh,e,qi]
     cases e2:PG.BL w <;> simp [rI]
theorem wH (it:PG.It) (b:Int) (h:it = .hex \/ it = .hexd \/ it = .hexcf):dI [PG.ba it,.int b] = .ok (rI (PG.bh it b)):=by
 have hw:=pY b
 cases e:PG.nr b with
 | none=>
   rw [e] at hw
   rcases h with rfl | rfl | rfl <;> simp [gw,gp,gv,gN,fS,dI,PG.ba,gEq,eqS,aH,hw,cF,PG.bh,e,rI]
 | some w=>
   rw [e] at hw
   rcases h with rfl | rfl | rfl
   . simp [gw,gp,gv,gN,fS,dI,PG.ba,gEq,eqS,aH,hw,cF,PG.bh,e,rI]
   . by_cases h13:w = 13 <;> simp [gw,gp,gv,gN,fS,dI,PG.ba,gEq,eqS,aH,hw,cF,PG.bh,e,rI,h13]
   . by_cases h13:12 <= w <;> simp [gw,gp,gv,gN,fS,dI,PG.ba,gEq,eqS,aH,hw,cF,PG.bh,e,rI,h13]
theorem y8 (b:Int) (l:List PG.It) (h:PG.jN b = some l):l.length <= 5:=by
 unfold PG.jN PG.jR at h
 repeat' split at h
 all_goals (first | (cases h; done) | (injection h with h; subst h; decide))
theorem nX (b:Int):bW [.int b] = .ok (rI (PG.bh .row b)):=by
 have hv:=mU b
 by_cases h1:b = 93
 . simp [fh,fg,dS,bW,h1,rI,PG.bh]
 cases e:PG.jN b with
 | none=>rw [e] at hv; simp [fh,fg,dS,bW,h1,hv,rI,PG.bh,e,cF]
 | some l=>
   rw [e] at hv
   have hl:l.length + 2 <= lim:=dY (by have:=y8 b l e; omega)
   simp [fh,fg,dS,bW,h1,hv,rI,PG.bh,e,cF,PG.ba,hl]
theorem lN (b:Int):bJ [.int b] = .ok (rI (PG.bh .fields b)):=by
 by_cases h1:b = 125
 . simp [dR,bJ,h1,rI,PG.bh]
 by_cases h2:b = 34 <;> simp [dR,bJ,h1,h2,rI,PG.bh,nN,PG.rp,PG.ba]
theorem ke (it:PG.It) (b:Int) (h:it = .row \/ it = .mrow \/ it = .fields \/ it = .mfields):bb [PG.ba it,.int b] = .ok (rI (PG.bh it b)):=by
 rcases h with rfl | rfl | rfl | rfl
 . simp [cj,cn,cp,ck,bQ,bb,PG.ba,gEq,eqS,aH,nX]
   cases e:PG.bh .row b <;> simp [rI]
 . by_cases h1:b = 44
   . simp [cj,cn,cp,ck,bQ,bb,PG.ba,gEq,eqS,aH,h1,PG.bh,rI]
   . by_cases h2:b = 93 <;> simp [cj,cn,cp,ck,bQ,bb,PG.ba,gEq,eqS,aH,h1,h2,PG.bh,rI]
 . simp [cj,cn,cp,ck,bQ,bb,PG.ba,gEq,eqS,aH,lN]
   cases e:PG.bh .fields b <;> simp [rI]
 . by_cases h1:b = 44
   . simp [cj,cn,cp,ck,bQ,bb,PG.ba,gEq,eqS,aH,h1,PG.bh,rI,nN,PG.rp]
   . by_cases h2:b = 125 <;> simp [cj,cn,cp,ck,bQ,bb,PG.ba,gEq,eqS,aH,h1,h2,PG.bh,rI]
theorem zI (it:PG.It) (b:Int):b9 [PG.ba it,.int b] = .ok (rI (PG.bh it b)):=by
 cases it with
 | sp lo hi=>by_cases h1:lo <= b <;> by_cases h2:b <= hi <;> simp [bV,b5,bZ,b6,bY,bX,bU,cE,b9,PG.ba,isP,h1,h2,PG.bh,rI]
 | white=>
   cases h:PG.wht b <;> simp [bV,b5,bZ,b6,bY,bX,bU,cE,b9,PG.ba,isP,gIn,eW,b7,gEq,eqS,aH,fu,h,PG.bh,rI]
 | name=>by_cases h:b = 34 <;> simp [bV,b5,bZ,b6,bY,bX,bU,cE,b9,PG.ba,isP,gIn,eW,b7,gEq,eqS,aH,h,PG.bh,rI]
 | value=>
   have:=mU b
   simp [bV,b5,bZ,b6,bY,bX,bU,cE,b9,PG.ba,isP,gIn,eW,b7,gEq,eqS,aH,this,PG.bh]
   cases PG.jN b <;> simp [rI]
 | lead=>
   have:=ko .lead b (by simp)
   simp only [PG.ba] at this
   simp [bV,b5,bZ,b6,bY,bX,bU,cE,b9,PG.ba,isP,gIn,eW,b7,this]
   cases PG.bh .lead b <;> simp [rI]
 | figures=>
   have:=ko .figures b (by simp)
   simp only [PG.ba] at this
   simp [bV,b5,bZ,b6,bY,bX,bU,cE,b9,PG.ba,isP,gIn,eW,b7,this]
   cases PG.bh .figures b <;> simp [rI]
 | fraction=>
   have:=ko .fraction b (by simp)
   simp only [PG.ba] at this
   simp [bV,b5,bZ,b6,bY,bX,bU,cE,b9,PG.ba,isP,gIn,eW,b7,this]
   cases PG.bh .fraction b <;> simp [rI]
 | exponent=>
   have:=ko .exponent b (by simp)
   simp only [PG.ba] at this
   simp [bV,b5,bZ,b6,bY,bX,bU,cE,b9,PG.ba,isP,gIn,eW,b7,this]
   cases PG.bh .exponent b <;> simp [rI]
 | sign=>
   have:=ko .sign b (by simp)
   simp only [PG.ba] at this
   simp [bV,b5,bZ,b6,bY,bX,bU,cE,b9,PG.ba,isP,gIn,eW,b7,this]
   cases PG.bh .sign b <;> simp [rI]
 | text=>
   have:=qw .text b (by simp)
   simp only [PG.ba] at this
   simp [bV,b5,bZ,b6,bY,bX,bU,cE,b9,PG.ba,isP,gIn,eW,b7,this]
   cases PG.bh .text b <;> simp [rI]
 | escape=>
   have:=qw .escape b (by simp)
   simp only [PG.ba] at this
   simp [bV,b5,bZ,b6,bY,bX,bU,cE,b9,PG.ba,isP,gIn,eW,b7,this]
   cases PG.bh .escape b <;> simp [rI]
 | code=>
   have:=qw .code b (by simp)
   simp only [PG.ba] at this
   simp [bV,b5,bZ,b6,bY,bX,bU,cE,b9,PG.ba,isP,gIn,eW,b7,this]
   cases PG.bh .code b <;> simp [rI]
 | coded=>
   have:=qw .coded b (by simp)
   simp only [PG.ba] at this
   simp [bV,b5,bZ,b6,bY,bX,bU,cE,b9,PG.ba,isP,gIn,eW,b7,this]
   cases PG.bh .coded b <;> simp [rI]
 | hex=>
   have:=wH .hex b (by simp)
   simp only [PG.ba] at this
   simp [bV,b5,bZ,b6,bY,bX,bU,cE,b9,PG.ba,isP,gIn,eW,b7,this]
   cases PG.bh .hex b <;> simp [rI]
 | hexd=>
   have:=wH .hexd b (by simp)
   simp only [PG.ba] at this
   simp [bV,b5,bZ,b6,bY,bX,bU,cE,b9,PG.ba,isP,gIn,eW,b7,this]
   cases PG.bh .hexd b <;> simp [rI]
 | hexcf=>
   have:=wH .hexcf b (by simp)
   simp only [PG.ba] at this
   simp [bV,b5,bZ,b6,bY,bX,bU,cE,b9,PG.ba,isP,gIn,eW,b7,this]
   cases PG.bh .hexcf b <;> simp [rI]
 | row=>
   have:=ke .row b (by simp)
   simp only [PG.ba] at this
   simp [bV,b5,bZ,b6,bY,bX,bU,cE,b9,PG.ba,isP,gIn,eW,b7,this]
   cases PG.bh .row b <;> simp [rI]
 | mrow=>
   have:=ke .mrow b (by simp)
   simp only [PG.ba] at this
   simp [bV,b5,bZ,b6,bY,bX,bU,cE,b9,PG.ba,isP,gIn,eW,b7,this]
   cases PG.bh .mrow b <;> simp [rI]
 | fields=>
   have:=ke .fields b (by simp)
   simp only [PG.ba] at this
   simp [bV,b5,bZ,b6,bY,bX,bU,cE,b9,PG.ba,isP,gIn,eW,b7,this]
   cases PG.bh .fields b <;> simp [rI]
 | mfields=>
   have:=ke .mfields b (by simp)
   simp only [PG.ba] at this
   simp [bV,b5,bZ,b6,bY,bX,bU,cE,b9,PG.ba,isP,gIn,eW,b7,this]
   cases PG.bh .mfields b <;> simp [rI]
noncomputable abbrev cm (st:List PG.It):List PV:=st.reverse.map PG.ba
theorem vk (st:List PG.It):PG.wk st = .ob "Walk" ["coming"] [.ol ((cm st).map .sh)]:=rfl
theorem xF (st:List PG.It):(PG.wk st).get [.fd "coming"] = some (.ol ((cm st).map .sh)):=by
 simp [vk,OV.get,OV.at1,my]
theorem Bt (st:List PG.It) (t:OV):(PG.wk st).put [.fd "coming"] t = .ob "Walk" ["coming"] [t]:=by
 simp [vk,OV.put,OV.at1,OV.zQ,my,sf]
theorem xy {ρ:ae} {i:Nat} {s:Sl} {st:List PG.It} (h:ρ[i]? = some (some s)) (hs:slT s = some (PG.wk st)):subAt i fe ρ = some (PG.wk st):=by
 unfold subAt jU fe; rw [h]; simp [hs]
theorem xG {ρ:ae} {i:Nat} {s:Sl} {st:List PG.It} (h:ρ[i]? = some (some s)) (hs:slT s = some (PG.wk st)):pFd i fe "coming" lO ρ = some [.fd "coming"]:=by
 unfold pFd
 rw [xy h hs,vk]
 simp [lO,my,fe]
theorem ur {ρ:ae} {i:Nat} {s:Sl} {st:List PG.It} (h:ρ[i]? = some (some s)) (hs:slT s = some (PG.wk st)):subAt i (pFd i fe "coming" lO) ρ = some (.ol ((cm st).map .sh)):=by
 unfold subAt jU
 rw [h,xG h hs]
 simp [hs,xF]
theorem GW (it:PG.It):gk [some (.sh (PG.ba it))] = .ok (PG.opn it):=by
 cases it <;> simp -implicitDefEqProofs [gk,PG.ba,gIn,eW,b7,PG.opn,eV]
theorem yK (l:List PG.It):g8 gk iK [] (l.map PG.ba) = .ok ((l.filter PG.opn).map PG.ba):=by
 induction l with
 | nil=>rfl
 | cons it l ih=>
   rw [List.map_cons]
   unfold g8
   have h:=GW it
   have he:iK [some (.sh (PG.ba it))] = .ok (.sh (PG.ba it)):=rfl
   cases e:PG.opn it <;> rw [e] at h <;> simp [h,ih,e,he]
theorem xb (st:List PG.It) (hl:st.length <= 100000):cG [.bo (PG.wk st)] = .ok (.int (PG.cnt st)) [none]:=by
 have hp:qd 0 (pFd 0 fe "coming" lO) [some (.bo (PG.wk st))] = .ok (.al (cm st)):=by
  unfold qd
  rw [ur (s:=.bo (PG.wk st)) rfl rfl]
  simp only [sL]
 have hc:(st.reverse.filter PG.opn).length = PG.cnt st:=by unfold PG.cnt; rw [List.filter_reverse,List.length_reverse]
 have hn:PG.cnt st <= lim:=dY (by unfold PG.cnt; have:=List.length_filter_le PG.opn st; omega)
 have he:=yK st.reverse
 simp -implicitDefEqProofs only [cG,lx,fnI,kB,rq,hp,dQ,List.map_nil,he,AU,BG,List.map_cons,List.length_cons,List.length_nil,List.replicate,List.append_nil,jG,zN,zS,List.length_map,hc,hn,if_true,Fe,oP,gB,vF,Nat.sub_self,wR]
 rfl
theorem Cr (it:PG.It):jm (PG.ba it) (.tup [.str "white",.str "figures",.str "fraction",.str "exponent",.str "sign"]) = some (.sh (.bl (!PG.loose it))):=by
 cases it <;> simp -implicitDefEqProofs [PG.ba,jm,eW,b7,PG.loose,eV]
theorem AY (it:PG.It):gIn (PG.ba it) (.tup [.str "white",.str "figures",.str "fraction",.str "exponent",.str "sign"]) = some (.sh (.bl (PG.loose it))):=by
 cases it <;> simp -implicitDefEqProofs [PG.ba,gIn,eW,b7,PG.loose,eV]
theorem E2 {ρ:ae} {i:Nat} {io:Bool} {it:PG.It} {st:List PG.It} (h:ρ[i]? = some (some (.tr io (PG.wk (it ::st))))):nP i (pFd i fe "coming" lO) ρ = .ok (ρ.set i (some (.tr io (PG.wk st)))) (.sh (PG.ba it)):=by
 have hc:(cm (it ::st)).map OV.sh = (cm st).map OV.sh ++ [.sh (PG.ba it)]:=by simp [cm]
 unfold nP
 rw [h,xG h rfl]
 simp only [xF,hc,List.getLast?_concat,List.dropLast_concat,Bt]
 rfl
theorem EG {ρ:ae} {i:Nat} {io:Bool} {l st:List PG.It} {me:ae -> OE} (h:ρ[i]? = some (some (.tr io (PG.wk st)))) (he:me ρ = .ok (.fr (l.map PG.ba).reverse)) (hl:st.length + l.length <= 100000):
  lU i (pFd i fe "coming" lO) me ρ = .nx (ρ.set i (some (.tr io (PG.wk (l ++ st))))):=by
 have hc:(cm (l ++ st)).map OV.sh = (cm st).map OV.sh ++ (l.map PG.ba).reverse.map .sh:=by simp [cm]
 have hl2:st.length + l.length <= lim:=dY (by omega)
 unfold lU wQ
 rw [h,xG h rfl]
 simp only [xF,he,gB,List.length_map,List.length_reverse,hl2,if_true,Bt]
 rw [vk,hc]
theorem vd {ρ:ae} {i:Nat} {io:Bool} {st:List PG.It} (h:ρ[i]? = some (some (.tr io (PG.wk st)))):oA i (pFd i fe "coming" lO) ρ = .ok (!st.isEmpty):=by
 unfold oA
 rw [ur h rfl]
 cases st <;> simp [cm]
theorem B4 {ρ:ae} {i:Nat} {io:Bool} {st:List PG.It} (h:ρ[i]? = some (some (.tr io (PG.wk st)))) (hl:st.length <= 100000):lb "Walk" "brackets" cG [.b i fe] ρ = .ok (.sh (.int (PG.cnt st))):=by
 have ha:kY (.b i fe) ρ = some (.bo (PG.wk st)):=by
  simp only [kY]
  rw [xy h rfl]
  rfl
 have hr:recv "Walk" "brackets" (some (.bo (PG.wk st))) = true:=by
  rw [vk]
  simp [recv,aH]
 simp only [lb,ha,hr,if_true,uk,kx,Option.bind_some,Option.map_some,xb st hl]
theorem zu (b:Int) (it:PG.It) (st:List PG.It) (io:Bool) (x y:Option Sl) (hl:st.length + 8 <= 100000):gQ [some (.tr io (PG.wk (it ::st))),some (.sh (.int b)),x,y] =
  match PG.bh it b with
  | some l=>.rt [some (.tr io (PG.wk (l ++ st))),some (.sh (.int b)),some (.sh (PG.ba it)),some (.ow (l.map PG.ba))] (.sh (.bl (decide (PG.cnt (l ++ st) <= 64))))
  | none=>if PG.loose it then .nx [some (.tr io (PG.wk st)),some (.sh (.int b)),some (.sh (PG.ba it)),some (.sh .non)] else .rt [some (.tr io (PG.wk st)),some (.sh (.int b)),some (.sh (PG.ba it)),some (.sh .non)] (.sh (.bl false)):=by
 have h1:mT 2 (nP 0 (pFd 0 fe "coming" lO)) [some (.tr io (PG.wk (it ::st))),some (.sh (.int b)),x,y] = .nx [some (.tr io (PG.wk st)),some (.sh (.int b)),some (.sh (PG.ba it)),y]:=by
  unfold mT
  rw [E2 (it:=it) (st:=st) (io:=io) rfl]
  rfl
 have hb:=zI it b
 have hlo:=Cr it
 unfold gQ
 simp only [km,h1,fO]
 cases e:PG.bh it b with
 | none=>
   rw [e] at hb
   cases e2:PG.loose it <;> rw [e2] at hlo <;> simp -implicitDefEqProofs [hb,rI,cF,hlo]
 | some l=>
   rw [e] at hb
   have hll:=PG.zZ it b l e
   have h2:lU 0 (pFd 0 fe "coming" lO) (Di (ak 3) (mUn pV (mC (.int 1)))) [some (.tr io (PG.wk st)),some (.sh (.int b)),some (.sh (PG.ba it)),some (.ow (l.map PG.ba))] = .nx [some (.tr io (PG.wk (l ++ st))),some (.sh (.int b)),some (.sh (PG.ba it)),some (.ow (l.map PG.ba))]:=
    EG (io:=io) rfl (by simp [Di]) (by omega)
   have h3:lb "Walk" "brackets" cG [.b 0 fe] [some (.tr io (PG.wk (l ++ st))),some (.sh (.int b)),some (.sh (PG.ba it)),some (.ow (l.map PG.ba))] = .ok (.sh (.int (PG.cnt (l ++ st)))):=B4 (io:=io) rfl (by simp; omega)
   have h4:(decide ((PG.cnt (l ++ st):Int) <= 64)) = decide (PG.cnt (l ++ st) <= 64):=by rw [decide_eq_decide]; omega
   simp -implicitDefEqProofs [hb,rI,cF,h2,h3,h4]
theorem zi (b:Int) (io:Bool) (st:List PG.It):∀ (n:Nat) (x y:Option Sl),st.length < n -> st.length + 8 <= 100000 ->
  ∃ x' y',(cC gP gQ n [some (.tr io (PG.wk st)),some (.sh (.int b)),x,y]).andThen (bt (mC (.bl false))) = .rt [some (.tr io (PG.wk (PG.gon st b).1)),some (.sh (.int b)),x',y'] (.sh (.bl (PG.gon st b).2)):=by
 induction st with
 | nil=>
   intro n x y hn hl
   obtain ⟨m,rfl⟩:∃ m,n = m + 1:=⟨n - 1,by simp at hn; omega⟩
   refine ⟨x,y,?_⟩
   have hc:gP [some (.tr io (PG.wk [])),some (.sh (.int b)),x,y] = .ok false:=vd (i:=0) (ρ:=[some (.tr io (PG.wk [])),some (.sh (.int b)),x,y]) (io:=io) (st:=[]) rfl
   simp [cC,hc,PG.gon]
 | cons it st ih=>
   intro n x y hn hl
   obtain ⟨m,rfl⟩:∃ m,n = m + 1:=⟨n - 1,by simp at hn; omega⟩
   have hc:gP [some (.tr io (PG.wk (it ::st))),some (.sh (.int b)),x,y] = .ok true:=vd (i:=0) (ρ:=[some (.tr io (PG.wk (it ::st))),some (.sh (.int b)),x,y]) (io:=io) (st:=it ::st) rfl
   have ht:=zu b it st io x y (by simp at hl; omega)
   unfold PG.gon
   cases e:PG.bh it b with
   | some l=>
     rw [e] at ht
     exact ⟨some (.sh (PG.ba it)),some (.ow (l.map PG.ba)),by simp only [cC,hc,ft,if_true,ht,x6,r6]⟩
   | none=>
     rw [e] at ht
     dsimp only at ht ⊢
     cases e2:PG.loose it with
     | false=>
       rw [e2] at ht
       exact ⟨some (.sh (PG.ba it)),some (.sh .non),by simp only [cC,hc,ft,if_true,ht,x6,r6,Bool.false_eq_true,if_false]⟩
     | true=>
       rw [e2] at ht
       obtain ⟨x',y',h⟩:=ih m (some (.sh (PG.ba it))) (some (.sh .non)) (by simp at hn; omega) (by simp at hl; omega)
       exact ⟨x',y',by simp only [cC,hc,ft,if_true,ht,jv,h]⟩
theorem zg (b:Int) (st:List PG.It) (hl:st.length + 8 < 100000):dZ [.tr true (PG.wk st),.sh (.int b)] = .ok (.bl (PG.gon st b).2) [some (PG.wk (PG.gon st b).1),none]:=by
 obtain ⟨x',y',h⟩:=zi b true st fuel none none (by unfold fuel; omega) (by omega)
 have e:iF [some (.tr true (PG.wk st)),some (.sh (.int b)),none,none] = _:=h
 show fnI 2 4 iF _ = _
 unfold fnI
 rw [if_pos (by rfl)]
 show wR 2 (iF [some (.tr true (PG.wk st)),some (.sh (.int b)),none,none]) = _
 rw [e]
 rfl
theorem yP (io:Bool) (rw:PV) (row:List Int):∀ (k:Nat) (st:List PG.It) (x y:Option Sl),st.length + 8 * row.length + 8 < 100000 ->
  ∃ x' y',kH 2 3 i3 (p5 k (row.map .int)) [some (.tr io (PG.wk st)),some (.sh rw),x,y] = if (PG.tk st row).2 = row.length then .nx [some (.tr io (PG.wk (PG.tk st row).1)),some (.sh rw),x',y'] else .rt [some (.tr io (PG.wk (PG.tk st row).1)),some (.sh rw),x',y'] (.sh (.int ((k + (PG.tk st row).2:Nat):Int))):=by
 induction row with
 | nil=>intro k st x y hl; exact ⟨x,y,by simp [p5,kH,PG.tk]⟩
 | cons b row ih=>
   intro k st x y hl
   simp only [List.length_cons] at hl
   have hg:=zg b st (by omega)
   have hlen:=PG.ye st b
   have ht:i3 [some (.tr io (PG.wk st)),some (.sh rw),some (.sh (.int k)),some (.sh (.int b))] = if (PG.gon st b).2 then .nx [some (.tr io (PG.wk (PG.gon st b).1)),some (.sh rw),some (.sh (.int k)),some (.sh (.int b))] else .rt [some (.tr io (PG.wk (PG.gon st b).1)),some (.sh rw),some (.sh (.int k)),some (.sh (.int b))] (.sh (.int k)):=by
    have ha:kY (.t 0 fe) [some (.tr io (PG.wk st)),some (.sh rw),some (.sh (.int k)),some (.sh (.int b))] = some (.tr true (PG.wk st)):=by simp [kY,fe]
    have ha2:kY (.e (ak 3)) [some (.tr io (PG.wk st)),some (.sh rw),some (.sh (.int k)),some (.sh (.int b))] = some (.sh (.int b)):=by simp [kY]
    have hr:recv "Walk" "goes_on" (some (.tr true (PG.wk st))) = true:=by rw [vk]; simp [recv,aH]
    have hx:mQ "Walk" "goes_on" dZ [.t 0 fe,.e (ak 3)] [some (.tr io (PG.wk st)),some (.sh rw),some (.sh (.int k)),some (.sh (.int b))] = .ok [some (.tr io (PG.wk (PG.gon st b).1)),some (.sh rw),some (.sh (.int k)),some (.sh (.int b))] (.sh (.bl (PG.gon st b).2)):=by
     simp only [mQ,ha,hr,if_true,um,kx,ha2,Option.bind_some,Option.map_some,hg]
     simp [gd,ki,fe]
    unfold i3 CC
    rw [hx]
    cases (PG.gon st b).2 <;> simp
   unfold PG.tk
   simp only [List.map_cons,p5,kH,List.set_cons_succ,List.set_cons_zero,ht]
   cases e:(PG.gon st b).2 with
   | false=>exact ⟨some (.sh (.int k)),some (.sh (.int b)),by simp⟩
   | true=>
     obtain ⟨x',y',h⟩:=ih (k + 1) (PG.gon st b).1 (some (.sh (.int k))) (some (.sh (.int b))) (by omega)
     refine ⟨x',y',?_⟩
     simp only [if_true,jv,h,List.length_cons,Nat.add_right_cancel_iff]
     have:k + 1 + (PG.tk (PG.gon st b).1 row).2 = k + ((PG.tk (PG.gon st b).1 row).2 + 1):=by omega
     rw [this]
theorem Ey (st:List PG.It) (row:List Int) (hl:st.length + 8 * row.length + 8 < 100000):fL [.tr true (PG.wk st),.sh (.lst (row.map .int))] = .ok (.int (PG.tk st row).2) [some (PG.wk (PG.tk st row).1),none]:=by
 obtain ⟨x',y',h⟩:=yP true (.lst (row.map .int)) row 0 st none none hl
 show fnI 2 4 jX _ = _
 unfold fnI
 rw [if_pos (by rfl)]
 show wR 2 (jX [some (.tr true (PG.wk st)),some (.sh (.lst (row.map .int))),none,none]) = _
 unfold jX yr
 simp only [km,xw,List.getElem?_cons_succ,List.getElem?_cons_zero,gB,EI,h]
 by_cases e:(PG.tk st row).2 = row.length
 . simp [e,wR,sF]
 . simp [e,wR,sF]
theorem wG (st:List PG.It) (hl:st.length <= 100000):da [.bo (PG.wk st)] = .ok (.bl (st.all PG.loose)) [none]:=by
 have hp:qd 0 (pFd 0 fe "coming" lO) [some (.bo (PG.wk st))] = .ok (.al (cm st)):=by
  unfold qd
  rw [ur (s:=.bo (PG.wk st)) rfl rfl]
  simp only [sL]
 have hn:st.length <= lim:=dY (by omega)
 have he:dC iL [] (cm st) = .ok ((st.reverse.map PG.loose).map .bl):=by
  rw [List.map_map]
  refine pS _ fun it _=>?_
  simp [iL,AY]
 have hb:BU (.lst ((st.reverse.map PG.loose).map .bl)) = some (.sh (.bl (st.all PG.loose))):=by
  simp only [BU,vI,Option.map_some]
  congr 3
  rw [List.all_map,List.all_reverse]
  rfl
 simp -implicitDefEqProofs only [da,lH,fnI,kB,A3,hp,dQ,List.map_nil,he,AU,BG,List.map_cons,List.length_cons,List.length_nil,List.replicate,List.append_nil,jG,zN,zS,List.length_map,List.length_reverse,hn,if_true,hb,oP,gB,vF,Nat.sub_self,wR]
 rfl
theorem EC:cZ [.tr true (.ob "Walk" [] [])] = .ok .non [some (PG.wk PG.st0)]:=by
 rfl
theorem Ed (row:List Int):∀ st,(PG.tk st row).1.length <= st.length + 8 * row.length + 8:=by
 induction row with
 | nil=>intro st; simp [PG.tk]
 | cons b row ih=>
   intro st
   have:=PG.ye st b
   have h2:=ih (PG.gon st b).1
   unfold PG.tk
   split <;> simp only [List.length_cons] <;> omega
noncomputable def ofO:Option Nat -> PV
 | some k=>.int k
 | none=>.non
theorem Ct (row:List Int) (hl:8 * row.length + 20 < 100000):j7 [.lst (row.map .int)] = .ok (.sh (ofO (PG.flt row))):=by
 have ht:=Ey PG.st0 row (by simp [PG.st0]; omega)
 have hlen:=Ed row PG.st0
 have hw:=wG (PG.tk PG.st0 row).1 (by have:PG.st0.length = 3:=rfl; omega)
 have h0:sW "Walk" cZ [some (.sh (.lst (row.map .int))),none,none] = .ok (PG.wk PG.st0):=by unfold sW; rw [EC]
 have h1:mT 2 (mQ "Walk" "take" fL [.t 1 fe,.e (ak 0)]) [some (.sh (.lst (row.map .int))),some (.tr false (PG.wk PG.st0)),none] = .nx [some (.sh (.lst (row.map .int))),some (.tr false (PG.wk (PG.tk PG.st0 row).1)),some (.sh (.int (PG.tk PG.st0 row).2))]:=by
  have ha:kY (.t 1 fe) [some (.sh (.lst (row.map .int))),some (.tr false (PG.wk PG.st0)),none] = some (.tr true (PG.wk PG.st0)):=by simp [kY,fe]
  have ha2:kY (.e (ak 0)) [some (.sh (.lst (row.map .int))),some (.tr false (PG.wk PG.st0)),none] = some (.sh (.lst (row.map .int))):=by simp [kY]
  have hr:recv "Walk" "take" (some (.tr true (PG.wk PG.st0))) = true:=by rw [vk]; simp [recv,aH]
  unfold mT
  simp only [mQ,ha,hr,if_true,um,kx,ha2,Option.bind_some,Option.map_some,ht]
  simp [gd,ki,fe,nio]
 have h2:lb "Walk" "is_whole" da [.b 1 fe] [some (.sh (.lst (row.map .int))),some (.tr false (PG.wk (PG.tk PG.st0 row).1)),some (.sh (.int (PG.tk PG.st0 row).2))] = .ok (.sh (.bl ((PG.tk PG.st0 row).1.all PG.loose))):=by
  have ha:kY (.b 1 fe) [some (.sh (.lst (row.map .int))),some (.tr false (PG.wk (PG.tk PG.st0 row).1)),some (.sh (.int (PG.tk PG.st0 row).2))] = some (.bo (PG.wk (PG.tk PG.st0 row).1)):=by
   simp only [kY]
   rw [xy (s:=.tr false (PG.wk (PG.tk PG.st0 row).1)) rfl rfl]
   rfl
  have hr:recv "Walk" "is_whole" (some (.bo (PG.wk (PG.tk PG.st0 row).1))) = true:=by rw [vk]; simp [recv,aH]
  simp only [lb,ha,hr,if_true,uk,kx,Option.bind_some,Option.map_some,hw]
 unfold PG.flt
 have hd:p0 1 (sW "Walk" cZ) [some (.sh (.lst (row.map .int))),none,none] = .nx [some (.sh (.lst (row.map .int))),some (.tr false (PG.wk PG.st0)),none]:=by
  unfold p0; rw [h0]; rfl
 simp -implicitDefEqProofs only [j7,vz,ot,qz,List.map_cons,List.map_nil,List.length_cons,List.length_nil,List.cons_append,List.nil_append,List.replicate,km,hd,fO,sQ,h1,sO,uG,Cy,B5,yt,xw,List.getElem?_cons_succ,List.getElem?_cons_zero,BG,jG,BM,h2]
 by_cases e:(PG.tk PG.st0 row).2 = row.length
 . cases e2:(PG.tk PG.st0 row).1.all PG.loose <;> simp [e,pK,ofO]
 . have e3:¬ ((PG.tk PG.st0 row).2:Int) = (row.length:Int):=by omega
   simp [e,e3,pK,ofO]
theorem Bj (row:List Int) (hl:8 * row.length + 20 < 100000):dG [.lst (row.map .int)] = match PG.flt row with
  | some k=>.exc "Fault" [("at",.int k)]
  | none=>.ok (.sh .non):=by
 have h:=Ct row hl
 cases e:PG.flt row with
 | none=>rw [e] at h; simp -implicitDefEqProofs [gC,dG,h,ofO,cF]
 | some k=>rw [e] at h; simp -implicitDefEqProofs [gC,dG,h,ofO,cF]
theorem uI (xs ys zs:List Int):lK ((xs ++ ys ++ zs).map PV.int) (some (xs.length:Int)) (some ((xs.length:Int) + ys.length)) = ys.map .int:=by
 have e1:kX ((xs ++ ys ++ zs).map PV.int).length 0 (some (xs.length:Int)) = xs.length:=by
  unfold kX
  dsimp only
  rw [if_neg (by omega)]
  simp
 have e2:kX ((xs ++ ys ++ zs).map PV.int).length ((xs ++ ys ++ zs).map PV.int).length (some ((xs.length:Int) + ys.length)) = xs.length + ys.length:=by
  unfold kX
  dsimp only
  rw [if_neg (by omega)]
  simp
  omega
 unfold lK
 rw [e1,e2,<- List.map_drop,<- List.map_take,List.append_assoc,List.drop_left]
 congr 1
 rw [Nat.add_sub_cancel_left]
 simp
theorem mq {l:List Int} {xs ys:List Int} {x:Int} (h:l = xs ++ x ::ys) {i:Int} (hi:i = xs.length):atP (l.map PV.int) i = some (.int x):=by
 rw [hi,ni,List.getElem?_map,h]; simp
noncomputable def low:Nat -> Int -> Int × Nat
 | 0,n=>(n,0)
 | k + 1,n=>if n % 10 = 0 then ((low k (n / 10)).1,(low k (n / 10)).2 + 1) else (n,0)
theorem Ah (k:Nat):∀ (n p:Int) (F:Nat),n ≠ 0 -> n.natAbs < 10 ^ k -> k < F -> cC jc kg F [some (.sh (.int n)),some (.sh (.int p))] = .nx [some (.sh (.int (low k n).1)),some (.sh (.int (p + (low k n).2)))]:=by
 induction k with
 | zero=>intro n p F h0 h _; simp at h; omega
 | succ k ih=>
   intro n p F h0 h hF
   obtain ⟨F,rfl⟩:∃ G,F = G + 1:=⟨F - 1,by omega⟩
   unfold cC low
   by_cases hm:n % 10 = 0
   . rw [Nat.pow_succ] at h
     have h1:n / 10 ≠ 0:=by omega
     have h2:(n / 10).natAbs < 10 ^ k:=by generalize 10 ^ k = z at h; omega
     have:=ih (n / 10) (p + 1) F h1 h2 (by omega)
     have hc:jc [some (.sh (.int n)),some (.sh (.int p))] = .ok true:=by simp [jc,hm]
     have hb:kg [some (.sh (.int n)),some (.sh (.int p))] = .nx [some (.sh (.int (n / 10))),some (.sh (.int (p + 1)))]:=by simp [kg]
     simp [hc,hb,hm,this,Int.add_assoc,Int.add_comm 1]
   . simp [jc,hm]
theorem pI (k:Nat) (n p:Int) (h0:n ≠ 0) (h:n.natAbs < 10 ^ k) (hk:k <= 90000):cW [.int n,.int p] = .ok (.sh (.tup [.int (low k n).1,.int (p + (low k n).2)])):=by
 have:=Ah k n p fuel h0 h (by unfold fuel; omega)
 simp -implicitDefEqProofs [cW,jD,qf,p7,h0,this]
theorem xN (p:Int):cW [.int 0,.int p] = .ok (.sh (.tup [.int 0,.int 0])):=by
 simp -implicitDefEqProofs [cW,jD]
theorem Bo (k:Nat):∀ n:Int,n ≠ 0 -> n.natAbs < 10 ^ k -> n = (low k n).1 * 10 ^ (low k n).2 /\ (low k n).1 % 10 ≠ 0:=by
 induction k with
 | zero=>intro n h0 h; simp at h; omega
 | succ k ih=>
   intro n h0 h
   unfold low
   by_cases hm:n % 10 = 0
   . rw [Nat.pow_succ] at h
     have h1:n / 10 ≠ 0:=by omega
     have h2:(n / 10).natAbs < 10 ^ k:=by generalize 10 ^ k = z at h; omega
     obtain ⟨e1,e2⟩:=ih (n / 10) h1 h2
     simp only [hm,if_true]
     refine ⟨?_,e2⟩
     rw [Int.pow_succ,<- Int.mul_assoc,<- e1]
     omega
   . simp [hm]
theorem A1 {a b:Int} {i j:Nat} (h:a * 10 ^ i = b * 10 ^ j) (ha:a % 10 ≠ 0) (hb:b % 10 ≠ 0):i = j /\ a = b:=by
 induction i generalizing j with
 | zero=>
   cases j with
   | zero=>simp at h; exact ⟨rfl,h⟩
   | succ j=>
     rw [Int.pow_succ,<- Int.mul_assoc] at h
     simp at h
     omega
 | succ i ih=>
   cases j with
   | zero=>
     rw [Int.pow_succ,<- Int.mul_assoc] at h
     simp at h
     omega
   | succ j=>
     rw [Int.pow_succ,<- Int.mul_assoc,Int.pow_succ,<- Int.mul_assoc] at h
     have:a * 10 ^ i = b * 10 ^ j:=by omega
     obtain ⟨e1,e2⟩:=ih this
     exact ⟨by omega,e2⟩
theorem ua (ds:List Int):∀ (n:Int) (a x:Option Sl),∃ x',iP 2 j8 (ds.map .int) [a,some (.sh (.int n)),x] = .nx [a,some (.sh (.int (ds.foldl (fun n d=>10 * n + d - 48) n))),x']:=by
 induction ds with
 | nil=>intro n a x; exact ⟨x,rfl⟩
 | cons d ds ih=>
   intro n a x
   obtain ⟨x',h⟩:=ih (10 * n + d - 48) a (some (.sh (.int d)))
   refine ⟨x',?_⟩
   have ht:j8 [a,some (.sh (.int n)),some (.sh (.int d))] = .nx [a,some (.sh (.int (10 * n + d - 48))),some (.sh (.int d))]:=by simp -implicitDefEqProofs [j8]
   rw [List.map_cons,jP]
   simp only [List.set_cons_succ,List.set_cons_zero,ht,jv,h,List.foldl_cons]
theorem zA (ds:List Int):fA [.lst (ds.map .int)] = .ok (.sh (.int (PG.cv ds))):=by
 obtain ⟨x',h⟩:=ua ds 0 (some (.sh (.lst (ds.map .int)))) none
 simp -implicitDefEqProofs [pW,p8,jL,fA,h,PG.cv]
theorem vc (x:Int) (ds:List Int):lK ((x ::ds).map PV.int) (some 1) none = ds.map .int:=by
 have e1:kX ((x ::ds).map PV.int).length 0 (some 1) = 1:=by
  unfold kX; dsimp only; rw [if_neg (by decide)]; simp
 unfold lK
 rw [e1]
 show ((ds.map PV.int)).take ((x ::ds).map PV.int).length.pred = _
 rw [List.take_of_length_le (by simp)]
noncomputable def sv (s ds:List Int):Int:=if s = [45] then -PG.cv ds else PG.cv ds
theorem rm (s ds:List Int) (hs:s = [] \/ s = [43] \/ s = [45]) (hd:∀ b ∈ ds,PG.isF b):eL [.lst ((s ++ ds).map .int)] = .ok (.sh (.int (sv s ds))):=by
 have hc:=zA ds
 unfold sv
 rcases hs with rfl | rfl | rfl
 . cases ds with
   | nil=>
     have hc':fA [.lst []] = .ok (.sh (.int (PG.cv []))):=hc
     simp -implicitDefEqProofs [jS,jO,i5,eL,hc']
   | cons d ds=>
     have hf:=hd d List.mem_cons_self
     have h1:d ≠ 45:=by unfold PG.isF at hf; omega
     have h2:d ≠ 43:=by unfold PG.isF at hf; omega
     simp only [List.map_cons] at hc
     simp -implicitDefEqProofs [jS,jO,i5,eL,h1,h2,hc]
 . have ht:=vc 43 ds
   simp only [List.map_cons] at ht
   simp -implicitDefEqProofs [jS,jO,i5,eL,ht,hc]
 . have ht:=vc 45 ds
   simp only [List.map_cons] at ht
   simp -implicitDefEqProofs [jS,jO,i5,eL,ht,hc]
theorem wL (signs:List Int) (so:List Int):∀ (xs ys pre:List Int) (n:Nat),signs = pre ++ (xs ++ ys) -> (∀ x ∈ xs,x ∉ so) -> (ys = [] \/ ∃ y r,ys = y ::r /\ y ∈ so) -> xs.length < n ->
  cC fQ jA n [some (.sh (.lst (signs.map .int))),some (.sh (.tup (so.map .int))),some (.sh (.int (pre.length:Int)))] = .nx [some (.sh (.lst (signs.map .int))),some (.sh (.tup (so.map .int))),some (.sh (.int ((pre.length + xs.length:Nat):Int)))]:=by
 have hin:∀ x:Int,jm (.int x) (.tup (so.map .int)) = some (.sh (.bl (!decide (x ∈ so)))):=fun x=>by
  have h1:(so.map PV.int).all b7 = true:=by rw [List.all_map,List.all_eq_true]; intro y _; rfl
  have h2:((so.map PV.int).any fun y=>eV y (.int x)) = decide (x ∈ so):=by
   rw [List.any_map]
   by_cases h:x ∈ so
   . rw [decide_eq_true h,List.any_eq_true]
     exact ⟨x,h,by simp [eV]⟩
   . rw [decide_eq_false h,List.any_eq_false]
     intro y hy z
     simp [eV] at z
     subst z
     exact h hy
  simp only [jm,eW,h1,if_true,h2,Option.map_some]
 intro xs
 induction xs with
 | nil=>
   intro ys pre n hs _ hy hn
   obtain ⟨m,rfl⟩:∃ m,n = m + 1:=⟨n - 1,by simp at hn; omega⟩
   have hc:fQ [some (.sh (.lst (signs.map .int))),some (.sh (.tup (so.map .int))),some (.sh (.int (pre.length:Int)))] = .ok false:=by
    rcases hy with rfl | ⟨y,r,rfl,hm⟩
    . have:signs = pre:=by simpa using hs
      subst this
      simp [fQ]
    . have ha:atP (signs.map PV.int) (pre.length:Int) = some (.int y):=mq (xs:=pre) (ys:=r) hs rfl
      simp [fQ,ha,hin,hm]
   simp [cC,hc]
 | cons x xs ih=>
   intro ys pre n hs hx hy hn
   obtain ⟨m,rfl⟩:∃ m,n = m + 1:=⟨n - 1,by simp at hn; omega⟩
   have ha:atP (signs.map PV.int) (pre.length:Int) = some (.int x):=mq (xs:=pre) (ys:=xs ++ ys) hs rfl
   have hl:pre.length < signs.length:=by rw [hs]; simp
   have hn1:=hx x List.mem_cons_self
   have hc:fQ [some (.sh (.lst (signs.map .int))),some (.sh (.tup (so.map .int))),some (.sh (.int (pre.length:Int)))] = .ok true:=by
    simp [fQ,ha,hin,hn1,hl]
   have hb:jA [some (.sh (.lst (signs.map .int))),some (.sh (.tup (so.map .int))),some (.sh (.int (pre.length:Int)))] = .nx [some (.sh (.lst (signs.map .int))),some (.sh (.tup (so.map .int))),some (.sh (.int ((pre ++ [x]).length:Int)))]:=by simp [jA]
   have:=ih ys (pre ++ [x]) m (by rw [hs]; simp) (fun z hz=>hx z (List.mem_cons_of_mem _ hz)) hy (by simp at hn; omega)
   simp only [cC,hc,ft,if_true,hb,jv,this]
   have e:(pre ++ [x]).length + xs.length = pre.length + (x ::xs).length:=by simp; omega
   rw [e]
theorem qY (so xs ys:List Int) (hx:∀ x ∈ xs,x ∉ so) (hy:ys = [] \/ ∃ y r,ys = y ::r /\ y ∈ so) (hl:xs.length <= 90000):eN [.lst ((xs ++ ys).map .int),.tup (so.map .int)] = .ok (.sh (.int (xs.length:Int))):=by
 have h:=wL (xs ++ ys) so xs ys [] fuel (by simp) hx hy (by unfold fuel; omega)
 simp only [List.length_nil,Int.ofNat_zero,Int.cast_ofNat_Int,Nat.zero_add] at h
 generalize (xs ++ ys).map PV.int = l at *
 simp -implicitDefEqProofs [oM,oX,jT,eN,h]
theorem vV (xs ys:List Int):lK ((xs ++ ys).map PV.int) none (some (xs.length:Int)) = xs.map .int:=by
 have:=uI [] xs ys
 simp only [List.nil_append,List.length_nil,Int.ofNat_zero,Int.cast_ofNat_Int,Int.zero_add] at this
 unfold lK at this ⊢
 rw [show kX ((xs ++ ys).map PV.int).length 0 (some (0:Int)) = 0 by unfold kX; simp] at this
 exact this
theorem rL (xs ys:List Int) (x:Int) (i:Int) (hi:i = (xs.length:Int) + 1):lK ((xs ++ x ::ys).map PV.int) (some i) none = ys.map .int:=by
 have:=uI (xs ++ [x]) ys []
 have e:(xs ++ [x]) ++ ys ++ [] = xs ++ x ::ys:=by simp
 rw [e] at this
 have e1:((xs ++ [x]:List Int).length:Int) = i:=by rw [hi]; simp
 rw [e1] at this
 have e2:kX ((xs ++ x ::ys).map PV.int).length ((xs ++ x ::ys).map PV.int).length (some (i + ys.length)) = ((xs ++ x ::ys).map PV.int).length:=by
  unfold kX; dsimp only; rw [if_neg (by omega)]; simp; omega
 unfold lK at this ⊢
 rw [e2] at this
 exact this
theorem vm (xs:List Int) (i:Int) (hi:i = (xs.length:Int) + 1):lK (xs.map PV.int) (some i) none = []:=by
 unfold lK
 have:kX (xs.map PV.int).length 0 (some i) = xs.length:=by
  unfold kX; dsimp only; rw [if_neg (by omega)]; simp; omega
 rw [this]
 simp
noncomputable def exV:Option (Int × List Int × List Int) -> Int
 | none=>0
 | some (_,s,ds)=>sv s ds
noncomputable def mwV (m:PG.Nm):Int:=if m.neg then -PG.cv (m.ip ++ m.fr) else PG.cv (m.ip ++ m.fr)
theorem Dr (m:PG.Nm) (h:PG.Nok m) (hl:(PG.nb m).length <= 80000):ju [.lst ((PG.nb m).map .int)] = cW [.int (mwV m),.int (exV m.ex - m.fr.length)]:=by
 have hip:∀ b ∈ m.ip,PG.isF b:=by
  rcases h.ip with e | ⟨d,r,e,h1,h2,h3⟩
  . rw [e]; intro b hb; simp at hb; subst hb; decide
  . rw [e]; intro b hb; rcases List.mem_cons.mp hb with z | z
    . subst z; unfold PG.isF; omega
    . exact h3 b z
 obtain ⟨sg,hsg⟩:∃ sg:List Int,sg = if m.neg then [45] else []:=⟨_,rfl⟩
 have hsg2:sg = [] \/ sg = [45]:=by rw [hsg]; cases m.neg <;> simp
 obtain ⟨base,hbase⟩:∃ base:List Int,base = sg ++ (m.ip ++ PG.frB m.fr):=⟨_,rfl⟩
 have hnb:PG.nb m = base ++ PG.exB m.ex:=by unfold PG.nb; rw [hbase,hsg]; simp
 have hbl:base.length <= 80000:=by rw [hnb] at hl; simp at hl; omega
 have hnote:∀ x ∈ base,x ∉ ([101,69]:List Int):=by
  intro x hx
  rw [hbase] at hx
  have:x = 45 \/ PG.isF x \/ x = 46:=by
   rcases List.mem_append.mp hx with z | z
   . rcases hsg2 with e | e <;> rw [e] at z <;> simp at z
     exact .inl z
   . rcases List.mem_append.mp z with z | z
     . exact .inr (.inl (hip x z))
     . unfold PG.frB at z
       split at z
       . cases z
       . rcases List.mem_cons.mp z with y | y
         . exact .inr (.inr y)
         . exact .inr (.inl (h.fr x y))
  simp
  unfold PG.isF at this
  omega
 have hexB:PG.exB m.ex = [] \/ ∃ y r,PG.exB m.ex = y ::r /\ y ∈ ([101,69]:List Int):=by
  cases e:m.ex with
  | none=>exact .inl rfl
  | some x=>
    obtain ⟨eb,s,ds⟩:=x
    have:=(h.ex eb s ds e).1
    exact .inr ⟨eb,s ++ ds,rfl,by simpa using this⟩
 have f1:=qY [101,69] base (PG.exB m.ex) hnote hexB (by omega)
 rw [<- hnb] at f1
 have c1:=vV base (PG.exB m.ex)
 rw [<- hnb] at c1
 obtain ⟨ih,hih⟩:∃ ih:List Int,ih = sg ++ m.ip:=⟨_,rfl⟩
 have hb2:base = ih ++ PG.frB m.fr:=by rw [hbase,hih]; simp
 have hnop:∀ x ∈ ih,x ∉ ([46]:List Int):=by
  intro x hx
  rw [hih] at hx
  have:x = 45 \/ PG.isF x:=by
   rcases List.mem_append.mp hx with z | z
   . rcases hsg2 with e | e <;> rw [e] at z <;> simp at z
     exact .inl z
   . exact .inr (hip x z)
  simp
  unfold PG.isF at this
  omega
 have hfrB:PG.frB m.fr = [] \/ ∃ y r,PG.frB m.fr = y ::r /\ y ∈ ([46]:List Int):=by
  unfold PG.frB
  split
  . exact .inl rfl
  . exact .inr ⟨46,m.fr,rfl,by simp⟩
 have hil:ih.length <= 80000:=by rw [hb2] at hbl; simp at hbl; omega
 have f2:=qY [46] ih (PG.frB m.fr) hnop hfrB (by omega)
 rw [<- hb2] at f2
 have c2:lK (base.map PV.int) (some ((ih.length:Int) + 1)) none = m.fr.map .int:=by
  rw [hb2]
  unfold PG.frB
  by_cases hfr:m.fr = []
  . rw [if_pos hfr,List.append_nil,vm ih _ rfl,hfr]; rfl
  . rw [if_neg hfr]; exact rL ih m.fr 46 _ rfl
 have c3:lK (base.map PV.int) none (some (ih.length:Int)) = ih.map .int:=by
  rw [hb2]; exact vV ih _
 have g1:eL [.lst ((ih ++ m.fr).map .int)] = .ok (.sh (.int (mwV m))):=by
  have:=rm sg (m.ip ++ m.fr) (by rcases hsg2 with e | e <;> rw [e] <;> simp) (fun b hb=>by
   rcases List.mem_append.mp hb with z | z
   . exact hip b z
   . exact h.fr b z)
  rw [hih,List.append_assoc,this]
  congr 2
  unfold sv mwV
  rw [hsg]
  cases m.neg <;> simp
 have c4:lK ((PG.nb m).map PV.int) (some ((base.length:Int) + 1)) none = (match m.ex with | none=>[] | some (_,s,ds)=>s ++ ds).map .int:=by
  rw [hnb]
  cases e:m.ex with
  | none=>rw [PG.exB,List.append_nil]; exact vm base _ rfl
  | some x=>
    obtain ⟨eb,s,ds⟩:=x
    exact rL base (s ++ ds) eb _ rfl
 have g2:eL [.lst ((match m.ex with | none=>[] | some (_,s,ds)=>s ++ ds:List Int).map .int)] = .ok (.sh (.int (exV m.ex))):=by
  cases e:m.ex with
  | none=>exact rm [] [] (.inl rfl) (fun b hb=>by cases hb)
  | some x=>
    obtain ⟨eb,s,ds⟩:=x
    obtain ⟨_,hs,_,hf⟩:=h.ex eb s ds e
    exact rm s ds hs hf
 have hlim:ih.length + m.fr.length <= lim:=dY (by
  have:m.fr.length <= base.length:=by
   rw [hb2]
   unfold PG.frB
   by_cases hfr:m.fr = []
   . rw [hfr]; simp
   . rw [if_neg hfr]; simp; omega
  omega)
 generalize hE:(match m.ex with | none=>[] | some (_,s,ds)=>s ++ ds:List Int) = E at c4 g2
 generalize PG.nb m = R at *
 have e101:(PV.tup [.int 101,.int 69]) = .tup (([101,69]:List Int).map .int):=rfl
 have e46:(PV.tup [.int 46]) = .tup (([46]:List Int).map .int):=rfl
 have f1':eN [.lst (R.map .int),.tup [.int 101,.int 69]] = .ok (.sh (.int base.length)):=f1
 have f2':eN [.lst (base.map .int),.tup [.int 46]] = .ok (.sh (.int ih.length)):=f2
 have g1':eL [.lst (ih.map .int ++ m.fr.map .int)] = .ok (.sh (.int (mwV m))):=by rw [<- List.map_append]; exact g1
 obtain ⟨z,hz⟩:∃ z,cW [.int (mwV m),.int (exV m.ex - m.fr.length)] = z:=⟨_,rfl⟩
 have hshape:(∃ x,z = .ok (.sh x)) \/ z = .bad \/ (∃ c fs,z = .exc c fs) \/ (∃ x,z = .ok (.fr x)) \/ (∃ x,z = .ok (.al x)):=by
  cases z with
  | ok r=>cases r with
    | sh x=>exact .inl ⟨x,rfl⟩
    | fr x=>exact .inr (.inr (.inr (.inl ⟨x,rfl⟩)))
    | al x=>exact .inr (.inr (.inr (.inr ⟨x,rfl⟩)))
  | exc c fs=>exact .inr (.inr (.inl ⟨c,fs,rfl⟩))
  | bad=>exact .inr (.inl rfl)
 have key:ju [.lst (R.map .int)] = fin ((cW [.int (mwV m),.int (exV m.ex - m.fr.length)]).bO [some (.sh (.lst (R.map .int))),some (.sh (.int base.length)),some (.sh (.lst (base.map .int))),some (.sh (.int ih.length)),some (.ow (m.fr.map .int))] fun r=>match r with | .al _=>.bad | r=>.rt [some (.sh (.lst (R.map .int))),some (.sh (.int base.length)),some (.sh (.lst (base.map .int))),some (.sh (.int ih.length)),some (.ow (m.fr.map .int))] r):=by
  simp -implicitDefEqProofs [tq,sI,tu,sT,qB,ju,f1',c1,jy,f2',c2,c3,hlim,g1',c4,g2]
  try rfl
 rw [key,hz]
 have hnal:∀ x,z ≠ .ok (.al x):=fun x e=>by
  rw [e] at hz
  unfold cW at hz
  simp only [vz,List.length_cons,List.length_nil,if_true] at hz
  revert hz
  generalize jD _ = q
  intro hz
  cases q with
  | rt ρ r=>cases r <;> cases hz
  | _=>cases hz
 rcases hshape with ⟨x,rfl⟩ | rfl | ⟨c,fs,rfl⟩ | ⟨x,rfl⟩ | ⟨x,rfl⟩
 . rfl
 . rfl
 . rfl
 . rfl
 . exact absurd rfl (hnal x)
theorem BI {xs:List PV} {x:PV}:atP (xs ++ [x]) (-1) = some x:=by
 unfold atP
 rw [show (xs ++ [x]).length = xs.length + 1 by simp,FO]
 simp
noncomputable abbrev NS0 (row:List Int) (tree:List PV) (un:List OV) (p:Int) (b i:Option Sl):ae:=[some (.sh (.lst (row.map .int))),some (.ow tree),some (.tr false (.ol un)),some (.sh (.int p)),b,i]
theorem pL {row:List Int} {tree:List PV} {un:List OV} {p e n:Int} {b:Int} {x y:Option Sl} {nm:Str} (ha:atP (row.map PV.int) p = some (.int b)) (h1:b ≠ 91) (h2:b ≠ 123) (h3:b ≠ 93) (h4:b ≠ 125) (h5:PG.wht b = false) (h6:b ≠ 44) (h7:b ≠ 58) (ht:tree.length <= 90000)
  (hleaf:ll [.lst (row.map .int),.int p,.int tree.length] = .ok (.sh (.tup [.str nm,.int p,.int e,.int n]))):
  cX (NS0 row tree un p x y) = .nx (NS0 row (tree ++ [.tup [.str nm,.int p,.int e,.int n]]) un e (some (.sh (.int b))) y):=by
 have hl:tree.length < lim:=kI (by omega)
 have z:∀ k:Int,b ≠ k -> (k == b) = false:=fun k h=>by simpa using fun q=>h q.symm
 have hlast:=BI (xs:=tree) (x:=.tup [.str nm,.int p,.int e,.int n])
 simp -implicitDefEqProofs [cX,ha,gIn,eW,b7,eV,z _ h1,z _ h2,z _ h3,z _ h4,z _ h6,z _ h7,fu,h5,hleaf,hl,hlast]
theorem vQ (row:List Int) (tree:List PV) (un:List OV) (p:Int) (b i:Option Sl):gV (NS0 row tree un p b i) = .ok (decide (p < row.length)):=by
 simp [gV]
theorem tI (row:List Int) (tree:List PV) (p:Int) (b i:Option Sl) (ys:List PV) (hf:PG.flt row = none) (hl:8 * row.length + 20 < 100000) (ht:tree.length <= 90000)
  (hw:cC gV cX fuel (NS0 row [] [] 0 none none) = .nx (NS0 row tree [] p b i)) (hy:dC nh [some (.sh (.lst tree))] (eZ tree.length) = .ok ys) (hyl:ys.length = tree.length):ia [.lst (row.map .int)] = .ok (.fr ys):=by
 have hr:=Bj row hl
 rw [hf] at hr
 have hlim:tree.length <= lim:=dY (by omega)
 have hb:-4611686018427387904 <= (tree.length:Int) /\ (tree.length:Int) < 4611686018427387904:=by omega
 have e5:pN (NS0 row tree [] p b i) = .rt [some (.sh (.lst (row.map .int))),some (.sh (.lst tree)),some (.tr false (.ol [])),some (.sh (.int p)),b,i] (.fr ys):=by
  have hfz:jy 1 (NS0 row tree [] p b i) = [some (.sh (.lst (row.map .int))),some (.sh (.lst tree)),some (.tr false (.ol [])),some (.sh (.int p)),b,i]:=rfl
  simp -implicitDefEqProofs [pN,hfz,dQ,hb,hy,hyl,hlim]
 have e2:ph [some (.sh (.lst (row.map .int))),some (.ow []),none,none,none,none] = .rt [some (.sh (.lst (row.map .int))),some (.sh (.lst tree)),some (.tr false (.ol [])),some (.sh (.int p)),b,i] (.fr ys):=by
  have hsd:p0 2 (mD (cu aE)) [some (.sh (.lst (row.map .int))),some (.ow []),none,none,none,none] = .nx [some (.sh (.lst (row.map .int))),some (.ow []),some (.tr false (.ol [])),none,none,none]:=by simp [p0,mD]
  simp -implicitDefEqProofs only [ph,km,hsd,fO,sM,rW,GL,gB,B1,List.set_cons_succ,List.set_cons_zero,sJ,hw,e5]
 simp -implicitDefEqProofs [ia,o3,hr,tH,e2]
theorem xQ {row:List Int} {tree:List PV} {un:List OV} {p:Int} {x y:Option Sl} (k:Bool) (ha:atP (row.map PV.int) p = some (.int (if k then 123 else 91))) (ht:tree.length <= 90000) (hu:un.length <= 90000):
  cX (NS0 row tree un p x y) = .nx (NS0 row (tree ++ [.tup [.str (if k then "fields" else "row"),.int p]]) (un ++ [.sh (.int (tree.length:Int))]) (p + 1) (some (.sh (.int (if k then 123 else 91)))) y):=by
 have h1:mI 2 fe (mD (mUn kM (ak 1))) [some (.sh (.lst (row.map .int))),some (.ow tree),some (.tr false (.ol un)),some (.sh (.int p)),some (.sh (.int (if k then 123 else 91))),y] = .nx [some (.sh (.lst (row.map .int))),some (.ow tree),some (.tr false (.ol (un ++ [.sh (.int (tree.length:Int))]))),some (.sh (.int p)),some (.sh (.int (if k then 123 else 91))),y]:=by
  refine v9 (ts:=un) (io:=false) rfl ?_ (kI (by omega))
  simp [mD]
 have hl:tree.length < lim:=kI (by omega)
 cases k <;> simp only [if_true,Bool.false_eq_true,if_false] at ha h1 ⊢ <;>
  simp -implicitDefEqProofs [cX,ha,gIn,eW,b7,eV,h1,yB,List.lookup,hl]
theorem wy {row:List Int} {tree:List PV} {un:List OV} {p b:Int} {x y:Option Sl} (ha:atP (row.map PV.int) p = some (.int b)) (hb:PG.wht b = true \/ b = 44 \/ b = 58):
  cX (NS0 row tree un p x y) = .nx (NS0 row tree un (p + 1) (some (.sh (.int b))) y):=by
 rcases hb with h | rfl | rfl
 . have hc:b = 9 \/ b = 10 \/ b = 13 \/ b = 32:=by
    unfold PG.wht at h
    simp only [Bool.or_eq_true,decide_eq_true_eq] at h
    omega
   rcases hc with rfl | rfl | rfl | rfl <;> simp -implicitDefEqProofs [cX,ha,gIn,eW,b7,eV,fu,PG.wht]
 . have hw:PG.wht 44 = false:=rfl
   simp -implicitDefEqProofs [cX,ha,gIn,eW,b7,eV,fu,hw]
 . have hw:PG.wht 58 = false:=rfl
   simp -implicitDefEqProofs [cX,ha,gIn,eW,b7,eV,fu,hw]
theorem vA {row:List Int} {tree:List PV} {un:List OV} {p a:Int} {j:Nat} {x y:Option Sl} {nm:Str} {rest:List PV} (k:Bool) (ha:atP (row.map PV.int) p = some (.int (if k then 125 else 93))) (he:tree[j]? = some (.tup (.str nm ::.int a ::rest))):
  cX (NS0 row tree (un ++ [.sh (.int (j:Int))]) p x y) = .nx (NS0 row (tree.set j (.tup [.str nm,.int a,.int (p + 1),.int (tree.length:Int)])) un (p + 1) (some (.sh (.int (if k then 125 else 93)))) (some (.sh (.int (j:Int))))):=by
 have h1:∀ u v z w,mT 5 (nP 2 fe) [u,v,some (.tr false (.ol (un ++ [.sh (.int (j:Int))]))),z,w,y] = .nx [u,v,some (.tr false (.ol un)),z,w,some (.sh (.int (j:Int)))]:=by
  intro u v z w
  unfold mT
  rw [Aa (ts:=un) (x:=.sh (.int (j:Int))) (io:=false) rfl]
  rfl
 have hj:j < tree.length:=(List.getElem?_eq_some_iff.mp he).1
 have hat:atP tree (j:Int) = some (.tup (.str nm ::.int a ::rest)):=by rw [ni,he]
 have hix:ixP tree.length (j:Int) = some j:=Dj _ _ hj
 cases k <;> simp only [if_true,Bool.false_eq_true,if_false] at ha ⊢ <;>
  simp -implicitDefEqProofs [cX,ha,gIn,eW,b7,eV,h1,hat,hix]
theorem pf {row:List Int} {tree:List PV} {un:List OV} {p:Int} {x y:Option Sl} {n:Nat} {s:ae} (h:p < row.length) (ht:cX (NS0 row tree un p x y) = .nx s):cC gV cX (n + 1) (NS0 row tree un p x y) = cC gV cX n s:=by
 have hc:=vQ row tree un p x y
 rw [show decide (p < (row.length:Int)) = true by simpa using h] at hc
 simp only [cC,hc,ft,if_true,ht,jv]
theorem DF {row:List Int} {tree:List PV} {un:List OV} {p:Int} {x y:Option Sl} {n:Nat} (h:¬ p < row.length):cC gV cX (n + 1) (NS0 row tree un p x y) = .nx (NS0 row tree un p x y):=by
 have hc:=vQ row tree un p x y
 rw [show decide (p < (row.length:Int)) = false by simpa using h] at hc
 simp only [cC,hc,ft,Bool.false_eq_true,if_false]
theorem qW {b:Int} (h:PG.plb b):PG.wht b = false /\ b ≠ 44 /\ b ≠ 93 /\ b ≠ 125 /\ b ≠ 91 /\ b ≠ 123 /\ b ≠ 58 /\ b ≠ 34:=by
 unfold PG.plb PG.isF at h
 refine ⟨?_,by omega,by omega,by omega,by omega,by omega,by omega,by omega⟩
 unfold PG.wht
 simp only [Bool.or_eq_false_iff,decide_eq_false_iff_not]
 omega
theorem xt (row:List Int) (a:Option Sl):∀ (body pre post:List Int) (n:Nat),row = pre ++ (body ++ post) -> (∀ b ∈ body,PG.wht b = false /\ b ≠ 44 /\ b ≠ 93 /\ b ≠ 125) -> (post = [] \/ ∃ y r,post = y ::r /\ (PG.wht y = true \/ y = 44 \/ y = 93 \/ y = 125)) -> body.length < n ->
  cC dE i0 n [some (.sh (.lst (row.map .int))),a,some (.sh (.int (pre.length:Int)))] = .nx [some (.sh (.lst (row.map .int))),a,some (.sh (.int ((pre.length + body.length:Nat):Int)))]:=by
 intro body
 induction body with
 | nil=>
   intro pre post n hr _ hp hn
   obtain ⟨m,rfl⟩:∃ m,n = m + 1:=⟨n - 1,by simp at hn; omega⟩
   have hc:dE [some (.sh (.lst (row.map .int))),a,some (.sh (.int (pre.length:Int)))] = .ok false:=by
    rcases hp with rfl | ⟨y,r,rfl,hy⟩
    . have:row = pre:=by simpa using hr
      subst this
      simp [dE]
    . have ha:atP (row.map PV.int) (pre.length:Int) = some (.int y):=mq (xs:=pre) (ys:=r) hr rfl
      have hl:pre.length < row.length:=by rw [hr]; simp
      cases hw:PG.wht y with
      | true=>simp [dE,ha,fu,hw,hl]
      | false=>
        rw [hw] at hy
        rcases hy with z | rfl | rfl | rfl
        . cases z
        . simp [dE,ha,fu,hw,hl,jm,eW,b7,eV]
        . simp [dE,ha,fu,hw,hl,jm,eW,b7,eV]
        . simp [dE,ha,fu,hw,hl,jm,eW,b7,eV]
   simp [cC,hc]
 | cons b body ih=>
   intro pre post n hr hb hp hn
   obtain ⟨m,rfl⟩:∃ m,n = m + 1:=⟨n - 1,by simp at hn; omega⟩
   have ha:atP (row.map PV.int) (pre.length:Int) = some (.int b):=mq (xs:=pre) (ys:=body ++ post) hr rfl
   have hl:pre.length < row.length:=by rw [hr]; simp
   obtain ⟨h1,h2,h3,h4⟩:=hb b List.mem_cons_self
   have z:∀ k:Int,b ≠ k -> ¬ k = b:=fun k h q=>h q.symm
   have hc:dE [some (.sh (.lst (row.map .int))),a,some (.sh (.int (pre.length:Int)))] = .ok true:=by
    simp [dE,ha,fu,h1,hl,jm,eW,b7,eV,z _ h2,z _ h3,z _ h4]
   have hb2:i0 [some (.sh (.lst (row.map .int))),a,some (.sh (.int (pre.length:Int)))] = .nx [some (.sh (.lst (row.map .int))),a,some (.sh (.int ((pre ++ [b]).length:Int)))]:=by simp [i0]
   have:=ih (pre ++ [b]) post m (by rw [hr]; simp) (fun x hx=>hb x (List.mem_cons_of_mem _ hx)) hp (by simp at hn; omega)
   simp only [cC,hc,ft,if_true,hb2,jv,this]
   have e:(pre ++ [b]).length + body.length = pre.length + (b ::body).length:=by simp; omega
   rw [e]
theorem xi (row pre body post:List Int) (hr:row = pre ++ (body ++ post)) (hb:∀ b ∈ body,PG.wht b = false /\ b ≠ 44 /\ b ≠ 93 /\ b ≠ 125) (hp:post = [] \/ ∃ y r,post = y ::r /\ (PG.wht y = true \/ y = 44 \/ y = 93 \/ y = 125)) (hl:row.length <= 90000):fJ [.lst (row.map .int),.int pre.length] = .ok (.sh (.int ((pre.length:Int) + body.length))):=by
 have h:=xt row (some (.sh (.int pre.length))) body pre post fuel hr hb hp (by unfold fuel; rw [hr] at hl; simp at hl; omega)
 have e:((pre.length + body.length:Nat):Int) = (pre.length:Int) + body.length:=by omega
 rw [e] at h
 simp -implicitDefEqProofs [nV,nO,ka,fJ,h]
theorem rV {m:PG.Nm} (h:PG.Nok m):∃ b r,PG.nb m = b ::r /\ (PG.isF b \/ b = 45):=by
 unfold PG.nb
 cases m.neg with
 | true=>exact ⟨45,_,rfl,.inr rfl⟩
 | false=>
   rcases h.ip with e | ⟨d,r,e,h1,h2,h3⟩
   . rw [e]; exact ⟨48,_,rfl,.inl (by decide)⟩
   . rw [e]; exact ⟨d,_,rfl,.inl (by unfold PG.isF; omega)⟩
theorem n6 (row pre post:List Int) (m:PG.Nm) (h:PG.Nok m) (i:Int) (hr:row = pre ++ (PG.nb m ++ post)) (hp:post = [] \/ ∃ y r,post = y ::r /\ (PG.wht y = true \/ y = 44 \/ y = 93 \/ y = 125)) (hl:row.length <= 90000):
  ll [.lst (row.map .int),.int pre.length,.int i] = .ok (.sh (.tup [.str "number",.int pre.length,.int ((pre.length:Int) + (PG.nb m).length),.int (i + 1)])):=by
 obtain ⟨b,r,e,hb⟩:=rV h
 have ha:atP (row.map PV.int) (pre.length:Int) = some (.int b):=mq (xs:=pre) (ys:=r ++ post) (by rw [hr,e]; simp) rfl
 have hpe:=xi row pre (PG.nb m) post hr (fun x hx=>by have:=qW (PG.mS h x hx); exact ⟨this.1,this.2.1,this.2.2.1,this.2.2.2.1⟩) hp hl
 have z:∀ k:Int,(k = 34 \/ k = 91 \/ k = 102 \/ k = 110 \/ k = 116 \/ k = 123) -> (b == k) = false:=fun k hk=>by
  unfold PG.isF at hb
  simp only [beq_eq_false_iff_ne,ne_eq]
  omega
 simp -implicitDefEqProofs [vZ,we,va,ud,ll,ha,lq,List.lookup,z 34 (by simp),z 91 (by simp),z 102 (by simp),z 110 (by simp),z 116 (by simp),z 123 (by simp),gNe,eqS,aH,hpe]
theorem vi (m:PG.Nm) (h:PG.Nok m) (hl:(PG.nb m).length <= 10000):ia [.lst ((PG.nb m).map .int)] = .ok (.fr [.tup [.str "number",.int 0,.int (PG.nb m).length,.int 1]]):=by
 have hleaf:=n6 (PG.nb m) [] [] m h 0 (by simp) (.inl rfl) (by omega)
 simp only [List.length_nil,Int.ofNat_zero,Int.cast_ofNat_Int,Int.zero_add] at hleaf
 obtain ⟨b,r,e,hb⟩:=rV h
 have hp:=qW (PG.mS h b (by rw [e]; simp))
 have ha:atP ((PG.nb m).map PV.int) 0 = some (.int b):=mq (xs:=[]) (ys:=r) (by rw [e]; rfl) rfl
 have ht:=pL (row:=PG.nb m) (tree:=[]) (un:=[]) (p:=0) (x:=none) (y:=none) ha hp.2.2.2.2.1 hp.2.2.2.2.2.1 hp.2.2.1 hp.2.2.2.1 hp.1 hp.2.1 hp.2.2.2.2.2.2.1 (by simp) hleaf
 have hpos:0 < (PG.nb m).length:=by rw [e]; simp
 have hflt:=PG.CV h
 generalize PG.nb m = R at *
 have hw:cC gV cX fuel (NS0 R [] [] 0 none none) = .nx (NS0 R [.tup [.str "number",.int 0,.int R.length,.int 1]] [] R.length (some (.sh (.int b))) none):=by
  obtain ⟨n,hn⟩:∃ n,fuel = n + 1 + 1:=⟨99998,rfl⟩
  simp only [List.nil_append] at ht
  rw [hn,pf (by omega) ht,DF (by omega)]
 refine tI R _ _ _ _ _ hflt (by omega) (by simp) hw ?_ rfl
 simp -implicitDefEqProofs [eZ,List.range,List.range.loop,dC,nh,jg,jh,hJ,eI,gNe,eqS,aH]
theorem ub (row pre post:List Int) (m:PG.Nm) (h:PG.Nok m) (tree:List PV) (k n:Int) (hr:row = pre ++ PG.nb m ++ post) (hl:row.length <= 80000)
  (ht:atP tree k = some (.tup [.str "number",.int pre.length,.int ((pre.length:Int) + (PG.nb m).length),.int n])) {x:PV} (hx:cW [.int (mwV m),.int (exV m.ex - m.fr.length)] = .ok (.sh x)):gc [.lst (row.map .int),.lst tree,.int k] = .ok (.sh x):=by
 have hc:=uI pre (PG.nb m) post
 rw [<- hr] at hc
 have hw:=Dr m h (by rw [hr] at hl; simp at hl; omega)
 rw [hx] at hw
 simp -implicitDefEqProofs [pT,pD,j9,gc,ht,gNe,eqS,aH,hc,hw]
noncomputable def dN (m:Nat):List Nat:=(Nat.toDigits 10 m).map Char.toNat
theorem Dm (m:Nat):(Str.ofString (toString ((m:Nat):Int))).cps.toList = dN m:=by
 rw [Str.ofString_eq_toList]
 have:(toString ((m:Nat):Int)).toList = Nat.toDigits 10 m:=by
  show (Nat.repr m).toList = _
  simp [Nat.repr]
 rw [this]
 rfl
theorem Bh (m:Nat):tZ (Str.ofString (toString ((m:Nat):Int))) = (dN m).map fun c=>PV.str ⟨#[c]⟩:=by
 unfold tZ
 rw [Dm]
theorem Au:∀ d:Nat,d < 10 -> (Nat.digitChar d).toNat = 48 + d:=by decide
theorem qy (m:Nat):(dN m).map (fun c:Nat=>(c:Int)) = PG.cV m:=by
 induction m using Nat.strongRecOn with
 | _ m ih=>
   rw [PG.cV]
   by_cases h:m < 10
   . rw [if_pos h]
     unfold dN
     rw [Nat.toDigits_of_lt_base h]
     simp [Au m h]
   . rw [if_neg h,<- ih (m / 10) (by omega)]
     unfold dN
     rw [Nat.toDigits_of_base_le (by decide) (by omega)]
     simp [Au (m % 10) (by omega)]
theorem Gd (m:Nat):∀ c ∈ dN m,48 <= c /\ c <= 57:=by
 intro c hc
 have h1:(c:Int) ∈ PG.cV m:=by rw [<- qy]; exact List.mem_map.mpr ⟨c,hc,rfl⟩
 have:=PG.vU m _ h1
 unfold PG.isF at this
 omega
theorem FW (m:Nat):(dN m).length = (PG.cV m).length:=by rw [<- qy]; simp
theorem Dq (m:Nat) (h:m < 100000):((m:Nat):Int).natAbs.log2 < 1920:=by
 have e:((m:Nat):Int).natAbs = m:=by omega
 rw [e]
 by_cases h0:m = 0
 . subst h0; decide
 . have:=(Nat.log2_lt h0 (k:=17)).mpr (by omega)
   omega
theorem vG {me:ae -> OE} {f:Nat -> PV} (m:Nat) (h:m < 100000) (hme:∀ c ∈ dN m,me ([] ++ [some (.sh (.str ⟨#[c]⟩))]) = .ok (.sh (f c))) (ma:ae -> OE) (ρ:ae) (ha:ma ρ = .ok (.sh (.int (m:Int)))):
  mZ (mUn mE ma) [] me ρ = .ok (.fr ((dN m).map f)):=by
 have h2:(dN m).length <= lim:=by
  rw [FW]
  have:=PG.mM 4 m (by omega)
  exact dY (by omega)
 have e1:(mUn mE ma) ρ = .ok (.sh (.str (Str.ofString (toString (m:Int))))):=by
  have:mE (.int m) = some (.sh (.str (Str.ofString (toString (m:Int))))):=if_pos (Dq m h)
  simp [ha,this]
 have hel:dC me [] ((dN m).map fun c=>PV.str ⟨#[c]⟩) = .ok ((dN m).map f):=pS _ hme
 rw [Ak,e1]
 simp only [OE.bind,RV.pv,Bh,dQ,List.map_nil,hel]
 simp [noX,h2]
theorem GY (c:Nat) (h:48 <= c /\ c <= 57):gK ([] ++ [some (.sh (.str ⟨#[c]⟩))]) = .ok (.sh (.int ((c:Int) - 48))):=by
 have:yH (.str ⟨#[c]⟩) = some (.sh (.int ((c:Int) - 48))):=if_pos h
 simp [gK,this]
theorem Fl (c:Nat):fE ([] ++ [some (.sh (.str ⟨#[c]⟩))]) = .ok (.sh (.int (c:Int))):=by
 have:BJ (.str ⟨#[c]⟩) = some (.sh (.int ((⟨#[c]⟩:Str).cps.getD 0 0:Nat))):=rfl
 simp [fE,this]
noncomputable def ws (ds:List Int):List Int:=ds.map (· - 48)
theorem wl1 (l:List Int):∀ (w:Int) (a b c d x e f g:Option Sl),∃ x',iP 5 fD (l.map .int) [a,b,c,d,some (.sh (.int w)),x,e,f,g] = .nx [a,b,c,d,some (.sh (.int (l.foldl (fun n d=>n * 10 + d) w))),x',e,f,g]:=by
 induction l with
 | nil=>intro w a b c d x e f g; exact ⟨x,rfl⟩
 | cons y l ih=>
   intro w a b c d x e f g
   obtain ⟨x',h⟩:=ih (w * 10 + y) a b c d (some (.sh (.int y))) e f g
   refine ⟨x',?_⟩
   have ht:fD [a,b,c,d,some (.sh (.int w)),some (.sh (.int y)),e,f,g] = .nx [a,b,c,d,some (.sh (.int (w * 10 + y))),some (.sh (.int y)),e,f,g]:=by simp -implicitDefEqProofs [fD]
   rw [List.map_cons,jP]
   simp only [List.set_cons_succ,List.set_cons_zero,ht,jv,h,List.foldl_cons]
theorem wl2 (l:List Int):∀ (row:List Int) (w p:Int) (a b c x f g:Option Sl),row.length + l.length <= 1000 -> ∃ x',iP 5 gy (l.map .int) [a,b,c,some (.ow (row.map .int)),some (.sh (.int w)),x,some (.sh (.int p)),f,g] = .nx [a,b,c,some (.ow ((row ++ l.map (48 + ·)).map .int)),some (.sh (.int (l.foldl (fun n d=>n * 10 + d) w))),x',some (.sh (.int (p - l.length))),f,g]:=by
 induction l with
 | nil=>intro row w p a b c x f g _; exact ⟨x,by simp⟩
 | cons y l ih=>
   intro row w p a b c x f g hl
   simp only [List.length_cons] at hl
   obtain ⟨x',h⟩:=ih (row ++ [48 + y]) (w * 10 + y) (p - 1) a b c (some (.sh (.int y))) f g (by simp; omega)
   refine ⟨x',?_⟩
   have hlim:row.length < lim:=kI (by omega)
   have ht:gy [a,b,c,some (.ow (row.map .int)),some (.sh (.int w)),some (.sh (.int y)),some (.sh (.int p)),f,g] = .nx [a,b,c,some (.ow ((row ++ [48 + y]).map .int)),some (.sh (.int (w * 10 + y))),some (.sh (.int y)),some (.sh (.int (p - 1))),f,g]:=by simp -implicitDefEqProofs [gy,hlim]
   rw [List.map_cons,jP]
   simp only [List.set_cons_succ,List.set_cons_zero,ht,jv,h,List.foldl_cons]
   have e1:p - 1 - (l.length:Int) = p - ((l.length:Int) + 1):=by omega
   simp [e1]
theorem xW (ds:List Int):∀ w,(ws ds).foldl (fun n d=>n * 10 + d) w = ds.foldl (fun n d=>10 * n + d - 48) w:=by
 induction ds with
 | nil=>intro w; rfl
 | cons d ds ih=>
   intro w
   simp only [ws,List.map_cons,List.foldl_cons] at ih ⊢
   have:w * 10 + (d - 48) = 10 * w + d - 48:=by omega
   rw [this]
   exact ih _
theorem Fb (ds:List Int):(ws ds).map (48 + ·) = ds:=by
 unfold ws
 rw [List.map_map]
 conv=>rhs; rw [<- List.map_id ds]
 refine List.map_congr_left fun x _=>?_
 show 48 + (x - 48) = x
 omega
theorem A2 (xs ys:List Int):PG.cv (xs ++ ys) = ys.foldl (fun n d=>10 * n + d - 48) (PG.cv xs):=by
 unfold PG.cv; rw [List.foldl_append]
noncomputable def bK (n:Int):List Int:=if n / 17 % 3 = 1 then ([48 + n / 19 % 10,48 + n / 23 % 4,48]:List Int).take (1 + n / 29 % 3).toNat else []
noncomputable def fK (n:Int):Option (Int × List Int × List Int):=if n / 31 % 3 = 1 then some (if n / 41 % 2 = 0 then 101 else 69,if n / 43 % 3 = 1 then [45] else if n / 43 % 3 = 2 then [43] else [],(if n / 47 % 4 = 1 then [48] else []) ++ PG.cV (n / 37 % 30).toNat) else none
noncomputable def ee (n:Int):PG.Nm:=⟨decide (n % 3 = 0),PG.cV (n / 3 % 100000).toNat,bK n,fK n⟩
theorem vW (n:Int):PG.Nok (ee n) where
 ip:=by
  by_cases h:(n / 3 % 100000).toNat = 0
  . left; show PG.cV _ = _; rw [h,PG.zy]
  . right; exact PG.zD _ (by omega)
 fr:=fun b hb=>by
  have hb':b ∈ bK n:=hb
  unfold bK at hb'
  split at hb'
  . have:=List.mem_of_mem_take hb'
    simp at this
    unfold PG.isF
    omega
  . cases hb'
 ex:=fun e s ds h=>by
  have h':fK n = some (e,s,ds):=h
  unfold fK at h'
  split at h'
  . injection h' with h'
    injection h' with h1 h'
    injection h' with h2 h3
    refine ⟨?_,?_,?_,?_⟩
    . rw [<- h1]; split <;> simp
    . rw [<- h2]; split
      . simp
      . split <;> simp
    . rw [<- h3]; intro z; exact PG.Ck _ (List.append_eq_nil_iff.mp z).2
    . rw [<- h3]; intro b hb
      rcases List.mem_append.mp hb with z | z
      . split at z
        . simp at z; subst z; decide
        . cases z
      . exact PG.vU _ b z
  . cases h'
theorem vK (k:Nat):∀ (n p:Int) (F:Nat),n ≠ 0 -> n.natAbs < 10 ^ k -> k < F -> cC hU iZ F [some (.sh (.int n)),some (.sh (.int p))] = .nx [some (.sh (.int (low k n).1)),some (.sh (.int (p + (low k n).2)))]:=by
 induction k with
 | zero=>intro n p F h0 h _; simp at h; omega
 | succ k ih=>
   intro n p F h0 h hF
   obtain ⟨F,rfl⟩:∃ G,F = G + 1:=⟨F - 1,by omega⟩
   unfold cC low
   by_cases hm:n % 10 = 0
   . rw [Nat.pow_succ] at h
     have h1:n / 10 ≠ 0:=by omega
     have h2:(n / 10).natAbs < 10 ^ k:=by generalize 10 ^ k = z at h; omega
     have:=ih (n / 10) (p + 1) F h1 h2 (by omega)
     have hc:hU [some (.sh (.int n)),some (.sh (.int p))] = .ok true:=by simp [hU,hm]
     have hb:iZ [some (.sh (.int n)),some (.sh (.int p))] = .nx [some (.sh (.int (n / 10))),some (.sh (.int (p + 1)))]:=by simp [iZ]
     simp [hc,hb,hm,this,Int.add_assoc,Int.add_comm 1]
   . simp [hU,hm]
noncomputable def pairOf (k:Nat) (n p:Int):PV:=if n = 0 then .tup [.int 0,.int 0] else .tup [.int (low k n).1,.int (p + (low k n).2)]
theorem Bf (k:Nat) (n p:Int) (h:n.natAbs < 10 ^ k) (hk:k <= 90000):eJ [.int n,.int p] = .ok (.sh (pairOf k n p)):=by
 unfold pairOf
 by_cases h0:n = 0
 . rw [if_pos h0,h0]; simp -implicitDefEqProofs [eJ,je]
 . rw [if_neg h0]
   have:=vK k n p fuel h0 h (by unfold fuel; omega)
   simp -implicitDefEqProofs [eJ,je,nR,nK,h0,this]
theorem Ge (k:Nat) (n p:Int) (h:n.natAbs < 10 ^ k) (hk:k <= 90000):cW [.int n,.int p] = .ok (.sh (pairOf k n p)):=by
 unfold pairOf
 by_cases h0:n = 0
 . rw [if_pos h0,h0]; exact xN p
 . rw [if_neg h0]; exact pI k n p h0 h hk
theorem Am (ds:List Int) (h:∀ b ∈ ds,PG.isF b):0 <= PG.cv ds /\ PG.cv ds < 10 ^ ds.length:=by
 have key:∀ (ds:List Int) (w:Int) (k:Nat),(∀ b ∈ ds,PG.isF b) -> 0 <= w /\ w < 10 ^ k -> 0 <= ds.foldl (fun n d=>10 * n + d - 48) w /\ ds.foldl (fun n d=>10 * n + d - 48) w < 10 ^ (k + ds.length):=by
  intro ds
  induction ds with
  | nil=>intro w k _ hw; simpa using hw
  | cons d ds ih=>
    intro w k hd hw
    have h1:=hd d List.mem_cons_self
    unfold PG.isF at h1
    have h2:(10:Int) ^ (k + 1) = 10 ^ k * 10:=Int.pow_succ 10 k
    have:=ih (10 * w + d - 48) (k + 1) (fun b hb=>hd b (List.mem_cons_of_mem _ hb)) ⟨by omega,by rw [h2]; omega⟩
    rw [List.foldl_cons,List.length_cons]
    rw [show k + 1 + ds.length = k + (ds.length + 1) by omega] at this
    exact this
 have:=key ds 0 0 h (by simp)
 rw [Nat.zero_add] at this
 exact this
theorem oH (m:PG.Nm) (h:PG.Nok m) (k:Nat) (hk:(m.ip ++ m.fr).length <= k):(mwV m).natAbs < 10 ^ k:=by
 have hip:∀ b ∈ m.ip ++ m.fr,PG.isF b:=by
  intro b hb
  rcases List.mem_append.mp hb with z | z
  . rcases h.ip with e | ⟨d,r,e,h1,h2,h3⟩
    . rw [e] at z; simp at z; subst z; decide
    . rw [e] at z
      rcases List.mem_cons.mp z with y | y
      . unfold PG.isF; omega
      . exact h3 b y
  . exact h.fr b z
 obtain ⟨b1,b2⟩:=Am _ hip
 have b3:(10:Int) ^ (m.ip ++ m.fr).length <= 10 ^ k:=by
  have:=Nat.pow_le_pow_right (n:=10) (by decide) hk
  have e1:((10 ^ (m.ip ++ m.fr).length:Nat):Int) = (10:Int) ^ (m.ip ++ m.fr).length:=by norm_cast
  have e2:((10 ^ k:Nat):Int) = (10:Int) ^ k:=by norm_cast
  omega
 have e2:((10 ^ k:Nat):Int) = (10:Int) ^ k:=by norm_cast
 unfold mwV
 split <;> omega
theorem u0 (n:Int) (hn:0 <= n):dc [.int n] = .ok (.sh (.tup [.lst ((PG.nb (ee n)).map .int),pairOf 20 (mwV (ee n)) (exV (ee n).ex - (ee n).fr.length)])):=by
 obtain ⟨K,hK⟩:∃ K:Nat,K = (n / 3 % 100000).toNat:=⟨_,rfl⟩
 have hK1:n / 3 % 100000 = (K:Int):=by omega
 have hK2:K < 100000:=by omega
 have hdl:=PG.mM 4 K (by omega)
 obtain ⟨sg,hsg⟩:∃ sg:List Int,sg = if n % 3 = 0 then [45] else []:=⟨_,rfl⟩
 have hsl:sg.length <= 1:=by rw [hsg]; split <;> simp
 have ok:=vW n
 have hfl:(bK n).length <= 3:=by unfold bK; split <;> simp; omega
 have hb20:=oH (ee n) ok 20 (by show (PG.cV (n / 3 % 100000).toNat ++ bK n).length <= 20; rw [<- hK]; simp; omega)
 have hpl:=Bf 20 (mwV (ee n)) (exV (ee n).ex - (ee n).fr.length) hb20 (by decide)
 have c1:bN 2 (mZ (mUn mE (mOp d9 (mOp gU (ak 0) (mC (.int 3))) (mC (.int 100000)))) [] gK) [some (.sh (.int n)),some (.sh (.bl (decide (n % 3 = 0)))),none,none,none,none,none,none,none] = .nx [some (.sh (.int n)),some (.sh (.bl (decide (n % 3 = 0)))),some (.ow ((ws (PG.cV K)).map .int)),none,none,none,none,none,none]:=by
  have:=vG (me:=gK) (f:=fun c=>.int ((c:Int) - 48)) K hK2 (fun c hc=>GY c (Gd K c hc)) (mOp d9 (mOp gU (ak 0) (mC (.int 3))) (mC (.int 100000))) [some (.sh (.int n)),some (.sh (.bl (decide (n % 3 = 0)))),none,none,none,none,none,none,none] (by simp -implicitDefEqProofs [hK1])
  rw [rW,this]
  have e:(dN K).map (fun c:Nat=>PV.int ((c:Int) - 48)) = (ws (PG.cV K)).map .int:=by
   rw [<- qy]; simp [ws,List.map_map,Function.comp_def]
  rw [e]
  rfl
 have c2:bN 3 (jz (d7 (ak 1)) (cu (ah (mC (.int 45)) aE)) (cu aE)) [some (.sh (.int n)),some (.sh (.bl (decide (n % 3 = 0)))),some (.ow ((ws (PG.cV K)).map .int)),none,none,none,none,none,none] = .nx [some (.sh (.int n)),some (.sh (.bl (decide (n % 3 = 0)))),some (.ow ((ws (PG.cV K)).map .int)),some (.ow (sg.map .int)),none,none,none,none,none]:=by
  rw [hsg]
  by_cases h:n % 3 = 0 <;> simp -implicitDefEqProofs [h]
 have hel:dC iG [] ((ws (PG.cV K)).map .int) = .ok ((PG.cV K).map .int):=by
  have:(PG.cV K).map PV.int = (ws (PG.cV K)).map fun x=>.int (48 + x):=by
   conv=>lhs; rw [<- Fb (PG.cV K)]
   rw [List.map_map]; rfl
  rw [this]
  exact pS _ fun x _=>by simp -implicitDefEqProofs [iG]
 have hdlim:(PG.cV K).length <= lim:=dY (by omega)
 have hslim:sg.length + (PG.cV K).length <= lim:=dY (by omega)
 have c3:bN 3 (mOp iC (ak 3) (qK (ak 2) [] iG)) [some (.sh (.int n)),some (.sh (.bl (decide (n % 3 = 0)))),some (.ow ((ws (PG.cV K)).map .int)),some (.ow (sg.map .int)),none,none,none,none,none] = .nx [some (.sh (.int n)),some (.sh (.bl (decide (n % 3 = 0)))),some (.ow ((ws (PG.cV K)).map .int)),some (.ow ((sg ++ PG.cV K).map .int)),none,none,none,none,none]:=by
  simp -implicitDefEqProofs [dQ,hel,hdlim,hslim]
 obtain ⟨x1,w1⟩:=wl1 (ws (PG.cV K)) 0 (some (.sh (.int n))) (some (.sh (.bl (decide (n % 3 = 0))))) (some (.sh (.lst ((ws (PG.cV K)).map .int)))) (some (.ow ((sg ++ PG.cV K).map .int))) none none none none
 rw [xW] at w1
 have w1':iP 5 fD ((ws (PG.cV K)).map .int) [some (.sh (.int n)),some (.sh (.bl (decide (n % 3 = 0)))),some (.sh (.lst ((ws (PG.cV K)).map .int))),some (.ow ((sg ++ PG.cV K).map .int)),some (.sh (.int 0)),none,none,none,none] = .nx [some (.sh (.int n)),some (.sh (.bl (decide (n % 3 = 0)))),some (.sh (.lst ((ws (PG.cV K)).map .int))),some (.ow ((sg ++ PG.cV K).map .int)),some (.sh (.int (PG.cv (PG.cV K)))),x1,none,none,none]:=w1
 obtain ⟨W,hW⟩:∃ W,W = ws (PG.cV K):=⟨_,rfl⟩
 obtain ⟨R1,hR1⟩:∃ R1,R1 = sg ++ PG.cV K:=⟨_,rfl⟩
 have hR1l:R1.length <= 6:=by rw [hR1]; simp; omega
 obtain ⟨V1,hV1⟩:∃ V1,V1 = PG.cv (PG.cV K):=⟨_,rfl⟩
 rw [<- hW,<- hR1,<- hV1] at w1'
 rw [<- hW] at c1 c2
 rw [<- hW,<- hR1] at c3
 have c4:∃ x2,bR (aP (mOp gEq (mOp d9 (mOp gU (ak 0) (mC (.int 17))) (mC (.int 3))) (mC (.int 1)))) (aR (ef 3 (mC (.int 46))) (qe 5 (rP (cu (ah (mOp d9 (mOp gU (ak 0) (mC (.int 19))) (mC (.int 10))) (ah (mOp d9 (mOp gU (ak 0) (mC (.int 23))) (mC (.int 4))) (ah (mC (.int 0)) aE)))) (mC .non) (lF (mOp gb (mC (.int 1)) (mOp d9 (mOp gU (ak 0) (mC (.int 29))) (mC (.int 3)))))) gy)) bc
   [some (.sh (.int n)),some (.sh (.bl (decide (n % 3 = 0)))),some (.sh (.lst (W.map .int))),some (.ow (R1.map .int)),some (.sh (.int V1)),x1,some (.sh (.int 0)),none,none] =
   .nx [some (.sh (.int n)),some (.sh (.bl (decide (n % 3 = 0)))),some (.sh (.lst (W.map .int))),some (.ow ((R1 ++ PG.frB (bK n)).map .int)),some (.sh (.int ((bK n).foldl (fun n d=>10 * n + d - 48) V1))),x2,some (.sh (.int (-((bK n).length:Int)))),none,none]:=by
  by_cases h17:n / 17 % 3 = 1
  . obtain ⟨L,hL⟩:∃ L:List Int,L = ([n / 19 % 10,n / 23 % 4,0]:List Int).take (1 + n / 29 % 3).toNat:=⟨_,rfl⟩
    have hLf:bK n = L.map (48 + ·):=by
     unfold bK
     rw [if_pos h17,hL,List.map_take]
     simp
    have hLl:L.length = (1 + n / 29 % 3).toNat:=by rw [hL]; simp; omega
    have hcut:lK [PV.int (n / 19 % 10),.int (n / 23 % 4),.int 0] none (some (1 + n / 29 % 3)) = L.map .int:=by
     have e1:kX 3 3 (some (1 + n / 29 % 3)) = (1 + n / 29 % 3).toNat:=by
      unfold kX; dsimp only; rw [if_neg (by omega)]; omega
     show ([PV.int (n / 19 % 10),.int (n / 23 % 4),.int 0].drop 0).take (kX 3 3 (some (1 + n / 29 % 3)) - 0) = _
     rw [e1,hL,List.map_take]
     rfl
    obtain ⟨x2,w2⟩:=wl2 L (R1 ++ [46]) V1 0 (some (.sh (.int n))) (some (.sh (.bl (decide (n % 3 = 0))))) (some (.sh (.lst (W.map .int)))) x1 none none (by simp; omega)
    refine ⟨x2,?_⟩
    have hne:bK n ≠ []:=by
     rw [hLf]
     intro z
     have:=congrArg List.length z
     simp [hLl] at this
     omega
    have hfold:L.foldl (fun n d=>n * 10 + d) V1 = (bK n).foldl (fun n d=>10 * n + d - 48) V1:=by
     have:=xW (bK n) V1
     rw [<- this,hLf]
     congr 1
     unfold ws
     rw [List.map_map]
     conv=>lhs; rw [<- List.map_id L]
     refine List.map_congr_left fun x _=>?_
     show x = 48 + x - 48
     omega
    have hrow:R1 ++ [46] ++ L.map (48 + ·) = R1 ++ PG.frB (bK n):=by
     unfold PG.frB
     rw [if_neg hne,hLf]; simp
    rw [hfold,hrow] at w2
    have hlen:(0:Int) - (L.length:Int) = -((bK n).length:Int):=by rw [hLf]; simp
    rw [hlen] at w2
    have hl1:R1.length < lim:=kI (by omega)
    have w2':=w2
    simp only [List.map_append,List.map_cons,List.map_nil] at w2'
    simp -implicitDefEqProofs [h17,hl1,hcut,w2']
  . refine ⟨x1,?_⟩
    have hf:bK n = []:=by unfold bK; rw [if_neg h17]
    rw [hf]
    simp -implicitDefEqProofs [h17,PG.frB]
 obtain ⟨x2,c4⟩:=c4
 obtain ⟨R2,hR2⟩:∃ R2,R2 = R1 ++ PG.frB (bK n):=⟨_,rfl⟩
 have hR2l:R2.length <= 10:=by
  rw [hR2]
  unfold PG.frB
  split <;> simp <;> omega
 have hV2:(bK n).foldl (fun n d=>10 * n + d - 48) V1 = PG.cv (PG.cV K ++ bK n):=by rw [A2,hV1]
 rw [hV2,<- hR2] at c4
 obtain ⟨V2,hV2e⟩:∃ V2,V2 = PG.cv (PG.cV K ++ bK n):=⟨_,rfl⟩
 rw [<- hV2e] at c4
 have c5:∃ y z,bR (aP (mOp gEq (mOp d9 (mOp gU (ak 0) (mC (.int 31))) (mC (.int 3))) (mC (.int 1)))) (aR (bN 7 (mOp d9 (mOp gU (ak 0) (mC (.int 37))) (mC (.int 30)))) (aR (ef 3 (mOp jB (cu (ah (mC (.int 101)) (ah (mC (.int 69)) aE))) (mOp d9 (mOp gU (ak 0) (mC (.int 41))) (mC (.int 2))))) (aR (bN 8 (mOp gEq (mOp d9 (mOp gU (ak 0) (mC (.int 43))) (mC (.int 3))) (mC (.int 1)))) (aR (bR (d7 (ak 8)) (ef 3 (mC (.int 45))) (bR (aP (mOp gEq (mOp d9 (mOp gU (ak 0) (mC (.int 43))) (mC (.int 3))) (mC (.int 2)))) (ef 3 (mC (.int 43))) bc)) (aR (bR (aP (mOp gEq (mOp d9 (mOp gU (ak 0) (mC (.int 47))) (mC (.int 4))) (mC (.int 1)))) (ef 3 (mC (.int 48))) bc) (aR (bN 3 (mOp iC (ak 3) (mZ (mUn mE (ak 7)) [] fE))) (bN 6 (mOp gb (ak 6) (jz (d7 (ak 8)) (mUn pV (ak 7)) (ak 7)))))))))) bc
   [some (.sh (.int n)),some (.sh (.bl (decide (n % 3 = 0)))),some (.sh (.lst (W.map .int))),some (.ow (R2.map .int)),some (.sh (.int V2)),x2,some (.sh (.int (-((bK n).length:Int)))),none,none] =
   .nx [some (.sh (.int n)),some (.sh (.bl (decide (n % 3 = 0)))),some (.sh (.lst (W.map .int))),some (.ow ((R2 ++ PG.exB (fK n)).map .int)),some (.sh (.int V2)),x2,some (.sh (.int (exV (fK n) - (bK n).length))),y,z]:=by
  by_cases h31:n / 31 % 3 = 1
  . obtain ⟨M,hM⟩:∃ M:Nat,M = (n / 37 % 30).toNat:=⟨_,rfl⟩
    have hM1:n / 37 % 30 = (M:Int):=by omega
    refine ⟨some (.sh (.int (M:Int))),some (.sh (.bl (decide (n / 43 % 3 = 1)))),?_⟩
    obtain ⟨eb,heb⟩:∃ eb:Int,eb = if n / 41 % 2 = 0 then 101 else 69:=⟨_,rfl⟩
    obtain ⟨sx,hsx⟩:∃ sx:List Int,sx = if n / 43 % 3 = 1 then [45] else if n / 43 % 3 = 2 then [43] else []:=⟨_,rfl⟩
    obtain ⟨zx,hzx⟩:∃ zx:List Int,zx = if n / 47 % 4 = 1 then [48] else []:=⟨_,rfl⟩
    have hex:fK n = some (eb,sx,zx ++ PG.cV M):=by unfold fK; rw [if_pos h31,heb,hsx,hzx,hM]
    have hsxl:sx.length <= 1:=by rw [hsx]; split
                                 . simp
                                 . split <;> simp
    have hzxl:zx.length <= 1:=by rw [hzx]; split <;> simp
    have hml:=PG.mM 4 M (by omega)
    have hat:atP [PV.int 101,.int 69] (n / 41 % 2) = some (.int eb):=by
     have:n / 41 % 2 = 0 \/ n / 41 % 2 = 1:=by omega
     rw [heb]
     rcases this with h | h <;> rw [h] <;> rfl
    have hcvz:PG.cv (zx ++ PG.cV M) = (M:Int):=by
     have:PG.cv (PG.cV M) = M:=PG.Ci M
     rw [hzx]
     split
     . rw [A2]; exact this
     . exact this
    have hexv:exV (fK n) = if n / 43 % 3 = 1 then -(M:Int) else (M:Int):=by
     rw [hex]
     show sv sx (zx ++ PG.cV M) = _
     unfold sv
     rw [hcvz,hsx]
     by_cases h1:n / 43 % 3 = 1
     . simp [h1]
     . by_cases h2:n / 43 % 3 = 2 <;> simp [h1,h2]
    have l1:R2.length < lim:=kI (by omega)
    have l2:R2.length + 1 < lim:=kI (by omega)
    obtain ⟨R3,hR3⟩:∃ R3,R3 = R2 ++ [eb]:=⟨_,rfl⟩
    have g1:ef 3 (mOp jB (cu (ah (mC (.int 101)) (ah (mC (.int 69)) aE))) (mOp d9 (mOp gU (ak 0) (mC (.int 41))) (mC (.int 2)))) [some (.sh (.int n)),some (.sh (.bl (decide (n % 3 = 0)))),some (.sh (.lst (W.map .int))),some (.ow (R2.map .int)),some (.sh (.int V2)),x2,some (.sh (.int (-((bK n).length:Int)))),some (.sh (.int (M:Int))),none] = .nx [some (.sh (.int n)),some (.sh (.bl (decide (n % 3 = 0)))),some (.sh (.lst (W.map .int))),some (.ow (R3.map .int)),some (.sh (.int V2)),x2,some (.sh (.int (-((bK n).length:Int)))),some (.sh (.int (M:Int))),none]:=by
     rw [hR3]; simp -implicitDefEqProofs [hat,l1]
    have hR3l:R3.length <= 11:=by rw [hR3]; simp; omega
    have l3:R3.length < lim:=kI (by omega)
    obtain ⟨R4,hR4⟩:∃ R4,R4 = R3 ++ sx:=⟨_,rfl⟩
    have g2:bR (d7 (ak 8)) (ef 3 (mC (.int 45))) (bR (aP (mOp gEq (mOp d9 (mOp gU (ak 0) (mC (.int 43))) (mC (.int 3))) (mC (.int 2)))) (ef 3 (mC (.int 43))) bc) [some (.sh (.int n)),some (.sh (.bl (decide (n % 3 = 0)))),some (.sh (.lst (W.map .int))),some (.ow (R3.map .int)),some (.sh (.int V2)),x2,some (.sh (.int (-((bK n).length:Int)))),some (.sh (.int (M:Int))),some (.sh (.bl (decide (n / 43 % 3 = 1))))] = .nx [some (.sh (.int n)),some (.sh (.bl (decide (n % 3 = 0)))),some (.sh (.lst (W.map .int))),some (.ow (R4.map .int)),some (.sh (.int V2)),x2,some (.sh (.int (-((bK n).length:Int)))),some (.sh (.int (M:Int))),some (.sh (.bl (decide (n / 43 % 3 = 1))))]:=by
     rw [hR4,hsx]
     by_cases h1:n / 43 % 3 = 1
     . simp -implicitDefEqProofs [h1,l3]
     . by_cases h2:n / 43 % 3 = 2 <;> simp -implicitDefEqProofs [h1,h2,l3]
    have hR4l:R4.length <= 12:=by rw [hR4]; simp; omega
    have l4:R4.length < lim:=kI (by omega)
    obtain ⟨R5,hR5⟩:∃ R5,R5 = R4 ++ zx:=⟨_,rfl⟩
    have g3:bR (aP (mOp gEq (mOp d9 (mOp gU (ak 0) (mC (.int 47))) (mC (.int 4))) (mC (.int 1)))) (ef 3 (mC (.int 48))) bc [some (.sh (.int n)),some (.sh (.bl (decide (n % 3 = 0)))),some (.sh (.lst (W.map .int))),some (.ow (R4.map .int)),some (.sh (.int V2)),x2,some (.sh (.int (-((bK n).length:Int)))),some (.sh (.int (M:Int))),some (.sh (.bl (decide (n / 43 % 3 = 1))))] = .nx [some (.sh (.int n)),some (.sh (.bl (decide (n % 3 = 0)))),some (.sh (.lst (W.map .int))),some (.ow (R5.map .int)),some (.sh (.int V2)),x2,some (.sh (.int (-((bK n).length:Int)))),some (.sh (.int (M:Int))),some (.sh (.bl (decide (n / 43 % 3 = 1))))]:=by
     rw [hR5,hzx]
     by_cases h1:n / 47 % 4 = 1 <;> simp -implicitDefEqProofs [h1,l4]
    have hR5l:R5.length <= 13:=by rw [hR5]; simp; omega
    have l5:R5.length + (PG.cV M).length <= lim:=dY (by omega)
    have hcs:=vG (me:=fE) (f:=fun c=>.int (c:Int)) M (by omega) (fun c _=>Fl c) (ak 7) [some (.sh (.int n)),some (.sh (.bl (decide (n % 3 = 0)))),some (.sh (.lst (W.map .int))),some (.ow (R5.map .int)),some (.sh (.int V2)),x2,some (.sh (.int (-((bK n).length:Int)))),some (.sh (.int (M:Int))),some (.sh (.bl (decide (n / 43 % 3 = 1))))] (by simp)
    have hdd:(dN M).map (fun c:Nat=>PV.int (c:Int)) = (PG.cV M).map .int:=by rw [<- qy,List.map_map]; rfl
    rw [hdd] at hcs
    have g4:bN 3 (mOp iC (ak 3) (mZ (mUn mE (ak 7)) [] fE)) [some (.sh (.int n)),some (.sh (.bl (decide (n % 3 = 0)))),some (.sh (.lst (W.map .int))),some (.ow (R5.map .int)),some (.sh (.int V2)),x2,some (.sh (.int (-((bK n).length:Int)))),some (.sh (.int (M:Int))),some (.sh (.bl (decide (n / 43 % 3 = 1))))] = .nx [some (.sh (.int n)),some (.sh (.bl (decide (n % 3 = 0)))),some (.sh (.lst (W.map .int))),some (.ow ((R5 ++ PG.cV M).map .int)),some (.sh (.int V2)),x2,some (.sh (.int (-((bK n).length:Int)))),some (.sh (.int (M:Int))),some (.sh (.bl (decide (n / 43 % 3 = 1))))]:=by
     simp -implicitDefEqProofs only [rW,yt,hcs,xw,List.getElem?_cons_succ,List.getElem?_cons_zero,jG,zN,vF,w9,List.length_map,l5,if_true,oP,gB,ug,List.set_cons_succ,List.set_cons_zero,List.map_append]
    have hRex:R5 ++ PG.cV M = R2 ++ PG.exB (fK n):=by
     rw [hex,hR5,hR4,hR3]
     show _ = R2 ++ (eb ::(sx ++ (zx ++ PG.cV M)))
     simp
    rw [hRex] at g4
    have g5:bN 6 (mOp gb (ak 6) (jz (d7 (ak 8)) (mUn pV (ak 7)) (ak 7))) [some (.sh (.int n)),some (.sh (.bl (decide (n % 3 = 0)))),some (.sh (.lst (W.map .int))),some (.ow ((R2 ++ PG.exB (fK n)).map .int)),some (.sh (.int V2)),x2,some (.sh (.int (-((bK n).length:Int)))),some (.sh (.int (M:Int))),some (.sh (.bl (decide (n / 43 % 3 = 1))))] = .nx [some (.sh (.int n)),some (.sh (.bl (decide (n % 3 = 0)))),some (.sh (.lst (W.map .int))),some (.ow ((R2 ++ PG.exB (fK n)).map .int)),some (.sh (.int V2)),x2,some (.sh (.int (exV (fK n) - (bK n).length))),some (.sh (.int (M:Int))),some (.sh (.bl (decide (n / 43 % 3 = 1))))]:=by
     rw [hexv]
     generalize (R2 ++ PG.exB (fK n)).map PV.int = RR
     by_cases h1:n / 43 % 3 = 1
     . have e:-((bK n).length:Int) + -(M:Int) = -(M:Int) - (bK n).length:=by omega
       simp -implicitDefEqProofs [h1,e]
     . have e:-((bK n).length:Int) + (M:Int) = (M:Int) - (bK n).length:=by omega
       simp -implicitDefEqProofs [h1,e]
    have g0:bN 7 (mOp d9 (mOp gU (ak 0) (mC (.int 37))) (mC (.int 30))) [some (.sh (.int n)),some (.sh (.bl (decide (n % 3 = 0)))),some (.sh (.lst (W.map .int))),some (.ow (R2.map .int)),some (.sh (.int V2)),x2,some (.sh (.int (-((bK n).length:Int)))),none,none] = .nx [some (.sh (.int n)),some (.sh (.bl (decide (n % 3 = 0)))),some (.sh (.lst (W.map .int))),some (.ow (R2.map .int)),some (.sh (.int V2)),x2,some (.sh (.int (-((bK n).length:Int)))),some (.sh (.int (M:Int))),none]:=by
     simp -implicitDefEqProofs [hM1]
    have g1b:bN 8 (mOp gEq (mOp d9 (mOp gU (ak 0) (mC (.int 43))) (mC (.int 3))) (mC (.int 1))) [some (.sh (.int n)),some (.sh (.bl (decide (n % 3 = 0)))),some (.sh (.lst (W.map .int))),some (.ow (R3.map .int)),some (.sh (.int V2)),x2,some (.sh (.int (-((bK n).length:Int)))),some (.sh (.int (M:Int))),none] = .nx [some (.sh (.int n)),some (.sh (.bl (decide (n % 3 = 0)))),some (.sh (.lst (W.map .int))),some (.ow (R3.map .int)),some (.sh (.int V2)),x2,some (.sh (.int (-((bK n).length:Int)))),some (.sh (.int (M:Int))),some (.sh (.bl (decide (n / 43 % 3 = 1))))]:=by
     simp -implicitDefEqProofs
    have gt:aP (mOp gEq (mOp d9 (mOp gU (ak 0) (mC (.int 31))) (mC (.int 3))) (mC (.int 1))) [some (.sh (.int n)),some (.sh (.bl (decide (n % 3 = 0)))),some (.sh (.lst (W.map .int))),some (.ow (R2.map .int)),some (.sh (.int V2)),x2,some (.sh (.int (-((bK n).length:Int)))),none,none] = .ok true:=by
     simp -implicitDefEqProofs [h31]
    rw [uG,gt]
    simp only [ft,if_true,km,g0,fO,g1,g1b,g2,g3,g4,g5]
  . refine ⟨none,none,?_⟩
    have hex:fK n = none:=by unfold fK; rw [if_neg h31]
    rw [hex]
    have e:(0:Int) - ((bK n).length:Int) = -((bK n).length:Int):=by omega
    simp -implicitDefEqProofs [h31,PG.exB,exV,e]
 obtain ⟨y,z,c5⟩:=c5
 have hnb:R2 ++ PG.exB (fK n) = PG.nb (ee n):=by
  rw [hR2,hR1,hsg]
  show _ = (if (decide (n % 3 = 0)) = true then [45] else []) ++ (PG.cV (n / 3 % 100000).toNat ++ (PG.frB (bK n) ++ PG.exB (fK n)))
  rw [<- hK]
  simp
 rw [hnb] at c5
 have hmw:(if n % 3 = 0 then -V2 else V2) = mwV (ee n):=by
  rw [hV2e]
  show _ = (if decide (n % 3 = 0) = true then -PG.cv (PG.cV (n / 3 % 100000).toNat ++ bK n) else PG.cv (PG.cV (n / 3 % 100000).toNat ++ bK n))
  rw [<- hK]
  simp
 have c6:bR (d7 (ak 1)) (bN 4 (mUn pV (ak 4))) bc [some (.sh (.int n)),some (.sh (.bl (decide (n % 3 = 0)))),some (.sh (.lst (W.map .int))),some (.ow ((PG.nb (ee n)).map .int)),some (.sh (.int V2)),x2,some (.sh (.int (exV (fK n) - (bK n).length))),y,z] = .nx [some (.sh (.int n)),some (.sh (.bl (decide (n % 3 = 0)))),some (.sh (.lst (W.map .int))),some (.ow ((PG.nb (ee n)).map .int)),some (.sh (.int (mwV (ee n)))),x2,some (.sh (.int (exV (fK n) - (bK n).length))),y,z]:=by
  rw [<- hmw]
  by_cases h:n % 3 = 0 <;> simp -implicitDefEqProofs [h]
 have hpl':eJ [.int (mwV (ee n)),.int (exV (fK n) - (bK n).length)] = .ok (.sh (pairOf 20 (mwV (ee n)) (exV (fK n) - (bK n).length))):=hpl
 have c7:fin (jo [some (.sh (.int n)),some (.sh (.bl (decide (n % 3 = 0)))),some (.sh (.lst (W.map .int))),some (.ow ((PG.nb (ee n)).map .int)),some (.sh (.int (mwV (ee n)))),x2,some (.sh (.int (exV (fK n) - (bK n).length))),y,z]) = .ok (.sh (.tup [.lst ((PG.nb (ee n)).map .int),pairOf 20 (mwV (ee n)) (exV (fK n) - (bK n).length)])):=by
  generalize PG.nb (ee n) = RR
  simp -implicitDefEqProofs [jo,jy,hpl']
 have c0:bN 1 (mOp gEq (mOp d9 (ak 0) (mC (.int 3))) (mC (.int 0))) [some (.sh (.int n)),none,none,none,none,none,none,none,none] = .nx [some (.sh (.int n)),some (.sh (.bl (decide (n % 3 = 0)))),none,none,none,none,none,none,none]:=by
  simp -implicitDefEqProofs
 have c3b:bN 4 (mC (.int 0)) [some (.sh (.int n)),some (.sh (.bl (decide (n % 3 = 0)))),some (.ow (W.map .int)),some (.ow (R1.map .int)),none,none,none,none,none] = .nx [some (.sh (.int n)),some (.sh (.bl (decide (n % 3 = 0)))),some (.ow (W.map .int)),some (.ow (R1.map .int)),some (.sh (.int 0)),none,none,none,none]:=by simp -implicitDefEqProofs
 have c3c:gi 2 (qe 5 (ak 2) fD) [some (.sh (.int n)),some (.sh (.bl (decide (n % 3 = 0)))),some (.ow (W.map .int)),some (.ow (R1.map .int)),some (.sh (.int 0)),none,none,none,none] = .nx [some (.sh (.int n)),some (.sh (.bl (decide (n % 3 = 0)))),some (.sh (.lst (W.map .int))),some (.ow (R1.map .int)),some (.sh (.int V1)),x1,none,none,none]:=by
  simp -implicitDefEqProofs [jy,w1']
 have c3d:bN 6 (mC (.int 0)) [some (.sh (.int n)),some (.sh (.bl (decide (n % 3 = 0)))),some (.sh (.lst (W.map .int))),some (.ow (R1.map .int)),some (.sh (.int V1)),x1,none,none,none] = .nx [some (.sh (.int n)),some (.sh (.bl (decide (n % 3 = 0)))),some (.sh (.lst (W.map .int))),some (.ow (R1.map .int)),some (.sh (.int V1)),x1,some (.sh (.int 0)),none,none]:=by simp -implicitDefEqProofs
 simp -implicitDefEqProofs only [dc,iE,vz,ot,List.map_cons,List.map_nil,List.length_cons,List.length_nil,List.replicate,List.cons_append,List.nil_append,km,c0,fO,lP,c1,mf,c2,lS,c3,lZ,c3b,lY,c3c,mi,c3d,mG,c4,lX,c5,mW,c6]
 exact c7
theorem zj (k:Nat) (w:Int) (h:w % 10 ≠ 0):low k w = (w,0):=by
 cases k with
 | zero=>rfl
 | succ k=>unfold low; rw [if_neg h]
theorem yJ (l:List PV) (F:Int):∀ (w:Int) (a b d e x:Option Sl) (g:Option Sl),∃ x',iP 6 gR l [a,b,some (.sh (.int F)),d,e,some (.sh (.int w)),x,g] = .nx [a,b,some (.sh (.int F)),d,e,some (.sh (.int ((List.replicate l.length F).foldl (fun n d=>10 * n + d - 48) w))),x',g]:=by
 induction l with
 | nil=>intro w a b d e x g; exact ⟨x,rfl⟩
 | cons v l ih=>
   intro w a b d e x g
   obtain ⟨x',h⟩:=ih (10 * w + F - 48) a b d e (some (.sh v)) g
   refine ⟨x',?_⟩
   have e0:w * 10 + F - 48 = 10 * w + F - 48:=by omega
   have ht:gR [a,b,some (.sh (.int F)),d,e,some (.sh (.int w)),some (.sh v),g] = .nx [a,b,some (.sh (.int F)),d,e,some (.sh (.int (10 * w + F - 48))),some (.sh v),g]:=by simp -implicitDefEqProofs [gR,e0]
   rw [jP]
   simp only [List.set_cons_succ,List.set_cons_zero,ht,jv,h,List.length_cons,List.replicate_succ,List.foldl_cons]
theorem Cu (n:Nat) (x:Int):(List.replicate n [PV.int x]).flatten = (List.replicate n x).map .int:=by
 induction n with
 | zero=>rfl
 | succ n ih=>rw [List.replicate_succ,List.flatten_cons,ih,List.replicate_succ]; rfl
noncomputable def eB (d:Bool) (F:Int) (s z:Nat):PG.Nm:=if d then ⟨false,[48],List.replicate z 48 ++ List.replicate s F,none⟩ else ⟨false,List.replicate s F ++ List.replicate z 48,[],none⟩
theorem Cp (xs:List Int) (z:Nat):PG.cv (xs ++ List.replicate z 48) = PG.cv xs * 10 ^ z:=by
 induction z with
 | zero=>simp
 | succ z ih=>
   have e:PG.cv xs * 10 ^ (z + 1) = PG.cv xs * 10 ^ z * 10:=by rw [Int.pow_succ,Int.mul_assoc]
   rw [List.replicate_succ',<- List.append_assoc,PG.uw,ih,e]
   omega
theorem A7 (z:Nat) (ys:List Int):PG.cv (48 ::(List.replicate z 48 ++ ys)) = PG.cv ys:=by
 have h0:∀ z,(List.replicate z (48:Int)).foldl (fun n d=>10 * n + d - 48) 0 = 0:=by
  intro z
  induction z with
  | zero=>rfl
  | succ z ih=>rw [List.replicate_succ,List.foldl_cons]; exact ih
 show ((48:Int) ::(List.replicate z 48 ++ ys)).foldl (fun n d=>10 * n + d - 48) 0 = _
 rw [List.foldl_cons,List.foldl_append]
 have:(10:Int) * 0 + 48 - 48 = 0:=rfl
 rw [this,h0]
 rfl
theorem v5 (s:Nat) (F:Int) (hF:49 <= F /\ F <= 57):PG.cv (List.replicate (s + 1) F) % 10 ≠ 0:=by
 rw [List.replicate_succ',PG.uw]
 omega
theorem sN (d:Bool) (F:Int) (s z:Nat) (hF:49 <= F /\ F <= 57) (hs:0 < s):PG.Nok (eB d F s z):=by
 have r0:∀ b ∈ List.replicate z (48:Int),PG.isF b:=fun b hb=>by rw [(List.mem_replicate.mp hb).2]; decide
 have r1:∀ s,∀ b ∈ List.replicate s F,PG.isF b:=fun s b hb=>by rw [(List.mem_replicate.mp hb).2]; unfold PG.isF; omega
 cases d with
 | true=>
   refine ⟨.inl rfl,fun b hb=>?_,fun e s ds h=>by cases h⟩
   rcases List.mem_append.mp hb with y | y
   . exact r0 b y
   . exact r1 s b y
 | false=>
   refine ⟨.inr ?_,(fun b hb=>by cases hb),(fun e s ds h=>by cases h)⟩
   obtain ⟨s',rfl⟩:∃ s',s = s' + 1:=⟨s - 1,by omega⟩
   refine ⟨F,List.replicate s' F ++ List.replicate z 48,by simp [eB,List.replicate_succ],hF.1,hF.2,fun b hb=>?_⟩
   rcases List.mem_append.mp hb with y | y
   . exact r1 s' b y
   . exact r0 b y
theorem zl (d:Bool) (F:Int) (s z:Nat) (hF:49 <= F /\ F <= 57) (hs:0 < s) (hz:s + z + 1 <= 400):cW [.int (mwV (eB d F s z)),.int (exV (eB d F s z).ex - (eB d F s z).fr.length)] = .ok (.sh (.tup [.int (PG.cv (List.replicate s F)),.int (if d then -(z:Int) - s else (z:Int))])):=by
 obtain ⟨s',rfl⟩:∃ s',s = s' + 1:=⟨s - 1,by omega⟩
 have hl:=v5 s' F hF
 have hne:PG.cv (List.replicate (s' + 1) F) ≠ 0:=fun e=>hl (by rw [e]; rfl)
 have ok:=sN d F (s' + 1) z hF hs
 cases d with
 | true=>
   have hm:mwV (eB true F (s' + 1) z) = PG.cv (List.replicate (s' + 1) F):=by
    show PG.cv ([48] ++ (List.replicate z 48 ++ List.replicate (s' + 1) F)) = _
    exact A7 z _
   have hb:=oH (eB true F (s' + 1) z) ok 401 (by show ([48] ++ (List.replicate z 48 ++ List.replicate (s' + 1) F)).length <= 401; simp; omega)
   rw [hm] at hb ⊢
   rw [pI 401 _ _ hne hb (by decide),zj 401 _ hl]
   have:exV (eB true F (s' + 1) z).ex - ((eB true F (s' + 1) z).fr.length:Int) = -(z:Int) - ((s' + 1:Nat):Int):=by
    show (0:Int) - (((List.replicate z (48:Int) ++ List.replicate (s' + 1) F).length:Nat):Int) = _
    simp; omega
   rw [this]
   simp
 | false=>
   have hm:mwV (eB false F (s' + 1) z) = PG.cv (List.replicate (s' + 1) F) * 10 ^ z:=by
    show PG.cv ((List.replicate (s' + 1) F ++ List.replicate z 48) ++ []) = _
    rw [List.append_nil]
    exact Cp _ z
   have hb:=oH (eB false F (s' + 1) z) ok 401 (by show ((List.replicate (s' + 1) F ++ List.replicate z 48) ++ []).length <= 401; simp; omega)
   rw [hm] at hb ⊢
   have hne2:PG.cv (List.replicate (s' + 1) F) * 10 ^ z ≠ 0:=Int.mul_ne_zero hne (Int.ne_of_gt (Int.pow_pos (by decide)))
   obtain ⟨g1,g2⟩:=Bo 401 _ hne2 hb
   obtain ⟨u1,u2⟩:=A1 g1.symm g2 hl
   rw [pI 401 _ _ hne2 hb (by decide),u1,u2]
   have:exV (eB false F (s' + 1) z).ex - ((eB false F (s' + 1) z).fr.length:Int) = 0:=rfl
   rw [this]
   simp
theorem xm (ns:List Int):∃ (d:Bool) (F:Int) (s z:Nat),(49 <= F /\ F <= 57) /\ 0 < s /\ s + z + 1 <= 400 /\ fR [.lst (ns.map .int)] = .ok (.sh (.tup [.lst ((PG.nb (eB d F s z)).map .int),.tup [.int (PG.cv (List.replicate s F)),.int (if d then -(z:Int) - s else (z:Int))]])):=by
 have m3:=PG.qR ns 3
 have m4:=PG.qR ns 4
 have m5:=PG.qR ns 5
 obtain ⟨s,hs⟩:∃ s:Nat,1 + PG.mix ns 3 % 300 = (s:Int):=⟨(1 + PG.mix ns 3 % 300).toNat,by omega⟩
 obtain ⟨F,hF⟩:∃ F:Int,F = 49 + PG.mix ns 4 % 9:=⟨_,rfl⟩
 obtain ⟨z,hz⟩:∃ z:Nat,PG.mix ns 5 % 40 = (z:Int):=⟨(PG.mix ns 5 % 40).toNat,by omega⟩
 obtain ⟨d,hd⟩:∃ d:Bool,d = decide (PG.mix ns 1 % 2 = 1):=⟨_,rfl⟩
 refine ⟨d,F,s,z,by omega,by omega,by omega,?_⟩
 have l1:s <= lim:=dY (by omega)
 have l2:z <= lim:=dY (by omega)
 have l3:s + z <= lim:=dY (by omega)
 have hr:∀ (ρ:ae) (x:Int) (n:Nat) (ma mb:ae -> OE),ma ρ = .ok (.fr [.int x]) -> mb ρ = .ok (.sh (.int (n:Int))) -> n <= 400 -> pz ma mb ρ = .ok (.fr ((List.replicate n x).map .int)):=by
  intro ρ x n ma mb ha hb hn
  have c1:(-9223372036854775808:Int) <= (n:Int):=by omega
  have c1b:(n:Int) < 9223372036854775808:=by omega
  have c2:n <= lim:=dY (by omega)
  have e:=Cu n x
  simp -implicitDefEqProofs [ha,hb,c1,c1b,c2,e]
 have b3:(-4611686018427387904:Int) <= (s:Int) /\ (s:Int) < 4611686018427387904:=by omega
 obtain ⟨x',w1⟩:=yJ (eZ s) F 0 (some (.sh (.lst (ns.map .int)))) (some (.sh (.int (s:Int)))) (some (.sh (.int (z:Int)))) (some (.ow ((List.replicate s F ++ List.replicate z 48).map .int))) none none
 rw [wO] at w1
 have w1':iP 6 gR (eZ s) [some (.sh (.lst (ns.map .int))),some (.sh (.int (s:Int))),some (.sh (.int F)),some (.sh (.int (z:Int))),some (.ow ((List.replicate s F ++ List.replicate z 48).map .int)),some (.sh (.int 0)),none,none] = .nx [some (.sh (.lst (ns.map .int))),some (.sh (.int (s:Int))),some (.sh (.int F)),some (.sh (.int (z:Int))),some (.ow ((List.replicate s F ++ List.replicate z 48).map .int)),some (.sh (.int (PG.cv (List.replicate s F)))),x',none]:=w1
 have c0:bN 1 (mOp gb (mC (.int 1)) (mOp d9 (aX bM (ah (ak 0) (ah (mC (.int 3)) aE))) (mC (.int 300)))) [some (.sh (.lst (ns.map .int))),none,none,none,none,none,none,none] = .nx [some (.sh (.lst (ns.map .int))),some (.sh (.int (s:Int))),none,none,none,none,none,none]:=by simp -implicitDefEqProofs [fF,hs]
 have c1:bN 2 (mOp gb (mC (.int 49)) (mOp d9 (aX bM (ah (ak 0) (ah (mC (.int 4)) aE))) (mC (.int 9)))) [some (.sh (.lst (ns.map .int))),some (.sh (.int (s:Int))),none,none,none,none,none,none] = .nx [some (.sh (.lst (ns.map .int))),some (.sh (.int (s:Int))),some (.sh (.int F)),none,none,none,none,none]:=by simp -implicitDefEqProofs [fF,hF]
 have c2:bN 3 (mOp d9 (aX bM (ah (ak 0) (ah (mC (.int 5)) aE))) (mC (.int 40))) [some (.sh (.lst (ns.map .int))),some (.sh (.int (s:Int))),some (.sh (.int F)),none,none,none,none,none] = .nx [some (.sh (.lst (ns.map .int))),some (.sh (.int (s:Int))),some (.sh (.int F)),some (.sh (.int (z:Int))),none,none,none,none]:=by simp -implicitDefEqProofs [fF,hz]
 have r1:=hr [some (.sh (.lst (ns.map .int))),some (.sh (.int (s:Int))),some (.sh (.int F)),some (.sh (.int (z:Int))),none,none,none,none] F s (cu (ah (ak 2) aE)) (ak 1) (by simp) (by simp) (by omega)
 have r2:=hr [some (.sh (.lst (ns.map .int))),some (.sh (.int (s:Int))),some (.sh (.int F)),some (.sh (.int (z:Int))),none,none,none,none] 48 z (cu (ah (mC (.int 48)) aE)) (ak 3) (by simp) (by simp) (by omega)
 have c3:bN 4 (mOp iC (pz (cu (ah (ak 2) aE)) (ak 1)) (pz (cu (ah (mC (.int 48)) aE)) (ak 3))) [some (.sh (.lst (ns.map .int))),some (.sh (.int (s:Int))),some (.sh (.int F)),some (.sh (.int (z:Int))),none,none,none,none] = .nx [some (.sh (.lst (ns.map .int))),some (.sh (.int (s:Int))),some (.sh (.int F)),some (.sh (.int (z:Int))),some (.ow ((List.replicate s F ++ List.replicate z 48).map .int)),none,none,none]:=by
  simp -implicitDefEqProofs only [rW,yt,r1,r2,jG,vF,w9,List.length_map,List.length_replicate,l3,if_true,oP,gB,ug,List.set_cons_succ,List.set_cons_zero,List.map_append]
 have c4:bN 5 (mC (.int 0)) [some (.sh (.lst (ns.map .int))),some (.sh (.int (s:Int))),some (.sh (.int F)),some (.sh (.int (z:Int))),some (.ow ((List.replicate s F ++ List.replicate z 48).map .int)),none,none,none] = .nx [some (.sh (.lst (ns.map .int))),some (.sh (.int (s:Int))),some (.sh (.int F)),some (.sh (.int (z:Int))),some (.ow ((List.replicate s F ++ List.replicate z 48).map .int)),some (.sh (.int 0)),none,none]:=by simp -implicitDefEqProofs
 have c5:ym 6 (ak 1) gR [some (.sh (.lst (ns.map .int))),some (.sh (.int (s:Int))),some (.sh (.int F)),some (.sh (.int (z:Int))),some (.ow ((List.replicate s F ++ List.replicate z 48).map .int)),some (.sh (.int 0)),none,none] = .nx [some (.sh (.lst (ns.map .int))),some (.sh (.int (s:Int))),some (.sh (.int F)),some (.sh (.int (z:Int))),some (.ow ((List.replicate s F ++ List.replicate z 48).map .int)),some (.sh (.int (PG.cv (List.replicate s F)))),x',none]:=by
  generalize (List.replicate s F ++ List.replicate z 48).map PV.int = RR at *
  simp -implicitDefEqProofs [b3,w1']
 have c6:bN 7 (ak 3) [some (.sh (.lst (ns.map .int))),some (.sh (.int (s:Int))),some (.sh (.int F)),some (.sh (.int (z:Int))),some (.ow ((List.replicate s F ++ List.replicate z 48).map .int)),some (.sh (.int (PG.cv (List.replicate s F)))),x',none] = .nx [some (.sh (.lst (ns.map .int))),some (.sh (.int (s:Int))),some (.sh (.int F)),some (.sh (.int (z:Int))),some (.ow ((List.replicate s F ++ List.replicate z 48).map .int)),some (.sh (.int (PG.cv (List.replicate s F)))),x',some (.sh (.int (z:Int)))]:=by simp -implicitDefEqProofs
 have c7:bR (aP (mOp gEq (mOp d9 (aX bM (ah (ak 0) (ah (mC (.int 1)) aE))) (mC (.int 2))) (mC (.int 1)))) (aR (bN 4 (mOp iC (mOp iC (cu (ah (mC (.int 48)) (ah (mC (.int 46)) aE))) (pz (cu (ah (mC (.int 48)) aE)) (ak 3))) (pz (cu (ah (ak 2) aE)) (ak 1)))) (bN 7 (mOp rE (mUn pV (ak 3)) (ak 1)))) bc [some (.sh (.lst (ns.map .int))),some (.sh (.int (s:Int))),some (.sh (.int F)),some (.sh (.int (z:Int))),some (.ow ((List.replicate s F ++ List.replicate z 48).map .int)),some (.sh (.int (PG.cv (List.replicate s F)))),x',some (.sh (.int (z:Int)))] = .nx [some (.sh (.lst (ns.map .int))),some (.sh (.int (s:Int))),some (.sh (.int F)),some (.sh (.int (z:Int))),some (.ow ((PG.nb (eB d F s z)).map .int)),some (.sh (.int (PG.cv (List.replicate s F)))),x',some (.sh (.int (if d then -(z:Int) - s else (z:Int))))]:=by
  by_cases h1:PG.mix ns 1 % 2 = 1
  . have hdt:d = true:=by rw [hd]; simp [h1]
    subst hdt
    have hnb:PG.nb (eB true F s z) = [48,46] ++ List.replicate z 48 ++ List.replicate s F:=by
     have hne:List.replicate z (48:Int) ++ List.replicate s F ≠ []:=by
      intro e
      have:=congrArg List.length e
      simp at this
      omega
     simp only [PG.nb,eB,if_true,PG.frB,PG.exB]
     rw [if_neg hne]
     simp
    rw [hnb]
    generalize hst:([some (.sh (.lst (ns.map .int))),some (.sh (.int (s:Int))),some (.sh (.int F)),some (.sh (.int (z:Int))),some (.ow ((List.replicate s F ++ List.replicate z 48).map .int)),some (.sh (.int (PG.cv (List.replicate s F)))),x',some (.sh (.int (z:Int)))]:ae) = st
    have q1:=hr st 48 z (cu (ah (mC (.int 48)) aE)) (ak 3) (by simp) (by rw [<- hst]; simp) (by omega)
    have q2:=hr st F s (cu (ah (ak 2) aE)) (ak 1) (by rw [<- hst]; simp) (by rw [<- hst]; simp) (by omega)
    have l6:2 + z <= lim:=dY (by omega)
    have l7:2 + z + s <= lim:=dY (by omega)
    have t1:aP (mOp gEq (mOp d9 (aX bM (ah (ak 0) (ah (mC (.int 1)) aE))) (mC (.int 2))) (mC (.int 1))) st = .ok true:=by rw [<- hst]; simp -implicitDefEqProofs [fF,h1]
    have t2:bN 4 (mOp iC (mOp iC (cu (ah (mC (.int 48)) (ah (mC (.int 46)) aE))) (pz (cu (ah (mC (.int 48)) aE)) (ak 3))) (pz (cu (ah (ak 2) aE)) (ak 1))) st = .nx (st.set 4 (some (.ow (([48,46] ++ List.replicate z 48 ++ List.replicate s F).map .int)))):=by
     rw [rW]
     simp -implicitDefEqProofs only [yt,q1,q2,E7,C7,GL,F4,xo,B2,xl,zw,List.length_cons,List.length_nil,GV,if_true,jG,vF,w9,List.length_map,List.length_replicate,oP,List.length_append,Nat.zero_add,Nat.reduceAdd,l6,l7,gB,ug]
     simp
    rw [uG,t1]
    simp only [ft,if_true,km,t2,fO]
    rw [<- hst]
    simp -implicitDefEqProofs
  . have hdf:d = false:=by rw [hd]; simp [h1]
    subst hdf
    have hnb:PG.nb (eB false F s z) = List.replicate s F ++ List.replicate z 48:=by simp [PG.nb,eB,PG.frB,PG.exB]
    rw [hnb]
    generalize (List.replicate s F ++ List.replicate z 48).map PV.int = RR
    simp -implicitDefEqProofs [fF,h1]
 have c8:fin (la [some (.sh (.lst (ns.map .int))),some (.sh (.int (s:Int))),some (.sh (.int F)),some (.sh (.int (z:Int))),some (.ow ((PG.nb (eB d F s z)).map .int)),some (.sh (.int (PG.cv (List.replicate s F)))),x',some (.sh (.int (if d then -(z:Int) - s else (z:Int))))]) = .ok (.sh (.tup [.lst ((PG.nb (eB d F s z)).map .int),.tup [.int (PG.cv (List.replicate s F)),.int (if d then -(z:Int) - s else (z:Int))]])):=by
  generalize PG.nb (eB d F s z) = RR
  generalize (if d then -(z:Int) - s else (z:Int)) = PP
  simp -implicitDefEqProofs [la,jy]
 simp -implicitDefEqProofs only [fR,kJ,vz,ot,List.map_cons,List.map_nil,List.length_cons,List.length_nil,List.replicate,List.cons_append,List.nil_append,km,c0,fO,oq,c1,oO,c2,o9,c3,o6,c4,oU,c5,ou,c6,o5,c7]
 exact c8
theorem tR {st st':List PG.It} {b:Int} {bs:List Int} (h93:b ≠ 93) (hv:∃ l,PG.jN b = some l) (k:PG.Goes (.value ::.white ::.mrow ::st) (b ::bs) st'):PG.Goes (.row ::st) (b ::bs) st':=by
 intro r
 rw [<- k r]
 obtain ⟨l,hl⟩:=hv
 simp [PG.tk,PG.gon,PG.bh,hl,h93]
theorem qD {m:PG.Nm} (h:PG.Nok m):∃ b r l,PG.nb m = b ::r /\ b ≠ 93 /\ PG.wht b = false /\ PG.jN b = some l:=by
 obtain ⟨b,r,e,hb⟩:=rV h
 have hp:=qW (PG.mS h b (by rw [e]; simp))
 rcases hb with hf | rfl
 . unfold PG.isF at hf
   refine ⟨b,r,if b = 48 then [.fraction,.exponent] else [.figures,.fraction,.exponent],e,hp.2.2.1,hp.1,?_⟩
   unfold PG.jN PG.jR
   rw [if_neg (by omega),if_neg (by omega),if_neg (by omega),if_neg (by omega),if_neg (by omega),if_neg (by omega),if_neg (by omega)]
   split
   . rfl
   . first | rfl | rw [if_pos hf]
 . exact ⟨45,r,_,e,hp.2.2.1,hp.1,rfl⟩
noncomputable def jW (a b:PG.Nm):List Int:=91 ::(PG.nb a ++ 44 ::(PG.nb b ++ [93]))
theorem y2 (a b:PG.Nm) (ha:PG.Nok a) (hb:PG.Nok b):PG.Goes PG.st0 (jW a b) [.white]:=by
 unfold jW
 have c0:PG.Goes PG.st0 [91] [.white,.row,.white]:=fun r=>PG.Cm (by rfl)
 obtain ⟨x,r,l,e,h93,hw,hv⟩:=qD ha
 obtain ⟨y,r',l',e',h93',hw',hv'⟩:=qD hb
 obtain ⟨ls,hl,g⟩:=PG.rD ha (st:=[.white,.mrow,.white]) (by decide)
 obtain ⟨ls',hl',g'⟩:=PG.rD hb (st:=[.white,.mrow,.white]) (by decide)
 have c1:PG.Goes [.white,.row,.white] (PG.nb a) (ls ++ [.white,.mrow,.white]):=by
  rw [e] at g ⊢
  refine PG.Goes.skip ?_ rfl (tR h93 ⟨l,hv⟩ g)
  simp only [PG.bh,hw]; rfl
 have c2:PG.Goes (ls ++ [.white,.mrow,.white]) [44] [.white,.value,.white,.mrow,.white]:=
  PG.sC hl ⟨rfl,rfl,rfl⟩ (fun r=>PG.Cm (by rfl))
 have c3:PG.Goes [.white,.value,.white,.mrow,.white] (PG.nb b) (ls' ++ [.white,.mrow,.white]):=by
  rw [e'] at g' ⊢
  refine PG.Goes.skip ?_ rfl g'
  simp only [PG.bh,hw']; rfl
 have c4:PG.Goes (ls' ++ [.white,.mrow,.white]) [93] [.white]:=
  PG.sC hl' ⟨rfl,rfl,rfl⟩ (fun r=>PG.Cm (by rfl))
 have:=c0.trans (c1.trans (c2.trans (c3.trans c4)))
 simpa using this
noncomputable def oN (a b:PG.Nm):List PV:=[.tup [.str "row",.int 0,.int (jW a b).length,.int 3],.tup [.str "number",.int 1,.int (1 + (PG.nb a).length),.int 2],.tup [.str "number",.int (1 + (PG.nb a).length + 1),.int (1 + (PG.nb a).length + 1 + (PG.nb b).length),.int 3]]
theorem yL (a b:PG.Nm) (ha:PG.Nok a) (hb:PG.Nok b) (hl:(jW a b).length <= 10000):ia [.lst ((jW a b).map .int)] = .ok (.fr (oN a b)):=by
 obtain ⟨R,hR⟩:∃ R,R = jW a b:=⟨_,rfl⟩
 have hlen:(R.length:Int) = (PG.nb a).length + (PG.nb b).length + 3:=by rw [hR]; simp [jW]; omega
 obtain ⟨x,r,l,e,h93,hw,hv⟩:=qD ha
 obtain ⟨y,r',l',e',h93',hw',hv'⟩:=qD hb
 have px:=qW (PG.mS ha x (by rw [e]; simp))
 have py:=qW (PG.mS hb y (by rw [e']; simp))
 have hR1:R = [91] ++ (PG.nb a ++ 44 ::(PG.nb b ++ [93])):=hR
 have hR2:R = (91 ::PG.nb a) ++ 44 ::(PG.nb b ++ [93]):=by rw [hR]; simp [jW]
 have hR3:R = (91 ::(PG.nb a ++ [44])) ++ (PG.nb b ++ [93]):=by rw [hR]; simp [jW]
 have hR4:R = (91 ::(PG.nb a ++ 44 ::PG.nb b)) ++ 93 ::[]:=by rw [hR]; simp [jW]
 have l2:((91 ::PG.nb a:List Int).length:Int) = 1 + (PG.nb a).length:=by simp; omega
 have l3:((91 ::(PG.nb a ++ [44]):List Int).length:Int) = 1 + (PG.nb a).length + 1:=by simp; omega
 have l4:((91 ::(PG.nb a ++ 44 ::PG.nb b):List Int).length:Int) = 1 + (PG.nb a).length + 1 + (PG.nb b).length:=by simp; omega
 rw [<- hR] at hl
 have b0:atP (R.map PV.int) 0 = some (.int (if false then 123 else 91)):=mq (xs:=[]) (ys:=PG.nb a ++ 44 ::(PG.nb b ++ [93])) hR1 rfl
 have b1:atP (R.map PV.int) 1 = some (.int x):=mq (xs:=[91]) (ys:=r ++ 44 ::(PG.nb b ++ [93])) (by rw [hR1,e]; simp) rfl
 have b2:atP (R.map PV.int) (1 + (PG.nb a).length) = some (.int 44):=mq hR2 l2.symm
 have b3:atP (R.map PV.int) (1 + (PG.nb a).length + 1) = some (.int y):=mq (xs:=91 ::(PG.nb a ++ [44])) (ys:=r' ++ [93]) (by rw [hR3,e']; simp) l3.symm
 have b4:atP (R.map PV.int) (1 + (PG.nb a).length + 1 + (PG.nb b).length) = some (.int (if false then 125 else 93)):=mq hR4 l4.symm
 have f1:=n6 R [91] (44 ::(PG.nb b ++ [93])) a ha 1 hR1 (.inr ⟨44,_,rfl,.inr (.inl rfl)⟩) (by omega)
 have f2:=n6 R (91 ::(PG.nb a ++ [44])) [93] b hb 2 hR3 (.inr ⟨93,_,rfl,.inr (.inr (.inl rfl))⟩) (by omega)
 rw [l3] at f2
 have l1:(([91]:List Int).length:Int) = 1:=rfl
 rw [l1] at f1
 have t0:=xQ (row:=R) (tree:=[]) (un:=[]) (p:=0) (x:=none) (y:=none) false b0 (by simp) (by simp)
 have t1:=pL (row:=R) (tree:=[.tup [.str "row",.int 0]]) (un:=[.sh (.int 0)]) (p:=1) (x:=some (.sh (.int 91))) (y:=none) b1 px.2.2.2.2.1 px.2.2.2.2.2.1 px.2.2.1 px.2.2.2.1 px.1 px.2.1 px.2.2.2.2.2.2.1 (by simp) f1
 have t2:=wy (row:=R) (tree:=[.tup [.str "row",.int 0],.tup [.str "number",.int 1,.int (1 + (PG.nb a).length),.int (1 + 1)]]) (un:=[.sh (.int 0)]) (p:=1 + (PG.nb a).length) (x:=some (.sh (.int x))) (y:=none) b2 (.inr (.inl rfl))
 have t3:=pL (row:=R) (tree:=[.tup [.str "row",.int 0],.tup [.str "number",.int 1,.int (1 + (PG.nb a).length),.int (1 + 1)]]) (un:=[.sh (.int 0)]) (p:=1 + (PG.nb a).length + 1) (x:=some (.sh (.int 44))) (y:=none) b3 py.2.2.2.2.1 py.2.2.2.2.2.1 py.2.2.1 py.2.2.2.1 py.1 py.2.1 py.2.2.2.2.2.2.1 (by simp) f2
 have t4:=vA (row:=R) (tree:=[.tup [.str "row",.int 0],.tup [.str "number",.int 1,.int (1 + (PG.nb a).length),.int (1 + 1)],.tup [.str "number",.int (1 + (PG.nb a).length + 1),.int (1 + (PG.nb a).length + 1 + (PG.nb b).length),.int (2 + 1)]]) (un:=[]) (p:=1 + (PG.nb a).length + 1 + (PG.nb b).length) (j:=0) (x:=some (.sh (.int y))) (y:=none) false b4 rfl
 have hfin:1 + ((PG.nb a).length:Int) + 1 + (PG.nb b).length + 1 = (R.length:Int):=by rw [hlen]; omega
 rw [hfin] at t4
 simp only [List.nil_append,List.cons_append,List.length_nil,List.length_cons,Int.ofNat_zero,Int.cast_ofNat_Int,Int.zero_add,Bool.false_eq_true,if_false,List.set_cons_zero] at t0 t1 t2 t3 t4
 have hw:cC gV cX fuel (NS0 R [] [] 0 none none) = .nx (NS0 R [.tup [.str "row",.int 0,.int R.length,.int 3],.tup [.str "number",.int 1,.int (1 + (PG.nb a).length),.int (1 + 1)],.tup [.str "number",.int (1 + (PG.nb a).length + 1),.int (1 + (PG.nb a).length + 1 + (PG.nb b).length),.int (2 + 1)]] [] R.length (some (.sh (.int 93))) (some (.sh (.int 0)))):=by
  obtain ⟨n,hn⟩:∃ n,fuel = n + 1 + 1 + 1 + 1 + 1 + 1:=⟨99994,rfl⟩
  rw [hn,pf (by omega) t0,pf (by omega) t1,pf (by omega) t2,pf (by omega) t3,pf (by omega) t4,DF (by omega)]
  rfl
 rw [<- hR]
 refine tI R _ _ _ _ _ (by rw [hR]; exact (y2 a b ha hb).flt rfl) (by omega) (by simp) hw ?_ rfl
 rw [oN,<- hR]
 simp -implicitDefEqProofs [eZ,List.range,List.range.loop,dC,nh,jg,jh,hJ,eI,gNe,eqS,aH]
theorem rh (w p:Int):eU [.tup [.int w,.int p],.tup [.int w,.int p]] = .ok (.sh (.bl true)):=by
 have hg:Bc (.tup [.int w,.int p]) (.tup [.int w,.int p]) = some (.sh (.bl true)):=by simp [Bc,oK,tG,eV,rQ]
 simp -implicitDefEqProofs [iX,eU,isP,wo,hg]
theorem w6 (k:Nat) (n p:Int):∃ a b:Int,pairOf k n p = .tup [.int a,.int b]:=by
 unfold pairOf
 split
 . exact ⟨0,0,rfl⟩
 . exact ⟨_,_,rfl⟩
noncomputable def Good (m:PG.Nm) (a b:Int):Prop:=PG.Nok m /\ (PG.nb m).length <= 500 /\ cW [.int (mwV m),.int (exV m.ex - m.fr.length)] = .ok (.sh (.tup [.int a,.int b]))
theorem vP (n:Int) (hn:0 <= n):∃ a b,Good (ee n) a b /\ dc [.int n] = .ok (.sh (.tup [.lst ((PG.nb (ee n)).map .int),.tup [.int a,.int b]])):=by
 have h:=u0 n hn
 obtain ⟨a,b,e⟩:=w6 20 (mwV (ee n)) (exV (ee n).ex - (ee n).fr.length)
 have ok:=vW n
 have hdl:=PG.mM 4 (n / 3 % 100000).toNat (by omega)
 have hfl:(bK n).length <= 3:=by unfold bK; split <;> simp; omega
 have hb20:=oH (ee n) ok 20 (by show (PG.cV (n / 3 % 100000).toNat ++ bK n).length <= 20; simp; omega)
 have hl:=Ge 20 (mwV (ee n)) (exV (ee n).ex - (ee n).fr.length) hb20 (by decide)
 rw [e] at h hl
 refine ⟨a,b,⟨ok,?_,hl⟩,h⟩
 have hex:(PG.exB (fK n)).length <= 20:=by
  unfold fK
  split
  . have:=PG.mM 4 (n / 37 % 30).toNat (by omega)
    simp only [PG.exB,List.length_cons,List.length_append]
    split <;> split <;> (try split) <;> simp <;> omega
  . simp [PG.exB]
 show ((if decide (n % 3 = 0) = true then [45] else []) ++ (PG.cV (n / 3 % 100000).toNat ++ (PG.frB (bK n) ++ PG.exB (fK n)))).length <= 500
 have hfb:(PG.frB (bK n)).length <= 4:=by unfold PG.frB; split <;> simp <;> omega
 simp only [List.length_append]
 split <;> simp <;> omega
theorem GU (ns:List Int) (_:ns.length <= 63):rN [.lst (ns.map .int)] = .ok (.sh (.bl true)):=by
 have m0:=PG.qR ns 0
 have m2:=PG.qR ns 2
 obtain ⟨a0,b0,g0,h0⟩:=vP (PG.mix ns 0) m0.1
 obtain ⟨a2,b2,g2,h2⟩:=vP (PG.mix ns 2) m2.1
 obtain ⟨m,a,b,g,h1⟩:∃ m a b,Good m a b /\ bR (aP (mOp gEq (mOp d9 (aX bM (ah (ak 0) (ah (mC (.int 0)) aE))) (mC (.int 4))) (mC (.int 1)))) (bN 1 (aX fR (ah (ak 0) aE))) bc [some (.sh (.lst (ns.map .int))),some (.sh (.tup [.lst ((PG.nb (ee (PG.mix ns 0))).map .int),.tup [.int a0,.int b0]])),none,none,none,none,none] = .nx [some (.sh (.lst (ns.map .int))),some (.sh (.tup [.lst ((PG.nb m).map .int),.tup [.int a,.int b]])),none,none,none,none,none]:=by
  by_cases h4:PG.mix ns 0 % 4 = 1
  . obtain ⟨d,F,s,z,hF,hs,hz,hlong⟩:=xm ns
    refine ⟨eB d F s z,PG.cv (List.replicate s F),if d then -(z:Int) - s else (z:Int),⟨sN d F s z hF hs,?_,zl d F s z hF hs hz⟩,?_⟩
    . cases d with
      | true=>
        show ((if false = true then [45] else []) ++ ([48] ++ (PG.frB (List.replicate z 48 ++ List.replicate s F) ++ []))).length <= 500
        have hne:¬ (List.replicate z (48:Int) ++ List.replicate s F = []):=by
         intro q
         have:=congrArg List.length q
         simp at this
         omega
        unfold PG.frB
        rw [if_neg hne]
        simp; omega
      | false=>
        show ((if false = true then [45] else []) ++ ((List.replicate s F ++ List.replicate z 48) ++ (PG.frB [] ++ []))).length <= 500
        simp [PG.frB]; omega
    . generalize PG.nb (eB d F s z) = RR at *
      generalize (if d then -(z:Int) - s else (z:Int)) = PP at *
      simp -implicitDefEqProofs [fF,h4,hlong]
  . exact ⟨_,a0,b0,g0,by simp -implicitDefEqProofs [fF,h4]⟩
 obtain ⟨ok,hl,hlow⟩:=g
 obtain ⟨ok2,hl2,hlow2⟩:=g2
 generalize ee (PG.mix ns 2) = m' at *
 have hn1:=vi m ok (by omega)
 have hx1:=ub (PG.nb m) [] [] m ok [.tup [.str "number",.int 0,.int (PG.nb m).length,.int 1]] 0 1 (by simp) (by omega) (by simp) hlow
 have hrl:(jW m m').length <= 1100:=by simp [jW]; omega
 have hn2:=yL m m' ok ok2 (by omega)
 have hx2:=ub (jW m m') [91] (44 ::(PG.nb m' ++ [93])) m ok (oN m m') 1 2 (by simp [jW]) (by omega) (by simp [oN]) hlow
 have hx3:=ub (jW m m') (91 ::(PG.nb m ++ [44])) [93] m' ok2 (oN m m') 2 3 (by simp [jW]) (by omega) (by
  have l3:((91 ::(PG.nb m ++ [44]):List Int).length:Int) = 1 + (PG.nb m).length + 1:=by simp; omega
  rw [l3]; simp [oN]) hlow2
 have hx0:gc [.lst ((jW m m').map .int),.lst (oN m m'),.int 0] = .exc "NoNode" []:=by
  simp -implicitDefEqProofs [pT,pD,j9,gc,oN,gNe,eqS,aH]
 have hrow:(([91] ++ PG.nb m) ++ [44] ++ PG.nb m') ++ [93] = jW m m':=by simp [jW]
 have hp1:=rh a b
 have hp2:=rh a2 b2
 have e3:fin (qx [some (.sh (.lst (ns.map .int))),some (.sh (.tup [.lst ((PG.nb m).map .int),.tup [.int a,.int b]])),some (.sh (.tup [.lst ((PG.nb m').map .int),.tup [.int a2,.int b2]])),none,none,none,none]) = .ok (.sh (.bl true)):=by
  have e5:fin (uV [some (.sh (.lst (ns.map .int))),some (.sh (.tup [.lst ((PG.nb m).map .int),.tup [.int a,.int b]])),some (.sh (.tup [.lst ((PG.nb m').map .int),.tup [.int a2,.int b2]])),some (.ow ((jW m m').map .int)),none,none,none]) = .ok (.sh (.bl true)):=by
   generalize jW m m' = R at *
   generalize oN m m' = TR at *
   simp -implicitDefEqProofs [uV,jy,hn2,x9,yF,hx0,gT,vg,EE,xX,hx2,hx3,hp1,hp2]
  have s4:bN 3 (mOp iC (mOp iC (mOp iC (mOp iC (cu (ah (mC (.int 91)) aE)) (mOp iD (ak 1) (mC (.int 0)))) (cu (ah (mC (.int 44)) aE))) (mOp iD (ak 2) (mC (.int 0)))) (cu (ah (mC (.int 93)) aE))) [some (.sh (.lst (ns.map .int))),some (.sh (.tup [.lst ((PG.nb m).map .int),.tup [.int a,.int b]])),some (.sh (.tup [.lst ((PG.nb m').map .int),.tup [.int a2,.int b2]])),none,none,none,none] = .nx [some (.sh (.lst (ns.map .int))),some (.sh (.tup [.lst ((PG.nb m).map .int),.tup [.int a,.int b]])),some (.sh (.tup [.lst ((PG.nb m').map .int),.tup [.int a2,.int b2]])),some (.ow ((jW m m').map .int)),none,none,none]:=by
   rw [<- hrow]
   have q1:1 + (PG.nb m).length <= lim:=dY (by omega)
   have q2:1 + (PG.nb m).length + 1 <= lim:=dY (by omega)
   have q3:1 + (PG.nb m).length + 1 + (PG.nb m').length <= lim:=dY (by omega)
   have q4:1 + (PG.nb m).length + 1 + (PG.nb m').length + 1 <= lim:=dY (by omega)
   have q5:(PG.nb m).length + 1 <= lim:=dY (by omega)
   have q6:(PG.nb m).length + 1 + 1 <= lim:=dY (by omega)
   have q7:(PG.nb m).length + 1 + 1 + (PG.nb m').length <= lim:=dY (by omega)
   have q8:(PG.nb m).length + 1 + 1 + (PG.nb m').length + 1 <= lim:=dY (by omega)
   have q9:(PG.nb m).length + (1 + ((PG.nb m').length + 1)) + 1 <= lim:=dY (by omega)
   generalize PG.nb m = R1 at *
   generalize PG.nb m' = R2 at *
   simp -implicitDefEqProofs [q1,q2,q3,q4,q5,q6,q7,q8]
   try omega
  by_cases h2':PG.mix ns 0 % 4 = 2
  . generalize PG.nb m = R1 at *
    simp -implicitDefEqProofs [qx,fF,h2',hn1,hx1,hp1]
  . have st:bR (aP (mOp gEq (mOp d9 (aX bM (ah (ak 0) (ah (mC (.int 0)) aE))) (mC (.int 4))) (mC (.int 2)))) (bt (aX eU (ah (aX gc (ah (mOp iD (ak 1) (mC (.int 0))) (ah (aX ia (ah (mOp iD (ak 1) (mC (.int 0))) aE)) (ah (mC (.int 0)) aE)))) (ah (mOp iD (ak 1) (mC (.int 1))) aE)))) bc [some (.sh (.lst (ns.map .int))),some (.sh (.tup [.lst ((PG.nb m).map .int),.tup [.int a,.int b]])),some (.sh (.tup [.lst ((PG.nb m').map .int),.tup [.int a2,.int b2]])),none,none,none,none] = .nx [some (.sh (.lst (ns.map .int))),some (.sh (.tup [.lst ((PG.nb m).map .int),.tup [.int a,.int b]])),some (.sh (.tup [.lst ((PG.nb m').map .int),.tup [.int a2,.int b2]])),none,none,none,none]:=by
     have ht:aP (mOp gEq (mOp d9 (aX bM (ah (ak 0) (ah (mC (.int 0)) aE))) (mC (.int 4))) (mC (.int 2))) [some (.sh (.lst (ns.map .int))),some (.sh (.tup [.lst ((PG.nb m).map .int),.tup [.int a,.int b]])),some (.sh (.tup [.lst ((PG.nb m').map .int),.tup [.int a2,.int b2]])),none,none,none,none] = .ok false:=by simp -implicitDefEqProofs [fF,h2']
     rw [uG,ht]
     simp only [ft,Bool.false_eq_true,if_false,BX]
    simp only [qx,km,st,fO,yh,s4]
    exact e5
 have s0:bN 1 (aX dc (ah (aX bM (ah (ak 0) (ah (mC (.int 0)) aE))) aE)) [some (.sh (.lst (ns.map .int))),none,none,none,none,none,none] = .nx [some (.sh (.lst (ns.map .int))),some (.sh (.tup [.lst ((PG.nb (ee (PG.mix ns 0))).map .int),.tup [.int a0,.int b0]])),none,none,none,none,none]:=by
  generalize PG.nb (ee (PG.mix ns 0)) = RR at *
  simp -implicitDefEqProofs [fF,h0]
 have s2:bN 2 (aX dc (ah (aX bM (ah (ak 0) (ah (mC (.int 2)) aE))) aE)) [some (.sh (.lst (ns.map .int))),some (.sh (.tup [.lst ((PG.nb m).map .int),.tup [.int a,.int b]])),none,none,none,none,none] = .nx [some (.sh (.lst (ns.map .int))),some (.sh (.tup [.lst ((PG.nb m).map .int),.tup [.int a,.int b]])),some (.sh (.tup [.lst ((PG.nb m').map .int),.tup [.int a2,.int b2]])),none,none,none,none]:=by
  generalize PG.nb m = R1 at *
  generalize PG.nb m' = R2 at *
  simp -implicitDefEqProofs [fF,h2]
 simp -implicitDefEqProofs only [rN,AN,vz,ot,List.map_cons,List.map_nil,List.length_cons,List.length_nil,List.replicate,List.cons_append,List.nil_append,km,s0,fO,yy,h1,yq,s2]
 exact e3
end L2.plainglass_k17_numbers_exact
namespace L2.plainglass_k17_numbers_exact
open PySem PySem.Spec PyProof.Rows L2.E L2.P
def top (i:Nat):Stmt:=PySem.Challenge.pw_plainglass_k17_numbers_exact.main.body.getD i (.Pass ⟨0,0,0,0⟩)
abbrev iq:Stmt:=top 26
theorem vL:aT ["byte"] ["byte"] (av iq):=⟨rfl,rfl,rfl,by decide +kernel,rfl,by decide +kernel,by decide +kernel⟩
abbrev gm:Stmt:=top 27
theorem uH:aT ["byte"] ["byte"] (av gm):=⟨rfl,rfl,rfl,by decide +kernel,rfl,by decide +kernel,by decide +kernel⟩
abbrev gL:Stmt:=top 28
theorem uP:aT ["byte"] ["byte"] (av gL):=⟨rfl,rfl,rfl,by decide +kernel,rfl,by decide +kernel,by decide +kernel⟩
abbrev gF:Stmt:=top 29
theorem tK:aT ["byte"] ["byte"] (av gF):=⟨rfl,rfl,rfl,by decide +kernel,rfl,by decide +kernel,by decide +kernel⟩
abbrev eR:Stmt:=top 30
theorem qo:aT ["byte"] ["byte"] (av eR):=⟨rfl,rfl,rfl,by decide +kernel,rfl,by decide +kernel,by decide +kernel⟩
abbrev kF:Stmt:=top 32
theorem vh:aT ["row","tree","i","node"] ["row","tree","i"] (av kF):=⟨rfl,rfl,rfl,by decide +kernel,rfl,by decide +kernel,by decide +kernel⟩
abbrev lh:Stmt:=top 33
theorem lR:aT ["signs","base_end","base","point","fraction"] ["signs"] (av lh):=⟨rfl,rfl,rfl,by decide +kernel,rfl,by decide +kernel,by decide +kernel⟩
abbrev ie:Stmt:=top 34
theorem mL:aT ["signs","sought","at"] ["signs","sought"] (av ie):=⟨rfl,rfl,rfl,by decide +kernel,rfl,by decide +kernel,by decide +kernel⟩
abbrev jQ:Stmt:=top 35
theorem zk:aT ["signs"] ["signs"] (av jQ):=⟨rfl,rfl,rfl,by decide +kernel,rfl,by decide +kernel,by decide +kernel⟩
abbrev iW:Stmt:=top 36
theorem lg:aT ["figures","number","figure"] ["figures"] (av iW):=⟨rfl,rfl,rfl,by decide +kernel,rfl,by decide +kernel,by decide +kernel⟩
abbrev iQ:Stmt:=top 37
theorem nY:aT ["number","power"] ["number","power"] (av iQ):=⟨rfl,rfl,rfl,by decide +kernel,rfl,by decide +kernel,by decide +kernel⟩
abbrev kE:Stmt:=top 40
theorem Af:aT ["byte"] ["byte"] (av kE):=⟨rfl,rfl,rfl,by decide +kernel,rfl,by decide +kernel,by decide +kernel⟩
abbrev dJ:Stmt:=top 41
theorem n4:aT ["byte"] ["byte"] (av dJ):=⟨rfl,rfl,rfl,by decide +kernel,rfl,by decide +kernel,by decide +kernel⟩
abbrev dW:Stmt:=top 42
theorem o7:aT ["byte"] ["byte"] (av dW):=⟨rfl,rfl,rfl,by decide +kernel,rfl,by decide +kernel,by decide +kernel⟩
abbrev jM:Stmt:=top 48
theorem yS:aT ["item","byte"] ["item","byte"] (av jM):=⟨rfl,rfl,rfl,by decide +kernel,rfl,by decide +kernel,by decide +kernel⟩
abbrev eP:Stmt:=top 49
theorem lD:aT ["byte","rest"] ["byte"] (av eP):=⟨rfl,rfl,rfl,by decide +kernel,rfl,by decide +kernel,by decide +kernel⟩
abbrev fj:Stmt:=top 50
theorem rZ:aT ["byte"] ["byte"] (av fj):=⟨rfl,rfl,rfl,by decide +kernel,rfl,by decide +kernel,by decide +kernel⟩
abbrev dn:Stmt:=top 51
theorem nB:aT ["item","byte"] ["item","byte"] (av dn):=⟨rfl,rfl,rfl,by decide +kernel,rfl,by decide +kernel,by decide +kernel⟩
abbrev dU:Stmt:=top 52
theorem jZ:aT ["item","byte","worth"] ["item","byte"] (av dU):=⟨rfl,rfl,rfl,by decide +kernel,rfl,by decide +kernel,by decide +kernel⟩
abbrev du:Stmt:=top 53
theorem jt:aT ["byte","spans"] ["byte"] (av du):=⟨rfl,rfl,rfl,by decide +kernel,rfl,by decide +kernel,by decide +kernel⟩
abbrev dr:Stmt:=top 54
theorem ny:aT ["byte"] ["byte"] (av dr):=⟨rfl,rfl,rfl,by decide +kernel,rfl,by decide +kernel,by decide +kernel⟩
abbrev eA:Stmt:=top 55
theorem ky:aT ["worth","second"] ["worth"] (av eA):=⟨rfl,rfl,rfl,by decide +kernel,rfl,by decide +kernel,by decide +kernel⟩
abbrev fP:Stmt:=top 56
theorem nJ:aT ["item","byte","worth"] ["item","byte"] (av fP):=⟨rfl,rfl,rfl,by decide +kernel,rfl,by decide +kernel,by decide +kernel⟩
abbrev cD:Stmt:=top 57
theorem lL:aT ["item","byte"] ["item","byte"] (av cD):=⟨rfl,rfl,rfl,by decide +kernel,rfl,by decide +kernel,by decide +kernel⟩
abbrev dg:Stmt:=top 58
theorem jr:aT ["byte","items"] ["byte"] (av dg):=⟨rfl,rfl,rfl,by decide +kernel,rfl,by decide +kernel,by decide +kernel⟩
abbrev cz:Stmt:=top 59
theorem kZ:aT ["byte"] ["byte"] (av cz):=⟨rfl,rfl,rfl,by decide +kernel,rfl,by decide +kernel,by decide +kernel⟩
abbrev fq:Stmt:=top 60
theorem rn:aT [] [] (av fq):=⟨rfl,rfl,rfl,by decide +kernel,rfl,by decide +kernel,by decide +kernel⟩
abbrev kA:Stmt:=top 62
theorem rR:aT ["row","walk","at"] ["row"] (av kA):=⟨rfl,rfl,rfl,by decide +kernel,rfl,by decide +kernel,by decide +kernel⟩
abbrev eQ:Stmt:=top 63
theorem lA:aT ["row","at"] ["row"] (av eQ):=⟨rfl,rfl,rfl,by decide +kernel,rfl,by decide +kernel,by decide +kernel⟩
abbrev kz:Stmt:=top 66
theorem g9:aT ["row","tree","unended","at","byte","i"] ["row"] (av kz):=⟨rfl,rfl,rfl,by decide +kernel,rfl,by decide +kernel,by decide +kernel⟩
abbrev om:Stmt:=top 67
theorem uo:aT ["row","at","i","kind","end"] ["row","at","i"] (av om):=⟨rfl,rfl,rfl,by decide +kernel,rfl,by decide +kernel,by decide +kernel⟩
abbrev gq:Stmt:=top 68
theorem kC:aT ["row","at","end"] ["row","at"] (av gq):=⟨rfl,rfl,rfl,by decide +kernel,rfl,by decide +kernel,by decide +kernel⟩
abbrev ik:Stmt:=top 69
theorem mK:aT ["row","at","end"] ["row","at"] (av ik):=⟨rfl,rfl,rfl,by decide +kernel,rfl,by decide +kernel,by decide +kernel⟩
abbrev iV:Stmt:=top 70
theorem qN:aT ["row","end"] ["row","end"] (av iV):=⟨rfl,rfl,rfl,by decide +kernel,rfl,by decide +kernel,by decide +kernel⟩
abbrev fw:Stmt:=top 71
theorem m6:aT ["tree","i","node"] ["tree","i"] (av fw):=⟨rfl,rfl,rfl,by decide +kernel,rfl,by decide +kernel,by decide +kernel⟩
abbrev iu:Stmt:=top 73
theorem vM:aT ["_law_script","_law_k"] ["_law_script","_law_k"] (av iu):=⟨rfl,rfl,rfl,by decide +kernel,rfl,by decide +kernel,by decide +kernel⟩
abbrev iU:Stmt:=top 74
theorem oj:aT ["_law_script","_law_k","_law_number_here"] ["_law_script","_law_k"] (av iU):=⟨rfl,rfl,rfl,by decide +kernel,rfl,by decide +kernel,by decide +kernel⟩
abbrev gH:Stmt:=top 75
theorem uc:aT ["_law_found"] ["_law_found"] (av gH):=⟨rfl,rfl,rfl,by decide +kernel,rfl,by decide +kernel,by decide +kernel⟩
abbrev fU:Stmt:=top 77
theorem bF:aT ["_law_number_here","_law_below","_law_figures_here","_law_row","_law_worth","_law_figure","_law_power","_law_more","_law_down"] ["_law_number_here"] (av fU):=⟨rfl,rfl,rfl,by decide +kernel,rfl,by decide +kernel,by decide +kernel⟩
abbrev gu:Stmt:=top 78
theorem kT:aT ["_law_worth","_law_power"] ["_law_worth","_law_power"] (av gu):=⟨rfl,rfl,rfl,by decide +kernel,rfl,by decide +kernel,by decide +kernel⟩
abbrev iw:Stmt:=top 79
theorem vq:aT ["_law_found","_law_due"] ["_law_found","_law_due"] (av iw):=⟨rfl,rfl,rfl,by decide +kernel,rfl,by decide +kernel,by decide +kernel⟩
abbrev ij:Stmt:=top 80
theorem d6:aT ["_law_script","_law_size_here","_law_figure","_law_noughts","_law_row","_law_worth","_law_k","_law_power"] ["_law_script"] (av ij):=⟨rfl,rfl,rfl,by decide +kernel,rfl,by decide +kernel,by decide +kernel⟩
abbrev rJ:Stmt:=top 81
theorem kO:aT ["_law_script","_law_one","_law_two","_law_row","_law_tree","_law_refused","e"] ["_law_script"] (av rJ):=⟨rfl,rfl,rfl,by decide +kernel,rfl,by decide +kernel,by decide +kernel⟩
abbrev er:Stmt:=inClass (top 47) 0
theorem pE:aT ["self"] ["self"] (av er):=⟨rfl,rfl,rfl,by decide +kernel,rfl,by decide +kernel,by decide +kernel⟩
abbrev gE:Stmt:=inClass (top 47) 1
theorem lj:aT ["self","row","at","byte"] ["self","row"] (av gE):=⟨rfl,rfl,rfl,by decide +kernel,rfl,by decide +kernel,by decide +kernel⟩
abbrev eM:Stmt:=inClass (top 47) 2
theorem jj:aT ["self","byte","item","items"] ["self","byte"] (av eM):=⟨rfl,rfl,rfl,by decide +kernel,rfl,by decide +kernel,by decide +kernel⟩
abbrev eh:Stmt:=inClass (top 47) 3
theorem pG:aT ["self"] ["self"] (av eh):=⟨rfl,rfl,rfl,by decide +kernel,rfl,by decide +kernel,by decide +kernel⟩
abbrev el:Stmt:=inClass (top 47) 5
theorem pw:aT ["self"] ["self"] (av el):=⟨rfl,rfl,rfl,by decide +kernel,rfl,by decide +kernel,by decide +kernel⟩
abbrev fV:Stmt:=inClass (top 3) 0
theorem sj:aT ["self","at"] ["self","at"] (av fV):=⟨rfl,rfl,rfl,by decide +kernel,rfl,by decide +kernel,by decide +kernel⟩
set_option genInjectivity false in
set_option genSizeOf false in
structure Adr where
 eS:Addr
 d_is_white:FuncData
 eH:Addr
 d_is_figure:FuncData
 fi:Addr
 d_hex_worth:FuncData
 eK:Addr
 d_word_rest:FuncData
 bz:Addr
 d_short_escape:FuncData
 gc:Addr
 d_exact:FuncData
 ju:Addr
 d_worth:FuncData
 eN:Addr
 d_first_of:FuncData
 eL:Addr
 d_signed:FuncData
 fA:Addr
 d_counted:FuncData
 cW:Addr
 d_lowered:FuncData
 ib:Addr
 d_tails:FuncData
 cA:Addr
 d_second_of_three:FuncData
 cJ:Addr
 d_second_of_four:FuncData
 b9:Addr
 d_behind:FuncData
 bA:Addr
 d_behind_value:FuncData
 dF:Addr
 d_behind_lead:FuncData
 aV:Addr
 d_behind_in_number:FuncData
 bH:Addr
 d_behind_in_text:FuncData
 bI:Addr
 d_behind_character:FuncData
 cq:Addr
 d_behind_backslash:FuncData
 de:Addr
 d_behind_code_d:FuncData
 dI:Addr
 d_behind_hex:FuncData
 bb:Addr
 d_behind_in_brackets:FuncData
 bW:Addr
 d_behind_row_begin:FuncData
 bJ:Addr
 d_behind_fields_begin:FuncData
 dX:Addr
 d_member_rest:FuncData
 j7:Addr
 d_fault:FuncData
 dG:Addr
 d_refuse_fault:FuncData
 ia:Addr
 d_nodes:FuncData
 ll:Addr
 d_leaf:FuncData
 fJ:Addr
 d_plain_end:FuncData
 iT:Addr
 d_text_end:FuncData
 jK:Addr
 d_is_name:FuncData
 eI:Addr
 d_with_member:FuncData
 gM:Addr
 d_law_cell:FuncData
 bM:Addr
 d_law_mix:FuncData
 fb:Addr
 d_law_whole:FuncData
 dc:Addr
 d_law_number:FuncData
 eJ:Addr
 d_law_plain:FuncData
 eU:Addr
 d_law_pair:FuncData
 fR:Addr
 d_law_long:FuncData
 rN:Addr
 d_law:FuncData
 cZ:Addr
 d_Walk___init__:FuncData
 fL:Addr
 d_Walk_take:FuncData
 dZ:Addr
 d_Walk_goes_on:FuncData
 cG:Addr
 d_Walk_brackets:FuncData
 da:Addr
 d_Walk_is_whole:FuncData
 C_GlassError:Addr
 C_Fault:Addr
 f_Fault_init:Addr
 d_Fault_init:FuncData
 C_NoNode:Addr
 C_Walk:Addr
 v_BLANK:Value
 v_QUOTE:Value
 v_PLUS:Value
 v_COMMA:Value
 v_MINUS:Value
 v_POINT:Value
 v_NOUGHT:Value
 v_NINE:Value
 v_COLON:Value
 v_BIG_E:Value
 v_ROW_BEGIN:Value
 v_BACKSLASH:Value
 v_ROW_END:Value
 v_SMALL_E:Value
 v_SMALL_U:Value
 v_FIELDS_BEGIN:Value
 v_FIELDS_END:Value
 v_WHITE:Addr
 v_WORDS:Addr
 v_SHORT_ESCAPES:Addr
 v_TAIL:Addr
 v_MOST_BRACKETS:Value
 v_LOOSE:Addr
 v_UNENDED:Addr
 v_KINDS:Addr
structure Txt (K:PySem.W.Frag) (mg:Str -> Option Value) (t:Adr):Prop where
 F_is_white:Fun K "is_white" "is_white" iq t.eS t.d_is_white
 il:mg "is_white" = some (.ref t.eS)
 b_is_white:Binds K t.d_is_white ["byte"] []
 F_is_figure:Fun K "is_figure" "is_figure" gm t.eH t.d_is_figure
 iB:mg "is_figure" = some (.ref t.eH)
 b_is_figure:Binds K t.d_is_figure ["byte"] []
 F_hex_worth:Fun K "hex_worth" "hex_worth" gL t.fi t.d_hex_worth
 jb:mg "hex_worth" = some (.ref t.fi)
 b_hex_worth:Binds K t.d_hex_worth ["byte"] []
 F_word_rest:Fun K "word_rest" "word_rest" gF t.eK t.d_word_rest
 gn:mg "word_rest" = some (.ref t.eK)
 b_word_rest:Binds K t.d_word_rest ["byte"] []
 F_short_escape:Fun K "short_escape" "short_escape" eR t.bz t.d_short_escape
 cx:mg "short_escape" = some (.ref t.bz)
 b_short_escape:Binds K t.d_short_escape ["byte"] []
 F_exact:Fun K "exact" "exact" kF t.gc t.d_exact
 j9:mg "exact" = some (.ref t.gc)
 b_exact:Binds K t.d_exact ["row","tree","i"] []
 F_worth:Fun K "worth" "worth" lh t.ju t.d_worth
 qB:mg "worth" = some (.ref t.ju)
 b_worth:Binds K t.d_worth ["signs"] []
 F_first_of:Fun K "first_of" "first_of" ie t.eN t.d_first_of
 jT:mg "first_of" = some (.ref t.eN)
 b_first_of:Binds K t.d_first_of ["signs","sought"] []
 F_signed:Fun K "signed" "signed" jQ t.eL t.d_signed
 i5:mg "signed" = some (.ref t.eL)
 b_signed:Binds K t.d_signed ["signs"] []
 F_counted:Fun K "counted" "counted" iW t.fA t.d_counted
 jL:mg "counted" = some (.ref t.fA)
 b_counted:Binds K t.d_counted ["figures"] []
 F_lowered:Fun K "lowered" "lowered" iQ t.cW t.d_lowered
 jD:mg "lowered" = some (.ref t.cW)
 b_lowered:Binds K t.d_lowered ["number","power"] []
 F_tails:Fun K "tails" "tails" kE t.ib t.d_tails
 kf:mg "tails" = some (.ref t.ib)
 b_tails:Binds K t.d_tails ["byte"] []
 F_second_of_three:Fun K "second_of_three" "second_of_three" dJ t.cA t.d_second_of_three
 fc:mg "second_of_three" = some (.ref t.cA)
 b_second_of_three:Binds K t.d_second_of_three ["byte"] []
 F_second_of_four:Fun K "second_of_four" "second_of_four" dW t.cJ t.d_second_of_four
 fz:mg "second_of_four" = some (.ref t.cJ)
 b_second_of_four:Binds K t.d_second_of_four ["byte"] []
 F_behind:Fun K "behind" "behind" jM t.b9 t.d_behind
 cE:mg "behind" = some (.ref t.b9)
 b_behind:Binds K t.d_behind ["item","byte"] []
 F_behind_value:Fun K "behind_value" "behind_value" eP t.bA t.d_behind_value
 cy:mg "behind_value" = some (.ref t.bA)
 b_behind_value:Binds K t.d_behind_value ["byte"] []
 F_behind_lead:Fun K "behind_lead" "behind_lead" fj t.dF t.d_behind_lead
 fY:mg "behind_lead" = some (.ref t.dF)
 b_behind_lead:Binds K t.d_behind_lead ["byte"] []
 F_behind_in_number:Fun K "behind_in_number" "behind_in_number" dn t.aV t.d_behind_in_number
 bw:mg "behind_in_number" = some (.ref t.aV)
 b_behind_in_number:Binds K t.d_behind_in_number ["item","byte"] []
 F_behind_in_text:Fun K "behind_in_text" "behind_in_text" dU t.bH t.d_behind_in_text
 cL:mg "behind_in_text" = some (.ref t.bH)
 b_behind_in_text:Binds K t.d_behind_in_text ["item","byte"] []
 F_behind_character:Fun K "behind_character" "behind_character" du t.bI t.d_behind_character
 dq:mg "behind_character" = some (.ref t.bI)
 b_behind_character:Binds K t.d_behind_character ["byte"] []
 F_behind_backslash:Fun K "behind_backslash" "behind_backslash" dr t.cq t.d_behind_backslash
 eT:mg "behind_backslash" = some (.ref t.cq)
 b_behind_backslash:Binds K t.d_behind_backslash ["byte"] []
 F_behind_code_d:Fun K "behind_code_d" "behind_code_d" eA t.de t.d_behind_code_d
 fW:mg "behind_code_d" = some (.ref t.de)
 b_behind_code_d:Binds K t.d_behind_code_d ["worth"] []
 F_behind_hex:Fun K "behind_hex" "behind_hex" fP t.dI t.d_behind_hex
 fS:mg "behind_hex" = some (.ref t.dI)
 b_behind_hex:Binds K t.d_behind_hex ["item","byte"] []
 F_behind_in_brackets:Fun K "behind_in_brackets" "behind_in_brackets" cD t.bb t.d_behind_in_brackets
 bQ:mg "behind_in_brackets" = some (.ref t.bb)
 b_behind_in_brackets:Binds K t.d_behind_in_brackets ["item","byte"] []
 F_behind_row_begin:Fun K "behind_row_begin" "behind_row_begin" dg t.bW t.d_behind_row_begin
 dS:mg "behind_row_begin" = some (.ref t.bW)
 b_behind_row_begin:Binds K t.d_behind_row_begin ["byte"] []
 F_behind_fields_begin:Fun K "behind_fields_begin" "behind_fields_begin" cz t.bJ t.d_behind_fields_begin
 dR:mg "behind_fields_begin" = some (.ref t.bJ)
 b_behind_fields_begin:Binds K t.d_behind_fields_begin ["byte"] []
 F_member_rest:Fun K "member_rest" "member_rest" fq t.dX t.d_member_rest
 hV:mg "member_rest" = some (.ref t.dX)
 b_member_rest:Binds K t.d_member_rest [] []
 F_fault:Fun K "fault" "fault" kA t.j7 t.d_fault
 qz:mg "fault" = some (.ref t.j7)
 b_fault:Binds K t.d_fault ["row"] []
 F_refuse_fault:Fun K "refuse_fault" "refuse_fault" eQ t.dG t.d_refuse_fault
 gC:mg "refuse_fault" = some (.ref t.dG)
 b_refuse_fault:Binds K t.d_refuse_fault ["row"] []
 F_nodes:Fun K "nodes" "nodes" kz t.ia t.d_nodes
 o3:mg "nodes" = some (.ref t.ia)
 b_nodes:Binds K t.d_nodes ["row"] []
 F_leaf:Fun K "leaf" "leaf" om t.ll t.d_leaf
 ud:mg "leaf" = some (.ref t.ll)
 b_leaf:Binds K t.d_leaf ["row","at","i"] []
 F_plain_end:Fun K "plain_end" "plain_end" gq t.fJ t.d_plain_end
 ka:mg "plain_end" = some (.ref t.fJ)
 b_plain_end:Binds K t.d_plain_end ["row","at"] []
 F_text_end:Fun K "text_end" "text_end" ik t.iT t.d_text_end
 nZ:mg "text_end" = some (.ref t.iT)
 b_text_end:Binds K t.d_text_end ["row","at"] []
 F_is_name:Fun K "is_name" "is_name" iV t.jK t.d_is_name
 pB:mg "is_name" = some (.ref t.jK)
 b_is_name:Binds K t.d_is_name ["row","end"] []
 F_with_member:Fun K "with_member" "with_member" fw t.eI t.d_with_member
 hJ:mg "with_member" = some (.ref t.eI)
 b_with_member:Binds K t.d_with_member ["tree","i"] []
 F_law_cell:Fun K "_law_cell" "_law_cell" iu t.gM t.d_law_cell
 lp:mg "_law_cell" = some (.ref t.gM)
 b_law_cell:Binds K t.d_law_cell ["_law_script","_law_k"] []
 F_law_mix:Fun K "_law_mix" "_law_mix" iU t.bM t.d_law_mix
 fG:mg "_law_mix" = some (.ref t.bM)
 b_law_mix:Binds K t.d_law_mix ["_law_script","_law_k"] []
 F_law_whole:Fun K "_law_whole" "_law_whole" gH t.fb t.d_law_whole
 i8:mg "_law_whole" = some (.ref t.fb)
 b_law_whole:Binds K t.d_law_whole ["_law_found"] []
 F_law_number:Fun K "_law_number" "_law_number" fU t.dc t.d_law_number
 iE:mg "_law_number" = some (.ref t.dc)
 b_law_number:Binds K t.d_law_number ["_law_number_here"] []
 F_law_plain:Fun K "_law_plain" "_law_plain" gu t.eJ t.d_law_plain
 je:mg "_law_plain" = some (.ref t.eJ)
 b_law_plain:Binds K t.d_law_plain ["_law_worth","_law_power"] []
 F_law_pair:Fun K "_law_pair" "_law_pair" iw t.eU t.d_law_pair
 iX:mg "_law_pair" = some (.ref t.eU)
 b_law_pair:Binds K t.d_law_pair ["_law_found","_law_due"] []
 F_law_long:Fun K "_law_long" "_law_long" ij t.fR t.d_law_long
 kJ:mg "_law_long" = some (.ref t.fR)
 b_law_long:Binds K t.d_law_long ["_law_script"] []
 F_law:Fun K "law" "law" rJ t.rN t.d_law
 AN:mg "law" = some (.ref t.rN)
 b_law:Binds K t.d_law ["_law_script"] []
 F_Walk___init__:Fun K "__init__" "Walk.__init__" er t.cZ t.d_Walk___init__
 b_Walk___init__:Binds K t.d_Walk___init__ ["self"] []
 F_Walk_take:Fun K "take" "Walk.take" gE t.fL t.d_Walk_take
 h_Walk_take:Meth K t.C_Walk "take" t.fL
 b_Walk_take:Binds K t.d_Walk_take ["self","row"] []
 F_Walk_goes_on:Fun K "goes_on" "Walk.goes_on" eM t.dZ t.d_Walk_goes_on
 h_Walk_goes_on:Meth K t.C_Walk "goes_on" t.dZ
 b_Walk_goes_on:Binds K t.d_Walk_goes_on ["self","byte"] []
 F_Walk_brackets:Fun K "brackets" "Walk.brackets" eh t.cG t.d_Walk_brackets
 h_Walk_brackets:Meth K t.C_Walk "brackets" t.cG
 b_Walk_brackets:Binds K t.d_Walk_brackets ["self"] []
 F_Walk_is_whole:Fun K "is_whole" "Walk.is_whole" el t.da t.d_Walk_is_whole
 h_Walk_is_whole:Meth K t.C_Walk "is_whole" t.da
 b_Walk_is_whole:Binds K t.d_Walk_is_whole ["self"] []
 n_len:mg "len" = none
 n_isinstance:mg "isinstance" = none
 n_tuple:mg "tuple" = none
 n_range:mg "range" = none
 n_int:mg "int" = none
 n_bool:mg "bool" = none
 n_str:mg "str" = none
 n_ord:mg "ord" = none
 n_enumerate:mg "enumerate" = none
 n_all:mg "all" = none
 n_ValueError:mg "ValueError" = none
 m_Walk:mg "Walk" = some (.ref t.C_Walk)
 c_Walk:Cls K t.C_Walk
 k_Walk:Mk K t.C_Walk t.cZ
 na_Walk_coming:kj K t.C_Walk "coming"
 m_GlassError:mg "GlassError" = some (.ref t.C_GlassError)
 e_GlassError:lJ K t.C_GlassError [.type "ValueError",.type "Exception",.type "BaseException",.type "object"]
 x_GlassError:PySem.W.excIn K t.C_GlassError [.type "ValueError",.type "Exception",.type "BaseException",.type "object"] "ValueError.__new__" = true
 m_Fault:mg "Fault" = some (.ref t.C_Fault)
 e_Fault:lJ K t.C_Fault [.ref t.C_GlassError,.type "ValueError",.type "Exception",.type "BaseException",.type "object"]
 F_Fault_init:Fun K "__init__" "Fault.__init__" fV t.f_Fault_init t.d_Fault_init
 b_Fault_init:Binds K t.d_Fault_init ["self","at"] []
 k_Fault:XMk K mg "Fault" t.C_Fault t.f_Fault_init [.ref t.C_GlassError,.type "ValueError",.type "Exception",.type "BaseException",.type "object"] "at"
 m_NoNode:mg "NoNode" = some (.ref t.C_NoNode)
 e_NoNode:lJ K t.C_NoNode [.ref t.C_GlassError,.type "ValueError",.type "Exception",.type "BaseException",.type "object"]
 x_NoNode:PySem.W.excIn K t.C_NoNode [.type "ValueError",.type "Exception",.type "BaseException",.type "object"] "ValueError.__new__" = true
 m_BLANK:mg "BLANK" = some t.v_BLANK
 r_BLANK:RelV (.int 32) t.v_BLANK
 m_QUOTE:mg "QUOTE" = some t.v_QUOTE
 r_QUOTE:RelV (.int 34) t.v_QUOTE
 m_PLUS:mg "PLUS" = some t.v_PLUS
 r_PLUS:RelV (.int 43) t.v_PLUS
 m_COMMA:mg "COMMA" = some t.v_COMMA
 r_COMMA:RelV (.int 44) t.v_COMMA
 m_MINUS:mg "MINUS" = some t.v_MINUS
 r_MINUS:RelV (.int 45) t.v_MINUS
 m_POINT:mg "POINT" = some t.v_POINT
 r_POINT:RelV (.int 46) t.v_POINT
 m_NOUGHT:mg "NOUGHT" = some t.v_NOUGHT
 r_NOUGHT:RelV (.int 48) t.v_NOUGHT
 m_NINE:mg "NINE" = some t.v_NINE
 r_NINE:RelV (.int 57) t.v_NINE
 m_COLON:mg "COLON" = some t.v_COLON
 r_COLON:RelV (.int 58) t.v_COLON
 m_BIG_E:mg "BIG_E" = some t.v_BIG_E
 r_BIG_E:RelV (.int 69) t.v_BIG_E
 m_ROW_BEGIN:mg "ROW_BEGIN" = some t.v_ROW_BEGIN
 r_ROW_BEGIN:RelV (.int 91) t.v_ROW_BEGIN
 m_BACKSLASH:mg "BACKSLASH" = some t.v_BACKSLASH
 r_BACKSLASH:RelV (.int 92) t.v_BACKSLASH
 m_ROW_END:mg "ROW_END" = some t.v_ROW_END
 r_ROW_END:RelV (.int 93) t.v_ROW_END
 m_SMALL_E:mg "SMALL_E" = some t.v_SMALL_E
 r_SMALL_E:RelV (.int 101) t.v_SMALL_E
 m_SMALL_U:mg "SMALL_U" = some t.v_SMALL_U
 r_SMALL_U:RelV (.int 117) t.v_SMALL_U
 m_FIELDS_BEGIN:mg "FIELDS_BEGIN" = some t.v_FIELDS_BEGIN
 r_FIELDS_BEGIN:RelV (.int 123) t.v_FIELDS_BEGIN
 m_FIELDS_END:mg "FIELDS_END" = some t.v_FIELDS_END
 r_FIELDS_END:RelV (.int 125) t.v_FIELDS_END
 m_WHITE:mg "WHITE" = some (.ref t.v_WHITE)
 r_WHITE:RelV (.ref t.v_WHITE) (.ref t.v_WHITE)
 q_WHITE:∀ H,SqT K H t.v_WHITE [.int 9,.int 10,.int 13,.int 32]
 m_WORDS:mg "WORDS" = some (.ref t.v_WORDS)
 r_WORDS:RelV (.ref t.v_WORDS) (.ref t.v_WORDS)
 q_WORDS:DKP K t.v_WORDS [(110,.tup ([117,108,108].map .int)),(116,.tup ([114,117,101].map .int)),(102,.tup ([97,108,115,101].map .int))]
 m_SHORT_ESCAPES:mg "SHORT_ESCAPES" = some (.ref t.v_SHORT_ESCAPES)
 r_SHORT_ESCAPES:RelV (.ref t.v_SHORT_ESCAPES) (.ref t.v_SHORT_ESCAPES)
 q_SHORT_ESCAPES:DKP K t.v_SHORT_ESCAPES [(34,.int 34),(92,.int 92),(47,.int 47),(98,.int 8),(102,.int 12),(110,.int 10),(114,.int 13),(116,.int 9)]
 m_TAIL:mg "TAIL" = some (.ref t.v_TAIL)
 r_TAIL:RelV (.ref t.v_TAIL) (.ref t.v_TAIL)
 q_TAIL:∀ H,SqT K H t.v_TAIL [.int 128,.int 191]
 m_MOST_BRACKETS:mg "MOST_BRACKETS" = some t.v_MOST_BRACKETS
 r_MOST_BRACKETS:RelV (.int 64) t.v_MOST_BRACKETS
 m_LOOSE:mg "LOOSE" = some (.ref t.v_LOOSE)
 r_LOOSE:RelV (.ref t.v_LOOSE) (.ref t.v_LOOSE)
 q_LOOSE:∀ H,SqT K H t.v_LOOSE [.str "white",.str "figures",.str "fraction",.str "exponent",.str "sign"]
 m_UNENDED:mg "UNENDED" = some (.ref t.v_UNENDED)
 r_UNENDED:RelV (.ref t.v_UNENDED) (.ref t.v_UNENDED)
 q_UNENDED:∀ H,SqT K H t.v_UNENDED [.str "row",.str "more row",.str "fields",.str "more fields"]
 m_KINDS:mg "KINDS" = some (.ref t.v_KINDS)
 r_KINDS:RelV (.ref t.v_KINDS) (.ref t.v_KINDS)
 q_KINDS:DKP K t.v_KINDS [(34,.str "text"),(91,.str "row"),(102,.str "false"),(110,.str "null"),(116,.str "true"),(123,.str "fields")]
noncomputable def b8 (t:Adr) (c:String):Option Addr:=if c = "GlassError" then some t.C_GlassError else if c = "Fault" then some t.C_Fault else if c = "NoNode" then some t.C_NoNode else if c = "Walk" then some t.C_Walk else none
theorem nz {K:PySem.W.Frag} {mg:Str -> Option Value} {t:Adr} (T:Txt K mg t):∀ c C b,b8 t c = some C -> gT c = some b -> tm K t.C_GlassError C b:=by
 intro c C b h1 h2
 unfold b8 at h1
 unfold gT at h2
 by_cases e:c = "GlassError"
 . subst e; simp at h1 h2; subst h1; subst h2; exact takes T.e_GlassError T.e_GlassError (by simp)
 rw [if_neg e] at h1
 by_cases e:c = "Fault"
 . subst e; simp at h1 h2; subst h1; subst h2; exact takes T.e_Fault T.e_GlassError (by simp)
 rw [if_neg e] at h1
 by_cases e:c = "NoNode"
 . subst e; simp at h1 h2; subst h1; subst h2; exact takes T.e_NoNode T.e_GlassError (by simp)
 rw [if_neg e] at h1
 by_cases e:c = "Walk"
 . subst e; simp at h2
 rw [if_neg e] at h1
 cases h1
theorem xD {K:PySem.W.Frag} {mg:Str -> Option Value} {t:Adr} (T:Txt K mg t):∀ c C,b8 t c = some C -> (c == "NoNode") = true -> ∃ bm,lJ K C bm /\ ((∃ B bmB,(.ref t.C_NoNode:V) = .ref B /\ lJ K B bmB /\ (Value.ref C ::bm).contains (.ref B) = true) \/ ((.ref t.C_NoNode:V) = .ty "ValueError" /\ bm.contains (.type "ValueError") = true)):=by
 intro c C h1 h2
 unfold b8 at h1
 by_cases e:c = "GlassError"
 . subst e; simp at h2
 rw [if_neg e] at h1
 by_cases e:c = "Fault"
 . subst e; simp at h2
 rw [if_neg e] at h1
 by_cases e:c = "NoNode"
 . subst e; simp at h1; subst h1; exact ⟨_,T.e_NoNode,.inl ⟨_,_,rfl,T.e_NoNode,by simp⟩⟩
 rw [if_neg e] at h1
 by_cases e:c = "Walk"
 . subst e; simp at h2
 rw [if_neg e] at h1
 cases h1
theorem iA {K:PySem.W.Frag} {mg:Str -> Option Value} {t:Adr} (T:Txt K mg t):∀ c C,b8 t c = some C -> lO c = true -> Cls K C /\ kj K C "coming":=by
 intro c C h1 h2
 unfold b8 at h1
 unfold lO at h2
 by_cases e:c = "GlassError"
 . subst e; simp at h2
 rw [if_neg e] at h1
 by_cases e:c = "Fault"
 . subst e; simp at h2
 rw [if_neg e] at h1
 by_cases e:c = "NoNode"
 . subst e; simp at h2
 rw [if_neg e] at h1
 by_cases e:c = "Walk"
 . subst e; simp at h1; subst h1; exact ⟨T.c_Walk,T.na_Walk_coming⟩
 rw [if_neg e] at h1
 cases h1
theorem JB {K:PySem.W.Frag} {mg:Str -> Option Value} {t:Adr} (T:Txt K mg t):∀ c C,b8 t c = some C -> (c == "Fault") = true -> xx K C "at":=by
 intro c C h1 h2
 unfold b8 at h1
 by_cases e:c = "GlassError"
 . subst e; simp at h2
 rw [if_neg e] at h1
 by_cases e:c = "Fault"
 . subst e; simp at h1; subst h1; exact T.k_Fault.xc
 rw [if_neg e] at h1
 by_cases e:c = "NoNode"
 . subst e; simp at h2
 rw [if_neg e] at h1
 by_cases e:c = "Walk"
 . subst e; simp at h2
 rw [if_neg e] at h1
 cases h1
section
variable {P:Program} {w:World} {K:PySem.W.Frag} {mg:Str -> Option Value} {base:Heap} {t:Adr}
theorem si (T:Txt K mg t):cw P w K mg base (CXE P w) 1 t.f_Fault_init t.d_Fault_init ["self","at"] (rO t.C_Fault "at"):=B6 T.F_Fault_init sj T.k_Fault.xc fun _ _ _ _ _ _=>A5 (qv 0) (qv 1)
theorem tM (T:Txt K mg t):cw P w K mg base (CXE P w) 1 t.eJ t.d_law_plain ["_law_worth","_law_power"] (spP K (b8 t) eJ):=
 fo T.F_law_plain kT fun cdv A outer s H E hr=>⟨_,(aj (bj (aB cb (qv 0) aq (aQ _)) (au (aA (cU (aa aq (aa aq ao))))) aJ)
   (aj (i7 gO (aB cb (aU eC (qv 0) aq) aq (aQ _)) (aj (aZ (i:=0) kT.nd rfl (by first | exact Or.inl rfl | exact Or.inr rfl) (aU gf (qv 0) aq))
   (au (aZ (i:=1) kT.nd rfl (by first | exact Or.inl rfl | exact Or.inr rfl) (aU fm (qv 1) aq)))))
   (au (aA (cU (aa (qv 0) (aa (qv 1) ao))))))),
  (ay (bp (az (aw cf af ai)) (aD (cT (ag ai (ag ai ax)))) aK)
    (ay (i9 (az (aw cf (aw eD af ai) ai)) (ay (bf (aw gj af ai))
    (bf (aw fk af ai))))
    (aD (cT (ag af (ag af ax))))))⟩
theorem nU (T:Txt K mg t):cw P w K mg base (CXE P w) 2 t.dc t.d_law_number ["_law_number_here"] (spP K (b8 t) dc):=
 fo T.F_law_number bF fun cdv A outer s H E hr=>⟨_,(aj (aZ (i:=1) bF.nd rfl (by first | exact Or.inl rfl | exact Or.inr rfl) (j6 cb (aU eC (qv 0) aq) aq (aQ _)))
   (aj (Dp (i:=2) bF.nd rfl (by first | exact Or.inl rfl | exact Or.inr rfl) (M:=[]) (ι:=[]) (x:="_law_sign") ⟨rfl,rfl,rfl,rfl,rfl,rfl,rfl,rfl,rfl,rfl,rfl,by decide +kernel⟩ rfl (BB (pe o1 rfl T.n_str L2.E.boot_str (aa (aU eC (aU gf (qv 0) aq) aq) ao))) fun _ _ _ _=>(pe zq rfl T.n_int L2.E.boot_int (aa (qv 0) ao)))
   (aj (aZ (i:=3) bF.nd rfl (by first | exact Or.inl rfl | exact Or.inr rfl) (dH (by exact (dw (qv 1) (fun _=>rfl))) (bq (aa aq ao)) (bq ao)))
   (aj (aZ (i:=3) bF.nd rfl (by first | exact Or.inl rfl | exact Or.inr rfl) (aU fN (qv 3) (oB (M:=[]) (ι:=[]) (x:="_law_figure") ⟨rfl,rfl,rfl,rfl,rfl,rfl,rfl,rfl,rfl,rfl,rfl,by decide +kernel⟩ rfl (m7 (qv 2)) fun _ _ _ _=>(aU fm aq (qv 0)))))
   (aj (aZ (i:=4) bF.nd rfl (by first | exact Or.inl rfl | exact Or.inr rfl) aq)
   (aj (qU gO rfl (m7 (qv 2)) (nc (i:=5) bF.nd rfl (by first | exact Or.inl rfl | exact Or.inr rfl)) (au (aZ (i:=4) bF.nd rfl (by first | exact Or.inl rfl | exact Or.inr rfl) (aU fm (aU oa (qv 4) aq) (qv 5)))))
   (aj (aZ (i:=6) bF.nd rfl (by first | exact Or.inl rfl | exact Or.inr rfl) aq)
   (aj (bj (aB cb (aU eC (aU gf (qv 0) aq) aq) aq (aQ _)) (aj (hZ (nQ PySem.F.plainAttrs_list PySem.F.slot_list_append PySem.F.type_list_append e6 (qv 3) (aa aq ao)))
   (au (qU gO rfl (m7 (jf kd (bq (aa (aU eC (aU gf (qv 0) aq) aq) (aa (aU eC (aU gf (qv 0) aq) aq) (aa aq ao)))) kQ (jx (aU fm aq (aU eC (aU gf (qv 0) aq) aq))))) (nc (i:=5) bF.nd rfl (by first | exact Or.inl rfl | exact Or.inr rfl)) (aj (hZ (nQ PySem.F.plainAttrs_list PySem.F.slot_list_append PySem.F.type_list_append e6 (qv 3) (aa (aU fm aq (qv 5)) ao)))
   (aj (aZ (i:=4) bF.nd rfl (by first | exact Or.inl rfl | exact Or.inr rfl) (aU fm (aU oa (qv 4) aq) (qv 5)))
   (au (aZ (i:=6) bF.nd rfl (by first | exact Or.inl rfl | exact Or.inr rfl) (aU mV (qv 6) aq)))))))) aJ)
   (aj (bj (aB cb (aU eC (aU gf (qv 0) aq) aq) aq (aQ _)) (aj (aZ (i:=7) bF.nd rfl (by first | exact Or.inl rfl | exact Or.inr rfl) (aU eC (aU gf (qv 0) aq) aq))
   (aj (hZ (nQ PySem.F.plainAttrs_list PySem.F.slot_list_append PySem.F.type_list_append e6 (qv 3) (aa (df eE (bq (aa aq (aa aq ao))) (aU eC (aU gf (qv 0) aq) aq) (fun _ _=>rfl)) ao)))
   (aj (aZ (i:=8) bF.nd rfl (by first | exact Or.inl rfl | exact Or.inr rfl) (j6 cb (aU eC (aU gf (qv 0) aq) aq) aq (aQ _)))
   (aj (bj (dw (qv 8) (fun _=>rfl)) (au (hZ (nQ PySem.F.plainAttrs_list PySem.F.slot_list_append PySem.F.type_list_append e6 (qv 3) (aa aq ao)))) (au (bj (aB cb (aU eC (aU gf (qv 0) aq) aq) aq (aQ _)) (au (hZ (nQ PySem.F.plainAttrs_list PySem.F.slot_list_append PySem.F.type_list_append e6 (qv 3) (aa aq ao)))) aJ)))
   (aj (bj (aB cb (aU eC (aU gf (qv 0) aq) aq) aq (aQ _)) (au (hZ (nQ PySem.F.plainAttrs_list PySem.F.slot_list_append PySem.F.type_list_append e6 (qv 3) (aa aq ao)))) aJ)
   (aj (aZ (i:=3) bF.nd rfl (by first | exact Or.inl rfl | exact Or.inr rfl) (aU fN (qv 3) (oB (M:=[]) (ι:=[]) (x:="_law_sign") ⟨rfl,rfl,rfl,rfl,rfl,rfl,rfl,rfl,rfl,rfl,rfl,by decide +kernel⟩ rfl (BB (pe o1 rfl T.n_str L2.E.boot_str (aa (qv 7) ao))) fun _ _ _ _=>(cR A9 rfl T.n_ord L2.E.boot_ord (aa (qv 0) ao)))))
   (au (aZ (i:=6) bF.nd rfl (by first | exact Or.inl rfl | exact Or.inr rfl) (aU fm (qv 6) (dH (by exact (dw (qv 8) (fun _=>rfl))) (sy pk (qv 7)) (qv 7))))))))))) aJ)
   (aj (bj (dw (qv 1) (fun _=>rfl)) (au (aZ (i:=4) bF.nd rfl (by first | exact Or.inl rfl | exact Or.inr rfl) (sy pk (qv 4)))) aJ)
   (au (aA (cU (aa (qv 3) (aa (aC ((tM T).mono (by decide)) hr rfl T.je T.F_law_plain.kp T.b_law_plain .nil aI (aa (qv 4) (aa (qv 6) ao))) ao))))))))))))))),
  (ay (bf (aw cf (aw eD af ai) ai))
    (ay (bf (vR (by decide) (fB AJ (aw eD (aw gj af ai) ai)) (fB B8 af)))
    (ay (bf (iO (dP af) (br (ag ai ax)) (br ax)))
    (ay (bf (aw ic af (wd (by decide) af (aw fk ai af))))
    (ay (bf ai)
    (ay (fZ (i:=2) (uB af (bf (aw fk (aw n9 af ai) af))))
    (ay (bf ai)
    (ay (bp (az (aw cf (aw eD (aw gj af ai) ai) ai)) (ay (iz ai)
    (uB (mP (br (ag (aw eD (aw gj af ai) ai) (ag (aw eD (aw gj af ai) ai) (ag ai ax)))) kU (jw (aw fk ai (aw eD (aw gj af ai) ai)))) (ay (iz (aw fk ai af))
    (ay (bf (aw fk (aw n9 af ai) af))
    (bf (aw mx af ai)))))) aK)
    (ay (bp (az (aw cf (aw eD (aw gj af ai) ai) ai)) (ay (bf (aw eD (aw gj af ai) ai))
    (ay (iz (aw fT (br (ag ai (ag ai ax))) (aw eD (aw gj af ai) ai)))
    (ay (bf (aw cf (aw eD (aw gj af ai) ai) ai))
    (ay (bp (dP af) (iz ai) (bp (az (aw cf (aw eD (aw gj af ai) ai) ai)) (iz ai) aK))
    (ay (bp (az (aw cf (aw eD (aw gj af ai) ai) ai)) (iz ai) aK)
    (ay (bf (aw ic af (vR (by decide) (fB AJ af) (fB E8 af))))
    (bf (aw fk af (iO (dP af) (sY pq af) af))))))))) aK)
    (ay (bp (dP af) (bf (sY pq af)) aK)
    (fZ (i:=3) (aD (cT (ag af (ag (aL (ag af (ag af ax))) ax)))))))))))))))⟩
theorem pM (T:Txt K mg t):cw P w K mg base (CXE P w) 1 t.cZ t.d_Walk___init__ ["self"] (spI K (b8 t) cZ):=
 vS T.F_Walk___init__ pE fun cdv A outer s H E hr=>⟨_,(au (FF (qv 0) (bq (aa aN (aa aN (aa aN ao)))))),
  (C9 jn (ER (br (ag aO (ag aO (ag aO ax))))) (iA T))⟩
theorem ue (T:Txt K mg t):cw P w K mg base (CXE P w) 1 t.eK t.d_word_rest ["byte"] (spP K (b8 t) eK):=
 fo T.F_word_rest tK fun cdv A outer s H E hr=>⟨_,(au (aA (vD (aM rfl T.m_WORDS T.r_WORDS) (qv 0)))),
  (aD (vo T.q_WORDS af))⟩
theorem kG (T:Txt K mg t):cw P w K mg base (CXE P w) 1 t.eH t.d_is_figure ["byte"] (spP K (b8 t) eH):=
 fo T.F_is_figure uH fun cdv A outer s H E hr=>⟨_,(au (aA (AO kr kr (aM rfl T.m_NOUGHT T.r_NOUGHT) (qv 0) (aM rfl T.m_NINE T.r_NINE)))),
  (aD (jd ku ku ai af ai))⟩
theorem lQ (T:Txt K mg t):cw P w K mg base (CXE P w) 2 t.dF t.d_behind_lead ["byte"] (spP K (b8 t) dF):=
 fo T.F_behind_lead rZ fun cdv A outer s H E hr=>⟨_,(aj (bj (aB cb (qv 0) (aM rfl T.m_NOUGHT T.r_NOUGHT) (aQ _)) (au (aA (bq (aa aN (aa aN ao))))) aJ)
   (aj (bj (dw (aC ((kG T).mono (by decide)) hr rfl T.iB T.F_is_figure.kp T.b_is_figure .nil aI (aa (qv 0) ao)) (fun _=>rfl)) (au (aA (bq (aa aN (aa aN (aa aN ao)))))) aJ)
   (au (aA dA)))),
  (ay (bp (az (aw cf af ai)) (aD (br (ag aO (ag aO ax)))) aK)
    (ay (bp (dP (aL (ag af ax))) (aD (br (ag aO (ag aO (ag aO ax))))) aK)
    (aD dD)))⟩
theorem lz (T:Txt K mg t):cw P w K mg base (CXE P w) 3 t.bA t.d_behind_value ["byte"] (spP K (b8 t) bA):=
 fo T.F_behind_value lD fun cdv A outer s H E hr=>⟨_,(aj (bj (aB cb (qv 0) (aM rfl T.m_ROW_BEGIN T.r_ROW_BEGIN) (aQ _)) (au (aA (bq (aa aN (aa aN ao))))) aJ)
   (aj (bj (aB cb (qv 0) (aM rfl T.m_FIELDS_BEGIN T.r_FIELDS_BEGIN) (aQ _)) (au (aA (bq (aa aN (aa aN ao))))) aJ)
   (aj (bj (aB cb (qv 0) (aM rfl T.m_QUOTE T.r_QUOTE) (aQ _)) (au (aA (bq (aa aN ao)))) aJ)
   (aj (bj (aB cb (qv 0) (aM rfl T.m_MINUS T.r_MINUS) (aQ _)) (au (aA (bq (aa aN ao)))) aJ)
   (aj (aZ (i:=1) lD.nd rfl (by first | exact Or.inl rfl | exact Or.inr rfl) (aC ((ue T).mono (by decide)) hr rfl T.gn T.F_word_rest.kp T.b_word_rest .nil aI (aa (qv 0) ao)))
   (aj (bj (aB uf (qv 1) dA (aQ _)) (au (aA (oB (M:=[]) (ι:=[]) (x:="sign") ⟨rfl,rfl,rfl,rfl,rfl,rfl,rfl,rfl,rfl,rfl,rfl,by decide +kernel⟩ rfl (ED (qv 1)) fun _ _ _ _=>(cU (aa (qv 0) (aa (qv 0) ao)))))) aJ)
   (au (aA (aC ((lQ T).mono (by decide)) hr rfl T.fY T.F_behind_lead.kp T.b_behind_lead .nil aI (aa (qv 0) ao)))))))))),
  (ay (bp (az (aw cf af ai)) (aD (br (ag aO (ag aO ax)))) aK)
    (ay (bp (az (aw cf af ai)) (aD (br (ag aO (ag aO ax)))) aK)
    (ay (bp (az (aw cf af ai)) (aD (br (ag aO ax))) aK)
    (ay (bp (az (aw cf af ai)) (aD (br (ag aO ax))) aK)
    (ay (bf (aL (ag af ax)))
    (ay (bp (az (aw uN af dD)) (aD (Br (by decide) af (cT (ag af (ag af ax))))) aK)
    (aD (aL (ag af ax)))))))))⟩
theorem nu (T:Txt K mg t):cw P w K mg base (CXE P w) 3 t.aV t.d_behind_in_number ["item","byte"] (spP K (b8 t) aV):=
 fo T.F_behind_in_number nB fun cdv A outer s H E hr=>⟨_,(aj (bj (aB cb (qv 0) aN (aQ _)) (au (aA (aC ((lQ T).mono (by decide)) hr rfl T.fY T.F_behind_lead.kp T.b_behind_lead .nil aI (aa (qv 1) ao)))) aJ)
   (aj (bj (aB cb (qv 0) aN (aQ _)) (au (aA (dH (by exact (dw (aC ((kG T).mono (by decide)) hr rfl T.iB T.F_is_figure.kp T.b_is_figure .nil aI (aa (qv 1) ao)) (fun _=>rfl))) (bq (aa aN ao)) dA))) aJ)
   (aj (bj (aB cb (qv 0) aN (aQ _)) (au (aA (dH (by exact (aB cb (qv 1) (aM rfl T.m_POINT T.r_POINT) (aQ _))) (bq (aa (cU (aa (aM rfl T.m_NOUGHT T.r_NOUGHT) (aa (aM rfl T.m_NINE T.r_NINE) ao))) (aa aN ao))) dA))) aJ)
   (aj (bj (aB cb (qv 0) aN (aQ _)) (au (aA (dH (by exact (aB jq (qv 1) (cU (aa (aM rfl T.m_SMALL_E T.r_SMALL_E) (aa (aM rfl T.m_BIG_E T.r_BIG_E) ao))) rfl)) (bq (aa aN (aa (cU (aa (aM rfl T.m_NOUGHT T.r_NOUGHT) (aa (aM rfl T.m_NINE T.r_NINE) ao))) (aa aN ao)))) dA))) aJ)
   (au (aA (dH (by exact (aB jq (qv 1) (cU (aa (aM rfl T.m_PLUS T.r_PLUS) (aa (aM rfl T.m_MINUS T.r_MINUS) ao))) rfl)) (bq ao) dA))))))),
  (ay (bp (az (aw cf af aO)) (aD (aL (ag af ax))) aK)
    (ay (bp (az (aw cf af aO)) (aD (iO (dP (aL (ag af ax))) (br (ag aO ax)) dD)) aK)
    (ay (bp (az (aw cf af aO)) (aD (iO (az (aw cf af ai)) (br (ag (cT (ag ai (ag ai ax))) (ag aO ax))) dD)) aK)
    (ay (bp (az (aw cf af aO)) (aD (iO (az (aw (lE hr.units) af (cT (ag ai (ag ai ax))))) (br (ag aO (ag (cT (ag ai (ag ai ax))) (ag aO ax)))) dD)) aK)
    (aD (iO (az (aw (lE hr.units) af (cT (ag ai (ag ai ax))))) (br ax) dD))))))⟩
theorem oZ (T:Txt K mg t):cw P w K mg base (CXE P w) 2 t.fi t.d_hex_worth ["byte"] (spP K (b8 t) fi):=
 fo T.F_hex_worth uP fun cdv A outer s H E hr=>⟨_,(aj (bj (dw (aC ((kG T).mono (by decide)) hr rfl T.iB T.F_is_figure.kp T.b_is_figure .nil aI (aa (qv 0) ao)) (fun _=>rfl)) (au (aA (aU mV (qv 0) (aM rfl T.m_NOUGHT T.r_NOUGHT)))) aJ)
   (aj (bj (jV kr kr aq (qv 0) aq) (au (aA (aU mV (qv 0) aq))) aJ)
   (aj (bj (jV kr kr aq (qv 0) aq) (au (aA (aU mV (qv 0) aq))) aJ)
   (au (aA dA))))),
  (ay (bp (dP (aL (ag af ax))) (aD (aw mx af ai)) aK)
    (ay (bp (az (jd ku ku ai af ai)) (aD (aw mx af ai)) aK)
    (ay (bp (az (jd ku ku ai af ai)) (aD (aw mx af ai)) aK)
    (aD dD))))⟩
theorem pC (T:Txt K mg t):cw P w K mg base (CXE P w) 1 t.de t.d_behind_code_d ["worth"] (spP K (b8 t) de):=
 fo T.F_behind_code_d ky fun cdv A outer s H E hr=>⟨_,(aj (bj (aB ly (qv 0) aq (aQ _)) (au (aA (bq (aa aN (aa aN ao))))) aJ)
   (aj (bj (aB ly (qv 0) aq (aQ _)) (aj (aZ (i:=1) ky.nd rfl (by first | exact Or.inl rfl | exact Or.inr rfl) (bq (aa (cU (aa (aM rfl T.m_BACKSLASH T.r_BACKSLASH) (aa (aM rfl T.m_BACKSLASH T.r_BACKSLASH) ao))) (aa (cU (aa (aM rfl T.m_SMALL_U T.r_SMALL_U) (aa (aM rfl T.m_SMALL_U T.r_SMALL_U) ao))) (aa aN (aa aN (aa aN (aa aN ao))))))))
   (au (aA (aU fN (bq (aa aN (aa aN ao))) (qv 1))))) aJ)
   (au (aA dA)))),
  (ay (bp (az (aw lu af ai)) (aD (br (ag aO (ag aO ax)))) aK)
    (ay (bp (az (aw lu af ai)) (ay (bf (br (ag (cT (ag ai (ag ai ax))) (ag (cT (ag ai (ag ai ax))) (ag aO (ag aO (ag aO (ag aO ax))))))))
    (aD (aw ic (br (ag aO (ag aO ax))) af))) aK)
    (aD dD)))⟩
theorem oi (T:Txt K mg t):cw P w K mg base (CXE P w) 1 t.cA t.d_second_of_three ["byte"] (spP K (b8 t) cA):=
 fo T.F_second_of_three n4 fun cdv A outer s H E hr=>⟨_,(aj (bj (aB cb (qv 0) aq (aQ _)) (au (aA (cU (aa aq (aa aq ao))))) aJ)
   (aj (bj (aB cb (qv 0) aq (aQ _)) (au (aA (cU (aa aq (aa aq ao))))) aJ)
   (au (aA (aM rfl T.m_TAIL T.r_TAIL))))),
  (ay (bp (az (aw cf af ai)) (aD (cT (ag ai (ag ai ax)))) aK)
    (ay (bp (az (aw cf af ai)) (aD (cT (ag ai (ag ai ax)))) aK)
    (aD (kW T.q_TAIL))))⟩
theorem oR (T:Txt K mg t):cw P w K mg base (CXE P w) 1 t.cJ t.d_second_of_four ["byte"] (spP K (b8 t) cJ):=
 fo T.F_second_of_four o7 fun cdv A outer s H E hr=>⟨_,(aj (bj (aB cb (qv 0) aq (aQ _)) (au (aA (cU (aa aq (aa aq ao))))) aJ)
   (aj (bj (aB cb (qv 0) aq (aQ _)) (au (aA (cU (aa aq (aa aq ao))))) aJ)
   (au (aA (aM rfl T.m_TAIL T.r_TAIL))))),
  (ay (bp (az (aw cf af ai)) (aD (cT (ag ai (ag ai ax)))) aK)
    (ay (bp (az (aw cf af ai)) (aD (cT (ag ai (ag ai ax)))) aK)
    (aD (kW T.q_TAIL))))⟩
theorem AA (T:Txt K mg t):cw P w K mg base (CXE P w) 2 t.ib t.d_tails ["byte"] (spP K (b8 t) ib):=
 fo T.F_tails Af fun cdv A outer s H E hr=>⟨_,(aj (bj (jV kr ly aq (qv 0) aq) (au (aA (bq ao))) aJ)
   (aj (bj (jV kr ly aq (qv 0) aq) (au (aA (bq (aa (aM rfl T.m_TAIL T.r_TAIL) ao)))) aJ)
   (aj (bj (jV kr ly aq (qv 0) aq) (au (aA (bq (aa (aC ((oi T).mono (by decide)) hr rfl T.fc T.F_second_of_three.kp T.b_second_of_three .nil aI (aa (qv 0) ao)) (aa (aM rfl T.m_TAIL T.r_TAIL) ao))))) aJ)
   (aj (bj (jV kr ly aq (qv 0) aq) (au (aA (bq (aa (aC ((oR T).mono (by decide)) hr rfl T.fz T.F_second_of_four.kp T.b_second_of_four .nil aI (aa (qv 0) ao)) (aa (aM rfl T.m_TAIL T.r_TAIL) (aa (aM rfl T.m_TAIL T.r_TAIL) ao)))))) aJ)
   (au (aA dA)))))),
  (ay (bp (az (jd ku lu ai af ai)) (aD (br ax)) aK)
    (ay (bp (az (jd ku lu ai af ai)) (aD (br (ag (kW T.q_TAIL) ax))) aK)
    (ay (bp (az (jd ku lu ai af ai)) (aD (br (ag (aL (ag af ax)) (ag (kW T.q_TAIL) ax)))) aK)
    (ay (bp (az (jd ku lu ai af ai)) (aD (br (ag (aL (ag af ax)) (ag (kW T.q_TAIL) (ag (kW T.q_TAIL) ax))))) aK)
    (aD dD)))))⟩
theorem nC (T:Txt K mg t):cw P w K mg base (CXE P w) 3 t.bI t.d_behind_character ["byte"] (spP K (b8 t) bI):=
 fo T.F_behind_character jt fun cdv A outer s H E hr=>⟨_,(aj (bj (aB cb (qv 0) (aM rfl T.m_QUOTE T.r_QUOTE) (aQ _)) (au (aA (bq ao))) aJ)
   (aj (bj (aB cb (qv 0) (aM rfl T.m_BACKSLASH T.r_BACKSLASH) (aQ _)) (au (aA (bq (aa aN (aa aN ao))))) aJ)
   (aj (aZ (i:=1) jt.nd rfl (by first | exact Or.inl rfl | exact Or.inr rfl) (aC ((AA T).mono (by decide)) hr rfl T.kf T.F_tails.kp T.b_tails .nil aI (aa (qv 0) ao)))
   (aj (bj (oS (Ba (aB ly (qv 0) (aM rfl T.m_BLANK T.r_BLANK) (aQ _)) (wF (aB qF (qv 1) dA (aQ _))))) (au (aA dA)) aJ)
   (au (aA (aU fN (qv 1) (bq (aa aN ao))))))))),
  (ay (bp (az (aw cf af ai)) (aD (br ax)) aK)
    (ay (bp (az (aw cf af ai)) (aD (br (ag aO (ag aO ax)))) aK)
    (ay (bf (aL (ag af ax)))
    (ay (bp (A0 (az (aw lu af ai)) (az (aw rH af dD))) (aD dD) aK)
    (aD (aw ic af (br (ag aO ax))))))))⟩
theorem qq (T:Txt K mg t):cw P w K mg base (CXE P w) 1 t.bz t.d_short_escape ["byte"] (spP K (b8 t) bz):=
 fo T.F_short_escape qo fun cdv A outer s H E hr=>⟨_,(au (aA (vD (aM rfl T.m_SHORT_ESCAPES T.r_SHORT_ESCAPES) (qv 0)))),
  (aD (vo T.q_SHORT_ESCAPES af))⟩
theorem nk (T:Txt K mg t):cw P w K mg base (CXE P w) 2 t.cq t.d_behind_backslash ["byte"] (spP K (b8 t) cq):=
 fo T.F_behind_backslash ny fun cdv A outer s H E hr=>⟨_,(aj (bj (aB cb (qv 0) (aM rfl T.m_SMALL_U T.r_SMALL_U) (aQ _)) (au (aA (bq (aa aN ao)))) aJ)
   (au (aA (dH (by exact (aB qF (aC ((qq T).mono (by decide)) hr rfl T.cx T.F_short_escape.kp T.b_short_escape .nil aI (aa (qv 0) ao)) dA (aQ _))) dA (bq ao))))),
  (ay (bp (az (aw cf af ai)) (aD (br (ag aO ax))) aK)
    (aD (iO (az (aw rH (aL (ag af ax)) dD)) dD (br ax))))⟩
theorem oQ (T:Txt K mg t):cw P w K mg base (CXE P w) 4 t.bH t.d_behind_in_text ["item","byte"] (spP K (b8 t) bH):=
 fo T.F_behind_in_text jZ fun cdv A outer s H E hr=>⟨_,(aj (bj (aB cb (qv 0) aN (aQ _)) (au (aA (aC ((nC T).mono (by decide)) hr rfl T.dq T.F_behind_character.kp T.b_behind_character .nil aI (aa (qv 1) ao)))) aJ)
   (aj (bj (aB cb (qv 0) aN (aQ _)) (au (aA (aC ((nk T).mono (by decide)) hr rfl T.eT T.F_behind_backslash.kp T.b_behind_backslash .nil aI (aa (qv 1) ao)))) aJ)
   (aj (aZ (i:=2) jZ.nd rfl (by first | exact Or.inl rfl | exact Or.inr rfl) (aC ((oZ T).mono (by decide)) hr rfl T.jb T.F_hex_worth.kp T.b_hex_worth .nil aI (aa (qv 1) ao)))
   (aj (bj (aB qF (qv 2) dA (aQ _)) (au (aA dA)) aJ)
   (aj (bj (aB cb (qv 0) aN (aQ _)) (au (aA (dH (by exact (aB cb (qv 2) aq (aQ _))) (bq (aa aN ao)) (bq (aa aN (aa aN (aa aN ao))))))) aJ)
   (au (aA (aC ((pC T).mono (by decide)) hr rfl T.fW T.F_behind_code_d.kp T.b_behind_code_d .nil aI (aa (qv 2) ao))))))))),
  (ay (bp (az (aw cf af aO)) (aD (aL (ag af ax))) aK)
    (ay (bp (az (aw cf af aO)) (aD (aL (ag af ax))) aK)
    (ay (bf (aL (ag af ax)))
    (ay (bp (az (aw rH af dD)) (aD dD) aK)
    (ay (bp (az (aw cf af aO)) (aD (iO (az (aw cf af ai)) (br (ag aO ax)) (br (ag aO (ag aO (ag aO ax)))))) aK)
    (aD (aL (ag af ax))))))))⟩
theorem se (T:Txt K mg t):cw P w K mg base (CXE P w) 3 t.dI t.d_behind_hex ["item","byte"] (spP K (b8 t) dI):=
 fo T.F_behind_hex nJ fun cdv A outer s H E hr=>⟨_,(aj (aZ (i:=2) nJ.nd rfl (by first | exact Or.inl rfl | exact Or.inr rfl) (aC ((oZ T).mono (by decide)) hr rfl T.jb T.F_hex_worth.kp T.b_hex_worth .nil aI (aa (qv 1) ao)))
   (aj (bj (aB qF (qv 2) dA (aQ _)) (au (aA dA)) aJ)
   (aj (bj (aB cb (qv 0) aN (aQ _)) (au (aA (dH (by exact (aB cb (qv 2) aq (aQ _))) (bq ao) dA))) aJ)
   (aj (bj (aB cb (qv 0) aN (aQ _)) (au (aA (dH (by exact (aB G9 (qv 2) aq (aQ _))) (bq ao) dA))) aJ)
   (au (aA (bq ao))))))),
  (ay (bf (aL (ag af ax)))
    (ay (bp (az (aw rH af dD)) (aD dD) aK)
    (ay (bp (az (aw cf af aO)) (aD (iO (az (aw cf af ai)) (br ax) dD)) aK)
    (ay (bp (az (aw cf af aO)) (aD (iO (az (aw Hk af ai)) (br ax) dD)) aK)
    (aD (br ax))))))⟩
theorem nv (T:Txt K mg t):cw P w K mg base (CXE P w) 4 t.bW t.d_behind_row_begin ["byte"] (spP K (b8 t) bW):=
 fo T.F_behind_row_begin jr fun cdv A outer s H E hr=>⟨_,(aj (bj (aB cb (qv 0) (aM rfl T.m_ROW_END T.r_ROW_END) (aQ _)) (au (aA (bq ao))) aJ)
   (aj (aZ (i:=1) jr.nd rfl (by first | exact Or.inl rfl | exact Or.inr rfl) (aC ((lz T).mono (by decide)) hr rfl T.cy T.F_behind_value.kp T.b_behind_value .nil aI (aa (qv 0) ao)))
   (au (aA (dH (by exact (aB qF (qv 1) dA (aQ _))) dA (aU fN (qv 1) (bq (aa aN (aa aN ao))))))))),
  (ay (bp (az (aw cf af ai)) (aD (br ax)) aK)
    (ay (bf (aL (ag af ax)))
    (aD (iO (az (aw rH af dD)) dD (aw ic af (br (ag aO (ag aO ax))))))))⟩
theorem lV (T:Txt K mg t):cw P w K mg base (CXE P w) 1 t.dX t.d_member_rest [] (spP K (b8 t) dX):=
 fo T.F_member_rest rn fun cdv A outer s H E hr=>⟨_,(au (aA (bq (aa aN (aa (cU (aa (aM rfl T.m_COLON T.r_COLON) (aa (aM rfl T.m_COLON T.r_COLON) ao))) (aa aN (aa aN (aa aN (aa aN ao))))))))),
  (aD (br (ag aO (ag (cT (ag ai (ag ai ax))) (ag aO (ag aO (ag aO (ag aO ax))))))))⟩
theorem kK (T:Txt K mg t):cw P w K mg base (CXE P w) 2 t.bJ t.d_behind_fields_begin ["byte"] (spP K (b8 t) bJ):=
 fo T.F_behind_fields_begin kZ fun cdv A outer s H E hr=>⟨_,(aj (bj (aB cb (qv 0) (aM rfl T.m_FIELDS_END T.r_FIELDS_END) (aQ _)) (au (aA (bq ao))) aJ)
   (au (aA (dH (by exact (aB cb (qv 0) (aM rfl T.m_QUOTE T.r_QUOTE) (aQ _))) (aU fN (bq (aa aN ao)) (sP ((lV T).mono (by decide)) hr rfl T.hV T.F_member_rest.kp T.b_member_rest aI)) dA)))),
  (ay (bp (az (aw cf af ai)) (aD (br ax)) aK)
    (aD (iO (az (aw cf af ai)) (aw ic (br (ag aO ax)) (aL ax)) dD)))⟩
theorem lM (T:Txt K mg t):cw P w K mg base (CXE P w) 5 t.bb t.d_behind_in_brackets ["item","byte"] (spP K (b8 t) bb):=
 fo T.F_behind_in_brackets lL fun cdv A outer s H E hr=>⟨_,(aj (bj (aB cb (qv 0) aN (aQ _)) (au (aA (aC ((nv T).mono (by decide)) hr rfl T.dS T.F_behind_row_begin.kp T.b_behind_row_begin .nil aI (aa (qv 1) ao)))) aJ)
   (aj (bj (aB cb (qv 0) aN (aQ _)) (au (aA (aC ((kK T).mono (by decide)) hr rfl T.dR T.F_behind_fields_begin.kp T.b_behind_fields_begin .nil aI (aa (qv 1) ao)))) aJ)
   (aj (bj (aB cb (qv 0) aN (aQ _)) (aj (bj (aB cb (qv 1) (aM rfl T.m_COMMA T.r_COMMA) (aQ _)) (au (aA (bq (aa aN (aa aN (aa aN (aa aN ao))))))) aJ)
   (au (aA (dH (by exact (aB cb (qv 1) (aM rfl T.m_ROW_END T.r_ROW_END) (aQ _))) (bq ao) dA)))) aJ)
   (aj (bj (aB cb (qv 1) (aM rfl T.m_COMMA T.r_COMMA) (aQ _)) (au (aA (aU fN (bq (aa aN (aa aN ao))) (sP ((lV T).mono (by decide)) hr rfl T.hV T.F_member_rest.kp T.b_member_rest aI)))) aJ)
   (au (aA (dH (by exact (aB cb (qv 1) (aM rfl T.m_FIELDS_END T.r_FIELDS_END) (aQ _))) (bq ao) dA))))))),
  (ay (bp (az (aw cf af aO)) (aD (aL (ag af ax))) aK)
    (ay (bp (az (aw cf af aO)) (aD (aL (ag af ax))) aK)
    (ay (bp (az (aw cf af aO)) (ay (bp (az (aw cf af ai)) (aD (br (ag aO (ag aO (ag aO (ag aO ax)))))) aK)
    (aD (iO (az (aw cf af ai)) (br ax) dD))) aK)
    (ay (bp (az (aw cf af ai)) (aD (aw ic (br (ag aO (ag aO ax))) (aL ax))) aK)
    (aD (iO (az (aw cf af ai)) (br ax) dD))))))⟩
theorem jY (T:Txt K mg t):cw P w K mg base (CXE P w) 1 t.eS t.d_is_white ["byte"] (spP K (b8 t) eS):=
 fo T.F_is_white vL fun cdv A outer s H E hr=>⟨_,(au (aA (j6 jq (qv 0) (aM rfl T.m_WHITE T.r_WHITE) rfl))),
  (aD (aw (lE hr.units) af (kW T.q_WHITE)))⟩
theorem yY (T:Txt K mg t):cw P w K mg base (CXE P w) 6 t.b9 t.d_behind ["item","byte"] (spP K (b8 t) b9):=
 fo T.F_behind yS fun cdv A outer s H E hr=>⟨_,(aj (bj (dw (cR oV rfl T.n_isinstance L2.E.boot_isinstance (aa (qv 0) (aa (qt (v:=.ty _) rfl T.n_tuple L2.E.boot_tuple rfl) ao))) (fun _=>rfl)) (au (aA (dH (by exact (jV kr kr (df eY (qv 0) aq (fun _ _=>rfl)) (qv 1) (df eY (qv 0) aq (fun _ _=>rfl)))) (bq ao) dA))) aJ)
   (aj (bj (aB jq (qv 0) (cU (aa aN (aa aN (aa aN (aa aN (aa aN ao)))))) rfl) (au (aA (aC ((nu T).mono (by decide)) hr rfl T.bw T.F_behind_in_number.kp T.b_behind_in_number .nil aI (aa (qv 0) (aa (qv 1) ao))))) aJ)
   (aj (bj (aB jq (qv 0) (cU (aa aN (aa aN (aa aN (aa aN ao))))) rfl) (au (aA (aC ((oQ T).mono (by decide)) hr rfl T.cL T.F_behind_in_text.kp T.b_behind_in_text .nil aI (aa (qv 0) (aa (qv 1) ao))))) aJ)
   (aj (bj (aB jq (qv 0) (cU (aa aN (aa aN (aa aN ao)))) rfl) (au (aA (aC ((se T).mono (by decide)) hr rfl T.fS T.F_behind_hex.kp T.b_behind_hex .nil aI (aa (qv 0) (aa (qv 1) ao))))) aJ)
   (aj (bj (aB jq (qv 0) (aM rfl T.m_UNENDED T.r_UNENDED) rfl) (au (aA (aC ((lM T).mono (by decide)) hr rfl T.bQ T.F_behind_in_brackets.kp T.b_behind_in_brackets .nil aI (aa (qv 0) (aa (qv 1) ao))))) aJ)
   (aj (bj (aB cb (qv 0) aN (aQ _)) (au (aA (dH (by exact (dw (aC ((jY T).mono (by decide)) hr rfl T.il T.F_is_white.kp T.b_is_white .nil aI (aa (qv 1) ao)) (fun _=>rfl))) (bq (aa aN ao)) dA))) aJ)
   (aj (bj (aB cb (qv 0) aN (aQ _)) (au (aA (dH (by exact (aB cb (qv 1) (aM rfl T.m_QUOTE T.r_QUOTE) (aQ _))) (bq (aa aN ao)) dA))) aJ)
   (au (aA (aC ((lz T).mono (by decide)) hr rfl T.cy T.F_behind_value.kp T.b_behind_value .nil aI (aa (qv 1) ao))))))))))),
  (ay (bp (dP (tX af)) (aD (iO (az (jd ku ku (aw eX af ai) af (aw eX af ai))) (br ax) dD)) aK)
    (ay (bp (az (aw (lE hr.units) af (cT (ag aO (ag aO (ag aO (ag aO (ag aO ax)))))))) (aD (aL (ag af (ag af ax)))) aK)
    (ay (bp (az (aw (lE hr.units) af (cT (ag aO (ag aO (ag aO (ag aO ax))))))) (aD (aL (ag af (ag af ax)))) aK)
    (ay (bp (az (aw (lE hr.units) af (cT (ag aO (ag aO (ag aO ax)))))) (aD (aL (ag af (ag af ax)))) aK)
    (ay (bp (az (aw (lE hr.units) af (uO fun S=>by unfold Rep; exact ⟨_,_,rfl,T.q_UNENDED S,(.cons (by unfold Rep; rfl) (.cons (by unfold Rep; rfl) (.cons (by unfold Rep; rfl) (.cons (by unfold Rep; rfl) .nil))))⟩))) (aD (aL (ag af (ag af ax)))) aK)
    (ay (bp (az (aw cf af aO)) (aD (iO (dP (aL (ag af ax))) (br (ag aO ax)) dD)) aK)
    (ay (bp (az (aw cf af aO)) (aD (iO (az (aw cf af ai)) (br (ag aO ax)) dD)) aK)
    (aD (aL (ag af ax))))))))))⟩
theorem pH (T:Txt K mg t):cw P w K mg base (CXE P w) 1 t.cG t.d_Walk_brackets ["self"] (spI K (b8 t) cG):=
 vS T.F_Walk_brackets pG fun cdv A outer s H E hr=>⟨_,(au (aA (cR cg rfl T.n_len L2.E.boot_len (aa (zd (M:=[]) (ι:=[]) (x:="item") ⟨rfl,rfl,rfl,rfl,rfl,rfl,rfl,rfl,rfl,rfl,rfl,by decide +kernel⟩ rfl (m7 (qM (qv 0))) (fun _ _ _ _=>(aB jq (qv 0) (aM rfl T.m_UNENDED T.r_UNENDED) rfl)) fun _ _ _ _=>(qv 0)) ao)))),
  (aD (fB iy (wZ (by decide) (xT (wm jn (iA T))) (az (aw (lE hr.units) af (uO fun S=>by unfold Rep; exact ⟨_,_,rfl,T.q_UNENDED S,(.cons (by unfold Rep; rfl) (.cons (by unfold Rep; rfl) (.cons (by unfold Rep; rfl) (.cons (by unfold Rep; rfl) .nil))))⟩))) af)))⟩
theorem ql (T:Txt K mg t):cw P w K mg base (CXE P w) 7 t.dZ t.d_Walk_goes_on ["self","byte"] (spI K (b8 t) dZ):=
 vS T.F_Walk_goes_on jj fun cdv A outer s H E hr=>⟨_,(aj (i7 gO (dw (qM (qv 0)) (fun _=>rfl)) (aj (aZ (i:=2) jj.nd rfl (by first | exact Or.inl rfl | exact Or.inr rfl) (Ao PySem.F.plainAttrs_list PySem.F.slot_list_pop PySem.F.type_list_pop AB (qM (qv 0))))
   (aj (aZ (i:=3) jj.nd rfl (by first | exact Or.inl rfl | exact Or.inr rfl) (aC ((yY T).mono (by decide)) hr rfl T.cE T.F_behind.kp T.b_behind .nil aI (aa (qv 2) (aa (qv 1) ao))))
   (aj (bj (aB uf (qv 3) dA (aQ _)) (aj (hZ (nQ PySem.F.plainAttrs_list PySem.F.slot_list_extend PySem.F.type_list_extend yR (qM (qv 0)) (aa (FV (qv 3) (sy pk aq)) ao)))
   (au (aA (j6 kr (tj (qv 0) T.c_Walk T.h_Walk_brackets ((pH T).mono (by decide)) hr T.b_Walk_brackets aI) (aM rfl T.m_MOST_BRACKETS T.r_MOST_BRACKETS) (aQ _))))) aJ)
   (au (bj (aB pP (qv 2) (aM rfl T.m_LOOSE T.r_LOOSE) rfl) (au (aA yn)) aJ))))))
   (au (aA yn))),
  (ay (i9 (zB (wm jn (iA T))) (ay (uS (xR (wm jn (iA T))))
    (ay (bf (aL (ag af (ag af ax))))
    (ay (bp (az (aw uN af dD)) (ay (xH (wm jn (iA T)) (E6 af (sY pq ai)))
    (aD (aw ku (vb rfl rfl (DW jn) qA) ai))) aK)
    (bp (az (aw (rf hr.units) af (uO fun S=>by unfold Rep; exact ⟨_,_,rfl,T.q_LOOSE S,(.cons (by unfold Rep; rfl) (.cons (by unfold Rep; rfl) (.cons (by unfold Rep; rfl) (.cons (by unfold Rep; rfl) (.cons (by unfold Rep; rfl) .nil)))))⟩))) (aD xU) aK)))))
    (aD xU))⟩
theorem tJ (T:Txt K mg t):cw P w K mg base (CXE P w) 8 t.fL t.d_Walk_take ["self","row"] (spI K (b8 t) fL):=
 vS T.F_Walk_take lj fun cdv A outer s H E hr=>⟨_,(aj (qU gO rfl (Cc rfl T.n_enumerate (aa (qv 1) ao)) (Ga rfl (wb (nc (i:=2) lj.nd rfl (by first | exact Or.inl rfl | exact Or.inr rfl)) (wb (nc (i:=3) lj.nd rfl (by first | exact Or.inl rfl | exact Or.inr rfl)) BW))) (au (bj (xk (dw (wt (qv 0) T.c_Walk T.h_Walk_goes_on ((ql T).mono (by decide)) hr T.b_Walk_goes_on aI (aa (qv 3) ao)) (fun _=>rfl))) (au (aA (qv 2))) aJ)))
   (au (aA (cR cg rfl T.n_len L2.E.boot_len (aa (qv 1) ao))))),
  (ay (CT af (C4 (vY rfl rfl (DA jn) (vO (D7 (W:=fun _ _ _ _=>False) af) qA)) jF aK))
    (aD (fB iy af)))⟩
theorem pQ (T:Txt K mg t):cw P w K mg base (CXE P w) 1 t.da t.d_Walk_is_whole ["self"] (spI K (b8 t) da):=
 vS T.F_Walk_is_whole pw fun cdv A outer s H E hr=>⟨_,(au (aA (cR yZ rfl T.n_all L2.E.boot_all (aa (oB (M:=[]) (ι:=[]) (x:="item") ⟨rfl,rfl,rfl,rfl,rfl,rfl,rfl,rfl,rfl,rfl,rfl,by decide +kernel⟩ rfl (m7 (qM (qv 0))) fun _ _ _ _=>(j6 jq (qv 0) (aM rfl T.m_LOOSE T.r_LOOSE) rfl)) ao)))),
  (aD (fB (En hr.hd) (wd (by decide) (xT (wm jn (iA T))) (aw (lE hr.units) af (uO fun S=>by unfold Rep; exact ⟨_,_,rfl,T.q_LOOSE S,(.cons (by unfold Rep; rfl) (.cons (by unfold Rep; rfl) (.cons (by unfold Rep; rfl) (.cons (by unfold Rep; rfl) (.cons (by unfold Rep; rfl) .nil)))))⟩)))))⟩
theorem AI (T:Txt K mg t):cw P w K mg base (CXE P w) 9 t.j7 t.d_fault ["row"] (spP K (b8 t) j7):=
 fo T.F_fault rR fun cdv A outer s H E hr=>⟨_,(aj (aZ (i:=1) rR.nd rfl (by first | exact Or.inl rfl | exact Or.inr rfl) (AF T.k_Walk (pM T) (hr.mono (by decide)) rfl T.m_Walk T.b_Walk___init__))
   (aj (aZ (i:=2) rR.nd rfl (by first | exact Or.inl rfl | exact Or.inr rfl) (wt (qv 1) T.c_Walk T.h_Walk_take ((tJ T).mono (by decide)) hr T.b_Walk_take aI (aa (qv 0) ao)))
   (aj (bj (oS (oh (aB cb (qv 2) (cR cg rfl T.n_len L2.E.boot_len (aa (qv 0) ao)) (aQ _)) (m8 (dw (tj (qv 1) T.c_Walk T.h_Walk_is_whole ((pQ T).mono (by decide)) hr T.b_Walk_is_whole aI) (fun _=>rfl))))) (au (aA dA)) aJ)
   (au (aA (qv 2)))))),
  (ay (yd (BZ rfl))
    (ay (uS (vY rfl rfl (DA jn) (vO (D7 (W:=fun _ _ _ _=>False) af) qA)))
    (ay (bp (n5 (az (aw cf af (fB iy af))) (dP (vb rfl rfl (DW jn) qA))) (aD dD) aK)
    jF)))⟩
theorem qm (T:Txt K mg t):cw P w K mg base (CXE P w) 10 t.dG t.d_refuse_fault ["row"] (spP K (b8 t) dG):=
 fo T.F_refuse_fault lA fun cdv A outer s H E hr=>⟨_,(aj (aZ (i:=1) lA.nd rfl (by first | exact Or.inl rfl | exact Or.inr rfl) (aC ((AI T).mono (by decide)) hr rfl T.qz T.F_fault.kp T.b_fault .nil aI (aa (qv 0) ao)))
   (au (bj (aB uf (qv 1) dA (aQ _)) (au (zt T.k_Fault (si T) T.b_Fault_init (hr.mono (by decide)) aI rfl (aa (qv 1) ao))) aJ))),
  (ay (bf (aL (ag af ax)))
    (bp (az (aw uN af dD)) (zc rfl (ag af ax)) aK))⟩
theorem rF (T:Txt K mg t):cw P w K mg base (CXE P w) 1 t.eI t.d_with_member ["tree","i"] (spP K (b8 t) eI):=
 fo T.F_with_member m6 fun cdv A outer s H E hr=>⟨_,(aj (aZ (i:=2) m6.nd rfl (by first | exact Or.inl rfl | exact Or.inr rfl) (df eE (qv 0) (qv 1) (fun _ _=>rfl)))
   (aj (bj (aB u9 (df eY (qv 2) aq (fun _ _=>rfl)) aN (aQ _)) (au (aA (qv 2))) aJ)
   (au (aA (cU (aa (df eY (qv 2) aq (fun _ _=>rfl)) (aa (df eY (qv 2) aq (fun _ _=>rfl)) (aa (df eY (qv 2) aq (fun _ _=>rfl)) (aa (df eY (df eE (qv 0) (aU fm (qv 1) aq) (fun _ _=>rfl)) aq (fun _ _=>rfl)) ao))))))))),
  (ay (bf (aw fT af af))
    (ay (bp (az (aw vp (aw eX af ai) aO)) jF aK)
    (aD (cT (ag (aw eX af ai) (ag (aw eX af ai) (ag (aw eX af ai) (ag (aw eX (aw fT af (aw fk af ai)) ai) ax))))))))⟩
theorem vn (T:Txt K mg t):cw P w K mg base (CXE P w) 1 t.iT t.d_text_end ["row","at"] (spP K (b8 t) iT):=
 fo T.F_text_end mK fun cdv A outer s H E hr=>⟨_,(aj (aZ (i:=2) mK.nd rfl (by first | exact Or.inl rfl | exact Or.inr rfl) (aU fm (qv 1) aq))
   (aj (i7 gO (aB u9 (df eE (qv 0) (qv 2) (fun _ _=>rfl)) (aM rfl T.m_QUOTE T.r_QUOTE) (aQ _)) (au (mz (i:=2) mK.nd rfl (Or.inl rfl) (dH (by exact (aB cb (df eE (qv 0) (qv 2) (fun _ _=>rfl)) (aM rfl T.m_BACKSLASH T.r_BACKSLASH) (aQ _))) aq aq) mj)))
   (au (aA (aU fm (qv 2) aq))))),
  (ay (bf (aw fk af ai))
    (ay (i9 (az (aw vp (aw fT af af) ai)) (gG (iO (az (aw cf (aw fT af af) ai)) ai ai)))
    (aD (aw fk af ai))))⟩
theorem uY (T:Txt K mg t):cw P w K mg base (CXE P w) 2 t.fJ t.d_plain_end ["row","at"] (spP K (b8 t) fJ):=
 fo T.F_plain_end kC fun cdv A outer s H E hr=>⟨_,(aj (aZ (i:=2) kC.nd rfl (by first | exact Or.inl rfl | exact Or.inr rfl) (qv 1))
   (aj (i7 gO (oS (oh (aB ly (qv 2) (cR cg rfl T.n_len L2.E.boot_len (aa (qv 0) ao)) (aQ _)) (oh (xk (dw (aC ((jY T).mono (by decide)) hr rfl T.il T.F_is_white.kp T.b_is_white .nil aI (aa (df eE (qv 0) (qv 2) (fun _ _=>rfl)) ao)) (fun _=>rfl))) (m8 (aB pP (df eE (qv 0) (qv 2) (fun _ _=>rfl)) (cU (aa (aM rfl T.m_COMMA T.r_COMMA) (aa (aM rfl T.m_ROW_END T.r_ROW_END) (aa (aM rfl T.m_FIELDS_END T.r_FIELDS_END) ao)))) rfl))))) (au (mz (i:=2) kC.nd rfl (Or.inl rfl) aq mj)))
   (au (aA (qv 2))))),
  (ay (bf af)
    (ay (i9 (n5 (az (aw lu af (fB iy af))) (n5 (Aj (dP (aL (ag (aw fT af af) ax)))) (az (aw (rf hr.units) (aw fT af af) (cT (ag ai (ag ai (ag ai ax)))))))) (gG ai))
    jF))⟩
theorem wK (T:Txt K mg t):cw P w K mg base (CXE P w) 2 t.jK t.d_is_name ["row","end"] (spP K (b8 t) jK):=
 fo T.F_is_name qN fun cdv A outer s H E hr=>⟨_,(aj (i7 gO (oS (oh (aB ly (qv 1) (cR cg rfl T.n_len L2.E.boot_len (aa (qv 0) ao)) (aQ _)) (m8 (dw (aC ((jY T).mono (by decide)) hr rfl T.il T.F_is_white.kp T.b_is_white .nil aI (aa (df eE (qv 0) (qv 1) (fun _ _=>rfl)) ao)) (fun _=>rfl))))) (au (mz (i:=1) qN.nd rfl (Or.inl rfl) aq mj)))
   (au (aA (pU (j6 ly (qv 1) (cR cg rfl T.n_len L2.E.boot_len (aa (qv 0) ao)) (aQ _)) (uC (j6 cb (df eE (qv 0) (qv 1) (fun _ _=>rfl)) (aM rfl T.m_COLON T.r_COLON) (aQ _))))))),
  (ay (i9 (n5 (az (aw lu af (fB iy af))) (dP (aL (ag (aw fT af af) ax)))) (gG ai))
    (aD (pA (aw lu af (fB iy af)) (aw cf (aw fT af af) ai))))⟩
theorem Cn (T:Txt K mg t):cw P w K mg base (CXE P w) 3 t.ll t.d_leaf ["row","at","i"] (spP K (b8 t) ll):=
 fo T.F_leaf uo fun cdv A outer s H E hr=>⟨_,(aj (aZ (i:=3) uo.nd rfl (by first | exact Or.inl rfl | exact Or.inr rfl) (y9 (aM rfl T.m_KINDS T.r_KINDS) (df eE (qv 0) (qv 1) (fun _ _=>rfl)) aN))
   (aj (bj (aB u9 (qv 3) aN (aQ _)) (au (aA (cU (aa (qv 3) (aa (qv 1) (aa (aC ((uY T).mono (by decide)) hr rfl T.ka T.F_plain_end.kp T.b_plain_end .nil aI (aa (qv 0) (aa (qv 1) ao))) (aa (aU fm (qv 2) aq) ao))))))) aJ)
   (aj (aZ (i:=4) uo.nd rfl (by first | exact Or.inl rfl | exact Or.inr rfl) (aC ((vn T).mono (by decide)) hr rfl T.nZ T.F_text_end.kp T.b_text_end .nil aI (aa (qv 0) (aa (qv 1) ao))))
   (au (aA (cU (aa (dH (by exact (dw (aC ((wK T).mono (by decide)) hr rfl T.pB T.F_is_name.kp T.b_is_name .nil aI (aa (qv 0) (aa (qv 4) ao))) (fun _=>rfl))) aN aN) (aa (qv 1) (aa (qv 4) (aa (aU fm (qv 2) aq) ao)))))))))),
  (ay (bf (zp T.q_KINDS (aw fT af af) aO))
    (ay (bp (az (aw vp af aO)) (aD (cT (ag af (ag af (ag (aL (ag af (ag af ax))) (ag (aw fk af ai) ax)))))) aK)
    (ay (bf (aL (ag af (ag af ax))))
    (aD (cT (ag (iO (dP (aL (ag af (ag af ax)))) aO aO) (ag af (ag af (ag (aw fk af ai) ax)))))))))⟩
theorem vB (T:Txt K mg t):cw P w K mg base (CXE P w) 11 t.ia t.d_nodes ["row"] (spP K (b8 t) ia):=
 fo T.F_nodes g9 fun cdv A outer s H E hr=>⟨_,(aj (hZ (aC ((qm T).mono (by decide)) hr rfl T.gC T.F_refuse_fault.kp T.b_refuse_fault .nil aI (aa (qv 0) ao)))
   (aj (aZ (i:=1) g9.nd rfl (by first | exact Or.inl rfl | exact Or.inr rfl) (bq ao))
   (aj (aZ (i:=2) g9.nd rfl (by first | exact Or.inl rfl | exact Or.inr rfl) (bq ao))
   (aj (aZ (i:=3) g9.nd rfl (by first | exact Or.inl rfl | exact Or.inr rfl) aq)
   (aj (i7 gO (aB ly (qv 3) (cR cg rfl T.n_len L2.E.boot_len (aa (qv 0) ao)) (aQ _)) (aj (aZ (i:=4) g9.nd rfl (by first | exact Or.inl rfl | exact Or.inr rfl) (df eE (qv 0) (qv 3) (fun _ _=>rfl)))
   (au (bj (aB jq (qv 4) (cU (aa (aM rfl T.m_ROW_BEGIN T.r_ROW_BEGIN) (aa (aM rfl T.m_FIELDS_BEGIN T.r_FIELDS_BEGIN) ao))) rfl) (aj (hZ (nQ PySem.F.plainAttrs_list PySem.F.slot_list_append PySem.F.type_list_append e6 (qv 2) (aa (cR cg rfl T.n_len L2.E.boot_len (aa (qv 1) ao)) ao)))
   (aj (hZ (nQ PySem.F.plainAttrs_list PySem.F.slot_list_append PySem.F.type_list_append e6 (qv 1) (aa (cU (aa (df GK (aM rfl T.m_KINDS T.r_KINDS) (qv 4) (fun _ _=>rfl)) (aa (qv 3) ao))) ao)))
   (au (mz (i:=3) g9.nd rfl (Or.inl rfl) aq mj)))) (au (bj (aB jq (qv 4) (cU (aa (aM rfl T.m_ROW_END T.r_ROW_END) (aa (aM rfl T.m_FIELDS_END T.r_FIELDS_END) ao))) rfl) (aj (mz (i:=3) g9.nd rfl (Or.inl rfl) aq mj)
   (aj (aZ (i:=5) g9.nd rfl (by first | exact Or.inl rfl | exact Or.inr rfl) (Ao PySem.F.plainAttrs_list PySem.F.slot_list_pop PySem.F.type_list_pop AB (qv 2)))
   (au (F8 (cU (aa (df eY (df eE (qv 1) (qv 5) (fun _ _=>rfl)) aq (fun _ _=>rfl)) (aa (df eY (df eE (qv 1) (qv 5) (fun _ _=>rfl)) aq (fun _ _=>rfl)) (aa (qv 3) (aa (cR cg rfl T.n_len L2.E.boot_len (aa (qv 1) ao)) ao))))) (FJ (qv 1) (qv 5) set_list))))) (au (bj (oS (Ba (dw (aC ((jY T).mono (by decide)) hr rfl T.il T.F_is_white.kp T.b_is_white .nil aI (aa (qv 4) ao)) (fun _=>rfl)) (wF (aB jq (qv 4) (cU (aa (aM rfl T.m_COMMA T.r_COMMA) (aa (aM rfl T.m_COLON T.r_COLON) ao))) rfl)))) (au (mz (i:=3) g9.nd rfl (Or.inl rfl) aq mj)) (aj (hZ (nQ PySem.F.plainAttrs_list PySem.F.slot_list_append PySem.F.type_list_append e6 (qv 1) (aa (aC ((Cn T).mono (by decide)) hr rfl T.ud T.F_leaf.kp T.b_leaf .nil aI (aa (qv 0) (aa (qv 3) (aa (cR cg rfl T.n_len L2.E.boot_len (aa (qv 1) ao)) ao)))) ao)))
   (au (aZ (i:=3) g9.nd rfl (by first | exact Or.inl rfl | exact Or.inr rfl) (df eY (df eE (qv 1) (sy pk aq) (fun _ _=>rfl)) aq (fun _ _=>rfl)))))))))))))
   (au (aA (oB (M:=["tree"]) (ι:=[1]) (x:="i") ⟨rfl,rfl,rfl,rfl,rfl,rfl,rfl,rfl,rfl,rfl,rfl,by decide +kernel⟩ rfl (su rfl T.n_range (aa (cR cg rfl T.n_len L2.E.boot_len (aa (qv 1) ao)) ao)) fun _ _ _ _=>(aC ((rF T).mono (by decide)) hr rfl T.hJ T.F_with_member.kp T.b_with_member .nil Fo (aa (qv 0) (aa (qv 1) ao))))))))))),
  (ay (yC (aL (ag af ax)))
    (ay (bf (br ax))
    (ay (yd (ER (br ax)))
    (ay (bf ai)
    (ay (i9 (az (aw lu af (fB iy af))) (ay (bf (aw fT af af))
    (bp (az (aw (lE hr.units) af (cT (ag ai (ag ai ax))))) (ay (wC jn (ER (fB iy af)))
    (ay (iz (cT (ag (Ce T.q_KINDS af) (ag af ax))))
    (gG ai))) (bp (az (aw (lE hr.units) af (cT (ag ai (ag ai ax))))) (ay (gG ai)
    (ay (uS (xR jn))
    (FY af (cT (ag (aw eX (aw fT af af) ai) (ag (aw eX (aw fT af af) ai) (ag af (ag (fB iy af) ax)))))))) (bp (A0 (dP (aL (ag af ax))) (az (aw (lE hr.units) af (cT (ag ai (ag ai ax)))))) (gG ai) (ay (iz (aL (ag af (ag af (ag (fB iy af) ax)))))
    (bf (aw eX (aw fT af (sY pq ai)) ai))))))))
    (fZ (i:=1) (aD (zW (by decide) (fB iy af) (aL (ag af (ag af ax)))))))))))⟩
theorem vy (T:Txt K mg t):cw P w K mg base (CXE P w) 1 t.gM t.d_law_cell ["_law_script","_law_k"] (spP K (b8 t) gM):=
 fo T.F_law_cell vM fun cdv A outer s H E hr=>⟨_,(aj (bj (dw (qv 0) (fun _=>rfl)) (au (aA (df eE (qv 0) (aU eC (qv 1) (cR cg rfl T.n_len L2.E.boot_len (aa (qv 0) ao))) (fun _ _=>rfl)))) aJ)
   (au (aA aq))),
  (ay (bp (dP af) (aD (aw fT af (aw eD af (fB iy af)))) aK)
    (aD ai))⟩
theorem gz (T:Txt K mg t):cw P w K mg base (CXE P w) 2 t.bM t.d_law_mix ["_law_script","_law_k"] (spP K (b8 t) bM):=
 fo T.F_law_mix oj fun cdv A outer s H E hr=>⟨_,(aj (aZ (i:=2) oj.nd rfl (by first | exact Or.inl rfl | exact Or.inr rfl) (aU eC (aU fm (aC ((vy T).mono (by decide)) hr rfl T.lp T.F_law_cell.kp T.b_law_cell .nil aI (aa (qv 0) (aa (qv 1) ao))) (aU oa aq (aU fm (qv 1) aq))) aq))
   (aj (aZ (i:=2) oj.nd rfl (by first | exact Or.inl rfl | exact Or.inr rfl) (aU eC (aU oa (qv 2) aq) aq))
   (au (aA (aU eC (aU fm (aU oa (aU gf (qv 2) aq) aq) (qv 2)) aq))))),
  (ay (bf (aw eD (aw fk (aL (ag af (ag af ax))) (aw n9 ai (aw fk af ai))) ai))
    (ay (bf (aw eD (aw n9 af ai) ai))
    (aD (aw eD (aw fk (aw n9 (aw gj af ai) ai) af) ai))))⟩
theorem wq (T:Txt K mg t):cw P w K mg base (CXE P w) 3 t.fR t.d_law_long ["_law_script"] (spP K (b8 t) fR):=
 fo T.F_law_long d6 fun cdv A outer s H E hr=>⟨_,(aj (aZ (i:=1) d6.nd rfl (by first | exact Or.inl rfl | exact Or.inr rfl) (aU fm aq (aU eC (aC ((gz T).mono (by decide)) hr rfl T.fG T.F_law_mix.kp T.b_law_mix .nil aI (aa (qv 0) (aa aq ao))) aq)))
   (aj (aZ (i:=2) d6.nd rfl (by first | exact Or.inl rfl | exact Or.inr rfl) (aU fm aq (aU eC (aC ((gz T).mono (by decide)) hr rfl T.fG T.F_law_mix.kp T.b_law_mix .nil aI (aa (qv 0) (aa aq ao))) aq)))
   (aj (aZ (i:=3) d6.nd rfl (by first | exact Or.inl rfl | exact Or.inr rfl) (aU eC (aC ((gz T).mono (by decide)) hr rfl T.fG T.F_law_mix.kp T.b_law_mix .nil aI (aa (qv 0) (aa aq ao))) aq))
   (aj (aZ (i:=4) d6.nd rfl (by first | exact Or.inl rfl | exact Or.inr rfl) (aU fN (aU tN (bq (aa (qv 2) ao)) (qv 1)) (aU tN (bq (aa aq ao)) (qv 3))))
   (aj (aZ (i:=5) d6.nd rfl (by first | exact Or.inl rfl | exact Or.inr rfl) aq)
   (aj (qU gO rfl (su rfl T.n_range (aa (qv 1) ao)) (nc (i:=6) d6.nd rfl (by first | exact Or.inl rfl | exact Or.inr rfl)) (au (aZ (i:=5) d6.nd rfl (by first | exact Or.inl rfl | exact Or.inr rfl) (aU mV (aU fm (aU oa (qv 5) aq) (qv 2)) aq))))
   (aj (aZ (i:=7) d6.nd rfl (by first | exact Or.inl rfl | exact Or.inr rfl) (qv 3))
   (aj (bj (aB cb (aU eC (aC ((gz T).mono (by decide)) hr rfl T.fG T.F_law_mix.kp T.b_law_mix .nil aI (aa (qv 0) (aa aq ao))) aq) aq (aQ _)) (aj (aZ (i:=4) d6.nd rfl (by first | exact Or.inl rfl | exact Or.inr rfl) (aU fN (aU fN (bq (aa aq (aa aq ao))) (aU tN (bq (aa aq ao)) (qv 3))) (aU tN (bq (aa (qv 2) ao)) (qv 1))))
   (au (aZ (i:=7) d6.nd rfl (by first | exact Or.inl rfl | exact Or.inr rfl) (aU mV (sy pk (qv 3)) (qv 1))))) aJ)
   (au (aA (cU (aa (qv 4) (aa (cU (aa (qv 5) (aa (qv 7) ao))) ao))))))))))))),
  (ay (bf (aw fk ai (aw eD (aL (ag af (ag ai ax))) ai)))
    (ay (bf (aw fk ai (aw eD (aL (ag af (ag ai ax))) ai)))
    (ay (bf (aw eD (aL (ag af (ag ai ax))) ai))
    (ay (bf (aw ic (ux (br (ag af ax)) af) (ux (br (ag ai ax)) af)))
    (ay (bf ai)
    (ay (Dl af (bf (aw mx (aw fk (aw n9 af ai) af) ai)))
    (ay (bf af)
    (ay (bp (az (aw cf (aw eD (aL (ag af (ag ai ax))) ai) ai)) (ay (bf (aw ic (aw ic (br (ag ai (ag ai ax))) (ux (br (ag ai ax)) af)) (ux (br (ag af ax)) af)))
    (bf (aw mx (sY pq af) af))) aK)
    (fZ (i:=4) (aD (cT (ag af (ag (cT (ag af (ag af ax))) ax)))))))))))))⟩
theorem oY (T:Txt K mg t):cw P w K mg base (CXE P w) 1 t.fb t.d_law_whole ["_law_found"] (spP K (b8 t) fb):=
 fo T.F_law_whole uc fun cdv A outer s H E hr=>⟨_,(au (aA (pU (cR oV rfl T.n_isinstance L2.E.boot_isinstance (aa (qv 0) (aa (qt (v:=.ty _) rfl T.n_int L2.E.boot_int rfl) ao))) (uC (EH (cR oV rfl T.n_isinstance L2.E.boot_isinstance (aa (qv 0) (aa (qt (v:=.ty _) rfl T.n_bool L2.E.boot_bool rfl) ao)))))))),
  (aD (pA (tX af) (EW (tX af))))⟩
theorem mX (T:Txt K mg t):cw P w K mg base (CXE P w) 2 t.eU t.d_law_pair ["_law_found","_law_due"] (spP K (b8 t) eU):=
 fo T.F_law_pair vq fun cdv A outer s H E hr=>⟨_,(aj (bj (oS (Ba (xk (dw (cR oV rfl T.n_isinstance L2.E.boot_isinstance (aa (qv 0) (aa (qt (v:=.ty _) rfl T.n_tuple L2.E.boot_tuple rfl) ao))) (fun _=>rfl))) (wF (aB u9 (cR cg rfl T.n_len L2.E.boot_len (aa (qv 0) ao)) aq (aQ _))))) (au (aA yn)) aJ)
   (au (aA (pU (aC ((oY T).mono (by decide)) hr rfl T.i8 T.F_law_whole.kp T.b_law_whole .nil aI (aa (df eY (qv 0) aq (fun _ _=>rfl)) ao)) (pU (aC ((oY T).mono (by decide)) hr rfl T.i8 T.F_law_whole.kp T.b_law_whole .nil aI (aa (df eY (qv 0) aq (fun _ _=>rfl)) ao)) (uC (j6 F0 (qv 0) (qv 1) (aQ _)))))))),
  (ay (bp (A0 (Aj (dP (tX af))) (az (aw vp (fB iy af) ai))) (aD xU) aK)
    (aD (pA (aL (ag (aw eX af ai) ax)) (pA (aL (ag (aw eX af ai) ax)) (aw (FN hr.units) af af)))))⟩
theorem p9 (T:Txt K mg t):cw P w K mg base (CXE P w) 1 t.eN t.d_first_of ["signs","sought"] (spP K (b8 t) eN):=
 fo T.F_first_of mL fun cdv A outer s H E hr=>⟨_,(aj (aZ (i:=2) mL.nd rfl (by first | exact Or.inl rfl | exact Or.inr rfl) aq)
   (aj (i7 gO (oS (oh (aB ly (qv 2) (cR cg rfl T.n_len L2.E.boot_len (aa (qv 0) ao)) (aQ _)) (m8 (aB pP (df eE (qv 0) (qv 2) (fun _ _=>rfl)) (qv 1) rfl)))) (au (mz (i:=2) mL.nd rfl (Or.inl rfl) aq mj)))
   (au (aA (qv 2))))),
  (ay (bf ai)
    (ay (i9 (n5 (az (aw lu af (fB iy af))) (az (aw (rf hr.units) (aw fT af af) af))) (gG ai))
    jF))⟩
theorem xP (T:Txt K mg t):cw P w K mg base (CXE P w) 1 t.cW t.d_lowered ["number","power"] (spP K (b8 t) cW):=
 fo T.F_lowered nY fun cdv A outer s H E hr=>⟨_,(aj (bj (aB cb (qv 0) aq (aQ _)) (au (aA (cU (aa aq (aa aq ao))))) aJ)
   (aj (i7 gO (aB cb (aU eC (qv 0) aq) aq (aQ _)) (aj (aZ (i:=0) nY.nd rfl (by first | exact Or.inl rfl | exact Or.inr rfl) (aU gf (qv 0) aq))
   (au (mz (i:=1) nY.nd rfl (Or.inl rfl) aq mj))))
   (au (aA (cU (aa (qv 0) (aa (qv 1) ao))))))),
  (ay (bp (az (aw cf af ai)) (aD (cT (ag ai (ag ai ax)))) aK)
    (ay (i9 (az (aw cf (aw eD af ai) ai)) (ay (bf (aw gj af ai))
    (gG ai)))
    (aD (cT (ag af (ag af ax))))))⟩
theorem oe (T:Txt K mg t):cw P w K mg base (CXE P w) 1 t.fA t.d_counted ["figures"] (spP K (b8 t) fA):=
 fo T.F_counted lg fun cdv A outer s H E hr=>⟨_,(aj (aZ (i:=1) lg.nd rfl (by first | exact Or.inl rfl | exact Or.inr rfl) aq)
   (aj (qU gO rfl (m7 (qv 0)) (nc (i:=2) lg.nd rfl (by first | exact Or.inl rfl | exact Or.inr rfl)) (au (aZ (i:=1) lg.nd rfl (by first | exact Or.inl rfl | exact Or.inr rfl) (aU mV (aU fm (aU oa aq (qv 1)) (qv 2)) (aM rfl T.m_NOUGHT T.r_NOUGHT)))))
   (au (aA (qv 1))))),
  (ay (bf ai)
    (ay (uB af (bf (aw mx (aw fk (aw n9 ai af) af) ai)))
    jF))⟩
theorem sH (T:Txt K mg t):cw P w K mg base (CXE P w) 2 t.eL t.d_signed ["signs"] (spP K (b8 t) eL):=
 fo T.F_signed zk fun cdv A outer s H E hr=>⟨_,(aj (bj (oS (oh (dw (qv 0) (fun _=>rfl)) (m8 (aB cb (df eE (qv 0) aq (fun _ _=>rfl)) (aM rfl T.m_MINUS T.r_MINUS) (aQ _))))) (au (aA (sy pk (aC ((oe T).mono (by decide)) hr rfl T.jL T.F_counted.kp T.b_counted .nil aI (aa (jf kd (qv 0) (jx aq) kQ) ao))))) aJ)
   (aj (bj (oS (oh (dw (qv 0) (fun _=>rfl)) (m8 (aB cb (df eE (qv 0) aq (fun _ _=>rfl)) (aM rfl T.m_PLUS T.r_PLUS) (aQ _))))) (au (aA (aC ((oe T).mono (by decide)) hr rfl T.jL T.F_counted.kp T.b_counted .nil aI (aa (jf kd (qv 0) (jx aq) kQ) ao)))) aJ)
   (au (aA (aC ((oe T).mono (by decide)) hr rfl T.jL T.F_counted.kp T.b_counted .nil aI (aa (qv 0) ao)))))),
  (ay (bp (n5 (dP af) (az (aw cf (aw fT af ai) ai))) (aD (sY pq (aL (ag (mP af (jw ai) kU) ax)))) aK)
    (ay (bp (n5 (dP af) (az (aw cf (aw fT af ai) ai))) (aD (aL (ag (mP af (jw ai) kU) ax))) aK)
    (aD (aL (ag af ax)))))⟩
theorem Bv (T:Txt K mg t):cw P w K mg base (CXE P w) 3 t.ju t.d_worth ["signs"] (spP K (b8 t) ju):=
 fo T.F_worth lR fun cdv A outer s H E hr=>⟨_,(aj (aZ (i:=1) lR.nd rfl (by first | exact Or.inl rfl | exact Or.inr rfl) (aC ((p9 T).mono (by decide)) hr rfl T.jT T.F_first_of.kp T.b_first_of .nil aI (aa (qv 0) (aa (cU (aa (aM rfl T.m_SMALL_E T.r_SMALL_E) (aa (aM rfl T.m_BIG_E T.r_BIG_E) ao))) ao))))
   (aj (aZ (i:=2) lR.nd rfl (by first | exact Or.inl rfl | exact Or.inr rfl) (jf kd (qv 0) kQ (jx (qv 1))))
   (aj (aZ (i:=3) lR.nd rfl (by first | exact Or.inl rfl | exact Or.inr rfl) (aC ((p9 T).mono (by decide)) hr rfl T.jT T.F_first_of.kp T.b_first_of .nil aI (aa (qv 2) (aa (cU (aa (aM rfl T.m_POINT T.r_POINT) ao)) ao))))
   (aj (aZ (i:=4) lR.nd rfl (by first | exact Or.inl rfl | exact Or.inr rfl) (jf kd (qv 2) (jx (aU fm (qv 3) aq)) kQ))
   (au (aA (aC ((xP T).mono (by decide)) hr rfl T.jD T.F_lowered.kp T.b_lowered .nil aI (aa (aC ((sH T).mono (by decide)) hr rfl T.i5 T.F_signed.kp T.b_signed .nil aI (aa (aU fN (jf kd (qv 2) kQ (jx (qv 3))) (qv 4)) ao)) (aa (aU mV (aC ((sH T).mono (by decide)) hr rfl T.i5 T.F_signed.kp T.b_signed .nil aI (aa (jf kd (qv 0) (jx (aU fm (qv 1) aq)) kQ) ao)) (cR cg rfl T.n_len L2.E.boot_len (aa (qv 4) ao))) ao))))))))),
  (ay (bf (aL (ag af (ag (cT (ag ai (ag ai ax))) ax))))
    (ay (bf (mP af kU (jw af)))
    (ay (fZ (i:=2) (bf (aL (ag af (ag (cT (ag ai ax)) ax)))))
    (ay (bf (mP af (jw (aw fk af ai)) kU))
    (aD (aL (ag (aL (ag (aw ic (mP af kU (jw af)) af) ax)) (ag (aw mx (aL (ag (mP af (jw (aw fk af ai)) kU) ax)) (fB iy af)) ax))))))))⟩
theorem oz (T:Txt K mg t):cw P w K mg base (CXE P w) 4 t.gc t.d_exact ["row","tree","i"] (spP K (b8 t) gc):=
 fo T.F_exact vh fun cdv A outer s H E hr=>⟨_,(aj (aZ (i:=3) vh.nd rfl (by first | exact Or.inl rfl | exact Or.inr rfl) (df eE (qv 1) (qv 2) (fun _ _=>rfl)))
   (aj (bj (aB u9 (df eY (qv 3) aq (fun _ _=>rfl)) aN (aQ _)) (au (BH aI hr.hd PySem.F.excBase_ValueError rfl T.m_NoNode T.x_NoNode (aa aN ao))) aJ)
   (au (aA (aC ((Bv T).mono (by decide)) hr rfl T.qB T.F_worth.kp T.b_worth .nil aI (aa (jf kd (qv 0) (jx (df eY (qv 3) aq (fun _ _=>rfl))) (jx (df eY (qv 3) aq (fun _ _=>rfl)))) ao)))))),
  (ay (bf (aw fT af af))
    (ay (bp (az (aw vp (aw eX af ai) aO)) (AH rfl (ag aO ax)) aK)
    (aD (aL (ag (mP af (jw (aw eX af ai)) (jw (aw eX af ai))) ax)))))⟩
theorem FR (T:Txt K mg t):cw P w K mg base (CXE P w) 12 t.rN t.d_law ["_law_script"] (spP K (b8 t) rN):=
 fo T.F_law kO fun cdv A outer s H E hr=>⟨_,(aj (aZ (i:=1) kO.nd rfl (by first | exact Or.inl rfl | exact Or.inr rfl) (aC ((nU T).mono (by decide)) hr rfl T.iE T.F_law_number.kp T.b_law_number .nil aI (aa (aC ((gz T).mono (by decide)) hr rfl T.fG T.F_law_mix.kp T.b_law_mix .nil aI (aa (qv 0) (aa aq ao))) ao)))
   (aj (bj (aB cb (aU eC (aC ((gz T).mono (by decide)) hr rfl T.fG T.F_law_mix.kp T.b_law_mix .nil aI (aa (qv 0) (aa aq ao))) aq) aq (aQ _)) (au (aZ (i:=1) kO.nd rfl (by first | exact Or.inl rfl | exact Or.inr rfl) (aC ((wq T).mono (by decide)) hr rfl T.kJ T.F_law_long.kp T.b_law_long .nil aI (aa (qv 0) ao)))) aJ)
   (aj (aZ (i:=2) kO.nd rfl (by first | exact Or.inl rfl | exact Or.inr rfl) (aC ((nU T).mono (by decide)) hr rfl T.iE T.F_law_number.kp T.b_law_number .nil aI (aa (aC ((gz T).mono (by decide)) hr rfl T.fG T.F_law_mix.kp T.b_law_mix .nil aI (aa (qv 0) (aa aq ao))) ao)))
   (aj (bj (aB cb (aU eC (aC ((gz T).mono (by decide)) hr rfl T.fG T.F_law_mix.kp T.b_law_mix .nil aI (aa (qv 0) (aa aq ao))) aq) aq (aQ _)) (au (aA (aC ((mX T).mono (by decide)) hr rfl T.iX T.F_law_pair.kp T.b_law_pair .nil aI (aa (aC ((oz T).mono (by decide)) hr rfl T.j9 T.F_exact.kp T.b_exact .nil aI (aa (df eY (qv 1) aq (fun _ _=>rfl)) (aa (aC ((vB T).mono (by decide)) hr rfl T.o3 T.F_nodes.kp T.b_nodes .nil aI (aa (df eY (qv 1) aq (fun _ _=>rfl)) ao)) (aa aq ao)))) (aa (df eY (qv 1) aq (fun _ _=>rfl)) ao))))) aJ)
   (aj (aZ (i:=3) kO.nd rfl (by first | exact Or.inl rfl | exact Or.inr rfl) (aU fN (aU fN (aU fN (aU fN (bq (aa aq ao)) (df eY (qv 1) aq (fun _ _=>rfl))) (bq (aa aq ao))) (df eY (qv 2) aq (fun _ _=>rfl))) (bq (aa aq ao))))
   (aj (aZ (i:=4) kO.nd rfl (by first | exact Or.inl rfl | exact Or.inr rfl) (aC ((vB T).mono (by decide)) hr rfl T.o3 T.F_nodes.kp T.b_nodes .nil aI (aa (qv 3) ao)))
   (aj (aZ (i:=5) kO.nd rfl (by first | exact Or.inl rfl | exact Or.inr rfl) yn)
   (aj (zJ (i:=6) ⟨rfl,rfl⟩ kO.nd rfl rfl (fun _ _ _ hW hO=>(au (hZ (aC ((oz T).mono (by decide)) hr rfl T.j9 T.F_exact.kp T.b_exact .nil hW (aa (qv 3) (aa (qv 4) (aa aq ao))))))) rfl T.m_GlassError (fun _=>(au (aZ (i:=5) kO.nd rfl (by first | exact Or.inl rfl | exact Or.inr rfl) (cR Bm rfl T.n_isinstance L2.E.boot_isinstance (aa (qv 6) (aa (aM (v:=.ref _) rfl T.m_NoNode rfl) ao)))))) aI)
   (au (aA (pU (qv 5) (pU (aC ((mX T).mono (by decide)) hr rfl T.iX T.F_law_pair.kp T.b_law_pair .nil aI (aa (aC ((oz T).mono (by decide)) hr rfl T.j9 T.F_exact.kp T.b_exact .nil aI (aa (qv 3) (aa (qv 4) (aa aq ao)))) (aa (df eY (qv 1) aq (fun _ _=>rfl)) ao))) (uC (aC ((mX T).mono (by decide)) hr rfl T.iX T.F_law_pair.kp T.b_law_pair .nil aI (aa (aC ((oz T).mono (by decide)) hr rfl T.j9 T.F_exact.kp T.b_exact .nil aI (aa (qv 3) (aa (qv 4) (aa aq ao)))) (aa (df eY (qv 2) aq (fun _ _=>rfl)) ao)))))))))))))))),
  (ay (bf (aL (ag (aL (ag af (ag ai ax))) ax)))
    (ay (bp (az (aw cf (aw eD (aL (ag af (ag ai ax))) ai) ai)) (bf (aL (ag af ax))) aK)
    (ay (bf (aL (ag (aL (ag af (ag ai ax))) ax)))
    (ay (bp (az (aw cf (aw eD (aL (ag af (ag ai ax))) ai) ai)) (aD (aL (ag (aL (ag (aw eX af ai) (ag (aL (ag (aw eX af ai) ax)) (ag ai ax)))) (ag (aw eX af ai) ax)))) aK)
    (ay (bf (aw ic (aw ic (aw ic (aw ic (br (ag ai ax)) (aw eX af ai)) (br (ag ai ax))) (aw eX af ai)) (br (ag ai ax))))
    (ay (fZ (i:=3) (bf (aL (ag af ax))))
    (ay (bf xU)
    (ay (BF (fun _=>(fZ (i:=4) (fZ (i:=3) (yC (aL (ag af (ag af (ag ai ax)))))))) (bf (Ek (xD T))) (nz T))
    (fZ (i:=4) (fZ (i:=3) (aD (pA af (pA (aL (ag (aL (ag af (ag af (ag ai ax)))) (ag (aw eX af ai) ax))) (aL (ag (aL (ag af (ag af (ag ai ax)))) (ag (aw eX af ai) ax))))))))))))))))⟩
end
open PySem.W in
theorem all_mk {l:PySem.W.OpenLaw} {w:World} {K:PySem.W.Frag} {h:Heap} {mg:Str -> Option Value} {fa:Addr} (X:K.In h) (G:h.Ns mainGlobals mg) (hfa:mg "law" = some (.ref fa))
  (a0:nsIn K mainGlobals "is_white" = some (some (.ref f0))) (l0:K.lookup f0 = some ⟨oc0,od0,.func (fnOf "is_white" "is_white" (aW iq) (aS iq) (av iq) .none kV0 dc0 pm0 an0 cd0 ct0),sl0⟩) (c0:codeIn K cd0 "is_white" = true) (k0:keepIn K (.ref f0) = true)
  (a1:nsIn K mainGlobals "is_figure" = some (some (.ref f1))) (l1:K.lookup f1 = some ⟨oc1,od1,.func (fnOf "is_figure" "is_figure" (aW gm) (aS gm) (av gm) .none kV1 dc1 pm1 an1 cd1 ct1),sl1⟩) (c1:codeIn K cd1 "is_figure" = true) (k1:keepIn K (.ref f1) = true)
  (a2:nsIn K mainGlobals "hex_worth" = some (some (.ref f2))) (l2:K.lookup f2 = some ⟨oc2,od2,.func (fnOf "hex_worth" "hex_worth" (aW gL) (aS gL) (av gL) .none kV2 dc2 pm2 an2 cd2 ct2),sl2⟩) (c2:codeIn K cd2 "hex_worth" = true) (k2:keepIn K (.ref f2) = true)
  (a3:nsIn K mainGlobals "word_rest" = some (some (.ref f3))) (l3:K.lookup f3 = some ⟨oc3,od3,.func (fnOf "word_rest" "word_rest" (aW gF) (aS gF) (av gF) .none kV3 dc3 pm3 an3 cd3 ct3),sl3⟩) (c3:codeIn K cd3 "word_rest" = true) (k3:keepIn K (.ref f3) = true)
  (a4:nsIn K mainGlobals "short_escape" = some (some (.ref f4))) (l4:K.lookup f4 = some ⟨oc4,od4,.func (fnOf "short_escape" "short_escape" (aW eR) (aS eR) (av eR) .none kV4 dc4 pm4 an4 cd4 ct4),sl4⟩) (c4:codeIn K cd4 "short_escape" = true) (k4:keepIn K (.ref f4) = true)
  (a5:nsIn K mainGlobals "exact" = some (some (.ref f5))) (l5:K.lookup f5 = some ⟨oc5,od5,.func (fnOf "exact" "exact" (aW kF) (aS kF) (av kF) .none kV5 dc5 pm5 an5 cd5 ct5),sl5⟩) (c5:codeIn K cd5 "exact" = true) (k5:keepIn K (.ref f5) = true)
  (a6:nsIn K mainGlobals "worth" = some (some (.ref f6))) (l6:K.lookup f6 = some ⟨oc6,od6,.func (fnOf "worth" "worth" (aW lh) (aS lh) (av lh) .none kV6 dc6 pm6 an6 cd6 ct6),sl6⟩) (c6:codeIn K cd6 "worth" = true) (k6:keepIn K (.ref f6) = true)
  (a7:nsIn K mainGlobals "first_of" = some (some (.ref f7))) (l7:K.lookup f7 = some ⟨oc7,od7,.func (fnOf "first_of" "first_of" (aW ie) (aS ie) (av ie) .none kV7 dc7 pm7 an7 cd7 ct7),sl7⟩) (c7:codeIn K cd7 "first_of" = true) (k7:keepIn K (.ref f7) = true)
  (a8:nsIn K mainGlobals "signed" = some (some (.ref f8))) (l8:K.lookup f8 = some ⟨oc8,od8,.func (fnOf "signed" "signed" (aW jQ) (aS jQ) (av jQ) .none kV8 dc8 pm8 an8 cd8 ct8),sl8⟩) (c8:codeIn K cd8 "signed" = true) (k8:keepIn K (.ref f8) = true)
  (a9:nsIn K mainGlobals "counted" = some (some (.ref f9))) (l9:K.lookup f9 = some ⟨oc9,od9,.func (fnOf "counted" "counted" (aW iW) (aS iW) (av iW) .none kV9 dc9 pm9 an9 cd9 ct9),sl9⟩) (c9:codeIn K cd9 "counted" = true) (k9:keepIn K (.ref f9) = true)
  (a10:nsIn K mainGlobals "lowered" = some (some (.ref f10))) (l10:K.lookup f10 = some ⟨oc10,od10,.func (fnOf "lowered" "lowered" (aW iQ) (aS iQ) (av iQ) .none kV10 dc10 pm10 an10 cd10 ct10),sl10⟩) (c10:codeIn K cd10 "lowered" = true) (k10:keepIn K (.ref f10) = true)
  (a11:nsIn K mainGlobals "tails" = some (some (.ref f11))) (l11:K.lookup f11 = some ⟨oc11,od11,.func (fnOf "tails" "tails" (aW kE) (aS kE) (av kE) .none kV11 dc11 pm11 an11 cd11 ct11),sl11⟩) (c11:codeIn K cd11 "tails" = true) (k11:keepIn K (.ref f11) = true)
  (a12:nsIn K mainGlobals "second_of_three" = some (some (.ref f12))) (l12:K.lookup f12 = some ⟨oc12,od12,.func (fnOf "second_of_three" "second_of_three" (aW dJ) (aS dJ) (av dJ) .none kV12 dc12 pm12 an12 cd12 ct12),sl12⟩) (c12:codeIn K cd12 "second_of_three" = true) (k12:keepIn K (.ref f12) = true)
  (a13:nsIn K mainGlobals "second_of_four" = some (some (.ref f13))) (l13:K.lookup f13 = some ⟨oc13,od13,.func (fnOf "second_of_four" "second_of_four" (aW dW) (aS dW) (av dW) .none kV13 dc13 pm13 an13 cd13 ct13),sl13⟩) (c13:codeIn K cd13 "second_of_four" = true) (k13:keepIn K (.ref f13) = true)
  (a14:nsIn K mainGlobals "behind" = some (some (.ref f14))) (l14:K.lookup f14 = some ⟨oc14,od14,.func (fnOf "behind" "behind" (aW jM) (aS jM) (av jM) .none kV14 dc14 pm14 an14 cd14 ct14),sl14⟩) (c14:codeIn K cd14 "behind" = true) (k14:keepIn K (.ref f14) = true)
  (a15:nsIn K mainGlobals "behind_value" = some (some (.ref f15))) (l15:K.lookup f15 = some ⟨oc15,od15,.func (fnOf "behind_value" "behind_value" (aW eP) (aS eP) (av eP) .none kV15 dc15 pm15 an15 cd15 ct15),sl15⟩) (c15:codeIn K cd15 "behind_value" = true) (k15:keepIn K (.ref f15) = true)
  (a16:nsIn K mainGlobals "behind_lead" = some (some (.ref f16))) (l16:K.lookup f16 = some ⟨oc16,od16,.func (fnOf "behind_lead" "behind_lead" (aW fj) (aS fj) (av fj) .none kV16 dc16 pm16 an16 cd16 ct16),sl16⟩) (c16:codeIn K cd16 "behind_lead" = true) (k16:keepIn K (.ref f16) = true)
  (a17:nsIn K mainGlobals "behind_in_number" = some (some (.ref f17))) (l17:K.lookup f17 = some ⟨oc17,od17,.func (fnOf "behind_in_number" "behind_in_number" (aW dn) (aS dn) (av dn) .none kV17 dc17 pm17 an17 cd17 ct17),sl17⟩) (c17:codeIn K cd17 "behind_in_number" = true) (k17:keepIn K (.ref f17) = true)
  (a18:nsIn K mainGlobals "behind_in_text" = some (some (.ref f18))) (l18:K.lookup f18 = some ⟨oc18,od18,.func (fnOf "behind_in_text" "behind_in_text" (aW dU) (aS dU) (av dU) .none kV18 dc18 pm18 an18 cd18 ct18),sl18⟩) (c18:codeIn K cd18 "behind_in_text" = true) (k18:keepIn K (.ref f18) = true)
  (a19:nsIn K mainGlobals "behind_character" = some (some (.ref f19))) (l19:K.lookup f19 = some ⟨oc19,od19,.func (fnOf "behind_character" "behind_character" (aW du) (aS du) (av du) .none kV19 dc19 pm19 an19 cd19 ct19),sl19⟩) (c19:codeIn K cd19 "behind_character" = true) (k19:keepIn K (.ref f19) = true)
  (a20:nsIn K mainGlobals "behind_backslash" = some (some (.ref f20))) (l20:K.lookup f20 = some ⟨oc20,od20,.func (fnOf "behind_backslash" "behind_backslash" (aW dr) (aS dr) (av dr) .none kV20 dc20 pm20 an20 cd20 ct20),sl20⟩) (c20:codeIn K cd20 "behind_backslash" = true) (k20:keepIn K (.ref f20) = true)
  (a21:nsIn K mainGlobals "behind_code_d" = some (some (.ref f21))) (l21:K.lookup f21 = some ⟨oc21,od21,.func (fnOf "behind_code_d" "behind_code_d" (aW eA) (aS eA) (av eA) .none kV21 dc21 pm21 an21 cd21 ct21),sl21⟩) (c21:codeIn K cd21 "behind_code_d" = true) (k21:keepIn K (.ref f21) = true)
  (a22:nsIn K mainGlobals "behind_hex" = some (some (.ref f22))) (l22:K.lookup f22 = some ⟨oc22,od22,.func (fnOf "behind_hex" "behind_hex" (aW fP) (aS fP) (av fP) .none kV22 dc22 pm22 an22 cd22 ct22),sl22⟩) (c22:codeIn K cd22 "behind_hex" = true) (k22:keepIn K (.ref f22) = true)
  (a23:nsIn K mainGlobals "behind_in_brackets" = some (some (.ref f23))) (l23:K.lookup f23 = some ⟨oc23,od23,.func (fnOf "behind_in_brackets" "behind_in_brackets" (aW cD) (aS cD) (av cD) .none kV23 dc23 pm23 an23 cd23 ct23),sl23⟩) (c23:codeIn K cd23 "behind_in_brackets" = true) (k23:keepIn K (.ref f23) = true)
  (a24:nsIn K mainGlobals "behind_row_begin" = some (some (.ref f24))) (l24:K.lookup f24 = some ⟨oc24,od24,.func (fnOf "behind_row_begin" "behind_row_begin" (aW dg) (aS dg) (av dg) .none kV24 dc24 pm24 an24 cd24 ct24),sl24⟩) (c24:codeIn K cd24 "behind_row_begin" = true) (k24:keepIn K (.ref f24) = true)
  (a25:nsIn K mainGlobals "behind_fields_begin" = some (some (.ref f25))) (l25:K.lookup f25 = some ⟨oc25,od25,.func (fnOf "behind_fields_begin" "behind_fields_begin" (aW cz) (aS cz) (av cz) .none kV25 dc25 pm25 an25 cd25 ct25),sl25⟩) (c25:codeIn K cd25 "behind_fields_begin" = true) (k25:keepIn K (.ref f25) = true)
  (a26:nsIn K mainGlobals "member_rest" = some (some (.ref f26))) (l26:K.lookup f26 = some ⟨oc26,od26,.func (fnOf "member_rest" "member_rest" (aW fq) (aS fq) (av fq) .none kV26 dc26 pm26 an26 cd26 ct26),sl26⟩) (c26:codeIn K cd26 "member_rest" = true) (k26:keepIn K (.ref f26) = true)
  (a27:nsIn K mainGlobals "fault" = some (some (.ref f27))) (l27:K.lookup f27 = some ⟨oc27,od27,.func (fnOf "fault" "fault" (aW kA) (aS kA) (av kA) .none kV27 dc27 pm27 an27 cd27 ct27),sl27⟩) (c27:codeIn K cd27 "fault" = true) (k27:keepIn K (.ref f27) = true)
  (a28:nsIn K mainGlobals "refuse_fault" = some (some (.ref f28))) (l28:K.lookup f28 = some ⟨oc28,od28,.func (fnOf "refuse_fault" "refuse_fault" (aW eQ) (aS eQ) (av eQ) .none kV28 dc28 pm28 an28 cd28 ct28),sl28⟩) (c28:codeIn K cd28 "refuse_fault" = true) (k28:keepIn K (.ref f28) = true)
  (a29:nsIn K mainGlobals "nodes" = some (some (.ref f29))) (l29:K.lookup f29 = some ⟨oc29,od29,.func (fnOf "nodes" "nodes" (aW kz) (aS kz) (av kz) .none kV29 dc29 pm29 an29 cd29 ct29),sl29⟩) (c29:codeIn K cd29 "nodes" = true) (k29:keepIn K (.ref f29) = true)
  (a30:nsIn K mainGlobals "leaf" = some (some (.ref f30))) (l30:K.lookup f30 = some ⟨oc30,od30,.func (fnOf "leaf" "leaf" (aW om) (aS om) (av om) .none kV30 dc30 pm30 an30 cd30 ct30),sl30⟩) (c30:codeIn K cd30 "leaf" = true) (k30:keepIn K (.ref f30) = true)
  (a31:nsIn K mainGlobals "plain_end" = some (some (.ref f31))) (l31:K.lookup f31 = some ⟨oc31,od31,.func (fnOf "plain_end" "plain_end" (aW gq) (aS gq) (av gq) .none kV31 dc31 pm31 an31 cd31 ct31),sl31⟩) (c31:codeIn K cd31 "plain_end" = true) (k31:keepIn K (.ref f31) = true)
  (a32:nsIn K mainGlobals "text_end" = some (some (.ref f32))) (l32:K.lookup f32 = some ⟨oc32,od32,.func (fnOf "text_end" "text_end" (aW ik) (aS ik) (av ik) .none kV32 dc32 pm32 an32 cd32 ct32),sl32⟩) (c32:codeIn K cd32 "text_end" = true) (k32:keepIn K (.ref f32) = true)
  (a33:nsIn K mainGlobals "is_name" = some (some (.ref f33))) (l33:K.lookup f33 = some ⟨oc33,od33,.func (fnOf "is_name" "is_name" (aW iV) (aS iV) (av iV) .none kV33 dc33 pm33 an33 cd33 ct33),sl33⟩) (c33:codeIn K cd33 "is_name" = true) (k33:keepIn K (.ref f33) = true)
  (a34:nsIn K mainGlobals "with_member" = some (some (.ref f34))) (l34:K.lookup f34 = some ⟨oc34,od34,.func (fnOf "with_member" "with_member" (aW fw) (aS fw) (av fw) .none kV34 dc34 pm34 an34 cd34 ct34),sl34⟩) (c34:codeIn K cd34 "with_member" = true) (k34:keepIn K (.ref f34) = true)
  (a35:nsIn K mainGlobals "_law_cell" = some (some (.ref f35))) (l35:K.lookup f35 = some ⟨oc35,od35,.func (fnOf "_law_cell" "_law_cell" (aW iu) (aS iu) (av iu) .none kV35 dc35 pm35 an35 cd35 ct35),sl35⟩) (c35:codeIn K cd35 "_law_cell" = true) (k35:keepIn K (.ref f35) = true)
  (a36:nsIn K mainGlobals "_law_mix" = some (some (.ref f36))) (l36:K.lookup f36 = some ⟨oc36,od36,.func (fnOf "_law_mix" "_law_mix" (aW iU) (aS iU) (av iU) .none kV36 dc36 pm36 an36 cd36 ct36),sl36⟩) (c36:codeIn K cd36 "_law_mix" = true) (k36:keepIn K (.ref f36) = true)
  (a37:nsIn K mainGlobals "_law_whole" = some (some (.ref f37))) (l37:K.lookup f37 = some ⟨oc37,od37,.func (fnOf "_law_whole" "_law_whole" (aW gH) (aS gH) (av gH) .none kV37 dc37 pm37 an37 cd37 ct37),sl37⟩) (c37:codeIn K cd37 "_law_whole" = true) (k37:keepIn K (.ref f37) = true)
  (a38:nsIn K mainGlobals "_law_number" = some (some (.ref f38))) (l38:K.lookup f38 = some ⟨oc38,od38,.func (fnOf "_law_number" "_law_number" (aW fU) (aS fU) (av fU) .none kV38 dc38 pm38 an38 cd38 ct38),sl38⟩) (c38:codeIn K cd38 "_law_number" = true) (k38:keepIn K (.ref f38) = true)
  (a39:nsIn K mainGlobals "_law_plain" = some (some (.ref f39))) (l39:K.lookup f39 = some ⟨oc39,od39,.func (fnOf "_law_plain" "_law_plain" (aW gu) (aS gu) (av gu) .none kV39 dc39 pm39 an39 cd39 ct39),sl39⟩) (c39:codeIn K cd39 "_law_plain" = true) (k39:keepIn K (.ref f39) = true)
  (a40:nsIn K mainGlobals "_law_pair" = some (some (.ref f40))) (l40:K.lookup f40 = some ⟨oc40,od40,.func (fnOf "_law_pair" "_law_pair" (aW iw) (aS iw) (av iw) .none kV40 dc40 pm40 an40 cd40 ct40),sl40⟩) (c40:codeIn K cd40 "_law_pair" = true) (k40:keepIn K (.ref f40) = true)
  (a41:nsIn K mainGlobals "_law_long" = some (some (.ref f41))) (l41:K.lookup f41 = some ⟨oc41,od41,.func (fnOf "_law_long" "_law_long" (aW ij) (aS ij) (av ij) .none kV41 dc41 pm41 an41 cd41 ct41),sl41⟩) (c41:codeIn K cd41 "_law_long" = true) (k41:keepIn K (.ref f41) = true)
  (a42:nsIn K mainGlobals "law" = some (some (.ref f42))) (l42:K.lookup f42 = some ⟨oc42,od42,.func (fnOf "law" "law" (aW rJ) (aS rJ) (av rJ) .none kV42 dc42 pm42 an42 cd42 ct42),sl42⟩) (c42:codeIn K cd42 "law" = true) (k42:keepIn K (.ref f42) = true)
  (a43:findIn K (.ref C3) "__init__" = some (some (.ref f43))) (i43:isFn K (.ref f43) = true) (l43:K.lookup f43 = some ⟨oc43,od43,.func (fnOf "__init__" "Walk.__init__" (aW er) (aS er) (av er) .none kV43 dc43 pm43 an43 cd43 ct43),sl43⟩) (c43:codeIn K cd43 "Walk.__init__" = true) (k43:keepIn K (.ref f43) = true)
  (a44:findIn K (.ref C3) "take" = some (some (.ref f44))) (i44:isFn K (.ref f44) = true) (l44:K.lookup f44 = some ⟨oc44,od44,.func (fnOf "take" "Walk.take" (aW gE) (aS gE) (av gE) .none kV44 dc44 pm44 an44 cd44 ct44),sl44⟩) (c44:codeIn K cd44 "Walk.take" = true) (k44:keepIn K (.ref f44) = true)
  (a45:findIn K (.ref C3) "goes_on" = some (some (.ref f45))) (i45:isFn K (.ref f45) = true) (l45:K.lookup f45 = some ⟨oc45,od45,.func (fnOf "goes_on" "Walk.goes_on" (aW eM) (aS eM) (av eM) .none kV45 dc45 pm45 an45 cd45 ct45),sl45⟩) (c45:codeIn K cd45 "Walk.goes_on" = true) (k45:keepIn K (.ref f45) = true)
  (a46:findIn K (.ref C3) "brackets" = some (some (.ref f46))) (i46:isFn K (.ref f46) = true) (l46:K.lookup f46 = some ⟨oc46,od46,.func (fnOf "brackets" "Walk.brackets" (aW eh) (aS eh) (av eh) .none kV46 dc46 pm46 an46 cd46 ct46),sl46⟩) (c46:codeIn K cd46 "Walk.brackets" = true) (k46:keepIn K (.ref f46) = true)
  (a47:findIn K (.ref C3) "is_whole" = some (some (.ref f47))) (i47:isFn K (.ref f47) = true) (l47:K.lookup f47 = some ⟨oc47,od47,.func (fnOf "is_whole" "Walk.is_whole" (aW el) (aS el) (av el) .none kV47 dc47 pm47 an47 cd47 ct47),sl47⟩) (c47:codeIn K cd47 "Walk.is_whole" = true) (k47:keepIn K (.ref f47) = true)
  (z0:nsIn K mainGlobals "len" = some none)
  (z1:nsIn K mainGlobals "isinstance" = some none)
  (z2:nsIn K mainGlobals "tuple" = some none)
  (z3:nsIn K mainGlobals "range" = some none)
  (z4:nsIn K mainGlobals "int" = some none)
  (z5:nsIn K mainGlobals "bool" = some none)
  (z6:nsIn K mainGlobals "str" = some none)
  (z7:nsIn K mainGlobals "ord" = some none)
  (z8:nsIn K mainGlobals "enumerate" = some none)
  (z9:nsIn K mainGlobals "all" = some none)
  (z10:nsIn K mainGlobals "ValueError" = some none)
  (ca3:nsIn K mainGlobals "Walk" = some (some (.ref C3))) (pg3:plainGet K C3 Str.empty = true) (hd3:hasDictIn K C3 = true) (po3:plainOver K C3 = true) (sa3:findIn K (.ref C3) "__setattr__" = some (some (.builtin "object.__setattr__"))) (mk3:makesIn K C3 = true) (kc3:keepIn K (.ref C3) = true)
  (na3_0:findIn K (.ref C3) "coming" = some none)
  (ca0:nsIn K mainGlobals "GlassError" = some (some (.ref C0))) (cl0:K.lookup C0 = some (excClassObj nm0 qn0 C0 N0 bs0 [.type "ValueError",.type "Exception",.type "BaseException",.type "object"] hd0 sn0 sub0 ab0 co0 dd0 p00 p10 p20 p30 p50 id0))
  (cx0:excIn K C0 [.type "ValueError",.type "Exception",.type "BaseException",.type "object"] "ValueError.__new__" = true)
  (ca1:nsIn K mainGlobals "Fault" = some (some (.ref C1))) (cl1:K.lookup C1 = some (excClassObj nm1 qn1 C1 N1 bs1 [.ref C0,.type "ValueError",.type "Exception",.type "BaseException",.type "object"] hd1 sn1 sub1 ab1 co1 dd1 p01 p11 p21 p31 p51 "ValueError.__new__"))
  (ii1:findIn K (.ref C1) "__init__" = some (some (.ref fi1))) (il1:K.lookup fi1 = some ⟨.type "function",oi1,.func (fnOf "__init__" "Fault.__init__" (aW fV) (aS fV) (av fV) .none kI1 dI1 pI1 ai1 cI1 tI1),si1⟩) (ic1:codeIn K cI1 "Fault.__init__" = true) (ik1:keepIn K (.ref fi1) = true)
  (xa1:hasDictIn K C1 = true) (xc1:findIn K (.ref C1) "__setattr__" = some (some (.builtin "object.__setattr__"))) (xd1:findIn K (.ref C1) "__getattribute__" = some (some (.builtin "BaseException.__getattribute__"))) (xe1:findIn K (.ref C1) "__getattr__" = some none) (xf1:findIn K (.ref C1) "at" = some none)
  (ca2:nsIn K mainGlobals "NoNode" = some (some (.ref C2))) (cl2:K.lookup C2 = some (excClassObj nm2 qn2 C2 N2 bs2 [.ref C0,.type "ValueError",.type "Exception",.type "BaseException",.type "object"] hd2 sn2 sub2 ab2 co2 dd2 p02 p12 p22 p32 p52 id2))
  (cx2:excIn K C2 [.type "ValueError",.type "Exception",.type "BaseException",.type "object"] "ValueError.__new__" = true)
  (va0:nsIn K mainGlobals "BLANK" = some (some (.int 32 t0)))
  (va1:nsIn K mainGlobals "QUOTE" = some (some (.int 34 t1)))
  (va2:nsIn K mainGlobals "PLUS" = some (some (.int 43 t2)))
  (va3:nsIn K mainGlobals "COMMA" = some (some (.int 44 t3)))
  (va4:nsIn K mainGlobals "MINUS" = some (some (.int 45 t4)))
  (va5:nsIn K mainGlobals "POINT" = some (some (.int 46 t5)))
  (va6:nsIn K mainGlobals "NOUGHT" = some (some (.int 48 t6)))
  (va7:nsIn K mainGlobals "NINE" = some (some (.int 57 t7)))
  (va8:nsIn K mainGlobals "COLON" = some (some (.int 58 t8)))
  (va9:nsIn K mainGlobals "BIG_E" = some (some (.int 69 t9)))
  (va10:nsIn K mainGlobals "ROW_BEGIN" = some (some (.int 91 t10)))
  (va11:nsIn K mainGlobals "BACKSLASH" = some (some (.int 92 t11)))
  (va12:nsIn K mainGlobals "ROW_END" = some (some (.int 93 t12)))
  (va13:nsIn K mainGlobals "SMALL_E" = some (some (.int 101 t13)))
  (va14:nsIn K mainGlobals "SMALL_U" = some (some (.int 117 t14)))
  (va15:nsIn K mainGlobals "FIELDS_BEGIN" = some (some (.int 123 t15)))
  (va16:nsIn K mainGlobals "FIELDS_END" = some (some (.int 125 t16)))
  (va17:nsIn K mainGlobals "WHITE" = some (some (.ref v17))) (vl17:K.lookup v17 = some ⟨.type "tuple",vd17,.seq #[.int 9 t17_0,.int 10 t17_1,.int 13 t17_2,.int 32 t17_3] vn17,vs17⟩)
  (va18:nsIn K mainGlobals "WORDS" = some (some (.ref v18))) (vl18:K.lookup v18 = some ⟨.type "dict",none,.dict #[⟨110,.int 110 tk18_0,.ref w18_0⟩,⟨116,.int 116 tk18_1,.ref w18_1⟩,⟨102,.int 102 tk18_2,.ref w18_2⟩] ep18,#[]⟩)
  (wl18_0:K.lookup w18_0 = some ⟨.type "tuple",wd18_0,.seq #[.int 117 tx18_0_0,.int 108 tx18_0_1,.int 108 tx18_0_2] wn18_0,ws18_0⟩)
  (wl18_1:K.lookup w18_1 = some ⟨.type "tuple",wd18_1,.seq #[.int 114 tx18_1_0,.int 117 tx18_1_1,.int 101 tx18_1_2] wn18_1,ws18_1⟩)
  (wl18_2:K.lookup w18_2 = some ⟨.type "tuple",wd18_2,.seq #[.int 97 tx18_2_0,.int 108 tx18_2_1,.int 115 tx18_2_2,.int 101 tx18_2_3] wn18_2,ws18_2⟩)
  (vm18:(v18 == sysModules) = false)
  (va19:nsIn K mainGlobals "SHORT_ESCAPES" = some (some (.ref v19))) (vl19:K.lookup v19 = some ⟨.type "dict",none,.dict #[⟨34,.int 34 tk19_0,(.int 34 tv19_0)⟩,⟨92,.int 92 tk19_1,(.int 92 tv19_1)⟩,⟨47,.int 47 tk19_2,(.int 47 tv19_2)⟩,⟨98,.int 98 tk19_3,(.int 8 tv19_3)⟩,⟨102,.int 102 tk19_4,(.int 12 tv19_4)⟩,⟨110,.int 110 tk19_5,(.int 10 tv19_5)⟩,⟨114,.int 114 tk19_6,(.int 13 tv19_6)⟩,⟨116,.int 116 tk19_7,(.int 9 tv19_7)⟩] ep19,#[]⟩)
  (vm19:(v19 == sysModules) = false)
  (va20:nsIn K mainGlobals "TAIL" = some (some (.ref v20))) (vl20:K.lookup v20 = some ⟨.type "tuple",vd20,.seq #[.int 128 t20_0,.int 191 t20_1] vn20,vs20⟩)
  (va21:nsIn K mainGlobals "MOST_BRACKETS" = some (some (.int 64 t21)))
  (va22:nsIn K mainGlobals "LOOSE" = some (some (.ref v22))) (vl22:K.lookup v22 = some ⟨.type "tuple",vd22,.seq #[.str "white" t22_0,.str "figures" t22_1,.str "fraction" t22_2,.str "exponent" t22_3,.str "sign" t22_4] vn22,vs22⟩)
  (va23:nsIn K mainGlobals "UNENDED" = some (some (.ref v23))) (vl23:K.lookup v23 = some ⟨.type "tuple",vd23,.seq #[.str "row" t23_0,.str "more row" t23_1,.str "fields" t23_2,.str "more fields" t23_3] vn23,vs23⟩)
  (va24:nsIn K mainGlobals "KINDS" = some (some (.ref v24))) (vl24:K.lookup v24 = some ⟨.type "dict",none,.dict #[⟨34,.int 34 tk24_0,(.str "text" tv24_0)⟩,⟨91,.int 91 tk24_1,(.str "row" tv24_1)⟩,⟨102,.int 102 tk24_2,(.str "false" tv24_2)⟩,⟨110,.int 110 tk24_3,(.str "null" tv24_3)⟩,⟨116,.int 116 tk24_4,(.str "true" tv24_4)⟩,⟨123,.int 123 tk24_5,(.str "fields" tv24_5)⟩] ep24,#[]⟩)
  (vm24:(v24 == sysModules) = false):
  ∃ fd:FuncData,(∀ (s:Shared) (v:Value),BindsTo s fd ⟨[v],[]⟩ [("_law_script",v)]) /\ ∀ base:Heap,K.In base -> base.Ns mainGlobals mg -> cw l.prog w K mg base (CXE l.prog w) 12 fa fd ["_law_script"] (tW K):=by
 have e:=hfa.symm.trans (PySem.W.mg_of X G a42)
 cases e
 have T:Txt K mg ⟨f0,_,f1,_,f2,_,f3,_,f4,_,f5,_,f6,_,f7,_,f8,_,f9,_,f10,_,f11,_,f12,_,f13,_,f14,_,f15,_,f16,_,f17,_,f18,_,f19,_,f20,_,f21,_,f22,_,f23,_,f24,_,f25,_,f26,_,f27,_,f28,_,f29,_,f30,_,f31,_,f32,_,f33,_,f34,_,f35,_,f36,_,f37,_,f38,_,f39,_,f40,_,f41,_,f42,_,f43,_,f44,_,f45,_,f46,_,f47,_,C0,C1,fi1,_,C2,C3,_,_,_,_,_,_,_,_,_,_,_,_,_,_,_,_,_,v17,v18,v19,v20,_,v22,v23,v24⟩:=⟨aF (st:=iq) l0 c0 k0,PySem.W.mg_of X G a0,(aF (st:=iq) l0 c0 k0).binds (ps:=["byte"]) fun _ _ _ _ _ _ us hl=>match us,hl with | [_],_=>rfl,
  aF (st:=gm) l1 c1 k1,PySem.W.mg_of X G a1,(aF (st:=gm) l1 c1 k1).binds (ps:=["byte"]) fun _ _ _ _ _ _ us hl=>match us,hl with | [_],_=>rfl,
  aF (st:=gL) l2 c2 k2,PySem.W.mg_of X G a2,(aF (st:=gL) l2 c2 k2).binds (ps:=["byte"]) fun _ _ _ _ _ _ us hl=>match us,hl with | [_],_=>rfl,
  aF (st:=gF) l3 c3 k3,PySem.W.mg_of X G a3,(aF (st:=gF) l3 c3 k3).binds (ps:=["byte"]) fun _ _ _ _ _ _ us hl=>match us,hl with | [_],_=>rfl,
  aF (st:=eR) l4 c4 k4,PySem.W.mg_of X G a4,(aF (st:=eR) l4 c4 k4).binds (ps:=["byte"]) fun _ _ _ _ _ _ us hl=>match us,hl with | [_],_=>rfl,
  aF (st:=kF) l5 c5 k5,PySem.W.mg_of X G a5,(aF (st:=kF) l5 c5 k5).binds (ps:=["row","tree","i"]) fun _ _ _ _ _ _ us hl=>match us,hl with | [_,_,_],_=>rfl,
  aF (st:=lh) l6 c6 k6,PySem.W.mg_of X G a6,(aF (st:=lh) l6 c6 k6).binds (ps:=["signs"]) fun _ _ _ _ _ _ us hl=>match us,hl with | [_],_=>rfl,
  aF (st:=ie) l7 c7 k7,PySem.W.mg_of X G a7,(aF (st:=ie) l7 c7 k7).binds (ps:=["signs","sought"]) fun _ _ _ _ _ _ us hl=>match us,hl with | [_,_],_=>rfl,
  aF (st:=jQ) l8 c8 k8,PySem.W.mg_of X G a8,(aF (st:=jQ) l8 c8 k8).binds (ps:=["signs"]) fun _ _ _ _ _ _ us hl=>match us,hl with | [_],_=>rfl,
  aF (st:=iW) l9 c9 k9,PySem.W.mg_of X G a9,(aF (st:=iW) l9 c9 k9).binds (ps:=["figures"]) fun _ _ _ _ _ _ us hl=>match us,hl with | [_],_=>rfl,
  aF (st:=iQ) l10 c10 k10,PySem.W.mg_of X G a10,(aF (st:=iQ) l10 c10 k10).binds (ps:=["number","power"]) fun _ _ _ _ _ _ us hl=>match us,hl with | [_,_],_=>rfl,
  aF (st:=kE) l11 c11 k11,PySem.W.mg_of X G a11,(aF (st:=kE) l11 c11 k11).binds (ps:=["byte"]) fun _ _ _ _ _ _ us hl=>match us,hl with | [_],_=>rfl,
  aF (st:=dJ) l12 c12 k12,PySem.W.mg_of X G a12,(aF (st:=dJ) l12 c12 k12).binds (ps:=["byte"]) fun _ _ _ _ _ _ us hl=>match us,hl with | [_],_=>rfl,
  aF (st:=dW) l13 c13 k13,PySem.W.mg_of X G a13,(aF (st:=dW) l13 c13 k13).binds (ps:=["byte"]) fun _ _ _ _ _ _ us hl=>match us,hl with | [_],_=>rfl,
  aF (st:=jM) l14 c14 k14,PySem.W.mg_of X G a14,(aF (st:=jM) l14 c14 k14).binds (ps:=["item","byte"]) fun _ _ _ _ _ _ us hl=>match us,hl with | [_,_],_=>rfl,
  aF (st:=eP) l15 c15 k15,PySem.W.mg_of X G a15,(aF (st:=eP) l15 c15 k15).binds (ps:=["byte"]) fun _ _ _ _ _ _ us hl=>match us,hl with | [_],_=>rfl,
  aF (st:=fj) l16 c16 k16,PySem.W.mg_of X G a16,(aF (st:=fj) l16 c16 k16).binds (ps:=["byte"]) fun _ _ _ _ _ _ us hl=>match us,hl with | [_],_=>rfl,
  aF (st:=dn) l17 c17 k17,PySem.W.mg_of X G a17,(aF (st:=dn) l17 c17 k17).binds (ps:=["item","byte"]) fun _ _ _ _ _ _ us hl=>match us,hl with | [_,_],_=>rfl,
  aF (st:=dU) l18 c18 k18,PySem.W.mg_of X G a18,(aF (st:=dU) l18 c18 k18).binds (ps:=["item","byte"]) fun _ _ _ _ _ _ us hl=>match us,hl with | [_,_],_=>rfl,
  aF (st:=du) l19 c19 k19,PySem.W.mg_of X G a19,(aF (st:=du) l19 c19 k19).binds (ps:=["byte"]) fun _ _ _ _ _ _ us hl=>match us,hl with | [_],_=>rfl,
  aF (st:=dr) l20 c20 k20,PySem.W.mg_of X G a20,(aF (st:=dr) l20 c20 k20).binds (ps:=["byte"]) fun _ _ _ _ _ _ us hl=>match us,hl with | [_],_=>rfl,
  aF (st:=eA) l21 c21 k21,PySem.W.mg_of X G a21,(aF (st:=eA) l21 c21 k21).binds (ps:=["worth"]) fun _ _ _ _ _ _ us hl=>match us,hl with | [_],_=>rfl,
  aF (st:=fP) l22 c22 k22,PySem.W.mg_of X G a22,(aF (st:=fP) l22 c22 k22).binds (ps:=["item","byte"]) fun _ _ _ _ _ _ us hl=>match us,hl with | [_,_],_=>rfl,
  aF (st:=cD) l23 c23 k23,PySem.W.mg_of X G a23,(aF (st:=cD) l23 c23 k23).binds (ps:=["item","byte"]) fun _ _ _ _ _ _ us hl=>match us,hl with | [_,_],_=>rfl,
  aF (st:=dg) l24 c24 k24,PySem.W.mg_of X G a24,(aF (st:=dg) l24 c24 k24).binds (ps:=["byte"]) fun _ _ _ _ _ _ us hl=>match us,hl with | [_],_=>rfl,
  aF (st:=cz) l25 c25 k25,PySem.W.mg_of X G a25,(aF (st:=cz) l25 c25 k25).binds (ps:=["byte"]) fun _ _ _ _ _ _ us hl=>match us,hl with | [_],_=>rfl,
  aF (st:=fq) l26 c26 k26,PySem.W.mg_of X G a26,(aF (st:=fq) l26 c26 k26).binds (ps:=[]) fun _ _ _ _ _ _ us hl=>match us,hl with | [],_=>rfl,
  aF (st:=kA) l27 c27 k27,PySem.W.mg_of X G a27,(aF (st:=kA) l27 c27 k27).binds (ps:=["row"]) fun _ _ _ _ _ _ us hl=>match us,hl with | [_],_=>rfl,
  aF (st:=eQ) l28 c28 k28,PySem.W.mg_of X G a28,(aF (st:=eQ) l28 c28 k28).binds (ps:=["row"]) fun _ _ _ _ _ _ us hl=>match us,hl with | [_],_=>rfl,
  aF (st:=kz) l29 c29 k29,PySem.W.mg_of X G a29,(aF (st:=kz) l29 c29 k29).binds (ps:=["row"]) fun _ _ _ _ _ _ us hl=>match us,hl with | [_],_=>rfl,
  aF (st:=om) l30 c30 k30,PySem.W.mg_of X G a30,(aF (st:=om) l30 c30 k30).binds (ps:=["row","at","i"]) fun _ _ _ _ _ _ us hl=>match us,hl with | [_,_,_],_=>rfl,
  aF (st:=gq) l31 c31 k31,PySem.W.mg_of X G a31,(aF (st:=gq) l31 c31 k31).binds (ps:=["row","at"]) fun _ _ _ _ _ _ us hl=>match us,hl with | [_,_],_=>rfl,
  aF (st:=ik) l32 c32 k32,PySem.W.mg_of X G a32,(aF (st:=ik) l32 c32 k32).binds (ps:=["row","at"]) fun _ _ _ _ _ _ us hl=>match us,hl with | [_,_],_=>rfl,
  aF (st:=iV) l33 c33 k33,PySem.W.mg_of X G a33,(aF (st:=iV) l33 c33 k33).binds (ps:=["row","end"]) fun _ _ _ _ _ _ us hl=>match us,hl with | [_,_],_=>rfl,
  aF (st:=fw) l34 c34 k34,PySem.W.mg_of X G a34,(aF (st:=fw) l34 c34 k34).binds (ps:=["tree","i"]) fun _ _ _ _ _ _ us hl=>match us,hl with | [_,_],_=>rfl,
  aF (st:=iu) l35 c35 k35,PySem.W.mg_of X G a35,(aF (st:=iu) l35 c35 k35).binds (ps:=["_law_script","_law_k"]) fun _ _ _ _ _ _ us hl=>match us,hl with | [_,_],_=>rfl,
  aF (st:=iU) l36 c36 k36,PySem.W.mg_of X G a36,(aF (st:=iU) l36 c36 k36).binds (ps:=["_law_script","_law_k"]) fun _ _ _ _ _ _ us hl=>match us,hl with | [_,_],_=>rfl,
  aF (st:=gH) l37 c37 k37,PySem.W.mg_of X G a37,(aF (st:=gH) l37 c37 k37).binds (ps:=["_law_found"]) fun _ _ _ _ _ _ us hl=>match us,hl with | [_],_=>rfl,
  aF (st:=fU) l38 c38 k38,PySem.W.mg_of X G a38,(aF (st:=fU) l38 c38 k38).binds (ps:=["_law_number_here"]) fun _ _ _ _ _ _ us hl=>match us,hl with | [_],_=>rfl,
  aF (st:=gu) l39 c39 k39,PySem.W.mg_of X G a39,(aF (st:=gu) l39 c39 k39).binds (ps:=["_law_worth","_law_power"]) fun _ _ _ _ _ _ us hl=>match us,hl with | [_,_],_=>rfl,
  aF (st:=iw) l40 c40 k40,PySem.W.mg_of X G a40,(aF (st:=iw) l40 c40 k40).binds (ps:=["_law_found","_law_due"]) fun _ _ _ _ _ _ us hl=>match us,hl with | [_,_],_=>rfl,
  aF (st:=ij) l41 c41 k41,PySem.W.mg_of X G a41,(aF (st:=ij) l41 c41 k41).binds (ps:=["_law_script"]) fun _ _ _ _ _ _ us hl=>match us,hl with | [_],_=>rfl,
  aF (st:=rJ) l42 c42 k42,PySem.W.mg_of X G a42,(aF (st:=rJ) l42 c42 k42).binds (ps:=["_law_script"]) fun _ _ _ _ _ _ us hl=>match us,hl with | [_],_=>rfl,
  aF (st:=er) l43 c43 k43,(aF (st:=er) l43 c43 k43).binds (ps:=["self"]) fun _ _ _ _ _ _ us hl=>match us,hl with | [_],_=>rfl,
  aF (st:=gE) l44 c44 k44,⟨a44,i44,k44⟩,(aF (st:=gE) l44 c44 k44).binds (ps:=["self","row"]) fun _ _ _ _ _ _ us hl=>match us,hl with | [_,_],_=>rfl,
  aF (st:=eM) l45 c45 k45,⟨a45,i45,k45⟩,(aF (st:=eM) l45 c45 k45).binds (ps:=["self","byte"]) fun _ _ _ _ _ _ us hl=>match us,hl with | [_,_],_=>rfl,
  aF (st:=eh) l46 c46 k46,⟨a46,i46,k46⟩,(aF (st:=eh) l46 c46 k46).binds (ps:=["self"]) fun _ _ _ _ _ _ us hl=>match us,hl with | [_],_=>rfl,
  aF (st:=el) l47 c47 k47,⟨a47,i47,k47⟩,(aF (st:=el) l47 c47 k47).binds (ps:=["self"]) fun _ _ _ _ _ _ us hl=>match us,hl with | [_],_=>rfl,
  PySem.W.mg_none_of X G z0,
  PySem.W.mg_none_of X G z1,
  PySem.W.mg_none_of X G z2,
  PySem.W.mg_none_of X G z3,
  PySem.W.mg_none_of X G z4,
  PySem.W.mg_none_of X G z5,
  PySem.W.mg_none_of X G z6,
  PySem.W.mg_none_of X G z7,
  PySem.W.mg_none_of X G z8,
  PySem.W.mg_none_of X G z9,
  PySem.W.mg_none_of X G z10,
  PySem.W.mg_of X G ca3,⟨pg3,hd3,po3,sa3⟩,⟨mk3,a43,i43,kc3⟩,
  na3_0,
  PySem.W.mg_of X G ca0,⟨by simp,_,_,_,_,_,_,_,_,_,_,_,_,_,_,_,_,cl0⟩,
  cx0,
  PySem.W.mg_of X G ca1,⟨by simp,_,_,_,_,_,_,_,_,_,_,_,_,_,_,_,_,cl1⟩,
  aF (st:=fV) il1 ic1 ik1,(aF (st:=fV) il1 ic1 ik1).binds (ps:=["self","at"]) fun _ _ _ _ _ _ us hl=>match us,hl with | [_,_],_=>rfl,
  ⟨PySem.W.mg_of X G ca1,⟨_,_,_,_,_,_,_,_,_,_,_,_,_,_,_,cl1⟩,by simp,C8 ⟨by simp,_,_,_,_,_,_,_,_,_,_,_,_,_,_,_,_,cl0⟩ cx0,ii1,⟨_,il1,rfl⟩,⟨xa1,yV cl1 (by rw [kD,kD]; decide),xc1,xd1,xe1,xf1⟩⟩,
  PySem.W.mg_of X G ca2,⟨by simp,_,_,_,_,_,_,_,_,_,_,_,_,_,_,_,_,cl2⟩,
  cx2,
  PySem.W.mg_of X G va0,⟨t0,rfl⟩,
  PySem.W.mg_of X G va1,⟨t1,rfl⟩,
  PySem.W.mg_of X G va2,⟨t2,rfl⟩,
  PySem.W.mg_of X G va3,⟨t3,rfl⟩,
  PySem.W.mg_of X G va4,⟨t4,rfl⟩,
  PySem.W.mg_of X G va5,⟨t5,rfl⟩,
  PySem.W.mg_of X G va6,⟨t6,rfl⟩,
  PySem.W.mg_of X G va7,⟨t7,rfl⟩,
  PySem.W.mg_of X G va8,⟨t8,rfl⟩,
  PySem.W.mg_of X G va9,⟨t9,rfl⟩,
  PySem.W.mg_of X G va10,⟨t10,rfl⟩,
  PySem.W.mg_of X G va11,⟨t11,rfl⟩,
  PySem.W.mg_of X G va12,⟨t12,rfl⟩,
  PySem.W.mg_of X G va13,⟨t13,rfl⟩,
  PySem.W.mg_of X G va14,⟨t14,rfl⟩,
  PySem.W.mg_of X G va15,⟨t15,rfl⟩,
  PySem.W.mg_of X G va16,⟨t16,rfl⟩,
  PySem.W.mg_of X G va17,rfl,fun H=>.inr ⟨_,_,_,vl17,rfl,rfl,(by show 4 <= sizeLine; decide),.cons ⟨_,rfl⟩ (.cons ⟨_,rfl⟩ (.cons ⟨_,rfl⟩ (.cons ⟨_,rfl⟩ (.nil))))⟩,
  PySem.W.mg_of X G va18,rfl,⟨[(110,.ref w18_0),(116,.ref w18_1),(102,.ref w18_2)],⟨vm18,by simp,_,_,vl18,.cons ⟨rfl,⟨_,rfl⟩,rfl⟩ (.cons ⟨rfl,⟨_,rfl⟩,rfl⟩ (.cons ⟨rfl,⟨_,rfl⟩,rfl⟩ (.nil)))⟩,.cons ⟨rfl,fun _=>by unfold Rep; exact ⟨_,[.int 117,.int 108,.int 108],rfl,.inr ⟨_,_,_,wl18_0,rfl,rfl,(by show 3 <= sizeLine; decide),.cons ⟨_,rfl⟩ (.cons ⟨_,rfl⟩ (.cons ⟨_,rfl⟩ (.nil)))⟩,bL.ints (ns:=[117,108,108])⟩⟩ (.cons ⟨rfl,fun _=>by unfold Rep; exact ⟨_,[.int 114,.int 117,.int 101],rfl,.inr ⟨_,_,_,wl18_1,rfl,rfl,(by show 3 <= sizeLine; decide),.cons ⟨_,rfl⟩ (.cons ⟨_,rfl⟩ (.cons ⟨_,rfl⟩ (.nil)))⟩,bL.ints (ns:=[114,117,101])⟩⟩ (.cons ⟨rfl,fun _=>by unfold Rep; exact ⟨_,[.int 97,.int 108,.int 115,.int 101],rfl,.inr ⟨_,_,_,wl18_2,rfl,rfl,(by show 4 <= sizeLine; decide),.cons ⟨_,rfl⟩ (.cons ⟨_,rfl⟩ (.cons ⟨_,rfl⟩ (.cons ⟨_,rfl⟩ (.nil))))⟩,bL.ints (ns:=[97,108,115,101])⟩⟩ (.nil)))⟩,
  PySem.W.mg_of X G va19,rfl,⟨[(34,.int 34),(92,.int 92),(47,.int 47),(98,.int 8),(102,.int 12),(110,.int 10),(114,.int 13),(116,.int 9)],⟨vm19,by simp,_,_,vl19,.cons ⟨rfl,⟨_,rfl⟩,⟨_,rfl⟩⟩ (.cons ⟨rfl,⟨_,rfl⟩,⟨_,rfl⟩⟩ (.cons ⟨rfl,⟨_,rfl⟩,⟨_,rfl⟩⟩ (.cons ⟨rfl,⟨_,rfl⟩,⟨_,rfl⟩⟩ (.cons ⟨rfl,⟨_,rfl⟩,⟨_,rfl⟩⟩ (.cons ⟨rfl,⟨_,rfl⟩,⟨_,rfl⟩⟩ (.cons ⟨rfl,⟨_,rfl⟩,⟨_,rfl⟩⟩ (.cons ⟨rfl,⟨_,rfl⟩,⟨_,rfl⟩⟩ (.nil))))))))⟩,.cons ⟨rfl,fun _=>by unfold Rep; rfl⟩ (.cons ⟨rfl,fun _=>by unfold Rep; rfl⟩ (.cons ⟨rfl,fun _=>by unfold Rep; rfl⟩ (.cons ⟨rfl,fun _=>by unfold Rep; rfl⟩ (.cons ⟨rfl,fun _=>by unfold Rep; rfl⟩ (.cons ⟨rfl,fun _=>by unfold Rep; rfl⟩ (.cons ⟨rfl,fun _=>by unfold Rep; rfl⟩ (.cons ⟨rfl,fun _=>by unfold Rep; rfl⟩ (.nil))))))))⟩,
  PySem.W.mg_of X G va20,rfl,fun H=>.inr ⟨_,_,_,vl20,rfl,rfl,(by show 2 <= sizeLine; decide),.cons ⟨_,rfl⟩ (.cons ⟨_,rfl⟩ (.nil))⟩,
  PySem.W.mg_of X G va21,⟨t21,rfl⟩,
  PySem.W.mg_of X G va22,rfl,fun H=>.inr ⟨_,_,_,vl22,rfl,rfl,(by show 5 <= sizeLine; decide),.cons ⟨_,rfl⟩ (.cons ⟨_,rfl⟩ (.cons ⟨_,rfl⟩ (.cons ⟨_,rfl⟩ (.cons ⟨_,rfl⟩ (.nil)))))⟩,
  PySem.W.mg_of X G va23,rfl,fun H=>.inr ⟨_,_,_,vl23,rfl,rfl,(by show 4 <= sizeLine; decide),.cons ⟨_,rfl⟩ (.cons ⟨_,rfl⟩ (.cons ⟨_,rfl⟩ (.cons ⟨_,rfl⟩ (.nil))))⟩,
  PySem.W.mg_of X G va24,rfl,⟨[(34,.str "text"),(91,.str "row"),(102,.str "false"),(110,.str "null"),(116,.str "true"),(123,.str "fields")],⟨vm24,by simp,_,_,vl24,.cons ⟨rfl,⟨_,rfl⟩,⟨_,rfl⟩⟩ (.cons ⟨rfl,⟨_,rfl⟩,⟨_,rfl⟩⟩ (.cons ⟨rfl,⟨_,rfl⟩,⟨_,rfl⟩⟩ (.cons ⟨rfl,⟨_,rfl⟩,⟨_,rfl⟩⟩ (.cons ⟨rfl,⟨_,rfl⟩,⟨_,rfl⟩⟩ (.cons ⟨rfl,⟨_,rfl⟩,⟨_,rfl⟩⟩ (.nil))))))⟩,.cons ⟨rfl,fun _=>by unfold Rep; rfl⟩ (.cons ⟨rfl,fun _=>by unfold Rep; rfl⟩ (.cons ⟨rfl,fun _=>by unfold Rep; rfl⟩ (.cons ⟨rfl,fun _=>by unfold Rep; rfl⟩ (.cons ⟨rfl,fun _=>by unfold Rep; rfl⟩ (.cons ⟨rfl,fun _=>by unfold Rep; rfl⟩ (.nil))))))⟩⟩
 exact ⟨_,fun s v=>.of_eq rfl,fun base _ _=>(FR T).imp (CU fun ns h=>GU ns h)⟩
theorem walk {l:PySem.W.OpenLaw} {q:Program} {loose:List Str} {XP:(Str -> Option Value) -> Heap -> Prop} {YP:World -> Heap -> Prop} {d:DefRec} {K:Params -> PySem.W.Frag} (hn:l.most = some 63) (hdf:d.params.defaults = [])
  (hY:∀ (w:World) (h:Heap),YP w h -> (K w.params).In h)
  (F:∀ (w:World) (mg:Str -> Option Value) (fa:Addr) (h:Heap),(K w.params).In h -> h.Ns mainGlobals mg -> mg d.name = some (.ref fa) ->
    ∃ fd:FuncData,(∀ (s:Shared) (u:Value),BindsTo s fd ⟨[u],[]⟩ [("_law_script",u)]) /\ ∀ base:Heap,(K w.params).In base -> base.Ns mainGlobals mg -> cw l.prog w (K w.params) mg base (CXE l.prog w) 12 fa fd ["_law_script"] (tW (K w.params))):
  PySem.W.WalkO q loose XP YP l.row.toRowW d [] (fun f vs=>PySem.call f vs):=
 L2.BS (n:=63) (k:=12) (x:="_law_script") (CX:=fun w=>CXE l.prog w) (sp:=fun w=>tW (K w.params)) hn (by decide) hdf ⟨rfl,by decide,by decide⟩ hY F (fun _ _ a ns hl _ hS=>⟨a,ns,rfl,hS,hl,fun _=>rfl⟩) fun _ _ _ _ _ z=>let ⟨_,_,_,_,_,_,_,_,_,_,f⟩:=z; f
end L2.plainglass_k17_numbers_exact
open PySem PySem.W PyProof.Rows
namespace PySem.W.Fast
def tw3081657979738772869:=0
def tw8095996961763924475:=0
def tw12414899173654479092:=0
def tw11889858298109236542:=0
def tw17064366196457114957:=0
def tw17337003887869035510:=0
def tw15317638022900990553:=0
def tw4312147142612118154:=0
def tw13179912138322925869:=0
def tw13446346092712603336:=0
def tw10873416305603099985:=0
def tw10901149360650553214:=0
def tw9287512914111842998:=0
def tw14502169870763627971:=0
def tw12513024134348804892:=0
def tw10760466778778375836:=0
def tw16098541298865791317:=0
def tw6487146709389837490:=0
def tw6541037901471673277:=0
def tw4453863512019414660:=0
def tw6338668760612379809:=0
def tw5836309640469738903:=0
def tw8047543379612567747:=0
def tw8435275023057726885:=0
def tw6908697836428605596:=0
def tw17171824519251849230:=0
def tw17000871440999970879:=0
def tw1123089791280184906:=0
def tw15861751075713061678:=0
def tw6100192929550483571:=0
def tw11372899568952271470:=0
def tw3904998286062328647:=0
def tw13252317197127720772:=0
def tw5989765033478261482:=0
def tw455988648993104209:=0
def tw17040298369648216997:=0
def tw16015812373646258634:=0
def tw16523197246316544871:=0
def tw291690339982316929:=0
def tw16872346240103262163:=0
def tw2405744863332712091:=0
def tw15011036203686492917:=0
def tw12454277257579676841:=0
def tw17931721736692144221:=0
def tw2481190639701918040:=0
def tw6909058230562662867:=0
def tw17538056899961114370:=0
def tw13248117970017168716:=0
def tw10934723642349587738:=0
def tw9011544274454381095:=0
def tw12352461918502091504:=0
def tw7771025708606114028:=0
def tw9166556727848509546:=0
def tw1361428552000774865:=0
def tw3850470480708191235:=0
def tw5753700494739341267:=0
def tw9018080455593854819:=0
def tw7149411206663917107:=0
def tw2093176938085792627:=0
def tw3593930586223005248:=0
def tw4341678139602566734:=0
def tw14310575594841175298:=0
def tw16652655769125367348:=0
def tw13717918078052164526:=0
def tw16320370262978711947:=0
def tw8952564654675390138:=0
def tw10039670527597444865:=0
def tw7095887075983791789:=0
def tw14370395662762695763:=0
def tw247884330261896555:=0
def tw6057842655696646146:=0
def tw2369388690300479758:=0
def tw12840568030424545826:=0
def tw11716961060969550336:=0
def tw387995630545336268:=0
def tw13337941312436535836:=0
def tw6084897170972947991:=0
def tw7368214180193387763:=0
def tw5611369903764813301:=0
def tw14187310677448859177:=0
def tw6589919556776253644:=0
def tw12080194374040151269:=0
def tw15082607859024681023:=0
def tw12351562337499335058:=0
def tw13351631255570227281:=0
def tw4470719748102914720:=0
def tw11304126544455417978:=0
def tw11495188474977477087:=0
def tw15866697031407601355:=0
def tw16643015917115752799:=0
def tw4000739617205639301:=0
def tw6378670474551094663:=0
def tw1115671630023130855:=0
def tw1744135391966264358:=0
def tw13670197107402108749:=0
def tw14578111316401148867:=0
def tw8192516353732348474:=0
def tw2273134620466004341:=0
def tw4533903289516952169:=0
def tw2860296457917546586:=0
def tw11878556925341220288:=0
def tw2223725479624600682:=0
end PySem.W.Fast
set_option maxRecDepth 100000 in
set_option maxHeartbeats 0 in
theorem PySem.Challenge.cw_plainglass_k17_numbers_exact_holds : PySem.Challenge.rw_plainglass_k17_numbers_exact.Holds := by
 w_on; o_law; k_head; (case hw=>w_witness2)
 k_fill
 refine L2.plainglass_k17_numbers_exact.walk (l:=PySem.Challenge.rw_plainglass_k17_numbers_exact) rfl rfl (fun w h Y=>PySem.W.kIn_of Y) ?F
 case F=>
  intro w mg fa h KX G hmg
  refine' L2.plainglass_k17_numbers_exact.all_mk KX G hmg ?a0 ?l0 ?c0 ?k0 ?a1 ?l1 ?c1 ?k1 ?a2 ?l2 ?c2 ?k2 ?a3 ?l3 ?c3 ?k3 ?a4 ?l4 ?c4 ?k4 ?a5 ?l5 ?c5 ?k5 ?a6 ?l6 ?c6 ?k6 ?a7 ?l7 ?c7 ?k7 ?a8 ?l8 ?c8 ?k8 ?a9 ?l9 ?c9 ?k9 ?a10 ?l10 ?c10 ?k10 ?a11 ?l11 ?c11 ?k11 ?a12 ?l12 ?c12 ?k12 ?a13 ?l13 ?c13 ?k13 ?a14 ?l14 ?c14 ?k14 ?a15 ?l15 ?c15 ?k15 ?a16 ?l16 ?c16 ?k16 ?a17 ?l17 ?c17 ?k17 ?a18 ?l18 ?c18 ?k18 ?a19 ?l19 ?c19 ?k19 ?a20 ?l20 ?c20 ?k20 ?a21 ?l21 ?c21 ?k21 ?a22 ?l22 ?c22 ?k22 ?a23 ?l23 ?c23 ?k23 ?a24 ?l24 ?c24 ?k24 ?a25 ?l25 ?c25 ?k25 ?a26 ?l26 ?c26 ?k26 ?a27 ?l27 ?c27 ?k27 ?a28 ?l28 ?c28 ?k28 ?a29 ?l29 ?c29 ?k29 ?a30 ?l30 ?c30 ?k30 ?a31 ?l31 ?c31 ?k31 ?a32 ?l32 ?c32 ?k32 ?a33 ?l33 ?c33 ?k33 ?a34 ?l34 ?c34 ?k34 ?a35 ?l35 ?c35 ?k35 ?a36 ?l36 ?c36 ?k36 ?a37 ?l37 ?c37 ?k37 ?a38 ?l38 ?c38 ?k38 ?a39 ?l39 ?c39 ?k39 ?a40 ?l40 ?c40 ?k40 ?a41 ?l41 ?c41 ?k41 ?a42 ?l42 ?c42 ?k42 ?a43 ?i43 ?l43 ?c43 ?k43 ?a44 ?i44 ?l44 ?c44 ?k44 ?a45 ?i45 ?l45 ?c45 ?k45 ?a46 ?i46 ?l46 ?c46 ?k46 ?a47 ?i47 ?l47 ?c47 ?k47 ?z0 ?z1 ?z2 ?z3 ?z4 ?z5 ?z6 ?z7 ?z8 ?z9 ?z10 ?ca3 ?pg3 ?hd3 ?po3 ?sa3 ?mk3 ?kc3 ?na3_0 ?ca0 ?cl0 ?cx0 ?ca1 ?cl1 ?ii1 ?il1 ?ic1 ?ik1 ?xa1 ?xc1 ?xd1 ?xe1 ?xf1 ?ca2 ?cl2 ?cx2 ?va0 ?va1 ?va2 ?va3 ?va4 ?va5 ?va6 ?va7 ?va8 ?va9 ?va10 ?va11 ?va12 ?va13 ?va14 ?va15 ?va16 ?va17 ?vl17 ?va18 ?vl18 ?wl18_0 ?wl18_1 ?wl18_2 ?vm18 ?va19 ?vl19 ?vm19 ?va20 ?vl20 ?va21 ?va22 ?vl22 ?va23 ?vl23 ?va24 ?vl24 ?vm24
  (case ca3=>k_is)
  (case a0=>k_is)
  (case l0=>k_is)
  (case c0=>k_is)
  (case k0=>k_is)
  (case a1=>k_is)
  (case l1=>k_is)
  (case c1=>k_is)
  (case k1=>k_is)
  (case a2=>k_is)
  (case l2=>k_is)
  (case c2=>k_is)
  (case k2=>k_is)
  (case a3=>k_is)
  (case l3=>k_is)
  (case c3=>k_is)
  (case k3=>k_is)
  (case a4=>k_is)
  (case l4=>k_is)
  (case c4=>k_is)
  (case k4=>k_is)
  (case a5=>k_is)
  (case l5=>k_is)
  (case c5=>k_is)
  (case k5=>k_is)
  (case a6=>k_is)
  (case l6=>k_is)
  (case c6=>k_is)
  (case k6=>k_is)
  (case a7=>k_is)
  (case l7=>k_is)
  (case c7=>k_is)
  (case k7=>k_is)
  (case a8=>k_is)
  (case l8=>k_is)
  (case c8=>k_is)
  (case k8=>k_is)
  (case a9=>k_is)
  (case l9=>k_is)
  (case c9=>k_is)
  (case k9=>k_is)
  (case a10=>k_is)
  (case l10=>k_is)
  (case c10=>k_is)
  (case k10=>k_is)
  (case a11=>k_is)
  (case l11=>k_is)
  (case c11=>k_is)
  (case k11=>k_is)
  (case a12=>k_is)
  (case l12=>k_is)
  (case c12=>k_is)
  (case k12=>k_is)
  (case a13=>k_is)
  (case l13=>k_is)
  (case c13=>k_is)
  (case k13=>k_is)
  (case a14=>k_is)
  (case l14=>k_is)
  (case c14=>k_is)
  (case k14=>k_is)
  (case a15=>k_is)
  (case l15=>k_is)
  (case c15=>k_is)
  (case k15=>k_is)
  (case a16=>k_is)
  (case l16=>k_is)
  (case c16=>k_is)
  (case k16=>k_is)
  (case a17=>k_is)
  (case l17=>k_is)
  (case c17=>k_is)
  (case k17=>k_is)
  (case a18=>k_is)
  (case l18=>k_is)
  (case c18=>k_is)
  (case k18=>k_is)
  (case a19=>k_is)
  (case l19=>k_is)
  (case c19=>k_is)
  (case k19=>k_is)
  (case a20=>k_is)
  (case l20=>k_is)
  (case c20=>k_is)
  (case k20=>k_is)
  (case a21=>k_is)
  (case l21=>k_is)
  (case c21=>k_is)
  (case k21=>k_is)
  (case a22=>k_is)
  (case l22=>k_is)
  (case c22=>k_is)
  (case k22=>k_is)
  (case a23=>k_is)
  (case l23=>k_is)
  (case c23=>k_is)
  (case k23=>k_is)
  (case a24=>k_is)
  (case l24=>k_is)
  (case c24=>k_is)
  (case k24=>k_is)
  (case a25=>k_is)
  (case l25=>k_is)
  (case c25=>k_is)
  (case k25=>k_is)
  (case a26=>k_is)
  (case l26=>k_is)
  (case c26=>k_is)
  (case k26=>k_is)
  (case a27=>k_is)
  (case l27=>k_is)
  (case c27=>k_is)
  (case k27=>k_is)
  (case a28=>k_is)
  (case l28=>k_is)
  (case c28=>k_is)
  (case k28=>k_is)
  (case a29=>k_is)
  (case l29=>k_is)
  (case c29=>k_is)
  (case k29=>k_is)
  (case a30=>k_is)
  (case l30=>k_is)
  (case c30=>k_is)
  (case k30=>k_is)
  (case a31=>k_is)
  (case l31=>k_is)
  (case c31=>k_is)
  (case k31=>k_is)
  (case a32=>k_is)
  (case l32=>k_is)
  (case c32=>k_is)
  (case k32=>k_is)
  (case a33=>k_is)
  (case l33=>k_is)
  (case c33=>k_is)
  (case k33=>k_is)
  (case a34=>k_is)
  (case l34=>k_is)
  (case c34=>k_is)
  (case k34=>k_is)
  (case a35=>k_is)
  (case l35=>k_is)
  (case c35=>k_is)
  (case k35=>k_is)
  (case a36=>k_is)
  (case l36=>k_is)
  (case c36=>k_is)
  (case k36=>k_is)
  (case a37=>k_is)
  (case l37=>k_is)
  (case c37=>k_is)
  (case k37=>k_is)
  (case a38=>k_is)
  (case l38=>k_is)
  (case c38=>k_is)
  (case k38=>k_is)
  (case a39=>k_is)
  (case l39=>k_is)
  (case c39=>k_is)
  (case k39=>k_is)
  (case a40=>k_is)
  (case l40=>k_is)
  (case c40=>k_is)
  (case k40=>k_is)
  (case a41=>k_is)
  (case l41=>k_is)
  (case c41=>k_is)
  (case k41=>k_is)
  (case a42=>k_is)
  (case l42=>k_is)
  (case c42=>k_is)
  (case k42=>k_is)
  (case a43=>k_is)
  (case i43=>k_is)
  (case l43=>k_is)
  (case c43=>k_is)
  (case k43=>k_is)
  (case a44=>k_is)
  (case i44=>k_is)
  (case l44=>k_is)
  (case c44=>k_is)
  (case k44=>k_is)
  (case a45=>k_is)
  (case i45=>k_is)
  (case l45=>k_is)
  (case c45=>k_is)
  (case k45=>k_is)
  (case a46=>k_is)
  (case i46=>k_is)
  (case l46=>k_is)
  (case c46=>k_is)
  (case k46=>k_is)
  (case a47=>k_is)
  (case i47=>k_is)
  (case l47=>k_is)
  (case c47=>k_is)
  (case k47=>k_is)
  (case z0=>k_is)
  (case z1=>k_is)
  (case z2=>k_is)
  (case z3=>k_is)
  (case z4=>k_is)
  (case z5=>k_is)
  (case z6=>k_is)
  (case z7=>k_is)
  (case z8=>k_is)
  (case z9=>k_is)
  (case z10=>k_is)
  (case pg3=>k_is)
  (case hd3=>k_is)
  (case po3=>k_is)
  (case sa3=>k_is)
  (case mk3=>k_is)
  (case kc3=>k_is)
  (case na3_0=>k_is)
  (case ca0=>k_is)
  (case cl0=>k_is)
  (case cx0=>k_exc)
  (case ca1=>k_is)
  (case cl1=>k_is)
  (case ii1=>k_is)
  (case il1=>k_is)
  (case ic1=>k_is)
  (case ik1=>k_is)
  (case xa1=>k_is)
  (case xc1=>k_is)
  (case xd1=>k_is)
  (case xe1=>k_is)
  (case xf1=>k_is)
  (case ca2=>k_is)
  (case cl2=>k_is)
  (case cx2=>k_exc)
  (case va0=>k_is)
  (case va1=>k_is)
  (case va2=>k_is)
  (case va3=>k_is)
  (case va4=>k_is)
  (case va5=>k_is)
  (case va6=>k_is)
  (case va7=>k_is)
  (case va8=>k_is)
  (case va9=>k_is)
  (case va10=>k_is)
  (case va11=>k_is)
  (case va12=>k_is)
  (case va13=>k_is)
  (case va14=>k_is)
  (case va15=>k_is)
  (case va16=>k_is)
  (case va17=>k_is)
  (case vl17=>k_is)
  (case va18=>k_is)
  (case vl18=>k_is)
  (case wl18_0=>k_is)
  (case wl18_1=>k_is)
  (case wl18_2=>k_is)
  (case vm18=>first | decide | rfl)
  (case va19=>k_is)
  (case vl19=>k_is)
  (case vm19=>first | decide | rfl)
  (case va20=>k_is)
  (case vl20=>k_is)
  (case va21=>k_is)
  (case va22=>k_is)
  (case vl22=>k_is)
  (case va23=>k_is)
  (case vl23=>k_is)
  (case va24=>k_is)
  (case vl24=>k_is)
  (case vm24=>first | decide | rfl)
