import PyProof.Rows.All
import Wide.All
import OpenK.AllK
import Wide.FinOn
import Lean
import PyProof.EqAt
import PyProof.EqKinds
import PyProof.TupleCall
import PySem.Challenge.RW_plainglass_k15_texts_meant
set_option Elab.async false
set_option linter.all false
set_option maxRecDepth 100000
namespace L2
open PySem PySem.Spec PyProof.Rows
abbrev Key:=Sum Int Str
noncomputable def uX:Key -> Value -> Bool
 | .inl k,v=>Value.isInt k v
 | .inr x,v=>Value.isStrOf x v
noncomputable def Ld (w:World):Key -> Int
 | .inl k=>hashInt k
 | .inr x=>hashStr w x
theorem fF:∀ {k:Key} {v:Value},uX k v = true -> (∃ i t,k = Sum.inl i /\ v = Value.int i t) \/ (∃ x t,k = Sum.inr x /\ v = Value.str x t)
 | .inl i,v,h=>by
   obtain ⟨t,e⟩:=Value.isInt_shape (k:=i) (v:=v) h
   exact .inl ⟨i,t,rfl,e⟩
 | .inr x,v,h=>by
   obtain ⟨t,e⟩:=Value.isStrOf_shape (x:=x) (v:=v) h
   exact .inr ⟨x,t,rfl,e⟩
theorem AW (i:Int) (t:Tok):uX (.inl i) (.int i t) = true:=by simp [uX,Value.isInt]
theorem Ax (x:Str) (t:Tok):uX (.inr x) (.str x t) = true:=by simp [uX,Value.isStrOf]
theorem Iw (a b:Int):decide ((Sum.inl a:Key) = Sum.inl b) = (a == b):=by
 by_cases e:a = b
 . subst e; simp
 . have h:¬ (Sum.inl a:Key) = Sum.inl b:=fun q=>e (Sum.inl.inj q)
   rw [decide_eq_false h]
   exact (beq_eq_false_iff_ne.mpr e).symm
theorem HF (a b:Str):decide ((Sum.inr a:Key) = Sum.inr b) = decide (a = b):=by
 by_cases e:a = b
 . subst e; simp
 . have h:¬ (Sum.inr a:Key) = Sum.inr b:=fun q=>e (Sum.inr.inj q)
   rw [decide_eq_false h,decide_eq_false e]
theorem GS (a:Int) (b:Str):decide ((Sum.inl a:Key) = Sum.inr b) = false:=decide_eq_false (fun q=>nomatch q)
theorem F8 (a:Str) (b:Int):decide ((Sum.inr a:Key) = Sum.inl b) = false:=decide_eq_false (fun q=>nomatch q)
noncomputable def gB (prog:Program) (w:World):PySem.KeyKind prog w Key where
 is:=uX
 hash:=Ld w
 inj:=fun v a b ha hb=>by
  rcases fF ha with ⟨i,t,rfl,rfl⟩ | ⟨x,t,rfl,rfl⟩
  . rcases fF hb with ⟨j,u,rfl,e⟩ | ⟨y,u,rfl,e⟩
    . injection e with e1 _; rw [e1]
    . exact nomatch e
  . rcases fF hb with ⟨j,u,rfl,e⟩ | ⟨y,u,rfl,e⟩
    . exact nomatch e
    . injection e with e1 _; rw [e1]
 byValue:=fun k v h=>by
  rcases fF h with ⟨i,t,rfl,rfl⟩ | ⟨x,t,rfl,rfl⟩ <;> rfl
 pyHash:=fun hv h=>by
  rcases fF hv with ⟨i,t,rfl,rfl⟩ | ⟨x,t,rfl,rfl⟩
  . exact wpAny_pyHash_int h
  . exact wpAny_pyHash_str h
 eqBool:=fun hu hv h=>by
  rcases fF hu with ⟨i,t,rfl,rfl⟩ | ⟨x,t,rfl,rfl⟩
  . rcases fF hv with ⟨j,u,rfl,rfl⟩ | ⟨y,u,rfl,rfl⟩
    . rw [Iw] at h; exact wpAny_eqBool_int h
    . rw [GS] at h; exact SeqAt.EqAt.int_str i t y u _ _ _ _ h
  . rcases fF hv with ⟨j,u,rfl,rfl⟩ | ⟨y,u,rfl,rfl⟩
    . rw [F8] at h; exact SeqAt.EqAt.str_int x t j u _ _ _ _ h
    . rw [HF] at h; exact wpAny_eqBool_str h
 «strs»:=fun k x t v h=>by
  rcases fF h with ⟨i,u,rfl,e⟩ | ⟨y,u,rfl,e⟩
  . exact nomatch e
  . injection e with e1 _
    subst e1
    cases v <;> rfl
theorem xC (prog:Program) (w:World) (i:Int) (t:Tok):(gB prog w).is (.inl i) (.int i t) = true:=AW i t
theorem xH (prog:Program) (w:World) (x:Str) (t:Tok):(gB prog w).is (.inr x) (.str x t) = true:=Ax x t
end L2
namespace L2
open PySem PySem.Spec PyProof.Rows
inductive V where
 | non | bl (b:Bool) | int (i:Int) | str (x:Str) | byt (b:Array UInt8) | flt (b:UInt64) | ref (a:Addr) | ty (n:String)
 deriving DecidableEq
noncomputable def RelV:V -> Value -> Prop
 | .non,u=>u = Value.none
 | .bl b,u=>u = Value.bool b
 | .int i,u=>∃ t,u = Value.int i t
 | .str x,u=>∃ t,u = Value.str x t
 | .byt b,u=>∃ t,u = Value.bytes b t
 | .flt b,u=>∃ t,u = Value.float b t
 | .ref a,u=>u = Value.ref a
 | .ty n,u=>u = Value.type n
abbrev Vals:List V -> List Value -> Prop:=Paired RelV
theorem Vals.length {xs:List V} {us:List Value} (r:Vals xs us):xs.length = us.length:=Paired.length r
theorem Vals.get:∀ {xs:List V} {us:List Value} {i:Nat} {x:V},Vals xs us -> xs[i]? = some x -> ∃ u,us[i]? = some u /\ RelV x u
 | _,_,_,_,.nil,e=>by simp at e
 | _,_,0,_,.cons r _,e=>by simp at e; subst e; exact ⟨_,rfl,r⟩
 | _,_,i + 1,x,.cons _ t,e=>by
   obtain ⟨u,h1,h2⟩:=Vals.get (i:=i) (x:=x) t (by simpa using e)
   exact ⟨u,by simpa using h1,h2⟩
theorem Vals.set {x:V} {u:Value} (r:RelV x u):∀ {xs:List V} {us:List Value} (i:Nat),Vals xs us -> Vals (xs.set i x) (us.set i u)
 | _,_,_,.nil=>.nil
 | _,_,0,.cons _ t=>.cons r t
 | _,_,i + 1,.cons q t=>.cons q (Vals.set r i t)
theorem Vals.append:∀ {xs ys:List V} {us ws:List Value},Vals xs us -> Vals ys ws -> Vals (xs ++ ys) (us ++ ws)
 | _,_,_,_,.nil,s=>s
 | _,_,_,_,.cons r t,s=>.cons r (Vals.append t s)
theorem Vals.take:∀ {xs:List V} {us:List Value} (n:Nat),Vals xs us -> Vals (xs.take n) (us.take n)
 | _,_,0,_=>.nil
 | _,_,_ + 1,.nil=>.nil
 | _,_,n + 1,.cons r t=>.cons r (Vals.take n t)
theorem Vals.drop:∀ {xs:List V} {us:List Value} (n:Nat),Vals xs us -> Vals (xs.drop n) (us.drop n)
 | _,_,0,r=>r
 | _,_,_ + 1,.nil=>.nil
 | _,_,n + 1,.cons _ t=>Vals.drop n t
noncomputable def bH:Option V -> Option Value -> Prop
 | some v,some u=>RelV v u
 | none,none=>True
 | _,_=>False
noncomputable def KV {κ:Type}:List (κ × V) -> List (κ × Value) -> Prop:=Paired fun (p:κ × V) (q:κ × Value)=>p.1 = q.1 /\ RelV p.2 q.2
noncomputable def kV:Key -> V
 | .inl i=>.int i
 | .inr x=>.str x
inductive HO where
  | lst (xs:List V)
  | tup (xs:List V)
  | dK (kvs:List (Key × V)) | dT (kvs:List (List Key × V))
  | set (S:Int -> Bool) (n:Nat)
  | ins (C dx:Addr) (fs:List (Str × V))
  | own (x:Addr)
  | xd (fs:List (Str × V))
  | met (f x:Addr)
  | rng (lo hi:Int)
  | frz (o:Obj) (u:HO)
  | tbl (ps:Array Value)
  | ext (φ:Heap -> Prop)
abbrev Hp:=Addr -> Option HO
noncomputable def upd (H:Hp) (a:Addr) (o:HO):Hp:=fun b=>if b = a then some o else H b
theorem bb {H:Hp} {a:Addr} {o:HO}:upd H a o a = some o:=by unfold upd; rw [if_pos rfl]
theorem ba {H:Hp} {a b:Addr} {o:HO} (h:b ≠ a):upd H a o b = H b:=by unfold upd; rw [if_neg h]
theorem D8 {H:Hp} {a:Addr} {o u:HO}:upd (upd H a o) a u = upd H a u:=by
 funext b; unfold upd; split <;> rfl
theorem cS {H:Hp} {a b:Addr} {o:HO} (h:H a = some o) (h':H b = none):a ≠ b:=by
 intro e; subst e; rw [h] at h'; cases h'
section
variable (P:Program) (w:World)
noncomputable def gm (H:Hp) (h:Heap) (a:Addr):HO -> Prop
 | .lst xs=>xs.length <= sizeLine /\ ∃ (its:List Value) (n:Nat),Vals xs its /\ h.get? a = some { cls:=.type "list",data:=.seq its.toArray n }
 | .tup xs=>xs.length <= sizeLine /\ ∃ its:List Value,Vals xs its /\ IsTup h a its.toArray
 | .dK kvs=>kvs.length <= sizeLine /\ (a == sysModules) = false /\ ∃ vs,KV kvs vs /\ h.DictOf (gB P w) a vs
 | .dT kvs=>kvs.length <= sizeLine /\ (a == sysModules) = false /\ ∃ xs:List (List Key × Addr × Value),
    Paired (fun (p:List Key × V) (q:List Key × Addr × Value)=>p.1 = q.1 /\ H q.2.1 = some (.tup (p.1.map kV)) /\ RelV p.2 q.2.2) kvs xs /\
    ∃ o es ep,h.get? a = some o /\ o.ExactDict /\ o.data = .dict es ep /\ es.toList = xs.map (entryOfKey (tupleKind (gB P w))) /\ (xs.map (·.1)).Nodup
 | .set S n=>h.SetOf (intKind P w) a S n
 | .ins C dx fs=>H dx = some (.own a) /\ fs.length <= 1000 /\ dx ≠ a /\ h.get? a = some (PySem.W.instObj C dx) /\
    ∃ mA,h.Ns1 dx mA /\ (∀ f,bH (fs.lookup f) (mA f)) /\ PySem.Within mA (fs.map (·.1))
 | .own _=>∃ o,h.get? a = some o
 | .xd fs=>∃ mA,h.Ns1 a mA /\ ∀ f,bH (fs.lookup f) (mA f)
 | .rng lo hi=>∃ t u v,h.get? a = some { cls:=.type "range",data:=.fields #[.int lo t,.int hi u,.int 1 v] }
 | .frz o u=>h.get? a = some o /\ gm H h a u
 | .tbl ps=>h.get? a = some { cls:=.none,data:=.fields ps }
 | .met f x=>h.get? a = some (PySem.W.methodObj (.ref f) (.ref x))
 | .ext φ=>φ h /\ (∃ o,h.get? a = some o) /\ ∀ h1 h2:Heap,φ h1 -> (∀ o,h1.get? a = some o -> h2.get? a = some o) -> φ h2
noncomputable def HOk (H:Hp) (h:Heap):Prop:=∀ a o,H a = some o -> gm P w H h a o
end
section
variable {P:Program} {w:World} {H H':Hp} {h h':Heap} {a:Addr} {o:HO}
theorem gm.lt (x:gm P w H h a o):a < h.objs.size:=by
 cases o with
 | lst xs=>obtain ⟨_,_,_,_,e⟩:=x; exact Heap.lt_size e
 | tup xs=>obtain ⟨_,_,_,p⟩:=x; exact p.lt
 | dK kvs=>obtain ⟨_,_,_,_,o,_,_,e,_⟩:=x; exact Heap.lt_size e
 | dT kvs=>obtain ⟨_,_,_,_,o,_,_,e,_⟩:=x; exact Heap.lt_size e
 | set S n=>obtain ⟨o,_,_,_,e,_⟩:=x; exact Heap.lt_size e
 | ins C dx fs=>obtain ⟨_,_,_,e,_⟩:=x; exact Heap.lt_size e
 | own y=>obtain ⟨_,e⟩:=x; exact Heap.lt_size e
 | xd fs=>obtain ⟨_,⟨_,_,_,e,_⟩,_⟩:=x; exact Heap.lt_size e
 | rng lo hi=>obtain ⟨_,_,_,e⟩:=x; exact Heap.lt_size e
 | frz ob u=>obtain ⟨e,_⟩:=x; exact Heap.lt_size e
 | tbl ps=>exact Heap.lt_size (show h.get? a = some _ from x)
 | met f y=>exact Heap.lt_size (show h.get? a = some _ from x)
 | ext φ=>obtain ⟨_,⟨_,e⟩,_⟩:=x; exact Heap.lt_size e
theorem Paired.HU {α β:Type} {F G:α -> β -> Prop}:∀ {l₁:List α} {l₂:List β},Paired F l₁ l₂ -> (∀ a b,F a b -> G a b) -> Paired G l₁ l₂
 | _,_,.nil,_=>.nil
 | _,_,.cons r t,f=>.cons (f _ _ r) (Paired.HU t f)
theorem gm.pJ (x:gm P w H h a o) (k:∀ b u,(b = a \/ H b = some (.own a)) -> h.get? b = some u -> h'.get? b = some u)
  (ho:∀ b,H b = some (.own a) -> H' b = some (.own a)) (ht:∀ b xs,H b = some (.tup xs) -> H' b = some (.tup xs)):gm P w H' h' a o:=by
 induction o with
 | lst xs=>obtain ⟨z,its,n,r,e⟩:=x; exact ⟨z,its,n,r,k _ _ (.inl rfl) e⟩
 | tup xs=>obtain ⟨z,its,r,ob,e,c⟩:=x; exact ⟨z,its,r,ob,k _ _ (.inl rfl) e,c⟩
 | dK kvs=>obtain ⟨z,y,vs,r,ob,es,ep,e,c⟩:=x; exact ⟨z,y,vs,r,ob,es,ep,k _ _ (.inl rfl) e,c⟩
 | dT kvs=>
   obtain ⟨z,y,xs,r,ob,es,ep,e,c⟩:=x
   exact ⟨z,y,xs,Paired.HU r fun p q z=>⟨z.1,ht _ _ z.2.1,z.2.2⟩,ob,es,ep,k _ _ (.inl rfl) e,c⟩
 | set S n=>obtain ⟨ob,es,ep,t,e,c⟩:=x; exact ⟨ob,es,ep,t,k _ _ (.inl rfl) e,c⟩
 | ins C dx fs=>
   obtain ⟨d,z,ne,e,mA,⟨od,es,ep,e2,c⟩,r⟩:=x
   exact ⟨ho _ d,z,ne,k _ _ (.inl rfl) e,mA,⟨od,es,ep,k _ _ (.inr d) e2,c⟩,r⟩
 | own y=>obtain ⟨ob,e⟩:=x; exact ⟨ob,k _ _ (.inl rfl) e⟩
 | xd fs=>obtain ⟨mA,⟨od,es,ep,e,c⟩,r⟩:=x; exact ⟨mA,⟨od,es,ep,k _ _ (.inl rfl) e,c⟩,r⟩
 | rng lo hi=>obtain ⟨t,u,v,e⟩:=x; exact ⟨t,u,v,k _ _ (.inl rfl) e⟩
 | frz ob u ih=>obtain ⟨e,q⟩:=x; exact ⟨k _ _ (.inl rfl) e,ih q⟩
 | tbl ps=>
   have e:h.get? a = some { cls:=.none,data:=.fields ps }:=x
   show h'.get? a = some { cls:=.none,data:=.fields ps }
   exact k a _ (.inl rfl) e
 | met f y=>
   have e:h.get? a = some (PySem.W.methodObj (.ref f) (.ref y)):=x
   show h'.get? a = some (PySem.W.methodObj (.ref f) (.ref y))
   exact k a _ (.inl rfl) e
 | ext φ=>obtain ⟨p,⟨o,e⟩,st⟩:=x; exact ⟨st _ _ p fun o q=>k _ _ (.inl rfl) q,⟨o,k _ _ (.inl rfl) e⟩,st⟩
theorem HOk.lt (x:HOk P w H h) (e:H a = some o):a < h.objs.size:=(x a o e).lt
theorem HOk.fresh (x:HOk P w H h) (e:h.objs.size <= a):H a = none:=by
 cases q:H a with
 | none=>rfl
 | some u=>exact absurd (Nat.lt_of_lt_of_le (x.lt q) e) (Nat.lt_irrefl _)
theorem HOk.kept (x:HOk P w H h) (k:∀ b u,h.get? b = some u -> h'.get? b = some u):HOk P w H h':=fun a o e=>
 (x a o e).pJ (fun b u _ q=>k b u q) (fun _ q=>q) fun _ _ q=>q
theorem HOk.laid (x:HOk P w H h) (k:∀ b u,h.get? b = some u -> h'.get? b = some u) (hp:h.objs.size <= a) (new:gm P w (upd H a o) h' a o):HOk P w (upd H a o) h':=fun b u e=>by
 have hn:=x.fresh hp
 by_cases hb:b = a
 . subst hb; rw [bb] at e; cases e; exact new
 . rw [ba hb] at e
   exact (x b u e).pJ (fun c v _ q=>k c v q) (fun c q=>by rw [ba (cS q hn)]; exact q) fun c xs q=>by rw [ba (cS q hn)]; exact q
end
noncomputable def Rd (H:Hp) (a:Addr) (u:HO):Prop:=H a = some u \/ ∃ o,H a = some (.frz o u)
theorem Rd.ok {P:Program} {w:World} {H:Hp} {h:Heap} {a:Addr} {u:HO} (r:Rd H a u) (x:HOk P w H h):gm P w H h a u:=by
 rcases r with r | ⟨o,r⟩
 . exact x a u r
 . obtain ⟨_,q⟩:=x a _ r
   exact q
noncomputable def Mut:Option HO -> Prop
 | some (.lst _)=>True
 | some (.dK _)=>True
 | some (.dT _)=>True
 | some (.set _ _)=>True
 | some (.ins _ _ _)=>True
 | some (.ext _)=>True
 | _=>False
section
variable {P:Program} {w:World} {H:Hp} {h h':Heap} {x e:Addr} {o':HO}
theorem HOk.write (ok:HOk P w H h) (mu:Mut (H x)) (he:e = x \/ H e = some (.own x)) (k:∀ b u,b ≠ e -> h.get? b = some u -> h'.get? b = some u) (heo:∃ u,h'.get? e = some u)
  (new:gm P w (upd H x o') h' x o'):HOk P w (upd H x o') h':=fun b u q=>by
 have nown:∀ c y,H c = some (.own y) -> c ≠ x:=fun c y r z=>by subst z; rw [r] at mu; exact mu
 have ntup:∀ c xs,H c = some (.tup xs) -> c ≠ x:=fun c xs r z=>by subst z; rw [r] at mu; exact mu
 by_cases hb:b = x
 . subst hb; rw [bb] at q; cases q; exact new
 . rw [ba hb] at q
   by_cases hbe:b = e
   . have q':H b = some (.own x):=by
      rcases he with z | z
      . exact absurd (hbe.trans z) hb
      . rw [hbe]; exact z
     rw [q] at q'; cases q'
     obtain ⟨v,hv⟩:=heo
     exact ⟨v,by rw [hbe]; exact hv⟩
   . refine (ok b u q).pJ (fun c v hc r=>k c v ?_ r) (fun c r=>by rw [ba (nown c b r)]; exact r) fun c xs r=>by rw [ba (ntup c xs r)]; exact r
     rcases hc with rfl | hc
     . exact hbe
     . rintro rfl
       rcases he with z | z
       . exact nown c b hc z
       . rw [hc] at z; cases z; exact hb rfl
end
structure Un (fs ex:List Addr) (H H':Hp) (h h':Heap):Prop where
 keep:∀ b o,h.get? b = some o -> H b = none -> b ∉ fs -> b ∉ ex -> h'.get? b = some o
 slot:∀ b o,h.get? b = some o -> H b = none -> b ∈ fs -> b ∉ ex -> ∃ sl,h'.get? b = some { o with slots:=sl }
 free:∀ b o,h.get? b = some o -> H b = none -> b ∉ ex -> H' b = none
 there:∀ b o,h.get? b = some o -> b ∉ ex -> ∃ o',h'.get? b = some o'
 tups:∀ b xs,H b = some (.tup xs) -> H' b = some (.tup xs)
 frzs:∀ b o u,H b = some (.frz o u) -> H' b = some (.frz o u)
 tbls:∀ b ps,H b = some (.tbl ps) -> ∃ more,H' b = some (.tbl (ps ++ more))
section
variable {fs fs' ex ex':List Addr} {H H1 H2:Hp} {h h1 h2 h':Heap} {a x e:Addr} {o:HO}
theorem Un.any (u:Un fs ex H H1 h h1) {b:Addr} {ob:Obj} (q:h.get? b = some ob) (n:H b = none) (hx:b ∉ ex):∃ sl,h1.get? b = some { ob with slots:=sl }:=by
 by_cases hb:b ∈ fs
 . exact u.slot b ob q n hb hx
 . exact ⟨ob.slots,u.keep b ob q n hb hx⟩
theorem Un.kept (k:∀ b u,h.get? b = some u -> h'.get? b = some u):Un fs ex H H h h':=
 ⟨fun b ob q _ _ _=>k b ob q,fun b ob q _ _ _=>⟨ob.slots,k b ob q⟩,fun _ _ _ n _=>n,fun b ob q _=>⟨ob,k b ob q⟩,fun _ _ q=>q,fun _ _ _ q=>q,fun _ ps q=>⟨#[],by rw [q]; simp⟩⟩
theorem Un.refl:Un fs ex H H h h:=Un.kept fun _ _ q=>q
theorem Un.laid (k:∀ b u,h.get? b = some u -> h'.get? b = some u) (hp:h.objs.size <= a) (hn:H a = none):Un fs ex H (upd H a o) h h' where
 keep:=fun b u q _ _ _=>k b u q
 slot:=fun b u q _ _ _=>⟨u.slots,k b u q⟩
 free:=fun b u q n _=>by rw [ba (Nat.ne_of_lt (Nat.lt_of_lt_of_le (Heap.lt_size q) hp))]; exact n
 there:=fun b u q _=>⟨u,k b u q⟩
 tups:=fun b xs q=>by rw [ba (cS q hn)]; exact q
 frzs:=fun b u xs q=>by rw [ba (cS q hn)]; exact q
 tbls:=fun b ps q=>⟨#[],by rw [ba (cS q hn),q]; simp⟩
theorem Un.write (mu:Mut (H x)) (he:e = x \/ H e = some (.own x)) (k:∀ b u,b ≠ e -> h.get? b = some u -> h'.get? b = some u) (heo:∃ u,h'.get? e = some u):Un fs ex H (upd H x o) h h':=by
 have hx:∀ b,H b = none -> b ≠ x:=fun b n z=>by subst z; rw [n] at mu; exact mu
 have hb:∀ b,H b = none -> b ≠ e:=fun b n z=>by
  subst z
  rcases he with r | r
  . exact hx b n r
  . rw [n] at r; cases r
 have hm:∀ b u,H b = some u -> ¬ Mut (some u) -> b ≠ x:=fun b u q nm z=>by subst z; rw [q] at mu; exact nm mu
 refine ⟨fun b u q n _ _=>k b u (hb b n) q,fun b u q n _ _=>⟨u.slots,k b u (hb b n) q⟩,fun b u q n _=>by rw [ba (hx b n)]; exact n,fun b u q _=>?_,
  fun b xs q=>by rw [ba (hm b _ q fun z=>z)]; exact q,fun b u xs q=>by rw [ba (hm b _ q fun z=>z)]; exact q,fun b ps q=>⟨#[],by rw [ba (hm b _ q fun z=>z),q]; simp⟩⟩
 by_cases hbe:b = e
 . subst hbe; exact heo
 . exact ⟨u,k b u hbe q⟩
end
noncomputable def trk (h:Heap) (H:Hp):List Addr:=(List.range h.objs.size).filter fun a=>(H a).isSome
noncomputable def u7 (h:Heap) (H:Hp):Heap:=PySem.W.hideAll h (trk h H)
theorem Bi (h:Heap) (H:Hp):(u7 h H).objs.size = h.objs.size:=PySem.W.hideAll_size _ _
theorem Dc {h:Heap} {H:Hp} {b:Addr} {o:Obj} (e:h.get? b = some o) (n:H b = none):(u7 h H).get? b = some o:=
 PySem.W.hideAll_get _ e fun hm=>by
  have q:(H b).isSome = true:=(List.mem_filter.mp hm).2
  rw [n] at q; simp at q
theorem E9 {h:Heap} {H:Hp} {b:Addr} {o:Obj} (e:(u7 h H).get? b = some o):h.get? b = some o /\ H b = none:=by
 have e':h.get? b = some o:=PySem.W.of_hideAll (trk h H) e
 refine ⟨e',?_⟩
 cases q:H b with
 | none=>rfl
 | some x=>
   have hm:b ∈ trk h H:=List.mem_filter.mpr ⟨List.mem_range.mpr (Heap.lt_size e'),by simp [q]⟩
   have z:(u7 h H).get? b = none:=PySem.W.hideAll_none (trk h H) hm
   rw [z] at e; cases e
noncomputable def DN (g h:Heap) (L:Addr):List (Addr × Obj):=(List.range h.objs.size).filterMap fun a=>if a = L \/ (g.get? a).isSome = true then none else (h.get? a).map fun o=>(a,o)
noncomputable def rest (g h:Heap) (L d:Addr):List (Addr × Obj):=(DN g h L).filter fun p=>decide (p.1 ≠ d)
end L2
namespace L2
open PySem PySem.Spec PyProof.Rows
structure Mod (K:PySem.W.Frag) (mg:Str -> Option Value) (base:Heap):Prop where
 kin:K.In base
 glob:base.Ns mainGlobals mg
 blt:∃ mb,base.Ns builtinsNs mb /\ ∀ x:Str,x ≠ "__name__" -> mb x = bootBuiltins x
 nolimit:base.NoLimit
structure Cx where
 prog:Program
 w:World
 K:PySem.W.Frag
 mg:Str -> Option Value
 base:Heap
 A:Around
 N:List Str
 s₀:Shared
 H₀:Hp
 env:Env
 outer:List Env
 stack:List Env
 ex:List Addr
 fn:Str -> Bool
 calm:Bool
 pn:List (Addr × Obj)
 xe:Value -> Shared -> Prop
noncomputable def frs (l:List Env):List Addr:=l.filterMap (·.frame)
noncomputable abbrev Cx.fs (X:Cx):List Addr:=frs X.outer
noncomputable def Vis (sc:Scope) (x:Str):Prop:=sc.names.lookup x = some .local \/ sc.names.lookup x = some .cell \/ sc.names.lookup x = some .free
noncomputable def Loc (sc:Scope) (x:Str):Prop:=sc.names.lookup x = some .local \/ sc.names.lookup x = some .cell
noncomputable def Look (env:Env) (h:Heap) (m:Str -> Option Value) (x:Str) (u:Value):Prop:=
 (env.kindOf x = some .local /\ m x = some u) \/ ((env.kindOf x = some .cell \/ env.kindOf x = some .free) /\ ∃ c,env.cells.lookup x = some c /\ h.IsCell c (some u))
structure Cx.Ok (X:Cx):Prop where
 mod:Mod X.K X.mg X.base
 kind:X.env.scope.kind = .function
 glob:X.env.globals = mainGlobals
 blt:X.env.builtins = builtinsNs
 above:X.s₀.heap.objs.size <= X.env.locals
 inj:∀ x y c,X.env.cells.lookup x = some c -> X.env.cells.lookup y = some c -> x = y
 has:∀ x,(X.env.kindOf x = some .cell \/ X.env.kindOf x = some .free) -> ∃ c,X.env.cells.lookup x = some c
 cab:∀ x c,X.fn x = true -> X.env.cells.lookup x = some c -> X.s₀.heap.objs.size <= c
 hd:X.calm = true -> X.A.handled = none
 frames:X.A.frames = some X.stack
 stk:X.stack = X.outer \/ (X.stack = X.env ::X.outer /\ X.env.frame = some X.env.locals)
 exf:∀ b ∈ X.ex,b ≠ X.env.locals /\ ∀ x c,X.env.cells.lookup x = some c -> c ≠ b
 bs:∀ b o,X.base.get? b = some o -> X.s₀.heap.get? b = some o /\ X.H₀ b = none
 bsz:X.base.objs.size <= X.s₀.heap.objs.size
 noex:∀ b o,X.base.get? b = some o -> b ∉ X.ex
 exfs:∀ b ∈ X.ex,b ∉ X.fs
 rP:X.s₀.heap.FunFrames X.base X.outer
 frf:∀ b ∈ X.fs,X.H₀ b = none
structure Inv (X:Cx) (pins:List (Addr × Obj)) (σ:List (Option V)) (H:Hp) (s:Shared):Prop where
 ok:X.Ok
 os:s.os = X.s₀.os
 bare:AllBare s.gens
 base:Un X.fs X.ex X.H₀ H X.s₀.heap s.heap
 loc:∃ m,s.heap.Ns X.env.locals m /\ ∀ (i:Nat) (x:Str) (v:V),X.N[i]? = some x -> σ[i]? = some (some v) -> Vis X.env.scope x -> ∃ u,RelV v u /\ Look X.env s.heap m x u
 cell:∀ x c,X.env.cells.lookup x = some c -> ∃ v,s.heap.IsCell c v
 free:H X.env.locals = none
 freeC:∀ x c,X.env.cells.lookup x = some c -> H c = none
 pin:∀ p ∈ X.pn ++ pins,s.heap.get? p.1 = some p.2 /\ H p.1 = none /\ p.1 ≠ X.env.locals /\ p.1 ∉ X.fs /\ ∀ v,p.2.data ≠ .cell v
 hok:HOk X.prog X.w H s.heap
 len:σ.length = X.N.length
section
variable {X:Cx} {pins:List (Addr × Obj)} {σ:List (Option V)} {H H':Hp} {s:Shared} {h':Heap}
theorem Cx.Ok.Li (ok:X.Ok) {b:Addr} {o:Obj} (e:X.base.get? b = some o):b ∉ X.fs:=fun hb=>by
 have:=(ok.rP.mem hb).1
 rw [e] at this; cases this
theorem Inv.bs (I:Inv X pins σ H s):∀ b o,X.base.get? b = some o -> s.heap.get? b = some o /\ H b = none:=fun b o e=>
 ⟨I.base.keep b o (I.ok.bs b o e).1 (I.ok.bs b o e).2 (I.ok.Li e) (I.ok.noex b o e),I.base.free b o (I.ok.bs b o e).1 (I.ok.bs b o e).2 (I.ok.noex b o e)⟩
theorem Inv.bk (I:Inv X pins σ H s):∀ b o,X.base.get? b = some o -> s.heap.get? b = some o:=fun b o e=>(I.bs b o e).1
theorem Inv.mod (I:Inv X pins σ H s):Mod X.K X.mg X.base:=I.ok.mod
theorem Inv.kIn (I:Inv X pins σ H s):X.K.In s.heap:=I.ok.mod.kin.keeps I.bk
theorem Inv.nolimit (I:Inv X pins σ H s):s.heap.NoLimit:=I.ok.mod.nolimit.keeps I.bk
theorem Inv.lt (I:Inv X pins σ H s):X.env.locals < s.heap.objs.size:=let ⟨_,hn,_⟩:=I.loc; hn.lt
theorem Inv.sz (I:Inv X pins σ H s):X.s₀.heap.objs.size <= s.heap.objs.size:=Nat.le_trans I.ok.above (Nat.le_of_lt I.lt)
theorem Inv.KH (I:Inv X pins σ H s) {a:Addr} (h:s.heap.objs.size <= a):a ∉ X.fs:=fun hb=>by
 obtain ⟨_,o,ho,_⟩:=I.ok.rP.mem hb
 exact absurd (Nat.lt_of_lt_of_le (Heap.lt_size ho) (Nat.le_trans I.sz h)) (Nat.lt_irrefl _)
theorem Inv.cne (I:Inv X pins σ H s):∀ x c,X.env.cells.lookup x = some c -> c ≠ X.env.locals:=fun x c e z=>by
 obtain ⟨v,o,ho,hd⟩:=I.cell x c e
 obtain ⟨m,⟨o',es,ep,ho',hd',_⟩,_⟩:=I.loc
 rw [z,ho'] at ho; cases ho; rw [hd'] at hd; cases hd
theorem Inv.rP (I:Inv X pins σ H s):s.heap.FunFrames X.base X.outer:=by
 have all:∀ (l:List Env),(∀ b ∈ frs l,b ∈ X.fs) -> X.s₀.heap.FunFrames X.base l -> s.heap.FunFrames X.base l:=by
  intro l
  induction l with
  | nil=>intro _ _; trivial
  | cons env r ih=>
    intro hs hl
    obtain ⟨hk,⟨L,o,hf,hn,ho,hd⟩,hr⟩:=hl
    have hL:L ∈ X.fs:=hs L (by unfold frs; rw [List.filterMap_cons,hf]; exact List.mem_cons_self)
    obtain ⟨sl,e⟩:=I.base.slot L o ho (I.ok.frf L hL) hL fun z=>I.ok.exfs L z hL
    exact ⟨hk,⟨L,_,hf,hn,e,hd⟩,ih (fun b hb=>hs b (by unfold frs; rw [List.filterMap_cons,hf]; exact List.mem_cons_of_mem _ hb)) hr⟩
 exact all X.outer (fun _ hb=>hb) I.ok.rP
theorem Inv.stack (I:Inv X pins σ H s):s.heap.FunFrames X.base X.stack:=by
 rcases I.ok.stk with e | ⟨e,hf⟩
 . rw [e]; exact I.rP
 . rw [e]
   obtain ⟨m,hn,_⟩:=I.loc
   refine .cons (by rw [I.ok.kind]; decide) hf hn ?_ I.rP
   exact Heap.get?_none_of_le (Nat.le_trans I.ok.bsz I.ok.above)
theorem Inv.yp (I:Inv X pins σ H s):∀ b ∈ frs X.stack,b ∈ X.env.locals ::X.fs:=fun b hb=>by
 rcases I.ok.stk with e | ⟨e,hf⟩
 . rw [e] at hb; exact List.mem_cons_of_mem _ hb
 . rw [e] at hb
   unfold frs at hb
   rw [List.filterMap_cons,hf] at hb
   exact hb
theorem Inv.vn (I:Inv X pins σ H s):∀ b ∈ frs X.stack,H b = none:=fun b hb=>by
 rcases List.mem_cons.mp (I.yp b hb) with e | hb
 . rw [e]; exact I.free
 . obtain ⟨_,o,ho,_⟩:=I.ok.rP.mem hb
   exact I.base.free b o ho (I.ok.frf b hb) fun z=>I.ok.exfs b z hb
theorem Inv.step {g':Array GenState} {t':Nat} {d':Drawn} {ch:List Addr} (I:Inv X pins σ H s)
  (hch:∀ b ∈ ch,(b ∈ X.ex \/ X.s₀.heap.objs.size <= b) /\ b ≠ X.env.locals /\ (∀ x c,X.env.cells.lookup x = some c -> c ≠ b) /\ ∀ p ∈ X.pn ++ pins,p.1 ≠ b)
  (keep:∀ b o,b ≠ X.env.locals -> b ∉ X.fs -> b ∉ ch -> s.heap.get? b = some o -> H b = none -> h'.get? b = some o)
  (slot:∀ b o,b ≠ X.env.locals -> b ∈ X.fs -> b ∉ ch -> s.heap.get? b = some o -> H b = none -> ∃ sl,h'.get? b = some { o with slots:=sl }) (free:∀ b o,b ∉ ch -> s.heap.get? b = some o -> H b = none -> H' b = none)
  (there:∀ b o,b ∉ ch -> s.heap.get? b = some o -> ∃ o',h'.get? b = some o')
  (tups:∀ b xs,H b = some (.tup xs) -> H' b = some (.tup xs)) (frzs:∀ b o u,H b = some (.frz o u) -> H' b = some (.frz o u)) (tbls:∀ b ps,H b = some (.tbl ps) -> ∃ more,H' b = some (.tbl (ps ++ more)))
  (ns:∀ m,s.heap.Ns X.env.locals m -> h'.Ns X.env.locals m) (hok:HOk X.prog X.w H' h') (hg:AllBare g'):
  Inv X pins σ H' { s with heap:=h',gens:=g',drawn:=d',toks:=t' }:=by
 have neL:∀ b o,X.s₀.heap.get? b = some o -> b ≠ X.env.locals:=fun b o e=>Nat.ne_of_lt (Nat.lt_of_lt_of_le (Heap.lt_size e) I.ok.above)
 have neC:∀ b o,X.s₀.heap.get? b = some o -> b ∉ X.ex -> b ∉ ch:=fun b o e hx hb=>by
  rcases (hch b hb).1 with z | z
  . exact hx z
  . exact absurd (Nat.lt_of_lt_of_le (Heap.lt_size e) z) (Nat.lt_irrefl _)
 have cellK:∀ x c,X.env.cells.lookup x = some c -> ∀ v,s.heap.IsCell c v -> h'.IsCell c v:=fun x c e v ⟨o,ho,hd⟩=>by
  have nch:c ∉ ch:=fun z=>(hch c z).2.2.1 x c e rfl
  by_cases hc:c ∈ X.fs
  . obtain ⟨sl,q⟩:=slot c o (I.cne x c e) hc nch ho (I.freeC x c e)
    exact ⟨_,q,hd⟩
  . exact ⟨o,keep c o (I.cne x c e) hc nch ho (I.freeC x c e),hd⟩
 refine ⟨I.ok,I.os,hg,⟨fun b o e n hb hx=>?_,fun b o e n hb hx=>?_,fun b o e n hx=>?_,fun b o e hx=>?_,fun b xs e=>tups b xs (I.base.tups b xs e),fun b o xs e=>frzs b o xs (I.base.frzs b o xs e),fun b ps e=>?_⟩,?_,fun x c e=>?_,?_,fun x c e=>?_,fun p hp=>?_,hok,I.len⟩
 . exact keep b o (neL b o e) hb (neC b o e hx) (I.base.keep b o e n hb hx) (I.base.free b o e n hx)
 . obtain ⟨sl,e1⟩:=I.base.slot b o e n hb hx
   obtain ⟨sl',e2⟩:=slot b _ (neL b o e) hb (neC b o e hx) e1 (I.base.free b o e n hx)
   exact ⟨sl',e2⟩
 . obtain ⟨o',e1⟩:=I.base.there b o e hx
   exact free b o' (neC b o e hx) e1 (I.base.free b o e n hx)
 . obtain ⟨o',e1⟩:=I.base.there b o e hx
   exact there b o' (neC b o e hx) e1
 . obtain ⟨m1,e1⟩:=I.base.tbls b ps e
   obtain ⟨m2,e2⟩:=tbls b _ e1
   exact ⟨m1 ++ m2,by rw [e2,Array.append_assoc]⟩
 . obtain ⟨m,hn,hl⟩:=I.loc
   refine ⟨m,ns m hn,fun i x v e1 e2 e3=>?_⟩
   obtain ⟨u,r,l⟩:=hl i x v e1 e2 e3
   refine ⟨u,r,?_⟩
   rcases l with l | ⟨k,c,e,z⟩
   . exact .inl l
   . exact .inr ⟨k,c,e,cellK x c e _ z⟩
 . obtain ⟨v,z⟩:=I.cell x c e
   exact ⟨v,cellK x c e v z⟩
 . obtain ⟨m,⟨o,_,_,ho,_⟩,_⟩:=I.loc
   exact free _ o (fun z=>(hch _ z).2.1 rfl) ho I.free
 . obtain ⟨v,o,ho,hd⟩:=I.cell x c e
   exact free c o (fun z=>(hch c z).2.2.1 x c e rfl) ho (I.freeC x c e)
 . obtain ⟨e,n,ne,nf,d⟩:=I.pin p hp
   have nch:p.1 ∉ ch:=fun z=>(hch p.1 z).2.2.2 p hp rfl
   exact ⟨keep p.1 p.2 ne nf nch e n,free p.1 p.2 nch e n,ne,nf,d⟩
theorem Inv.un {t':Nat} (I:Inv X pins σ H s) (u:Un X.fs [] H H' s.heap h') (hok:HOk X.prog X.w H' h'):Inv X pins σ H' { s with heap:=h',toks:=t' }:=by
 obtain ⟨m,⟨o,es,ep,ho,r⟩,_⟩:=id I.loc
 obtain ⟨sl,hL⟩:=u.any ho I.free (by simp)
 exact I.step (g':=s.gens) (d':=s.drawn) (ch:=[]) (fun _ z=>nomatch z) (fun b o _ hb _ e n=>u.keep b o e n hb (by simp)) (fun b o _ hb _ e n=>u.slot b o e n hb (by simp)) (fun b o _ e n=>u.free b o e n (by simp)) (fun b o _ e=>u.there b o e (by simp)) u.tups u.frzs u.tbls (fun m' hm=>by
  obtain ⟨o',es',ep',ho',r'⟩:=hm
  rw [ho] at ho'; cases ho'
  exact ⟨_,es',ep',hL,r'⟩) hok I.bare
theorem Inv.call {g':Array GenState} {t':Nat} {d':Drawn} {ch:List Addr} (I:Inv X pins σ H s) (u:Un (frs X.stack) ch H H' s.heap h') (hok:HOk X.prog X.w H' h') (hg:AllBare g')
  (hch:∀ b ∈ ch,(b ∈ X.ex \/ X.s₀.heap.objs.size <= b) /\ b ≠ X.env.locals /\ (∀ x c,X.env.cells.lookup x = some c -> c ≠ b) /\ ∀ p ∈ X.pn ++ pins,p.1 ≠ b):
  Inv X pins σ H' { s with heap:=h',gens:=g',drawn:=d',toks:=t' }:=by
 obtain ⟨m,⟨o,es,ep,ho,r⟩,_⟩:=id I.loc
 obtain ⟨sl,hL⟩:=u.any ho I.free fun z=>(hch _ z).2.1 rfl
 exact I.step (ch:=ch) hch (fun b o hL hb hc e n=>u.keep b o e n (fun z=>(List.mem_cons.mp (I.yp b z)).elim hL hb) hc) (fun b o _ _ hc e n=>u.any e n hc) (fun b o hc e n=>u.free b o e n hc) (fun b o hc e=>u.there b o e hc) u.tups u.frzs u.tbls (fun m' hm=>by
  obtain ⟨o',es',ep',ho',r'⟩:=hm
  rw [ho] at ho'; cases ho'
  exact ⟨_,es',ep',hL,r'⟩) hok hg
theorem Inv.turned {t':Nat} {it:Addr} (I:Inv X pins σ H s) (k:∀ b o,b ≠ it -> s.heap.get? b = some o -> h'.get? b = some o) (hn:H it = none) (hL:it ≠ X.env.locals)
  (h1:it ∈ X.ex \/ X.s₀.heap.objs.size <= it) (h2:∀ x c,X.env.cells.lookup x = some c -> c ≠ it) (h3:∀ p ∈ X.pn ++ pins,p.1 ≠ it):Inv X pins σ H { s with heap:=h',toks:=t' }:=by
 have nit:∀ b u,H b = some u -> b ≠ it:=fun b u e z=>by rw [z,hn] at e; cases e
 refine I.step (g':=s.gens) (d':=s.drawn) (ch:=[it]) (fun b hb=>?_) (fun b o _ _ hc e _=>k b o (fun z=>hc (by simp [z])) e) (fun b o _ _ hc e _=>⟨o.slots,k b o (fun z=>hc (by simp [z])) e⟩) (fun _ _ _ _ n=>n)
  (fun b o hc e=>⟨o,k b o (fun z=>hc (by simp [z])) e⟩) (fun _ _ e=>e) (fun _ _ _ e=>e) (fun b ps e=>⟨#[],by rw [e]; simp⟩) (fun m hm=>?_) (fun b u e=>?_) I.bare
 . have e:b = it:=by simpa using hb
   subst e
   exact ⟨h1,hL,h2,h3⟩
 . obtain ⟨o,es,ep,ho,r⟩:=hm
   exact ⟨o,es,ep,k _ o (Ne.symm hL) ho,r⟩
 . refine (I.hok b u e).pJ (fun c v hc q=>k c v ?_ q) (fun _ q=>q) fun _ _ q=>q
   rcases hc with z | z
   . rw [z]; exact nit b u e
   . exact nit c _ z
theorem Inv.tok (I:Inv X pins σ H s) (t:Nat):Inv X pins σ H { s with toks:=t }:=I.un (h':=s.heap) (t':=t) Un.refl I.hok
theorem Inv.kept {t':Nat} (I:Inv X pins σ H s) (k:∀ b u,s.heap.get? b = some u -> h'.get? b = some u):Inv X pins σ H { s with heap:=h',toks:=t' }:=I.un (Un.kept k) (I.hok.kept k)
theorem Inv.laid {a:Addr} {o:HO} {t':Nat} (I:Inv X pins σ H s) (k:∀ b u,s.heap.get? b = some u -> h'.get? b = some u) (hp:s.heap.objs.size <= a) (new:gm X.prog X.w (upd H a o) h' a o):
  Inv X pins σ (upd H a o) { s with heap:=h',toks:=t' }:=I.un (Un.laid k hp (I.hok.fresh hp)) (I.hok.laid k hp new)
theorem Inv.write {x e:Addr} {o:HO} {t':Nat} (I:Inv X pins σ H s) (mu:Mut (H x)) (he:e = x \/ H e = some (.own x)) (k:∀ b u,b ≠ e -> s.heap.get? b = some u -> h'.get? b = some u) (heo:∃ u,h'.get? e = some u)
  (new:gm X.prog X.w (upd H x o) h' x o):Inv X pins σ (upd H x o) { s with heap:=h',toks:=t' }:=I.un (Un.write mu he k heo) (I.hok.write mu he k heo new)
theorem Inv.Ab {pins':List (Addr × Obj)} (I:Inv X pins σ H s) (h:∀ p ∈ pins',s.heap.get? p.1 = some p.2 /\ H p.1 = none /\ p.1 ≠ X.env.locals /\ p.1 ∉ X.fs /\ ∀ v,p.2.data ≠ .cell v):Inv X pins' σ H s:=
 ⟨I.ok,I.os,I.bare,I.base,I.loc,I.cell,I.free,I.freeC,fun p hp=>(List.mem_append.mp hp).elim (fun z=>I.pin p (List.mem_append_left _ z)) (h p),I.hok,I.len⟩
theorem tZ {N:List Str} (hN:N.Nodup) {i j:Nat} {x:Str} (a:N[i]? = some x) (b:N[j]? = some x):i = j:=by
 obtain ⟨h1,e1⟩:=List.getElem?_eq_some_iff.mp a
 obtain ⟨h2,e2⟩:=List.getElem?_eq_some_iff.mp b
 exact (List.getElem_inj hN).mp (e1.trans e2.symm)
theorem Am {M:Model} {A:Around} {E:Value -> Shared -> Prop} {i:Nat} {x:Str} {v:V} {u:Value} {Q:Unit -> Shared -> Prop} (I:Inv X pins σ H s) (hN:X.N.Nodup) (hi:X.N[i]? = some x) (hx:Loc X.env.scope x) (r:RelV v u)
  (h:∀ s',Inv X pins (σ.set i (some v)) H s' -> (∃ a,Heap.SameBut a s.heap s'.heap /\ (a = X.env.locals \/ X.env.cells.lookup x = some a)) -> Q () s') (hf:X.fn x = true \/ X.env.scope.names.lookup x = some .local:=by first | exact .inl rfl | exact .inr rfl | assumption):wpAny M A (storeName X.env x u) Q E s:=by
 obtain ⟨m,hn,hl⟩:=id I.loc
 have hcls:(X.env.scope.kind == .class || (X.env.scope.kind == .module && X.env.locals != X.env.globals)) = false:=by rw [I.ok.kind]; rfl
 have hiσ:i < σ.length:=by rw [I.len]; exact (List.getElem?_eq_some_iff.mp hi).1
 have cne:=I.cne
 have tracked:∀ {a:Addr} {h':Heap},(∃ o,s.heap.get? a = some o /\ H a = none) -> Heap.SameBut a s.heap h' -> HOk X.prog X.w H h':=fun {a h'} ha hs b ob e=>by
  obtain ⟨_,_,hfree⟩:=ha
  refine (I.hok b ob e).pJ (fun c w' hc q=>(hs.2 c ?_).trans q) (fun _ q=>q) fun _ _ q=>q
  rintro rfl
  rcases hc with rfl | hc
  . rw [hfree] at e; cases e
  . rw [hfree] at hc; cases hc
 rcases hx with hk | hk
 . refine wpAny_storeName_local hk hn (fun h' hn' hs=>?_) hcls
   obtain ⟨oL,_,_,hoL,_⟩:=id hn
   refine h _ ⟨I.ok,I.os,I.bare,⟨fun b o e n hb hx=>?_,fun b o e n hb hx=>?_,I.base.free,fun b o e hx=>?_,I.base.tups,I.base.frzs,I.base.tbls⟩,⟨_,hn',fun j y v' e1 e2 e3=>?_⟩,fun y c e=>?_,I.free,I.freeC,fun p hp=>?_,tracked ⟨oL,hoL,I.free⟩ hs,by simpa using I.len⟩ ⟨_,hs,.inl rfl⟩
   . exact (hs.2 b (Nat.ne_of_lt (Nat.lt_of_lt_of_le (Heap.lt_size e) I.ok.above))).trans (I.base.keep b o e n hb hx)
   . obtain ⟨sl,e1⟩:=I.base.slot b o e n hb hx
     exact ⟨sl,(hs.2 b (Nat.ne_of_lt (Nat.lt_of_lt_of_le (Heap.lt_size e) I.ok.above))).trans e1⟩
   . obtain ⟨o',e1⟩:=I.base.there b o e hx
     exact ⟨o',(hs.2 b (Nat.ne_of_lt (Nat.lt_of_lt_of_le (Heap.lt_size e) I.ok.above))).trans e1⟩
   . by_cases hj:j = i
     . subst hj
       rw [hi] at e1; cases e1
       rw [List.getElem?_set_self hiσ] at e2
       cases e2
       exact ⟨u,r,.inl ⟨hk,by simp⟩⟩
     . rw [List.getElem?_set_ne (Ne.symm hj)] at e2
       obtain ⟨u',r',q⟩:=hl j y v' e1 e2 e3
       refine ⟨u',r',?_⟩
       rcases q with ⟨k,e⟩ | ⟨k,c,e,z⟩
       . refine .inl ⟨k,?_⟩
         have:y ≠ x:=fun e=>hj (tZ hN e1 (e ▸ hi))
         simp [this,e]
       . exact .inr ⟨k,c,e,z.sameBut hs (cne y c e)⟩
   . obtain ⟨w',z⟩:=I.cell y c e
     exact ⟨w',z.sameBut hs (cne y c e)⟩
   . obtain ⟨e,n,ne,nf,d⟩:=I.pin p hp
     exact ⟨(hs.2 p.1 ne).trans e,n,ne,nf,d⟩
 . have hfn:X.fn x = true:=by
    rcases hf with z | z
    . exact z
    . rw [z] at hk; cases hk
   obtain ⟨c,hc⟩:=I.ok.has x (.inl hk)
   obtain ⟨w',z⟩:=I.cell x c hc
   refine wpAny_storeName_cell I.ok.kind hk hc z (fun h' hc' hs=>?_)
   obtain ⟨oc,hoc,hocd⟩:=id z
   refine h { s with heap:=h' } ⟨I.ok,I.os,I.bare,⟨fun b o e n hb hx=>?_,fun b o e n hb hx=>?_,I.base.free,fun b o e hx=>?_,I.base.tups,I.base.frzs,I.base.tbls⟩,⟨m,hn.sameBut hs (Ne.symm (cne x c hc)),fun j y v' e1 e2 e3=>?_⟩,fun y c' e=>?_,I.free,I.freeC,fun p hp=>?_,tracked ⟨oc,hoc,I.freeC x c hc⟩ hs,by simpa using I.len⟩ ⟨c,hs,.inr hc⟩
   . exact (hs.2 b (Nat.ne_of_lt (Nat.lt_of_lt_of_le (Heap.lt_size e) (I.ok.cab x c hfn hc)))).trans (I.base.keep b o e n hb hx)
   . obtain ⟨sl,e1⟩:=I.base.slot b o e n hb hx
     exact ⟨sl,(hs.2 b (Nat.ne_of_lt (Nat.lt_of_lt_of_le (Heap.lt_size e) (I.ok.cab x c hfn hc)))).trans e1⟩
   . obtain ⟨o',e1⟩:=I.base.there b o e hx
     exact ⟨o',(hs.2 b (Nat.ne_of_lt (Nat.lt_of_lt_of_le (Heap.lt_size e) (I.ok.cab x c hfn hc)))).trans e1⟩
   . by_cases hj:j = i
     . subst hj
       rw [hi] at e1; cases e1
       rw [List.getElem?_set_self hiσ] at e2
       cases e2
       exact ⟨u,r,.inr ⟨.inl hk,c,hc,hc'⟩⟩
     . rw [List.getElem?_set_ne (Ne.symm hj)] at e2
       obtain ⟨u',r',q⟩:=hl j y v' e1 e2 e3
       refine ⟨u',r',?_⟩
       rcases q with q | ⟨k,c',e,z'⟩
       . exact .inl q
       . refine .inr ⟨k,c',e,z'.sameBut hs ?_⟩
         rintro rfl
         exact hj (tZ hN e1 (I.ok.inj _ _ _ e hc ▸ hi))
   . by_cases hcc:c' = c
     . subst hcc; exact ⟨_,hc'⟩
     . obtain ⟨w2,z2⟩:=I.cell y c' e
       exact ⟨w2,z2.sameBut hs hcc⟩
   . obtain ⟨e,n,ne,nf,d⟩:=I.pin p hp
     refine ⟨(hs.2 p.1 ?_).trans e,n,ne,nf,d⟩
     intro q
     rw [q,hoc] at e
     have q':oc = p.2:=Option.some.inj e
     exact d w' (by rw [<- q']; exact hocd)
theorem kl {M:Model} {A:Around} {E:Value -> Shared -> Prop} {i:Nat} {x:Str} {v:V} {u:Value} {Q:Unit -> Shared -> Prop} (I:Inv X pins σ H s) (hN:X.N.Nodup) (hi:X.N[i]? = some x) (hx:Loc X.env.scope x) (r:RelV v u)
  (h:∀ s',Inv X pins (σ.set i (some v)) H s' -> Q () s') (hf:X.fn x = true \/ X.env.scope.names.lookup x = some .local:=by first | exact .inl rfl | exact .inr rfl | assumption):wpAny M A (storeName X.env x u) Q E s:=
 Am I hN hi hx r (fun s' I' _=>h s' I') hf
theorem Inv.FU {s':Shared} {ch:List Addr} (I:Inv X pins σ H s) (ho:s'.os = s.os) (u:Un (frs X.stack) ch H H' s.heap s'.heap) (hok:HOk X.prog X.w H' s'.heap) (hg:AllBare s'.gens)
  (hch:∀ b ∈ ch,(b ∈ X.ex \/ X.s₀.heap.objs.size <= b) /\ b ≠ X.env.locals /\ (∀ x c,X.env.cells.lookup x = some c -> c ≠ b) /\ ∀ p ∈ X.pn ++ pins,p.1 ≠ b):Inv X pins σ H' s':=by
 obtain ⟨h',g',d',t',o'⟩:=s'
 have e:o' = s.os:=ho
 subst e
 exact I.call (g':=g') (t':=t') (d':=d') u hok hg hch
end
abbrev XK:=Value -> Option Addr -> Hp -> Prop
abbrev St:=List (Option V)
abbrev VK:=V -> Hp -> Prop
abbrev TE:=St -> Hp -> VK -> Prop
abbrev TT:=St -> Hp -> (Bool -> Hp -> Prop) -> Prop
abbrev TA:=St -> Hp -> (List V -> Hp -> Prop) -> Prop
structure Ends where
 nx:St -> Hp -> Prop
 rt:VK
 bk:St -> Hp -> Prop:=fun _ _=>False
 ct:St -> Hp -> Prop:=fun _ _=>False
abbrev TS:=Ends -> St -> Hp -> Prop
noncomputable def EP (X:Cx) (pins:List (Addr × Obj)) (σ:St) (Q:VK) (u:Value) (s':Shared):Prop:=∃ v H',Inv X pins σ H' s' /\ RelV v u /\ Q v H'
noncomputable def TP (X:Cx) (pins:List (Addr × Obj)) (σ:St) (Q:Bool -> Hp -> Prop) (b:Bool) (s':Shared):Prop:=∃ H',Inv X pins σ H' s' /\ Q b H'
noncomputable def AP (X:Cx) (pins:List (Addr × Obj)) (σ:St) (Q:List V -> Hp -> Prop) (us:List Value) (s':Shared):Prop:=∃ vs H',Inv X pins σ H' s' /\ Vals vs us /\ Q vs H'
noncomputable def SP (X:Cx) (pins:List (Addr × Obj)) (D:Ends) (f:Flow) (s':Shared):Prop:=
 match f with
 | .next=>∃ σ' H',Inv X pins σ' H' s' /\ D.nx σ' H'
 | .brk=>∃ σ' H',Inv X pins σ' H' s' /\ D.bk σ' H'
 | .cont=>∃ σ' H',Inv X pins σ' H' s' /\ D.ct σ' H'
 | .ret u=>∃ v σ' H',Inv X pins σ' H' s' /\ RelV v u /\ D.rt v H'
noncomputable def PE (X:Cx) (e:Expr) (t:TE):Prop:=
 ∀ (pins:List (Addr × Obj)) (s:Shared) (σ:St) (H:Hp) (Q:VK),Inv X pins σ H s -> t σ H Q -> wpAny (model X.prog X.w) X.A (eval e X.env) (EP X pins σ Q) X.xe s
noncomputable def PT (X:Cx) (e:Expr) (t:TT):Prop:=
 ∀ (pins:List (Addr × Obj)) (s:Shared) (σ:St) (H:Hp) (Q:Bool -> Hp -> Prop),Inv X pins σ H s -> t σ H Q -> wpAny (model X.prog X.w) X.A (isTrue e X.env (eval e X.env)) (TP X pins σ Q) X.xe s
noncomputable def PW (X:Cx) (e:Expr) (t:TT):Prop:=
 ∀ (whole:Sem Value) (pins:List (Addr × Obj)) (s:Shared) (σ:St) (H:Hp) (Q:Bool -> Hp -> Prop),Inv X pins σ H s -> t σ H Q -> wpAny (model X.prog X.w) X.A (isTrue e X.env whole) (TP X pins σ Q) X.xe s
theorem PW.pt {X:Cx} {e:Expr} {t:TT} (h:PW X e t):PT X e t:=h _
noncomputable def PA (X:Cx) (es:List Expr) (t:TA):Prop:=
 ∀ (pos:Pos) (pins:List (Addr × Obj)) (s:Shared) (σ:St) (H:Hp) (Q:List V -> Hp -> Prop),Inv X pins σ H s -> t σ H Q -> wpAny (model X.prog X.w) X.A (spliced (backTo pos (starEach es X.env))) (AP X pins σ Q) X.xe s
noncomputable def PS (X:Cx) (st:Stmt) (t:TS):Prop:=
 ∀ (pins:List (Addr × Obj)) (s:Shared) (σ:St) (H:Hp) (D:Ends),Inv X pins σ H s -> t D σ H -> wpAny (model X.prog X.w) X.A (exec st X.env) (SP X pins D) X.xe s
noncomputable def PSs (X:Cx) (st:List Stmt) (t:TS):Prop:=
 ∀ (pins:List (Addr × Obj)) (s:Shared) (σ:St) (H:Hp) (D:Ends),Inv X pins σ H s -> t D σ H -> wpAny (model X.prog X.w) X.A (execs st X.env) (SP X pins D) X.xe s
theorem thn {α:Type} {t:Sem α} {Q Q':α -> Shared -> Prop} {M:Model} {A:Around} {E:Value -> Shared -> Prop} {s:Shared} (h:wpAny M A t Q E s) (hQ:∀ a s,Q a s -> Q' a s):wpAny M A t Q' E s:=wpAny_mono h hQ fun _ _ x=>x
end L2
namespace L2
open PySem PySem.Spec PyProof.Rows
section
variable {X:Cx}
theorem bin {a b:Expr} {ta tb:TE} (ha:PE X a ta) (hb:PE X b tb) {pins:List (Addr × Obj)} {s:Shared} {σ:St} {H:Hp} {R:V -> V -> Hp -> Prop} (I:Inv X pins σ H s) (h:ta σ H fun x H1=>tb σ H1 fun y H2=>R x y H2)
  {α:Type} {Q:α -> Shared -> Prop} {f:Value -> Value -> Sem α}
  (hf:∀ v u s2 x y H2,Inv X pins σ H2 s2 -> RelV x v -> RelV y u -> R x y H2 -> wpAny (model X.prog X.w) X.A (f v u) Q X.xe s2):
  wpAny (model X.prog X.w) X.A (eval a X.env) (fun v s₁=>wpAny (model X.prog X.w) X.A (eval b X.env) (fun u s₂=>wpAny (model X.prog X.w) X.A (f v u) Q X.xe s₂) X.xe s₁) X.xe s:=by
 refine thn (ha pins s σ H _ I h) fun v s1 ⟨x,H1,I1,r1,q1⟩=>?_
 refine thn (hb pins s1 σ H1 _ I1 q1) fun u s2 ⟨y,H2,I2,r2,q2⟩=>?_
 exact hf v u s2 x y H2 I2 r1 r2 q2
noncomputable def sU (i:Nat):TE:=fun σ H Q=>∃ v,σ[i]? = some (some v) /\ Q v H
noncomputable def tC (v:V):TE:=fun _ H Q=>Q v H
theorem Gf {i:Nat} {x:Str} {pos:Pos} (hN:X.N[i]? = some x) (hv:Vis X.env.scope x) (hd:(x == ("__debug__":Str)) = false:=by decide) (hcd:(x == ("__classdict__":Str)) = false:=by decide):PE X (.Name x pos) (sU i):=by
 intro pins s σ H Q I h
 obtain ⟨v,e,h⟩:=h
 obtain ⟨m,hn,hl⟩:=I.loc
 obtain ⟨u,r,l⟩:=hl i x v hN e hv
 have fin:EP X pins σ Q u s:=⟨v,H,I,r,h⟩
 rcases l with ⟨hk,hm⟩ | ⟨hk,c,hc,hcell⟩
 . exact wpAny_Name (wpAny_loadName_local I.ok.kind hk hn hm fin) hd
 . rcases hk with hk | hk
   . exact wpAny_Name (wpAny_loadName_cell I.ok.kind hk hc hcell fin) hd
   . exact wpAny_Name (wpAny_loadName_free I.ok.kind hk hc hcell fin hcd) hd
theorem Ha {i j pos}:PE X (.Constant (.int i) j pos) (tC (.int i)):=fun _ _ _ H _ I h=>wpAny_Constant_int ⟨.int i,H,I.tok _,⟨_,rfl⟩,h⟩
theorem Ja {b j pos}:PE X (.Constant (.bool b) j pos) (tC (.bl b)):=fun _ _ _ H _ I h=>Constant_bool ⟨.bl b,H,I,rfl,h⟩
theorem GX {j pos}:PE X (.Constant .none j pos) (tC .non):=fun _ _ _ H _ I h=>Constant_none ⟨.non,H,I,rfl,h⟩
theorem G2 {x j pos}:PE X (.Constant (.str x) j pos) (tC (.str x)):=fun _ _ _ H _ I h=>Calls.Constant_str ⟨.str x,H,I.tok _,⟨_,rfl⟩,h⟩
noncomputable def Gl (X:Cx) (x:Str):Prop:=X.env.kindOf x = some .globalImplicit
theorem m3 {E:Value -> Shared -> Prop} {pins:List (Addr × Obj)} {s:Shared} {σ:St} {H:Hp} {x:Str} {u:Value} {pos:Pos} {Q:Value -> Shared -> Prop} (I:Inv X pins σ H s) (hg:Gl X x) (hm:X.mg x = some u) (h:Q u s)
  (hd:(x == ("__debug__":Str)) = false:=by decide):wpAny (model X.prog X.w) X.A (eval (.Name x pos) X.env) Q E s:=
 Calls.Name_function_global I.ok.kind hg (Calls.loadGlobal_global (by rw [I.ok.glob]; exact I.mod.glob.keeps I.bk) hm h) hd
theorem tL {E:Value -> Shared -> Prop} {pins:List (Addr × Obj)} {s:Shared} {σ:St} {H:Hp} {x:Str} {u:Value} {pos:Pos} {Q:Value -> Shared -> Prop} (I:Inv X pins σ H s) (hg:Gl X x) (hm:X.mg x = none) (hv:bootBuiltins x = some u) (h:Q u s)
  (hn:x ≠ "__name__":=by decide) (hd:(x == ("__debug__":Str)) = false:=by decide):wpAny (model X.prog X.w) X.A (eval (.Name x pos) X.env) Q E s:=by
 obtain ⟨mb,h1,h2⟩:=I.mod.blt
 exact Calls.Name_function_global I.ok.kind hg (Calls.loadGlobal_builtin (by rw [I.ok.glob]; exact I.mod.glob.keeps I.bk) hm (by rw [I.ok.blt]; exact h1.keeps I.bk) ((h2 x hn).trans hv) h) hd
theorem E1 {x:Str} {v:V} {u:Value} {pos:Pos} (hg:Gl X x) (hm:X.mg x = some u) (r:RelV v u) (hd:(x == ("__debug__":Str)) = false:=by decide):PE X (.Name x pos) (tC v):=
 fun _ _ _ H _ I h=>m3 I hg hm ⟨v,H,I,r,h⟩ hd
theorem Ef {x:Str} {v:V} {u:Value} {pos:Pos} (hg:Gl X x) (hm:X.mg x = none) (hv:bootBuiltins x = some u) (r:RelV v u) (hn:x ≠ "__name__":=by decide) (hd:(x == ("__debug__":Str)) = false:=by decide):PE X (.Name x pos) (tC v):=
 fun _ _ _ H _ I h=>tL I hg hm hv ⟨v,H,I,r,h⟩ hn hd
variable {a b:Expr} {ta tb:TE} {pos:Pos}
noncomputable def PC (X:Cx) (op:CmpOp) (a b:Expr) (t:TE):Prop:=
 ∀ (pins:List (Addr × Obj)) (s:Shared) (σ:St) (H:Hp) (Q:VK),Inv X pins σ H s -> t σ H Q ->
   wpAny (model X.prog X.w) X.A (eval a X.env) (fun v s₁=>wpAny (model X.prog X.w) X.A (eval b X.env) (fun u s₂=>wpAny (model X.prog X.w) X.A (compareOp op v u) (EP X pins σ Q) X.xe s₂) X.xe s₁) X.xe s
theorem wI (b:Expr) {op:CmpOp} (h:op ≠ .In) (h2:op ≠ .NotIn):behindInMarks op b = false:=by
 have e1:(op == CmpOp.In) = false:=by cases op <;> first | rfl | exact absurd rfl h
 have e2:(op == CmpOp.NotIn) = false:=by cases op <;> first | rfl | exact absurd rfl h2
 cases b <;> simp [behindInMarks,e1,e2]
noncomputable def tB (t:TE):TT:=fun σ H Q=>t σ H fun x H1=>∃ c,x = .bl c /\ Q c H1
theorem GG {op:CmpOp} {t:TE} (h:PC X op a b t) (h1:behindInMarks op b = false:=by first | exact wI _ (by decide) (by decide) | rfl):PT X (.Compare a [op] [b] pos) (tB t):=by
 intro pins s σ H Q I hw
 refine wpAny_isTrue_Compare1 (thn (h pins s σ H _ I hw) fun v s1 h1=>thn h1 fun u s2 h2=>thn h2 fun c s3 ⟨x,H1,I1,r1,q1⟩=>?_) h1
 obtain ⟨d,rfl,q⟩:=q1
 cases r1
 exact wpAny_truthy_bool ⟨H1,I1,q⟩
variable {tA tB':TT} {rest:List Expr}
noncomputable def G9 (t u:TT):TT:=fun σ H Q=>t σ H fun c H1=>if c = true then u σ H1 Q else Q false H1
noncomputable def tOr (t u:TT):TT:=fun σ H Q=>t σ H fun c H1=>if c = true then Q true H1 else u σ H1 Q
noncomputable def Du (t:TT):TT:=fun σ H Q=>t σ H fun c H1=>Q (!c) H1
theorem DC (ha:PT X a tA):PW X (.BoolOp .And [a] pos) tA:=by
 intro wh pins s σ H Q I h
 refine isTrue_and (thn (ha pins s σ H Q I h) fun c s1 e=>?_)
 cases c with
 | true=>exact isTrue_and_nil e
 | false=>exact e
theorem G3 (ha:PT X a tA):PW X (.BoolOp .Or [a] pos) tA:=by
 intro wh pins s σ H Q I h
 refine isTrue_or (thn (ha pins s σ H Q I h) fun c s1 e=>?_)
 cases c with
 | false=>exact isTrue_or_nil e
 | true=>exact e
theorem Hn (ha:PT X a tA) (hb:PW X (.BoolOp .And (b ::rest) pos) tB'):PW X (.BoolOp .And (a ::b ::rest) pos) (G9 tA tB'):=by
 intro wh pins s σ H Q I h
 refine isTrue_and (thn (ha pins s σ H _ I h) fun c s1 ⟨H1,I1,q1⟩=>?_)
 cases c with
 | true=>exact hb wh pins s1 σ H1 Q I1 q1
 | false=>exact ⟨H1,I1,q1⟩
theorem IM (ha:PT X a tA) (hb:PW X (.BoolOp .Or (b ::rest) pos) tB'):PW X (.BoolOp .Or (a ::b ::rest) pos) (tOr tA tB'):=by
 intro wh pins s σ H Q I h
 refine isTrue_or (thn (ha pins s σ H _ I h) fun c s1 ⟨H1,I1,q1⟩=>?_)
 cases c with
 | true=>exact ⟨H1,I1,q1⟩
 | false=>exact hb wh pins s1 σ H1 Q I1 q1
theorem HX (ha:PT X a tA):PT X (.UnaryOp .Not a pos) (Du tA):=by
 intro pins s σ H Q I h
 exact isTrue_not (ha pins s σ H (fun c H1=>Q (!c) H1) I h)
noncomputable def BE (ta tb:TE):TE:=fun σ H Q=>ta σ H fun x H1=>∃ c,x = .bl c /\ if c = true then tb σ H1 Q else Q (.bl false) H1
noncomputable def Co (ta:TE):TE:=fun σ H Q=>ta σ H fun x H1=>∃ c,x = .bl c /\ Q (.bl (!c)) H1
theorem Gd {op} {t:TE} (h:PE X a t):PE X (.BoolOp op [a] pos) t:=fun pins s σ H Q I hw=>BoolOp_one (h pins s σ H Q I hw)
theorem Gz (ha:PE X a ta) (hb:PE X (.BoolOp .And (b ::rest) pos) tb):PE X (.BoolOp .And (a ::b ::rest) pos) (BE ta tb):=by
 intro pins s σ H Q I h
 refine BoolOp_and (thn (ha pins s σ H _ I h) fun v s1 ⟨x,H1,I1,r1,q1⟩=>?_)
 obtain ⟨c,rfl,q1⟩:=q1
 cases r1
 refine wpAny_truthy_bool ?_
 cases c with
 | true=>exact hb pins s1 σ H1 Q I1 q1
 | false=>exact ⟨.bl false,H1,I1,rfl,q1⟩
theorem HM (ha:PE X a ta):PE X (.UnaryOp .Not a pos) (Co ta):=by
 intro pins s σ H Q I h
 refine UnaryOp_ (thn (ha pins s σ H _ I h) fun v s1 ⟨x,H1,I1,r1,q1⟩=>?_)
 obtain ⟨c,rfl,q1⟩:=q1
 cases r1
 exact not_of (wpAny_truthy_bool ⟨.bl (!c),H1,I1,rfl,q1⟩)
noncomputable def tIf (t:TT) (ta tb:TE):TE:=fun σ H Q=>t σ H fun c H1=>if c = true then ta σ H1 Q else tb σ H1 Q
theorem B4 {c:Expr} (hc:PT X c tA) (ha:PE X a ta) (hb:PE X b tb):PE X (.IfExp c a b pos) (tIf tA ta tb):=by
 intro pins s σ H Q I h
 refine wpAny_IfExp (thn (hc pins s σ H _ I h) fun d s1 ⟨H1,I1,q1⟩=>?_)
 cases d with
 | true=>exact ha pins s1 σ H1 Q I1 q1
 | false=>exact hb pins s1 σ H1 Q I1 q1
end
end L2
namespace L2
open PySem PySem.Spec PyProof.Rows
noncomputable def SqL (K:PySem.W.Frag) (H:Hp) (a:Addr) (xs:List V):Prop:=
 Rd H a (.lst xs) \/
  ∃ (o:Obj) (its:Array Value) (n:Nat),K.lookup a = some o /\ o.cls = .type "list" /\ o.dict = none /\ o.data = .seq its n /\ its.size <= sizeLine /\ Vals xs its.toList
noncomputable def SqT (K:PySem.W.Frag) (H:Hp) (a:Addr) (xs:List V):Prop:=
 Rd H a (.tup xs) \/
  ∃ (o:Obj) (its:Array Value) (n:Nat),K.lookup a = some o /\ o.cls = .type "tuple" /\ o.data = .seq its n /\ its.size <= sizeLine /\ Vals xs its.toList
noncomputable def KP:Value -> Option V
 | .none=>some .non
 | .bool b=>some (.bl b)
 | .int i _=>some (.int i)
 | .str x _=>some (.str x)
 | .bytes b _=>some (.byt b)
 | .float b _=>some (.flt b)
 | .ref a=>some (.ref a)
 | .type n=>some (.ty n)
 | _=>none
theorem RelV.abs {x:V} {u:Value} (r:RelV x u):KP u = some x:=by
 cases x with
 | non=>cases r; rfl
 | bl _=>cases r; rfl
 | int _=>obtain ⟨t,rfl⟩:=r; rfl
 | str _=>obtain ⟨t,rfl⟩:=r; rfl
 | byt _=>obtain ⟨t,rfl⟩:=r; rfl
 | flt _=>obtain ⟨t,rfl⟩:=r; rfl
 | ref _=>cases r; rfl
 | ty _=>cases r; rfl
theorem RelV.inj {x y:V} {u:Value} (r:RelV x u) (q:RelV y u):x = y:=Option.some.inj (r.abs.symm.trans q.abs)
theorem Vals.inj:∀ {xs ys:List V} {us:List Value},Vals xs us -> Vals ys us -> xs = ys
 | _,_,_,.nil,.nil=>rfl
 | _,_,_,.cons r t,.cons r' t'=>by rw [r.inj r',Vals.inj t t']
section
variable {X:Cx} {pins:List (Addr × Obj)} {σ:St} {H:Hp} {s:Shared} {a:Addr} {xs ys:List V}
theorem Inv.list (I:Inv X pins σ H s) (h:SqL X.K H a xs):∃ its:List Value,Vals xs its /\ PlainL s.heap a its.toArray /\ xs.length <= sizeLine:=by
 rcases h with h | ⟨o,its,n,hk,hc,hd,hs,hz,r⟩
 . obtain ⟨z,its,n,r,e⟩:=h.ok I.hok
   exact ⟨its,r,⟨_,n,e,rfl,rfl,rfl⟩,z⟩
 . refine ⟨its.toList,r,⟨o,n,I.kIn a o hk,hc,hd,by simpa using hs⟩,?_⟩
   have e:=r.length
   simp only [Array.length_toList] at e
   omega
theorem Inv.tuple (I:Inv X pins σ H s) (h:SqT X.K H a xs):∃ its:List Value,Vals xs its /\ IsTup s.heap a its.toArray /\ xs.length <= sizeLine:=by
 rcases h with h | ⟨o,its,n,hk,hc,hs,hz,r⟩
 . obtain ⟨z,its,r,p⟩:=h.ok I.hok
   exact ⟨its,r,p,z⟩
 . refine ⟨its.toList,r,⟨o,I.kIn a o hk,hc,n,by simpa using hs⟩,?_⟩
   have e:=r.length
   simp only [Array.length_toList] at e
   omega
theorem Inv.wN (I:Inv X pins σ H s) (h:SqL X.K H a xs) (h':SqL X.K H a ys):xs = ys:=by
 obtain ⟨its,r,⟨o,n,e,_,_,d⟩,_⟩:=I.list h
 obtain ⟨its',r',⟨o',n',e',_,_,d'⟩,_⟩:=I.list h'
 rw [e] at e'; cases e'
 rw [d] at d'
 injection d' with d1 _
 have:its = its':=by simpa using congrArg Array.toList d1
 subst this
 exact r.inj r'
theorem Inv.Bb (I:Inv X pins σ H s) (h:SqT X.K H a xs) (h':SqT X.K H a ys):xs = ys:=by
 obtain ⟨its,r,⟨o,e,_,n,d⟩,_⟩:=I.tuple h
 obtain ⟨its',r',⟨o',e',_,n',d'⟩,_⟩:=I.tuple h'
 rw [e] at e'; cases e'
 rw [d] at d'
 injection d' with d1 _
 have:its = its':=by simpa using congrArg Array.toList d1
 subst this
 exact r.inj r'
end
section
variable {X:Cx} {st:Stmt} {rest:List Stmt} {t u:TS} {e:Expr} {te:TE} {pos:Pos}
noncomputable def BO:TS:=fun D σ H=>D.nx σ H
noncomputable def F5 (t u:TS):TS:=fun D σ H=>t { D with nx:=u D } σ H
theorem DO:PSs X [] BO:=fun _ _ σ H _ I h=>wpAny_execs_nil ⟨σ,H,I,h⟩
theorem BQ (h1:PS X st t) (h2:PSs X rest u):PSs X (st ::rest) (F5 t u):=by
 intro pins s σ H D I h
 refine wpAny_execs_cons (thn (h1 pins s σ H { D with nx:=u D } I h) fun f s1 q=>?_)
 cases f with
 | next=>
   obtain ⟨σ',H',I',q⟩:=q
   exact h2 pins s1 σ' H' D I' q
 | ret v=>exact q
 | brk=>exact q
 | cont=>exact q
theorem zS (h1:PS X st t):PSs X [st] t:=by
 intro pins s σ H D I h
 refine wpAny_execs_cons (thn (h1 pins s σ H D I h) fun f s1 q=>?_)
 cases f with
 | next=>exact wpAny_execs_nil q
 | ret v=>exact q
 | brk=>exact q
 | cont=>exact q
theorem Inv.quiet {pins:List (Addr × Obj)} {σ:St} {H:Hp} {s:Shared} (I:Inv X pins σ H s):interactive X.env = false:=by simp [interactive,I.ok.kind]
noncomputable def uy (te:TE):TS:=fun D σ H=>te σ H fun _ H1=>D.nx σ H1
theorem Eg (he:PE X e te) (hs:swapsWith e none pos.line X.env = pure false:=by rfl):PS X (.Expr e pos) (uy te):=by
 intro pins s σ H D I h
 exact wpAny_Expr_any (thn (he pins s σ H _ I h) fun v s1 ⟨x,H1,I1,r1,q1⟩=>⟨σ,H1,I1,q1⟩) I.quiet hs
noncomputable def Ej (te:TE):TS:=fun D σ H=>te σ H D.rt
theorem Gw (he:PE X e te):PS X (.Return (some e) pos) (Ej te):=by
 intro pins s σ H D I h
 exact wpAny_Return_some (thn (he pins s σ H _ I h) fun v s1 ⟨x,H1,I1,r1,q1⟩=>⟨x,σ,H1,I1,r1,q1⟩)
noncomputable def Eh (c:TT) (t u:TS):TS:=fun D σ H=>c σ H fun b H1=>if b = true then t D σ H1 else u D σ H1
theorem JB {c:Expr} {a b:List Stmt} {tc:TT} (hc:PT X c tc) (ha:PSs X a t) (hb:PSs X b u):PS X (.If c a b pos) (Eh tc t u):=by
 intro pins s σ H D I h
 refine wpAny_If (thn (hc pins s σ H _ I h) fun d s1 ⟨H1,I1,q1⟩=>?_)
 cases d with
 | true=>exact ha pins s1 σ H1 D I1 q1
 | false=>exact hb pins s1 σ H1 D I1 q1
end
abbrev TG:=V -> St -> Hp -> (St -> Hp -> Prop) -> Prop
abbrev TGs:=List V -> St -> Hp -> (St -> Hp -> Prop) -> Prop
noncomputable def PG (X:Cx) (target:Expr) (t:TG):Prop:=
 ∀ (pins:List (Addr × Obj)) (s:Shared) (σ:St) (H:Hp) (v:V) (u:Value) (Q:St -> Hp -> Prop),Inv X pins σ H s -> RelV v u -> t v σ H Q ->
   wpAny (model X.prog X.w) X.A (assign target X.env u) (fun _ s'=>∃ σ' H',Inv X pins σ' H' s' /\ Q σ' H') X.xe s
noncomputable def PGs (X:Cx) (ts:List Expr) (t:TGs):Prop:=
 ∀ (pins:List (Addr × Obj)) (s:Shared) (σ:St) (H:Hp) (vs:List V) (us:List Value) (Q:St -> Hp -> Prop),Inv X pins σ H s -> Vals vs us -> t vs σ H Q ->
   wpAny (model X.prog X.w) X.A (assignInOrder ((assignEach ts X.env).map (·.2)) us) (fun _ s'=>∃ σ' H',Inv X pins σ' H' s' /\ Q σ' H') X.xe s
abbrev DF:=V -> V -> V -> Hp -> (Hp -> Prop) -> Prop
noncomputable def G0 (X:Cx) (t:DF):Prop:=
 ∀ (pins:List (Addr × Obj)) (s:Shared) (σ:St) (H:Hp) (o i v:V) (ov iv u:Value) (Q:Hp -> Prop),Inv X pins σ H s -> RelV o ov -> RelV i iv -> RelV v u -> t o i v H Q ->
   wpAny (model X.prog X.w) X.A (setItem ov iv u) (fun _ s'=>∃ H',Inv X pins σ H' s' /\ Q H') X.xe s
abbrev TIp:=V -> V -> Hp -> VK -> Prop
noncomputable def PIp (X:Cx) (op:Operator) (t:TIp):Prop:=
 ∀ (pins:List (Addr × Obj)) (s:Shared) (σ:St) (H:Hp) (x y:V) (v u:Value) (Q:VK),Inv X pins σ H s -> RelV x v -> RelV y u -> t x y H Q ->
   wpAny (model X.prog X.w) X.A (inplaceOp op v u) (EP X pins σ Q) X.xe s
section
variable {X:Cx} {pos:Pos}
noncomputable def lp (i:Nat):TG:=fun v σ H Q=>Q (σ.set i (some v)) H
theorem EB {i:Nat} {x:Str} (hN:X.N.Nodup) (hi:X.N[i]? = some x) (hx:Loc X.env.scope x) (hf:X.fn x = true \/ X.env.scope.names.lookup x = some .local:=by first | exact .inl rfl | exact .inr rfl | assumption):PG X (.Name x pos) (lp i):=by
 intro pins s σ H v u Q I r h
 exact wpAny_assign_Name (kl I hN hi hx r (fun s' I'=>⟨_,H,I',h⟩) hf)
noncomputable def Ih:TGs:=fun vs σ H Q=>vs = [] /\ Q σ H
noncomputable def zq (t:TG) (u:TGs):TGs:=fun vs σ H Q=>∃ v r,vs = v ::r /\ t v σ H fun σ' H'=>u r σ' H' Q
theorem EY:PGs X [] Ih:=by
 intro pins s σ H vs us Q I r h
 obtain ⟨e,h⟩:=h
 subst e
 cases r
 exact assignInOrder_nil ⟨σ,H,I,h⟩
theorem Cb {e:Expr} {es:List Expr} {t:TG} {u:TGs} (h1:PG X e t) (h2:PGs X es u)
  (hs:(assignEach (e ::es) X.env).map (·.2) = assign e X.env ::(assignEach es X.env).map (·.2):=by rfl):PGs X (e ::es) (zq t u):=by
 intro pins s σ H vs us Q I r h
 obtain ⟨v,vr,e1,h⟩:=h
 subst e1
 cases r with
 | cons r rr=>
   rw [hs]
   refine assignInOrder_cons (thn (h1 pins s σ H _ _ _ I r h) fun _ s1 ⟨σ1,H1,I1,q1⟩=>?_)
   exact h2 pins s1 σ1 H1 _ _ Q I1 rr q1
noncomputable def Gh (K:PySem.W.Frag) (n:Nat) (t:TGs):TG:=fun v σ H Q=>∃ a xs,v = .ref a /\ SqT K H a xs /\ xs.length = n /\ t xs σ H Q
theorem Gm {es:List Expr} {k:Nat} {t:TGs} {n:Nat} (hc:X.calm = true) (h:PGs X es t)
  (hn:(assignEach es X.env).length = n:=by rfl) (hst:(assignEach es X.env).findIdx? (·.1) = none:=by rfl):PG X (.Tuple es k pos) (Gh X.K n t):=by
 intro pins s σ H v u Q I r hw
 obtain ⟨a,xs,e1,hq,hl,hw⟩:=hw
 subst e1
 cases r
 obtain ⟨its,rv,ht,hz⟩:=I.tuple hq
 refine assign_Tuple_tuple (I.ok.hd hc) ht (by simp [hn,<- hl,rv.length]) hst fun h' hx=>?_
 have I1:Inv X pins σ H { s with heap:=h' }:=I.kept (t':=s.toks) fun b o e=>hx b o (Nat.ne_of_lt (Heap.lt_size e)) e
 exact h pins _ σ H xs _ Q I1 (by simpa using rv) hw
noncomputable def H0 (to ti:TE) (t:DF):TG:=fun v σ H Q=>to σ H fun o H1=>ti σ H1 fun i H2=>t o i v H2 fun H3=>Q σ H3
theorem Ia {o i:Expr} {to ti:TE} {t:DF} (ho:PE X o to) (hi:PE X i ti) (hs:G0 X t)
  (ha:∀ v,assign (.Subscript o i pos) X.env v = (do
    let ov <- holding [v] (eval o X.env)
    let iv <- holding [v,ov] (eval i X.env)
    standAt pos
    holding [v,ov,iv] (setItem ov iv v)
    release [v,ov,iv] []):=by intro _; rfl):PG X (.Subscript o i pos) (H0 to ti t):=by
 intro pins s σ H v u Q I r h
 rw [ha]
 refine wpAny_bind (wpAny_holding (thn (ho pins s σ H _ I h) fun ov s1 ⟨x,H1,I1,r1,q1⟩=>?_))
 refine wpAny_bind (wpAny_holding (thn (hi pins s1 σ H1 _ I1 q1) fun iv s2 ⟨y,H2,I2,r2,q2⟩=>?_))
 refine wpAny_bind (wpAny_standAt (wpAny_bind (wpAny_holding (thn (hs pins s2 σ H2 x y v ov iv u _ I2 r1 r2 r q2) fun _ s3 ⟨H3,I3,q3⟩=>?_))))
 exact wpAny_release ⟨σ,H3,I3,q3⟩
noncomputable def ur (te:TE) (g:TG):TS:=fun D σ H=>te σ H fun x H1=>g x σ H1 D.nx
theorem F6 {tg e:Expr} {te:TE} {g:TG} (he:PE X e te) (hg:PG X tg g) (hs:swapsWithSole [tg] e pos.line X.env = pure false:=by rfl) (hw:swappedStores [tg] e X.env = pure none:=by rfl)
  (h1:(assignEach [tg] X.env).map (·.2) = [assign tg X.env]:=by rfl):PS X (.Assign [tg] e pos) (ur te g):=by
 intro pins s σ H D I h
 refine wpAny_Assign_stores (thn (he pins s σ H _ I h) fun v s1 ⟨x,H1,I1,r1,q1⟩=>?_) hs hw
 rw [h1]
 exact thn (hg pins s1 σ H1 x v _ I1 r1 q1) fun _ s2 q=>q
theorem G5 {i:Nat} {x:Str} {e:Expr} {te:TE} {pos':Pos} (hN:X.N.Nodup) (hi:X.N[i]? = some x) (hx:Loc X.env.scope x) (he:PE X e te) (hs:swapsWith e (some (.Name x pos')) pos.line X.env = pure false:=by rfl) (hf:X.fn x = true \/ X.env.scope.names.lookup x = some .local:=by first | exact .inl rfl | exact .inr rfl | assumption):
  PS X (.Assign [.Name x pos'] e pos) (ur te (lp i)):=by
 intro pins s σ H D I h
 refine wpAny_Assign_Name (thn (he pins s σ H _ I h) fun v s1 ⟨y,H1,I1,r1,q1⟩=>?_) hs
 exact kl I1 hN hi hx r1 (fun s2 I2=>⟨_,H1,I2,q1⟩) hf
noncomputable def Ee (i:Nat) (te:TE) (ti:TIp):TS:=fun D σ H=>∃ x,σ[i]? = some (some x) /\ te σ H fun y H1=>ti x y H1 fun z H2=>D.nx (σ.set i (some z)) H2
theorem Hf {i:Nat} {x:Str} {e:Expr} {te:TE} {op:Operator} {ti:TIp} {pos':Pos} (hN:X.N.Nodup) (hi:X.N[i]? = some x) (hx:Loc X.env.scope x) (he:PE X e te) (ho:PIp X op ti) (hf:X.fn x = true \/ X.env.scope.names.lookup x = some .local:=by first | exact .inl rfl | exact .inr rfl | assumption):
  PS X (.AugAssign (.Name x pos') op e pos) (Ee i te ti):=by
 intro pins s σ H D I h
 obtain ⟨v,e1,h⟩:=h
 obtain ⟨m,hn,hl⟩:=I.loc
 have vis:Vis X.env.scope x:=by rcases hx with k | k; exact .inl k; exact .inr (.inl k)
 obtain ⟨u,r,l⟩:=hl i x v hi e1 vis
 refine wpAny_AugAssign_Name ?_
 have go:wpAny (model X.prog X.w) X.A (eval e X.env) (fun w s₂=>wpAny (model X.prog X.w) X.A (inplaceOp op u w) (fun r s₃=>wpAny (model X.prog X.w) X.A (storeName X.env x r) (fun _=>SP X pins D .next) X.xe s₃) X.xe s₂) X.xe s:=by
  refine thn (he pins s σ H _ I h) fun w s1 ⟨y,H1,I1,r1,q1⟩=>?_
  refine thn (ho pins s1 σ H1 v y u w _ I1 r r1 q1) fun z s2 ⟨zv,H2,I2,r2,q2⟩=>?_
  exact kl I2 hN hi hx r2 (fun s3 I3=>⟨_,H2,I3,q2⟩) hf
 rcases l with ⟨hk,hm⟩ | ⟨hk,c,hc,hcell⟩
 . exact wpAny_loadName_local I.ok.kind hk hn hm go
 . rcases hk with hk | hk
   . exact wpAny_loadName_cell I.ok.kind hk hc hcell go
   . rcases hx with k | k
     . have:X.env.scope.names.lookup x = some .free:=hk
       rw [k] at this; cases this
     . have:X.env.scope.names.lookup x = some .free:=hk
       rw [k] at this; cases this
noncomputable def ipI (f:Int -> Int -> Int):TIp:=fun x y H Q=>∃ i j,x = .int i /\ y = .int j /\ Q (.int (f i j)) H
theorem om:PIp X .Add (ipI fun i j=>i + j):=by
 intro pins s σ H x y v u Q I r1 r2 h
 obtain ⟨i,j,e1,e2,q⟩:=h
 subst e1; subst e2
 obtain ⟨t,rfl⟩:=r1
 obtain ⟨t',rfl⟩:=r2
 exact iadd_int ⟨.int _,H,I.tok _,⟨_,rfl⟩,q⟩
end
section
variable {X:Cx} {pos:Pos}
noncomputable def yH (c:TT) (tb:TS):TS:=fun D σ H=>∃ W:Nat -> St -> Hp -> Prop,(∃ m,W m σ H) /\ ∀ m σ H,W m σ H ->
 c σ H fun b H1=>if b = true then ∃ N:St -> Hp -> Prop,(∀ σ' H',N σ' H' -> ∃ m',m' < m /\ W m' σ' H') /\ tb { D with nx:=N,ct:=N,bk:=D.nx } σ H1 else D.nx σ H1
theorem Cn {c:Expr} {body:List Stmt} {tc:TT} {tb:TS} (hp:PassesOwn (model X.prog X.w) X.A X.env X.xe) (hc:PT X c tc) (hb:PSs X body tb):PS X (.While c body [] pos) (yH tc tb):=by
 intro pins s σ H D I h
 obtain ⟨W,⟨m0,w0⟩,turn⟩:=h
 refine wpAny_While (codeAny_whileLoop (fun n s'=>∃ σ' H',Inv X pins σ' H' s' /\ W n σ' H') ?_ m0 ⟨σ,H,I,w0⟩)
 rintro n s1 ⟨σ1,H1,I1,w1⟩
 refine wpAny_passesOwn hp (thn (hc pins s1 σ1 H1 _ I1 (turn n σ1 H1 w1)) fun b s2 ⟨H2,I2,q2⟩=>?_)
 cases b with
 | true=>
   obtain ⟨N,hN,q2⟩:=q2
   rw [if_pos rfl]
   refine wpAny_passesOwn hp (thn (hb pins s2 σ1 H2 _ I2 q2) fun f s3 q3=>?_)
   cases f with
   | next=>
     obtain ⟨σ3,H3,I3,n3⟩:=q3
     obtain ⟨m',hm,w3⟩:=hN σ3 H3 n3
     exact ⟨m',hm,σ3,H3,I3,w3⟩
   | cont=>
     obtain ⟨σ3,H3,I3,n3⟩:=q3
     obtain ⟨m',hm,w3⟩:=hN σ3 H3 n3
     exact ⟨m',hm,σ3,H3,I3,w3⟩
   | brk=>exact q3
   | ret v=>exact q3
 | false=>
   rw [if_neg Bool.false_ne_true]
   exact wpAny_execs_nil ⟨σ1,H2,I2,q2⟩
end
structure It where
 go:Nat -> Hp -> Prop
 yld:Nat -> Hp -> V -> Hp -> Prop
 stop:Nat -> Hp -> Prop
noncomputable def oO (X:Cx) (pins:List (Addr × Obj)) (H:Hp) (b:Addr):Prop:=
 H b = none /\ b ≠ X.env.locals /\ b ∉ X.fs /\ (b ∈ X.ex \/ X.s₀.heap.objs.size <= b) /\ (∀ x c,X.env.cells.lookup x = some c -> c ≠ b) /\ ∀ p ∈ X.pn ++ pins,p.1 ≠ b
theorem Inv.B7 {X:Cx} {pins:List (Addr × Obj)} {σ:St} {H H':Hp} {s:Shared} {b:Addr} (I:Inv X pins σ H s) (hb:s.heap.objs.size <= b) (hn:H' b = none):oO X pins H' b:=by
 refine ⟨hn,Nat.ne_of_gt (Nat.lt_of_lt_of_le I.lt hb),I.KH hb,.inr (Nat.le_trans I.sz hb),fun x c e z=>?_,fun p hp z=>?_⟩
 . obtain ⟨v,q⟩:=I.cell x c e
   exact absurd (Nat.lt_of_lt_of_le q.lt (by rw [z]; exact hb)) (Nat.lt_irrefl _)
 . exact absurd (Nat.lt_of_lt_of_le (Heap.lt_size (I.pin p hp).1) (by rw [z]; exact hb)) (Nat.lt_irrefl _)
structure Turn (P:Program) (w:World) (K:PySem.W.Frag) (tg:Expr) (J:It) (fp:List Addr) (it:Addr) (tn:Nat -> Heap -> Prop):Prop where
 mem:it ∈ fp
 obj:∀ i h,tn i h -> ∀ b ∈ fp,∃ o,h.get? b = some o /\ ∀ v,o.data ≠ .cell v
 keep:∀ i h h',tn i h -> (∀ b ∈ fp,∀ o,h.get? b = some o -> h'.get? b = some o) -> tn i h'
 item:∀ (X:Cx),X.prog = P -> X.w = w -> X.K = K -> X.calm = true -> ∀ (i:Nat) (pins:List (Addr × Obj)) (s:Shared) (σ:St) (H:Hp) (E:Value -> Shared -> Prop),Inv X pins σ H s -> (∀ b ∈ fp,oO X pins H b) -> tn i s.heap -> J.go i H ->
  wpAny (model P w) X.A (pyNext (.ref it)) (fun r s1=>∃ u,r = some u /\
   wpAny (model P w) X.A (letOwnedTupleGo tg (.ref it) u) (fun _ s2=>∃ x H',Inv X pins σ H' s2 /\ RelV x u /\ J.yld i H x H' /\ tn (i + 1) s2.heap /\ ∀ b ∈ fp,H' b = none) E s1) E s
 done:∀ (X:Cx),X.prog = P -> X.w = w -> X.K = K -> X.calm = true -> ∀ (i:Nat) (pins:List (Addr × Obj)) (s:Shared) (σ:St) (H:Hp) (E:Value -> Shared -> Prop),Inv X pins σ H s -> (∀ b ∈ fp,oO X pins H b) -> tn i s.heap -> J.stop i H ->
  wpAny (model P w) X.A (pyNext (.ref it)) (fun r s1=>r = none /\ Inv X pins σ H s1) E s
 self:∀ (A:Around) (i:Nat) (s:Shared) (Q:Value -> Shared -> Prop) (E:Value -> Shared -> Prop),tn i s.heap -> Q (.ref it) s -> wpAny (model P w) A (pyIter (.ref it)) Q E s
abbrev TI:=St -> Hp -> (It -> Hp -> Prop) -> Prop
noncomputable def PIE (X:Cx) (pins:List (Addr × Obj)) (σ:St) (tg:Expr) (R:It -> Hp -> Prop) (itv:Value) (s2:Shared):Prop:=
 ∃ (it:Addr) (fp:List Addr) (tn:Nat -> Heap -> Prop) (J:It) (H':Hp),itv = .ref it /\ Inv X pins σ H' s2 /\ Turn X.prog X.w X.K tg J fp it tn /\ tn 0 s2.heap /\ (∀ b ∈ fp,oO X pins H' b) /\ R J H'
noncomputable def PI (X:Cx) (tg iter:Expr) (wi:TI):Prop:=
 ∀ (pins:List (Addr × Obj)) (s:Shared) (σ:St) (H:Hp) (R:It -> Hp -> Prop),Inv X pins σ H s -> wi σ H R ->
   wpAny (model X.prog X.w) X.A (eval iter X.env) (fun v s1=>wpAny (model X.prog X.w) X.A (pyIter v) (PIE X pins σ tg R) X.xe s1) X.xe s
theorem Dd {M:Model} {A:Around} {E:Value -> Shared -> Prop} {s:Shared} {tg:Expr} {it:Addr} {u:Value} {o:Obj} {n:String} {vs:Array Value} {Q:Unit -> Shared -> Prop} (ho:s.heap.get? it = some o) (hc:o.cls = .type n) (hd:o.data = .fields vs)
  (hn:["enumerate","zip","dict_itemiterator","dict_reverseitemiterator","odict_iterator","itertools.zip_longest","itertools.pairwise"].contains n = false) (hQ:Q () s):wpAny M A (letOwnedTupleGo tg (.ref it) u) Q E s:=by
 unfold letOwnedTupleGo
 cases tg <;> first
  | exact wpAny_pure hQ
  | (cases u <;> first
      | exact wpAny_pure hQ
      | (refine wpAny_bind (wpAny_load ho ?_)
         rw [hc,hd]
         show wpAny M A (if (["enumerate","zip","dict_itemiterator","dict_reverseitemiterator","odict_iterator","itertools.zip_longest","itertools.pairwise"].contains n && vs[0]? == some (rawInt _)) = true then _ else _) Q E s
         rw [if_neg (by intro h; rw [hn,Bool.false_and] at h; cases h)]
         exact wpAny_pure hQ))
noncomputable def Itl (K:PySem.W.Frag) (a:Addr):It:=
 ⟨fun i H=>∃ xs x,SqL K H a xs /\ xs[i]? = some x,fun i H x H'=>H' = H /\ ∀ xs,SqL K H a xs -> xs[i]? = some x,fun i H=>∃ xs,SqL K H a xs /\ xs.length <= i⟩
noncomputable def Itt (K:PySem.W.Frag) (a:Addr):It:=
 ⟨fun i H=>∃ xs x,SqT K H a xs /\ xs[i]? = some x,fun i H x H'=>H' = H /\ ∀ xs,SqT K H a xs -> xs[i]? = some x,fun i H=>∃ xs,SqT K H a xs /\ xs.length <= i⟩
noncomputable def Itr (lo:Int) (n:Nat):It:=⟨fun i _=>i < n,fun i H x H'=>H' = H /\ x = .int (lo + i),fun i _=>n <= i⟩
theorem Ay {P:Program} {w:World} {K:PySem.W.Frag} {tg:Expr} (a it:Addr):Turn P w K tg (Itl K a) [it] it (fun i h=>h.IsListIter it a i) where
 mem:=by simp
 obj:=fun i h st b hb=>by
  have e:b = it:=by simpa using hb
  subst e
  obtain ⟨o,e,c,d⟩:=st
  exact ⟨o,e,fun v z=>by rw [d] at z; cases z⟩
 keep:=fun i h h' st k=>st.at fun o e=>k it (by simp) o e
 item:=by
  intro X hP hw hK hc i pins s σ H E I hf st hg
  subst hP hw hK
  obtain ⟨xs,x,hq,hx⟩:=hg
  obtain ⟨its,rv,p,hz⟩:=I.list hq
  obtain ⟨u,hu,ru⟩:=rv.get hx
  obtain ⟨f0,f1,f2,f3,f4,f5⟩:=hf it (by simp)
  refine wpAny_pyNext_list_item st p.isList (x:=u) (by simpa using hu) fun h' st' sb=>?_
  have I1:Inv X pins σ H { s with heap:=h' }:=I.turned (t':=s.toks) (fun b o hb e=>(sb.2 b hb).trans e) f0 f1 f3 f4 f5
  obtain ⟨o,e,c,d⟩:=id st'
  exact ⟨u,rfl,Dd (s:={ s with heap:=h' }) e c d (by decide) ⟨x,H,I1,ru,⟨rfl,fun ys hy=>by rw [I.wN hy hq]; exact hx⟩,st',fun b hb=>(hf b hb).1⟩⟩
 done:=by
  intro X hP hw hK hc i pins s σ H E I hf st hg
  subst hP hw hK
  obtain ⟨xs,hq,hx⟩:=hg
  obtain ⟨its,rv,p,hz⟩:=I.list hq
  obtain ⟨f0,f1,f2,f3,f4,f5⟩:=hf it (by simp)
  have hl:=rv.length
  exact wpAny_pyNext_list_end (I.ok.hd hc) st p.isList (by simp; omega) fun h' eb=>⟨rfl,I.turned (t':=s.toks) (fun b o hb e=>eb b o hb e) f0 f1 f3 f4 f5⟩
 self:=fun _ _ _ _ _ st h=>wpAny_pyIter_listiter st h
theorem yU {P:Program} {w:World} {K:PySem.W.Frag} {tg:Expr} (a it:Addr):Turn P w K tg (Itt K a) [it] it (fun i h=>h.IsTupleIter it a i) where
 mem:=by simp
 obj:=fun i h st b hb=>by
  have e:b = it:=by simpa using hb
  subst e
  obtain ⟨o,e,c,d⟩:=st
  exact ⟨o,e,fun v z=>by rw [d] at z; cases z⟩
 keep:=fun i h h' st k=>st.at fun o e=>k it (by simp) o e
 item:=by
  intro X hP hw hK hc i pins s σ H E I hf st hg
  subst hP hw hK
  obtain ⟨xs,x,hq,hx⟩:=hg
  obtain ⟨its,rv,p,hz⟩:=I.tuple hq
  obtain ⟨u,hu,ru⟩:=rv.get hx
  obtain ⟨f0,f1,f2,f3,f4,f5⟩:=hf it (by simp)
  refine wpAny_pyNext_tuple_item st (show s.heap.IsTuple a its.toArray from p) (x:=u) (by simpa using hu) fun h' st' sb=>?_
  have I1:Inv X pins σ H { s with heap:=h' }:=I.turned (t':=s.toks) (fun b o hb e=>(sb.2 b hb).trans e) f0 f1 f3 f4 f5
  obtain ⟨o,e,c,d⟩:=id st'
  exact ⟨u,rfl,Dd (s:={ s with heap:=h' }) e c d (by decide) ⟨x,H,I1,ru,⟨rfl,fun ys hy=>by rw [I.Bb hy hq]; exact hx⟩,st',fun b hb=>(hf b hb).1⟩⟩
 done:=by
  intro X hP hw hK hc i pins s σ H E I hf st hg
  subst hP hw hK
  obtain ⟨xs,hq,hx⟩:=hg
  obtain ⟨its,rv,p,hz⟩:=I.tuple hq
  obtain ⟨f0,f1,f2,f3,f4,f5⟩:=hf it (by simp)
  have hl:=rv.length
  exact wpAny_pyNext_tuple_end (I.ok.hd hc) st (show s.heap.IsTuple a its.toArray from p) (by simp; omega) fun h' eb=>⟨rfl,I.turned (t':=s.toks) (fun b o hb e=>eb b o hb e) f0 f1 f3 f4 f5⟩
 self:=fun _ _ _ _ _ st h=>wpAny_pyIter_tupleiter st h
theorem y9 {P:Program} {w:World} {K:PySem.W.Frag} {tg:Expr} (it:Addr) (lo:Int) (n:Nat):Turn P w K tg (Itr lo n) [it] it (fun i h=>IsRangeIter h it (lo + (i:Nat) * 1) ((n:Int) - (i:Nat)) 1) where
 mem:=by simp
 obj:=fun i h st b hb=>by
  have e:b = it:=by simpa using hb
  subst e
  exact ⟨_,st,fun v z=>by
   have z':Data.fields _ = Data.cell v:=z
   cases z'⟩
 keep:=fun i h h' st k=>k it (by simp) _ st
 item:=by
  intro X hP hw hK hc i pins s σ H E I hf st hg
  subst hP hw hK
  obtain ⟨f0,f1,f2,f3,f4,f5⟩:=hf it (by simp)
  have W:=Walks.range (prog:=X.prog) (w:=X.w) (I.ok.hd hc) it lo 1 n
  refine W.item i s _ _ hg st fun v h' tk hv st' kk=>?_
  obtain ⟨t,rfl⟩:=hv
  have I1:Inv X pins σ H { s with heap:=h',toks:=tk }:=I.turned (fun b o hb e=>kk b o (by simpa using hb) e) f0 f1 f3 f4 f5
  refine ⟨_,rfl,Dd (s:={ s with heap:=h',toks:=tk }) (n:="range_iterator") st' rfl rfl (by decide) ⟨.int (lo + i),H,I1,⟨t,?_⟩,⟨rfl,rfl⟩,st',fun b hb=>(hf b hb).1⟩⟩
  rw [Int.mul_one]
 done:=by
  intro X hP hw hK hc i pins s σ H E I hf st hg
  subst hP hw hK
  obtain ⟨f0,f1,f2,f3,f4,f5⟩:=hf it (by simp)
  exact wpAny_pyNext_range_end (I.ok.hd hc) st (by have:n <= i:=hg; omega) fun h' eb=>⟨rfl,I.turned (t':=s.toks) (fun b o hb e=>eb b o hb e) f0 f1 f3 f4 f5⟩
 self:=fun _ _ _ _ _ st h=>wpAny_pyIter_rangeiter st h
end L2
namespace L2
open PySem PySem.Spec PyProof.Rows
section
variable {X:Cx} {tg:Expr}
noncomputable def xk (K:PySem.W.Frag) (tl:TE):TI:=fun σ H R=>tl σ H fun x H1=>∃ a,x = .ref a /\ (∃ xs,SqL K H1 a xs) /\ R (Itl K a) H1
noncomputable def HQ (K:PySem.W.Frag) (tl:TE):TI:=fun σ H R=>tl σ H fun x H1=>∃ a,x = .ref a /\ (∃ xs,SqT K H1 a xs) /\ R (Itt K a) H1
theorem Eo {l:Expr} {tl:TE} (hl:PE X l tl):PI X tg l (xk X.K tl):=by
 intro pins s σ H R I h
 refine thn (hl pins s σ H _ I h) fun v s1 ⟨x,H1,I1,r1,q1⟩=>?_
 obtain ⟨a,e,⟨xs,hq⟩,q⟩:=q1
 subst e
 cases r1
 obtain ⟨its,rv,p,hz⟩:=I1.list hq
 refine wpAny_pyIter_list p.isList ?_
 refine ⟨s1.heap.objs.size,[s1.heap.objs.size],_,_,H1,rfl,I1.kept (t':=s1.toks) fun b o e=>Heap.get?_push_of_some _ e,Ay a _,⟨_,Heap.get?_push_size _ rfl,rfl,rfl⟩,fun b hb=>?_,q⟩
 have e:b = s1.heap.objs.size:=by simpa using hb
 subst e
 exact I1.B7 (Nat.le_refl _) (I1.hok.fresh (Nat.le_refl _))
theorem Hh {l:Expr} {tl:TE} (hl:PE X l tl):PI X tg l (HQ X.K tl):=by
 intro pins s σ H R I h
 refine thn (hl pins s σ H _ I h) fun v s1 ⟨x,H1,I1,r1,q1⟩=>?_
 obtain ⟨a,e,⟨xs,hq⟩,q⟩:=q1
 subst e
 cases r1
 obtain ⟨its,rv,p,hz⟩:=I1.tuple hq
 refine wpAny_pyIter_tuple (show s1.heap.IsTuple a its.toArray from p) ?_
 refine ⟨s1.heap.objs.size,[s1.heap.objs.size],_,_,H1,rfl,I1.kept (t':=s1.toks) fun b o e=>Heap.get?_push_of_some _ e,yU a _,⟨_,Heap.get?_push_size _ rfl,rfl,rfl⟩,fun b hb=>?_,q⟩
 have e:b = s1.heap.objs.size:=by simpa using hb
 subst e
 exact I1.B7 (Nat.le_refl _) (I1.hok.fresh (Nat.le_refl _))
theorem Cp {pins:List (Addr × Obj)} {σ:St} {H:Hp} {s:Shared} {R:It -> Hp -> Prop} {E:Value -> Shared -> Prop} {lo hi:Int} {t u v:Tok} {tk:Nat} (I:Inv X pins σ H s) (h1:-(2 ^ 62) <= lo) (h2:lo < 2 ^ 62) (h3:-(2 ^ 62) <= hi) (h4:hi < 2 ^ 62)
  (q:R (Itr lo (hi - lo).toNat) H):wpAny (model X.prog X.w) X.A (pyIter (.ref s.heap.objs.size)) (PIE X pins σ tg R) E { s with heap:=s.heap.push { cls:=.type "range",data:=.fields #[.int lo t,.int hi u,.int 1 v] },toks:=tk }:=by
 refine wpAny_pyIter_range (IsRange.new ..) (small_one h1 h2 h3 h4) ?_
 have I1:Inv X pins σ H { s with heap:=s.heap.push { cls:=.type "range",data:=.fields #[.int lo t,.int hi u,.int 1 v] },toks:=tk }:=I.kept fun b o e=>Heap.get?_push_of_some _ e
 refine ⟨(s.heap.push { cls:=.type "range",data:=.fields #[.int lo t,.int hi u,.int 1 v] }).objs.size,[(s.heap.push { cls:=.type "range",data:=.fields #[.int lo t,.int hi u,.int 1 v] }).objs.size],_,_,H,rfl,
  I1.kept (t':=tk) fun b o e=>Heap.get?_push_of_some _ e,y9 _ lo (hi - lo).toNat,?_,fun b hb=>?_,q⟩
 . have e1:lo + ((0:Nat):Int) * 1 = lo:=by simp
   have e2:(((hi - lo).toNat:Nat):Int) - ((0:Nat):Int) = Builtin.Range.rangeSize lo hi 1:=by rw [rangeSize_one]; split <;> omega
   show IsRangeIter _ _ (lo + ((0:Nat):Int) * 1) ((((hi - lo).toNat:Nat):Int) - ((0:Nat):Int)) 1
   rw [e1,e2]
   exact Heap.get?_push_size _ rfl
 . have e:b = (s.heap.push { cls:=.type "range",data:=.fields #[.int lo t,.int hi u,.int 1 v] }).objs.size:=by simpa using hb
   subst e
   exact I1.B7 (Nat.le_refl _) (I1.hok.fresh (Nat.le_refl _))
noncomputable def zM (ta:TA):TI:=fun σ H R=>ta σ H fun vs H1=>∃ j:Int,vs = [.int j] /\ -(2 ^ 62) <= j /\ j < 2 ^ 62 /\ R (Itr 0 j.toNat) H1
theorem AJ {a:Expr} {ta:TA} {p pos:Pos} (hg:Gl X "range") (hm:X.mg "range" = none) (ha:PA X [a] ta) (hs:starEach [a] X.env = [(false,eval a X.env)]:=by rfl):PI X tg (.Call (.Name "range" p) [a] [] pos) (zM ta):=by
 intro pins s σ H R I h
 refine Call_ (tL I hg hm boot_range (PyProof.Rows.callWith_type1 (thn (ha pos pins s σ H _ I h) fun us s1 ⟨vs,H1,I1,r1,q1⟩=>?_) hs rfl))
 obtain ⟨j,e,q1,q2,q⟩:=q1
 subst e
 cases r1 with
 | cons r rr=>
   cases rr
   obtain ⟨t,rfl⟩:=r
   exact call_range_1 (Cp I1 (by omega) (by omega) q1 q2 (by simpa using q))
noncomputable def Cj (wi:TI) (g:TG) (tb:TS):TS:=fun D σ H=>wi σ H fun J H1=>∃ W:Nat -> Nat -> St -> Hp -> Prop,(∃ m,W 0 m σ H1) /\ ∀ i m σ H,W i m σ H ->
 (J.stop i H /\ D.nx σ H) \/ (J.go i H /\ ∃ N:St -> Hp -> Prop,(∀ σ' H',N σ' H' -> ∃ m',m' < m /\ W (i + 1) m' σ' H') /\ ∀ x H',J.yld i H x H' -> g x σ H' fun σ2 H2=>tb { D with nx:=N,ct:=N,bk:=D.nx } σ2 H2)
noncomputable def vi (fp:List Addr) (h:Heap):List (Addr × Obj):=fp.filterMap fun b=>(h.get? b).map fun o=>(b,o)
theorem fm {fp:List Addr} {h:Heap} {b:Addr} {o:Obj} (hb:b ∈ fp) (e:h.get? b = some o):(b,o) ∈ vi fp h:=List.mem_filterMap.mpr ⟨b,hb,by rw [e]; rfl⟩
theorem A0 {fp:List Addr} {h:Heap} {p:Addr × Obj} (hp:p ∈ vi fp h):p.1 ∈ fp /\ h.get? p.1 = some p.2:=by
 obtain ⟨b,hb,e⟩:=List.mem_filterMap.mp hp
 cases q:h.get? b with
 | none=>rw [q] at e; cases e
 | some o=>
   rw [q] at e
   have e':(b,o) = p:=Option.some.inj e
   subst e'
   exact ⟨hb,q⟩
theorem Inv.pinned {pins:List (Addr × Obj)} {σ:St} {H:Hp} {s:Shared} {fp:List Addr} (I:Inv X pins σ H s) (hf:∀ b ∈ fp,oO X pins H b) (ho:∀ b ∈ fp,∃ o,s.heap.get? b = some o /\ ∀ v,o.data ≠ .cell v):Inv X (pins ++ vi fp s.heap) σ H s:=
 I.Ab fun p hp=>(List.mem_append.mp hp).elim (fun z=>I.pin p (List.mem_append_right _ z)) fun z=>by
  obtain ⟨hb,e⟩:=A0 z
  obtain ⟨f0,f1,f2,_⟩:=hf p.1 hb
  obtain ⟨o,e',d⟩:=ho p.1 hb
  rw [e] at e'; cases e'
  exact ⟨e,f0,f1,f2,d⟩
theorem Inv.ki {pins pl:List (Addr × Obj)} {σ:St} {H:Hp} {s:Shared} (I:Inv X (pins ++ pl) σ H s):Inv X pins σ H s:=I.Ab fun p hp=>I.pin p (List.mem_append_right _ (List.mem_append_left _ hp))
theorem GC {iter:Expr} {body:List Stmt} {wi:TI} {g:TG} {tb:TS} {pos:Pos} (hp:PassesOwn (model X.prog X.w) X.A X.env X.xe) (hc:X.calm = true) (hi:PI X tg iter wi) (hg:PG X tg g) (hb:PSs X body tb)
  (hs:∀ x,foldedSetIterable iter X.env x = pure x:=by intro _; rfl):PS X (.For tg iter body [] pos) (Cj wi g tb):=by
 intro pins s σ H D I h
 refine wpAny_For (thn (hi pins s σ H _ I h) fun v s1 h1=>thn h1 fun itv s2 h2=>?_) hs
 obtain ⟨it,fp,tn,J,H2,e,I2,T,st2,f2,W,⟨m0,w0⟩,turn⟩:=h2
 subst e
 have stat:∀ {H':Hp},(∀ b ∈ fp,H' b = none) -> ∀ b ∈ fp,oO X pins H' b:=fun hn b hb=>⟨hn b hb,(f2 b hb).2⟩
 refine codeAny_forLoop_any (fun n s'=>∃ i σ' H',Inv X pins σ' H' s' /\ tn i s'.heap /\ (∀ b ∈ fp,H' b = none) /\ W i n σ' H') ?_ m0 ⟨0,σ,H2,I2,st2,fun b hb=>(f2 b hb).1,w0⟩
 rintro n s3 ⟨i,σ3,H3,I3,st3,fr3,w3⟩
 rcases turn i n σ3 H3 w3 with ⟨stop,qn⟩ | ⟨go,N,hN,step⟩
 . refine wpAny_passesOwn hp (thn (T.done X rfl rfl rfl hc i pins s3 σ3 H3 X.xe I3 (stat fr3) st3 stop) fun r s4 ⟨hr,I4⟩=>?_)
   subst hr
   exact wpAny_execs_nil ⟨σ3,H3,I4,qn⟩
 . refine wpAny_passesOwn hp (thn (T.item X rfl rfl rfl hc i pins s3 σ3 H3 X.xe I3 (stat fr3) st3 go) fun r s4 ⟨u,hr,h4⟩=>?_)
   subst hr
   refine wpAny_passesOwn hp (thn h4 fun _ s5 ⟨x,H5,I5,r5,y5,st5,fr5⟩=>?_)
   have I5':=I5.pinned (stat fr5) (T.obj _ _ st5)
   refine wpAny_passesOwn hp (thn (hg _ s5 σ3 H5 x u _ I5' r5 (step x H5 y5)) fun _ s6 ⟨σ6,H6,I6,q6⟩=>?_)
   refine wpAny_passesOwn hp (thn (hb _ s6 σ6 H6 _ I6 q6) fun f s7 q7=>?_)
   have again:∀ {σ7:St} {H7:Hp},Inv X (pins ++ vi fp s5.heap) σ7 H7 s7 -> N σ7 H7 -> ∃ m,m < n /\ ∃ i σ' H',Inv X pins σ' H' s7 /\ tn i s7.heap /\ (∀ b ∈ fp,H' b = none) /\ W i m σ' H':=fun {σ7 H7} I7 n7=>by
    obtain ⟨m',hm,w7⟩:=hN σ7 H7 n7
    refine ⟨m',hm,i + 1,σ7,H7,I7.ki,T.keep _ _ _ st5 fun b hb o e=>(I7.pin (b,o) (List.mem_append_right _ (List.mem_append_right _ (fm hb e)))).1,fun b hb=>?_,w7⟩
    obtain ⟨o,e,d⟩:=T.obj _ _ st5 b hb
    exact (I7.pin (b,o) (List.mem_append_right _ (List.mem_append_right _ (fm hb e)))).2.1
   cases f with
   | next=>obtain ⟨σ7,H7,I7,n7⟩:=q7; exact again I7 n7
   | cont=>obtain ⟨σ7,H7,I7,n7⟩:=q7; exact again I7 n7
   | brk=>obtain ⟨σ7,H7,I7,q7⟩:=q7; exact ⟨σ7,H7,I7.ki,q7⟩
   | ret v=>obtain ⟨x7,σ7,H7,I7,r7,q7⟩:=q7; exact ⟨x7,σ7,H7,I7.ki,r7,q7⟩
end
theorem B5 {K:PySem.W.Frag} {a:Addr} {xs:List V} {g:TG} {tb:TS} {D:Ends} {σ:St} {H:Hp} (Pv:Nat -> St -> Hp -> Prop) (h0:Pv 0 σ H) (hl:∀ i σ H,i <= xs.length -> Pv i σ H -> SqL K H a xs)
  (hs:∀ i x σ H,xs[i]? = some x -> Pv i σ H -> g x σ H fun σ2 H2=>tb { D with nx:=Pv (i + 1),ct:=Pv (i + 1),bk:=D.nx } σ2 H2) (hd:∀ σ H,Pv xs.length σ H -> D.nx σ H):
  ∃ W:Nat -> Nat -> St -> Hp -> Prop,(∃ m,W 0 m σ H) /\ ∀ i m σ H,W i m σ H ->
    ((Itl K a).stop i H /\ D.nx σ H) \/ ((Itl K a).go i H /\ ∃ N:St -> Hp -> Prop,(∀ σ' H',N σ' H' -> ∃ m',m' < m /\ W (i + 1) m' σ' H') /\ ∀ x H',(Itl K a).yld i H x H' -> g x σ H' fun σ2 H2=>tb { D with nx:=N,ct:=N,bk:=D.nx } σ2 H2):=by
 refine ⟨fun i m σ H=>m = xs.length - i /\ i <= xs.length /\ Pv i σ H,⟨xs.length,by simp,Nat.zero_le _,h0⟩,?_⟩
 rintro i m σ H ⟨rfl,hi,p⟩
 have q:=hl i σ H hi p
 by_cases hlt:i < xs.length
 . refine .inr ⟨⟨xs,xs[i],q,by simp [hlt]⟩,Pv (i + 1),fun σ' H' p'=>⟨xs.length - (i + 1),by omega,rfl,hlt,p'⟩,fun x H' y=>?_⟩
   obtain ⟨e,y⟩:=y
   subst e
   exact hs i x σ _ (y xs q) p
 . have e:i = xs.length:=by omega
   subst e
   exact .inl ⟨⟨xs,q,Nat.le_refl _⟩,hd σ H p⟩
theorem Ak {lo:Int} {n:Nat} {g:TG} {tb:TS} {D:Ends} {σ:St} {H:Hp} (Pv:Nat -> St -> Hp -> Prop) (h0:Pv 0 σ H)
  (hs:∀ i σ H,i < n -> Pv i σ H -> g (.int (lo + i)) σ H fun σ2 H2=>tb { D with nx:=Pv (i + 1),ct:=Pv (i + 1),bk:=D.nx } σ2 H2) (hd:∀ σ H,Pv n σ H -> D.nx σ H):
  ∃ W:Nat -> Nat -> St -> Hp -> Prop,(∃ m,W 0 m σ H) /\ ∀ i m σ H,W i m σ H ->
    ((Itr lo n).stop i H /\ D.nx σ H) \/ ((Itr lo n).go i H /\ ∃ N:St -> Hp -> Prop,(∀ σ' H',N σ' H' -> ∃ m',m' < m /\ W (i + 1) m' σ' H') /\ ∀ x H',(Itr lo n).yld i H x H' -> g x σ H' fun σ2 H2=>tb { D with nx:=N,ct:=N,bk:=D.nx } σ2 H2):=by
 refine ⟨fun i m σ H=>m = n - i /\ i <= n /\ Pv i σ H,⟨n,by simp,Nat.zero_le _,h0⟩,?_⟩
 rintro i m σ H ⟨rfl,hi,p⟩
 by_cases hlt:i < n
 . refine .inr ⟨hlt,Pv (i + 1),fun σ' H' p'=>⟨n - (i + 1),by omega,rfl,hlt,p'⟩,fun x H' y=>?_⟩
   obtain ⟨e,y⟩:=y
   subst e y
   exact hs i σ _ hlt p
 . have e:i = n:=by omega
   subst e
   exact .inl ⟨Nat.le_refl _,hd σ H p⟩
end L2
namespace L2
open PySem PySem.Spec PyProof.Rows
abbrev R2:=V -> V -> Hp -> VK -> Prop
noncomputable def OpR (X:Cx) (f:Value -> Value -> Sem Value) (r:R2):Prop:=
 ∀ (pins:List (Addr × Obj)) (s:Shared) (σ:St) (H:Hp) (x y:V) (v u:Value) (Q:VK),Inv X pins σ H s -> RelV x v -> RelV y u -> r x y H Q ->
   wpAny (model X.prog X.w) X.A (f v u) (EP X pins σ Q) X.xe s
noncomputable def UnR (X:Cx) (f:Value -> Sem Value) (r:V -> Hp -> VK -> Prop):Prop:=
 ∀ (pins:List (Addr × Obj)) (s:Shared) (σ:St) (H:Hp) (x:V) (v:Value) (Q:VK),Inv X pins σ H s -> RelV x v -> r x H Q ->
   wpAny (model X.prog X.w) X.A (f v) (EP X pins σ Q) X.xe s
noncomputable def o3 (X:Cx) (f:Value) (r:List V -> Hp -> VK -> Prop):Prop:=
 ∀ (pins:List (Addr × Obj)) (s:Shared) (σ:St) (H:Hp) (xs:List V) (us:List Value) (Q:VK),Inv X pins σ H s -> Vals xs us -> r xs H Q ->
   wpAny (model X.prog X.w) X.A (call f us) (EP X pins σ Q) X.xe s
noncomputable def KD (X:Cx) (r:V -> Hp -> (Bool -> Hp -> Prop) -> Prop):Prop:=
 ∀ (pins:List (Addr × Obj)) (s:Shared) (σ:St) (H:Hp) (x:V) (v:Value) (Q:Bool -> Hp -> Prop),Inv X pins σ H s -> RelV x v -> r x H Q ->
   wpAny (model X.prog X.w) X.A (truthy v) (TP X pins σ Q) X.xe s
noncomputable def tOp (r:R2) (ta tb:TE):TE:=fun σ H Q=>ta σ H fun x H1=>tb σ H1 fun y H2=>r x y H2 Q
noncomputable def tUn (r:V -> Hp -> VK -> Prop) (ta:TE):TE:=fun σ H Q=>ta σ H fun x H1=>r x H1 Q
noncomputable def rI (C:Int -> Int -> Prop) (g:Int -> Int -> V):R2:=fun x y H Q=>∃ i j,x = .int i /\ y = .int j /\ C i j /\ Q (g i j) H
noncomputable def rI0 (g:Int -> Int -> V):R2:=fun x y H Q=>∃ i j,x = .int i /\ y = .int j /\ Q (g i j) H
noncomputable def rU (g:Int -> V):V -> Hp -> VK -> Prop:=fun x H Q=>∃ i,x = .int i /\ Q (g i) H
section
variable {X:Cx} {a b c:Expr} {ta tb tc:TE} {pos:Pos}
theorem Hr (ha:PE X a ta) (hb:PE X b tb) {pins:List (Addr × Obj)} {s:Shared} {σ:St} {H:Hp} {R:V -> V -> Hp -> Prop} (I:Inv X pins σ H s)
  (h:ta σ H fun x H1=>tb σ H1 fun y H2=>R x y H2) {Q:Value -> Shared -> Prop} {f:Value -> Value -> Sem Value}
  (hf:∀ v u s2 x y H2,Inv X pins σ H2 s2 -> RelV x v -> RelV y u -> R x y H2 -> wpAny (model X.prog X.w) X.A (f v u) Q X.xe s2):
  wpAny (model X.prog X.w) X.A (eval a X.env) (fun v s₁=>wpAny (model X.prog X.w) X.A (eval b X.env) (fun u s₂=>wpAny (model X.prog X.w) X.A (f v u) Q X.xe s₂) X.xe s₁) X.xe s:=by
 refine thn (ha pins s σ H _ I h) fun v s1 ⟨x,H1,I1,r1,q1⟩=>?_
 refine thn (hb pins s1 σ H1 _ I1 q1) fun u s2 ⟨y,H2,I2,r2,q2⟩=>?_
 exact hf v u s2 x y H2 I2 r1 r2 q2
theorem JI {op:Operator} {r:R2} (ho:OpR X (binaryOp op) r) (ha:PE X a ta) (hb:PE X b tb):PE X (.BinOp a op b pos) (tOp r ta tb):=by
 intro pins s σ H Q I h
 exact wpAny_BinOp (Hr ha hb I h fun v u s2 x y H2 I2 rx ry q=>ho pins s2 σ H2 x y v u Q I2 rx ry q)
theorem IZ {op:UnaryOp} {r:V -> Hp -> VK -> Prop} (ho:UnR X (unaryOp op) r) (ha:PE X a ta):PE X (.UnaryOp op a pos) (tUn r ta):=by
 intro pins s σ H Q I h
 exact UnaryOp_ (thn (ha pins s σ H _ I h) fun v s1 ⟨x,H1,I1,r1,q1⟩=>ho pins s1 σ H1 x v Q I1 r1 q1)
theorem opI {f:Value -> Value -> Sem Value} {C:Int -> Int -> Prop} {g:Int -> Int -> Int}
  (rule:∀ (i j:Int) (t u:Tok) (s:Shared) (Q:Value -> Shared -> Prop) (E:Value -> Shared -> Prop),C i j -> Q (.int (g i j) s.toks) { s with toks:=s.toks + 1 } -> wpAny (model X.prog X.w) X.A (f (.int i t) (.int j u)) Q E s):
  OpR X f (rI C fun i j=>.int (g i j)):=by
 intro pins s σ H x y v u Q I rx ry h
 obtain ⟨i,j,rfl,rfl,hc,q⟩:=h
 obtain ⟨t,rfl⟩:=rx
 obtain ⟨t',rfl⟩:=ry
 exact rule i j t t' s _ _ hc ⟨.int (g i j),H,I.tok _,⟨_,rfl⟩,q⟩
theorem IP {f:Value -> Value -> Sem Value} {g:Int -> Int -> Int}
  (rule:∀ (i j:Int) (t u:Tok) (s:Shared) (Q:Value -> Shared -> Prop) (E:Value -> Shared -> Prop),Q (.int (g i j) s.toks) { s with toks:=s.toks + 1 } -> wpAny (model X.prog X.w) X.A (f (.int i t) (.int j u)) Q E s):
  OpR X f (rI0 fun i j=>.int (g i j)):=by
 intro pins s σ H x y v u Q I rx ry h
 obtain ⟨i,j,rfl,rfl,q⟩:=h
 obtain ⟨t,rfl⟩:=rx
 obtain ⟨t',rfl⟩:=ry
 exact rule i j t t' s _ _ ⟨.int (g i j),H,I.tok _,⟨_,rfl⟩,q⟩
theorem D6 {f:Value -> Value -> Sem Value} {g:Int -> Int -> Bool}
  (rule:∀ (i j:Int) (t u:Tok) (s:Shared) (Q:Value -> Shared -> Prop) (E:Value -> Shared -> Prop),Q (.bool (g i j)) s -> wpAny (model X.prog X.w) X.A (f (.int i t) (.int j u)) Q E s):
  OpR X f (rI0 fun i j=>.bl (g i j)):=by
 intro pins s σ H x y v u Q I rx ry h
 obtain ⟨i,j,rfl,rfl,q⟩:=h
 obtain ⟨t,rfl⟩:=rx
 obtain ⟨t',rfl⟩:=ry
 exact rule i j t t' s _ _ ⟨.bl (g i j),H,I,rfl,q⟩
noncomputable def Gv (i j:Int):Prop:=0 < j /\ j < 1073741824
noncomputable def Cg (i j:Int):Prop:=(-(2 ^ 64) < i /\ i < 2 ^ 64) \/ (-(2 ^ 64) < j /\ j < 2 ^ 64)
theorem Cg.ok {i j:Int} (h:Cg i j):IntMulOk i j:=by
 rcases h with ⟨h1,h2⟩ | ⟨h1,h2⟩
 . exact .of_left (intBits_le_64 h1 h2)
 . exact .of_right (intBits_le_64 h1 h2)
theorem cp:OpR X (binaryOp .Add) (rI0 fun i j=>.int (i + j)):=IP fun _ _ _ _ _ _ _ q=>add_int q
theorem ko:OpR X (binaryOp .Sub) (rI0 fun i j=>.int (i - j)):=IP fun _ _ _ _ _ _ _ q=>sub_int q
theorem pA:OpR X (binaryOp .Mult) (rI Cg fun i j=>.int (i * j)):=opI fun _ _ _ _ _ _ _ hc q=>mul_int q hc.ok
theorem lq:OpR X (binaryOp .FloorDiv) (rI Gv fun i j=>.int (i / j)):=opI fun i j _ _ _ _ _ hc q=>by
 have h1:(0:Int) < j:=hc.1
 have h2:j < 1073741824:=hc.2
 exact floordiv_int (by omega) (by rw [Int.fdiv_eq_ediv_of_nonneg i (by omega)]; exact q) (.inl (PyProof.noPylong_small (by omega)))
theorem fU:OpR X (binaryOp .Mod) (rI (fun _ j=>0 < j) fun i j=>.int (i % j)):=opI fun i j _ _ _ _ _ hc q=>by
 have h1:(0:Int) < j:=hc
 exact mod_int' (by omega) (by rw [Int.fmod_eq_emod_of_nonneg i (by omega)]; exact q)
theorem unI {f:Value -> Sem Value} {g:Int -> Int}
  (rule:∀ (i:Int) (t:Tok) (s:Shared) (Q:Value -> Shared -> Prop) (E:Value -> Shared -> Prop),Q (.int (g i) s.toks) { s with toks:=s.toks + 1 } -> wpAny (model X.prog X.w) X.A (f (.int i t)) Q E s):
  UnR X f (rU fun i=>.int (g i)):=by
 intro pins s σ H x v Q I rx h
 obtain ⟨i,rfl,q⟩:=h
 obtain ⟨t,rfl⟩:=rx
 exact rule i t s _ _ ⟨.int (g i),H,I.tok _,⟨_,rfl⟩,q⟩
theorem Cs:UnR X (unaryOp .USub) (rU fun i=>.int (-i)):=unI fun _ _ _ _ _ q=>neg_int q
end
noncomputable def HL:V -> V -> Bool
 | .non,.non=>true | .non,.int _=>true | .int _,.non=>true | .non,.bl _=>true | .bl _,.non=>true | .non,.str _=>true | .str _,.non=>true
 | .int _,.int _=>true | .bl _,.bl _=>true | .str _,.str _=>true | .byt _,.byt _=>true
 | .int _,.str _=>true | .str _,.int _=>true | .bl _,.str _=>true | .str _,.bl _=>true
 | _,_=>false
noncomputable def rEq:R2:=fun x y H Q=>HL x y = true /\ Q (.bl (decide (x = y))) H
noncomputable def rNe:R2:=fun x y H Q=>HL x y = true /\ Q (.bl (!decide (x = y))) H
theorem zr {i j:Int}:decide (V.int i = V.int j) = (i == j):=by
 rw [Bool.eq_iff_iff]
 simp
theorem BI {i j:Bool}:decide (V.bl i = V.bl j) = (i == j):=by
 rw [Bool.eq_iff_iff]
 simp
theorem zD {i j:Str}:decide (V.str i = V.str j) = (i == j):=by
 rw [Bool.eq_iff_iff]
 simp
theorem zu {i j:Array UInt8}:decide (V.byt i = V.byt j) = (i.toList == j.toList):=by
 rw [Bool.eq_iff_iff]
 cases i
 cases j
 simp
section
variable {X:Cx} {a b c:Expr} {ta tb tc:TE} {pos:Pos}
theorem cX {pins:List (Addr × Obj)} {σ:St} {H:Hp} {s:Shared} {Q:VK} {k k':Bool} (I:Inv X pins σ H s) (q:Q (.bl k) H) (e:k = k'):EP X pins σ Q (.bool k') s:=by
 subst e
 exact ⟨.bl k,H,I,rfl,q⟩
theorem ck:OpR X (compareOp .Eq) rEq:=by
 intro pins s σ H x y v u Q I rx ry h
 obtain ⟨hs,q⟩:=h
 cases x with
 | non=>
   cases rx
   cases y with
   | non=>cases ry; exact PySem.EqNone.eq_none_none (cX I q (by simp))
   | bl j=>cases ry; exact PySem.EqNone.eq_none_bool (cX I q (by simp))
   | int j=>obtain ⟨t',rfl⟩:=ry; exact PySem.EqNone.eq_none_int (cX I q (by simp))
   | str j=>obtain ⟨t',rfl⟩:=ry; exact PySem.EqNone.eq_none_str (cX I q (by simp))
   | _=>exact absurd (show false = true from hs) Bool.false_ne_true
 | bl i=>
   cases rx
   cases y with
   | non=>cases ry; exact PySem.EqNone.eq_bool_none (cX I q (by simp))
   | bl j=>cases ry; exact eq_bool (cX I q BI)
   | str j=>obtain ⟨t',rfl⟩:=ry; exact PySem.EqMixed.eq_bool_str (cX I q (by simp))
   | _=>exact absurd (show false = true from hs) Bool.false_ne_true
 | int i=>
   obtain ⟨t,rfl⟩:=rx
   cases y with
   | non=>cases ry; exact PySem.EqNone.eq_int_none (cX I q (by simp))
   | int j=>obtain ⟨t',rfl⟩:=ry; exact eq_int (cX I q zr)
   | str j=>obtain ⟨t',rfl⟩:=ry; exact PySem.EqMixed.eq_int_str (cX I q (by simp))
   | _=>exact absurd (show false = true from hs) Bool.false_ne_true
 | str i=>
   obtain ⟨t,rfl⟩:=rx
   cases y with
   | non=>cases ry; exact PySem.EqNone.eq_str_none (cX I q (by simp))
   | bl j=>cases ry; exact PySem.EqMixed.eq_str_bool (cX I q (by simp))
   | int j=>obtain ⟨t',rfl⟩:=ry; exact PySem.EqMixed.eq_str_int (cX I q (by simp))
   | str j=>obtain ⟨t',rfl⟩:=ry; exact eq_str (cX I q zD)
   | _=>exact absurd (show false = true from hs) Bool.false_ne_true
 | byt i=>
   obtain ⟨t,rfl⟩:=rx
   cases y with
   | byt j=>obtain ⟨t',rfl⟩:=ry; exact PySem.W.eq_bytes (cX I q zu)
   | _=>exact absurd (show false = true from hs) Bool.false_ne_true
 | _=>cases y <;> exact absurd (show false = true from hs) Bool.false_ne_true
theorem sx:OpR X (compareOp .NotEq) rNe:=by
 intro pins s σ H x y v u Q I rx ry h
 obtain ⟨hs,q⟩:=h
 cases x with
 | non=>
   cases rx
   cases y with
   | non=>cases ry; exact PySem.EqNone.ne_none_none (cX I q (by simp))
   | bl j=>cases ry; exact PySem.EqNone.ne_none_bool (cX I q (by simp))
   | int j=>obtain ⟨t',rfl⟩:=ry; exact PySem.EqNone.ne_none_int (cX I q (by simp))
   | str j=>obtain ⟨t',rfl⟩:=ry; exact PySem.EqNone.ne_none_str (cX I q (by simp))
   | _=>exact absurd (show false = true from hs) Bool.false_ne_true
 | bl i=>
   cases rx
   cases y with
   | non=>cases ry; exact PySem.EqNone.ne_bool_none (cX I q (by simp))
   | bl j=>cases ry; exact ne_bool (cX I q (congrArg not BI))
   | str j=>obtain ⟨t',rfl⟩:=ry; exact PySem.EqMixed.ne_bool_str (cX I q (by simp))
   | _=>exact absurd (show false = true from hs) Bool.false_ne_true
 | int i=>
   obtain ⟨t,rfl⟩:=rx
   cases y with
   | non=>cases ry; exact PySem.EqNone.ne_int_none (cX I q (by simp))
   | int j=>obtain ⟨t',rfl⟩:=ry; exact ne_int (cX I q (congrArg not zr))
   | str j=>obtain ⟨t',rfl⟩:=ry; exact PySem.EqMixed.ne_int_str (cX I q (by simp))
   | _=>exact absurd (show false = true from hs) Bool.false_ne_true
 | str i=>
   obtain ⟨t,rfl⟩:=rx
   cases y with
   | non=>cases ry; exact PySem.EqNone.ne_str_none (cX I q (by simp))
   | bl j=>cases ry; exact PySem.EqMixed.ne_str_bool (cX I q (by simp))
   | int j=>obtain ⟨t',rfl⟩:=ry; exact PySem.EqMixed.ne_str_int (cX I q (by simp))
   | str j=>obtain ⟨t',rfl⟩:=ry; exact ne_str (cX I q (congrArg not zD))
   | _=>exact absurd (show false = true from hs) Bool.false_ne_true
 | byt i=>
   obtain ⟨t,rfl⟩:=rx
   cases y with
   | byt j=>obtain ⟨t',rfl⟩:=ry; exact PySem.W.ne_bytes (cX I q (congrArg not zu))
   | _=>exact absurd (show false = true from hs) Bool.false_ne_true
 | _=>cases y <;> exact absurd (show false = true from hs) Bool.false_ne_true
theorem jO:OpR X (compareOp .Lt) (rI0 fun i j=>.bl (decide (i < j))):=D6 fun _ _ _ _ _ _ _ q=>lt_int q
theorem kd:OpR X (compareOp .LtE) (rI0 fun i j=>.bl (decide (i <= j))):=D6 fun _ _ _ _ _ _ _ q=>le_int q
theorem JG:OpR X (compareOp .Gt) (rI0 fun i j=>.bl (decide (j < i))):=D6 fun _ _ _ _ _ _ _ q=>gt_int q
theorem zj:OpR X (compareOp .GtE) (rI0 fun i j=>.bl (decide (j <= i))):=D6 fun _ _ _ _ _ _ _ q=>ge_int q
theorem qU:OpR X (compareOp .Is) (fun x y H Q=>y = .non /\ Q (.bl (decide (x = .non))) H):=by
 intro pins s σ H x y v u Q I rx ry h
 obtain ⟨rfl,q⟩:=h
 cases ry
 refine is_none_gen (cX I q ?_)
 cases x <;> first
  | (cases rx; rfl)
  | (obtain ⟨t,rfl⟩:=rx; rfl)
theorem vW:OpR X (compareOp .IsNot) (fun x y H Q=>y = .non /\ Q (.bl (!decide (x = .non))) H):=by
 intro pins s σ H x y v u Q I rx ry h
 obtain ⟨rfl,q⟩:=h
 cases ry
 refine isnot_none_gen (cX I q ?_)
 cases x <;> first
  | (cases rx; rfl)
  | (obtain ⟨t,rfl⟩:=rx; rfl)
theorem aL (b:Expr) {op:CmpOp} (h:op ≠ .In:=by decide) (h2:op ≠ .NotIn:=by decide):behindInMarks op b = false:=by
 have e1:(op == CmpOp.In) = false:=by cases op <;> first | rfl | exact absurd rfl h
 have e2:(op == CmpOp.NotIn) = false:=by cases op <;> first | rfl | exact absurd rfl h2
 cases b <;> simp [behindInMarks,e1,e2]
theorem EJ {op:CmpOp} {r:R2} (ho:OpR X (compareOp op) r) (ha:PE X a ta) (hb:PE X b tb) (hm:behindInMarks op b = false):PE X (.Compare a [op] [b] pos) (tOp r ta tb):=by
 intro pins s σ H Q I h
 exact wpAny_Compare1 (Hr ha hb I h fun v u s2 x y H2 I2 rx ry q=>ho pins s2 σ H2 x y v u Q I2 rx ry q) hm
noncomputable def xQ (t:TE):TT:=fun σ H Q=>t σ H fun x H'=>∃ k,x = .bl k /\ Q k H'
theorem E8 {op:CmpOp} {r:R2} (ho:OpR X (compareOp op) r) (ha:PE X a ta) (hb:PE X b tb) (hm:behindInMarks op b = false):PT X (.Compare a [op] [b] pos) (xQ (tOp r ta tb)):=by
 intro pins s σ H Q I h
 refine wpAny_isTrue_Compare1 (thn (ha pins s σ H _ I h) fun v s1 ⟨x,H1,I1,r1,q1⟩=>thn (hb pins s1 σ H1 _ I1 q1) fun u s2 ⟨y,H2,I2,r2,q2⟩=>
  thn (ho pins s2 σ H2 x y v u _ I2 r1 r2 q2) fun c s3 ⟨z,H3,I3,r3,k,e,q3⟩=>?_) hm
 subst e
 cases r3
 exact wpAny_truthy_bool ⟨H3,I3,q3⟩
noncomputable def tS (r r':R2) (ta tb tc:TE):TE:=fun σ H Q=>ta σ H fun x H1=>tb σ H1 fun y H2=>r x y H2 fun z H3=>∃ k,z = .bl k /\
 (if k = true then tc σ H3 fun w' H4=>r' y w' H4 Q else Q (.bl false) H3)
theorem BY {op op':CmpOp} {r r':R2} (ho:OpR X (compareOp op) r) (ho':OpR X (compareOp op') r') (ha:PE X a ta) (hb:PE X b tb) (hc:PE X c tc)
  (hm:lastMarks [op,op'] [b,c] = false:=by with_unfolding_all rfl):PE X (.Compare a [op,op'] [b,c] pos) (tS r r' ta tb tc):=by
 intro pins s σ H Q I h
 refine Compare_chain (thn (ha pins s σ H _ I h) fun v s1 ⟨x,H1,I1,r1,q1⟩=>chain_link (thn (hb pins s1 σ H1 _ I1 q1) fun u s2 ⟨y,H2,I2,r2,q2⟩=>
  thn (ho pins s2 σ H2 x y v u _ I2 r1 r2 q2) fun d s3 ⟨z,H3,I3,r3,k,e,q3⟩=>?_)) hm
 subst e
 cases r3
 refine wpAny_truthy_bool ?_
 cases k with
 | false=>exact ite_ff ⟨.bl false,H3,I3,rfl,q3⟩
 | true=>exact ite_tt (chain_last (thn (hc pins s3 σ H3 _ I3 q3) fun w' s4 ⟨z',H4,I4,r4,q4⟩=>ho' pins s4 σ H4 y z' u w' Q I4 r2 r4 q4))
theorem Bs {op op':CmpOp} {r r':R2} (ho:OpR X (compareOp op) r) (ho':OpR X (compareOp op') r') (ha:PE X a ta) (hb:PE X b tb) (hc:PE X c tc)
  (hm:lastMarks [op,op'] [b,c] = false:=by with_unfolding_all rfl):PT X (.Compare a [op,op'] [b,c] pos) (xQ (tS r r' ta tb tc)):=by
 intro pins s σ H Q I h
 refine isTrue_chain (thn (ha pins s σ H _ I h) fun v s1 ⟨x,H1,I1,r1,q1⟩=>test_link (thn (hb pins s1 σ H1 _ I1 q1) fun u s2 ⟨y,H2,I2,r2,q2⟩=>
  thn (ho pins s2 σ H2 x y v u _ I2 r1 r2 q2) fun d s3 ⟨z,H3,I3,r3,k,e,q3⟩=>?_)) hm
 subst e
 cases r3
 refine wpAny_truthy_bool ?_
 cases k with
 | false=>
   obtain ⟨k',e',q'⟩:=q3
   cases e'
   exact ite_ff ⟨H3,I3,q'⟩
 | true=>
   refine ite_tt (test_last (thn (hc pins s3 σ H3 _ I3 q3) fun w' s4 ⟨z',H4,I4,r4,q4⟩=>thn (ho' pins s4 σ H4 y z' u w' _ I4 r2 r4 q4) fun d' s5 ⟨z2,H5,I5,r5,k2,e2,q5⟩=>?_))
   subst e2
   cases r5
   exact wpAny_truthy_bool ⟨H5,I5,q5⟩
noncomputable def yF (K:PySem.W.Frag) (x:V) (H:Hp) (k:Bool):Prop:=
 match x with
 | .non=>k = false
 | .bl b=>k = b
 | .int i=>k = (i != 0)
 | .str y=>y.length <= sizeLine /\ k = ((y.length:Int) != 0)
 | .byt y=>y.size <= sizeLine /\ k = ((y.size:Int) != 0)
 | .ref p=>(∃ xs,SqL K H p xs /\ k = !xs.isEmpty) \/ (∃ xs,SqT K H p xs /\ k = !xs.isEmpty) \/ ∃ kvs,H p = some (.dK kvs) /\ k = !kvs.isEmpty
 | _=>False
theorem yx {κ:Type} {kvs:List (κ × V)} {vs:List (κ × Value)} (r:KV kvs vs):(!vs.isEmpty) = !kvs.isEmpty:=by
 cases r <;> rfl
theorem sQ {xs:List V} {its:List Value} (r:Vals xs its):(!its.toArray.isEmpty) = !xs.isEmpty:=by
 cases r <;> simp
theorem tI:(sizeLine:Nat) < 2 ^ 63:=by rw [sizeLine_eq]; decide
theorem Ik:KD X (fun x H Q=>∃ k,yF X.K x H k /\ Q k H):=by
 intro pins s σ H x v Q I rx h
 obtain ⟨k,e,q⟩:=h
 have hl:=tI
 have hs:sizeLine = 16777216:=sizeLine_eq
 cases x with
 | non=>
   cases rx
   have e':k = false:=e
   subst e'
   exact truthy_none ⟨H,I,q⟩
 | bl b=>
   cases rx
   have e':k = b:=e
   subst e'
   exact wpAny_truthy_bool ⟨H,I,q⟩
 | int i=>
   obtain ⟨t,rfl⟩:=rx
   have e':k = (i != 0):=e
   subst e'
   exact PySem.P.truthy_int ⟨H,I,q⟩
 | str y=>
   obtain ⟨t,rfl⟩:=rx
   obtain ⟨hy,e'⟩:y.length <= sizeLine /\ k = ((y.length:Int) != 0):=e
   subst e'
   exact PySem.P.truthy_str (by omega) ⟨H,I.tok _,q⟩
 | byt y=>
   obtain ⟨t,rfl⟩:=rx
   obtain ⟨hy,e'⟩:y.size <= sizeLine /\ k = ((y.size:Int) != 0):=e
   subst e'
   exact PySem.W.truthy_bytes (by omega) ⟨H,I.tok _,q⟩
 | ref p=>
   cases rx
   have e':(∃ xs,SqL X.K H p xs /\ k = !xs.isEmpty) \/ (∃ xs,SqT X.K H p xs /\ k = !xs.isEmpty) \/ ∃ kvs,H p = some (.dK kvs) /\ k = !kvs.isEmpty:=e
   rcases e' with ⟨xs,hx,e'⟩ | ⟨xs,hx,e'⟩ | ⟨kvs,hx,e'⟩
   . subst e'
     obtain ⟨its,r,pl,hz⟩:=I.list hx
     have hlen:=r.length
     exact wpAny_truthy_list pl.isList (by simp only [List.size_toArray]; omega) ⟨H,I.tok _,by rw [sQ r]; exact q⟩
   . subst e'
     obtain ⟨its,r,pl,hz⟩:=I.tuple hx
     have hlen:=r.length
     exact truthy_tuple pl (by simp only [List.size_toArray]; omega) ⟨H,I.tok _,by rw [sQ r]; exact q⟩
   . subst e'
     obtain ⟨hz,hS,vs,r,m⟩:kvs.length <= sizeLine /\ (p == sysModules) = false /\ ∃ vs,KV kvs vs /\ s.heap.DictOf (gB X.prog X.w) p vs:=I.hok p _ hx
     have hlen:kvs.length = vs.length:=Paired.length r
     exact wpAny_truthy_dict hS m (by omega) ⟨H,I.tok _,by rw [yx r]; exact q⟩
 | _=>exact (show False from e).elim
theorem BJ (ha:PE X a ta) (he:∀ whole,isTrue a X.env whole = (do let v <- whole; standAt a.pos; holding [v] (truthy v))):
  PT X a (fun σ H Q=>ta σ H fun x H'=>∃ k,yF X.K x H' k /\ Q k H'):=by
 intro pins s σ H Q I h
 exact isTrue_plain (thn (ha pins s σ H _ I h) fun v s1 ⟨x,H1,I1,r1,q1⟩=>Ik pins s1 σ H1 x v Q I1 r1 q1) (he _)
theorem vals1 {x:V} {us:List Value} (r:Vals [x] us):∃ u,us = [u] /\ RelV x u:=by
 cases r with
 | cons r1 r2=>cases r2; exact ⟨_,rfl,r1⟩
theorem uL:o3 X (.type "int") (fun xs H Q=>(∃ i,xs = [.int i] /\ Q (.int i) H) \/ ∃ k,xs = [.bl k] /\ Q (.int (if k then 1 else 0)) H):=by
 intro pins s σ H xs us Q I r h
 rcases h with ⟨i,rfl,q⟩ | ⟨k,rfl,q⟩
 . obtain ⟨u,rfl,t,rfl⟩:=vals1 r
   exact call_int_int ⟨.int i,H,I,⟨_,rfl⟩,q⟩
 . obtain ⟨u,rfl,r1⟩:=vals1 r
   cases r1
   exact call_int_bool ⟨.int (if k then 1 else 0),H,I.tok _,⟨_,rfl⟩,q⟩
end
end L2
namespace L2
open PySem PySem.Spec PyProof.Rows
structure yu (h:Heap) (x dx C:Addr) (mA:Str -> Option Value):Prop where
 obj:h.get? x = some (PySem.W.instObj C dx)
 ns:h.Ns1 dx mA
 ne:dx ≠ x
theorem Bh {h:Heap} {dx:Addr} {mA:Str -> Option Value} (n:h.Ns1 dx mA):∃ od,h.get? dx = some od /\ ∀ name,PySem.W.lookIn name od = some (mA name):=by
 obtain ⟨o,es,ep,ho,hd,hk,_,hm⟩:=n
 refine ⟨o,ho,fun name=>?_⟩
 have e:=hm name
 unfold nsFind findBy at e
 rw [<- Array.find?_toList] at e
 unfold PySem.W.lookIn
 rw [hd]
 dsimp only
 split
 . rename_i y q
   rw [q] at e
   exact congrArg some e
 . rename_i q
   rw [q] at e
   have a:es.toList.any (·.refKey) = false:=by
    rw [List.any_eq_false]
    intro y hy
    obtain ⟨z,t,hkey⟩:=hk y (Array.mem_toList_iff.mp hy)
    simp [DictEntry.refKey,hkey]
   have a':¬ es.toList.any (·.refKey) = true:=by rw [a]; exact Bool.false_ne_true
   rw [if_neg a']
   exact congrArg some e
theorem yu.look {h:Heap} {x dx C:Addr} {mA:Str -> Option Value} (I:yu h x dx C mA):∃ od,PySem.W.InstAt h x (PySem.W.instObj C dx) C (some od) /\ ∀ name,PySem.W.lookIn name od = some (mA name):=
 let ⟨od,ho,hl⟩:=Bh I.ns
 ⟨od,⟨I.obj,rfl,rfl,ho⟩,hl⟩
section
variable {prog:Program} {w:World} {A:Around} {E:Value -> Shared -> Prop} {s:Shared} {K:PySem.W.Frag} {x dx C f:Addr} {mA:Str -> Option Value} {name:Str} {v:Value}
theorem get_map {expr:Bool} {Q:Value -> Shared -> Prop} (X:K.In s.heap) (I:yu s.heap x dx C mA) (hg:PySem.W.plainGet K C name = true) (hh:PySem.W.hasDictIn K C = true)
  (ha:PySem.W.findIn K (.ref C) name = some none) (hv:mA name = some v) (hv':PySem.W.handedIn v = true) (h:Q v { s with toks:=s.toks + 1 }):
  wpAny (model prog w) A (getAttr (.ref x) name expr) Q E s:=by
 obtain ⟨od,J,hl⟩:=I.look
 exact PySem.W.get_value X J (PySem.W.plainGet_of hg).1 (PySem.W.findObj_own hh ha rfl (by rw [hl,hv])) hv' h
theorem Bk {pl:Sem Bool} {Q:Value × List Value -> Shared -> Prop} (X:K.In s.heap) (I:yu s.heap x dx C mA) (hg:PySem.W.plainGet K C name = true)
  (hf:PySem.W.findIn K (.ref C) name = some (some (.ref f))) (ht:PySem.W.isFn K (.ref f) = true) (hv:mA name = none) (h:Q (.ref f,[.ref x]) s):
  wpAny (model prog w) A (getMethod (.ref x) name pl) Q E s:=by
 obtain ⟨od,J,hl⟩:=I.look
 exact PySem.W.method_fn X J (PySem.W.plainGet_of hg).1 (PySem.W.plainGet_of hg).2 hf (beq_iff_eq.mp ht) (by show (PySem.W.lookIn name od).map (·.isSome) = some false; rw [hl,hv]; rfl) h
theorem Dt {ns:List Str} {Q:Unit -> Shared -> Prop} (X:K.In s.heap) (I:yu s.heap x dx C mA)
  (hs:PySem.W.findIn K (.ref C) "__setattr__" = some (some (.builtin "object.__setattr__"))) (hp:PySem.W.plainOver K C = true) (ht:PySem.W.takerIn K C name = some none) (hh:PySem.W.hasDictIn K C = true)
  (hw:PySem.Within mA ns) (hsz:ns.length <= sizeLine)
  (h:∀ h',yu h' x dx C (fun y=>if y = name then some v else mA y) -> Heap.SameBut dx s.heap h' -> Q () { s with heap:=h',toks:=s.toks + 2 }):
  wpAny (model prog w) A (setAttr (.ref x) name v) Q E s:=by
 obtain ⟨od,J,hl⟩:=I.look
 refine PySem.W.set_plain X J hs (PySem.W.osa_open (s:={ s with toks:=s.toks + 1 }) (r:=none) X J hp ht fun b=>?_)
 obtain ⟨cd,hc,hd'⟩:=PySem.W.any_some hh
 have hx:s.heap.get? x = some ⟨.ref C,some dx,.plain,#[]⟩:=I.obj
 refine wpAny_bind (wpAny_pure (wpAny_bind (wpAny_bind (wpAny_loadPart hx (wpAny_bind (PySem.W.Looks.here (s:={ s with toks:=s.toks + 1 }) (PySem.W.looks_clsIn X hc) ?_))))))
 rw [hd']
 refine wpAny_pure (a:=some dx) (wpAny_bind (wpAny_pure (wpAny_bind ?_)))
 refine wpAny_nsSet1 (s:={ s with toks:=s.toks + 1 }) I.ns fun h' hn2 hs2=>?_
 obtain ⟨oD,esD,epD,hoD,hdD,hcD⟩:=hn2.count (PySem.Within.cons name v hw)
 refine wpAny_bind (wpAny_lookBehind hoD (by rw [hdD]; exact pastItsLine_dict (Nat.le_trans hcD (by rw [List.length_cons]; omega))) ?_)
 exact wpAny_pure (h _ ⟨(hs2.2 _ (Ne.symm I.ne)).trans I.obj,hn2,I.ne⟩ hs2)
theorem De {R:Result -> Shared -> Prop} {vs:List Value} {kw:List (Str × Value)} (X:K.In s.heap) (hm:PySem.W.makesIn K C = true)
  (hi:PySem.W.findIn K (.ref C) "__init__" = some (some (.ref f))) (hf:PySem.W.typeIn K (.ref f) = some (.type "function"))
  (h:codeAny (model prog w) (A.under (.builtin "type.__call__" ⟨.ref C ::vs,kw⟩)) (.call (.ref f) ⟨.ref (s.heap.objs.size + 1) ::vs,kw⟩) (PySem.W.InitBack (s.heap.objs.size + 1) R)
    { s with heap:=(s.heap.push PySem.W.emptyDict).push (PySem.W.instObj C s.heap.objs.size) }):
  codeAny (model prog w) A (.call (.ref C) ⟨vs,kw⟩) R s:=by
 obtain ⟨hh,g,d,t,os⟩:=s
 exact PySem.W.make_core (PySem.W.makes_of X hm) (PySem.W.looks_findIn X hi) (fun self=>PySem.W.bind_fn X self hf) (.inl rfl) h
end
noncomputable def kA (f:Str) (v:V):List (Str × V) -> List (Str × V)
 | []=>[(f,v)]
 | (g,x) ::r=>if g = f then (g,v) ::r else (g,x) ::kA f v r
theorem rE (f g:Str) (v:V):∀ fs:List (Str × V),(kA f v fs).lookup g = if g = f then some v else fs.lookup g
 | []=>by
   show List.lookup g [(f,v)] = _
   by_cases h:g = f
   . have hb:(g == f) = true:=beq_iff_eq.mpr h
     simp only [List.lookup,hb,if_pos h]
   . have hb:(g == f) = false:=beq_eq_false_iff_ne.mpr h
     simp only [List.lookup,hb,if_neg h]
 | (k,x) ::r=>by
   have ih:=rE f g v r
   rw [show kA f v ((k,x) ::r) = (if k = f then (k,v) ::r else (k,x) ::kA f v r) from rfl]
   by_cases hk:k = f
   . rw [if_pos hk]
     by_cases h:g = k
     . have hb:(g == k) = true:=beq_iff_eq.mpr h
       simp only [List.lookup,hb,if_pos (h.trans hk)]
     . have hb:(g == k) = false:=beq_eq_false_iff_ne.mpr h
       simp only [List.lookup,hb,if_neg (fun e:g = f=>h (e.trans hk.symm))]
   . rw [if_neg hk]
     by_cases h:g = k
     . have hb:(g == k) = true:=beq_iff_eq.mpr h
       simp only [List.lookup,hb,if_neg (fun e:g = f=>hk (h.symm.trans e))]
     . have hb:(g == k) = false:=beq_eq_false_iff_ne.mpr h
       simp only [List.lookup,hb]
       exact ih
theorem qW (f:Str) (v:V):∀ fs:List (Str × V),f ∈ (kA f v fs).map (·.1) /\ ∀ g,g ∈ fs.map (·.1) -> g ∈ (kA f v fs).map (·.1)
 | []=>⟨by simp [kA],fun g h=>by simp at h⟩
 | (k,x) ::r=>by
   obtain ⟨i1,i2⟩:=qW f v r
   rw [show kA f v ((k,x) ::r) = (if k = f then (k,v) ::r else (k,x) ::kA f v r) from rfl]
   by_cases hk:k = f
   . rw [if_pos hk]
     subst hk
     exact ⟨by simp,fun g h=>by simpa using h⟩
   . rw [if_neg hk]
     refine ⟨?_,fun g h=>?_⟩
     . rw [List.map_cons]
       exact List.mem_cons_of_mem _ i1
     . rw [List.map_cons] at h ⊢
       rcases List.mem_cons.mp h with e | e
       . exact List.mem_cons.mpr (.inl e)
       . exact List.mem_cons_of_mem _ (i2 g e)
theorem rD (f:Str) (v:V):∀ fs:List (Str × V),(kA f v fs).length <= fs.length + 1
 | []=>by simp [kA]
 | (k,x) ::r=>by
   have ih:=rD f v r
   rw [show kA f v ((k,x) ::r) = (if k = f then (k,v) ::r else (k,x) ::kA f v r) from rfl]
   by_cases hk:k = f
   . rw [if_pos hk,List.length_cons,List.length_cons]; omega
   . rw [if_neg hk,List.length_cons,List.length_cons]; omega
theorem bH.some_of {v:V} {o:Option Value} (r:bH (some v) o):∃ u,o = some u /\ RelV v u:=by
 cases o with
 | none=>exact (show False from r).elim
 | some u=>exact ⟨u,rfl,r⟩
theorem bH.none_of {o:Option Value} (r:bH none o):o = none:=by
 cases o with
 | none=>rfl
 | some u=>exact (show False from r).elim
theorem AS {v:V} {u:Value} (r:RelV v u):PySem.W.handedIn u = true:=by
 cases v with
 | non=>cases (show u = Value.none from r); rfl
 | bl b=>cases (show u = Value.bool b from r); rfl
 | int i=>obtain ⟨t,e⟩:=(show ∃ t,u = Value.int i t from r); cases e; rfl
 | str x=>obtain ⟨t,e⟩:=(show ∃ t,u = Value.str x t from r); cases e; rfl
 | byt b=>obtain ⟨t,e⟩:=(show ∃ t,u = Value.bytes b t from r); cases e; rfl
 | flt b=>obtain ⟨t,e⟩:=(show ∃ t,u = Value.float b t from r); cases e; rfl
 | ref a=>cases (show u = Value.ref a from r); rfl
 | ty n=>cases (show u = Value.type n from r); rfl
section
variable {P:Program} {w:World} {H H':Hp} {h h':Heap} {a C dx:Addr} {fs fs':List (Str × V)}
theorem vC (hok:HOk P w H h) (e:H a = some (.ins C dx fs)):∃ mA,yu h a dx C mA /\ (∀ f,bH (fs.lookup f) (mA f)) /\ PySem.Within mA (fs.map (·.1)) /\ fs.length <= 1000 /\ H dx = some (.own a):=by
 obtain ⟨d,z,ne,ob,mA,n,r,q⟩:=(show gm P w H h a (.ins C dx fs) from hok a _ e)
 exact ⟨mA,⟨ob,n,ne⟩,r,q,z,d⟩
end
structure Cls (K:PySem.W.Frag) (C:Addr):Prop where
 pg:PySem.W.plainGet K C Str.empty = true
 hd:PySem.W.hasDictIn K C = true
 po:PySem.W.plainOver K C = true
 sa:PySem.W.findIn K (.ref C) "__setattr__" = some (some (.builtin "object.__setattr__"))
theorem Cls.get {K:PySem.W.Frag} {C:Addr} (c:Cls K C) (f:Str):PySem.W.plainGet K C f = true:=c.pg
noncomputable def lU (K:PySem.W.Frag) (C:Addr) (f:Str):Prop:=PySem.W.findIn K (.ref C) f = some none
theorem lU.I9 {K:PySem.W.Frag} {C:Addr} {f:Str} (n:lU K C f):PySem.W.takerIn K C f = some none:=by
 unfold PySem.W.takerIn
 rw [show PySem.W.findIn K (.ref C) f = some none from n]
 rfl
structure Meth (K:PySem.W.Frag) (C:Addr) (m:Str) (f:Addr):Prop where
 at_:PySem.W.findIn K (.ref C) m = some (some (.ref f))
 fn:PySem.W.isFn K (.ref f) = true
 kp:PySem.W.keepIn K (.ref f) = true
section
variable {X:Cx} {pins:List (Addr × Obj)} {σ:St} {H:Hp} {s:Shared} {a C dx:Addr} {fs:List (Str × V)} {f:Str} {v:V} {A:Around} {E:Value -> Shared -> Prop}
theorem yJ {b:Bool} {Q:Value -> Shared -> Prop} (I:Inv X pins σ H s) (e:H a = some (.ins C dx fs)) (c:Cls X.K C) (n:lU X.K C f) (l:fs.lookup f = some v)
  (h:∀ u s',Inv X pins σ H s' -> RelV v u -> Q u s'):wpAny (model X.prog X.w) A (getAttr (.ref a) f b) Q E s:=by
 obtain ⟨mA,O,r,_,_,_⟩:=vC I.hok e
 obtain ⟨u,hu,ru⟩:=bH.some_of (v:=v) (o:=mA f) (by rw [<- l]; exact r f)
 exact get_map I.kIn O (c.get f) c.hd n hu (AS ru) (h u _ (I.tok _) ru)
theorem sF {m:Str} {g:Addr} {pl:Sem Bool} {Q:Value × List Value -> Shared -> Prop} (I:Inv X pins σ H s) (e:H a = some (.ins C dx fs)) (c:Cls X.K C) (k:Meth X.K C m g) (l:fs.lookup m = none)
  (h:Q (.ref g,[.ref a]) s):wpAny (model X.prog X.w) A (getMethod (.ref a) m pl) Q E s:=by
 obtain ⟨mA,O,r,_,_,_⟩:=vC I.hok e
 have hn:mA m = none:=bH.none_of (by rw [<- l]; exact r m)
 exact Bk I.kIn O (c.get m) k.at_ k.fn hn h
theorem yz {y:V} {u:Value} {Q:Unit -> Shared -> Prop} (I:Inv X pins σ H s) (e:H a = some (.ins C dx fs)) (c:Cls X.K C) (n:lU X.K C f) (hl:fs.length < 1000) (ry:RelV y u)
  (h:∀ s',Inv X pins σ (upd H a (.ins C dx (kA f y fs))) s' -> Q () s'):wpAny (model X.prog X.w) A (setAttr (.ref a) f u) Q E s:=by
 obtain ⟨mA,O,r,wi,_,ho⟩:=vC I.hok e
 have hz:(fs.map (·.1)).length <= sizeLine:=by rw [List.length_map,sizeLine_eq]; omega
 refine Dt I.kIn O c.sa c.po n.I9 c.hd wi hz fun h' O' sb=>h _ ?_
 have hd:∃ o,h'.get? dx = some o:=let ⟨o,_,_,e',_⟩:=O'.ns; ⟨o,e'⟩
 refine I.write (x:=a) (e:=dx) (by rw [e]; exact True.intro) (.inr ho) (fun b q hb z=>(sb.2 b hb).trans z) hd ?_
 refine ⟨by rw [ba O.ne]; exact ho,?_,O.ne,O'.obj,_,O'.ns,fun g=>?_,fun g hg=>?_⟩
 . have:=rD f y fs; omega
 . show bH ((kA f y fs).lookup g) (if g = f then some u else mA g)
   rw [rE]
   by_cases q:g = f
   . rw [if_pos q,if_pos q]; exact ry
   . rw [if_neg q,if_neg q]; exact r g
 . by_cases q:g = f
   . rw [q]; exact (qW f y fs).1
   . refine (qW f y fs).2 g (wi g fun z=>hg ?_)
     show (if g = f then some u else mA g) = none
     rw [if_neg q]; exact z
theorem Inv.made (I:Inv X pins σ H s):Inv X pins σ (upd (upd H s.heap.objs.size (.own (s.heap.objs.size + 1))) (s.heap.objs.size + 1) (.ins C s.heap.objs.size []))
  { s with heap:=(s.heap.push PySem.W.emptyDict).push (PySem.W.instObj C s.heap.objs.size) }:=by
 have e1:(s.heap.push PySem.W.emptyDict).get? s.heap.objs.size = some PySem.W.emptyDict:=Heap.get?_push_size s.heap rfl
 have e2:((s.heap.push PySem.W.emptyDict).push (PySem.W.instObj C s.heap.objs.size)).get? (s.heap.objs.size + 1) = some (PySem.W.instObj C s.heap.objs.size):=by
  have:=Heap.get?_push_size (s.heap.push PySem.W.emptyDict) (o:=PySem.W.instObj C s.heap.objs.size) rfl
  rwa [Heap.size_push] at this
 have e3:(s.heap.push PySem.W.emptyDict).Ns s.heap.objs.size (fun _=>none):=⟨PySem.W.emptyDict,#[],_,e1,rfl,(fun e he=>absurd he (by simp)),fun _=>rfl⟩
 have I1:=I.laid (a:=s.heap.objs.size) (o:=.own (s.heap.objs.size + 1)) (h':=s.heap.push PySem.W.emptyDict) (t':=s.toks) (fun b u q=>Heap.get?_push_of_some _ q) (Nat.le_refl _) ⟨_,e1⟩
 refine I1.laid (a:=s.heap.objs.size + 1) (o:=.ins C s.heap.objs.size []) (t':=s.toks) (fun b u q=>Heap.get?_push_of_some _ q) (Nat.le_of_eq (Heap.size_push _ _)) ?_
 have ne:s.heap.objs.size ≠ s.heap.objs.size + 1:=Nat.ne_of_lt (Nat.lt_succ_self _)
 refine ⟨by rw [ba ne,bb],Nat.zero_le _,ne,e2,fun _=>none,(Heap.Ns1.of_empty e3).at fun o q=>Heap.get?_push_of_some _ q,fun _=>True.intro,fun y hy=>absurd rfl hy⟩
theorem E5 {prog:Program} {w:World} {env:Env} {e:Expr} {f:Str} {pos:Pos} {s:Shared} {Q:Value -> Shared -> Prop} (hb:attributeBase e f env (eval e env) = eval e env)
  (h:wpAny (model prog w) A (eval e env) (fun o s₁=>wpAny (model prog w) A (getAttr o f true) Q E s₁) E s):wpAny (model prog w) A (eval (.Attribute e f pos) env) Q E s:=
 Attribute_any_ h (by rw [arm_eval_Attribute,hb])
end
noncomputable def Hq (K:PySem.W.Frag) (ta:TE) (f:Str):TE:=fun σ H Q=>ta σ H fun x H1=>∃ a C dx fs v,x = .ref a /\ H1 a = some (.ins C dx fs) /\ Cls K C /\ lU K C f /\ fs.lookup f = some v /\ Q v H1
noncomputable def Hu (K:PySem.W.Frag) (ta tv:TE) (f:Str):TS:=fun D σ H=>tv σ H fun y H1=>ta σ H1 fun x H2=>∃ a C dx fs,x = .ref a /\ H2 a = some (.ins C dx fs) /\ Cls K C /\ lU K C f /\ fs.length < 1000 /\
 D.nx σ (upd H2 a (.ins C dx (kA f y fs)))
section
variable {X:Cx} {o e value:Expr} {f:Str} {pos pos' tpos:Pos} {ta tv:TE}
theorem G8 (he:PE X e ta) (hb:attributeBase e f X.env (eval e X.env) = eval e X.env):PE X (.Attribute e f pos) (Hq X.K ta f):=by
 intro pins s σ H Q I h
 refine E5 hb (thn (he pins s σ H _ I h) fun u s1 ⟨x,H1,I1,rx,a,C,dx,fs,v,ex,ea,c,n,l,q⟩=>?_)
 subst ex
 obtain rfl:u = Value.ref a:=rx
 exact yJ I1 ea c n l fun u' s2 I2 ru=>⟨v,H1,I2,ru,q⟩
theorem G7 (ha:PE X o ta) (hv:PE X value tv) (hs:swapsWith value (some (.Attribute o f pos')) pos.line X.env = pure false):PS X (.Assign [.Attribute o f pos'] value pos) (Hu X.K ta tv f):=by
 intro pins s σ H D I h
 refine plainObj_wpAny_Assign_Attribute (thn (hv pins s σ H _ I h) fun u s1 ⟨y,H1,I1,ry,q⟩=>thn (ha pins s1 σ H1 _ I1 q) fun ov s2 ⟨x,H2,I2,rx,a,C,dx,fs,ex,ea,c,n,l,q2⟩=>?_) hs
 subst ex
 obtain rfl:ov = Value.ref a:=rx
 exact yz I2 ea c n l ry fun s3 I3=>⟨σ,_,I3,q2⟩
end
end L2
namespace L2
open PySem PySem.Spec PyProof.Rows
structure iN (k:Nat) (A:Around):Prop where
 hd:A.handled = none
 dp:A.depth + 3 * k + 5 < recursionLimit
 un:A.units + 16 * k + 200 < cLine
theorem iN.mono {j k:Nat} {A:Around} (r:iN k A) (h:j <= k):iN j A:=⟨r.hd,by have:=r.dp; omega,by have:=r.un; omega⟩
theorem iN.deeper {k:Nat} {A:Around} (r:iN (k + 1) A) (env:Env):iN k (A.deeper env):=
 ⟨r.hd,by have:=r.dp; show A.depth + 1 + 3 * k + 5 < _; omega,by have:=r.un; show A.units + 3 + 16 * k + 200 < _; omega⟩
theorem y0 {A:Around} {C:Addr} {us:List Value} {kw:List (Str × Value)}:(A.under (.builtin "type.__call__" ⟨.ref C ::us,kw⟩)).depth = A.depth + 1:=by
 first | rfl | simp [Around.under,Code.weight,Code.isCreation,Code.isGuard,Code.isCaller,Code.frames,Code.isFrame,guardIds]
theorem yP {A:Around} {C:Addr} {us:List Value} {kw:List (Str × Value)}:(A.under (.builtin "type.__call__" ⟨.ref C ::us,kw⟩)).units = A.units + 1:=by
 first | rfl | simp [Around.under,Code.cUnits,Code.frames,Code.isFrame]
theorem iN.make {k:Nat} {A:Around} (r:iN (k + 1) A) (C:Addr) (us:List Value) (kw:List (Str × Value)):iN k (A.under (.builtin "type.__call__" ⟨.ref C ::us,kw⟩)):=
 ⟨r.hd,by have:=r.dp; rw [y0]; omega,by have:=r.un; rw [yP]; omega⟩
theorem iN.depth {k:Nat} {A:Around} (r:iN k A):A.depth < recursionLimit:=by have:=r.dp; omega
theorem iN.units {k:Nat} {A:Around} (r:iN k A):A.units + 64 < cLine:=by have:=r.un; omega
noncomputable def m6:TA:=fun _ H Q=>Q [] H
noncomputable def kG (ta:TE) (tr:TA):TA:=fun σ H Q=>ta σ H fun x H1=>tr σ H1 fun xs H2=>Q (x ::xs) H2
section
variable {X:Cx} {e:Expr} {es:List Expr} {te:TE} {t:TA} {pos:Pos}
theorem GI:PA X [] m6:=fun _ _ _ _ H Q I h=>Calls.spliced_nil ⟨[],H,I,.nil,h⟩
theorem En (ha:PE X e te) (hr:PA X es t) (hs:starEach (e ::es) X.env = (false,eval e X.env) ::starEach es X.env:=by rfl):PA X (e ::es) (kG te t):=by
 intro pos pins s σ H Q I h
 rw [hs]
 show wpAny _ _ (spliced ((false,eval e X.env) ::backTo pos (starEach es X.env))) _ _ s
 refine Calls.spliced_cons (thn (ha pins s σ H _ I h) fun u s1 ⟨x,H1,I1,r1,q1⟩=>?_)
 exact thn (hr pos pins s1 σ H1 _ I1 q1) fun us s2 ⟨xs,H2,I2,r2,q2⟩=>⟨x ::xs,H2,I2,.cons r1 r2,q2⟩
noncomputable def Iq (t:TA):TE:=fun σ H Q=>t σ H fun xs H1=>xs.length <= sizeLine /\ ∀ p,H1 p = none -> Q (.ref p) (upd H1 p (.tup xs))
noncomputable def Gs (t:TA):TE:=fun σ H Q=>t σ H fun xs H1=>xs.length <= sizeLine /\ ∀ p,H1 p = none -> Q (.ref p) (upd H1 p (.lst xs))
theorem HV {x1} (h:PA X es t):PE X (.Tuple es x1 pos) (Iq t):=by
 intro pins s σ H Q I hq
 refine wpAny_Tuple_spliced (thn (h pos pins s σ H _ I hq) fun us s1 ⟨xs,H1,I1,r,z,q⟩=>⟨by rw [<- r.length]; exact z,?_⟩)
 have hf:H1 s1.heap.objs.size = none:=I1.hok.fresh (Nat.le_refl _)
 refine ⟨.ref s1.heap.objs.size,upd H1 s1.heap.objs.size (.tup xs),I1.laid (t':=s1.toks) (fun b u e=>Heap.get?_push_of_some _ e) (Nat.le_refl _) ?_,rfl,q _ hf⟩
 exact ⟨z,us,r,⟨_,Heap.get?_push_size _ rfl,rfl,_,rfl⟩⟩
theorem GB (h:PA X es t):PE X (.List es pos) (Gs t):=by
 intro pins s σ H Q I hq
 refine wpAny_List_spliced (thn (h pos pins s σ H _ I hq) fun us s1 ⟨xs,H1,I1,r,z,q⟩=>⟨by rw [<- r.length]; exact z,?_⟩)
 have hf:H1 s1.heap.objs.size = none:=I1.hok.fresh (Nat.le_refl _)
 refine ⟨.ref s1.heap.objs.size,upd H1 s1.heap.objs.size (.lst xs),I1.laid (t':=s1.toks) (fun b u e=>Heap.get?_push_of_some _ e) (Nat.le_refl _) ?_,rfl,q _ hf⟩
 exact ⟨z,us,0,r,Heap.get?_push_size _ rfl⟩
end
abbrev Sp:=List V -> Hp -> VK -> XK -> Prop
abbrev CXT:=List Env -> Hp -> Shared -> XK -> Value -> Shared -> Prop
structure yO (P:Program) (w:World) (K:PySem.W.Frag) (mg:Str -> Option Value) (base:Heap) (A:Around) (outer:List Env) (s:Shared) (H:Hp):Prop where
 frames:A.frames = some outer
 mod:Mod K mg base
 bs:∀ b o,base.get? b = some o -> s.heap.get? b = some o /\ H b = none
 bsz:base.objs.size <= s.heap.objs.size
 rP:s.heap.FunFrames base outer
 frf:∀ b ∈ frs outer,H b = none
 hok:HOk P w H s.heap
 bare:AllBare s.gens
noncomputable def CE (outer:List Env) (P:Program) (w:World) (H:Hp) (s:Shared) (Q:VK) (u:Value) (s':Shared):Prop:=
 ∃ v H',s'.os = s.os /\ AllBare s'.gens /\ Un (frs outer) [] H H' s.heap s'.heap /\ HOk P w H' s'.heap /\ RelV v u /\ Q v H'
noncomputable def CR (CX:CXT) (outer:List Env) (P:Program) (w:World) (H:Hp) (s:Shared) (Q:VK) (E:XK) (r:Result) (s':Shared):Prop:=
 match r with
 | .ok (.ret u)=>CE outer P w H s Q u s'
 | .ok _=>False
 | .error e=>CX outer H s E e s'
structure cb (P:Program) (w:World) (K:PySem.W.Frag) (mg:Str -> Option Value) (base:Heap) (CX:CXT) (k:Nat) (f:Addr) (fd:FuncData) (ps:List Str) (sp:Sp):Prop where
 len:∀ vs H Q E,sp vs H Q E -> vs.length = ps.length
 run:∀ (A:Around) (outer:List Env) (s:Shared) (H:Hp) (args:Args) (us:List Value) (vs:List V) (Q:VK) (E:XK),iN k A -> yO P w K mg base A outer s H -> BindsTo s fd args (ps.zip us) -> Vals vs us -> sp vs H Q E ->
  codeAny (model P w) A (.call (.ref f) args) (CR CX outer P w H s Q E) s
theorem cb.mono {P:Program} {w:World} {K:PySem.W.Frag} {mg:Str -> Option Value} {base:Heap} {CX:CXT} {j k:Nat} {f:Addr} {fd:FuncData} {ps:List Str} {sp:Sp} (F:cb P w K mg base CX j f fd ps sp) (h:j <= k):
  cb P w K mg base CX k f fd ps sp:=⟨F.len,fun A outer s H args us vs Q E hr=>F.run A outer s H args us vs Q E (hr.mono h)⟩
theorem cb.imp {P:Program} {w:World} {K:PySem.W.Frag} {mg:Str -> Option Value} {base:Heap} {CX:CXT} {k:Nat} {f:Addr} {fd:FuncData} {ps:List Str} {sp sp':Sp} (F:cb P w K mg base CX k f fd ps sp)
  (h:∀ vs H Q E,sp' vs H Q E -> sp vs H Q E):cb P w K mg base CX k f fd ps sp':=
 ⟨fun vs H Q E q=>F.len vs H Q E (h _ _ _ _ q),fun A outer s H args us vs Q E hr he hb hv hs=>F.run A outer s H args us vs Q E hr he hb hv (h _ _ _ _ hs)⟩
theorem yO.make {P:Program} {w:World} {K:PySem.W.Frag} {mg:Str -> Option Value} {base:Heap} {A:Around} {outer:List Env} {s:Shared} {H:Hp} (e:yO P w K mg base A outer s H) (C:Addr) (us:List Value) (kw:List (Str × Value)):
  yO P w K mg base (A.under (.builtin "type.__call__" ⟨.ref C ::us,kw⟩)) outer s H:=⟨by first | exact e.frames | (simpa [Around.under,Code.envs,Code.isFrame,pushEnvs] using e.frames),e.mod,e.bs,e.bsz,e.rP,e.frf,e.hok,e.bare⟩
section
variable {X:Cx} {pins:List (Addr × Obj)} {σ:St} {H:Hp} {s s':Shared}
theorem Inv.Gj (I:Inv X pins σ H s):yO X.prog X.w X.K X.mg X.base X.A X.stack s H:=
 ⟨I.ok.frames,I.ok.mod,I.bs,Nat.le_trans I.ok.bsz I.sz,I.stack,I.vn,I.hok,I.bare⟩
theorem Inv.after {Q:VK} {u:Value} (I:Inv X pins σ H s) (h:CE X.stack X.prog X.w H s Q u s'):EP X pins σ Q u s':=by
 obtain ⟨v,H',os,bare,un,hok,r,q⟩:=h
 obtain ⟨hh,g,d,t,os'⟩:=s'
 obtain rfl:os' = s.os:=os
 exact ⟨v,H',I.call (h':=hh) (g':=g) (d':=d) (t':=t) (ch:=[]) un hok bare (fun b z=>absurd z (by simp)),r,q⟩
end
noncomputable def Dg (C:Addr) (sp:Sp) (dvs:List V) (E:XK) (t:TA):TE:=fun σ H Q=>t σ H fun vs H1=>∀ x dx,H1 x = none -> H1 dx = none -> dx ≠ x ->
 sp (.ref x ::(vs ++ dvs)) (upd (upd H1 dx (.own x)) x (.ins C dx [])) (fun v H2=>v = .non /\ Q (.ref x) H2) E
noncomputable def Binds (K:PySem.W.Frag) (fd:FuncData) (ps:List Str) (ds:List Value):Prop:=
 ∀ (s:Shared) (us:List Value),K.In s.heap -> (us ++ ds).length = ps.length -> BindsTo s fd ⟨us,[]⟩ (ps.zip (us ++ ds))
theorem Binds.all {K:PySem.W.Frag} {fd:FuncData} {ps:List Str} (h:∀ us:List Value,us.length = ps.length -> bindArgs fd ⟨us,[]⟩ = pure (ps.zip us)):Binds K fd ps []:=fun s us _ hl=>by
 rw [List.append_nil] at hl ⊢
 exact .of_eq (h us hl)
noncomputable def Passes (CX:CXT) (X:Cx) (E:XK):Prop:=∀ (pins:List (Addr × Obj)) (σ:St) (H:Hp) (s:Shared) (e:Value) (s':Shared),Inv X pins σ H s -> CX X.stack H s E e s' -> X.xe e s'
section
variable {X:Cx} {CX:CXT} {k:Nat} {f C:Addr} {fd:FuncData} {ps:List Str} {sp:Sp} {dvs:List V} {ds:List Value} {E:XK} {x m:Str} {p pos apos:Pos} {e o:Expr} {es:List Expr} {ta:TE} {t:TA}
structure Mk (K:PySem.W.Frag) (C f:Addr):Prop where
 makes:PySem.W.makesIn K C = true
 init:PySem.W.findIn K (.ref C) "__init__" = some (some (.ref f))
 fn:PySem.W.isFn K (.ref f) = true
 kp:PySem.W.keepIn K (.ref C) = true
theorem Dh {pins:List (Addr × Obj)} {σ:St} {H:Hp} {s:Shared} {Q:VK} {us:List Value} {vs:List V} (M:Mk X.K C f) (F:cb X.prog X.w X.K X.mg X.base CX k f fd ps sp) (hr:iN (k + 1) X.A) (hb:Binds X.K fd ps ds) (hd:Vals dvs ds)
  (hx:Passes CX X E) (I:Inv X pins σ H s) (r:Vals vs us)
  (h:∀ x dx,H x = none -> H dx = none -> dx ≠ x -> sp (.ref x ::(vs ++ dvs)) (upd (upd H dx (.own x)) x (.ins C dx [])) (fun v H2=>v = .non /\ Q (.ref x) H2) E):
  wpAny (model X.prog X.w) X.A (call (.ref C) us) (EP X pins σ Q) X.xe s:=by
 have hq:=h (s.heap.objs.size + 1) s.heap.objs.size (I.hok.fresh (Nat.le_succ _)) (I.hok.fresh (Nat.le_refl _)) (Nat.ne_of_lt (Nat.lt_succ_self _))
 have I2:=Inv.made (C:=C) I
 have r2:Vals (V.ref (s.heap.objs.size + 1) ::(vs ++ dvs)) (Value.ref (s.heap.objs.size + 1) ::(us ++ ds)):=.cons rfl (r.append hd)
 have hl:(Value.ref (s.heap.objs.size + 1) ::us ++ ds).length = ps.length:=by
  have e:=r2.length
  rw [F.len _ _ _ _ hq] at e
  exact e.symm
 refine wpAny_call (De (f:=f) I.kIn M.makes M.init (beq_iff_eq.mp M.fn) (codeAny_mono (F.run _ X.stack _ _ ⟨Value.ref (s.heap.objs.size + 1) ::us,[]⟩ (Value.ref (s.heap.objs.size + 1) ::(us ++ ds)) _ _ E (hr.make C us [])
  (I2.Gj.make C us []) (hb _ (Value.ref (s.heap.objs.size + 1) ::us) I2.kIn hl) r2 hq) fun r s' hq'=>?_))
 cases r with
 | error e=>exact hx pins σ _ _ e s' I2 hq'
 | ok fl=>
   cases fl with
   | ret u=>
     obtain ⟨v,H',I3,rv,ev,q3⟩:=I2.after hq'
     subst ev
     exact ⟨rv,⟨V.ref (s.heap.objs.size + 1),H',I3,rfl,q3⟩⟩
   | next=>exact False.elim hq'
   | brk=>exact False.elim hq'
   | cont=>exact False.elim hq'
theorem Cz (M:Mk X.K C f) (F:cb X.prog X.w X.K X.mg X.base CX k f fd ps sp) (hr:iN (k + 1) X.A) (hg:Gl X x) (hm:X.mg x = some (.ref C)) (hb:Binds X.K fd ps ds) (hd:Vals dvs ds) (hx:Passes CX X E)
  (hdb:(x == ("__debug__":Str)) = false:=by decide):PE X (.Call (.Name x p) [] [] pos) (Dg C sp dvs E m6):=by
 intro pins s σ H Q I h
 refine wpAny_Call_Name_kw (m3 I hg hm ?_ hdb)
 exact PySem.W.callWith_K0 I.kIn M.kp (Dh (us:=[]) M F hr hb hd hx I .nil h)
end
structure aU (N P:List Str) (sc:Scope):Prop where
 kind:sc.kind = .function
 co:sc.isCoroutine = false
 gen:sc.isGenerator = false
 nd:N.Nodup
 pre:N.take P.length = P
 par:∀ x ∈ P,sc.names.lookup x = some .local \/ sc.names.lookup x = some .cell
 nofree:∀ y ∈ sc.names,y.2 ≠ .free
theorem uM {kindOf:Str -> Option NameKind} {x:Str}:∀ {binds:List (Str × Value)} {m:Str -> Option Value},(∀ v,(x,v) ∉ binds) -> bindL kindOf binds m x = m x
 | [],_,_=>rfl
 | (n,v) ::r,m,h=>by
   unfold bindL
   rw [uM fun w hw=>h w (List.mem_cons_of_mem _ hw)]
   split
   . have:x ≠ n:=by rintro rfl; exact h v List.mem_cons_self
     simp [this]
   . rfl
theorem uZ {kindOf:Str -> Option NameKind} {x:Str}:∀ {binds:List (Str × Value)} {m:Str -> Option Value},(∀ v,(x,v) ∉ binds) -> bindC kindOf binds m x = m x
 | [],_,_=>rfl
 | (n,v) ::r,m,h=>by
   unfold bindC
   rw [uZ fun w hw=>h w (List.mem_cons_of_mem _ hw)]
   split
   . rfl
   . have:x ≠ n:=by rintro rfl; exact h v List.mem_cons_self
     simp [this]
theorem uO {kindOf:Str -> Option NameKind} {x:Str} {v:Value}:∀ {P:List Str} {vs:List Value} {i:Nat} {m:Str -> Option Value},P.Nodup -> P[i]? = some x -> vs[i]? = some v -> kindOf x = some .local ->
  bindL kindOf (P.zip vs) m x = some v
 | [],_,_,_,_,h,_,_=>by simp at h
 | _ ::_,[],_,_,_,_,h,_=>by simp at h
 | p ::P,w ::vs,0,m,nd,h1,h2,hk=>by
   simp at h1 h2; subst h1; subst h2
   show bindL kindOf ((p,w) ::P.zip vs) m p = _
   unfold bindL
   rw [uM fun v hv=>(List.nodup_cons.mp nd).1 (List.of_mem_zip hv).1,if_pos hk]
   simp
 | p ::P,w ::vs,i + 1,m,nd,h1,h2,hk=>by
   show bindL kindOf ((p,w) ::P.zip vs) m x = _
   unfold bindL
   exact uO (i:=i) (List.nodup_cons.mp nd).2 (by simpa using h1) (by simpa using h2) hk
theorem uY {kindOf:Str -> Option NameKind} {x:Str} {v:Value}:∀ {P:List Str} {vs:List Value} {i:Nat} {m:Str -> Option Value},P.Nodup -> P[i]? = some x -> vs[i]? = some v -> kindOf x ≠ some .local ->
  bindC kindOf (P.zip vs) m x = some v
 | [],_,_,_,_,h,_,_=>by simp at h
 | _ ::_,[],_,_,_,_,h,_=>by simp at h
 | p ::P,w ::vs,0,m,nd,h1,h2,hk=>by
   simp at h1 h2; subst h1; subst h2
   show bindC kindOf ((p,w) ::P.zip vs) m p = _
   unfold bindC
   rw [uZ fun v hv=>(List.nodup_cons.mp nd).1 (List.of_mem_zip hv).1,if_neg hk]
   simp
 | p ::P,w ::vs,i + 1,m,nd,h1,h2,hk=>by
   show bindC kindOf ((p,w) ::P.zip vs) m x = _
   unfold bindC
   exact uY (i:=i) (List.nodup_cons.mp nd).2 (by simpa using h1) (by simpa using h2) hk
noncomputable def start (N:List Str) (vs:List V):St:=vs.map some ++ List.replicate (N.length - vs.length) none
noncomputable def pZ (CX:CXT) (P:Program) (w:World) (K:PySem.W.Frag) (mg:Str -> Option Value) (base:Heap) (N:List Str) (qual:Str) (scope:Scope) (f:Addr) (cd:Value) (A:Around) (outer:List Env) (s:Shared) (H:Hp) (E:XK):Cx where
 prog:=P
 w:=w
 K:=K
 mg:=mg
 base:=base
 A:=A.deeper (envOfC qual scope s.heap.objs.size f cd)
 N:=N
 s₀:=s
 H₀:=H
 env:=envOfC qual scope s.heap.objs.size f cd
 outer:=outer
 stack:=envOfC qual scope s.heap.objs.size f cd ::outer
 ex:=[]
 calm:=true
 fn:=fun _=>true
 pn:=[]
 xe:=fun e s'=>wpAny (model P w) (A.deeper (envOfC qual scope s.heap.objs.size f cd)) (leaving (envOfC qual scope s.heap.objs.size f cd) e) (fun _ s''=>CX outer H s E e s'') (fun e' s''=>CX outer H s E e' s'') s'
theorem xw {sc:Scope} {n:Nat} {x:Str} (h:sc.names.lookup x = some .cell):∃ c,(cellsFrom n sc.names []).lookup x = some c:=by
 have q:=PySem.W.cellsFrom_some sc.names n [] (.inl h)
 exact Option.isSome_iff_exists.mp q
theorem AE {CX:CXT} {P:Program} {w:World} {K:PySem.W.Frag} {mg:Str -> Option Value} {base:Heap} {N ps:List Str} {qual:Str} {scope:Scope} {f:Addr} {cd:Value} {A:Around} {outer:List Env} {s s1:Shared} {H:Hp} {E:XK} {us:List Value} {vs:List V}
  (S:aU N ps scope) (hd:A.handled = none) (e0:yO P w K mg base A outer s H) (hl:vs.length = ps.length) (r:Vals vs us)
  (x:InCallC s s.heap.objs.size (bindL (envOfC qual scope s.heap.objs.size f cd).kindOf (ps.zip us) fun _=>none) (cellsFrom (s.heap.objs.size + 1) scope.names []) (bindC (envOfC qual scope s.heap.objs.size f cd).kindOf (ps.zip us) fun _=>none) s1):
  Inv (pZ CX P w K mg base N qual scope f cd A outer s H E) [] (start N vs) H s1:=by
 have hpl:ps.length <= N.length:=by have:=congrArg List.length S.pre; rw [List.length_take] at this; omega
 obtain ⟨h1,tk,rfl,hk⟩:=x.done
 have noA:∀ b:Addr,b ∉ (pZ CX P w K mg base N qual scope f cd A outer s H E).ex:=fun b z=>absurd (show b ∈ ([]:List Addr) from z) (by simp)
 refine ⟨⟨e0.mod,S.kind,rfl,rfl,Nat.le_refl _,fun y z c h1 h2=>?_,fun y hy=>?_,fun y c _ h=>?_,fun _=>hd,Around.frames_deeper e0.frames,.inr ⟨rfl,rfl⟩,fun b z=>absurd z (noA b),e0.bs,e0.bsz,fun b _ _=>noA b,fun b z=>absurd z (noA b),e0.rP,e0.frf⟩,
  rfl,e0.bare,Un.kept hk,⟨_,x.toInCall.ns,fun i y v h1 h2 h3=>?_⟩,fun y c h=>⟨_,x.cell y c h⟩,e0.hok.fresh (Nat.le_refl _),fun y c h=>?_,fun p hp=>absurd (show p ∈ ([]:List (Addr × Obj)) from hp) (by simp),e0.hok.kept hk,?_⟩
 . exact name_of_addr x.apart (PySem.mem_of_lookup h1) (PySem.mem_of_lookup h2)
 . have hy:scope.names.lookup y = some .cell \/ scope.names.lookup y = some .free:=hy
   rcases hy with hy | hy
   . exact xw hy
   . exact absurd rfl (S.nofree _ (PySem.mem_of_lookup hy))
 . exact Nat.le_of_lt (x.above y c (PySem.mem_of_lookup h))
 . have hi:i < vs.length:=by
    unfold start at h2
    by_cases hi:i < vs.length
    . exact hi
    . rw [List.getElem?_append_right (by simpa using hi)] at h2
      rw [List.getElem?_replicate] at h2
      split at h2 <;> cases h2
   have ha:vs[i]? = some v:=by
    unfold start at h2
    rw [List.getElem?_append_left (by simpa using hi),List.getElem?_map] at h2
    cases e:vs[i]? with
    | none=>rw [e] at h2; cases h2
    | some a=>rw [e] at h2; cases h2; rfl
   obtain ⟨u,hu,rv⟩:=r.get ha
   have hp:ps[i]? = some y:=by
    rw [<- S.pre,List.getElem?_take_of_lt (by omega)]; exact h1
   have ndP:ps.Nodup:=by rw [<- S.pre]; exact S.nd.sublist (List.take_sublist _ _)
   refine ⟨u,rv,?_⟩
   rcases S.par y (List.mem_of_getElem? hp) with k | k
   . exact .inl ⟨k,uO ndP hp hu k⟩
   . obtain ⟨c,e⟩:=xw (n:=s.heap.objs.size + 1) k
     refine .inr ⟨.inl k,c,e,?_⟩
     have q:=x.cell y c e
     rw [uY ndP hp hu (by show scope.names.lookup y ≠ _; rw [k]; decide)] at q
     exact q
 . exact e0.hok.fresh (Nat.le_of_lt (x.above y c (PySem.mem_of_lookup h)))
 . unfold start
   show _ = N.length
   rw [List.length_append,List.length_map,List.length_replicate]
   omega
theorem Jf {CX:CXT} {P:Program} {w:World} {K:PySem.W.Frag} {mg:Str -> Option Value} {base:Heap} {k:Nat} {f:Addr} {name qual:Str} {params:Arguments} {body:List Stmt} {scope:Scope} {dV kV doc pm cdv ct oc:Value} {an od:Option Addr}
  {osl:Array (Option Value)} {N ps:List Str} {sp:Sp} (lk:K.lookup f = some ⟨oc,od,.func (PySem.W.fnOf name qual params body scope dV kV doc pm an cdv ct),osl⟩) (hcd:PySem.W.codeIn K cdv qual = true) (S:aU N ps scope)
  (len:∀ vs H Q E,sp vs H Q E -> vs.length = ps.length)
  (hbody:∀ (A:Around) (outer:List Env) (s:Shared) (H:Hp) (vs:List V) (Q:VK) (E:XK),iN k (A.deeper (envOfC qual scope s.heap.objs.size f cdv)) -> sp vs H Q E ->
    ∃ t,PSs (pZ CX P w K mg base N qual scope f cdv A outer s H E) body t /\ t { nx:=fun _ H'=>Q .non H',rt:=Q } (start N vs) H):
  cb P w K mg base CX (k + 1) f (PySem.W.fnOf name qual params body scope dV kV doc pm an cdv ct) ps sp:=by
 refine ⟨len,fun A outer s H args us vs Q E hr e0 hb r hsp=>?_⟩
 have hl:=len _ _ _ _ hsp
 have KX:K.In s.heap:=e0.mod.kin.keeps fun b o e=>(e0.bs b o e).1
 have lim:s.heap.NoLimit:=e0.mod.nolimit.keeps fun b o e=>(e0.bs b o e).1
 have hkind:∀ y ∈ ps.zip us,scope.names.lookup y.1 = some .local \/ (scope.names.lookup y.1 = some .cell /\ ((cellsFrom (s.heap.objs.size + 1) scope.names []).lookup y.1).isSome = true):=fun ⟨n,v⟩ hy=>by
  rcases S.par n (List.of_mem_zip hy).1 with q | q
  . exact .inl q
  . exact .inr ⟨q,PySem.W.cellsFrom_some _ _ _ (.inl q)⟩
 refine codeAny_call_function hr.depth (KX _ _ lk) rfl S.co S.gen rfl (PySem.W.codeRec_of KX hcd) (hb _ _ _ _ ?_)
 refine wpAny_newFunctionEnv_cells S.kind hkind fun env he s1 x=>?_
 subst he
 refine ⟨lim.keeps x.toInCall.keep,codeAny_func ?_⟩
 obtain ⟨t,ht,hq⟩:=hbody A outer s H vs Q E (hr.deeper _) hsp
 have I:Inv (pZ CX P w K mg base N qual scope f cdv A outer s H E) [] (start N vs) H s1:=AE S hr.hd e0 hl r x
 refine wpAny_mono (ht [] s1 (start N vs) H _ I hq) (fun fl s' hs=>?_) fun e s' hs=>hs
 have fin:∀ {σ':St} {H':Hp} {v:V} {u:Value},Inv (pZ CX P w K mg base N qual scope f cdv A outer s H E) [] σ' H' s' -> RelV v u -> Q v H' -> CE outer P w H s Q u s':=
  fun {σ' H' v u} J rv q=>⟨v,H',J.os,J.bare,J.base,J.hok,rv,q⟩
 cases fl with
 | ret u=>
   obtain ⟨v,σ',H',J,rv,q⟩:=hs
   exact fin J rv q
 | next=>
   obtain ⟨σ',H',J,q⟩:=hs
   exact fin (v:=V.non) (u:=Value.none) J rfl q
 | brk=>
   obtain ⟨_,_,_,q⟩:=hs
   exact False.elim q
 | cont=>
   obtain ⟨_,_,_,q⟩:=hs
   exact False.elim q
end L2
namespace L2
open PySem PySem.Spec PyProof.Rows
section
variable {X:Cx} {x:Str} {p pos:Pos} {e:Expr} {es:List Expr} {t:TA} {id T:String} {r:List V -> Hp -> VK -> Prop}
noncomputable def tCB (r:List V -> Hp -> VK -> Prop) (t:TA):TE:=fun σ H Q=>t σ H fun vs H1=>r vs H1 Q
theorem BX (hc:o3 X (.builtin id) r) (hg:Gl X x) (hm:X.mg x = none) (hv:bootBuiltins x = some (.builtin id)) (ha:PA X (e ::es) t) (hn:x ≠ "__name__":=by decide) (hdb:(x == ("__debug__":Str)) = false:=by decide)
  (he:starEach (e ::es) X.env = (false,eval e X.env) ::starEach es X.env:=by rfl) (hpl:(backTo pos (starEach es X.env)).any (·.1) = false:=by rfl):PE X (.Call (.Name x p) (e ::es) [] pos) (tCB r t):=by
 intro pins s σ H Q I h
 refine wpAny_Call_Name_kw (tL I hg hm hv ?_ hn hdb)
 exact PyProof.Rows.callWith_builtin1 (thn (ha pos pins s σ H _ I h) fun us s1 ⟨vs,H1,I1,r1,q1⟩=>hc pins s1 σ H1 vs us Q I1 r1 q1) he hpl
theorem AO (hc:o3 X (.type T) r) (hg:Gl X x) (hm:X.mg x = none) (hv:bootBuiltins x = some (.type T)) (ha:PA X (e ::es) t) (hn:x ≠ "__name__":=by decide) (hdb:(x == ("__debug__":Str)) = false:=by decide)
  (he:starEach (e ::es) X.env = (false,eval e X.env) ::starEach es X.env:=by rfl) (hpl:(backTo pos (starEach es X.env)).any (·.1) = false:=by rfl):PE X (.Call (.Name x p) (e ::es) [] pos) (tCB r t):=by
 intro pins s σ H Q I h
 refine wpAny_Call_Name_kw (tL I hg hm hv ?_ hn hdb)
 exact PyProof.Rows.callWith_type1 (thn (ha pos pins s σ H _ I h) fun us s1 ⟨vs,H1,I1,r1,q1⟩=>hc pins s1 σ H1 vs us Q I1 r1 q1) he hpl
end
end L2
namespace HT
open PySem PyProof.Rows
section
open PySem.SeqAt
open PySem.AutoSeq1 (wpAny_loadPart')
open PySem.MeetsSeq PySem.MeetsSeq2 PySem.MeetsSeq3
end
section
variable {prog:Program} {w:World} {A:Around} {E:Value -> Shared -> Prop} {s:Shared}
noncomputable def sIx (n d:Nat):Option Int -> Nat
 | none=>d
 | some v=>if v < 0 then (v + (n:Int)).toNat else min v.toNat n
end
end HT
namespace L2
open PySem PySem.Spec PyProof.Rows
abbrev TO:=St -> Hp -> (Option Int -> Hp -> Prop) -> Prop
noncomputable def PO (X:Cx) (e:Option Expr) (t:TO):Prop:=
 ∀ (pins:List (Addr × Obj)) (s:Shared) (σ:St) (H:Hp) (Q:Option Int -> Hp -> Prop),Inv X pins σ H s -> t σ H Q ->
   wpAny (model X.prog X.w) X.A (evalPart e X.env) (fun u s'=>∃ o H',Inv X pins σ H' s' /\ IsPart u o /\ Q o H') X.xe s
noncomputable def Br (t:TE):TO:=fun σ H Q=>t σ H fun x H1=>∃ i,x = .int i /\ Q (some i) H1
section
variable {X:Cx} {e:Expr} {te:TE} {lo hi:Option Expr} {tl th:TO} {pos p2:Pos}
theorem E0 (h:PE X e te):PO X (some e) (Br te):=by
 intro pins s σ H Q I hw
 rw [evalPart_some]
 refine thn (h pins s σ H _ I hw) fun u s1 ⟨x,H1,I1,r1,q1⟩=>?_
 obtain ⟨i,rfl,q⟩:=q1
 obtain ⟨t,rfl⟩:=r1
 exact ⟨some i,H1,I1,.int i t,q⟩
noncomputable def SlR (X:Cx) (r:V -> Option Int -> Option Int -> Hp -> VK -> Prop):Prop:=
 ∀ (pins:List (Addr × Obj)) (s:Shared) (σ:St) (H:Hp) (x:V) (v vl vu:Value) (lo hi:Option Int) (sl:Addr) (Q:VK),Inv X pins σ H s -> RelV x v -> s.heap.IsSliceOf sl vl vu .none -> IsPart vl lo -> IsPart vu hi -> r x lo hi H Q ->
   ∃ T id,typeLookup (.type T) "__getitem__" = pure (some (.builtin id)) /\ s.TypeIs v T /\ wpAny (model X.prog X.w) X.A (getItem v (.ref sl)) (EP X pins σ Q) X.xe s
noncomputable def tSl (r:V -> Option Int -> Option Int -> Hp -> VK -> Prop) (te:TE) (tl th:TO):TE:=fun σ H Q=>te σ H fun x H1=>tl σ H1 fun l H2=>th σ H2 fun u H3=>r x l u H3 Q
theorem Di {r:V -> Option Int -> Option Int -> Hp -> VK -> Prop} (hr:SlR X r) (he:PE X e te) (hl:PO X lo tl) (hu:PO X hi th):PE X (.Subscript e (.Slice lo hi none p2) pos) (tSl r te tl th):=by
 intro pins s σ H Q I h
 refine Subscript_ (thn (he pins s σ H _ I h) fun v s1 ⟨x,H1,I1,r1,q1⟩=>?_)
 refine wpAny_Slice (thn (hl pins s1 σ H1 _ I1 q1) fun vl s2 ⟨l,H2,I2,pl,q2⟩=>thn (hu pins s2 σ H2 _ I2 q2) fun vu s3 ⟨u,H3,I3,pu,q3⟩=>?_)
 rw [evalPart_none]
 refine wpAny_pure ?_
 have I4:Inv X pins σ H3 { s3 with heap:=s3.heap.push { cls:=.type "slice",data:=.fields #[vl,vu,.none] } }:=I3.kept (t':=s3.toks) fun b ob q=>Heap.get?_push_of_some _ q
 obtain ⟨T,id,hT,ht,hg⟩:=hr pins { s3 with heap:=s3.heap.push { cls:=.type "slice",data:=.fields #[vl,vu,.none] } } σ H3 x v vl vu l u s3.heap.objs.size Q I4 r1 (Heap.IsSliceOf.new ..) pl pu q3
 show wpAny (model X.prog X.w) X.A (subscriptTail e (.Slice lo hi none p2) v (.ref s3.heap.objs.size)) (EP X pins σ Q) X.xe { s3 with heap:=s3.heap.push { cls:=.type "slice",data:=.fields #[vl,vu,.none] } }
 exact tail_any (ops:=[.ref s3.heap.objs.size,v]) ht hT hg (by with_unfolding_all rfl)
noncomputable def AX (xs:List V) (lo hi:Option Int):List V:=(xs.drop (HT.sIx xs.length 0 lo)).take (HT.sIx xs.length xs.length hi - HT.sIx xs.length 0 lo)
theorem xA (xs:List V) (lo hi:Option Int):(AX xs lo hi).length <= xs.length:=by
 unfold AX
 rw [List.length_take,List.length_drop]
 omega
end
end L2
namespace L2
open PySem PySem.Spec PyProof.Rows
noncomputable def ixN (n:Nat) (i:Int):Option Nat:=if 0 <= i then (if i < n then some i.toNat else none) else if -(n:Int) <= i then some (i + n).toNat else none
noncomputable def atI {α:Type} (xs:List α) (i:Int):Option α:=(ixN xs.length i).bind fun j=>xs[j]?
theorem zo {n:Nat} {i:Int} {j:Nat} (h:ixN n i = some j):seqIndex? i n = some j /\ j < n /\ -(n:Int) <= i /\ i < n:=by
 unfold ixN at h
 by_cases h0:0 <= i
 . rw [if_pos h0] at h
   by_cases h1:i < n
   . rw [if_pos h1] at h
     have e:i.toNat = j:=Option.some.inj h
     exact ⟨by rw [seqIndex_of h0 h1,e],by omega,by omega,h1⟩
   . rw [if_neg h1] at h; cases h
 . rw [if_neg h0] at h
   by_cases h1:-(n:Int) <= i
   . rw [if_pos h1] at h
     have e:(i + n).toNat = j:=Option.some.inj h
     exact ⟨by rw [seqIndex_neg (by omega) h1,e],by omega,h1,by omega⟩
   . rw [if_neg h1] at h; cases h
theorem zQ {α:Type} {xs:List α} {i:Int} {v:α} (h:atI xs i = some v):∃ j,seqIndex? i xs.length = some j /\ xs[j]? = some v /\ j < xs.length /\ -(xs.length:Int) <= i /\ i < xs.length:=by
 unfold atI at h
 cases e:ixN xs.length i with
 | none=>rw [e] at h; cases h
 | some j=>
   rw [e] at h
   obtain ⟨h1,h2,h3,h4⟩:=zo e
   exact ⟨j,h1,h,h2,h3,h4⟩
noncomputable def zJ (b:Expr):Prop:=∀ o i,subscripted b false o i = operate [o,i] (getItem o i)
noncomputable def IxR (X:Cx) (r:R2):Prop:=
 ∀ (value slice:Expr) (pins:List (Addr × Obj)) (s:Shared) (σ:St) (H:Hp) (x y:V) (v u:Value) (Q:VK),Inv X pins σ H s -> RelV x v -> RelV y u -> r x y H Q ->
   subscripted slice false v u = operate [v,u] (getItem v u) -> wpAny (model X.prog X.w) X.A (subscriptTail value slice v u) (EP X pins σ Q) X.xe s
noncomputable def MtR (X:Cx) (id:String) (r:V -> List V -> Hp -> VK -> Prop):Prop:=
 ∀ (pins:List (Addr × Obj)) (s:Shared) (σ:St) (H:Hp) (x:V) (xs:List V) (v:Value) (us:List Value) (Q:VK),Inv X pins σ H s -> RelV x v -> Vals xs us -> r x xs H Q ->
   wpAny (model X.prog X.w) X.A (call (.builtin id) (v ::us)) (EP X pins σ Q) X.xe s
section
variable {X:Cx} {a b:Expr} {ta tb:TE} {pos:Pos}
theorem JK {r:R2} (hr:IxR X r) (ha:PE X a ta) (hb:PE X b tb) (hs:zJ b):PE X (.Subscript a b pos) (tOp r ta tb):=by
 intro pins s σ H Q I h
 exact Subscript_ (Hr ha hb I h fun v u s2 x y H2 I2 rx ry q=>hr a b pins s2 σ H2 x y v u Q I2 rx ry q (hs _ _))
noncomputable def Jp (K:PySem.W.Frag):R2:=fun x y H Q=>∃ p xs i v,x = .ref p /\ y = .int i /\ SqL K H p xs /\ atI xs i = some v /\ Q v H
noncomputable def IW (K:PySem.W.Frag):R2:=fun x y H Q=>∃ p xs i v,x = .ref p /\ y = .int i /\ SqT K H p xs /\ atI xs i = some v /\ Q v H
theorem dy:IxR X (Jp X.K):=by
 intro value slice pins s σ H x y v u Q I rx ry h hs
 obtain ⟨p,xs,i,z,rfl,rfl,hq,he,q⟩:=h
 cases rx
 obtain ⟨t,rfl⟩:=ry
 obtain ⟨its,r,pl,hz⟩:=I.list hq
 obtain ⟨j,h1,h2,h3,h4,h5⟩:=zQ he
 obtain ⟨w,ew,rw'⟩:=r.get h2
 have hl:=r.length
 have hn:=tI
 have fin:EP X pins σ Q w s:=⟨z,H,I,rw',q⟩
 by_cases h0:0 <= i
 . have hj:i.toNat = j:=by
    rw [seqIndex_of h0 h5] at h1
    exact Option.some.inj h1
   exact item_listR pl.isList h0 (by omega) (by rw [hj]; simpa using ew) fin hs
 . have hj:(i + (its.toArray.size:Int)).toNat = j:=by
    rw [seqIndex_neg (by omega) h4] at h1
    rw [List.size_toArray,<- hl]
    exact Option.some.inj h1
   exact subscriptTail_builtinR (x:=w) pl.isList.typeIs slot_list_getitem.lookup
    (wpAny_getItem_list_neg (Q:=fun r s'=>r = w /\ EP X pins σ Q r s') pl.isList (by omega) (by rw [List.size_toArray] <;> omega) (by omega) (by rw [hj]; simpa using ew) ⟨rfl,fin⟩) hs
theorem iU:IxR X (IW X.K):=by
 intro value slice pins s σ H x y v u Q I rx ry h hs
 obtain ⟨p,xs,i,z,rfl,rfl,hq,he,q⟩:=h
 cases rx
 obtain ⟨t,rfl⟩:=ry
 obtain ⟨its,r,pl,hz⟩:=I.tuple hq
 obtain ⟨j,h1,h2,h3,h4,h5⟩:=zQ he
 obtain ⟨w,ew,rw'⟩:=r.get h2
 have hl:=r.length
 have hn:=tI
 have fin:EP X pins σ Q w s:=⟨z,H,I,rw',q⟩
 exact subscriptTail_builtinR (x:=w) pl.typeIs slot_tuple_getitem.lookup
  (getItem_tuple (j:=j) (Q:=fun r s'=>r = w /\ EP X pins σ Q r s') pl (by omega) (by omega) (by rw [List.size_toArray,<- hl]; exact h1) (by simpa using ew) ⟨rfl,fin⟩) hs
theorem x6 (its:List Value) (n j:Nat) (u:Value):Obj.mapSeq (·.setIfInBounds j u) { cls:=.type "list",data:=.seq its.toArray n } = { cls:=.type "list",data:=.seq (its.set j u).toArray n }:=by
 simp [Obj.mapSeq]
theorem Inv.lst {pins:List (Addr × Obj)} {σ:St} {H:Hp} {s:Shared} {p:Addr} {xs:List V} (I:Inv X pins σ H s) (h:H p = some (.lst xs)):
  ∃ (its:List Value) (n:Nat),Vals xs its /\ s.heap.get? p = some { cls:=.type "list",data:=.seq its.toArray n } /\ xs.length <= sizeLine:=by
 obtain ⟨z,its,n,r,e⟩:=I.hok p _ h
 exact ⟨its,n,r,e,z⟩
theorem Inv.F7 {pins:List (Addr × Obj)} {σ:St} {H:Hp} {s:Shared} {p:Addr} {xs ys:List V} {its its':List Value} {n n':Nat} {f:Obj -> Obj} (I:Inv X pins σ H s) (h:H p = some (.lst xs))
  (ho:s.heap.get? p = some { cls:=.type "list",data:=.seq its.toArray n }) (hf:f { cls:=.type "list",data:=.seq its.toArray n } = { cls:=.type "list",data:=.seq its'.toArray n' }) (r:Vals ys its') (hz:ys.length <= sizeLine) (t:Nat):
  Inv X pins σ (upd H p (.lst ys)) { s with heap:=s.heap.update p f,toks:=t }:=by
 have e:(s.heap.update p f).get? p = some { cls:=.type "list",data:=.seq its'.toArray n' }:=by
  rw [Heap.get?_update_self f ho (by rw [hf] <;> rfl),hf]
 refine I.write (x:=p) (e:=p) (by rw [h]; trivial) (.inl rfl) (fun b u hb q=>(Heap.get?_update_other _ _ (Ne.symm hb)).trans q) ⟨_,e⟩ ?_
 exact ⟨hz,its',n',r,e⟩
noncomputable def FX:V -> V -> V -> Hp -> (Hp -> Prop) -> Prop:=fun o i v H Q=>∃ p xs k j,o = .ref p /\ i = .int k /\ H p = some (.lst xs) /\ ixN xs.length k = some j /\ Q (upd H p (.lst (xs.set j v)))
theorem set_list:G0 X FX:=by
 intro pins s σ H o i v ov iv u Q I ro ri rv h
 obtain ⟨p,xs,k,j,rfl,rfl,hp,hj,q⟩:=h
 cases ro
 obtain ⟨t,rfl⟩:=ri
 obtain ⟨its,n,r,ho,hz⟩:=I.lst hp
 obtain ⟨h1,h2,h3,h4⟩:=zo hj
 have hl:=r.length
 have hn:=tI
 have I':Inv X pins σ (upd H p (.lst (xs.set j v))) { s with heap:=s.heap.update p (Obj.mapSeq (·.setIfInBounds j u)) }:=
  I.F7 hp ho (x6 its n j u) (r.set rv j) (by rw [List.length_set]; exact hz) s.toks
 by_cases h0:0 <= k
 . have hk:k.toNat = j:=by
    rw [seqIndex_of h0 h4] at h1
    exact Option.some.inj h1
   exact PySem.W.ki_setAt ho h0 (by omega) (by rw [List.size_toArray,<- hl]; exact h4) (by rw [hk]; exact ⟨_,I',q⟩)
 . have hk:(k + (its.toArray.size:Int)).toNat = j:=by
    rw [seqIndex_neg (by omega) h3] at h1
    rw [List.size_toArray,<- hl]
    exact Option.some.inj h1
   exact PySem.W.ki_setBack ho (by omega) (by rw [List.size_toArray,<- hl]; exact h3) (by omega) (by rw [hk]; exact ⟨_,I',q⟩)
theorem v8 (lo hi:Option Int) (n:Nat):(sliceBounds lo hi none n).1 = ((HT.sIx n 0 lo:Nat):Int) /\ (sliceBounds lo hi none n).2.1 = ((HT.sIx n n hi:Nat):Int) /\ (sliceBounds lo hi none n).2.2 = 1:=by
 refine ⟨?_,?_,rfl⟩
 . cases lo with
   | none=>simp [sliceBounds,HT.sIx]
   | some i=>
     simp only [sliceBounds,HT.sIx,Option.getD_none,show (1:Int) > 0 by decide,if_true]
     by_cases h:i < 0
     . simp only [h,if_true] <;> omega
     . simp only [h,if_false] <;> omega
 . cases hi with
   | none=>simp [sliceBounds,HT.sIx]
   | some i=>
     simp only [sliceBounds,HT.sIx,Option.getD_none,show (1:Int) > 0 by decide,if_true]
     by_cases h:i < 0
     . simp only [h,if_true] <;> omega
     . simp only [h,if_false] <;> omega
theorem uf (its:List Value) (lo hi:Option Int):slicePick its.toArray lo hi none = ((its.drop (HT.sIx its.length 0 lo)).take (HT.sIx its.length its.length hi - HT.sIx its.length 0 lo)).toArray:=by
 obtain ⟨h1,h2,h3⟩:=v8 lo hi its.toArray.size
 unfold slicePick
 rw [h1,h2,h3]
 simp only [sliceRange_one,pick_run,List.size_toArray] <;> rfl
noncomputable def IV (K:PySem.W.Frag):V -> Option Int -> Option Int -> Hp -> VK -> Prop:=fun x lo hi H Q=>∃ a xs,x = .ref a /\ SqL K H a xs /\ ∀ p,H p = none -> Q (.ref p) (upd H p (.lst (AX xs lo hi)))
theorem vT:SlR X (IV X.K):=by
 intro pins s σ H x v vl vu lo hi sl Q I rx hs pl pu h
 obtain ⟨a,xs,rfl,hx,q⟩:=h
 cases rx
 obtain ⟨its,r,ht,hz⟩:=I.list hx
 have hlen:=r.length
 refine ⟨"list",_,slot_list_getitem.lookup,ht.isList.typeIs,?_⟩
 refine wpAny_getItem_list_slice ht.isList hs pl pu .none (by simp) ?_ (by rw [List.size_toArray] <;> omega)
 rw [uf,<- hlen]
 refine ⟨.ref s.heap.objs.size,_,I.laid (t':=s.toks) (o:=.lst (AX xs lo hi)) (fun b ob q=>Heap.get?_push_of_some _ q) (Nat.le_refl _) ?_,rfl,q _ (I.hok.fresh (Nat.le_refl _))⟩
 exact ⟨Nat.le_trans (xA xs lo hi) hz,_,0,(r.drop (HT.sIx xs.length 0 lo)).take (HT.sIx xs.length xs.length hi - HT.sIx xs.length 0 lo),Heap.get?_push_size _ rfl⟩
noncomputable def pe:V -> Bool
 | .non=>true
 | .bl _=>true
 | .int _=>true
 | .str _=>true
 | _=>false
noncomputable def eqV:V -> V -> Bool
 | .non,.non=>true
 | .bl a,.bl b=>a == b
 | .bl a,.int b=>(if a then 1 else 0) == b
 | .int a,.bl b=>a == (if b then 1 else 0)
 | .int a,.int b=>a == b
 | .str a,.str b=>a == b
 | _,_=>false
theorem Hz {A:Around} {s:Shared} {y x:V} {u v:Value} (ry:RelV y u) (rx:RelV x v) (fy:pe y = true) (fx:pe x = true):SeqAt.EqAt A s u v (eqV y x):=by
 cases y with
 | non=>
   cases ry
   cases x with
   | non=>cases rx; exact SeqAt.EqAt.same _
   | bl b=>cases rx; exact SeqAt.EqAt.none_bool b
   | int b=>obtain ⟨t,rfl⟩:=rx; exact SeqAt.EqAt.none_int b t
   | str b=>obtain ⟨t,rfl⟩:=rx; exact SeqAt.EqAt.none_str b t
   | _=>exact absurd (show false = true from fx) Bool.false_ne_true
 | bl a=>
   cases ry
   cases x with
   | non=>cases rx; exact SeqAt.EqAt.bool_none a
   | bl b=>cases rx; exact SeqAt.EqAt.bool_bool a b
   | int b=>obtain ⟨t,rfl⟩:=rx; exact SeqAt.EqAt.bool_int a b t
   | str b=>obtain ⟨t,rfl⟩:=rx; exact SeqAt.EqAt.bool_str a b t
   | _=>exact absurd (show false = true from fx) Bool.false_ne_true
 | int a=>
   obtain ⟨t',rfl⟩:=ry
   cases x with
   | non=>cases rx; exact SeqAt.EqAt.int_none a t'
   | bl b=>cases rx; exact SeqAt.EqAt.int_bool a t' b
   | int b=>obtain ⟨t,rfl⟩:=rx; exact SeqAt.EqAt.int_int a t' b t
   | str b=>obtain ⟨t,rfl⟩:=rx; exact SeqAt.EqAt.int_str a t' b t
   | _=>exact absurd (show false = true from fx) Bool.false_ne_true
 | str a=>
   obtain ⟨t',rfl⟩:=ry
   cases x with
   | non=>cases rx; exact SeqAt.EqAt.str_none a t'
   | bl b=>cases rx; exact SeqAt.EqAt.str_bool a t' b
   | int b=>obtain ⟨t,rfl⟩:=rx; exact SeqAt.EqAt.str_int a t' b t
   | str b=>obtain ⟨t,rfl⟩:=rx; exact SeqAt.EqAt.str_str a t' b t
   | _=>exact absurd (show false = true from fx) Bool.false_ne_true
 | _=>exact absurd (show false = true from fy) Bool.false_ne_true
noncomputable def eqU (x:V) (u:Value):Bool:=match u with
 | .none=>eqV .non x
 | .bool b=>eqV (.bl b) x
 | .int i _=>eqV (.int i) x
 | .str z _=>eqV (.str z) x
 | _=>false
theorem Dk {x y:V} {u:Value} (r:RelV y u) (f:pe y = true):eqU x u = eqV y x:=by
 cases y with
 | non=>cases r; rfl
 | bl b=>cases r; rfl
 | int i=>obtain ⟨t,rfl⟩:=r; rfl
 | str z=>obtain ⟨t,rfl⟩:=r; rfl
 | _=>exact absurd (show false = true from f) Bool.false_ne_true
theorem pW {x:V}:∀ {xs:List V} {us:List Value},Vals xs us -> xs.all pe = true -> us.any (eqU x) = xs.any fun y=>eqV y x
 | _,_,.nil,_=>rfl
 | y ::xs,u ::us,.cons r t,f=>by
   rw [List.all_cons,Bool.and_eq_true] at f
   rw [List.any_cons,List.any_cons,Dk r f.1,pW t f.2]
theorem oj {A:Around} {s:Shared} {x:V} {v:Value} (rx:RelV x v) (fx:pe x = true):∀ {xs:List V} {us:List Value},Vals xs us -> xs.all pe = true -> ∀ u ∈ us,SeqAt.EqAt A s u v (eqU x u)
 | _,_,.nil,_=>fun u hu=>by cases hu
 | y ::xs,u ::us,.cons r t,f=>fun u' hu=>by
   rw [List.all_cons,Bool.and_eq_true] at f
   rcases List.mem_cons.mp hu with rfl | hu
   . rw [Dk r f.1]; exact Hz r rx f.1 fx
   . exact oj rx fx t f.2 u' hu
noncomputable def inV (x:V) (xs:List V):Bool:=xs.any fun y=>eqV y x
noncomputable def rIn (K:PySem.W.Frag) (neg:Bool):R2:=fun x y H Q=>∃ p xs,y = .ref p /\ (SqL K H p xs \/ SqT K H p xs) /\ pe x = true /\ xs.all pe = true /\ Q (.bl (if neg then !inV x xs else inV x xs)) H
theorem AV:OpR X (compareOp .In) (rIn X.K false):=by
 intro pins s σ H x y v u Q I rx ry h
 obtain ⟨p,xs,rfl,hq,fx,fs,q⟩:=h
 cases ry
 rcases hq with hq | hq
 . obtain ⟨its,r,pl,hz⟩:=I.list hq
   refine SeqAt.in_listAt (eqU x) pl.isList (fun w hw=>oj rx fx r fs w (by simpa using hw)) ⟨.bl _,H,I,rfl,?_⟩
   rw [show its.toArray.any (eqU x) = its.any (eqU x) by simp,pW r fs]
   exact q
 . obtain ⟨its,r,pl,hz⟩:=I.tuple hq
   refine SeqAt.in_tupleAt (eqU x) pl (fun w hw=>oj rx fx r fs w (by simpa using hw)) ⟨.bl _,H,I,rfl,?_⟩
   rw [show its.toArray.any (eqU x) = its.any (eqU x) by simp,pW r fs]
   exact q
theorem vy:OpR X (compareOp .NotIn) (rIn X.K true):=by
 intro pins s σ H x y v u Q I rx ry h
 obtain ⟨p,xs,rfl,hq,fx,fs,q⟩:=h
 cases ry
 rcases hq with hq | hq
 . obtain ⟨its,r,pl,hz⟩:=I.list hq
   refine SeqAt.notIn_listAt (eqU x) pl.isList (fun w hw=>oj rx fx r fs w (by simpa using hw)) ⟨.bl _,H,I,rfl,?_⟩
   rw [show its.toArray.any (eqU x) = its.any (eqU x) by simp,pW r fs]
   exact q
 . obtain ⟨its,r,pl,hz⟩:=I.tuple hq
   refine SeqAt.notIn_tupleAt (eqU x) pl (fun w hw=>oj rx fx r fs w (by simpa using hw)) ⟨.bl _,H,I,rfl,?_⟩
   rw [show its.toArray.any (eqU x) = its.any (eqU x) by simp,pW r fs]
   exact q
theorem cw:o3 X (.builtin "len") (fun xs H Q=>∃ p ys,xs = [.ref p] /\ (SqL X.K H p ys \/ SqT X.K H p ys) /\ Q (.int ys.length) H):=by
 intro pins s σ H xs us Q I r h
 obtain ⟨p,ys,rfl,hq,q⟩:=h
 obtain ⟨u,rfl,rx⟩:=vals1 r
 cases rx
 have hn:=tI
 rcases hq with hq | hq
 . obtain ⟨its,r',pl,hz⟩:=I.list hq
   have hlen:=r'.length
   exact Calls.call_len_list pl.isList (by simp only [List.size_toArray] <;> omega) ⟨.int ys.length,H,I.tok _,⟨s.toks + 1,by rw [List.size_toArray,hlen]⟩,q⟩
 . obtain ⟨its,r',pl,hz⟩:=I.tuple hq
   have hlen:=r'.length
   exact len_tuple pl (by simp only [List.size_toArray] <;> omega) ⟨.int ys.length,H,I.tok _,⟨s.toks + 1,by rw [List.size_toArray,hlen]⟩,q⟩
theorem wc:o3 X (.type "list") (fun xs H Q=>∃ p ys,xs = [.ref p] /\ (SqL X.K H p ys \/ SqT X.K H p ys) /\ ∀ l,H l = none -> Q (.ref l) (upd H l (.lst ys))):=by
 intro pins s σ H xs us Q I r h
 obtain ⟨p,ys,rfl,hq,q⟩:=h
 obtain ⟨u,rfl,rx⟩:=vals1 r
 cases rx
 have fin:∀ (its:List Value),Vals ys its -> ys.length <= sizeLine -> ∀ (h':Heap) (c':Nat),(∀ b o',s.heap.get? b = some o' -> h'.get? b = some o') ->
   h'.get? s.heap.objs.size = some { cls:=.type "list",dict:=none,data:=.seq its.toArray c',slots:=#[] } -> EP X pins σ Q (.ref s.heap.objs.size) { s with heap:=h' }:=fun its r' hz h' c' kp e=>
  ⟨.ref s.heap.objs.size,_,I.laid (t':=s.toks) kp (Nat.le_refl _) (show gm X.prog X.w _ h' _ (.lst ys) from ⟨hz,its,c',r',e⟩),rfl,q _ (I.hok.fresh (Nat.le_refl _))⟩
 rcases hq with hq | hq
 . obtain ⟨its,r',pl,hz⟩:=I.list hq
   have hlen:=r'.length
   obtain ⟨o,ho,hc,n,hd⟩:=pl.isList
   exact call_list_seq p (.inl rfl) ho hc hd (fun h' c' kp e=>fin its r' hz h' c' kp e) (by simp only [List.size_toArray] <;> omega)
 . obtain ⟨its,r',pl,hz⟩:=I.tuple hq
   have hlen:=r'.length
   obtain ⟨o,ho,hc,n,hd⟩:=pl
   exact call_list_seq p (.inr rfl) ho hc hd (fun h' c' kp e=>fin its r' hz h' c' kp e) (by simp only [List.size_toArray] <;> omega)
noncomputable def tyV (K:PySem.W.Frag) (T:String) (x:V) (H:Hp):Prop:=match x with
 | .str _=>T = "str"
 | .int _=>T = "int"
 | .ref p=>(T = "list" /\ ∃ xs,SqL K H p xs) \/ (T = "tuple" /\ ∃ o,K.lookup p = some o /\ o.cls = .type "tuple" /\ o.dict = none) \/
    (T = "dict" /\ ((∃ kvs,H p = some (.dK kvs)) \/ ∃ kvs,H p = some (.dT kvs))) \/ (T = "set" /\ ∃ S n,H p = some (.set S n))
 | _=>False
theorem CT {pins:List (Addr × Obj)} {σ:St} {H:Hp} {s:Shared} {T:String} {x:V} {v:Value} (I:Inv X pins σ H s) (r:RelV x v) (ty:tyV X.K T x H):
  s.TypeIs v T /\ ∀ a,v = .ref a -> ∃ ob,s.heap.get? a = some ob /\ ob.dict = none:=by
 cases x with
 | str z=>
   obtain ⟨t,rfl⟩:=r
   cases (show T = "str" from ty)
   exact ⟨typeIs_str s z t,fun _ e=>nomatch e⟩
 | int i=>
   obtain ⟨t,rfl⟩:=r
   cases (show T = "int" from ty)
   exact ⟨typeIs_int s i t,fun _ e=>nomatch e⟩
 | ref p=>
   cases r
   rcases ty with ⟨rfl,xs,hq⟩ | ⟨rfl,o,hk,hc,hd⟩ | ⟨rfl,hk⟩ | ⟨rfl,S,n,hk⟩
   . obtain ⟨its,_,pl,_⟩:=I.list hq
     refine ⟨pl.isList.typeIs,fun a e=>?_⟩
     cases e
     obtain ⟨o,n,e,c,hd,_⟩:=pl
     exact ⟨o,e,hd⟩
   . refine ⟨⟨o,I.kIn p o hk,hc⟩,fun a e=>?_⟩
     cases e
     exact ⟨o,I.kIn _ o hk,hd⟩
   . have z:∃ o,s.heap.get? p = some o /\ o.ExactDict:=by
      rcases hk with ⟨kvs,hk⟩ | ⟨kvs,hk⟩
      . obtain ⟨_,_,_,_,o,_,_,e,ex,_⟩:=I.hok p _ hk
        exact ⟨o,e,ex⟩
      . obtain ⟨_,_,_,_,o,_,_,e,ex,_⟩:=I.hok p _ hk
        exact ⟨o,e,ex⟩
     obtain ⟨o,e,ex⟩:=z
     refine ⟨⟨o,e,ex.1⟩,fun a e2=>?_⟩
     cases e2
     exact ⟨o,e,ex.2.1⟩
   . obtain ⟨o,_,_,_,e,ex,_⟩:=I.hok p _ hk
     refine ⟨⟨o,e,ex.1⟩,fun a e2=>?_⟩
     cases e2
     exact ⟨o,e,ex.2.1⟩
 | _=>exact False.elim ty
noncomputable def G6 (K:PySem.W.Frag) (T:String) (r:V -> List V -> Hp -> VK -> Prop) (to:TE):TE:=fun σ H Q=>to σ H fun x H1=>tyV K T x H1 /\ r x [] H1 Q
noncomputable def tBM (K:PySem.W.Frag) (T:String) (r:V -> List V -> Hp -> VK -> Prop) (to:TE) (t:TA):TE:=fun σ H Q=>to σ H fun x H1=>tyV K T x H1 /\ t σ H1 fun xs H2=>r x xs H2 Q
variable {o e:Expr} {es:List Expr} {to:TE} {t:TA} {name:Str} {apos cpos:Pos} {T id:String} {r:V -> List V -> Hp -> VK -> Prop}
theorem GJ (pa:PlainAttrs T) (slot:Slot T name id) (hty:typeOf (.builtin id) = pure (.type "method_descriptor")) (hm:MtR X id r) (ho:PE X o to)
  (hbase:attributeBase o name X.env (eval o X.env) = eval o X.env:=by rfl) (hline:(apos.endLine == cpos.line) = true:=by rfl):PE X (.Call (.Attribute o name apos) [] [] cpos) (G6 X.K T r to):=by
 intro pins s σ H Q I h
 refine wpAny_Call_method0_late hbase hline (thn (ho pins s σ H _ I h) fun v s1 ⟨x,H1,I1,r1,ty,q1⟩=>?_)
 obtain ⟨h1,h2⟩:=CT I1 r1 ty
 exact ⟨T,id,pa,slot,hty,h1,h2,Calls.callWith_builtin rfl (PySem.evalArgs_none (hm pins s1 σ H1 x [] v [] Q I1 r1 .nil q1))⟩
theorem IL (pa:PlainAttrs T) (slot:Slot T name id) (hty:typeOf (.builtin id) = pure (.type "method_descriptor")) (hm:MtR X id r) (ho:PE X o to) (ha:PA X (e ::es) t)
  (hbase:attributeBase o name X.env (eval o X.env) = eval o X.env:=by rfl)
  (hfew:((backTo cpos (starEach (e ::es) X.env)).all (fun x=>!x.1) && (backToKw cpos (keywordEach [] X.env)).all (fun x=>x.1.isSome)
    && decide ((e ::es).length + ([]:List Keyword).length + (if ([]:List Keyword).isEmpty then 0 else 1) < 30)) = true:=by rfl)
  (hline:(apos.endLine == cpos.line) = true:=by rfl) (hs:starEach (e ::es) X.env = (false,eval e X.env) ::starEach es X.env:=by rfl) (hplain:(backTo cpos (starEach es X.env)).any (·.1) = false:=by rfl):
  PE X (.Call (.Attribute o name apos) (e ::es) [] cpos) (tBM X.K T r to t):=by
 intro pins s σ H Q I h
 refine wpAny_Call_method_late hbase hfew hline rfl (thn (ho pins s σ H _ I h) fun v s1 ⟨x,H1,I1,r1,ty,q1⟩=>?_)
 obtain ⟨h1,h2⟩:=CT I1 r1 ty
 refine ⟨T,id,pa,slot,hty,h1,h2,?_⟩
 have hA:=ha cpos pins s1 σ H1 _ I1 q1
 rw [hs] at hA ⊢
 refine Calls.callWith_builtin (by show (false || (backTo cpos (starEach es X.env)).any (·.1)) = false; rw [hplain] <;> rfl) (Calls.evalArgs_plain ?_)
 exact thn hA fun us s2 ⟨vs,H2,I2,r2,q2⟩=>hm pins s2 σ H2 x vs v us Q I2 r1 r2 q2
end
end L2
namespace L2
open PySem PySem.Spec PyProof.Rows
noncomputable def MtM (X:Cx) (id:String) (r:V -> List V -> Hp -> VK -> Prop):Prop:=
 ∀ (pins:List (Addr × Obj)) (s:Shared) (σ:St) (H:Hp) (x:V) (xs:List V) (v:Value) (us:List Value) (Q:VK),Inv X pins σ H s -> RelV x v -> Vals xs us -> r x xs H Q ->
   wpAny (model X.prog X.w) X.A (call (.builtin id) (v ::us)) (EP X pins σ Q) X.xe s
theorem Vals.one:∀ {x:V} {us:List Value},Vals [x] us -> ∃ u,us = [u] /\ RelV x u
 | _,_,.cons r .nil=>⟨_,rfl,r⟩
theorem Vals.two:∀ {x y:V} {us:List Value},Vals [x,y] us -> ∃ u v,us = [u,v] /\ RelV x u /\ RelV y v
 | _,_,_,.cons r (.cons q .nil)=>⟨_,_,rfl,r,q⟩
theorem Vals.zero:∀ {us:List Value},Vals [] us -> us = []
 | _,.nil=>rfl
theorem Vals.dropLast {xs:List V} {us:List Value} (h:Vals xs us):Vals xs.dropLast us.dropLast:=by
 induction h with
 | nil=>exact .nil
 | cons r t ih=>
   cases t with
   | nil=>exact .nil
   | cons q t'=>exact .cons r ih
theorem Vals.eraseIdx:∀ {xs:List V} {us:List Value} (i:Nat),Vals xs us -> Vals (xs.eraseIdx i) (us.eraseIdx i)
 | _,_,_,.nil=>.nil
 | _,_,0,.cons _ t=>t
 | _,_,i + 1,.cons r t=>.cons r (Vals.eraseIdx i t)
theorem yj {α:Type} (l:List α):l.eraseIdx (l.length - 1) = l.dropLast:=by
 induction l with
 | nil=>rfl
 | cons a r ih=>
   cases r with
   | nil=>rfl
   | cons b r=>
     have e:(a ::b ::r).length - 1 = ((b ::r).length - 1) + 1:=by
      have h1:(a ::b ::r).length = r.length + 2:=rfl
      have h2:(b ::r).length = r.length + 1:=rfl
      omega
     rw [e,List.eraseIdx_cons_succ,ih]
     all_goals rfl
section
variable {X:Cx} {pins:List (Addr × Obj)} {σ:St} {H:Hp} {s:Shared} {l b:Addr} {xs ys zs:List V}
theorem Inv.GU {its its':List Value} {n:Nat} {f:Array Value -> Array Value} {t':Nat} (I:Inv X pins σ H s) (hH:H l = some (.lst xs))
  (e:s.heap.get? l = some { cls:=.type "list",data:=.seq its.toArray n }) (hf:f its.toArray = its'.toArray) (hv:Vals ys its') (hz:ys.length <= sizeLine):
  Inv X pins σ (upd H l (.lst ys)) { s with heap:=s.heap.update l (Obj.mapSeq f),toks:=t' }:=by
 have q:=PySem.IsL.update e f
 rw [hf] at q
 refine I.write (x:=l) (e:=l) (by rw [hH]; exact trivial) (.inl rfl) (fun b' u hb hu=>(Heap.get?_update_other s.heap (Obj.mapSeq f) (Ne.symm hb)).trans hu) ⟨_,q⟩ ?_
 exact ⟨hz,its',_,hv,q⟩
theorem Inv.Dr {its:List Value} {t':Nat} (I:Inv X pins σ H s) (hv:Vals ys its) (hz:ys.length <= sizeLine):
  Inv X pins σ (upd H s.heap.objs.size (.lst ys)) { s with heap:=s.heap.push { cls:=.type "list",data:=.seq its.toArray },toks:=t' }:=
 I.laid (fun _ _ q=>Heap.get?_push_of_some _ q) (Nat.le_refl _) ⟨hz,its,0,hv,Heap.get?_push_size _ rfl⟩
theorem Inv.fresh (I:Inv X pins σ H s):H s.heap.objs.size = none:=I.hok.fresh (Nat.le_refl _)
theorem Inv.D4 (I:Inv X pins σ H s) (hH:H l = some (.lst xs)):xs.length <= sizeLine /\ ∃ (its:List Value) (n:Nat),Vals xs its /\ xs.length = its.length /\ s.heap.get? l = some { cls:=.type "list",data:=.seq its.toArray n }:=by
 obtain ⟨z,its,n,r,e⟩:=I.hok l _ hH
 exact ⟨z,its,n,r,r.length,e⟩
theorem CQ {n:Nat} (h:n <= sizeLine):Builtin.List.listTooLong n = false:=by
 unfold Builtin.List.listTooLong
 exact decide_eq_false (by omega)
end
section
variable {X:Cx}
noncomputable def vK:V -> List V -> Hp -> VK -> Prop:=fun x vs H Q=>∃ l xs y,x = .ref l /\ vs = [y] /\ H l = some (.lst xs) /\ xs.length < sizeLine /\ Q .non (upd H l (.lst (xs ++ [y])))
theorem jy:MtM X "list.append" vK:=by
 intro pins s σ H x vs v us Q I rx rv h
 obtain ⟨l,xs,y,rfl,rfl,hH,hz,q⟩:=h
 cases rx
 obtain ⟨u,rfl,ru⟩:=rv.one
 obtain ⟨z,its,n,r,hl,e⟩:=I.D4 hH
 refine call_meets F.slot_list_append ⟨_,e,rfl⟩ F.entry_list_append (F.args_list_append_2 _ _) (PySem.list_append l its.toArray n u (by rw [List.size_toArray]; omega)) ⟨e,?_⟩
 refine ⟨.non,_,I.GU (its':=its ++ [u]) hH e (by simp) (r.append (.cons ru .nil)) ?_,rfl,q⟩
 rw [List.length_append,List.length_singleton]
 omega
noncomputable def zI:V -> List V -> Hp -> VK -> Prop:=fun x vs H Q=>∃ l b xs zs,x = .ref l /\ vs = [.ref b] /\ H l = some (.lst xs) /\ H b = some (.lst zs) /\ xs.length + zs.length <= sizeLine /\ Q .non (upd H l (.lst (xs ++ zs)))
theorem Al:MtM X "list.extend" zI:=by
 intro pins s σ H x vs v us Q I rx rv h
 obtain ⟨l,b,xs,zs,rfl,rfl,hH,hB,hz,q⟩:=h
 cases rx
 obtain ⟨u,rfl,ru⟩:=rv.one
 cases ru
 obtain ⟨z,its,n,r,hl,e⟩:=I.D4 hH
 obtain ⟨z2,its2,n2,r2,hl2,e2⟩:=I.D4 hB
 have hsz:its.toArray.size + its2.toArray.size <= sizeLine:=by rw [List.size_toArray,List.size_toArray]; omega
 have hlong:¬ (!its.toArray.isEmpty && Builtin.List.listTooLong (its.toArray.size + its2.toArray.size)) = true:=by
  rw [CQ hsz,Bool.and_false]
  exact Bool.false_ne_true
 refine call_meets F.slot_list_extend ⟨_,e,rfl⟩ F.entry_list_extend (F.args_list_extend_2 _ _)
  (AutoSeq1.list_extend_list_list_0 l its.toArray n b its2.toArray n2 hlong (by rw [List.size_toArray]; omega) (by omega)) ⟨e,e2,?_⟩
 refine ⟨.non,_,I.GU (its':=its ++ its2) hH e (by simp) (r.append r2) ?_,rfl,q⟩
 rw [List.length_append]
 omega
noncomputable def JL:V -> List V -> Hp -> VK -> Prop:=fun x vs H Q=>∃ l xs y,x = .ref l /\ vs = [] /\ H l = some (.lst xs) /\ xs[xs.length - 1]? = some y /\ Q y (upd H l (.lst xs.dropLast))
theorem BU:MtM X "list.pop" JL:=by
 intro pins s σ H x vs v us Q I rx rv h
 obtain ⟨l,xs,y,rfl,rfl,hH,hy,q⟩:=h
 cases rx
 have hus:=rv.zero
 subst hus
 obtain ⟨z,its,n,r,hl,e⟩:=I.D4 hH
 obtain ⟨u,hu,ru⟩:=r.get hy
 have hy':its.toArray[its.toArray.size - 1]? = some u:=by
  show its.toArray[its.length - 1]? = some u
  rw [<- Array.getElem?_toList,<- hl]
  exact hu
 refine call_meets F.slot_list_pop ⟨_,e,rfl⟩ F.entry_list_pop (F.args_list_pop_1 _) (MeetsSeq.list_pop_last l its.toArray n u hy' (by rw [List.size_toArray]; omega)) ⟨e,?_⟩
 refine ⟨y,_,I.GU (its':=its.dropLast) hH e ?_ r.dropLast ?_,ru,q⟩
 . show its.toArray.eraseIdxIfInBounds (its.toArray.size - 1) = its.dropLast.toArray
   rw [List.size_toArray,List.eraseIdxIfInBounds_toArray,yj]
 . rw [List.length_dropLast]
   omega
end
section
variable {prog:Program} {w:World} {A:Around} {E:Value -> Shared -> Prop} {s:Shared}
set_option maxRecDepth 100000 in
end
end L2
namespace Att
open PySem PySem.W PySem.Calls PyProof.Rows
theorem rL {P:Params} {h:Heap}:∀ (ns:List Int) (vs:List Value),WellAll P h vs (ns.map WData.int) -> IntsAre vs ns:=by
 intro ns
 induction ns with
 | nil=>
   intro vs w
   rw [List.map_nil] at w
   cases w
   exact .nil
 | cons n ns ih=>
   intro vs w
   rw [List.map_cons] at w
   cases w with
   | cons a b=>
     cases a
     exact .cons _ _ (ih _ b)
theorem Bc {l:OpenLaw} {n:Nat} (hn:l.most = some n) {P:Params} {h:Heap} {args:List WData} {vals:List Value}
  (hpre:l.row.toRowW.claim.pre args = true) (hwl:WellAll P h vals args):
  ∃ a vs ns,vals = [Value.ref a] /\ args = [WData.list (ns.map WData.int)] /\ h.get? a = some { cls:=.type "list",data:=.seq vs.toArray } /\ IntsAre vs ns /\ ns.length <= n:=by
 have hsh:WShape.hasAll [] args [.list .int] = true:=(pre_splitW hpre).1
 have hc:l.pre.holds [] { args:=args } = true:=(pre_splitW hpre).2
 obtain ⟨d,r,rfl,h1,h2⟩:=hasAllW_cons hsh
 obtain rfl:=hasAllW_nil h2
 obtain ⟨xs,rfl,h3⟩:=hasW_list h1
 obtain ⟨ns,rfl⟩:=items_int h3
 have hlen:ns.length <= n:=by
  unfold OpenLaw.pre at hc
  have h4:(WTm.not (.lt (.lit (.int (n:Int))) (.len (.arg 0)))).holds [] { args:=[.list (ns.map .int)] } = true:=by
   have h4:=(holds_andW hc).1
   rw [hn] at h4
   exact h4
  have h5:=condW_of h4 (w_not (w_lt w_lit (w_len_list (w_arg rfl))))
  rw [List.length_map] at h5
  refine Nat.le_of_not_lt fun q=>?_
  have q':(n:Int) < ((ns.length:Nat):Int):=by omega
  first
   | (rw [decide_eq_true q'] at h5; exact absurd h5 (by decide))
   | (simp at h5; omega)
 cases hwl with
 | cons w1 w2=>
   cases w2
   cases w1 with
   | list ho hall=>exact ⟨_,_,ns,rfl,rfl,ho,rL ns _ hall,hlen⟩
theorem Au (l:OpenLaw) (args:List WData):l.row.toRowW.claim.post args (.bool true) args = true:=
 postW_of (r:=l.row.toRowW) (X:=(true == true))
  (show WShape.has [] (.bool true) .bool = true by first | rfl | decide | simp [WShape.has,WShape.arms,WShape.armsAll])
  (show (WTm.eq .res (.lit (.bool true))).value [] { args:=args,res:=some (.bool true),after:=args } = some (.bool (true == true)) from w_eq_bool (w_res rfl) w_lit) rfl
theorem xb {l:OpenLaw} {n:Nat} {q:Program} {loose:List Str} {XP:(Str -> Option Value) -> Heap -> Prop} {YP:World -> Heap -> Prop} {d:DefRec}
  (hn:l.most = some n) (hdf:d.params.defaults = [])
  (call:∀ (w:World) (s₀ s₁:Shared) (mg mb:Str -> Option Value) (fa:Addr) (o:Obj) (pm cd doc:Value) (a:Addr) (vs:List Value) (ns:List Int),
    Ground q loose [] XP w s₀ mg mb s₁.heap -> YP w s₁.heap ->
    s₁.heap.get? fa = some o -> o.data = .func (docDef d.name d.params d.body d.scope pm cd doc) -> s₁.heap.CodeRec cd d.name -> mg d.name = some (.ref fa) ->
    s₁.heap.get? a = some { cls:=.type "list",data:=.seq vs.toArray } -> IntsAre vs ns -> ns.length <= n -> s₁.gens = #[] ->
    codeAny (model l.prog w) callerA (.call (.ref fa) ⟨[.ref a],[]⟩) (fun r s'=>r = .ok (.ret (.bool true)) /\ OldK s₁.heap s'.heap /\ s'.os = s₁.os /\ AllBare s'.gens) s₁):
  WalkO q loose XP YP l.row.toRowW d [] (fun f vs=>PySem.call f vs):=by
 intro w s₀ s₁ mg mb G Y fa o pm cd doc dV kV ho hd hcd hD hmg hg args vals as hpre hlay hrd hwl hlo
 obtain rfl:dV = .none:=Dflts.none hD hdf
 obtain rfl:kV = .none:=Dflts.noKw hD
 obtain ⟨a,vs,ns,rfl,rfl,hobj,hints,hlen⟩:=Bc hn hpre hwl
 refine enter_call (codeAny_mono (call w s₀ s₁ mg mb fa o pm cd doc a vs ns G Y ho (fd_plain hd) hcd hmg hobj hints hlen hg) fun r s' hq=>?_)
 obtain ⟨rfl,h2,h3,h4⟩:=hq
 exact ⟨.inl ⟨.bool true,.bool true,[],rfl,fun _=>rfl,.bool true,Au l _,fun _=>⟨List.Pairwise.nil,fun _ hm=>(nomatch hm)⟩⟩,h2,h3,h4⟩
end Att
namespace L2
open PySem PySem.Spec PyProof.Rows
theorem uQ:∀ {vs:List Value} {ns:List Int},IntsAre vs ns -> Vals (ns.map V.int) vs
 | _,_,.nil=>.nil
 | _,_,.cons n t h=>.cons ⟨t,rfl⟩ (uQ h)
noncomputable def Gq (H:Hp):Prop:=∀ b,H b = none \/ ∃ o xs,H b = some (.frz o (.lst xs))
theorem B8 {P:Program} {w:World} {K:PySem.W.Frag} {mg mb:Str -> Option Value} {CX:CXT} {k:Nat} {fa a:Addr} {fd:FuncData} {x:Str} {sp:Sp} {s₁:Shared} {vs:List Value} {ns:List Int}
  (KX:K.In s₁.heap) (hns:s₁.heap.Ns mainGlobals mg) (hb:s₁.heap.Ns builtinsNs mb) (hbb:∀ x:Str,x ≠ "__name__" -> mb x = bootBuiltins x) (hlim:s₁.heap.NoLimit) (hg:s₁.gens = #[])
  (ha:s₁.heap.get? a = some { cls:=.type "list",data:=.seq vs.toArray }) (hi:IntsAre vs ns) (hl:ns.length <= sizeLine) (hr:iN k callerA)
  (F:∀ base:Heap,K.In base -> base.Ns mainGlobals mg -> cb P w K mg base CX k fa fd [x] sp) (hbind:∀ (s:Shared) (u:Value),BindsTo s fd ⟨[u],[]⟩ [(x,u)])
  (hsp:∀ H:Hp,Gq H -> SqL K H a (ns.map V.int) -> sp [.ref a] H (fun v _=>v = .bl true) fun _ _ _=>False)
  (hCX:∀ H e s',CX [] H s₁ (fun _ _ _=>False) e s' -> False):
  codeAny (model P w) callerA (.call (.ref fa) ⟨[.ref a],[]⟩) (fun r s'=>r = .ok (.ret (.bool true)) /\ OldK s₁.heap s'.heap /\ s'.os = s₁.os /\ AllBare s'.gens) s₁:=by
 have rv:=uQ hi
 have lenV:=hi.length
 have core:∀ H:Hp,Gq H -> SqL K H a (ns.map V.int) -> HOk P w H s₁.heap -> (∀ b,H b ≠ none -> b = a) -> (H a ≠ none -> K.lookup a = none) ->
   codeAny (model P w) callerA (.call (.ref fa) ⟨[.ref a],[]⟩) (fun r s'=>r = .ok (.ret (.bool true)) /\ OldK s₁.heap s'.heap /\ s'.os = s₁.os /\ AllBare s'.gens) s₁:=by
  intro H hO hS hok hA hK
  have base_of:∀ {b:Addr} {o:Obj},s₁.heap.get? b = some o -> H b = none -> (u7 s₁.heap H).get? b = some o:=fun e n=>Dc e n
  have noA:∀ {b:Addr} {o:Obj} {es:Array DictEntry} {ep:Nat},s₁.heap.get? b = some o -> o.data = .dict es ep -> H b = none:=fun {b o es ep} e d=>by
   cases q:H b with
   | none=>rfl
   | some u=>
     have e':b = a:=hA b (by rw [q]; simp)
     subst e'
     rw [ha] at e; cases e
     have d':Data.seq vs.toArray _ = Data.dict es ep:=d
     cases d'
  have nsK:∀ {b:Addr} {m:Str -> Option Value},s₁.heap.Ns b m -> (u7 s₁.heap H).Ns b m:=fun {b m} ⟨o,es,ep,e,d,r⟩=>⟨o,es,ep,base_of e (noA e d),d,r⟩
  have hKb:K.In (u7 s₁.heap H):=fun b o e=>base_of (KX b o e) (by
   cases q:H b with
   | none=>rfl
   | some u=>
     have e':b = a:=hA b (by rw [q]; simp)
     subst e'
     rw [hK (by rw [q]; simp)] at e; cases e)
  have hM:Mod K mg (u7 s₁.heap H):=⟨hKb,nsK hns,⟨mb,nsK hb,hbb⟩,let ⟨mc,h1,h2⟩:=hlim; ⟨mc,nsK h1,h2⟩⟩
  have e0:yO P w K mg (u7 s₁.heap H) callerA [] s₁ H:=⟨rfl,hM,fun b o e=>E9 e,Nat.le_of_eq (Bi _ _),trivial,fun b hb=>absurd (show b ∈ ([]:List Addr) from hb) (by simp),hok,.of_eq hg⟩
  refine codeAny_mono ((F _ hKb (nsK hns)).run callerA [] s₁ H ⟨[.ref a],[]⟩ [.ref a] [.ref a] _ _ hr e0 (hbind s₁ (.ref a)) (.cons rfl .nil) (hsp H hO hS)) fun r s' h=>?_
  cases r with
  | error e=>exact (hCX H e s' h).elim
  | ok fl=>
    cases fl with
    | next=>exact False.elim h
    | brk=>exact False.elim h
    | cont=>exact False.elim h
    | ret u=>
      obtain ⟨v,H',os,bare,un,hok',r',q⟩:=h
      have q':v = .bl true:=q
      subst q'
      obtain rfl:u = Value.bool true:=r'
      refine ⟨rfl,OldK.of_keep fun b o e=>?_,os,bare⟩
      cases q:H b with
      | none=>exact un.keep b o e q (by intro z; exact absurd (show b ∈ ([]:List Addr) from z) (by simp)) (by simp)
      | some u=>
        rcases hO b with z | ⟨ob,xs,z⟩
        . rw [q] at z; cases z
        . have z2:=un.frzs b ob _ z
          obtain ⟨e1,_⟩:=hok b _ z
          obtain ⟨e2,_⟩:=hok' b _ z2
          rw [e] at e1; cases e1
          exact e2
 cases hk:K.lookup a with
 | some o=>
   have e:=KX a o hk
   rw [ha] at e
   cases e
   refine core (fun _=>none) (fun _=>.inl rfl) (.inr ⟨_,vs.toArray,_,hk,rfl,rfl,rfl,by rw [List.size_toArray,lenV]; exact hl,by simpa using rv⟩) (fun b u z=>by have z':(none:Option HO) = some u:=z; cases z') (fun b z=>absurd rfl z) fun z=>absurd rfl z
 | none=>
   refine core (fun b=>if b = a then some (.frz { cls:=.type "list",data:=.seq vs.toArray } (.lst (ns.map V.int))) else none) (fun b=>?_) (.inl (.inr ⟨{ cls:=.type "list",data:=.seq vs.toArray },if_pos rfl⟩)) (fun b u z=>?_) (fun b z=>?_) fun _=>hk
   . by_cases hb:b = a
     . exact .inr ⟨_,_,if_pos hb⟩
     . exact .inl (if_neg hb)
   . by_cases hb:b = a
     . have z':=(if_pos hb).symm.trans z
       cases z'
       subst hb
       exact ⟨ha,by rw [List.length_map]; exact hl,vs,_,rv,ha⟩
     . have z':=(if_neg hb).symm.trans z
       cases z'
   . by_cases hb:b = a
     . exact hb
     . exact absurd (if_neg hb) z
end L2
namespace L2
open PySem PySem.Spec PyProof.Rows
abbrev KOf {K:PySem.W.Frag} {h:Heap} (_:K.In h):PySem.W.Frag:=K
theorem E6 {l:PySem.W.OpenLaw} {n k:Nat} {q:Program} {loose:List Str} {XP:(Str -> Option Value) -> Heap -> Prop} {YP:World -> Heap -> Prop} {d:DefRec} {K:Params -> PySem.W.Frag} {CX:World -> CXT} {sp:World -> Sp} {x:Str}
  (hn:l.most = some n) (hn2:n <= sizeLine) (hdf:d.params.defaults = []) (hr:iN k callerA)
  (hY:∀ (w:World) (h:Heap),YP w h -> (K w.params).In h)
  (F:∀ (w:World) (mg:Str -> Option Value) (fa:Addr) (h:Heap),(K w.params).In h -> h.Ns mainGlobals mg -> mg d.name = some (.ref fa) ->
    ∃ fd:FuncData,(∀ (s:Shared) (u:Value),BindsTo s fd ⟨[u],[]⟩ [(x,u)]) /\
      ∀ base:Heap,(K w.params).In base -> base.Ns mainGlobals mg -> cb l.prog w (K w.params) mg base (CX w) k fa fd [x] (sp w))
  (hsp:∀ (w:World) (H:Hp) (a:Addr) (ns:List Int),ns.length <= n -> Gq H -> SqL (K w.params) H a (ns.map V.int) -> sp w [.ref a] H (fun v _=>v = .bl true) fun _ _ _=>False)
  (hCX:∀ (w:World) (H:Hp) (s:Shared) (e:Value) (s':Shared),CX w [] H s (fun _ _ _=>False) e s' -> False):
  PySem.W.WalkO q loose XP YP l.row.toRowW d [] (fun f vs=>PySem.call f vs):=by
 refine Att.xb hn hdf fun w s₀ s₁ mg mb fa o pm cd doc a vs ns G Y ho hd hcd hmg hobj hints hlen hg=>?_
 have KX:=hY w _ Y
 obtain ⟨fd,hb,hF⟩:=F w mg fa _ KX G.T.g hmg
 exact B8 KX G.T.g G.T.b G.T.builtins G.T.nolimit hg hobj hints (Nat.le_trans hlen hn2) hr hF hb (fun H hO hS=>hsp w H a ns hlen hO hS) fun H e s'=>hCX w H s₁ e s'
end L2
namespace L2
open PySem PySem.Spec PyProof.Rows
def inClass (s:Stmt) (j:Nat):Stmt:=match s with
 | .ClassDef _ _ _ body _ _ _ _ _ _ _=>body.getD j (.Pass ⟨0,0,0,0⟩)
 | _=>.Pass ⟨0,0,0,0⟩
noncomputable def aW (s:Stmt):Arguments:=match s with
 | .FunctionDef _ a _ _ _ _ _ _ _ _=>a
 | _=>{ posonlyargs:=[],args:=[],vararg:=none,kwonlyargs:=[],kw_defaults:=[],kwarg:=none,defaults:=[] }
noncomputable def aT (s:Stmt):List Stmt:=match s with
 | .FunctionDef _ _ b _ _ _ _ _ _ _=>b
 | _=>[]
noncomputable def av (s:Stmt):Scope:=match s with
 | .FunctionDef _ _ _ _ _ _ sc _ _ _=>sc
 | _=>{ kind:=.function,names:=[],isGenerator:=false,isCoroutine:=false }
structure Fun (K:PySem.W.Frag) (x qual:Str) (st:Stmt) (f:Addr) (fd:FuncData):Prop where
 ex:∃ (oc:Value) (od:Option Addr) (kV doc pm:Value) (an:Option Addr) (cdv ct:Value) (osl:Array (Option Value)),
  fd = PySem.W.fnOf x qual (aW st) (aT st) (av st) .none kV doc pm an cdv ct /\ K.lookup f = some ⟨oc,od,.func fd,osl⟩ /\ PySem.W.codeIn K cdv qual = true
 kp:PySem.W.keepIn K (.ref f) = true
section
variable {P:Program} {w:World} {K:PySem.W.Frag} {mg:Str -> Option Value} {base:Heap}
theorem Fun.binds {x qual:Str} {st:Stmt} {f:Addr} {fd:FuncData} {ps:List Str} (F:Fun K x qual st f fd)
  (h:∀ (kV doc pm:Value) (an:Option Addr) (cdv ct:Value) (us:List Value),us.length = ps.length -> bindArgs (PySem.W.fnOf x qual (aW st) (aT st) (av st) .none kV doc pm an cdv ct) ⟨us,[]⟩ = pure (ps.zip us)):Binds K fd ps []:=by
 obtain ⟨oc,od,kV,doc,pm,an,cdv,ct,osl,rfl,lk,hcd⟩:=F.ex
 exact .all (h kV doc pm an cdv ct)
theorem aE {x qual:Str} {st:Stmt} {f:Addr} {oc:Value} {od an:Option Addr} {osl:Array (Option Value)} {kV doc pm cdv ct:Value} (l:K.lookup f = some ⟨oc,od,.func (PySem.W.fnOf x qual (aW st) (aT st) (av st) .none kV doc pm an cdv ct),osl⟩)
  (c:PySem.W.codeIn K cdv qual = true) (k:PySem.W.keepIn K (.ref f) = true):Fun K x qual st f (PySem.W.fnOf x qual (aW st) (aT st) (av st) .none kV doc pm an cdv ct):=⟨⟨oc,od,kV,doc,pm,an,cdv,ct,osl,rfl,l,c⟩,k⟩
end
theorem Fx {A:Around} {k:Nat} (hr:iN k A):A.units + 1 < cLine:=Nat.lt_of_le_of_lt (Nat.add_le_add_left (by decide:1 <= 64) _) hr.units
section
variable {X:Cx}
theorem pv (i:Nat) {x:Str} {pos:Pos} (hN:X.N[i]? = some x:=by rfl) (hv:Vis X.env.scope x:=by first | exact Or.inl rfl | exact Or.inr (Or.inl rfl) | exact Or.inr (Or.inr rfl)) (hd:(x == ("__debug__":Str)) = false:=by decide)
  (hcd:(x == ("__classdict__":Str)) = false:=by decide):PE X (.Name x pos) (sU i):=Gf hN hv hd hcd
end
theorem vR {A B:Prop} (h:B):if false = true then A else B:=by
 rw [if_neg Bool.false_ne_true]
 exact h
theorem v9 {A B:Prop} (h:A):if true = true then A else B:=by
 rw [if_pos rfl]
 exact h
noncomputable def aJ (H H':Hp):Prop:=∀ b o,H b = some o -> H' b = some o
theorem aJ.refl (H:Hp):aJ H H:=fun _ _ h=>h
theorem aJ.trans {H H1 H2:Hp} (a:aJ H H1) (b:aJ H1 H2):aJ H H2:=fun c o h=>b c o (a c o h)
theorem aJ.free {H H':Hp} (e:aJ H H') {l:Addr} (h:H' l = Option.none):H l = Option.none:=by
 cases q:H l with
 | none=>rfl
 | some o=>
   rw [e l o q] at h
   cases h
theorem aJ.seq {K:PySem.W.Frag} {H H':Hp} {a:Addr} {xs:List V} (e:aJ H H') (h:SqL K H a xs):SqL K H' a xs:=by
 rcases h with (h | ⟨o,h⟩) | h
 . exact .inl (.inl (e _ _ h))
 . exact .inl (.inr ⟨o,e _ _ h⟩)
 . exact .inr h
end L2
namespace L2
open PySem PySem.Spec PyProof.Rows
section
variable {κ:Type} [DecidableEq κ]
noncomputable def lR (kvs:List (κ × V)) (k:κ):Option V:=(kvs.find? fun kv=>decide (kv.1 = k)).map (·.2)
noncomputable def putK (kvs:List (κ × V)) (k:κ) (v:V):List (κ × V):=
 if (kvs.any fun kv=>decide (kv.1 = k)) = true then kvs.map (fun kv=>if kv.1 = k then (kv.1,v) else kv) else kvs ++ [(k,v)]
theorem tF {p:κ × V} {r:List (κ × V)} {k:κ} (e:p.1 = k):lR (p ::r) k = some p.2:=by simp [lR,List.find?_cons,e]
theorem sG {p:κ × V} {r:List (κ × V)} {k:κ} (e:¬ p.1 = k):lR (p ::r) k = lR r k:=by simp [lR,List.find?_cons,e]
theorem wF (k:κ):∀ kvs:List (κ × V),(kvs.any fun kv=>decide (kv.1 = k)) = (lR kvs k).isSome
 | []=>rfl
 | p ::r=>by
   rw [List.any_cons]
   by_cases e:p.1 = k
   . simp only [tF e,decide_eq_true e,Bool.true_or,Option.isSome_some]
   . rw [sG e,decide_eq_false e,Bool.false_or]; exact wF k r
theorem xi (kvs:List (κ × V)) (k:κ) (v:V):(putK kvs k v).length <= kvs.length + 1:=by
 unfold putK
 split
 . rw [List.length_map]; omega
 . rw [List.length_append,List.length_cons,List.length_nil]; omega
theorem CU {kvs:List (κ × V)} {k:κ} (v:V) (h:lR kvs k = none):putK kvs k v = kvs ++ [(k,v)]:=by
 unfold putK
 rw [wF,h]
 exact if_neg (by decide)
theorem bH.uB {o:Option V} {u:Option Value} (r:bH o u):o.isSome = u.isSome:=by
 cases o with
 | none=>cases u with
   | none=>rfl
   | some _=>exact (show False from r).elim
 | some _=>cases u with
   | none=>exact (show False from r).elim
   | some _=>rfl
theorem bH.getD {o:Option V} {u:Option Value} {d:V} {d':Value} (r:bH o u) (rd:RelV d d'):RelV (o.getD d) (u.getD d'):=by
 cases o with
 | none=>cases u with
   | none=>exact rd
   | some _=>exact (show False from r).elim
 | some _=>cases u with
   | none=>exact (show False from r).elim
   | some _=>exact r
theorem KV.val {kvs:List (κ × V)} {vs:List (κ × Value)} (r:KV kvs vs) (k:κ):bH (lR kvs k) (valueAt vs k):=by
 unfold KV at r
 induction r with
 | nil=>exact True.intro
 | @cons p q ps qs h t ih=>
   obtain ⟨h1,h2⟩:=h
   by_cases e:p.1 = k
   . have e':q.1 = k:=h1.symm.trans e
     have b:valueAt (q ::qs) k = some q.2:=by simp [valueAt,List.find?_cons,e']
     rw [tF e,b]; exact h2
   . have e':¬ q.1 = k:=fun z=>e (h1.trans z)
     have b:valueAt (q ::qs) k = valueAt qs k:=by simp [valueAt,List.find?_cons,e']
     rw [sG e,b]; exact ih
theorem KV.any {kvs:List (κ × V)} {vs:List (κ × Value)} (r:KV kvs vs) (k:κ):(kvs.any fun kv=>decide (kv.1 = k)) = vs.any fun kv=>decide (kv.1 = k):=by
 unfold KV at r
 induction r with
 | nil=>rfl
 | cons h t ih=>rw [List.any_cons,List.any_cons,ih,h.1]
theorem KV.K2 {kvs:List (κ × V)} {vs:List (κ × Value)} (r:KV kvs vs) (k:κ) {y:V} {u:Value} (ry:RelV y u):
  KV (kvs.map fun kv=>if kv.1 = k then (kv.1,y) else kv) (vs.map fun kv=>if kv.1 = k then (kv.1,u) else kv):=by
 unfold KV at r ⊢
 induction r with
 | nil=>exact .nil
 | @cons p q ps qs h t ih=>
   rw [List.map_cons,List.map_cons]
   refine .cons ?_ ih
   obtain ⟨h1,h2⟩:=h
   by_cases e:p.1 = k
   . rw [if_pos e,if_pos (h1.symm.trans e)]; exact ⟨h1,ry⟩
   . rw [if_neg e,if_neg (fun z=>e (h1.trans z))]; exact ⟨h1,h2⟩
theorem KV.put {kvs:List (κ × V)} {vs:List (κ × Value)} (r:KV kvs vs) (k:κ) {y:V} {u:Value} (ry:RelV y u):KV (putK kvs k y) (stored vs k u):=by
 unfold putK stored
 rw [r.any k]
 by_cases e:(vs.any fun kv=>decide (kv.1 = k)) = true
 . rw [if_pos e,if_pos e]; exact r.K2 k ry
 . rw [if_neg e,if_neg e]; exact Paired.snoc r ⟨rfl,ry⟩
theorem KV.keys {kvs:List (κ × V)} {vs:List (κ × Value)} (r:KV kvs vs):kvs.map (·.1) = vs.map (·.1):=by
 unfold KV at r
 induction r with
 | nil=>rfl
 | cons h t ih=>rw [List.map_cons,List.map_cons,ih,h.1]
end
theorem zV {P:Program} {w:World} {k:Key} {u:Value} (r:RelV (kV k) u):(gB P w).is k u = true:=by
 cases k with
 | inl i=>obtain ⟨t,e⟩:=(show ∃ t,u = Value.int i t from r); subst e; exact xC P w i t
 | inr x=>obtain ⟨t,e⟩:=(show ∃ t,u = Value.str x t from r); subst e; exact xH P w x t
theorem uC {P:Program} {w:World}:∀ {ks:List Key} {us:List Value},Vals (ks.map kV) us -> ItemsAre (gB P w) ks us
 | [],_,r=>by rw [List.map_nil] at r; cases r; exact .nil
 | k ::ks,_,r=>by
   rw [List.map_cons] at r
   cases r with
   | cons h t=>exact .cons (zV h) (uC t)
abbrev KT (H:Hp):List (List Key × V) -> List (List Key × Addr × Value) -> Prop:=Paired fun p q=>p.1 = q.1 /\ H q.2.1 = some (.tup (p.1.map kV)) /\ RelV p.2 q.2.2
theorem KT.val {H:Hp} {kvs:List (List Key × V)} {xs:List (List Key × Addr × Value)} (r:KT H kvs xs) (k:List Key):bH (lR kvs k) ((atKey xs k).map (·.2)):=by
 induction r with
 | nil=>exact True.intro
 | @cons p q ps qs h t ih=>
   obtain ⟨h1,_,h2⟩:=h
   by_cases e:p.1 = k
   . have e':q.1 = k:=h1.symm.trans e
     have b:atKey (q ::qs) k = some q.2:=by simp [atKey,List.find?_cons,e']
     rw [tF e,b]; exact h2
   . have e':¬ q.1 = k:=fun z=>e (h1.trans z)
     have b:atKey (q ::qs) k = atKey qs k:=by simp [atKey,List.find?_cons,e']
     rw [sG e,b]; exact ih
theorem KT.keeps {H H':Hp} {kvs:List (List Key × V)} {xs:List (List Key × Addr × Value)} (r:KT H kvs xs) (ht:∀ b ys,H b = some (.tup ys) -> H' b = some (.tup ys)):KT H' kvs xs:=
 Paired.HU r fun _ _ z=>⟨z.1,ht _ _ z.2.1,z.2.2⟩
section
variable {P:Program} {w:World} {H:Hp} {h:Heap} {a:Addr}
theorem Fb {u:HO} (ok:HOk P w H h) (e:Rd H a u):gm P w H h a u:=e.ok ok
theorem zf {kvs:List (Key × V)} (ok:HOk P w H h) (e:Rd H a (.dK kvs)):kvs.length <= sizeLine /\ (a == sysModules) = false /\ ∃ vs,KV kvs vs /\ h.DictOf (gB P w) a vs:=
 show gm P w H h a (.dK kvs) from Fb ok e
theorem Jz {kvs:List (Key × V)} (ok:HOk P w H h) (e:H a = some (.dK kvs)):kvs.length <= sizeLine /\ (a == sysModules) = false /\ ∃ vs,KV kvs vs /\ h.DictOf (gB P w) a vs:=zf ok (.inl e)
theorem yS {ks:List Key} (ok:HOk P w H h) (e:H a = some (.tup (ks.map kV))):(tupleKind (gB P w)).is h ks a:=by
 obtain ⟨_,its,r,o,h1,h2,n,h3⟩:=(show gm P w H h a (.tup (ks.map kV)) from ok a _ e)
 exact ⟨o,its.toArray,n,h1,h2,h3,by simpa using uC r⟩
theorem Cc {kvs:List (List Key × V)} (ok:HOk P w H h) (e:Rd H a (.dT kvs)):kvs.length <= sizeLine /\ (a == sysModules) = false /\
  ∃ xs,KT H kvs xs /\ h.DictOfH (tupleKind (gB P w)) a xs:=by
 obtain ⟨z,y,xs,r,o,es,ep,h1,h2,h3,h4,h5⟩:=(show gm P w H h a (.dT kvs) from Fb ok e)
 refine ⟨z,y,xs,r,o,es,ep,h1,h2,h3,h4,fun x hx=>?_,h5⟩
 have all:∀ {l:List (List Key × V)} {m:List (List Key × Addr × Value)},KT H l m -> ∀ x ∈ m,(tupleKind (gB P w)).is h x.1 x.2.1:=by
  intro l m q
  induction q with
  | nil=>intro x hx; exact nomatch hx
  | @cons p q ps qs hq t ih=>
    intro x hx
    rcases List.mem_cons.mp hx with e | hx
    . subst e
      exact yS ok (by rw [<- hq.1]; exact hq.2.1)
    . exact ih x hx
 exact all r x hx
end
noncomputable def vH (H:Hp) (a:Addr) (y:V) (r:Option V):Prop:=
 (∃ kvs k,Rd H a (.dK kvs) /\ y = kV k /\ r = lR kvs k) \/ ∃ kvs k b,Rd H a (.dT kvs) /\ y = .ref b /\ H b = some (.tup (k.map kV)) /\ r = lR kvs k
theorem vH.k {H:Hp} {a:Addr} {kvs:List (Key × V)} {k:Key} (e:H a = some (.dK kvs)):vH H a (kV k) (lR kvs k):=.inl ⟨kvs,k,.inl e,rfl,rfl⟩
section
variable {X:Cx} {pins:List (Addr × Obj)} {σ:St} {H:Hp} {s:Shared} {a:Addr} {y v:V} {u r:Value} {o:Option V} {A:Around} {E:Value -> Shared -> Prop}
theorem Inv.big (I:Inv X pins σ H s):sysModules < s.heap.objs.size:=by
 have h:mainGlobals < s.heap.objs.size:=(I.mod.glob.keeps I.bk).lt
 exact Nat.lt_trans (by decide) h
theorem A9 {Q:Value -> Shared -> Prop} (hu:A.units + 1 < cLine) (I:Inv X pins σ H s) (g:vH H a y (some v)) (ry:RelV y u) (h:∀ w' s',Inv X pins σ H s' -> RelV v w' -> Q w' s'):
  wpAny (model X.prog X.w) A (getItem (.ref a) u) Q E s:=by
 rcases g with ⟨kvs,k,e,ey,l⟩ | ⟨kvs,k,b,e,ey,eb,l⟩
 . subst ey
   obtain ⟨z,hd,vs,rel,dd⟩:=zf I.hok e
   obtain ⟨w',hw,rw'⟩:=bH.some_of (v:=v) (o:=valueAt vs k) (by rw [l]; exact rel.val k)
   exact wpAny_getItem_of (zV ry) dd.mapOf hw (h w' _ (I.tok _) rw')
 . subst ey
   cases (show u = Value.ref b from ry)
   obtain ⟨z,hd,xs,rel,dd⟩:=Cc I.hok e
   obtain ⟨w',hw,rw'⟩:=bH.some_of (v:=v) (o:=(atKey xs k).map (·.2)) (by rw [l]; exact rel.val k)
   obtain ⟨p,hp,hp2⟩:=Option.map_eq_some_iff.mp hw
   refine wpAny_getItem_heap (tupleKind_room_in1 hu) (yS I.hok eb) dd hp ?_
   rw [hp2]
   exact h w' _ (I.tok _) rw'
theorem K8 {Q:Value -> Shared -> Prop} (hu:A.units + 1 < cLine) (I:Inv X pins σ H s) (g:vH H a y o) (ry:RelV y u) (h:∀ s',Inv X pins σ H s' -> Q (.bool o.isSome) s'):
  wpAny (model X.prog X.w) A (compareOp .In u (.ref a)) Q E s:=by
 rcases g with ⟨kvs,k,e,ey,l⟩ | ⟨kvs,k,b,e,ey,eb,l⟩
 . subst ey
   obtain ⟨z,hd,vs,rel,dd⟩:=zf I.hok e
   refine wpAny_in_of (zV ry) hd dd.mapOf ?_
   rw [<- (rel.val k).uB,<- l]
   exact h _ (I.tok _)
 . subst ey
   cases (show u = Value.ref b from ry)
   obtain ⟨z,hd,xs,rel,dd⟩:=Cc I.hok e
   refine wpAny_in_heap (tupleKind_room_in1 hu) (yS I.hok eb) hd dd ?_
   have q:=(rel.val k).uB
   rw [Option.isSome_map] at q
   rw [<- q,<- l]
   exact h _ (I.tok _)
theorem Em {h':Heap} {t':Nat} {ob:HO} (I:Inv X pins σ H s) (mu:Mut (H a)) (hs:Heap.SameBut a s.heap h') (he:∃ q,h'.get? a = some q) (new:gm X.prog X.w (upd H a ob) h' a ob):
  Inv X pins σ (upd H a ob) { s with heap:=h',toks:=t' }:=
 I.write (x:=a) (e:=a) mu (.inl rfl) (fun b q hb z=>(hs.2 b hb).trans z) he new
theorem Gk {P:Program} {w:World} {H':Hp} {h':Heap} {kvs:List (Key × V)} {vs:List (Key × Value)} (z:kvs.length <= sizeLine) (hd:(a == sysModules) = false) (rel:KV kvs vs) (dd:h'.DictOf (gB P w) a vs):
  gm P w H' h' a (.dK kvs):=⟨z,hd,vs,rel,dd⟩
end
noncomputable def GH (i:Expr):Prop:=∀ ov iv,subscripted i false ov iv = operate [ov,iv] (getItem ov iv)
theorem ES {prog:Program} {w:World} {A:Around} {E:Value -> Shared -> Prop} {s:Shared} {env:Env} {value slice:Expr} {pos:Pos} {T id:String} {Q:Value -> Shared -> Prop}
  (hl:typeLookup (.type T) "__getitem__" = pure (some (.builtin id))) (hs:GH slice)
  (h:wpAny (model prog w) A (eval value env) (fun o s₁=>wpAny (model prog w) A (eval slice env) (fun i s₂=>s₂.TypeIs o T /\ wpAny (model prog w) A (getItem o i) Q E s₂) E s₁) E s):
  wpAny (model prog w) A (eval (.Subscript value slice pos) env) Q E s:=by
 refine Subscript_ (wpAny_mono h (fun o s₁ h₁=>wpAny_mono h₁ (fun i s₂ h₂=>?_) fun _ _ x=>x) fun _ _ x=>x)
 obtain ⟨hT,h₂⟩:=h₂
 unfold subscriptTail
 refine wpAny_bind ?_
 rw [getitemInPython_of_ne hT.not_modules]
 refine wpAny_bind (wpAny_specialOf hT hl ?_)
 have fin:wpAny (model prog w) A (subscripted slice false o i) (fun r s₃=>wpAny (model prog w) A (letTemporaryGo value o r >>= fun _=>pure r) Q E s₃) E s₂:=by
  rw [hs o i]
  exact wpAny_operating (wpAny_mono h₂ (fun r s₃ h₃=>wpAny_bind (wpAny_letTemporaryGo (wpAny_pure h₃))) fun _ _ x=>x)
 first
  | exact wpAny_pure (wpAny_bind fin)
  | exact wpAny_bind (wpAny_pure (wpAny_bind fin))
  | exact wpAny_bind fin
theorem xG {X:Cx} {pins:List (Addr × Obj)} {σ:St} {H:Hp} {s:Shared} {a:Addr} {y:V} {o:Option V} (I:Inv X pins σ H s) (g:vH H a y o):s.TypeIs (.ref a) "dict":=by
 rcases g with ⟨kvs,k,e,_,_⟩ | ⟨kvs,k,b,e,_,_,_⟩
 . obtain ⟨_,_,vs,_,dd⟩:=zf I.hok e
   exact dd.typeIs
 . obtain ⟨_,_,xs,_,dd⟩:=Cc I.hok e
   exact dd.typeIs
noncomputable def BZ (td ty:TE):TE:=fun σ H Q=>td σ H fun x H1=>ty σ H1 fun y H2=>∃ a v,x = .ref a /\ vH H2 a y (some v) /\ Q v H2
noncomputable def GQ (ty td:TE):TE:=fun σ H Q=>ty σ H fun y H1=>td σ H1 fun x H2=>∃ a o,x = .ref a /\ vH H2 a y o /\ Q (.bl o.isSome) H2
section
variable {X:Cx} {o i e value:Expr} {pos pos' tpos:Pos} {td ty tv:TE}
theorem DG (hu:X.A.units + 1 < cLine) (ho:PE X o td) (hi:PE X i ty) (hs:GH i):PE X (.Subscript o i pos) (BZ td ty):=by
 intro pins s σ H Q I h
 refine ES PySem.F.slot_dict_getitem.lookup hs (thn (ho pins s σ H _ I h) fun u s1 ⟨x,H1,I1,rx,q1⟩=>thn (hi pins s1 σ H1 _ I1 q1) fun iv s2 ⟨y,H2,I2,ry,a,v,ex,g,q2⟩=>?_)
 subst ex
 obtain rfl:u = Value.ref a:=rx
 exact ⟨xG I2 g,A9 hu I2 g ry fun w' s3 I3 rw'=>⟨v,H2,I3,rw',q2⟩⟩
theorem Gb (hu:X.A.units + 1 < cLine) (hi:PE X i ty) (ho:PE X o td):PC X .In i o (GQ ty td):=by
 intro pins s σ H Q I h
 refine thn (hi pins s σ H _ I h) fun iv s1 ⟨y,H1,I1,ry,q1⟩=>thn (ho pins s1 σ H1 _ I1 q1) fun u s2 ⟨x,H2,I2,rx,a,ov,ex,g,q2⟩=>?_
 subst ex
 obtain rfl:u = Value.ref a:=rx
 exact K8 hu I2 g ry fun s3 I3=>⟨.bl ov.isSome,H2,I3,rfl,q2⟩
end
theorem CD {P:Program} {w:World} {H:Hp} (h:Heap) (hb:sysModules < h.objs.size):gm P w H (h.push { cls:=.type "dict",data:=.dict #[] }) h.objs.size (.dK []):=
 ⟨Nat.zero_le _,beq_eq_false_iff_ne.mpr (Ne.symm (Nat.ne_of_lt hb)),[],.nil,Heap.DictOf.new h⟩
noncomputable def u6:List (TE × TE) -> St -> Hp -> (List (V × V) -> Hp -> Prop) -> Prop
 | [],_,H,Q=>Q [] H
 | (tk,tv) ::r,σ,H,Q=>tk σ H fun x H1=>tv σ H1 fun y H2=>u6 r σ H2 fun ps H3=>Q ((x,y) ::ps) H3
abbrev VV:List (V × V) -> List (Value × Value) -> Prop:=Paired fun p q=>RelV p.1 q.1 /\ RelV p.2 q.2
noncomputable def PPs (X:Cx) (pos:Pos) (keys:List (Option Expr)) (values:List Expr) (trs:List (TE × TE)):Prop:=
 ∀ (pins:List (Addr × Obj)) (s:Shared) (σ:St) (H:Hp) (Q:List (V × V) -> Hp -> Prop),Inv X pins σ H s -> u6 trs σ H Q ->
   wpAny (model X.prog X.w) X.A (evalPairs (pairTrees keys values X.env pos)) (fun vs s'=>∃ ps H',Inv X pins σ H' s' /\ VV ps vs /\ Q ps H') X.xe s
theorem DA {X:Cx} {pos:Pos}:PPs X pos [] [] []:=fun pins s σ H Q I h=>pairTrees_nil_walk ⟨[],H,I,.nil,h⟩
theorem CB {X:Cx} {pos:Pos} {k v:Expr} {ks:List (Option Expr)} {vs:List Expr} {tk tv:TE} {trs:List (TE × TE)} (hk:PE X k tk) (hv:PE X v tv) (hr:PPs X pos ks vs trs):
  PPs X pos (some k ::ks) (v ::vs) ((tk,tv) ::trs):=fun pins s σ H Q I h=>
 pairTrees_cons_walk (thn (hk pins s σ H _ I h) fun u s1 ⟨x,H1,I1,rx,q1⟩=>thn (hv pins s1 σ H1 _ I1 q1) fun w2 s2 ⟨y,H2,I2,ry,q2⟩=>
  thn (hr pins s2 σ H2 _ I2 q2) fun ws s3 ⟨ps,H3,I3,rel,q3⟩=>⟨(x,y) ::ps,H3,I3,.cons ⟨rx,ry⟩ rel,q3⟩)
noncomputable def n5 (kvs more:List (Key × V)):List (Key × V):=more.foldl (fun acc kv=>putK acc kv.1 kv.2) kvs
theorem KV.merge:∀ {more:List (Key × V)} {rs:List (Key × Value)} {kvs:List (Key × V)} {vs:List (Key × Value)},KV more rs -> KV kvs vs -> KV (n5 kvs more) (merged vs rs):=by
 intro more rs kvs vs r
 unfold KV at r
 induction r generalizing kvs vs with
 | nil=>intro q; exact q
 | @cons p q ps qs h t ih=>
   intro r0
   have e:KV (putK kvs p.1 p.2) (stored vs q.1 q.2):=by
    have:=r0.put p.1 h.2
    rw [<- h.1]; exact this
   exact ih e
theorem o6:∀ (more kvs:List (Key × V)),(n5 kvs more).length <= kvs.length + more.length
 | [],kvs=>by show kvs.length <= kvs.length + 0; omega
 | p ::r,kvs=>by
   have h1:=o6 r (putK kvs p.1 p.2)
   have h2:=xi kvs p.1 p.2
   show (n5 (putK kvs p.1 p.2) r).length <= _
   rw [List.length_cons]; omega
theorem su {P:Program} {w:World}:∀ {kvs:List (Key × V)} {ws:List (Value × Value)},VV (kvs.map fun kv=>(kV kv.1,kv.2)) ws -> ∃ rs,Carries (gB P w) ws rs /\ KV kvs rs
 | [],_,r=>by rw [List.map_nil] at r; cases r; exact ⟨[],True.intro,.nil⟩
 | p ::kvs,_,r=>by
   rw [List.map_cons] at r
   cases r with
   | @cons a b as bs h t=>
     obtain ⟨rs,c,q⟩:=su (P:=P) (w:=w) t
     obtain ⟨b1,b2⟩:=b
     exact ⟨(p.1,b2) ::rs,⟨zV h.1,rfl,c⟩,.cons ⟨rfl,h.2⟩ q⟩
noncomputable def Bw (trs:List (TE × TE)):TE:=fun σ H Q=>∀ p,H p = none -> u6 trs σ (upd H p (.dK [])) fun ps H2=>H2 p = some (.dK []) /\ ∃ kvs:List (Key × V),ps = kvs.map (fun kv=>(kV kv.1,kv.2)) /\ kvs.length <= 15 /\ Q (.ref p) (upd H2 p (.dK (n5 [] kvs)))
theorem Ec {X:Cx} {pos:Pos} {keys:List (Option Expr)} {values:List Expr} {trs:List (TE × TE)} (h:PPs X pos keys values trs) (hall:keys.all (·.isSome) = true) (hl:keys.length = values.length) (h0:keys ≠ [])
  (h15:keys.length <= 15):PE X (.Dict keys values pos) (Bw trs):=by
 intro pins s σ H Q I q
 have hn:=I.hok.fresh (Nat.le_refl s.heap.objs.size)
 have I1:=I.laid (a:=s.heap.objs.size) (o:=.dK []) (h':=s.heap.push { cls:=.type "dict",data:=.dict #[] }) (t':=s.toks) (fun _ _ q=>Heap.get?_push_of_some _ q) (Nat.le_refl _) (CD s.heap I.big)
 refine wpAny_Dict_walk (knd:=gB X.prog X.w) hall hl h0 h15 (thn (h pins _ σ _ _ I1 (q _ hn)) fun ws s2 ⟨ps,H2,I2,rel,e,kvs,ep,lk,q2⟩=>?_)
 subst ep
 obtain ⟨rs,c,rk⟩:=su (P:=X.prog) (w:=X.w) rel
 obtain ⟨z,hd,vs0,r0,dd⟩:=Jz I2.hok e
 cases r0
 refine ⟨rs,c,dd,fun h' dd' hs=>⟨.ref s.heap.objs.size,_,?_,rfl,q2⟩⟩
 have hz:(n5 [] kvs).length <= sizeLine:=by
  have h1:=o6 kvs []
  rw [List.length_nil] at h1
  rw [sizeLine_eq]; omega
 have he:∃ q,h'.get? s.heap.objs.size = some q:=let ⟨q,_,_,hq,_⟩:=dd'; ⟨q,hq⟩
 exact Em I2 (by rw [e]; exact True.intro) hs he (Gk hz hd (rk.merge .nil) dd')
end L2
namespace L2
open PySem PySem.Spec PyProof.Rows
end L2
set_option maxHeartbeats 4000000
namespace L2.E
open PySem PySem.Spec PyProof.Rows
noncomputable def Cy (a C:Addr) (dx:Option Addr) (h:Heap):Prop:=∃ o vs,h.get? a = some o /\ o.cls = .ref C /\ o.dict = dx /\ o.data = .fields vs /\ vs.size = 6
noncomputable def TbO (T:Addr) (h:Heap):Prop:=∃ o ts,h.get? T = some o /\ o.data = .fields ts /\ 3 < ts.size
noncomputable abbrev oM (a C:Addr) (dx:Option Addr):HO:=.ext (Cy a C dx)
noncomputable abbrev oTb (T:Addr):HO:=.ext (TbO T)
theorem yR {P:Program} {w:World} {H:Hp} {h:Heap} {a C:Addr} {dx:Option Addr} (x:Cy a C dx h):gm P w H h a (oM a C dx):=by
 refine ⟨x,let ⟨o,_,e,_⟩:=x; ⟨o,e⟩,fun h1 h2 p k=>?_⟩
 obtain ⟨o,vs,e,r⟩:=p
 exact ⟨o,vs,k o e,r⟩
theorem FT {P:Program} {w:World} {H:Hp} {h:Heap} {T:Addr} (x:TbO T h):gm P w H h T (oTb T):=by
 refine ⟨x,let ⟨o,_,e,_⟩:=x; ⟨o,e⟩,fun h1 h2 p k=>?_⟩
 obtain ⟨o,vs,e,r⟩:=p
 exact ⟨o,vs,k o e,r⟩
theorem CI {H:Hp} {a:Addr} {o:HO} (h:H a = some o):upd H a o = H:=by
 funext b
 unfold upd
 split
 . rename_i e
   rw [e,h]
 . rfl
structure Fly (H:Hp) (h:Heap) (a C:Addr) (dx:Option Addr):Prop where
 exc:H a = some (oM a C dx)
 tb:∃ o vs,h.get? a = some o /\ o.data = .fields vs /\ (vs[1]? = some Value.none \/ ∃ T,vs[1]? = some (.ref T) /\ H T = some (oTb T) /\ T ≠ a)
structure wu (H:Hp) (h:Heap) (a C:Addr) (dx:Option Addr):Prop where
 exc:H a = some (oM a C dx)
 tb:∃ o vs T,h.get? a = some o /\ o.data = .fields vs /\ vs[1]? = some (.ref T) /\ H T = some (oTb T) /\ T ≠ a
theorem wu.fly {H:Hp} {h:Heap} {a C:Addr} {dx:Option Addr} (F:wu H h a C dx):Fly H h a C dx:=
 let ⟨o,vs,T,e1,e2,e3,e4,e5⟩:=F.tb
 ⟨F.exc,o,vs,e1,e2,.inr ⟨T,e3,e4,e5⟩⟩
section
variable {X:Cx} {pins:List (Addr × Obj)} {σ:St} {H:Hp} {s:Shared} {a C:Addr} {dx:Option Addr}
theorem Df {h₁:Heap} (I:Inv X pins σ H s) (k:Heap.SlotsOnly (frs X.stack) s.heap h₁):Un (frs X.stack) [] H H s.heap h₁ where
 keep:=fun b o e _ hb _=>(k.2.1 b hb).trans e
 slot:=fun b o e _ _ _=>k.2.2 b o e
 free:=fun _ _ _ n _=>n
 there:=fun b o e _=>let ⟨_,q⟩:=k.2.2 b o e; ⟨_,q⟩
 tups:=fun _ _ q=>q
 frzs:=fun _ _ _ q=>q
 tbls:=fun _ ps q=>⟨#[],by rw [q]; simp⟩
theorem Ar {h₁:Heap} (I:Inv X pins σ H s) (k:Heap.SlotsOnly (frs X.stack) s.heap h₁):HOk X.prog X.w H h₁:=fun b o e=>by
 have nf:∀ c u,H c = some u -> c ∉ frs X.stack:=fun c u q z=>by rw [I.vn c z] at q; cases q
 refine (I.hok b o e).pJ (fun c v hc q=>(k.2.1 c ?_).trans q) (fun _ q=>q) fun _ _ q=>q
 rcases hc with z | z
 . rw [z]; exact nf b o e
 . exact nf c _ z
theorem D5 {i:Nat} {v:Value} (I:Inv X pins σ H s) (e:H a = some (oM a C dx)):
  Inv X pins σ H { s with heap:=s.heap.update a (Obj.mapFields (·.setIfInBounds i v)) }:=by
 obtain ⟨⟨o,vs,ho,hc,hd,hf,hz⟩,_,_⟩:=I.hok a _ e
 have hs:=Heap.get?_update_self (Obj.mapFields (·.setIfInBounds i v)) ho (Obj.isFreed_of_fields (Obj.data_mapFields hf _))
 have q:=I.write (x:=a) (e:=a) (o:=oM a C dx) (t':=s.toks) (h':=s.heap.update a (Obj.mapFields (·.setIfInBounds i v))) (by rw [e]; trivial) (.inl rfl)
  (fun b u hb q=>(Heap.get?_update_other _ _ (Ne.symm hb)).trans q) ⟨_,hs⟩ (yR ⟨_,_,hs,by rw [Obj.cls_mapFields]; exact hc,by obtain ⟨c,d,dt,sl⟩:=o; cases dt <;> exact hd,Obj.data_mapFields hf _,by simpa using hz⟩)
 rw [CI e] at q
 exact q
theorem CA {T:Addr} {i:Nat} {v:Value} (I:Inv X pins σ H s) (e:H T = some (oTb T)):
  Inv X pins σ H { s with heap:=s.heap.update T (Obj.mapFields (·.setIfInBounds i v)) }:=by
 obtain ⟨⟨o,vs,ho,hf,hz⟩,_,_⟩:=I.hok T _ e
 have hs:=Heap.get?_update_self (Obj.mapFields (·.setIfInBounds i v)) ho (Obj.isFreed_of_fields (Obj.data_mapFields hf _))
 have q:=I.write (x:=T) (e:=T) (o:=oTb T) (t':=s.toks) (h':=s.heap.update T (Obj.mapFields (·.setIfInBounds i v))) (by rw [e]; trivial) (.inl rfl)
  (fun b u hb q=>(Heap.get?_update_other _ _ (Ne.symm hb)).trans q) ⟨_,hs⟩ (FT ⟨_,_,hs,Obj.data_mapFields hf _,by simpa using hz⟩)
 rw [CI e] at q
 exact q
theorem xh {L:Addr} {head:Value} {had:Bool} {Q:Unit -> Shared -> Prop} {E:Value -> Shared -> Prop} (I:Inv X pins σ H s) (hst:X.stack = X.env ::X.outer) (hf:X.env.frame = some L) (e:H a = some (oM a C dx))
  (h:∀ s' H',Inv X pins σ H' s' -> aJ H H' -> wu H' s'.heap a C dx -> Q () s'):
  wpAny (model X.prog X.w) X.A (do let fr <- frameOf X.env; let pl <- entryPlaceOf L had; let b <- EntryCells.newEntry head fr .none (rawInt L) .none pl; setField (.ref a) 1 b) Q E s:=by
 have hfr:X.A.frames = some (X.env ::X.outer):=by rw [<- hst]; exact I.ok.frames
 have hl:s.heap.FunFrames X.base (X.env ::X.outer):=by rw [<- hst]; exact I.stack
 refine wpAny_bind (wpAny_frameOf_fun hfr hl hf fun h₁ k₁=>?_)
 have k₁':Heap.SlotsOnly (frs X.stack) s.heap h₁:=by rw [hst]; exact k₁
 have I₁:=I.call (g':=s.gens) (t':=s.toks) (d':=s.drawn) (ch:=[]) (Df I k₁') (Ar I k₁') I.bare (fun b z=>absurd z (by simp))
 refine wpAny_bind (wpAny_entryPlaceOf fun pl hpl=>?_)
 unfold EntryCells.newEntry newFields
 refine wpAny_bind (wpAny_newObj_type ?_ (hpl.sizeOk5 _ _ _ _ _))
 have big:3 < ([head,.ref L,.none,rawInt L,.none] ++ (if pl.isEmpty then List.replicate 6 Value.none else pl)).toArray.size:=by
  rw [List.size_toArray,List.length_append]
  show 3 < 5 + _
  omega
 have new:=Heap.get?_push_size h₁ (o:={ cls:=.type "traceback",dict:=none,data:=.fields ([head,.ref L,.none,rawInt L,.none] ++ (if pl.isEmpty then List.replicate 6 Value.none else pl)).toArray }) rfl
 have fr:H h₁.objs.size = none:=I₁.hok.fresh (Nat.le_refl _)
 have ne:h₁.objs.size ≠ a:=fun z=>by rw [z,e] at fr; cases fr
 have I₂:=I₁.laid (a:=h₁.objs.size) (o:=oTb h₁.objs.size) (t':=s.toks) (fun b u q=>Heap.get?_push_of_some _ q) (Nat.le_refl _) (FT ⟨_,_,new,rfl,big⟩)
 have g:aJ H (upd H h₁.objs.size (oTb h₁.objs.size)):=fun b u q=>by rw [ba (cS q fr)]; exact q
 obtain ⟨⟨o,vs,ho,hc,hd,hv,hz⟩,_,_⟩:=I₂.hok a _ (g _ _ e)
 refine wpAny_setField ho hv (by omega) ?_
 refine h _ _ (D5 I₂ (g _ _ e)) g ⟨g _ _ e,_,_,h₁.objs.size,Heap.get?_update_self _ ho (Obj.isFreed_of_fields (Obj.data_mapFields hv _)),Obj.data_mapFields hv _,by simp [hz],bb,ne⟩
theorem zR {Q:Unit -> Shared -> Prop} {E:Value -> Shared -> Prop} (I:Inv X pins σ H s) (hst:X.stack = X.env ::X.outer /\ X.env.frame = some X.env.locals) (F:Fly H s.heap a C dx)
  (h:∀ s' H',Inv X pins σ H' s' -> aJ H H' -> wu H' s'.heap a C dx -> Q () s'):wpAny (model X.prog X.w) X.A (noteFrame (.ref a) X.env) Q E s:=by
 obtain ⟨o,vs,ho,hv,hw⟩:=F.tb
 unfold noteFrame
 simp only [hst.2]
 rcases hw with h1 | ⟨T,h1,hT,ne⟩
 . refine wpAny_bind (wpAny_field ho hv h1 ?_)
   rw [if_neg (by decide)]
   exact xh I hst.1 hst.2 F.exc h
 . obtain ⟨⟨oT,ts,hoT,hdT,hz⟩,_,_⟩:=I.hok T _ hT
   refine wpAny_bind (wpAny_field ho hv h1 ?_)
   rw [if_pos (show (Value.ref T != Value.none) = true from by simp)]
   have h3:ts[3]? = some ts[3]:=by simp [hz]
   refine wpAny_bind (wpAny_field hoT hdT h3 ?_)
   by_cases c:(ts[3] == rawInt X.env.locals) = true
   . rw [if_pos c]
     exact wpAny_pure (h s H I (aJ.refl H) ⟨F.exc,o,vs,T,ho,hv,h1,hT,ne⟩)
   . rw [if_neg c]
     refine wpAny_bind (wpAny_setField hoT hdT hz ?_)
     exact xh (CA I hT) hst.1 hst.2 F.exc h
theorem oA {x:Option Addr} {Q:Unit -> Shared -> Prop} {E:Value -> Shared -> Prop} (I:Inv X pins σ H s) (F:wu H s.heap a C dx)
  (h:∀ s',Inv X pins σ H s' -> wu H s'.heap a C dx -> Q () s'):wpAny (model X.prog X.w) X.A (setFlight (.ref a) x) Q E s:=by
 obtain ⟨o,vs,T,ho,hv,h1,hT,ne⟩:=F.tb
 unfold setFlight
 obtain ⟨⟨oT,ts,hoT,hdT,hz⟩,_,_⟩:=I.hok T _ hT
 refine wpAny_bind (wpAny_field ho hv h1 ?_)
 rw [if_pos (show (Value.ref T != Value.none) = true from by simp)]
 refine wpAny_setField hoT hdT hz ?_
 exact h _ (CA I hT) ⟨F.exc,o,vs,T,(Heap.get?_update_other _ _ ne).trans ho,hv,h1,hT,ne⟩
theorem Ds {α:Type} {what:String} {Q:α -> Shared -> Prop} {E:Value -> Shared -> Prop} (I:Inv X pins σ H s) (F:wu H s.heap a C dx)
  (h:∀ s',Inv X pins σ H s' -> wu H s'.heap a C dx -> E (.ref a) s'):wpAny (model X.prog X.w) X.A (PySem.passOn what (.ref a) X.env:Sem α) Q E s:=by
 obtain ⟨o,vs,T,ho,hv,h1,hT,ne⟩:=id F.tb
 unfold PySem.passOn
 refine wpAny_bind (wpAny_field ho hv h1 ?_)
 rw [if_neg (show ¬ (Value.ref T == Value.none) = true from by simp)]
 exact wpAny_bind (oA I F fun s' I' F'=>wpAny_throw (h s' I' F'))
end
noncomputable def CXE (P:Program) (w:World):CXT:=fun outer H s E e s'=>∃ a C dx H',e = .ref a /\ s'.os = s.os /\ AllBare s'.gens /\ Un (frs outer) [] H H' s.heap s'.heap /\ HOk P w H' s'.heap /\ Fly H' s'.heap a C dx /\ E (.ref C) (some a) H'
abbrev XW:=Value -> Option Addr -> St -> Hp -> Prop
noncomputable def Thr (X:Cx) (W:XW):Prop:=∀ (pins:List (Addr × Obj)) (σ:St) (H:Hp) (s:Shared) (a C:Addr) (dx:Option Addr),Inv X pins σ H s -> Fly H s.heap a C dx -> W (.ref C) (some a) σ H -> X.xe (.ref a) s
section
variable {CX:CXT} {P:Program} {w:World} {K:PySem.W.Frag} {mg:Str -> Option Value} {base:Heap} {N:List Str} {qual:Str} {scope:Scope} {f:Addr} {cd:Value} {A:Around} {outer:List Env} {s₀:Shared} {H₀:Hp} {E:XK}
theorem aF:Thr (pZ (CXE P w) P w K mg base N qual scope f cd A outer s₀ H₀ E) (fun C a _ H=>∀ H',aJ H H' -> E C a H'):=by
 intro pins σ H s a C dx I F hw
 show wpAny _ _ (leaving _ _) _ _ s
 unfold leaving
 refine wpAny_bind (zR I ⟨rfl,rfl⟩ F fun s1 H1 I1 g1 F1=>?_)
 refine oA I1 F1 fun s2 I2 F2=>?_
 exact ⟨a,C,dx,H1,rfl,I2.os,I2.bare,I2.base,I2.hok,F2.fly,hw H1 g1⟩
theorem gV:PassesOwn (model P w) (pZ (CXE P w) P w K mg base N qual scope f cd A outer s₀ H₀ E).A (pZ (CXE P w) P w K mg base N qual scope f cd A outer s₀ H₀ E).env (pZ (CXE P w) P w K mg base N qual scope f cd A outer s₀ H₀ E).xe:=by
 show PassesOwn (model P w) (A.deeper (envOfC qual scope s₀.heap.objs.size f cd)) (envOfC qual scope s₀.heap.objs.size f cd) (fun e s'=>wpAny (model P w) (A.deeper (envOfC qual scope s₀.heap.objs.size f cd)) (leaving (envOfC qual scope s₀.heap.objs.size f cd) e) (fun _ s''=>CXE P w outer H₀ s₀ E e s'') (fun e' s''=>CXE P w outer H₀ s₀ E e' s'') s')
 passes_own
end
section
variable {X:Cx} {k:Nat} {f:Addr} {fd:FuncData} {ps:List Str} {sp:Sp} {dvs:List V} {ds:List Value} {W:XW} {x m:Str} {p pos apos:Pos} {e o:Expr} {es:List Expr} {ta:TE} {t:TA}
noncomputable def tV (sp:Sp) (dvs:List V) (W:XW) (t:TA):TE:=fun σ H Q=>t σ H fun vs H1=>sp (vs ++ dvs) H1 Q fun C a H'=>W C a σ H'
theorem r6 {pins:List (Addr × Obj)} {σ:St} {H:Hp} {s:Shared} {Q:VK} {us:List Value} {vs:List V} (F:cb X.prog X.w X.K X.mg X.base (CXE X.prog X.w) k f fd ps sp) (hr:iN k X.A) (hb:Binds X.K fd ps ds) (hd:Vals dvs ds) (hx:Thr X W)
  (I:Inv X pins σ H s) (r:Vals vs us) (h:sp (vs ++ dvs) H Q fun C a H'=>W C a σ H'):wpAny (model X.prog X.w) X.A (call (.ref f) us) (EP X pins σ Q) X.xe s:=by
 have r2:Vals (vs ++ dvs) (us ++ ds):=r.append hd
 have hl:(us ++ ds).length = ps.length:=by rw [<- r2.length]; exact F.len _ _ _ _ h
 refine wpAny_call (codeAny_mono (F.run X.A X.stack s H ⟨us,[]⟩ (us ++ ds) (vs ++ dvs) Q _ hr I.Gj (hb s us I.kIn hl) r2 h) fun r s' hq=>?_)
 cases r with
 | error e=>
   obtain ⟨a,C,dx,H',rfl,ho,bare,un,hok,fl,hw⟩:=hq
   exact hx pins σ H' s' a C dx (I.FU ho un hok bare fun b z=>absurd z (by simp)) fl hw
 | ok fl=>
   cases fl with
   | ret u=>exact I.after hq
   | next=>exact False.elim hq
   | brk=>exact False.elim hq
   | cont=>exact False.elim hq
theorem Dm (F:cb X.prog X.w X.K X.mg X.base (CXE X.prog X.w) k f fd ps sp) (hr:iN k X.A) (hg:Gl X x) (hm:X.mg x = some (.ref f)) (hk:PySem.W.keepIn X.K (.ref f) = true) (hb:Binds X.K fd ps ds) (hd:Vals dvs ds) (hx:Thr X W)
  (ha:PA X (e ::es) t) (hdb:(x == ("__debug__":Str)) = false:=by decide) (he:starEach (e ::es) X.env = (false,eval e X.env) ::starEach es X.env:=by rfl) (hpl:(backTo pos (starEach es X.env)).any (·.1) = false:=by rfl):
  PE X (.Call (.Name x p) (e ::es) [] pos) (tV sp dvs W t):=by
 intro pins s σ H Q I h
 refine wpAny_Call_Name_kw (m3 I hg hm ?_ hdb)
 refine PySem.W.callWith_K (h₀:=X.base) I.ok.mod.kin hk (thn (ha pos pins s σ H _ I h) fun us s1 ⟨vs,H1,I1,r,q⟩=>⟨I1.kIn,?_⟩) he hpl
 exact r6 F hr hb hd hx I1 r q
theorem AR (F:cb X.prog X.w X.K X.mg X.base (CXE X.prog X.w) k f fd ps sp) (hr:iN k X.A) (hg:Gl X x) (hm:X.mg x = some (.ref f)) (hk:PySem.W.keepIn X.K (.ref f) = true) (hb:Binds X.K fd ps ds) (hd:Vals dvs ds) (hx:Thr X W)
  (hdb:(x == ("__debug__":Str)) = false:=by decide):PE X (.Call (.Name x p) [] [] pos) (tV sp dvs W m6):=by
 intro pins s σ H Q I h
 refine wpAny_Call_Name_kw (m3 I hg hm ?_ hdb)
 exact PySem.W.callWith_K0 I.kIn hk (r6 (us:=[]) F hr hb hd hx I .nil h)
end
end L2.E
namespace L2.E
open PySem PySem.Spec PyProof.Rows
theorem BM {P:Program} {w:World} {H:Hp} {h:Heap} {a:Addr} {o:HO} (x:gm P w H h a o):∃ u,h.get? a = some u:=by
 cases o with
 | lst xs=>obtain ⟨_,_,_,_,e⟩:=x; exact ⟨_,e⟩
 | tup xs=>obtain ⟨_,_,_,u,e,_⟩:=x; exact ⟨_,e⟩
 | dK kvs=>obtain ⟨_,_,_,_,o,_,_,e,_⟩:=x; exact ⟨_,e⟩
 | dT kvs=>obtain ⟨_,_,_,_,o,_,_,e,_⟩:=x; exact ⟨_,e⟩
 | set S n=>obtain ⟨o,_,_,_,e,_⟩:=x; exact ⟨_,e⟩
 | ins C dx fs=>obtain ⟨_,_,_,e,_⟩:=x; exact ⟨_,e⟩
 | own y=>exact x
 | xd fs=>obtain ⟨_,⟨_,_,_,e,_⟩,_⟩:=x; exact ⟨_,e⟩
 | rng lo hi=>obtain ⟨_,_,_,e⟩:=x; exact ⟨_,e⟩
 | frz ob u=>obtain ⟨e,_⟩:=x; exact ⟨_,e⟩
 | tbl ps=>exact ⟨_,x⟩
 | met f y=>exact ⟨_,x⟩
 | ext φ=>exact x.2.1
section
variable {X:Cx} {pins:List (Addr × Obj)} {σ:St} {H:Hp} {s:Shared} {h':Heap} {a:Addr} {o:HO}
theorem vQ (I:Inv X pins σ H s) (hn:s.heap.get? a = none):H a = none:=by
 cases q:H a with
 | none=>rfl
 | some u=>
   obtain ⟨v,e⟩:=BM (I.hok a u q)
   rw [hn] at e; cases e
theorem Fg (I:Inv X pins σ H s) (k:∀ b u,s.heap.get? b = some u -> h'.get? b = some u) (hn:s.heap.get? a = none) (new:gm X.prog X.w (upd H a o) h' a o):
  Inv X pins σ (upd H a o) { s with heap:=h' }:=by
 have fr:=vQ I hn
 have ne:∀ b u,s.heap.get? b = some u -> b ≠ a:=fun b u q z=>by rw [z,hn] at q; cases q
 have un:Un X.fs [] H (upd H a o) s.heap h':=⟨fun b u q _ _ _=>k b u q,fun b u q _ _ _=>⟨u.slots,k b u q⟩,fun b u q n _=>by rw [ba (ne b u q)]; exact n,fun b u q _=>⟨u,k b u q⟩,
  fun b xs q=>by rw [ba (cS q fr)]; exact q,fun b u xs q=>by rw [ba (cS q fr)]; exact q,fun b ps q=>⟨#[],by rw [ba (cS q fr),q]; simp⟩⟩
 refine I.un (t':=s.toks) un fun b u q=>?_
 by_cases hb:b = a
 . subst hb
   rw [bb] at q; cases q
   exact new
 . rw [ba hb] at q
   exact (I.hok b u q).pJ (fun c v _ z=>k c v z) (fun c z=>by rw [ba (cS z fr)]; exact z) fun c xs z=>by rw [ba (cS z fr)]; exact z
end
noncomputable def yd (C:Addr) (W:XW) (t:TA):TS:=fun D σ H=>t σ H fun vs H1=>vs.length <= sizeLine /\ ∀ a,H1 a = none -> W (.ref C) (some a) σ (upd H1 a (oM a C none))
theorem zk {K:PySem.W.Frag} {h₀:Heap} {mg:Str -> Option Value} {x:Str} {C:Addr} {bmB:List Value} {newId:String} (X:K.In h₀) (e:mg x = some (.ref C)) (q:PySem.W.excIn K C bmB newId = true):
  OwnCls x C bmB newId mg h₀:=by
 refine ⟨e,?_⟩
 unfold PySem.W.excIn at q
 split at q
 next dd cd sl ho=>
  split at q
  next C' bm k0 k1 k2 k3 n k5 hm hs=>
   simp only [Bool.and_eq_true,beq_iff_eq,Bool.not_eq_true'] at q
   obtain ⟨⟨⟨⟨⟨e1,e2⟩,del⟩,ht⟩,ok⟩,ini⟩:=q
   subst e1 e2
   cases cd with
   | mk nm bs mro ns qn hd sn sub ab col dl=>
     dsimp only at hm del ok ini
     subst hm del
     have z:sl = #[k0,k1,k2,k3,some (.builtin n),k5]:=by cases sl; simp only at hs; rw [hs]
     subst z
     exact ⟨bm,ns,nm,qn,bs,hd,sn,sub,ab,col,dd,k0,k1,k2,k3,k5,_,X _ _ ho,.of_isNs (PySem.W.isNs_of_in X ok),PySem.W.nsMap_none_of_in X ok ini,PySem.W.tail_of_in X ht⟩
  next=>cases q
 next=>cases q
theorem Ei {X:Cx} {pins:List (Addr × Obj)} {σ:St} {H:Hp} {s:Shared} {h':Heap} {e C:Addr} {us:List Value} (I:Inv X pins σ H s) (hm:Heap.MadeExcOf s.heap h' e (.ref C) us):
  H e = none /\ Inv X pins σ (upd H e (oM e C none)) { s with heap:=h' } /\ Fly (upd H e (oM e C none)) h' e C none:=by
 obtain ⟨t,he,_,_⟩:=hm.there
 refine ⟨vQ I hm.new,Fg I hm.keeps hm.new (yR ⟨_,_,he,rfl,rfl,rfl,rfl⟩),bb,_,_,he,rfl,.inl rfl⟩
section
variable {X:Cx} {x:Str} {np cpos pos:Pos} {e₀:Expr} {rest:List Expr} {t:TA} {W:XW} {C:Addr} {B newId initId:String} {bm:List Value}
theorem BP (hT:Thr X W) (hh:X.A.handled = none) (FB:ExcBaseFacts B newId initId bm) (hg:Gl X x) (hm:X.mg x = some (.ref C)) (hC:PySem.W.excIn X.K C bm newId = true) (ha:PA X (e₀ ::rest) t)
  (he:starEach (e₀ ::rest) X.env = (false,eval e₀ X.env) ::starEach rest X.env:=by rfl) (hpl:(backTo cpos (starEach rest X.env)).any (·.1) = false:=by rfl) (hd:(x == ("__debug__":Str)) = false:=by decide):
  PS X (.Raise (some (.Call (.Name x np) (e₀ ::rest) [] cpos)) none pos) (yd C W t):=by
 intro pins s σ H D I h
 have O:=zk I.mod.kin hm hC
 obtain ⟨tl,N,nm,q,bs,hdct,sn,sub,ab,col,dd,k0,k1,k2,k3,k5,mN,hc,hN,hni,T⟩:=O.obj
 refine wpAny_Raise_call_subT (nm:=nm) (q:=q) (N:=N) (bs:=bs) (hdct:=hdct) (sn:=sn) (sub:=sub)
  (ab:=ab) (col:=col) (dd:=dd) (k0:=k0) (k1:=k1) (k2:=k2) (k3:=k3) (k5:=k5) (mN:=mN) FB (T.hasType FB.hasBase) hh ?_ hni (m3 I hg hm ⟨rfl,?_⟩ hd)
 . rw [he]
   show (false || (backTo cpos (starEach rest X.env)).any (·.1)) = false
   rw [hpl]; rfl
 . have hsp:=ha cpos pins s σ H _ I h
   rw [he] at hsp ⊢
   refine Calls.evalArgs_plain (wpAny_mono hsp (fun us s2 ⟨vs,H2,I2,r,z,w⟩=>⟨rfl,by rw [<- r.length]; exact z,I2.bk _ _ hc,hN.keeps I2.bk,T.keeps I2.bk,fun h' e hm=>?_⟩) fun _ _ y=>y)
   obtain ⟨f1,f2,f3⟩:=Ei I2 hm
   exact hT pins σ _ _ e C none f2 f3 (w e f1)
end
noncomputable abbrev hand (X:Cx) (a:Addr):Cx:={ X with A:=X.A.mark (some (.ref a)),calm:=false,xe:=fun _ _=>False }
theorem Aa {X:Cx} {pins:List (Addr × Obj)} {σ:St} {H:Hp} {s:Shared} (I:Inv X pins σ H s) (a:Addr):Inv (hand X a) pins σ H s:=
 ⟨⟨I.ok.mod,I.ok.kind,I.ok.glob,I.ok.blt,I.ok.above,I.ok.inj,I.ok.has,I.ok.cab,fun z=>absurd z Bool.false_ne_true,I.ok.frames,I.ok.stk,I.ok.exf,I.ok.bs,I.ok.bsz,I.ok.noex,I.ok.exfs,I.ok.rP,I.ok.frf⟩,I.os,I.bare,I.base,I.loc,I.cell,I.free,I.freeC,I.pin,I.hok,I.len⟩
theorem pY {X:Cx} {pins:List (Addr × Obj)} {σ:St} {H:Hp} {s:Shared} {a:Addr} (ok:X.Ok) (I:Inv (hand X a) pins σ H s):Inv X pins σ H s:=
 ⟨ok,I.os,I.bare,I.base,I.loc,I.cell,I.free,I.freeC,I.pin,I.hok,I.len⟩
noncomputable abbrev tY (X:Cx) (pn:List (Addr × Obj)) (xe:Value -> Shared -> Prop):Cx:={ X with pn:=pn,xe:=xe }
theorem Gn {X:Cx} {pins:List (Addr × Obj)} {σ:St} {H:Hp} {s:Shared} (I:Inv X pins σ H s) (xe:Value -> Shared -> Prop):Inv (tY X (X.pn ++ pins) xe) [] σ H s:=
 ⟨⟨I.ok.mod,I.ok.kind,I.ok.glob,I.ok.blt,I.ok.above,I.ok.inj,I.ok.has,I.ok.cab,I.ok.hd,I.ok.frames,I.ok.stk,I.ok.exf,I.ok.bs,I.ok.bsz,I.ok.noex,I.ok.exfs,I.ok.rP,I.ok.frf⟩,I.os,I.bare,I.base,I.loc,I.cell,I.free,I.freeC,fun p hp=>I.pin p (by simpa using hp),I.hok,I.len⟩
theorem p5 {X:Cx} {pins pins':List (Addr × Obj)} {σ:St} {H:Hp} {s:Shared} {xe:Value -> Shared -> Prop} (ok:X.Ok) (I:Inv (tY X (X.pn ++ pins) xe) pins' σ H s):Inv X pins σ H s:=
 ⟨ok,I.os,I.bare,I.base,I.loc,I.cell,I.free,I.freeC,fun p hp=>I.pin p (List.mem_append_left _ hp),I.hok,I.len⟩
noncomputable def nK (K:PySem.W.Frag) (C:Addr) (bm:List Value):Prop:=bm.contains (.type "BaseException") = true /\ ∃ nm q N bs hdct sn sub ab col dd k0 k1 k2 k3 k5 newId,K.lookup C = some (excClassObj nm q C N bs bm hdct sn sub ab col dd k0 k1 k2 k3 k5 newId)
noncomputable def uA (K:PySem.W.Frag) (T C:Addr) (b:Bool):Prop:=∃ bmC bmT,nK K C bmC /\ nK K T bmT /\ (Value.ref C ::bmC).contains (.ref T) = b
theorem y6 {M:Model} {A:Around} {E:Value -> Shared -> Prop} {K:PySem.W.Frag} {s:Shared} {a C T:Addr} {dx:Option Addr} {b:Bool} {Q:Bool -> Shared -> Prop} (X:K.In s.heap) (e:Cy a C dx s.heap) (t:uA K T C b) (hq:Q b s):
  wpAny M A (excMatches (.ref a) (.ref T)) Q E s:=by
 obtain ⟨bmC,bmT,⟨bC,nm,q,N,bs,hdct,sn,sub,ab,col,dd,k0,k1,k2,k3,k5,nid,lC⟩,⟨bT,nm',q',N',bs',hdct',sn',sub',ab',col',dd',k0',k1',k2',k3',k5',nid',lT⟩,hb⟩:=t
 obtain ⟨o,vs,he,hcls,_⟩:=e
 have hC:=X _ _ lC
 have hT:=X _ _ lT
 obtain ⟨hp,g,d,tk,os⟩:=s
 have f:=tc_notTuple
 have cB:(Value.ref T ::bmT).contains (.type "BaseException") = true:=by rw [List.contains_cons,bT,Bool.or_true]
 unfold excMatches
 repeat (first
  | (with_reducible refine wpAny_loadPart_at he ?_; rw [hcls])
  | with_reducible refine wpAny_loadPart_at hT ?_
  | (with_reducible refine wpAny_isSubtype_exc hC ?_; rw [hb])
  | (with_reducible refine wpAny_isSubtype_exc hT ?_; rw [cB])
  | wp_step)
 cases b <;> (wp_walk; exact hq)
end L2.E
namespace L2.E
open PySem PySem.Spec PyProof.Rows
theorem ED {X:Cx} {pins:List (Addr × Obj)} {σ:St} {H:Hp} {s:Shared} {h':Heap} {t':Nat} {i:Nat} {n:Str} {m:Str -> Option Value} {v:Option Value} (I:Inv X pins σ H s) (hN:X.N.Nodup) (hi:X.N[i]? = some n)
  (hl:∀ (j:Nat) (x:Str) (v:V),X.N[j]? = some x -> σ[j]? = some (some v) -> Vis X.env.scope x -> ∃ u,RelV v u /\ Look X.env s.heap m x u)
  (hs:Heap.SameBut X.env.locals s.heap h') (hn:h'.Ns X.env.locals (fun x=>if x = n then v else m x)):Inv X pins (σ.set i none) H { s with heap:=h',toks:=t' }:=by
 have cne:=I.cne
 refine ⟨I.ok,I.os,I.bare,⟨fun b o e k hb hx=>?_,fun b o e k hb hx=>?_,I.base.free,fun b o e hx=>?_,I.base.tups,I.base.frzs,I.base.tbls⟩,⟨_,hn,fun j y w e1 e2 e3=>?_⟩,fun y c e=>?_,I.free,I.freeC,fun p hp=>?_,fun b ob e=>?_,by simpa using I.len⟩
 . exact (hs.2 b (Nat.ne_of_lt (Nat.lt_of_lt_of_le (Heap.lt_size e) I.ok.above))).trans (I.base.keep b o e k hb hx)
 . obtain ⟨sl,z⟩:=I.base.slot b o e k hb hx
   exact ⟨sl,(hs.2 b (Nat.ne_of_lt (Nat.lt_of_lt_of_le (Heap.lt_size e) I.ok.above))).trans z⟩
 . obtain ⟨o',z⟩:=I.base.there b o e hx
   exact ⟨o',(hs.2 b (Nat.ne_of_lt (Nat.lt_of_lt_of_le (Heap.lt_size e) I.ok.above))).trans z⟩
 . by_cases hj:j = i
   . subst hj
     rw [List.getElem?_set] at e2
     split at e2
     . split at e2 <;> cases e2
     . exact absurd rfl ‹_›
   . rw [List.getElem?_set_ne (Ne.symm hj)] at e2
     obtain ⟨u,r,q⟩:=hl j y w e1 e2 e3
     refine ⟨u,r,?_⟩
     rcases q with ⟨k,e⟩ | ⟨k,c,e,z⟩
     . refine .inl ⟨k,?_⟩
       have:y ≠ n:=fun z=>hj (tZ hN e1 (z ▸ hi))
       simp [this,e]
     . exact .inr ⟨k,c,e,z.sameBut hs (cne y c e)⟩
 . obtain ⟨w,z⟩:=I.cell y c e
   exact ⟨w,z.sameBut hs (cne y c e)⟩
 . obtain ⟨e,k,ne,nf,d⟩:=I.pin p hp
   exact ⟨(hs.2 p.1 ne).trans e,k,ne,nf,d⟩
 . refine (I.hok b ob e).pJ (fun c w hc q=>(hs.2 c ?_).trans q) (fun _ q=>q) fun _ _ q=>q
   rintro rfl
   rcases hc with z | z
   . rw [<- z,I.free] at e; cases e
   . rw [I.free] at z; cases z
noncomputable def Je (i:Option Nat) (a:Option Addr) (σ:St):St:=match i,a with
 | some j,some b=>σ.set j (some (.ref b))
 | _,_=>σ
noncomputable def BK (i:Option Nat) (σ:St):St:=match i with
 | some j=>σ.set j none
 | none=>σ
noncomputable def Bp (i:Option Nat) (D:Ends):Ends:={ nx:=fun σ H=>D.nx (BK i σ) H,rt:=D.rt,bk:=fun σ H=>D.bk (BK i σ) H,ct:=fun σ H=>D.ct (BK i σ) H }
noncomputable def JJ (K:PySem.W.Frag) (T:Addr) (ts:TS) (i:Option Nat) (W₀:XW) (D:Ends):XW:=fun C a σ H=>∀ H',aJ H H' -> ∃ c b,C = .ref c /\ uA K T c b /\ if b = true then ts (Bp i D) (Je i a σ) H' else W₀ C a σ H'
noncomputable def GR (K:PySem.W.Frag) (tb:XW -> TS) (T:Addr) (ts:TS) (i:Option Nat) (W₀:XW):TS:=fun D σ H=>tb (JJ K T ts i W₀ D) D σ H
section
variable {X:Cx} {x n:Str} {np hpos pos:Pos} {body suite:List Stmt} {b₀:Stmt} {tb:XW -> TS} {ts:TS} {T:Addr} {W₀:XW}
theorem Dw {a:Addr} {pins:List (Addr × Obj)} {D:Ends} {f:Flow} {s:Shared} (ok:X.Ok) (h:SP (hand X a) pins D f s):SP X pins D f s:=by
 cases f with
 | next=>obtain ⟨σ',H',I,q⟩:=h; exact ⟨σ',H',pY ok I,q⟩
 | brk=>obtain ⟨σ',H',I,q⟩:=h; exact ⟨σ',H',pY ok I,q⟩
 | cont=>obtain ⟨σ',H',I,q⟩:=h; exact ⟨σ',H',pY ok I,q⟩
 | ret u=>obtain ⟨v,σ',H',I,r,q⟩:=h; exact ⟨v,σ',H',pY ok I,r,q⟩
theorem Gr {pins pins':List (Addr × Obj)} {xe:Value -> Shared -> Prop} {D:Ends} {f:Flow} {s:Shared} (ok:X.Ok) (h:SP (tY X (X.pn ++ pins) xe) pins' D f s):SP X pins D f s:=by
 cases f with
 | next=>obtain ⟨σ',H',I,q⟩:=h; exact ⟨σ',H',p5 ok I,q⟩
 | brk=>obtain ⟨σ',H',I,q⟩:=h; exact ⟨σ',H',p5 ok I,q⟩
 | cont=>obtain ⟨σ',H',I,q⟩:=h; exact ⟨σ',H',p5 ok I,q⟩
 | ret u=>obtain ⟨v,σ',H',I,r,q⟩:=h; exact ⟨v,σ',H',p5 ok I,r,q⟩
theorem AD {pins:List (Addr × Obj)} {σ:St} {H:Hp} {s:Shared} {a C:Addr} {dx:Option Addr} {b:Bool} {R:Result -> Shared -> Prop} (I:Inv X pins σ H s) (F:wu H s.heap a C dx) (hg:Gl X x) (hm:X.mg x = some (.ref T)) (hk:uA X.K T C b)
  (hd:(x == ("__debug__":Str)) = false) (h:R (.ok (if b then .brk else .next)) s):codeAny (model X.prog X.w) (X.A.mark (some (.ref a))) (.handlers (.ref a) [.ExceptHandler (some (.Name x np)) none [] hpos] X.env) R s:=by
 refine codeAny_handlers_test (m3 (X:=hand X a) (Aa I a) hg hm ?_ hd)
 obtain ⟨e,_,_⟩:=I.hok a _ F.exc
 exact y6 I.kIn e hk h
theorem Bo {i:Nat} (hst:X.stack = X.env ::X.outer /\ X.env.frame = some X.env.locals) (hN:X.N.Nodup) (hi:X.N[i]? = some n) (hl:X.env.scope.names.lookup n = some .local) (hb:∀ pn xe W,Thr (tY X pn xe) W -> PassesOwn (model X.prog X.w) X.A X.env xe -> PSs (tY X pn xe) body (tb W))
  (hg:Gl X x) (hm:X.mg x = some (.ref T)) (hs:∀ a,PSs (hand X a) (b₀ ::suite) ts) (hX:Thr X W₀) (hd:(x == ("__debug__":Str)) = false:=by decide):
  PS X (.Try body [.ExceptHandler (some (.Name x np)) (some n) (b₀ ::suite) hpos] [] [] pos) (GR X.K tb T ts (some i) W₀):=by
 intro pins s σ H D I h
 have hcls:(X.env.scope.kind == .class || (X.env.scope.kind == .module && X.env.locals != X.env.globals)) = false:=by rw [I.ok.kind]; rfl
 have fin:∀ {σ' H' s'},Inv X pins σ' H' s' -> ∀ {Q:Unit -> Shared -> Prop} {E:Value -> Shared -> Prop},(∀ s'',Inv X pins (σ'.set i none) H' s'' -> Q () s'') -> wpAny (model X.prog X.w) X.A (do bindName X.env n .none; unbindBehindTheSuite X.env n hpos) Q E s':=fun {σ' H' s'} J {Q E} k=>by
  obtain ⟨m,hn,hlk⟩:=id J.loc
  exact wpAny_nameGoes_keeps hl hn hcls fun h2 v hn2 hs2=>k _ (ED J hN hi hlk hs2 hn2)
 refine wpAny_Try_except ?_
 refine wpAny_mono (hb (X.pn ++ pins) _ (JJ X.K T ts (some i) W₀ D) ?_ PassesOwn.looking [] s σ H D (Gn I _) h) (fun f s1 h1=>?_) fun _ _ z=>z
 . intro pins' σ' H' s' a C dx I' F' hw
   refine zR (p5 (pins:=pins) I.ok I') hst F' fun s1 H1 I1 g1 F1=>?_
   refine oA I1 F1 fun s2 I2 F2=>?_
   obtain ⟨c,b,hc,hk,q⟩:=hw H1 g1
   cases hc
   refine wpAny_handleBy_cons (AD I2 F2 hg hm hk hd ?_) (by intro z; cases z)
   cases b with
   | true=>
     refine codeAny_handlers_suite_as (oA (X:=hand X a) (Aa I2 a) F2 fun s3 I3 F3=>?_)
     refine kl (X:=hand X a) (v:=.ref a) I3 hN hi (.inl hl) rfl (fun s4 I4=>?_) (.inr hl)
     refine wpAny_mono (hs a pins s4 _ H1 (Bp (some i) D) I4 q) (fun f s5 h5=>?_) fun _ _ z=>False.elim z
     have z:=Dw I.ok h5
     show wpAny _ _ _ _ _ s5
     cases f with
     | next=>obtain ⟨σ6,H6,J,r⟩:=z; exact fin J fun s7 J7=>⟨_,_,J7,r⟩
     | brk=>obtain ⟨σ6,H6,J,r⟩:=z; exact fin J fun s7 J7=>⟨_,_,J7,r⟩
     | cont=>obtain ⟨σ6,H6,J,r⟩:=z; exact fin J fun s7 J7=>⟨_,_,J7,r⟩
     | ret u=>obtain ⟨v,σ6,H6,J,rv,r⟩:=z; exact fin J fun s7 J7=>⟨v,_,_,J7,rv,r⟩
   | false=>
     refine wpAny_handleBy_nil (Ds I2 F2 fun s3 I3 F3=>?_)
     exact hX pins σ' H1 s3 a C dx I3 F3.fly q
 . have z:=Gr I.ok h1
   cases f with
   | next=>exact wpAny_execs_nil z
   | brk=>exact z
   | cont=>exact z
   | ret u=>exact z
end
end L2.E
namespace L2.E
open PySem PySem.Spec PyProof.Rows
noncomputable abbrev blk (X:Cx) (scope:Scope) (cl:List (Str × Addr)) (N:List Str) (C:Addr) (s₀:Shared) (H₀:Hp) (ex:List Addr):Cx:=
 { prog:=X.prog,w:=X.w,K:=X.K,mg:=X.mg,base:=X.base,A:=X.A,N:=N,s₀:=s₀,H₀:=H₀,env:=compEnvC scope cl C X.env,outer:=X.stack,stack:=X.stack,ex:=ex,fn:=fun _=>false,calm:=X.calm,pn:=[],xe:=fun _ _=>False }
theorem qZ {X:Cx}:Thr X (fun _ _ _ _=>False):=fun _ _ _ _ _ _ _ _ _ h=>h.elim
structure mX (X:Cx) (scope:Scope) (cl:List (Str × Addr)) (M:List Str) (ι:List Nat) (x:Str):Prop where
 clos:closureFor scope X.env = pure cl
 kind:scope.kind = .function
 nocell:(scope.names.all fun p=>p.2 != .cell) = true
 locs:(scope.names.all fun p=>p.2 != .local || scope.names.lookup p.1 == some .local) = true
 var:scope.names.lookup x = some .local
 names:M.map some = ι.map fun i=>X.N[i]?
 cells:M.map (fun y=>scope.names.lookup y) = M.map fun _=>some .free
 kinds:M.map X.env.kindOf = M.map fun _=>some .cell
 same:M.map (fun y=>cl.lookup y) = M.map fun y=>X.env.cells.lookup y
 sub:cl.map (fun p=>X.env.cells.lookup p.1) = cl.map fun p=>some p.2
 all:(scope.names.all fun p=>!(p.2 == .free) || (cl.lookup p.1).isSome) = true
 nd:(M ++ [x]).Nodup
theorem vj {α β:Type} {f g:α -> β} {l:List α} (h:l.map f = l.map g) {a:α} (ha:a ∈ l):f a = g a:=by
 induction l with
 | nil=>cases ha
 | cons b r ih=>
   rw [List.map_cons,List.map_cons] at h
   injection h with h1 h2
   rcases List.mem_cons.mp ha with z | z
   . rw [z]; exact h1
   . exact ih h2 z
theorem vz {scope:Scope} {env:Env} {y:Str} (h:scope.names.lookup y = some .free):(relabel scope env).names.lookup y = some .cell \/ (relabel scope env).names.lookup y = some .free:=by
 unfold relabel
 dsimp only
 generalize scope.names = l at h
 induction l with
 | nil=>cases h
 | cons p r ih=>
   obtain ⟨n,k⟩:=p
   rw [List.lookup_cons] at h
   rw [List.map_cons]
   by_cases e:(y == n) = true
   . rw [e] at h
     have hk:k = .free:=Option.some.inj h
     subst hk
     dsimp only
     split
     . rw [List.lookup_cons,e]; exact .inl rfl
     . rw [List.lookup_cons,e]; exact .inr rfl
   . have e':(y == n) = false:=by simpa using e
     rw [e'] at h
     dsimp only
     split
     . rw [List.lookup_cons,e']; exact ih h
     . rw [List.lookup_cons,e']; exact ih h
theorem wj {scope:Scope} {env:Env} {y:Str} (hc:(scope.names.all fun p=>p.2 != .cell) = true) (h:(relabel scope env).names.lookup y = some .cell \/ (relabel scope env).names.lookup y = some .free):∃ p ∈ scope.names,p.1 = y /\ p.2 = .free:=by
 unfold relabel at h
 dsimp only at h
 generalize scope.names = l at h hc
 induction l with
 | nil=>rcases h with h | h <;> cases h
 | cons p r ih=>
   obtain ⟨n,k⟩:=p
   rw [List.all_cons,Bool.and_eq_true] at hc
   rw [List.map_cons] at h
   by_cases e:(y == n) = true
   . refine ⟨(n,k),List.mem_cons_self,(beq_iff_eq.mp e).symm,?_⟩
     dsimp only at h ⊢
     split at h
     . rename_i c
       simp only [Bool.and_eq_true,beq_iff_eq] at c
       exact c.1.1
     . rw [List.lookup_cons,e] at h
       have hk:(k != NameKind.cell) = true:=hc.1
       rcases h with h | h
       . have:k = .cell:=Option.some.inj h
         subst this
         exact absurd hk (by decide)
       . exact Option.some.inj h
   . have e':(y == n) = false:=by simpa using e
     have h':(List.map (fun x=>match x with | (n,k)=>if (k == NameKind.free && env.scope.kind == ScopeKind.function && env.kindOf n == some NameKind.cell) = true then (n,NameKind.cell) else (n,k)) r).lookup y = some .cell \/
       (List.map (fun x=>match x with | (n,k)=>if (k == NameKind.free && env.scope.kind == ScopeKind.function && env.kindOf n == some NameKind.cell) = true then (n,NameKind.cell) else (n,k)) r).lookup y = some .free:=by
      dsimp only at h
      split at h
      . rw [List.lookup_cons,e'] at h; exact h
      . rw [List.lookup_cons,e'] at h; exact h
     obtain ⟨q,hq,z⟩:=ih h' hc.2
     exact ⟨q,List.mem_cons_of_mem _ hq,z⟩
noncomputable def pick (ι:List Nat) (σ:St):St:=ι.map fun i=>(σ[i]?).join
noncomputable def sW (wi:TI) (ι:List Nat) (te:TE):TE:=fun σ H Q=>wi σ H fun J H1=>∀ D,H1 D = none -> ∃ W:Nat -> Nat -> List V -> Hp -> Prop,(∃ m,W 0 m [] (upd H1 D (.lst []))) /\ ∀ i m ys H,W i m ys H ->
 H D = some (.lst ys) /\ ((J.stop i H /\ Q (.ref D) H) \/ (J.go i H /\ ∀ x H',J.yld i H x H' -> te (pick ι σ ++ [some x]) H' fun y H2=>H2 D = some (.lst ys) /\ ys.length < sizeLine /\ ∃ m',m' < m /\ W (i + 1) m' (ys ++ [y]) (upd H2 D (.lst (ys ++ [y])))))
section
variable {X:Cx} {scope:Scope} {cl:List (Str × Addr)} {M:List Str} {ι:List Nat} {x:Str}
theorem mX.sN (S:mX X scope cl M ι x) {y:Str} {c:Addr} (h:cl.lookup y = some c):X.env.cells.lookup y = some c:=vj S.sub (PySem.mem_of_lookup h)
theorem ya {pins:List (Addr × Obj)} {σ:St} {H:Hp} {s:Shared} {h₁:Heap} {t':Nat} {ex:List Addr} (S:mX X scope cl M ι x) (I:Inv X pins σ H s) (hex:∀ b ∈ ex,oO X pins H b /\ b < s.heap.objs.size) (hn:h₁.Ns s.heap.objs.size (fun _=>none))
  (hk:∀ b o,s.heap.get? b = some o -> h₁.get? b = some o):Inv (blk X scope cl (M ++ [x]) s.heap.objs.size s H ex) [] (pick ι σ ++ [none]) H { s with heap:=h₁,toks:=t' }:=by
 have noM:∀ b:Addr,b ∈ ex -> b ≠ s.heap.objs.size:=fun b hb=>Nat.ne_of_lt (hex b hb).2
 have fsx:∀ b ∈ ex,b ∉ frs X.stack:=fun b hb z=>by
  obtain ⟨⟨_,f1,f2,_⟩,_⟩:=hex b hb
  rcases List.mem_cons.mp (I.yp b z) with e | e
  . exact f1 e
  . exact f2 e
 have base0:∀ b o,X.base.get? b = some o -> b ∉ ex:=fun b o e z=>by
  obtain ⟨⟨_,_,_,f3,_⟩,_⟩:=hex b z
  rcases f3 with f | f
  . exact I.ok.noex b o e f
  . exact absurd (Nat.lt_of_lt_of_le (Heap.lt_size e) (Nat.le_trans I.ok.bsz f)) (Nat.lt_irrefl _)
 refine ⟨⟨I.ok.mod,S.kind,I.ok.glob,I.ok.blt,Nat.le_refl _,fun y z c h1 h2=>I.ok.inj y z c (S.sN h1) (S.sN h2),fun y hy=>?_,fun y c z=>absurd z Bool.false_ne_true,I.ok.hd,I.ok.frames,.inl rfl,
  fun b hb=>⟨noM b hb,fun y c h z=>(hex b hb).1.2.2.2.2.1 y c (S.sN h) z⟩,I.bs,Nat.le_trans I.ok.bsz I.sz,base0,fsx,I.stack,I.vn⟩,
  rfl,I.bare,Un.kept hk,⟨_,hn,fun i y v e1 e2 e3=>?_⟩,fun y c h=>?_,I.fresh,fun y c h=>?_,fun p hp=>absurd (show p ∈ ([]:List (Addr × Obj)) from hp) (by simp),I.hok.kept hk,?_⟩
 . obtain ⟨p,hp,rfl,hpf⟩:=wj S.nocell hy
   have q:=List.all_eq_true.mp S.all p hp
   rw [hpf] at q
   have q':(cl.lookup p.1).isSome = true:=by
    cases e:(cl.lookup p.1).isSome with
    | true=>rfl
    | false=>rw [e] at q; exact absurd q (by decide)
   exact Option.isSome_iff_exists.mp q'
 . have hiM:i < M.length:=by
    by_cases hlt:i < M.length
    . exact hlt
    . exfalso
      have hl:(pick ι σ).length = M.length:=by
       have q:=congrArg List.length S.names
       rw [List.length_map,List.length_map] at q
       unfold pick
       rw [List.length_map,q]
      rw [List.getElem?_append_right (by omega),hl] at e2
      have:i - M.length = 0 \/ 1 <= i - M.length:=by omega
      rcases this with z | z
      . rw [z] at e2; cases e2
      . rw [List.getElem?_eq_none (by simpa using z)] at e2; cases e2
   have hl:ι.length = M.length:=by
    have q:=congrArg List.length S.names
    rw [List.length_map,List.length_map] at q
    exact q.symm
   rw [List.getElem?_append_left hiM] at e1
   have hyM:y ∈ M:=List.mem_of_getElem? e1
   have e2':((σ[ι[i]]?).join) = some v:=by
    rw [List.getElem?_append_left (by unfold pick; rw [List.length_map]; omega)] at e2
    unfold pick at e2
    rw [List.getElem?_map,List.getElem?_eq_getElem (by omega)] at e2
    exact Option.some.inj e2
   have e4:σ[ι[i]]? = some (some v):=by
    cases q:σ[ι[i]]? with
    | none=>rw [q] at e2'; cases e2'
    | some w=>rw [q] at e2'; exact congrArg some e2'
   have e5:X.N[ι[i]]? = some y:=by
    have q:=congrArg (fun l=>l[i]?) S.names
    rw [List.getElem?_map,List.getElem?_map,e1,List.getElem?_eq_getElem (by omega)] at q
    exact (Option.some.inj q).symm
   have kc:X.env.kindOf y = some .cell:=vj S.kinds hyM
   obtain ⟨m,hm,hl⟩:=I.loc
   obtain ⟨u,r,q⟩:=hl _ y v e5 e4 (.inr (.inl kc))
   refine ⟨u,r,.inr ⟨?_,?_⟩⟩
   . exact vz (vj S.cells hyM)
   . rcases q with ⟨k,_⟩ | ⟨_,c,e,o,ho,hd⟩
     . rw [kc] at k; cases k
     . exact ⟨c,(vj S.same hyM).trans e,o,hk _ _ ho,hd⟩
 . obtain ⟨v,o,ho,hd⟩:=I.cell y c (S.sN h)
   exact ⟨v,o,hk _ _ ho,hd⟩
 . exact I.freeC y c (S.sN h)
 . have q:=congrArg List.length S.names
   rw [List.length_map,List.length_map] at q
   show (pick ι σ ++ [none]).length = (M ++ [x]).length
   unfold pick
   rw [List.length_append,List.length_append,List.length_map,q]
   rfl
theorem wt {pins:List (Addr × Obj)} {σ σ':St} {H H':Hp} {s s':Shared} {h':Heap} {ex:List Addr} {C:Addr} (I:Inv X pins σ H s) (hC:C = s.heap.objs.size) (hex:∀ b ∈ ex,oO X pins H b) {N:List Str} (J:Inv (blk X scope cl N C s H ex) [] σ' H' s')
  (hs:Heap.SameBut C s'.heap h'):Inv X pins σ H' { s' with heap:=h' }:=by
 subst hC
 have K:Inv X pins σ H' s':=I.FU (ch:=ex) J.os J.base J.hok J.bare fun b hb=>by
  obtain ⟨_,f1,_,f3,f4,f5⟩:=hex b hb
  exact ⟨f3,f1,f4,f5⟩
 refine K.turned (t':=s'.toks) (it:=s.heap.objs.size) (fun b o hb e=>(hs.2 b hb).trans e) J.free (Nat.ne_of_gt I.lt) (.inr I.sz) (fun y c e z=>?_) (fun p hp z=>?_)
 . obtain ⟨v,q⟩:=I.cell y c e
   exact absurd (z ▸ q.lt) (Nat.lt_irrefl _)
 . exact absurd (z ▸ Heap.lt_size (I.pin p hp).1) (Nat.lt_irrefl _)
theorem u2 (elt target iter:Expr) (scope:Scope) (pos:Pos) (it acc:Value) (env:Env):
  compTurn (.ListComp elt [⟨target,iter,[],0⟩] scope pos) 0 it acc env = (do
   standAt iter.pos
   match <- pyNext it with
   | none=>pure (.done .next)
   | some v=>do
     letOwnedTupleGo target it v
     assign target env v
     (do let x <- eval elt env; let _ <- call (.builtin "list.append") [acc,x]; pure ())
     again (.compLoop (.ListComp elt [⟨target,iter,[],0⟩] scope pos) 0 it acc env)):=by rfl
theorem EX {elt iter:Expr} {px pos:Pos} {wi:TI} {te:TE} (S:mX X scope cl M ι x) (hc:X.calm = true) (hi:PI X (.Name x px) iter wi) (he:∀ C s₀ H₀ ex,PE (blk X scope cl (M ++ [x]) C s₀ H₀ ex) elt te)
  (hs:∀ v,foldedSetIterable iter X.env v = pure v:=by intro _; rfl):PE X (.ListComp elt [⟨.Name x px,iter,[],0⟩] scope pos) (sW wi ι te):=by
 intro pins s σ H Q I h
 rw [eval_ListComp]
 refine wpAny_comprehension_free (use:=none) rfl hs S.clos S.kind (fun y hy hl=>?_) (wpAny_mono (hi pins s σ H _ I h) (fun v s1 h1=>wpAny_mono h1 (fun itv s2 h2=>?_) fun _ _ z=>z) fun _ _ z=>z)
 . have q:=List.all_eq_true.mp S.locs y hy
   rw [hl] at q
   simpa using q
 obtain ⟨it,fp,tn,J,H2,rfl,I2,T,st2,f2,hW⟩:=h2
 have I3:=I2.Dr (ys:=[]) (its:=[]) (t':=s2.toks) .nil (Nat.zero_le _)
 obtain ⟨W,⟨m0,w0⟩,turn⟩:=hW s2.heap.objs.size I2.fresh
 have fpo:∀ b ∈ fp,b < s2.heap.objs.size:=fun b hb=>let ⟨_,e,_⟩:=T.obj _ _ st2 b hb; Heap.lt_size e
 have f3:∀ b ∈ fp,oO X pins (upd H2 s2.heap.objs.size (.lst [])) b:=fun b hb=>by
  obtain ⟨q0,q⟩:=f2 b hb
  exact ⟨by rw [ba (Nat.ne_of_lt (fpo b hb))]; exact q0,q⟩
 show wpAny _ _ (newObj (.type "list") _ none) _ _ s2
 refine wpAny_newObj_type (wpAny_newFunctionEnv (fun y hy=>?_) (by intro y hy; simp at hy) (fun h₁ hn₁ sb₁=>?_) S.kind)
 . have q:=List.all_eq_true.mp S.nocell y hy
   simpa using q
 have hsz:(s2.heap.push { cls:=.type "list",dict:=none,data:=.seq ([]:List Value).toArray }).objs.size = s2.heap.objs.size + 1:=Heap.size_push ..
 have hk₁:∀ b o,(s2.heap.push { cls:=.type "list",dict:=none,data:=.seq ([]:List Value).toArray }).get? b = some o -> h₁.get? b = some o:=fun b o e=>
  (sb₁.2 b (Nat.ne_of_lt (Heap.lt_size e))).trans (Heap.get?_push_of_some _ e)
 have J0:=ya (t':=s2.toks + ([]:List (Str × Value)).length) S I3 (ex:=fp) (fun b hb=>⟨f3 b hb,Nat.lt_of_lt_of_le (fpo b hb) (by rw [hsz]; exact Nat.le_succ _)⟩) hn₁ hk₁
 have old:∀ b ∈ fp,∀ o,s2.heap.get? b = some o -> h₁.get? b = some o:=fun b _ o e=>hk₁ b o (Heap.get?_push_of_some _ e)
 have st₁:tn 0 h₁:=T.keep _ _ _ st2 old
 have loop:codeAny (model X.prog X.w) X.A (.compLoop (.ListComp elt [⟨.Name x px,iter,[],0⟩] scope pos) 0 (.ref it) (.ref s2.heap.objs.size) (compEnvC scope cl (s2.heap.objs.size + 1) X.env))
   (compPost (model X.prog X.w) X.A X.xe none (EP X pins σ Q) (.ref s2.heap.objs.size) (s2.heap.objs.size + 1)) { s2 with heap:=h₁,toks:=s2.toks + ([]:List (Str × Value)).length }:=by
  rw [hsz] at J0
  refine codeAny_loop rfl (fun n s'=>∃ i H' ys v,Inv (blk X scope cl (M ++ [x]) (s2.heap.objs.size + 1) { s2 with heap:=s2.heap.push { cls:=.type "list",data:=.seq ([]:List Value).toArray },toks:=s2.toks } (upd H2 s2.heap.objs.size (.lst [])) fp) [] (pick ι σ ++ [v]) H' s' /\ tn i s'.heap /\ (∀ b ∈ fp,H' b = none) /\ W i n ys H')
   (fun n s' hI=>?_) m0 ⟨0,_,[],none,J0,st₁,fun b hb=>(f3 b hb).1,w0⟩
  obtain ⟨i,H',ys,v,J',st',fr',w'⟩:=hI
  obtain ⟨hD,alt⟩:=turn i n ys H' w'
  have fpY:∀ {G:Hp},(∀ b ∈ fp,G b = none) -> ∀ b ∈ fp,oO (blk X scope cl (M ++ [x]) (s2.heap.objs.size + 1) { s2 with heap:=s2.heap.push { cls:=.type "list",data:=.seq ([]:List Value).toArray },toks:=s2.toks } (upd H2 s2.heap.objs.size (.lst [])) fp) [] G b:=fun hG b hb=>
   ⟨hG b hb,(J'.ok.exf b hb).1,J'.ok.exfs b hb,.inl hb,(J'.ok.exf b hb).2,fun p hp=>absurd (show p ∈ ([]:List (Addr × Obj)) from hp) (by simp)⟩
  show wpAny _ _ ((compTurn _ 0 (.ref it) (.ref s2.heap.objs.size) (compEnvC scope cl (s2.heap.objs.size + 1) X.env)).onRaise _) _ _ s'
  refine wpAny_noted (wpAny_noRaise ?_)
  rw [u2]
  refine wpAny_bind (wpAny_standAt (wpAny_bind ?_))
  rcases alt with ⟨stop,qn⟩ | ⟨go,step⟩
  . refine thn (T.done (blk X scope cl (M ++ [x]) (s2.heap.objs.size + 1) _ _ fp) rfl rfl rfl hc i [] s' _ H' _ J' (fpY fr') st' stop) fun r s4 ⟨hr,J4⟩=>?_
    subst hr
    refine wpAny_pure ?_
    obtain ⟨m,hm,_⟩:=id J4.loc
    refine ⟨m,hm,fun h' sb=>⟨.ref s2.heap.objs.size,H',wt I3 hsz.symm f3 J4 sb,rfl,qn⟩⟩
  . refine thn (T.item (blk X scope cl (M ++ [x]) (s2.heap.objs.size + 1) _ _ fp) rfl rfl rfl hc i [] s' _ H' _ J' (fpY fr') st' go) fun r s4 ⟨u,hr,h4⟩=>?_
    subst hr
    refine wpAny_bind (thn h4 fun _ s5 ⟨z,H5,J5,r5,y5,st5,fr5⟩=>?_)
    have J5':=J5.pinned (fpY fr5) (T.obj _ _ st5)
    have hxN:(M ++ [x])[M.length]? = some x:=by simp
    refine wpAny_bind ?_
    refine wpAny_assign_Name ?_
    refine kl (X:=blk X scope cl (M ++ [x]) (s2.heap.objs.size + 1) _ _ fp) (i:=M.length) (v:=z) J5' S.nd hxN (.inl (lookup_relabel_local S.var)) r5 (fun s6 J6=>?_) (.inr (lookup_relabel_local S.var))
    have hlp:(pick ι σ).length = M.length:=by
     have q:=congrArg List.length S.names
     rw [List.length_map,List.length_map] at q
     unfold pick
     rw [List.length_map,q]
    have hset:(pick ι σ ++ [v]).set M.length (some z) = pick ι σ ++ [some z]:=by
     rw [<- hlp,List.set_append_right _ _ (Nat.le_refl _),Nat.sub_self]
     rfl
    rw [hset] at J6
    refine wpAny_bind (wpAny_bind (thn (he _ _ _ _ _ s6 _ H5 _ J6 (step z H5 y5)) fun yv s7 ⟨y,H7,J7,r7,hD7,hz7,m',hm',w7⟩=>?_))
    refine wpAny_bind (thn (jy (X:=blk X scope cl (M ++ [x]) (s2.heap.objs.size + 1) _ _ fp) _ s7 _ H7 (.ref s2.heap.objs.size) [y] (.ref s2.heap.objs.size) [yv] (fun _ G=>G = upd H7 s2.heap.objs.size (.lst (ys ++ [y]))) J7 rfl (.cons r7 .nil) ⟨_,_,y,rfl,rfl,hD7,hz7,rfl⟩) fun _ s8 ⟨_,H8,J8,_,e8⟩=>?_)
    subst e8
    refine wpAny_pure (wpAny_pure ⟨rfl,m',hm',i + 1,_,_,some z,J8.ki,?_,fun b hb=>?_,w7⟩)
    . exact T.keep _ _ _ st5 fun b hb o e=>(J8.pin (b,o) (List.mem_append_right _ (List.mem_append_right _ (fm hb e)))).1
    . obtain ⟨o,e,d⟩:=T.obj _ _ st5 b hb
      exact (J8.pin (b,o) (List.mem_append_right _ (List.mem_append_right _ (fm hb e)))).2.1
 rw [hsz] at *
 exact codeAny_compStart_list loop (T.self X.A 0 _ _ _ st₁ loop)
end
end L2.E
namespace L2.E
open PySem PySem.Spec PyProof.Rows
section
variable {X:Cx}
noncomputable def IsV (K:PySem.W.Frag) (T:String) (x:V) (H:Hp) (b:Bool):Prop:=match x with
 | .int _=>(T = "int" /\ b = true) \/ (T = "bool" /\ b = false) \/ (T = "list" /\ b = false) \/ (T = "tuple" /\ b = false) \/ (T = "str" /\ b = false)
 | .bl _=>(T = "int" /\ b = true) \/ (T = "bool" /\ b = true) \/ (T = "list" /\ b = false) \/ (T = "tuple" /\ b = false) \/ (T = "str" /\ b = false)
 | .non=>(T = "int" /\ b = false) \/ (T = "bool" /\ b = false) \/ (T = "list" /\ b = false) \/ (T = "tuple" /\ b = false) \/ (T = "str" /\ b = false)
 | .str _=>(T = "int" /\ b = false) \/ (T = "bool" /\ b = false) \/ (T = "list" /\ b = false) \/ (T = "tuple" /\ b = false) \/ (T = "str" /\ b = true)
 | .ref p=>((∃ xs,SqL K H p xs) /\ ((T = "int" /\ b = false) \/ (T = "bool" /\ b = false) \/ (T = "list" /\ b = true) \/ (T = "tuple" /\ b = false) \/ (T = "str" /\ b = false))) \/
    ((∃ xs,SqT K H p xs) /\ ((T = "int" /\ b = false) \/ (T = "bool" /\ b = false) \/ (T = "list" /\ b = false) \/ (T = "tuple" /\ b = true) \/ (T = "str" /\ b = false)))
 | _=>False
theorem qa:o3 X (.builtin "isinstance") (fun xs H Q=>∃ x T b,xs = [x,.ty T] /\ IsV X.K T x H b /\ Q (.bl b) H):=by
 intro pins s σ H vs us Q I rv h
 obtain ⟨x,T,b,rfl,hv,q⟩:=h
 obtain ⟨u,v,rfl,ru,rT⟩:=rv.two
 cases rT
 cases x with
 | int i=>
   obtain ⟨t,rfl⟩:=ru
   rcases hv with ⟨rfl,rfl⟩ | ⟨rfl,rfl⟩ | ⟨rfl,rfl⟩ | ⟨rfl,rfl⟩ | ⟨rfl,rfl⟩
   . exact IsiPair.int_int ⟨.bl _,H,I,rfl,q⟩
   . exact IsiPair.int_bool ⟨.bl _,H,I.tok _,rfl,q⟩
   . exact IsiPair.int_list ⟨.bl _,H,I.tok _,rfl,q⟩
   . exact IsiPair.int_tuple ⟨.bl _,H,I.tok _,rfl,q⟩
   . exact IsiPair.int_str ⟨.bl _,H,I.tok _,rfl,q⟩
 | bl i=>
   cases ru
   rcases hv with ⟨rfl,rfl⟩ | ⟨rfl,rfl⟩ | ⟨rfl,rfl⟩ | ⟨rfl,rfl⟩ | ⟨rfl,rfl⟩
   . exact IsiPair.bool_int ⟨.bl _,H,I,rfl,q⟩
   . exact IsiPair.bool_bool ⟨.bl _,H,I,rfl,q⟩
   . exact IsiPair.bool_list ⟨.bl _,H,I.tok _,rfl,q⟩
   . exact IsiPair.bool_tuple ⟨.bl _,H,I.tok _,rfl,q⟩
   . exact IsiPair.bool_str ⟨.bl _,H,I.tok _,rfl,q⟩
 | non=>
   cases ru
   rcases hv with ⟨rfl,rfl⟩ | ⟨rfl,rfl⟩ | ⟨rfl,rfl⟩ | ⟨rfl,rfl⟩ | ⟨rfl,rfl⟩
   . exact IsiPair.NoneType_int ⟨.bl _,H,I.tok _,rfl,q⟩
   . exact IsiPair.NoneType_bool ⟨.bl _,H,I.tok _,rfl,q⟩
   . exact IsiPair.NoneType_list ⟨.bl _,H,I.tok _,rfl,q⟩
   . exact IsiPair.NoneType_tuple ⟨.bl _,H,I.tok _,rfl,q⟩
   . exact IsiPair.NoneType_str ⟨.bl _,H,I.tok _,rfl,q⟩
 | str i=>
   obtain ⟨t,rfl⟩:=ru
   rcases hv with ⟨rfl,rfl⟩ | ⟨rfl,rfl⟩ | ⟨rfl,rfl⟩ | ⟨rfl,rfl⟩ | ⟨rfl,rfl⟩
   . exact IsiPair.str_int ⟨.bl _,H,I.tok _,rfl,q⟩
   . exact IsiPair.str_bool ⟨.bl _,H,I.tok _,rfl,q⟩
   . exact IsiPair.str_list ⟨.bl _,H,I.tok _,rfl,q⟩
   . exact IsiPair.str_tuple ⟨.bl _,H,I.tok _,rfl,q⟩
   . exact IsiPair.str_str ⟨.bl _,H,I,rfl,q⟩
 | ref p=>
   cases ru
   rcases hv with ⟨⟨xs,hS⟩,hv⟩ | ⟨⟨xs,hS⟩,hv⟩
   . obtain ⟨its,r,pl,hz⟩:=I.list hS
     obtain ⟨o,e,c,_⟩:=pl.isList
     rcases hv with ⟨rfl,rfl⟩ | ⟨rfl,rfl⟩ | ⟨rfl,rfl⟩ | ⟨rfl,rfl⟩ | ⟨rfl,rfl⟩
     . exact IsiPair.list_int e c ⟨.bl _,H,I.tok _,rfl,q⟩
     . exact IsiPair.list_bool e c ⟨.bl _,H,I.tok _,rfl,q⟩
     . exact IsiPair.list_list e c ⟨.bl _,H,I,rfl,q⟩
     . exact IsiPair.list_tuple e c ⟨.bl _,H,I.tok _,rfl,q⟩
     . exact IsiPair.list_str e c ⟨.bl _,H,I.tok _,rfl,q⟩
   . obtain ⟨its,r,pl,hz⟩:=I.tuple hS
     obtain ⟨o,e,c,_⟩:=pl
     rcases hv with ⟨rfl,rfl⟩ | ⟨rfl,rfl⟩ | ⟨rfl,rfl⟩ | ⟨rfl,rfl⟩ | ⟨rfl,rfl⟩
     . exact IsiPair.tuple_int e c ⟨.bl _,H,I.tok _,rfl,q⟩
     . exact IsiPair.tuple_bool e c ⟨.bl _,H,I.tok _,rfl,q⟩
     . exact IsiPair.tuple_list e c ⟨.bl _,H,I.tok _,rfl,q⟩
     . exact IsiPair.tuple_tuple e c ⟨.bl _,H,I,rfl,q⟩
     . exact IsiPair.tuple_str e c ⟨.bl _,H,I.tok _,rfl,q⟩
 | _=>exact hv.elim
theorem DB:typeOf (.type "ValueError") = pure (.type "type"):=by kernel_rfl
theorem boot_bool:bootBuiltins "bool" = some (.type "bool"):=by decide +kernel
theorem boot_isinstance:bootBuiltins "isinstance" = some (.builtin "isinstance"):=by decide +kernel
theorem boot_all:bootBuiltins "all" = some (.builtin "all"):=by decide +kernel
theorem boot_tuple:bootBuiltins "tuple" = some (.type "tuple"):=by decide +kernel
theorem boot_list:bootBuiltins "list" = some (.type "list"):=by decide +kernel
theorem boot_int:bootBuiltins "int" = some (.type "int"):=by decide +kernel
theorem boot_len:bootBuiltins "len" = some (.builtin "len"):=by decide +kernel
theorem tT {prog:Program} {w:World} {A:Around} {E:Value -> Shared -> Prop} {K:PySem.W.Frag} {s:Shared} {a C:Addr} {T:Value} {dx:Option Addr} {bm:List Value} {k:Value} {dep:Int} {tk:Tok} {Q:Fin -> Shared -> Prop} (hk:k = .int dep tk) (X:K.In s.heap) (e:Cy a C dx s.heap)
  (hC:nK K C bm) (hty:(∃ n,T = .type n /\ typeOf (.type n) = pure (.type "type")) \/ ∃ B bmB,T = .ref B /\ nK K B bmB) (hb:(Value.ref C ::bm).contains T = true) (hq:Q (.done (.ret (.bool true))) s):
  wpAny (model prog w) A (Builtin.«isinstance.nested» ⟨[.ref a,T,k],[]⟩) Q E s:=by
 subst hk
 obtain ⟨_,nm,q,N,bs,hdct,sn,sub,ab,col,dd,k0,k1,k2,k3,k5,nid,lC⟩:=hC
 obtain ⟨o,vs,he,hcls,_⟩:=e
 have hC:=X _ _ lC
 obtain ⟨hp,g,d,tks,os⟩:=s
 by_cases same:(Value.ref C == T) = true
 . rcases hty with ⟨n,rfl,hty⟩ | ⟨B,bmB,rfl,_⟩
   . cases same
   . repeat (first
      | (with_reducible refine wpAny_loadPart_at he ?_; rw [hcls])
      | assumption
      | wp_step)
     all_goals first | assumption | exact hq
 . have same':(Value.ref C == T) = false:=by simpa using same
   rcases hty with ⟨n,rfl,hty⟩ | ⟨B,bmB,rfl,⟨_,nm',q',N',bs',hdct',sn',sub',ab',col',dd',k0',k1',k2',k3',k5',nid',lB⟩⟩
   . repeat (first
      | (with_reducible refine wpAny_loadPart_at he ?_; rw [hcls])
      | (with_reducible refine wpAny_isSubtype_exc hC ?_; rw [hb])
      | assumption
      | wp_step)
     all_goals first | assumption | exact hq
   . have hB:=X _ _ lB
     repeat (first
      | (with_reducible refine wpAny_loadPart_at he ?_; rw [hcls])
      | with_reducible refine wpAny_loadPart_at hB ?_
      | (with_reducible refine wpAny_isSubtype_exc hC ?_; rw [hb])
      | assumption
      | wp_step)
     all_goals first | assumption | exact hq
theorem C8:o3 X (.builtin "isinstance") (fun xs H Q=>∃ a T C dx bm,xs = [.ref a,T] /\ H a = some (oM a C dx) /\ nK X.K C bm /\ ((∃ B bmB,T = .ref B /\ nK X.K B bmB /\ (Value.ref C ::bm).contains (.ref B) = true) \/ (T = .ty "ValueError" /\ bm.contains (.type "ValueError") = true)) /\ Q (.bl true) H):=by
 intro pins s σ H vs us Q I rv h
 obtain ⟨a,T,C,dx,bm,rfl,ha,hC,hT,q⟩:=h
 obtain ⟨u,v,rfl,ru,rT⟩:=rv.two
 cases ru
 obtain ⟨e,_,_⟩:=I.hok a _ ha
 rcases hT with ⟨B,bmB,rfl,hB,hb⟩ | ⟨rfl,hb⟩
 . cases rT
   refine call_isinstance (S:=fun _ R s'=>s' = s /\ R (.ok (.ret (.bool true))) s) (fun prog w A R s' hs=>?_) ⟨rfl,?_⟩
   . obtain ⟨rfl,hs⟩:=hs
     exact isinstance_outer (tT rfl I.kIn e hC (.inr ⟨B,bmB,rfl,hB⟩) hb hs) (by intro z; cases z)
   . exact ⟨.bl _,H,I,rfl,q⟩
 . cases rT
   refine call_isinstance (S:=fun _ R s'=>s' = s /\ R (.ok (.ret (.bool true))) s) (fun prog w A R s' hs=>?_) ⟨rfl,?_⟩
   . obtain ⟨rfl,hs⟩:=hs
     exact isinstance_outer (tT rfl I.kIn e hC (.inl ⟨_,rfl,DB⟩) (by rw [List.contains_cons,hb,Bool.or_true]) hs) (by intro z; cases z)
   . exact ⟨.bl _,H,I,rfl,q⟩
theorem pS:∀ {ns:List Int} {its:List Value},Vals (ns.map V.int) its -> IntsAre its ns
 | [],_,.nil=>.nil
 | n ::_,_,.cons ⟨t,e⟩ r=>by subst e; exact .cons n t (pS r)
noncomputable def DK (K:PySem.W.Frag) (A:Around) (neg:Bool):R2:=fun x y H Q=>∃ (p q:Addr) (ns ms:List Int),x = .ref p /\ y = .ref q /\ SqL K H p (ns.map V.int) /\ SqL K H q (ms.map V.int) /\ A.units + 64 < cLine /\ Q (.bl (if neg then !decide (ns = ms) else decide (ns = ms))) H
theorem yn:OpR X (compareOp .Eq) (DK X.K X.A false):=by
 intro pins s σ H x y v u Q I rx ry h
 obtain ⟨p,q,ns,ms,rfl,rfl,h1,h2,hu,hq⟩:=h
 cases rx; cases ry
 obtain ⟨its,r,pl,hz⟩:=I.list h1
 obtain ⟨its',r',pl',hz'⟩:=I.list h2
 exact PySem.W.eq_intsK pl.isList (pS r) pl'.isList (pS r') hu ⟨.bl _,H,I,rfl,hq⟩
theorem HK:OpR X (compareOp .NotEq) (DK X.K X.A true):=by
 intro pins s σ H x y v u Q I rx ry h
 obtain ⟨p,q,ns,ms,rfl,rfl,h1,h2,hu,hq⟩:=h
 cases rx; cases ry
 obtain ⟨its,r,pl,hz⟩:=I.list h1
 obtain ⟨its',r',pl',hz'⟩:=I.list h2
 exact PySem.W.ne_intsK pl.isList (pS r) pl'.isList (pS r') hu ⟨.bl _,H,I,rfl,hq⟩
end
section
variable {P:Program} {w:World} {K:PySem.W.Frag} {mg:Str -> Option Value} {base:Heap}
theorem okX {x qual:Str} {st:Stmt} {f:Addr} {fd:FuncData} {N ps:List Str} {k:Nat} {sp:Sp} (F:Fun K x qual st f fd) (S:aU N ps (av st)) (len:∀ vs H Q E,sp vs H Q E -> vs.length = ps.length)
  (hbody:∀ (cdv:Value) (A:Around) (outer:List Env) (s:Shared) (H:Hp) (vs:List V) (Q:VK) (E:XK),iN k (A.deeper (envOfC qual (av st) s.heap.objs.size f cdv)) -> sp vs H Q E ->
    ∃ t,PSs (pZ (CXE P w) P w K mg base N qual (av st) f cdv A outer s H E) (aT st) t /\ t { nx:=fun _ H'=>Q .non H',rt:=Q } (start N vs) H):cb P w K mg base (CXE P w) (k + 1) f fd ps sp:=by
 obtain ⟨oc,od,kV,doc,pm,an,cdv,ct,osl,rfl,lk,hcd⟩:=F.ex
 exact Jf lk hcd S len fun A outer s H vs Q E hr hsp=>hbody cdv A outer s H vs Q E hr hsp
end
end L2.E
namespace L2.E
open PySem PySem.Spec PyProof.Rows
theorem SqL.new {K:PySem.W.Frag} {H:Hp} {p:Addr} {xs:List V} (h:H p = some (.lst xs)):SqL K H p xs:=.inl (.inl h)
theorem SqT.new {K:PySem.W.Frag} {H:Hp} {p:Addr} {xs:List V} (h:H p = some (.tup xs)):SqT K H p xs:=.inl (.inl h)
theorem wa {H:Hp} {p q:Addr} {o:HO} (h:H q = some o) (n:H p = none):q ≠ p:=fun z=>by rw [z,n] at h; cases h
theorem _root_.L2.aJ.upd {H H':Hp} {p:Addr} {o:HO} (e:aJ H H') (n:H p = none):aJ H (upd H' p o):=fun b u h=>by
 rw [ba (wa h n)]; exact e b u h
theorem _root_.L2.aJ.new {H:Hp} {p:Addr} {o:HO} (n:H p = none):aJ H (L2.upd H p o):=(aJ.refl H).upd n
abbrev Goes (H:Hp) (E:XK) (C:Addr) (dx:Option Addr):Prop:=∀ H' a,aJ H H' -> H' a = some (oM a C dx) -> E (.ref C) (some a) H'
end L2.E
namespace L2.E
open PySem PySem.Spec PyProof.Rows
theorem takes {K:PySem.W.Frag} {T C:Addr} {b:Bool} {bmC bmT:List Value} (h1:nK K C bmC) (h2:nK K T bmT) (h:(Value.ref C ::bmC).contains (.ref T) = b):uA K T C b:=⟨bmC,bmT,h1,h2,h⟩
end L2.E
namespace L2.E
open PySem PySem.Spec PyProof.Rows
section
variable {X:Cx}
noncomputable def FK (K:PySem.W.Frag):R2:=fun x y H Q=>∃ l b xs zs,x = .ref l /\ y = .ref b /\ SqL K H l xs /\ SqL K H b zs /\ xs.length + zs.length <= sizeLine /\ ∀ p,H p = none -> Q (.ref p) (upd H p (.lst (xs ++ zs)))
theorem fB:OpR X (binaryOp .Add) (FK X.K):=by
 intro pins s σ H x y v u Q I rx ry h
 obtain ⟨l,b,xs,zs,rfl,rfl,hH,hB,hz,q⟩:=h
 cases rx
 cases ry
 obtain ⟨its,r,pl,_⟩:=I.list hH
 obtain ⟨its2,r2,pl2,_⟩:=I.list hB
 obtain ⟨⟨cls,dd,data,sl⟩,ho,hc,n,hd⟩:=pl.isList
 obtain ⟨⟨cls2,dd2,data2,sl2⟩,ho2,hc2,n2,hd2⟩:=pl2.isList
 simp only at hc hd hc2 hd2
 subst hc hd hc2 hd2
 have hsz:its.toArray.size + its2.toArray.size <= sizeLine:=by rw [List.size_toArray,List.size_toArray,<- r.length,<- r2.length]; exact hz
 refine concat_meets ⟨_,ho,rfl⟩ ⟨_,ho2,rfl⟩ noFill_list_add seq_list_add PySem.F.slot_list_add PySem.F.entry_list_add (PySem.F.args_list_add_2 _ _) (list_addW l b its.toArray its2.toArray n n2 dd dd2 sl sl2 hsz) ⟨ho,ho2,?_⟩
 have ea:its.toArray ++ its2.toArray = (its ++ its2).toArray:=by simp
 rw [ea]
 exact ⟨.ref _,_,I.Dr (t':=s.toks) (r.append r2) (by rw [List.length_append]; exact hz),rfl,q _ I.fresh⟩
theorem ux:o3 X (.builtin "all") (fun xs H Q=>∃ (p:Addr) (bs:List Bool),xs = [.ref p] /\ SqL X.K H p (bs.map V.bl) /\ X.A.handled = none /\ Q (.bl (bs.all id)) H):=by
 intro pins s σ H vs us Q I rv h
 obtain ⟨p,bs,rfl,hp,hh,q⟩:=h
 obtain ⟨u,rfl,ru⟩:=rv.one
 cases ru
 obtain ⟨its,r,pl,_⟩:=I.list hp
 have hl:=r.length
 have isl:s.heap.IsList p its.toArray:=pl.isList
 obtain ⟨o,e,_⟩:=id isl
 refine call_all_walk (wpAny_pyIter_list isl ?_)
 have ne:p ≠ s.heap.objs.size:=Nat.ne_of_lt (Heap.lt_size e)
 have tv:∀ (i:Nat) (v:Value),its.toArray[i]? = some v -> ∃ b,bs[i]? = some b /\ v = Value.bool b:=fun i v hv=>by
  have hv':its[i]? = some v:=by simpa using hv
  have hi:i < its.length:=(List.getElem?_eq_some_iff.mp hv').1
  rw [<- hl,List.length_map] at hi
  have hx:(bs.map V.bl)[i]? = some (V.bl bs[i]):=by simp [hi]
  obtain ⟨u,hu,ru⟩:=r.get hx
  rw [hv'] at hu; cases hu
  exact ⟨bs[i],by simp [hi],ru⟩
 refine ⟨s.heap.objs.size,_,_,_,_,_,(fun i=>(bs[i]?).getD false),rfl,Walks.list (A:=X.A.in1) hh s.heap.objs.size p ne its.toArray,⟨⟨_,Heap.get?_push_size _ rfl,rfl,rfl⟩,isl.at fun o e=>Heap.get?_push_of_some _ e⟩,fun i v s' Q' E' hP hQ=>?_,fun h' tk hk=>?_⟩
 . obtain ⟨b,hb,rfl⟩:=tv i v hP
   have hQ':Q' ((bs[i]?).getD false) s':=hQ
   rw [hb] at hQ'
   exact wpAny_truthy_bool hQ'
 . have en:its.toArray.size = bs.length:=by rw [List.size_toArray,<- hl,List.length_map]
   have eb:(List.range its.toArray.size).all (fun i=>(bs[i]?).getD false) = bs.all id:=by
    rw [en]
    rw [Bool.eq_iff_iff,List.all_eq_true,List.all_eq_true]
    constructor
    . intro hA b hb
      obtain ⟨i,hi,rfl⟩:=List.mem_iff_getElem.mp hb
      have:=hA i (by simpa using hi)
      simpa [hi] using this
    . intro hA i hi
      have hi':i < bs.length:=by simpa using hi
      have:=hA bs[i] (List.getElem_mem hi')
      simpa [hi'] using this
   rw [eb]
   refine ⟨.bl _,H,I.kept (h':=h') (t':=tk) fun b o e'=>hk b o ?_ (Heap.get?_push_of_some _ e'),rfl,q⟩
   have lt:=Heap.lt_size e'
   intro z
   have z':b = s.heap.objs.size:=by simpa using z
   exact absurd (z' ▸ lt) (Nat.lt_irrefl _)
end
end L2.E
namespace L2.E
open PySem PySem.Spec PyProof.Rows
noncomputable def isStar:Expr -> Bool
 | .Starred ..=>true
 | _=>false
theorem oz {e:Expr} {es:List Expr} {env:Env} (h:isStar e = false):starEach (e ::es) env = (false,eval e env) ::starEach es env:=by
 cases e <;> first | rfl | cases h
theorem BG {X:Cx} {e:Expr} {es:List Expr} {te:TE} {t:TA} (ha:PE X e te) (hr:PA X es t) (hs:isStar e = false:=by rfl):PA X (e ::es) (kG te t):=En ha hr (oz hs)
end L2.E
namespace L2.P
open PySem
noncomputable def ixP (n:Nat) (i:Int):Option Nat:=if 0 <= i then (if i < n then some i.toNat else none) else if -(n:Int) <= i then some (i + n).toNat else none
noncomputable def atP {α:Type} (xs:List α) (i:Int):Option α:=(ixP xs.length i).bind fun j=>xs[j]?
noncomputable def vg (n d:Nat):Option Int -> Nat
 | none=>d
 | some v=>if v < 0 then (v + (n:Int)).toNat else min v.toNat n
inductive PV where
 | non | bl (b:Bool) | int (i:Int) | str (s:Str) | lst (xs:List PV) | tup (xs:List PV)
inductive OV where
 | sh (x:PV) | ol (ts:List OV) | ob (c:String) (ks:List Str) (ts:List OV)
   | di (kvs:List (Int × PV)) | dt (kvs:List (List Int × PV))
inductive Sl where
 | sh (x:PV) | ow (xs:List PV) | ex (c:String) (fs:List (Str × PV))
   | tr (io:Bool) (t:OV) | bo (t:OV)
abbrev ag:=List (Option Sl)
inductive RV where
 | sh (x:PV) | fr (xs:List PV) | al (xs:List PV)
noncomputable def RV.pv:RV -> PV
 | .sh x=>x
 | .fr xs=>.lst xs
 | .al xs=>.lst xs
abbrev XF:=List (Str × PV)
inductive OE where
 | ok (r:RV) | exc (c:String) (fs:XF) | bad
inductive OT where
 | ok (b:Bool) | exc (c:String) (fs:XF) | bad
inductive OA where
 | ok (xs:List PV) | exc (c:String) (fs:XF) | bad
inductive OS where
 | nx (ρ:ag) | rt (ρ:ag) (r:RV) | bk (ρ:ag) | ct (ρ:ag) | exc (ρ:ag) (c:String) (fs:XF) | bad
noncomputable def OE.bind:OE -> (RV -> OE) -> OE
 | .ok r,f=>f r
 | .exc c fs,_=>.exc c fs
 | .bad,_=>.bad
noncomputable def OE.gJ:OE -> (RV -> OT) -> OT
 | .ok r,f=>f r
 | .exc c fs,_=>.exc c fs
 | .bad,_=>.bad
noncomputable def OE.gq:OE -> (RV -> OA) -> OA
 | .ok r,f=>f r
 | .exc c fs,_=>.exc c fs
 | .bad,_=>.bad
noncomputable def OE.bS (ρ:ag):OE -> (RV -> OS) -> OS
 | .ok r,f=>f r
 | .exc c fs,_=>.exc ρ c fs
 | .bad,_=>.bad
noncomputable def OT.bind:OT -> (Bool -> OE) -> OE
 | .ok r,f=>f r
 | .exc c fs,_=>.exc c fs
 | .bad,_=>.bad
noncomputable def OT.gJ:OT -> (Bool -> OT) -> OT
 | .ok r,f=>f r
 | .exc c fs,_=>.exc c fs
 | .bad,_=>.bad
noncomputable def OT.bS (ρ:ag):OT -> (Bool -> OS) -> OS
 | .ok r,f=>f r
 | .exc c fs,_=>.exc ρ c fs
 | .bad,_=>.bad
noncomputable def OA.bind:OA -> (List PV -> OE) -> OE
 | .ok r,f=>f r
 | .exc c fs,_=>.exc c fs
 | .bad,_=>.bad
noncomputable def OA.gq:OA -> (List PV -> OA) -> OA
 | .ok r,f=>f r
 | .exc c fs,_=>.exc c fs
 | .bad,_=>.bad
noncomputable def OA.bS (ρ:ag):OA -> (List PV -> OS) -> OS
 | .ok r,f=>f r
 | .exc c fs,_=>.exc ρ c fs
 | .bad,_=>.bad
noncomputable def au (i:Nat):ag -> OE:=fun ρ=>match ρ[i]? with
 | some (some (.sh x))=>.ok (.sh x)
 | some (some (.ow xs))=>.ok (.al xs)
 | _=>.bad
noncomputable def mC (x:PV):ag -> OE:=fun _=>.ok (.sh x)
noncomputable def oE:Option RV -> OE
 | some r=>.ok r
 | none=>.bad
noncomputable def mOp (g:PV -> PV -> Option RV) (ma mb:ag -> OE):ag -> OE:=fun ρ=>(ma ρ).bind fun a=>(mb ρ).bind fun b=>oE (g a.pv b.pv)
noncomputable def gI (C:Int -> Int -> Bool) (f:Int -> Int -> PV):PV -> PV -> Option RV
 | .int i,.int j=>if C i j then some (.sh (f i j)) else none
 | _,_=>none
noncomputable def eL:=gI (fun _ _=>true) fun i j=>.int (i + j)
noncomputable def qt:=gI (fun _ _=>true) fun i j=>.int (i - j)
noncomputable def vB:=gI (fun i j=>(decide (-(2 ^ 64) < i) && decide (i < 2 ^ 64)) || (decide (-(2 ^ 64) < j) && decide (j < 2 ^ 64))) fun i j=>.int (i * j)
noncomputable def uh:=gI (fun _ j=>decide (0 < j) && decide (j < 1073741824)) fun i j=>.int (i / j)
noncomputable def kJ:=gI (fun _ j=>decide (0 < j)) fun i j=>.int (i % j)
noncomputable def K4:=gI (fun i j=>decide (0 <= j) && (decide (j <= 1000000) && decide (i.natAbs < 2 ^ 64))) fun i j=>.int (i ^ j.toNat)
noncomputable def gLt:=gI (fun _ _=>true) fun i j=>.bl (decide (i < j))
noncomputable def gLe:=gI (fun _ _=>true) fun i j=>.bl (decide (i <= j))
noncomputable def gGt:=gI (fun _ _=>true) fun i j=>.bl (decide (j < i))
noncomputable def gGe:=gI (fun _ _=>true) fun i j=>.bl (decide (j <= i))
noncomputable def eqS:PV -> PV -> Option Bool
 | .non,.non=>some true | .non,.int _=>some false | .int _,.non=>some false | .non,.bl _=>some false | .bl _,.non=>some false | .non,.str _=>some false | .str _,.non=>some false
 | .int a,.int b=>some (decide (a = b)) | .bl a,.bl b=>some (decide (a = b)) | .str a,.str b=>some (decide (a = b))
 | .int _,.str _=>some false | .str _,.int _=>some false | .bl _,.str _=>some false | .str _,.bl _=>some false
 | _,_=>none
noncomputable def gEq:PV -> PV -> Option RV:=fun x y=>(eqS x y).map fun b=>.sh (.bl b)
noncomputable def gNe:PV -> PV -> Option RV:=fun x y=>(eqS x y).map fun b=>.sh (.bl (!b))
noncomputable def lS:RV -> Option PV
 | .sh x=>some x
 | .fr xs=>some (.lst xs)
 | .al _=>none
noncomputable def aN:ag -> OA:=fun _=>.ok []
noncomputable def aj (me:ag -> OE) (mr:ag -> OA):ag -> OA:=fun ρ=>(me ρ).gq fun r=>match lS r with
 | some x=>(mr ρ).gq fun xs=>.ok (x ::xs)
 | none=>.bad
noncomputable def lim:Nat:=16777216
noncomputable def cV (ma:ag -> OA):ag -> OE:=fun ρ=>(ma ρ).bind fun xs=>if xs.length <= lim then .ok (.fr xs) else .bad
noncomputable def jU (ma:ag -> OA):ag -> OE:=fun ρ=>(ma ρ).bind fun xs=>if xs.length <= lim then .ok (.sh (.tup xs)) else .bad
noncomputable def bf (f:List PV -> OE) (ma:ag -> OA):ag -> OE:=fun ρ=>(ma ρ).bind f
noncomputable def mUn (g:PV -> Option RV) (ma:ag -> OE):ag -> OE:=fun ρ=>(ma ρ).bind fun a=>oE (g a.pv)
noncomputable def B1:PV -> Option RV
 | .int i=>some (.sh (.int (-i)))
 | _=>none
noncomputable def ng:PV -> Option RV
 | .lst xs=>some (.sh (.int xs.length))
 | .tup xs=>some (.sh (.int xs.length))
 | _=>none
noncomputable def xj:PV -> Option RV
 | .int i=>some (.sh (.int i))
 | .bl b=>some (.sh (.int (if b then 1 else 0)))
 | _=>none
noncomputable def r9:PV -> Option RV
 | .lst xs=>some (.fr xs)
 | .tup xs=>some (.fr xs)
 | _=>none
noncomputable def jV:PV -> PV -> Option RV
 | .lst xs,.int i=>(atP xs i).map .sh
 | _,_=>none
noncomputable def mY:PV -> PV -> Option RV
 | .tup xs,.int i=>(atP xs i).map .sh
 | _,_=>none
noncomputable def kL:PV -> PV -> Option RV
 | .lst xs,.lst ys=>if xs.length + ys.length <= lim then some (.fr (xs ++ ys)) else none
 | _,_=>none
noncomputable def qF:List PV -> Option (List Int)
 | []=>some []
 | .int i ::r=>(qF r).map (i ::·)
 | _ ::_=>none
noncomputable def A4:PV -> PV -> Option Bool
 | .lst xs,.lst ys=>match qF xs,qF ys with
   | some a,some b=>some (decide (a = b))
   | _,_=>none
 | _,_=>none
noncomputable def AA:PV -> PV -> Option RV:=fun x y=>(A4 x y).map fun b=>.sh (.bl b)
noncomputable def Gp:PV -> PV -> Option RV:=fun x y=>(A4 x y).map fun b=>.sh (.bl (!b))
noncomputable def oG:List PV -> Option (List Bool)
 | []=>some []
 | .bl i ::r=>(oG r).map (i ::·)
 | _ ::_=>none
noncomputable def AZ:PV -> Option RV
 | .lst xs=>(oG xs).map fun bs=>.sh (.bl (bs.all id))
 | _=>none
noncomputable def isP (T:String):PV -> Option Bool
 | .int _=>if T = "int" then some true else if T = "bool" \/ T = "list" \/ T = "tuple" \/ T = "str" then some false else none
 | .bl _=>if T = "int" \/ T = "bool" then some true else if T = "list" \/ T = "tuple" \/ T = "str" then some false else none
 | .non=>if T = "int" \/ T = "bool" \/ T = "list" \/ T = "tuple" \/ T = "str" then some false else none
 | .str _=>if T = "str" then some true else if T = "int" \/ T = "bool" \/ T = "list" \/ T = "tuple" then some false else none
 | .lst _=>if T = "list" then some true else if T = "int" \/ T = "bool" \/ T = "tuple" \/ T = "str" then some false else none
 | .tup _=>if T = "tuple" then some true else if T = "int" \/ T = "bool" \/ T = "list" \/ T = "str" then some false else none
noncomputable def mIs (T:String) (ma:ag -> OE):ag -> OE:=mUn (fun x=>(isP T x).map fun b=>.sh (.bl b)) ma
noncomputable def tE:PV -> Option Bool
 | .non=>some false
 | .bl b=>some b
 | .int i=>some (i != 0)
 | .lst xs=>some (!xs.isEmpty)
 | .tup xs=>some (!xs.isEmpty)
 | .str _=>none
noncomputable def oT:Option Bool -> OT
 | some b=>.ok b
 | none=>.bad
noncomputable def jr (ma:ag -> OE):ag -> OT:=fun ρ=>(ma ρ).gJ fun r=>oT (tE r.pv)
noncomputable def aR (ma:ag -> OE):ag -> OT:=fun ρ=>(ma ρ).gJ fun r=>match r.pv with
 | .bl b=>.ok b
 | _=>.bad
noncomputable def xv (m:ag -> OT):ag -> OT:=fun ρ=>(m ρ).gJ fun b=>.ok (!b)
noncomputable def nX (m n:ag -> OT):ag -> OT:=fun ρ=>(m ρ).gJ fun b=>if b = true then n ρ else .ok false
noncomputable def A7 (m n:ag -> OT):ag -> OT:=fun ρ=>(m ρ).gJ fun b=>if b = true then .ok true else n ρ
noncomputable def qi (m n:ag -> OE):ag -> OE:=fun ρ=>(m ρ).bind fun r=>match r.pv with
 | .bl b=>if b = true then n ρ else .ok (.sh (.bl false))
 | _=>.bad
noncomputable def KW (m n:ag -> OE):ag -> OE:=fun ρ=>(m ρ).bind fun r=>match r.pv with
 | .bl b=>if b = true then .ok (.sh (.bl true)) else n ρ
 | _=>.bad
noncomputable def B6 (m:ag -> OE):ag -> OE:=fun ρ=>(m ρ).bind fun r=>match r.pv with
 | .bl b=>.ok (.sh (.bl (!b)))
 | _=>.bad
noncomputable def lZ (c:ag -> OT) (m n:ag -> OE):ag -> OE:=fun ρ=>(c ρ).bind fun b=>if b = true then m ρ else n ρ
noncomputable def kC (g g':PV -> PV -> Option RV) (ma mb mc:ag -> OE):ag -> OE:=fun ρ=>(ma ρ).bind fun a=>(mb ρ).bind fun b=>(oE (g a.pv b.pv)).bind fun r=>match r.pv with
 | .bl k=>if k = true then (mc ρ).bind fun c=>oE (g' b.pv c.pv) else .ok (.sh (.bl false))
 | _=>.bad
noncomputable def OS.andThen:OS -> (ag -> OS) -> OS
 | .nx ρ,k=>k ρ
 | o,_=>o
noncomputable def OS.turn:OS -> (ag -> OS) -> OS
 | .nx ρ,k=>k ρ
 | .ct ρ,k=>k ρ
 | .bk ρ,_=>.nx ρ
 | o,_=>o
noncomputable def aS (a b:ag -> OS):ag -> OS:=fun ρ=>(a ρ).andThen b
noncomputable def bt:ag -> OS:=fun ρ=>.nx ρ
noncomputable def G1:ag -> OS:=fun ρ=>.bk ρ
noncomputable def IQ:ag -> OS:=fun ρ=>.ct ρ
noncomputable def Cw:RV -> Option Sl
 | .sh x=>some (.sh x)
 | .fr xs=>some (.ow xs)
 | .al _=>none
noncomputable def cK (i:Nat) (me:ag -> OE):ag -> OS:=fun ρ=>(me ρ).bS ρ fun r=>match Cw r with
 | some s=>.nx (ρ.set i (some s))
 | none=>.bad
noncomputable def cf (c:ag -> OT) (m n:ag -> OS):ag -> OS:=fun ρ=>(c ρ).bS ρ fun b=>if b = true then m ρ else n ρ
noncomputable def bw (me:ag -> OE):ag -> OS:=fun ρ=>(me ρ).bS ρ fun r=>match r with
 | .al _=>.bad
 | r=>.rt ρ r
noncomputable def iS (i:Nat):ag -> OS:=fun ρ=>match ρ[i]? with
 | some (some (.sh x))=>.rt ρ (.sh x)
 | some (some (.ow xs))=>.rt (ρ.set i none) (.fr xs)
 | _=>.bad
noncomputable def Jw:ag -> OS:=fun ρ=>.rt ρ (.sh .non)
noncomputable def zX (me:ag -> OE):ag -> OS:=fun ρ=>(me ρ).bS ρ fun _=>.nx ρ
noncomputable def kb (i:Nat) (ρ:ag):ag:=match ρ[i]? with
 | some (some (.ow xs))=>ρ.set i (some (.sh (.lst xs)))
 | _=>ρ
noncomputable def mW (i:Nat) (me:ag -> OE):ag -> OS:=fun ρ=>match ρ[i]? with
 | some (some (.ow xs))=>(me ρ).bS ρ fun r=>match lS r with
   | some y=>if xs.length < lim then .nx (ρ.set i (some (.ow (xs ++ [y])))) else .bad
   | none=>.bad
 | _=>.bad
noncomputable def EE (i:Nat) (me:ag -> OE):ag -> OS:=fun ρ=>match ρ[i]? with
 | some (some (.ow xs))=>(me ρ).bS ρ fun r=>match r with
   | .fr ys=>if xs.length + ys.length <= lim then .nx (ρ.set i (some (.ow (xs ++ ys)))) else .bad
   | _=>.bad
 | _=>.bad
noncomputable def kF (i:Nat) (mb:ag -> OS):List PV -> ag -> OS
 | [],ρ=>.nx ρ
 | x ::xs,ρ=>(mb (ρ.set i (some (.sh x)))).turn (kF i mb xs)
noncomputable def yI:RV -> Option (List PV)
 | .sh (.lst xs)=>some xs
 | .fr xs=>some xs
 | _=>none
noncomputable def tq (i:Nat) (ml:ag -> OE) (mb:ag -> OS):ag -> OS:=fun ρ=>(ml ρ).bS ρ fun r=>match yI r with
 | some xs=>kF i mb xs ρ
 | none=>.bad
noncomputable def dQ (n:Nat):List PV:=(List.range n).map fun k:Nat=>PV.int (k:Int)
noncomputable def Af (i:Nat) (me:ag -> OE) (mb:ag -> OS):ag -> OS:=fun ρ=>(me ρ).bS ρ fun r=>match r.pv with
 | .int j=>if -(2 ^ 62) <= j /\ j < 2 ^ 62 then kF i mb (dQ j.toNat) ρ else .bad
 | _=>.bad
noncomputable def b7 (mc:ag -> OT) (mb:ag -> OS):Nat -> ag -> OS
 | 0,_=>.bad
 | n + 1,ρ=>(mc ρ).bS ρ fun b=>if b = true then (mb ρ).turn (b7 mc mb n) else .nx ρ
noncomputable def tM:PV -> Option Int
 | .int i=>some i
 | _=>none
noncomputable def rJ (m:ag -> OE):ag -> OE:=fun ρ=>(m ρ).bind fun r=>match r.pv with
 | .int i=>.ok (.sh (.int i))
 | _=>.bad
noncomputable def uq (xs:List PV) (lo hi:Option Int):List PV:=(xs.drop (vg xs.length 0 lo)).take (vg xs.length xs.length hi - vg xs.length 0 lo)
noncomputable def HE (x:PV) (lo hi:Option Int):Option RV:=match x with
 | .lst xs=>some (.fr (uq xs lo hi))
 | _=>none
noncomputable def BS (ma ml mh:ag -> OE):ag -> OE:=fun ρ=>(ma ρ).bind fun a=>(ml ρ).bind fun l=>(mh ρ).bind fun h=>oE (HE a.pv (tM l.pv) (tM h.pv))
noncomputable def dP (ι:List Nat) (ρ:ag):ag:=ι.map fun i=>(ρ[i]?).join
noncomputable def dA (me:ag -> OE) (ρ:ag):List PV -> OA
 | []=>.ok []
 | x ::xs=>(me (ρ ++ [some (.sh x)])).gq fun r=>match lS r with
   | some y=>(dA me ρ xs).gq fun ys=>.ok (y ::ys)
   | none=>.bad
noncomputable def noX:OA -> OE
 | .ok xs=>if xs.length <= lim then .ok (.fr xs) else .bad
 | _=>.bad
noncomputable def v7 (ml:ag -> OE) (ι:List Nat) (me:ag -> OE):ag -> OE:=fun ρ=>(ml ρ).bind fun r=>match r.pv with
 | .lst xs=>noX (dA me (dP ι ρ) xs)
 | _=>.bad
noncomputable def sY (mn:ag -> OE) (ι:List Nat) (me:ag -> OE):ag -> OE:=fun ρ=>(mn ρ).bind fun r=>match r.pv with
 | .int j=>if -(2 ^ 62) <= j /\ j < 2 ^ 62 then noX (dA me (dP ι ρ) (dQ j.toNat)) else .bad
 | _=>.bad
noncomputable def ye (c:String) (ma:ag -> OA):ag -> OS:=fun ρ=>(ma ρ).bS ρ fun xs=>if xs.length <= lim then .exc ρ c [] else .bad
noncomputable def xJ:OS -> OS
 | .exc _ _ _=>.bad
 | o=>o
noncomputable def KC (mb:ag -> OS) (takes:String -> Option Bool) (ms:ag -> OS):ag -> OS:=fun ρ=>match mb ρ with
 | .exc ρ' c fs=>(match takes c with
   | some true=>xJ (ms ρ')
   | some false=>.exc ρ' c fs
   | none=>.bad)
 | o=>o
noncomputable def Hb (i:Nat):OS -> OS
 | .nx ρ=>.nx (ρ.set i none)
 | .bk ρ=>.bk (ρ.set i none)
 | .ct ρ=>.ct (ρ.set i none)
 | o=>o
noncomputable def vx (i:Nat) (mb:ag -> OS) (takes:String -> Option Bool) (ms:ag -> OS):ag -> OS:=fun ρ=>match mb ρ with
 | .exc ρ' c fs=>(match takes c with
   | some true=>Hb i (xJ (ms (ρ'.set i (some (.ex c fs)))))
   | some false=>.exc ρ' c fs
   | none=>.bad)
 | o=>o
noncomputable def Ex (i:Nat) (under:String -> Bool):ag -> OE:=fun ρ=>match ρ[i]? with
 | some (some (.ex c _))=>if under c = true then .ok (.sh (.bl true)) else .bad
 | _=>.bad
noncomputable def fin:OS -> OE
 | .nx _=>.ok (.sh .non)
 | .rt _ (.al _)=>.bad
 | .rt _ r=>.ok r
 | .exc _ c fs=>.exc c fs
 | _=>.bad
noncomputable def nM (n:Nat) (xs:List PV):ag:=xs.map (fun x=>some (.sh x)) ++ List.replicate (n - xs.length) none
noncomputable def fnP (np n:Nat) (m:ag -> OS):List PV -> OE:=fun xs=>if xs.length = np then fin (m (nM n xs)) else .bad
noncomputable def fuel:Nat:=100000
noncomputable def d0 (i:Nat) (m:ag -> OS):ag -> OS:=fun ρ=>m (kb i ρ)
noncomputable def rQ (i:Nat) (g:PV -> PV -> Option RV) (me:ag -> OE):ag -> OS:=fun ρ=>match ρ[i]? with
 | some (some (.sh x))=>(me ρ).bS ρ fun r=>match g x r.pv with
   | some (.sh z)=>.nx (ρ.set i (some (.sh z)))
   | _=>.bad
 | _=>.bad
noncomputable def cz:PV -> Bool
 | .non=>true
 | _=>false
noncomputable def sv:PV -> PV -> Option RV
 | x,.non=>some (.sh (.bl (cz x)))
 | _,_=>none
noncomputable def uN:PV -> PV -> Option RV
 | x,.non=>some (.sh (.bl (!cz x)))
 | _,_=>none
noncomputable def IT (xs:List PV) (i:Int) (y:PV):List PV:=xs.take (if i < 0 then (i + (xs.length:Int)).toNat else min i.toNat xs.length) ++ y ::xs.drop (if i < 0 then (i + (xs.length:Int)).toNat else min i.toNat xs.length)
noncomputable def E3 (i:Nat) (mk me:ag -> OE):ag -> OS:=fun ρ=>match ρ[i]? with
 | some (some (.ow xs))=>(aj mk (aj me aN) ρ).bS ρ fun ys=>match ys with
   | [.int k,y]=>if (-(2 ^ 63) <= k /\ k < 2 ^ 63) /\ xs.length < lim then .nx (ρ.set i (some (.ow (IT xs k y)))) else .bad
   | _=>.bad
 | _=>.bad
@[simp] theorem v5 (i:Nat) (ρ:ag):au i ρ = (match ρ[i]? with
  | some (some (.sh x))=>.ok (.sh x)
  | some (some (.ow xs))=>.ok (.al xs)
  | _=>.bad):=rfl
@[simp] theorem FZ (g:PV -> PV -> Option RV) (ma mb:ag -> OE) (ρ:ag):mOp g ma mb ρ = ((ma ρ).bind fun a=>(mb ρ).bind fun b=>oE (g a.pv b.pv)):=rfl
@[simp] theorem Ai (me:ag -> OE) (mr:ag -> OA) (ρ:ag):aj me mr ρ = ((me ρ).gq fun r=>match lS r with
  | some x=>(mr ρ).gq fun xs=>.ok (x ::xs)
  | none=>.bad):=rfl
@[simp] theorem Gx (ma:ag -> OA) (ρ:ag):cV ma ρ = ((ma ρ).bind fun xs=>if xs.length <= lim then .ok (.fr xs) else .bad):=rfl
@[simp] theorem Ln (ma:ag -> OA) (ρ:ag):jU ma ρ = ((ma ρ).bind fun xs=>if xs.length <= lim then .ok (.sh (.tup xs)) else .bad):=rfl
@[simp] theorem zd (f:List PV -> OE) (ma:ag -> OA) (ρ:ag):bf f ma ρ = ((ma ρ).bind f):=rfl
@[simp] theorem Dj (g:PV -> Option RV) (ma:ag -> OE) (ρ:ag):mUn g ma ρ = ((ma ρ).bind fun a=>oE (g a.pv)):=rfl
@[simp] theorem BL (ma:ag -> OE) (ρ:ag):jr ma ρ = ((ma ρ).gJ fun r=>oT (tE r.pv)):=rfl
@[simp] theorem Dv (ma:ag -> OE) (ρ:ag):aR ma ρ = ((ma ρ).gJ fun r=>match r.pv with
  | .bl b=>.ok b
  | _=>.bad):=rfl
@[simp] theorem Kl (m:ag -> OT) (ρ:ag):xv m ρ = ((m ρ).gJ fun b=>.ok (!b)):=rfl
@[simp] theorem D3 (m n:ag -> OT) (ρ:ag):nX m n ρ = ((m ρ).gJ fun b=>if b = true then n ρ else .ok false):=rfl
@[simp] theorem KR (m n:ag -> OT) (ρ:ag):A7 m n ρ = ((m ρ).gJ fun b=>if b = true then .ok true else n ρ):=rfl
@[simp] theorem Ks (m n:ag -> OE) (ρ:ag):qi m n ρ = ((m ρ).bind fun r=>match r.pv with
  | .bl b=>if b = true then n ρ else .ok (.sh (.bl false))
  | _=>.bad):=rfl
@[simp] theorem KY (m n:ag -> OE) (ρ:ag):KW m n ρ = ((m ρ).bind fun r=>match r.pv with
  | .bl b=>if b = true then .ok (.sh (.bl true)) else n ρ
  | _=>.bad):=rfl
@[simp] theorem JM (m:ag -> OE) (ρ:ag):B6 m ρ = ((m ρ).bind fun r=>match r.pv with
  | .bl b=>.ok (.sh (.bl (!b)))
  | _=>.bad):=rfl
@[simp] theorem LA (c:ag -> OT) (m n:ag -> OE) (ρ:ag):lZ c m n ρ = ((c ρ).bind fun b=>if b = true then m ρ else n ρ):=rfl
@[simp] theorem JH (g g':PV -> PV -> Option RV) (ma mb mc:ag -> OE) (ρ:ag):kC g g' ma mb mc ρ = ((ma ρ).bind fun a=>(mb ρ).bind fun b=>(oE (g a.pv b.pv)).bind fun r=>match r.pv with
  | .bl k=>if k = true then (mc ρ).bind fun c=>oE (g' b.pv c.pv) else .ok (.sh (.bl false))
  | _=>.bad):=rfl
@[simp] theorem lh (a b:ag -> OS) (ρ:ag):aS a b ρ = ((a ρ).andThen b):=rfl
@[simp] theorem D9 (ρ:ag):bt  ρ = (.nx ρ):=rfl
@[simp] theorem Jl (ρ:ag):G1  ρ = (.bk ρ):=rfl
@[simp] theorem Kr (ρ:ag):IQ  ρ = (.ct ρ):=rfl
@[simp] theorem vv (i:Nat) (me:ag -> OE) (ρ:ag):cK i me ρ = ((me ρ).bS ρ fun r=>match Cw r with
  | some s=>.nx (ρ.set i (some s))
  | none=>.bad):=rfl
@[simp] theorem CG (c:ag -> OT) (m n:ag -> OS) (ρ:ag):cf c m n ρ = ((c ρ).bS ρ fun b=>if b = true then m ρ else n ρ):=rfl
@[simp] theorem Cv (me:ag -> OE) (ρ:ag):bw me ρ = ((me ρ).bS ρ fun r=>match r with
  | .al _=>.bad
  | r=>.rt ρ r):=rfl
@[simp] theorem IF (i:Nat) (ρ:ag):iS i ρ = (match ρ[i]? with
  | some (some (.sh x))=>.rt ρ (.sh x)
  | some (some (.ow xs))=>.rt (ρ.set i none) (.fr xs)
  | _=>.bad):=rfl
@[simp] theorem Kc (me:ag -> OE) (ρ:ag):zX me ρ = ((me ρ).bS ρ fun _=>.nx ρ):=rfl
@[simp] theorem IK (i:Nat) (me:ag -> OE) (ρ:ag):mW i me ρ = (match ρ[i]? with
  | some (some (.ow xs))=>(me ρ).bS ρ fun r=>match lS r with
    | some y=>if xs.length < lim then .nx (ρ.set i (some (.ow (xs ++ [y])))) else .bad
    | none=>.bad
  | _=>.bad):=rfl
@[simp] theorem IH (i:Nat) (me:ag -> OE) (ρ:ag):EE i me ρ = (match ρ[i]? with
  | some (some (.ow xs))=>(me ρ).bS ρ fun r=>match r with
    | .fr ys=>if xs.length + ys.length <= lim then .nx (ρ.set i (some (.ow (xs ++ ys)))) else .bad
    | _=>.bad
  | _=>.bad):=rfl
@[simp] theorem Kt (i:Nat) (ml:ag -> OE) (mb:ag -> OS) (ρ:ag):tq i ml mb ρ = ((ml ρ).bS ρ fun r=>match yI r with
  | some xs=>kF i mb xs ρ
  | none=>.bad):=rfl
@[simp] theorem Ku (i:Nat) (me:ag -> OE) (mb:ag -> OS) (ρ:ag):Af i me mb ρ = ((me ρ).bS ρ fun r=>match r.pv with
  | .int j=>if -(2 ^ 62) <= j /\ j < 2 ^ 62 then kF i mb (dQ j.toNat) ρ else .bad
  | _=>.bad):=rfl
@[simp] theorem Kn (m:ag -> OE) (ρ:ag):rJ m ρ = ((m ρ).bind fun r=>match r.pv with
  | .int i=>.ok (.sh (.int i))
  | _=>.bad):=rfl
@[simp] theorem KO (ma ml mh:ag -> OE) (ρ:ag):BS ma ml mh ρ = ((ma ρ).bind fun a=>(ml ρ).bind fun l=>(mh ρ).bind fun h=>oE (HE a.pv (tM l.pv) (tM h.pv))):=rfl
@[simp] theorem CC (ml:ag -> OE) (ι:List Nat) (me:ag -> OE) (ρ:ag):v7 ml ι me ρ = ((ml ρ).bind fun r=>match r.pv with
  | .lst xs=>noX (dA me (dP ι ρ) xs)
  | _=>.bad):=rfl
@[simp] theorem C4 (mn:ag -> OE) (ι:List Nat) (me:ag -> OE) (ρ:ag):sY mn ι me ρ = ((mn ρ).bind fun r=>match r.pv with
  | .int j=>if -(2 ^ 62) <= j /\ j < 2 ^ 62 then noX (dA me (dP ι ρ) (dQ j.toNat)) else .bad
  | _=>.bad):=rfl
@[simp] theorem Jy (c:String) (ma:ag -> OA) (ρ:ag):ye c ma ρ = ((ma ρ).bS ρ fun xs=>if xs.length <= lim then .exc ρ c [] else .bad):=rfl
@[simp] theorem KU (mb:ag -> OS) (takes:String -> Option Bool) (ms:ag -> OS) (ρ:ag):KC mb takes ms ρ = (match mb ρ with
  | .exc ρ' c fs=>(match takes c with
    | some true=>xJ (ms ρ')
    | some false=>.exc ρ' c fs
    | none=>.bad)
  | o=>o):=rfl
@[simp] theorem Jv (i:Nat) (mb:ag -> OS) (takes:String -> Option Bool) (ms:ag -> OS) (ρ:ag):vx i mb takes ms ρ = (match mb ρ with
  | .exc ρ' c fs=>(match takes c with
    | some true=>Hb i (xJ (ms (ρ'.set i (some (.ex c fs)))))
    | some false=>.exc ρ' c fs
    | none=>.bad)
  | o=>o):=rfl
@[simp] theorem Lm (i:Nat) (under:String -> Bool) (ρ:ag):Ex i under ρ = (match ρ[i]? with
  | some (some (.ex c _))=>if under c = true then .ok (.sh (.bl true)) else .bad
  | _=>.bad):=rfl
@[simp] theorem Iy (i:Nat) (m:ag -> OS) (ρ:ag):d0 i m ρ = (m (kb i ρ)):=rfl
@[simp] theorem K5 (i:Nat) (g:PV -> PV -> Option RV) (me:ag -> OE) (ρ:ag):rQ i g me ρ = (match ρ[i]? with
  | some (some (.sh x))=>(me ρ).bS ρ fun r=>match g x r.pv with
    | some (.sh z)=>.nx (ρ.set i (some (.sh z)))
    | _=>.bad
  | _=>.bad):=rfl
@[simp] theorem IE (i:Nat) (mk me:ag -> OE) (ρ:ag):E3 i mk me ρ = (match ρ[i]? with
  | some (some (.ow xs))=>(aj mk (aj me aN) ρ).bS ρ fun ys=>match ys with
    | [.int k,y]=>if (-(2 ^ 63) <= k /\ k < 2 ^ 63) /\ xs.length < lim then .nx (ρ.set i (some (.ow (IT xs k y)))) else .bad
    | _=>.bad
  | _=>.bad):=rfl
@[simp] theorem HS (x:PV) (ρ:ag):mC x ρ = .ok (.sh x):=rfl
@[simp] theorem yK (ρ:ag):aN ρ = .ok []:=rfl
@[simp] theorem Kq (ρ:ag):Jw ρ = .rt ρ (.sh .non):=rfl
@[simp] theorem oF (r:RV) (f:RV -> OE):OE.bind (.ok r) f = f r:=rfl
@[simp] theorem Ic (c:String) (fs:XF) (f:RV -> OE):OE.bind (.exc c fs) f = .exc c fs:=rfl
@[simp] theorem Hl {p:Prop} [Decidable p] (x y:OE) (f:RV -> OE):OE.bind (if p then x else y) f = if p then OE.bind x f else OE.bind y f:=by split <;> rfl
@[simp] theorem Hi (r:RV) (f:RV -> OT):OE.gJ (.ok r) f = f r:=rfl
@[simp] theorem FY (c:String) (fs:XF) (f:RV -> OT):OE.gJ (.exc c fs) f = .exc c fs:=rfl
@[simp] theorem Fe {p:Prop} [Decidable p] (x y:OE) (f:RV -> OT):OE.gJ (if p then x else y) f = if p then OE.gJ x f else OE.gJ y f:=by split <;> rfl
@[simp] theorem sC (r:RV) (f:RV -> OA):OE.gq (.ok r) f = f r:=rfl
@[simp] theorem FP (c:String) (fs:XF) (f:RV -> OA):OE.gq (.exc c fs) f = .exc c fs:=rfl
@[simp] theorem FL {p:Prop} [Decidable p] (x y:OE) (f:RV -> OA):OE.gq (if p then x else y) f = if p then OE.gq x f else OE.gq y f:=by split <;> rfl
@[simp] theorem IG (r:Bool) (f:Bool -> OE):OT.bind (.ok r) f = f r:=rfl
@[simp] theorem Im (c:String) (fs:XF) (f:Bool -> OE):OT.bind (.exc c fs) f = .exc c fs:=rfl
@[simp] theorem Ho {p:Prop} [Decidable p] (x y:OT) (f:Bool -> OE):OT.bind (if p then x else y) f = if p then OT.bind x f else OT.bind y f:=by split <;> rfl
@[simp] theorem Hc (r:Bool) (f:Bool -> OT):OT.gJ (.ok r) f = f r:=rfl
@[simp] theorem FC (c:String) (fs:XF) (f:Bool -> OT):OT.gJ (.exc c fs) f = .exc c fs:=rfl
@[simp] theorem Fu {p:Prop} [Decidable p] (x y:OT) (f:Bool -> OT):OT.gJ (if p then x else y) f = if p then OT.gJ x f else OT.gJ y f:=by split <;> rfl
@[simp] theorem q9 (r:List PV) (f:List PV -> OE):OA.bind (.ok r) f = f r:=rfl
@[simp] theorem Ht (c:String) (fs:XF) (f:List PV -> OE):OA.bind (.exc c fs) f = .exc c fs:=rfl
@[simp] theorem GO {p:Prop} [Decidable p] (x y:OA) (f:List PV -> OE):OA.bind (if p then x else y) f = if p then OA.bind x f else OA.bind y f:=by split <;> rfl
@[simp] theorem sI (r:List PV) (f:List PV -> OA):OA.gq (.ok r) f = f r:=rfl
@[simp] theorem FG (c:String) (fs:XF) (f:List PV -> OA):OA.gq (.exc c fs) f = .exc c fs:=rfl
@[simp] theorem Ft {p:Prop} [Decidable p] (x y:OA) (f:List PV -> OA):OA.gq (if p then x else y) f = if p then OA.gq x f else OA.gq y f:=by split <;> rfl
@[simp] theorem jT (ρ:ag) (r:RV) (f:RV -> OS):OE.bS ρ (.ok r) f = f r:=rfl
@[simp] theorem Fy (ρ:ag) (c:String) (fs:XF) (f:RV -> OS):OE.bS ρ (.exc c fs) f = .exc ρ c fs:=rfl
@[simp] theorem FJ {p:Prop} [Decidable p] (ρ:ag) (x y:OE) (f:RV -> OS):OE.bS ρ (if p then x else y) f = if p then OE.bS ρ x f else OE.bS ρ y f:=by split <;> rfl
@[simp] theorem fJ (ρ:ag) (r:Bool) (f:Bool -> OS):OT.bS ρ (.ok r) f = f r:=rfl
@[simp] theorem Fh (ρ:ag) (c:String) (fs:XF) (f:Bool -> OS):OT.bS ρ (.exc c fs) f = .exc ρ c fs:=rfl
@[simp] theorem Fs {p:Prop} [Decidable p] (ρ:ag) (x y:OT) (f:Bool -> OS):OT.bS ρ (if p then x else y) f = if p then OT.bS ρ x f else OT.bS ρ y f:=by split <;> rfl
@[simp] theorem GV (ρ:ag) (r:List PV) (f:List PV -> OS):OA.bS ρ (.ok r) f = f r:=rfl
@[simp] theorem FR (ρ:ag) (c:String) (fs:XF) (f:List PV -> OS):OA.bS ρ (.exc c fs) f = .exc ρ c fs:=rfl
@[simp] theorem Fm {p:Prop} [Decidable p] (ρ:ag) (x y:OA) (f:List PV -> OS):OA.bS ρ (if p then x else y) f = if p then OA.bS ρ x f else OA.bS ρ y f:=by split <;> rfl
@[simp] theorem jl (ρ:ag) (k:ag -> OS):(OS.nx ρ).andThen k = k ρ:=rfl
@[simp] theorem iQ (ρ:ag) (k:ag -> OS):(OS.nx ρ).turn k = k ρ:=rfl
@[simp] theorem G4 (ρ:ag) (k:ag -> OS):(OS.bk ρ).andThen k = OS.bk ρ:=rfl
@[simp] theorem JV (ρ:ag) (k:ag -> OS):(OS.bk ρ).turn k = .nx ρ:=rfl
@[simp] theorem HN (ρ:ag) (k:ag -> OS):(OS.ct ρ).andThen k = OS.ct ρ:=rfl
@[simp] theorem Ka (ρ:ag) (k:ag -> OS):(OS.ct ρ).turn k = k ρ:=rfl
@[simp] theorem tu (ρ:ag) (r:RV) (k:ag -> OS):(OS.rt ρ r).andThen k = OS.rt ρ r:=rfl
@[simp] theorem zH (ρ:ag) (r:RV) (k:ag -> OS):(OS.rt ρ r).turn k = OS.rt ρ r:=rfl
@[simp] theorem FH (ρ:ag) (c:String) (fs:XF) (k:ag -> OS):(OS.exc ρ c fs).andThen k = OS.exc ρ c fs:=rfl
@[simp] theorem Jo (ρ:ag) (c:String) (fs:XF) (k:ag -> OS):(OS.exc ρ c fs).turn k = OS.exc ρ c fs:=rfl
@[simp] theorem FF {p:Prop} [Decidable p] (x y:OS) (k:ag -> OS):OS.andThen (if p then x else y) k = if p then x.andThen k else y.andThen k:=by split <;> rfl
@[simp] theorem Jh {p:Prop} [Decidable p] (x y:OS) (k:ag -> OS):OS.turn (if p then x else y) k = if p then x.turn k else y.turn k:=by split <;> rfl
@[simp] theorem Lo (ρ:ag):fin (.nx ρ) = .ok (.sh .non):=rfl
@[simp] theorem K9 (ρ:ag) (x:PV):fin (.rt ρ (.sh x)) = .ok (.sh x):=rfl
@[simp] theorem Lk (ρ:ag) (x:List PV):fin (.rt ρ (.fr x)) = .ok (.fr x):=rfl
@[simp] theorem Ki (ρ:ag) (c:String) (fs:XF):fin (.exc ρ c fs) = .exc c fs:=rfl
@[simp] theorem Kf {p:Prop} [Decidable p] (x y:OS):fin (if p then x else y) = if p then fin x else fin y:=by split <;> rfl
@[simp] theorem IX (x:PV):RV.pv (.sh x) = x:=rfl
@[simp] theorem FA (x:List PV):RV.pv (.fr x) = .lst x:=rfl
@[simp] theorem Fp (x:List PV):RV.pv (.al x) = .lst x:=rfl
@[simp] theorem vo (r:RV):oE (some r) = .ok r:=rfl
@[simp] theorem Kg (r:Bool):oT (some r) = .ok r:=rfl
@[simp] theorem II (i:Nat) (mb:ag -> OS) (ρ:ag):kF i mb [] ρ = .nx ρ:=rfl
@[simp] theorem jm (i:Nat) (mb:ag -> OS) (x:PV) (xs:List PV) (ρ:ag):kF i mb (x ::xs) ρ = (mb (ρ.set i (some (.sh x)))).turn (kF i mb xs):=rfl
@[simp] theorem K0 (i j:Int):eL (.int i) (.int j) = some (.sh (.int (i + j))):=rfl
@[simp] theorem Ky (i j:Int):qt (.int i) (.int j) = some (.sh (.int (i - j))):=rfl
@[simp] theorem Kx (i j:Int):vB (.int i) (.int j) = if ((decide (-(2 ^ 64) < i) && decide (i < 2 ^ 64)) || (decide (-(2 ^ 64) < j) && decide (j < 2 ^ 64))) = true then some (.sh (.int (i * j))) else none:=rfl
@[simp] theorem Lz (i j:Int):uh (.int i) (.int j) = if (decide (0 < j) && decide (j < 1073741824)) = true then some (.sh (.int (i / j))) else none:=rfl
@[simp] theorem HD (i j:Int):kJ (.int i) (.int j) = if decide (0 < j) = true then some (.sh (.int (i % j))) else none:=rfl
@[simp] theorem Lf (i j:Int):K4 (.int i) (.int j) = if (decide (0 <= j) && (decide (j <= 1000000) && decide (i.natAbs < 2 ^ 64))) = true then some (.sh (.int (i ^ j.toNat))) else none:=rfl
@[simp] theorem LR (i j:Int):gLt (.int i) (.int j) = some (.sh (.bl (decide (i < j)))):=rfl
@[simp] theorem LS (i j:Int):gLe (.int i) (.int j) = some (.sh (.bl (decide (i <= j)))):=rfl
@[simp] theorem LO (i j:Int):gGt (.int i) (.int j) = some (.sh (.bl (decide (j < i)))):=rfl
@[simp] theorem LZ (i j:Int):gGe (.int i) (.int j) = some (.sh (.bl (decide (j <= i)))):=rfl
@[simp] theorem LQ (i j:Int):gEq (.int i) (.int j) = some (.sh (.bl (decide (i = j)))):=rfl
@[simp] theorem LU (i j:Int):gNe (.int i) (.int j) = some (.sh (.bl (!decide (i = j)))):=rfl
@[simp] theorem LN (i j:Bool):gEq (.bl i) (.bl j) = some (.sh (.bl (decide (i = j)))):=rfl
@[simp] theorem LJ (i j:Bool):gNe (.bl i) (.bl j) = some (.sh (.bl (!decide (i = j)))):=rfl
@[simp] theorem Gg (xs:List PV):ng (.lst xs) = some (.sh (.int xs.length)):=rfl
@[simp] theorem Lv (xs:List PV):ng (.tup xs) = some (.sh (.int xs.length)):=rfl
@[simp] theorem Lg (xs:List PV) (i:Int):jV (.lst xs) (.int i) = (atP xs i).map .sh:=rfl
@[simp] theorem KA (xs:List PV) (i:Int):mY (.tup xs) (.int i) = (atP xs i).map .sh:=rfl
@[simp] theorem Lh (xs ys:List PV):kL (.lst xs) (.lst ys) = if xs.length + ys.length <= lim then some (.fr (xs ++ ys)) else none:=rfl
@[simp] theorem GD {p:Prop} [Decidable p] (x y:Option RV):oE (if p then x else y) = if p then oE x else oE y:=by split <;> rfl
@[simp] theorem K1 (b:Bool):tE (.bl b) = some b:=rfl
@[simp] theorem KG (i:Int):tE (.int i) = some (i != 0):=rfl
@[simp] theorem KN (xs:List PV):tE (.lst xs) = some (!xs.isEmpty):=rfl
@[simp] theorem Lx (xs:List PV):tE (.tup xs) = some (!xs.isEmpty):=rfl
@[simp] theorem Lb:tE .non = some false:=rfl
@[simp] theorem IC (i:Int):isP "int" (.int i) = some true:=rfl
@[simp] theorem Ib (i:Int):isP "bool" (.int i) = some false:=rfl
@[simp] theorem HY (i:Bool):isP "bool" (.bl i) = some true:=rfl
@[simp] theorem Hy (xs:List PV):isP "list" (.lst xs) = some true:=rfl
@[simp] theorem ID (xs:List PV):r9 (.lst xs) = some (.fr xs):=rfl
@[simp] theorem IJ (xs:List PV):r9 (.tup xs) = some (.fr xs):=rfl
@[simp] theorem La (xs:List PV) (lo hi:Option Int):HE (.lst xs) lo hi = some (.fr (uq xs lo hi)):=rfl
@[simp] theorem Kb:tM .non = none:=rfl
@[simp] theorem JQ (i:Int):tM (.int i) = some i:=rfl
@[simp] theorem LB (i:Int):B1 (.int i) = some (.sh (.int (-i))):=rfl
@[simp] theorem JN (i:Int):xj (.int i) = some (.sh (.int i)):=rfl
@[simp] theorem Kw (i:Bool):xj (.bl i) = some (.sh (.int (if i then 1 else 0))):=rfl
@[simp] theorem zF (x:PV):lS (.sh x) = some x:=rfl
@[simp] theorem Kh (x:List PV):lS (.fr x) = some (.lst x):=rfl
@[simp] theorem EO (x:PV):Cw (.sh x) = some (.sh x):=rfl
@[simp] theorem Ew (x:List PV):Cw (.fr x) = some (.ow x):=rfl
@[simp] theorem xp (np n:Nat) (m:ag -> OS) (xs:List PV):fnP np n m xs = if xs.length = np then fin (m (nM n xs)) else .bad:=rfl
@[simp] theorem og (n:Nat) (xs:List PV):nM n xs = xs.map (fun x=>some (.sh x)) ++ List.replicate (n - xs.length) none:=rfl
@[simp] theorem HW (xs:List PV):yI (.sh (.lst xs)) = some xs:=rfl
@[simp] theorem Ke (xs:List PV):yI (.fr xs) = some xs:=rfl
@[simp] theorem Ll (x:PV):sv x .non = some (.sh (.bl (cz x))):=rfl
@[simp] theorem JW (x:PV):uN x .non = some (.sh (.bl (!cz x))):=rfl
@[simp] theorem CH (xs:List PV):noX (.ok xs) = if xs.length <= lim then .ok (.fr xs) else .bad:=rfl
@[simp] theorem Hw (me:ag -> OE) (ρ:ag):dA me ρ [] = .ok []:=rfl
@[simp] theorem Hk (f:RV -> OE):OE.bind .bad f = .bad:=rfl
@[simp] theorem Fl (f:RV -> OT):OE.gJ .bad f = .bad:=rfl
@[simp] theorem FO (f:RV -> OA):OE.gq .bad f = .bad:=rfl
@[simp] theorem Ge (f:Bool -> OE):OT.bind .bad f = .bad:=rfl
@[simp] theorem Fq (f:Bool -> OT):OT.gJ .bad f = .bad:=rfl
@[simp] theorem Io (f:List PV -> OE):OA.bind .bad f = .bad:=rfl
@[simp] theorem Fo (f:List PV -> OA):OA.gq .bad f = .bad:=rfl
@[simp] theorem FE (ρ:ag) (f:RV -> OS):OE.bS ρ .bad f = .bad:=rfl
@[simp] theorem FN (ρ:ag) (f:Bool -> OS):OT.bS ρ .bad f = .bad:=rfl
@[simp] theorem Fz (ρ:ag) (f:List PV -> OS):OA.bS ρ .bad f = .bad:=rfl
@[simp] theorem Fv (k:ag -> OS):OS.bad.andThen k = .bad:=rfl
@[simp] theorem Jd (k:ag -> OS):OS.bad.turn k = .bad:=rfl
@[simp] theorem Kv:fin .bad = .bad:=rfl
@[simp] theorem Kk:oE none = .bad:=rfl
@[simp] theorem Ko:oT none = .bad:=rfl
@[simp] theorem Kj (x:List PV):lS (.al x) = none:=rfl
@[simp] theorem Kd (x:List PV):Cw (.al x) = none:=rfl
@[simp] theorem IU:(0 <= lim) = True:=by simp [lim]
@[simp] theorem LP:(1 <= lim) = True:=by simp [lim]
@[simp] theorem LY:(2 <= lim) = True:=by simp [lim]
@[simp] theorem LX:(3 <= lim) = True:=by simp [lim]
@[simp] theorem L0:(4 <= lim) = True:=by simp [lim]
@[simp] theorem LI:(5 <= lim) = True:=by simp [lim]
@[simp] theorem LK:(6 <= lim) = True:=by simp [lim]
@[simp] theorem LG:(7 <= lim) = True:=by simp [lim]
@[simp] theorem LW:(8 <= lim) = True:=by simp [lim]
@[simp] theorem LL:(9 <= lim) = True:=by simp [lim]
@[simp] theorem K6:(10 <= lim) = True:=by simp [lim]
@[simp] theorem Lu:(11 <= lim) = True:=by simp [lim]
@[simp] theorem Lq:(12 <= lim) = True:=by simp [lim]
@[simp] theorem KJ:(13 <= lim) = True:=by simp [lim]
@[simp] theorem KI:(14 <= lim) = True:=by simp [lim]
@[simp] theorem Lr:(15 <= lim) = True:=by simp [lim]
@[simp] theorem KQ:(16 <= lim) = True:=by simp [lim]
theorem iV {n:Nat} (h:n <= 1000000):n <= lim:=by unfold lim; omega
theorem sM {n:Nat} (h:n <= 1000000):n < lim:=by unfold lim; omega
theorem lz {α:Type} (xs:List α) (k:Nat):atP xs (k:Int) = xs[k]?:=by
 unfold atP ixP
 by_cases h:k < xs.length
 . simp [h]
 . simp [h]
@[simp] theorem L1 {α:Type} (xs:List α):atP xs 0 = xs[0]?:=lz xs 0
@[simp] theorem LM {α:Type} (xs:List α):atP xs 1 = xs[1]?:=lz xs 1
@[simp] theorem JZ {α:Type} (xs:List α) (n:Nat):atP xs (no_index (OfNat.ofNat n:Int)) = xs[n]?:=lz xs n
theorem Dn {α:Type} (xs:List α) (i:Int) (h:0 <= i):atP xs i = xs[i.toNat]?:=by
 have:=lz xs i.toNat
 rwa [Int.toNat_of_nonneg h] at this
@[simp] theorem LH (T:String) (ma:ag -> OE) (ρ:ag):mIs T ma ρ = (ma ρ).bind fun a=>oE ((isP T a.pv).map fun b=>.sh (.bl b)):=rfl
@[simp] theorem HR (ns:List Int):qF (ns.map .int) = some ns:=by
  induction ns with
  | nil=>rfl
  | cons n ns ih=>show (qF (ns.map .int)).map (n ::·) = _; rw [ih]; rfl
@[simp] theorem rF (ns:List Bool):oG (ns.map .bl) = some ns:=by
  induction ns with
  | nil=>rfl
  | cons n ns ih=>show (oG (ns.map .bl)).map (n ::·) = _; rw [ih]; rfl
@[simp] theorem GN (n:Nat):(dQ n).length = n:=by simp [dQ]
theorem ot {me:ag -> OE} {ρ:ag} {α:Type} {g:α -> PV} {f:α -> PV} (l:List α) (h:∀ a ∈ l,me (ρ ++ [some (.sh (g a))]) = .ok (.sh (f a))):dA me ρ (l.map g) = .ok (l.map f):=by
 induction l with
 | nil=>rfl
 | cons a l ih=>
   have h1:=h a (List.mem_cons_self)
   have h2:=ih fun b hb=>h b (List.mem_cons_of_mem _ hb)
   simp [dA,h1,h2]
noncomputable def Bn (b:Bool):PV -> Bool
 | .bl c=>decide (c = b)
 | _=>false
noncomputable def KL:PV -> PV -> Option RV
 | x,.bl b=>some (.sh (.bl (Bn b x)))
 | _,_=>none
noncomputable def DP:PV -> PV -> Option RV
 | x,.bl b=>some (.sh (.bl (!Bn b x)))
 | _,_=>none
@[simp] theorem K3 (x:PV) (b:Bool):KL x (.bl b) = some (.sh (.bl (Bn b x))):=rfl
@[simp] theorem IB (x:PV) (b:Bool):DP x (.bl b) = some (.sh (.bl (!Bn b x))):=rfl
@[simp] theorem KS (b c:Bool):Bn b (.bl c) = decide (c = b):=rfl
noncomputable def qx (c:String) (f:Str) (ma:ag -> OA):ag -> OS:=fun ρ=>(ma ρ).bS ρ fun xs=>match xs with
 | [x]=>.exc ρ c [(f,x)]
 | _=>.bad
@[simp] theorem Iz (c:String) (f:Str) (ma:ag -> OA) (ρ:ag):qx c f ma ρ = (ma ρ).bS ρ fun xs=>match xs with
  | [x]=>.exc ρ c [(f,x)]
  | _=>.bad:=rfl
noncomputable def Jc (i:Nat) (f:Str) (under:String -> Bool):ag -> OE:=fun ρ=>match ρ[i]? with
 | some (some (.ex c fs))=>if under c = true then (match fs.lookup f with
   | some x=>.ok (.sh x)
   | none=>.bad) else .bad
 | _=>.bad
@[simp] theorem JY (i:Nat) (f:Str) (under:String -> Bool) (ρ:ag):Jc i f under ρ = match ρ[i]? with
  | some (some (.ex c fs))=>if under c = true then (match fs.lookup f with
    | some x=>.ok (.sh x)
    | none=>.bad) else .bad
  | _=>.bad:=rfl
noncomputable def KZ (ma mb:ag -> OE):ag -> OE:=fun ρ=>(ma ρ).bind fun a=>(mb ρ).bind fun b=>match a,b.pv with
 | .fr xs,.int k=>if (-(2 ^ 63) <= k /\ k < 2 ^ 63) /\ xs.length * k.toNat <= lim then .ok (.fr (List.replicate k.toNat xs).flatten) else .bad
 | _,_=>.bad
@[simp] theorem Lj (ma mb:ag -> OE) (ρ:ag):KZ ma mb ρ = (ma ρ).bind fun a=>(mb ρ).bind fun b=>match a,b.pv with
  | .fr xs,.int k=>if (-(2 ^ 63) <= k /\ k < 2 ^ 63) /\ xs.length * k.toNat <= lim then .ok (.fr (List.replicate k.toNat xs).flatten) else .bad
  | _,_=>.bad:=rfl
noncomputable def DW (i:Nat) (mk mv:ag -> OE):ag -> OS:=fun ρ=>match ρ[i]? with
 | some (some (.ow xs))=>(mv ρ).bS ρ fun r=>match lS r with
   | some y=>(mk ρ).bS ρ fun kk=>match kk.pv with
     | .int k=>match ixP xs.length k with
       | some j=>.nx (ρ.set i (some (.ow (xs.set j y))))
       | none=>.bad
     | _=>.bad
   | none=>.bad
 | _=>.bad
@[simp] theorem Lw (i:Nat) (mk mv:ag -> OE) (ρ:ag):DW i mk mv ρ = match ρ[i]? with
  | some (some (.ow xs))=>(mv ρ).bS ρ fun r=>match lS r with
    | some y=>(mk ρ).bS ρ fun kk=>match kk.pv with
      | .int k=>match ixP xs.length k with
        | some j=>.nx (ρ.set i (some (.ow (xs.set j y))))
        | none=>.bad
      | _=>.bad
    | none=>.bad
  | _=>.bad:=rfl
end L2.P
namespace L2.P
open PySem PySem.Spec PyProof.Rows L2 L2.E
mutual
noncomputable def Rep (K:PySem.W.Frag) (S:Hp):PV -> V -> Prop
 | .non,v=>v = .non
 | .bl b,v=>v = .bl b
 | .int i,v=>v = .int i
 | .str s,v=>v = .str s
 | .lst xs,v=>∃ p vs,v = .ref p /\ SqL K S p vs /\ bR K S xs vs
 | .tup xs,v=>∃ p vs,v = .ref p /\ SqT K S p vs /\ bR K S xs vs
noncomputable def bR (K:PySem.W.Frag) (S:Hp):List PV -> List V -> Prop
 | [],vs=>vs = []
 | x ::xs,vs=>∃ v r,vs = v ::r /\ Rep K S x v /\ bR K S xs r
end
theorem _root_.L2.aJ.tup {K:PySem.W.Frag} {H H':Hp} {a:Addr} {xs:List V} (e:aJ H H') (h:SqT K H a xs):SqT K H' a xs:=by
 rcases h with (h | ⟨o,h⟩) | h
 . exact .inl (.inl (e _ _ h))
 . exact .inl (.inr ⟨o,e _ _ h⟩)
 . exact .inr h
section
variable {K:PySem.W.Frag} {S S':Hp}
mutual
theorem Rep.mono (s:aJ S S'):∀ {x:PV} {v:V},Rep K S x v -> Rep K S' x v
 | .non,_,h=>by unfold Rep at h ⊢; exact h
 | .bl _,_,h=>by unfold Rep at h ⊢; exact h
 | .int _,_,h=>by unfold Rep at h ⊢; exact h
 | .str _,_,h=>by unfold Rep at h ⊢; exact h
 | .lst _,_,h=>by
   unfold Rep at h ⊢
   obtain ⟨p,vs,e,q,r⟩:=h
   exact ⟨p,vs,e,aJ.seq s q,bR.mono s r⟩
 | .tup _,_,h=>by
   unfold Rep at h ⊢
   obtain ⟨p,vs,e,q,r⟩:=h
   exact ⟨p,vs,e,aJ.tup s q,bR.mono s r⟩
theorem bR.mono (s:aJ S S'):∀ {xs:List PV} {vs:List V},bR K S xs vs -> bR K S' xs vs
 | [],_,h=>by unfold bR at h ⊢; exact h
 | _ ::_,_,h=>by
   unfold bR at h ⊢
   obtain ⟨v,r,e,q,t⟩:=h
   exact ⟨v,r,e,Rep.mono s q,bR.mono s t⟩
end
theorem bR.nil:bR K S [] []:=by unfold bR; rfl
theorem bR.cons {x:PV} {xs:List PV} {v:V} {vs:List V} (h:Rep K S x v) (t:bR K S xs vs):bR K S (x ::xs) (v ::vs):=by unfold bR; exact ⟨v,vs,rfl,h,t⟩
theorem bR.nil_inv {vs:List V} (h:bR K S [] vs):vs = []:=by unfold bR at h; exact h
theorem bR.cons_inv {x:PV} {xs:List PV} {vs:List V} (h:bR K S (x ::xs) vs):∃ v r,vs = v ::r /\ Rep K S x v /\ bR K S xs r:=by unfold bR at h; exact h
theorem bR.append {xs ys:List PV} {vs us:List V} (h:bR K S xs vs) (t:bR K S ys us):bR K S (xs ++ ys) (vs ++ us):=by
 induction xs generalizing vs with
 | nil=>rw [h.nil_inv]; exact t
 | cons x xs ih=>
   obtain ⟨v,r,rfl,q,h'⟩:=h.cons_inv
   exact .cons q (ih h')
theorem bR.length {xs:List PV} {vs:List V} (h:bR K S xs vs):vs.length = xs.length:=by
 induction xs generalizing vs with
 | nil=>rw [h.nil_inv]; rfl
 | cons x xs ih=>
   obtain ⟨v,r,rfl,q,h'⟩:=h.cons_inv
   simp [ih h']
theorem bR.get {xs:List PV} {vs:List V} (h:bR K S xs vs):∀ {i:Nat} {x:PV},xs[i]? = some x -> ∃ v,vs[i]? = some v /\ Rep K S x v:=by
 induction xs generalizing vs with
 | nil=>intro i x e; simp at e
 | cons y xs ih=>
   obtain ⟨v,r,rfl,q,h'⟩:=h.cons_inv
   intro i x e
   cases i with
   | zero=>simp at e; subst e; exact ⟨v,rfl,q⟩
   | succ i=>simp at e; obtain ⟨u,e1,e2⟩:=ih h' e; exact ⟨u,by simpa using e1,e2⟩
theorem bR.Jj {xs:List PV} {vs:List V} (h:bR K S xs vs) {i:Nat} {v:V} (e:vs[i]? = some v):∃ x,xs[i]? = some x /\ Rep K S x v:=by
 have hi:i < xs.length:=by rw [<- h.length]; exact (List.getElem?_eq_some_iff.mp e).1
 obtain ⟨u,e1,e2⟩:=h.get (i:=i) (x:=xs[i]) (by simp [hi])
 rw [e] at e1; cases e1
 exact ⟨_,by simp [hi],e2⟩
theorem bR.take {xs:List PV} {vs:List V} (h:bR K S xs vs):∀ n,bR K S (xs.take n) (vs.take n):=by
 induction xs generalizing vs with
 | nil=>intro n; rw [h.nil_inv]; simpa using bR.nil
 | cons y xs ih=>
   obtain ⟨v,r,rfl,q,h'⟩:=h.cons_inv
   intro n
   cases n with
   | zero=>exact .nil
   | succ n=>exact .cons q (ih h' n)
theorem bR.drop {xs:List PV} {vs:List V} (h:bR K S xs vs):∀ n,bR K S (xs.drop n) (vs.drop n):=by
 induction xs generalizing vs with
 | nil=>intro n; rw [h.nil_inv]; simpa using bR.nil
 | cons y xs ih=>
   obtain ⟨v,r,rfl,q,h'⟩:=h.cons_inv
   intro n
   cases n with
   | zero=>exact .cons q h'
   | succ n=>exact ih h' n
theorem bR.ints {ns:List Int}:bR K S (ns.map .int) (ns.map V.int):=by
 induction ns with
 | nil=>exact .nil
 | cons n ns ih=>exact .cons (by unfold Rep; rfl) ih
theorem bR.xf {ns:List Int} {vs:List V} (h:bR K S (ns.map .int) vs):vs = ns.map V.int:=by
 induction ns generalizing vs with
 | nil=>exact h.nil_inv
 | cons n ns ih=>
   obtain ⟨v,r,rfl,q,h'⟩:=h.cons_inv
   unfold Rep at q
   rw [ih h',q]; rfl
theorem bR.set {xs:List PV} {vs:List V} {x:PV} {v:V} (h:bR K S xs vs) (q:Rep K S x v):∀ i,bR K S (xs.set i x) (vs.set i v):=by
 induction xs generalizing vs with
 | nil=>intro i; rw [h.nil_inv]; exact .nil
 | cons y xs ih=>
   obtain ⟨u,r,rfl,qu,h'⟩:=h.cons_inv
   intro i
   cases i with
   | zero=>exact .cons q h'
   | succ i=>exact .cons qu (ih h' i)
end
end L2.P
namespace L2.P
open PySem PySem.Spec PyProof.Rows L2 L2.E
noncomputable def nN (K:PySem.W.Frag) (cls:String -> Option Addr) (S H:Hp) (c:String) (fs:XF) (a C:Addr):Prop:=
 cls c = some C /\ ∃ dx,H a = some (oM a C dx) /\ (fs = [] \/ ∃ d us,dx = some d /\ H d = some (.xd us) /\ fs.map (·.1) = us.map (·.1) /\ bR K S (fs.map (·.2)) (us.map (·.2)))
noncomputable def isX:HO -> Bool
 | .ext _=>true
 | .xd _=>true
 | _=>false
noncomputable def wo (K:PySem.W.Frag) (S:Hp) (kvs:List (Int × PV)) (us:List (Key × V)):Prop:=Paired (fun (p:Int × PV) (q:Key × V)=>q.1 = Sum.inl p.1 /\ Rep K S p.2 q.2) kvs us
noncomputable def wU (K:PySem.W.Frag) (S:Hp) (kvs:List (List Int × PV)) (us:List (List Key × V)):Prop:=Paired (fun (p:List Int × PV) (q:List Key × V)=>q.1 = p.1.map Sum.inl /\ Rep K S p.2 q.2) kvs us
theorem wo.mono {K:PySem.W.Frag} {S S':Hp} (s:aJ S S'):∀ {kvs:List (Int × PV)} {us:List (Key × V)},wo K S kvs us -> wo K S' kvs us
 | _,_,.nil=>.nil
 | _,_,.cons h t=>.cons ⟨h.1,Rep.mono s h.2⟩ (wo.mono s t)
theorem wU.mono {K:PySem.W.Frag} {S S':Hp} (s:aJ S S'):∀ {kvs:List (List Int × PV)} {us:List (List Key × V)},wU K S kvs us -> wU K S' kvs us
 | _,_,.nil=>.nil
 | _,_,.cons h t=>.cons ⟨h.1,Rep.mono s h.2⟩ (wU.mono s t)
mutual
noncomputable def bH (K:PySem.W.Frag) (cls:String -> Option Addr) (S H:Hp):OV -> V -> List Addr -> Prop
 | .sh x,v,fp=>fp = [] /\ Rep K S x v
 | .ol ts,v,fp=>∃ p vs f,v = .ref p /\ H p = some (.lst vs) /\ fp = p ::f /\ bP K cls S H ts vs f
 | .ob c ks ts,v,fp=>∃ p C dx us f,v = .ref p /\ cls c = some C /\ H p = some (.ins C dx us) /\ H dx = some (.own p) /\ us.map (·.1) = ks /\ fp = p ::dx ::f /\ bP K cls S H ts (us.map (·.2)) f
 | .di kvs,v,fp=>∃ p us,v = .ref p /\ H p = some (.dK us) /\ fp = [p] /\ wo K S kvs us
 | .dt kvs,v,fp=>∃ p us,v = .ref p /\ H p = some (.dT us) /\ fp = [p] /\ wU K S kvs us
noncomputable def bP (K:PySem.W.Frag) (cls:String -> Option Addr) (S H:Hp):List OV -> List V -> List Addr -> Prop
 | [],vs,fp=>vs = [] /\ fp = []
 | t ::ts,vs,fp=>∃ v r f1 f2,vs = v ::r /\ fp = f1 ++ f2 /\ bH K cls S H t v f1 /\ bP K cls S H ts r f2
end
noncomputable def rM (K:PySem.W.Frag) (cls:String -> Option Addr) (Av G S H:Hp) (i:Nat):Sl -> V -> List Addr -> Prop
 | .sh x,v,fp=>fp = [] /\ Rep K S x v
 | .ow xs,v,fp=>∃ p vs,v = .ref p /\ fp = [p] /\ G p = none /\ S p = none /\ H p = some (.lst vs) /\ bR K S xs vs
 | .ex c fs,v,fp=>fp = [] /\ ∃ a C,v = .ref a /\ nN K cls S H c fs a C
 | .tr io t,v,fp=>bH K cls S H t v fp /\ fp.Nodup /\ (∀ a ∈ fp,G a = none /\ S a = none) /\ (io = true -> Av i = some (.lst [v]))
 | .bo t,v,fp=>fp = [] /\ ∃ f,bH K cls S G t v f
noncomputable def FV (K:PySem.W.Frag) (cls:String -> Option Addr) (G S H:Hp):Sl -> V -> Prop
 | .sh x,v=>Rep K S x v
 | .ow xs,v=>∃ p vs,v = .ref p /\ G p = none /\ S p = none /\ H p = some (.lst vs) /\ bR K S xs vs
 | .ex c fs,v=>∃ a C,v = .ref a /\ nN K cls S H c fs a C
 | _,_=>True
noncomputable def mm (K:PySem.W.Frag) (B S H:Hp):RV -> V -> Prop
 | .sh x,v=>Rep K S x v
 | .fr xs,v=>∃ p vs,v = .ref p /\ B p = none /\ S p = none /\ H p = some (.lst vs) /\ bR K S xs vs
 | .al xs,v=>∃ p vs,v = .ref p /\ SqL K H p vs /\ bR K S xs vs
noncomputable def RdV (K:PySem.W.Frag) (S H:Hp):PV -> V -> Prop
 | .lst xs,v=>∃ p vs,v = .ref p /\ SqL K H p vs /\ bR K S xs vs
 | x,v=>Rep K S x v
structure SRF (K:PySem.W.Frag) (cls:String -> Option Addr) (Av G S₀:Hp) (ρ:ag) (σ:St) (S H:Hp) (F:Nat -> List Addr):Prop where
 gh:aJ G H
 s0:aJ S₀ S
 sh:aJ S H
 new:∀ b,S b ≠ none -> S₀ b ≠ none \/ G b = none
 own:∀ (i:Nat) (s:Sl),ρ[i]? = some (some s) -> ∃ v,σ[i]? = some (some v) /\ rM K cls Av G S H i s v (F i)
 apart:∀ i j a,a ∈ F i -> a ∈ F j -> i = j
 live:∀ i a,a ∈ F i -> (∃ o,H a = some o /\ isX o = false) /\ G a = none /\ S a = none
 len:ρ.length = σ.length
noncomputable def SR (K:PySem.W.Frag) (cls:String -> Option Addr) (Av G S₀:Hp) (ρ:ag) (σ:St) (S H:Hp):Prop:=∃ F,SRF K cls Av G S₀ ρ σ S H F
section
variable {K:PySem.W.Frag} {cls:String -> Option Addr} {Av G S₀ S S' H H' B:Hp} {ρ:ag} {σ:St} {F:Nat -> List Addr}
theorem SR.gh (I:SR K cls Av G S₀ ρ σ S H):aJ G H:=let ⟨_,J⟩:=I; J.gh
theorem SR.s0 (I:SR K cls Av G S₀ ρ σ S H):aJ S₀ S:=let ⟨_,J⟩:=I; J.s0
theorem SR.sh (I:SR K cls Av G S₀ ρ σ S H):aJ S H:=let ⟨_,J⟩:=I; J.sh
theorem SR.new (I:SR K cls Av G S₀ ρ σ S H):∀ b,S b ≠ none -> S₀ b ≠ none \/ G b = none:=let ⟨_,J⟩:=I; J.new
theorem SR.len (I:SR K cls Av G S₀ ρ σ S H):ρ.length = σ.length:=let ⟨_,J⟩:=I; J.len
theorem rM.one {i:Nat} {s:Sl} {v:V} {fp:List Addr} (h:rM K cls Av G S H i s v fp):FV K cls G S H s v:=by
 cases s with
 | sh x=>exact h.2
 | ow xs=>obtain ⟨p,vs,e,_,r⟩:=h; exact ⟨p,vs,e,r⟩
 | ex c fs=>exact h.2
 | tr io t=>trivial
 | bo t=>trivial
theorem SR.good (I:SR K cls Av G S₀ ρ σ S H) (i:Nat) (s:Sl) (e:ρ[i]? = some (some s)):∃ v,σ[i]? = some (some v) /\ FV K cls G S H s v:=by
 obtain ⟨F,J⟩:=I
 obtain ⟨v,e1,r⟩:=J.own i s e
 exact ⟨v,e1,r.one⟩
theorem nN.mono {c:String} {fs:XF} {a C:Addr} (h:nN K cls S H c fs a C) (s:aJ S S') (g:aJ H H'):nN K cls S' H' c fs a C:=by
 obtain ⟨h1,dx,h2,h3⟩:=h
 refine ⟨h1,dx,g _ _ h2,?_⟩
 rcases h3 with h3 | ⟨d,us,e1,e2,e3,e4⟩
 . exact .inl h3
 . exact .inr ⟨d,us,e1,g _ _ e2,e3,e4.mono s⟩
theorem nN.Jn {c:String} {fs:XF} {a C:Addr} (h:nN K cls S H c fs a C) (s:aJ S S') (g:∀ b o,isX o = true -> H b = some o -> H' b = some o):nN K cls S' H' c fs a C:=by
 obtain ⟨h1,dx,h2,h3⟩:=h
 refine ⟨h1,dx,g _ _ rfl h2,?_⟩
 rcases h3 with h3 | ⟨d,us,e1,e2,e3,e4⟩
 . exact .inl h3
 . exact .inr ⟨d,us,e1,g _ _ rfl e2,e3,e4.mono s⟩
mutual
theorem bH.mono (s:aJ S S'):∀ {t:OV} {v:V} {fp:List Addr},bH K cls S H t v fp -> (∀ a ∈ fp,∀ o,H a = some o -> H' a = some o) -> bH K cls S' H' t v fp
 | .sh _,_,_,h,_=>by unfold bH at h ⊢; exact ⟨h.1,Rep.mono s h.2⟩
 | .ol _,_,_,h,g=>by
   unfold bH at h ⊢
   obtain ⟨p,vs,f,e,q,e2,r⟩:=h
   subst e2
   exact ⟨p,vs,f,e,g p (by simp) _ q,rfl,bP.mono s r fun a ha=>g a (by simp [ha])⟩
 | .ob _ _ _,_,_,h,g=>by
   unfold bH at h ⊢
   obtain ⟨p,C,dx,us,f,e,c,q,q2,k,e2,r⟩:=h
   subst e2
   exact ⟨p,C,dx,us,f,e,c,g p (by simp) _ q,g dx (by simp) _ q2,k,rfl,bP.mono s r fun a ha=>g a (by simp [ha])⟩
 | .di _,_,_,h,g=>by
   unfold bH at h ⊢
   obtain ⟨p,us,e,q,e2,r⟩:=h
   subst e2
   exact ⟨p,us,e,g p (by simp) _ q,rfl,r.mono s⟩
 | .dt _,_,_,h,g=>by
   unfold bH at h ⊢
   obtain ⟨p,us,e,q,e2,r⟩:=h
   subst e2
   exact ⟨p,us,e,g p (by simp) _ q,rfl,r.mono s⟩
theorem bP.mono (s:aJ S S'):∀ {ts:List OV} {vs:List V} {fp:List Addr},bP K cls S H ts vs fp -> (∀ a ∈ fp,∀ o,H a = some o -> H' a = some o) -> bP K cls S' H' ts vs fp
 | [],_,_,h,_=>by unfold bP at h ⊢; exact h
 | _ ::_,_,_,h,g=>by
   unfold bP at h ⊢
   obtain ⟨v,r,f1,f2,e,e2,q,t⟩:=h
   subst e2
   exact ⟨v,r,f1,f2,e,rfl,bH.mono s q fun a ha=>g a (List.mem_append_left _ ha),bP.mono s t fun a ha=>g a (List.mem_append_right _ ha)⟩
end
mutual
theorem bH.live:∀ {t:OV} {v:V} {fp:List Addr},bH K cls S H t v fp -> ∀ a ∈ fp,∃ o,H a = some o /\ isX o = false
 | .sh _,_,_,h,a,ha=>by unfold bH at h; rw [h.1] at ha; cases ha
 | .ol _,_,_,h,a,ha=>by
   unfold bH at h
   obtain ⟨p,vs,f,e,q,e2,r⟩:=h
   subst e2
   rcases List.mem_cons.mp ha with z | z
   . subst z; exact ⟨_,q,rfl⟩
   . exact bP.live r a z
 | .ob _ _ _,_,_,h,a,ha=>by
   unfold bH at h
   obtain ⟨p,C,dx,us,f,e,c,q,q2,k,e2,r⟩:=h
   subst e2
   rcases List.mem_cons.mp ha with z | z
   . subst z; exact ⟨_,q,rfl⟩
   . rcases List.mem_cons.mp z with z | z
     . subst z; exact ⟨_,q2,rfl⟩
     . exact bP.live r a z
 | .di _,_,_,h,a,ha=>by
   unfold bH at h
   obtain ⟨p,us,e,q,e2,r⟩:=h
   subst e2
   have z:a = p:=by simpa using ha
   subst z
   exact ⟨_,q,rfl⟩
 | .dt _,_,_,h,a,ha=>by
   unfold bH at h
   obtain ⟨p,us,e,q,e2,r⟩:=h
   subst e2
   have z:a = p:=by simpa using ha
   subst z
   exact ⟨_,q,rfl⟩
theorem bP.live:∀ {ts:List OV} {vs:List V} {fp:List Addr},bP K cls S H ts vs fp -> ∀ a ∈ fp,∃ o,H a = some o /\ isX o = false
 | [],_,_,h,a,ha=>by unfold bP at h; rw [h.2] at ha; cases ha
 | _ ::_,_,_,h,a,ha=>by
   unfold bP at h
   obtain ⟨v,r,f1,f2,e,e2,q,t⟩:=h
   subst e2
   rcases List.mem_append.mp ha with z | z
   . exact bH.live q a z
   . exact bP.live t a z
end
theorem rM.mono {i:Nat} {sl:Sl} {v:V} {fp:List Addr} (h:rM K cls Av G S H i sl v fp) (s:aJ S S') (g:∀ a ∈ fp,∀ o,H a = some o -> H' a = some o) (x:∀ b o,isX o = true -> H b = some o -> H' b = some o) (n:∀ a ∈ fp,S' a = none):rM K cls Av G S' H' i sl v fp:=by
 cases sl with
 | sh y=>exact ⟨h.1,Rep.mono s h.2⟩
 | ow xs=>
   obtain ⟨p,vs,e,e2,h1,h2,h3,h4⟩:=h
   subst e2
   exact ⟨p,vs,e,rfl,h1,n p (by simp),g p (by simp) _ h3,h4.mono s⟩
 | ex c fs=>obtain ⟨e,a,C,e2,q⟩:=h; exact ⟨e,a,C,e2,q.Jn s x⟩
 | tr io t=>exact ⟨h.1.mono s g,h.2.1,fun a ha=>⟨(h.2.2.1 a ha).1,n a ha⟩,h.2.2.2⟩
 | bo t=>obtain ⟨e,f,r⟩:=h; exact ⟨e,f,r.mono s fun _ _ _ z=>z⟩
theorem RdV.mono {x:PV} {v:V} (h:RdV K S H x v) (s:aJ S S') (g:aJ H H'):RdV K S' H' x v:=by
 cases x with
 | lst xs=>obtain ⟨p,vs,e,q,r⟩:=h; exact ⟨p,vs,e,aJ.seq g q,r.mono s⟩
 | non=>exact Rep.mono s h
 | bl b=>exact Rep.mono s h
 | int i=>exact Rep.mono s h
 | str x=>exact Rep.mono s h
 | tup xs=>exact Rep.mono s h
theorem Rep.rd {x:PV} {v:V} (h:Rep K S x v) (g:aJ S H):RdV K S H x v:=by
 cases x with
 | lst xs=>unfold Rep at h; obtain ⟨p,vs,e,q,r⟩:=h; exact ⟨p,vs,e,aJ.seq g q,r⟩
 | non=>exact h
 | bl b=>exact h
 | int i=>exact h
 | str x=>exact h
 | tup xs=>exact h
theorem mm.rd {r:RV} {v:V} (h:mm K B S H r v) (g:aJ S H):RdV K S H r.pv v:=by
 cases r with
 | sh x=>exact Rep.rd h g
 | fr xs=>obtain ⟨p,vs,e,_,_,q,r⟩:=h; exact ⟨p,vs,e,SqL.new q,r⟩
 | al xs=>exact h
theorem SRF.change (I:SRF K cls Av G S₀ ρ σ S H F) (gh:aJ G H') (s:aJ S S') (sh:aJ S' H') (new:∀ b,S' b ≠ none -> S₀ b ≠ none \/ G b = none)
  (g:∀ i a,a ∈ F i -> ∀ o,H a = some o -> H' a = some o) (x:∀ b o,isX o = true -> H b = some o -> H' b = some o) (n:∀ i a,a ∈ F i -> S' a = none):SRF K cls Av G S₀ ρ σ S' H' F where
 gh:=gh
 s0:=I.s0.trans s
 sh:=sh
 new:=new
 own:=fun i t e=>by
  obtain ⟨v,e1,r⟩:=I.own i t e
  exact ⟨v,e1,r.mono s (fun a ha=>g i a ha) x fun a ha=>n i a ha⟩
 apart:=I.apart
 live:=fun i a ha=>by
  obtain ⟨⟨o,h1,h2⟩,h3,_⟩:=I.live i a ha
  exact ⟨⟨o,g i a ha o h1,h2⟩,h3,n i a ha⟩
 len:=I.len
theorem SRF.same (I:SRF K cls Av G S₀ ρ σ S H F) (g:aJ H H'):SRF K cls Av G S₀ ρ σ S H' F:=
 I.change (I.gh.trans g) (aJ.refl _) (I.sh.trans g) I.new (fun _ _ _ o e=>g _ _ e) (fun _ _ _ e=>g _ _ e) fun i a ha=>(I.live i a ha).2.2
theorem SR.same (I:SR K cls Av G S₀ ρ σ S H) (g:aJ H H'):SR K cls Av G S₀ ρ σ S H':=let ⟨F,J⟩:=I; ⟨F,J.same g⟩
theorem set_inv {α:Type} {l:List (Option α)} {i j:Nat} {x:Option α} {s:α} (h:(l.set i x)[j]? = some (some s)):(j = i /\ x = some s /\ i < l.length) \/ (j ≠ i /\ l[j]? = some (some s)):=by
 by_cases e:j = i
 . subst e
   rw [List.getElem?_set] at h
   simp only [if_true] at h
   split at h
   . rename_i hl
     exact .inl ⟨rfl,Option.some.inj h,hl⟩
   . cases h
 . rw [List.getElem?_set_ne (Ne.symm e)] at h
   exact .inr ⟨e,h⟩
theorem Hx {α:Type} {l:List (Option α)} {i:Nat} {x:Option α} (h:i < l.length):(l.set i x)[i]? = some x:=by
 rw [List.getElem?_set]; simp [h]
noncomputable def oR (F:Nat -> List Addr) (i:Nat) (fp:List Addr):Nat -> List Addr:=fun j=>if j = i then fp else F j
theorem j9 {i:Nat} {fp:List Addr}:oR F i fp i = fp:=by unfold oR; rw [if_pos rfl]
theorem gA {i j:Nat} {fp:List Addr} (h:j ≠ i):oR F i fp j = F j:=by unfold oR; rw [if_neg h]
theorem SRF.put {i:Nat} {s:Option Sl} {u:Option V} {fp:List Addr} (I:SRF K cls Av G S₀ ρ σ S H F) (h:∀ t,s = some t -> ∃ v,u = some v /\ rM K cls Av G S H i t v fp)
  (hl:∀ a ∈ fp,(∃ o,H a = some o /\ isX o = false) /\ G a = none /\ S a = none) (ap:∀ j a,j ≠ i -> a ∈ fp -> a ∉ F j):SRF K cls Av G S₀ (ρ.set i s) (σ.set i u) S H (oR F i fp) where
 gh:=I.gh
 s0:=I.s0
 sh:=I.sh
 new:=I.new
 own:=fun j t e=>by
  rcases set_inv e with ⟨rfl,e1,hl⟩ | ⟨ne,e1⟩
  . obtain ⟨v,e2,r⟩:=h t e1
    exact ⟨v,by rw [Hx (by rw [<- I.len]; exact hl),e2],by rw [j9]; exact r⟩
  . rw [List.getElem?_set_ne (Ne.symm ne),gA ne]
    exact I.own j t e1
 apart:=fun j k a h1 h2=>by
  by_cases ej:j = i
  . by_cases ek:k = i
    . rw [ej,ek]
    . subst ej; rw [j9] at h1; rw [gA ek] at h2; exact absurd h2 (ap k a ek h1)
  . by_cases ek:k = i
    . subst ek; rw [j9] at h2; rw [gA ej] at h1; exact absurd h1 (ap j a ej h2)
    . rw [gA ej] at h1; rw [gA ek] at h2; exact I.apart j k a h1 h2
 live:=fun j a ha=>by
  by_cases ej:j = i
  . subst ej; rw [j9] at ha; exact hl a ha
  . rw [gA ej] at ha; exact I.live j a ha
 len:=by simp [I.len]
theorem SR.wZ {i:Nat} {x:PV} {v:V} (I:SR K cls Av G S₀ ρ σ S H) (h:Rep K S x v):SR K cls Av G S₀ (ρ.set i (some (.sh x))) (σ.set i (some v)) S H:=by
 obtain ⟨F,J⟩:=I
 exact ⟨_,J.put (fp:=[]) (fun t e=>by cases e; exact ⟨v,rfl,rfl,h⟩) (fun a ha=>nomatch ha) fun j a _ ha=>nomatch ha⟩
theorem SR.zT {i:Nat} {v:Option V} (I:SR K cls Av G S₀ ρ σ S H):SR K cls Av G S₀ (ρ.set i none) (σ.set i v) S H:=by
 obtain ⟨F,J⟩:=I
 exact ⟨_,J.put (fp:=[]) (fun t e=>nomatch e) (fun a ha=>nomatch ha) fun j a _ ha=>nomatch ha⟩
theorem mq {α:Type} {l:List α} {i:Nat} {x:α} (h:l[i]? = some x):l.set i x = l:=by
 apply List.ext_getElem?
 intro j
 by_cases e:i = j
 . subst e; rw [List.getElem?_set,if_pos rfl,if_pos (List.getElem?_eq_some_iff.mp h).1,h]
 . rw [List.getElem?_set_ne e]
theorem SR.drop {i:Nat} (I:SR K cls Av G S₀ ρ σ S H):SR K cls Av G S₀ (ρ.set i none) σ S H:=by
 cases e:σ[i]? with
 | some v=>have:=I.zT (i:=i) (v:=v); rwa [mq e] at this
 | none=>
   have h1:σ.length <= i:=List.getElem?_eq_none_iff.mp e
   rw [List.set_eq_of_length_le (by rw [I.len]; exact h1)]
   exact I
theorem SR.I0 {i:Nat} {c:String} {fs:XF} {a C:Addr} (I:SR K cls Av G S₀ ρ σ S H) (h:nN K cls S H c fs a C):SR K cls Av G S₀ (ρ.set i (some (.ex c fs))) (σ.set i (some (.ref a))) S H:=by
 obtain ⟨F,J⟩:=I
 exact ⟨_,J.put (fp:=[]) (fun t e=>by cases e; exact ⟨.ref a,rfl,rfl,a,C,rfl,h⟩) (fun a ha=>nomatch ha) fun j a _ ha=>nomatch ha⟩
theorem SR.mut {i:Nat} {xs ys:List PV} {p:Addr} {us:List V} (I:SR K cls Av G S₀ ρ σ S H) (hi:ρ[i]? = some (some (.ow xs))) (hv:σ[i]? = some (some (.ref p))) (hr:bR K S ys us):SR K cls Av G S₀ (ρ.set i (some (.ow ys))) σ S (upd H p (.lst us)):=by
 obtain ⟨F,J⟩:=I
 obtain ⟨v,e1,q,vs,e2,e3,hG,hS,hH,_⟩:=J.own i _ hi
 rw [hv] at e1
 cases e1
 cases e2
 have J1:SRF K cls Av G S₀ (ρ.set i none) (σ.set i none) S H (oR F i []):=J.put (fun t e=>nomatch e) (fun a ha=>nomatch ha) fun j a _ ha=>nomatch ha
 have off:∀ j a,a ∈ oR F i [] j -> a ≠ p:=fun j a ha z=>by
  by_cases ej:j = i
  . subst ej; rw [j9] at ha; cases ha
  . rw [gA ej] at ha
    exact ej (J.apart j i a ha (by rw [e3,z]; simp))
 have J2:=J1.change (H':=upd H p (.lst us)) (J.gh.upd hG) (aJ.refl _) (J.sh.upd hS) J.new (fun j a ha o h=>by rw [ba (off j a ha)]; exact h)
  (fun b o hx h=>by
    rw [ba]
    . exact h
    . intro z; rw [z,hH] at h; cases h; cases hx)
  fun j a ha=>(J1.live j a ha).2.2
 have J3:=J2.put (i:=i) (s:=some (.ow ys)) (u:=some (.ref p)) (fp:=[p]) (fun t e=>by cases e; exact ⟨_,rfl,p,us,rfl,rfl,hG,hS,bb,hr⟩) (fun a ha=>by
  have z:a = p:=by simpa using ha
  subst z
  exact ⟨⟨_,bb,rfl⟩,hG,hS⟩) fun j a hj ha hz=>by
   have z:a = p:=by simpa using ha
   exact off j a hz z
 rw [List.set_set,List.set_set,mq hv] at J3
 exact ⟨_,J3⟩
theorem SR.Jg {i:Nat} {xs:List PV} (I:SR K cls Av G S₀ ρ σ S H) (hi:ρ[i]? = some (some (.ow xs))):∃ S',aJ S S' /\ SR K cls Av G S₀ (ρ.set i (some (.sh (.lst xs)))) σ S' H:=by
 obtain ⟨F,J⟩:=I
 obtain ⟨v,hv,p,vs,e2,e3,hG,hS,hH,hr⟩:=J.own i _ hi
 subst e2
 have J1:SRF K cls Av G S₀ (ρ.set i none) (σ.set i none) S H (oR F i []):=J.put (fun t e=>nomatch e) (fun a ha=>nomatch ha) fun j a _ ha=>nomatch ha
 have off:∀ j a,a ∈ oR F i [] j -> a ≠ p:=fun j a ha z=>by
  by_cases ej:j = i
  . subst ej; rw [j9] at ha; cases ha
  . rw [gA ej] at ha
    exact ej (J.apart j i a ha (by rw [e3,z]; simp))
 have J2:=J1.change (S':=upd S p (.lst vs)) (H':=H) J.gh (aJ.new hS) (fun b u h=>by
   by_cases e:b = p
   . subst e; rw [bb] at h; cases h; exact hH
   . rw [ba e] at h; exact J.sh b u h) (fun b h=>by
   by_cases e:b = p
   . subst e; exact .inr hG
   . rw [ba e] at h; exact J.new b h) (fun _ _ _ _ h=>h) (fun _ _ _ h=>h) fun j a ha=>by
     rw [ba (off j a ha)]; exact (J1.live j a ha).2.2
 have J3:=J2.put (i:=i) (s:=some (.sh (.lst xs))) (u:=some (.ref p)) (fp:=[]) (fun t e=>by
  cases e
  refine ⟨_,rfl,rfl,?_⟩
  unfold Rep
  exact ⟨p,vs,rfl,SqL.new bb,hr.mono (aJ.new hS)⟩) (fun a ha=>nomatch ha) fun j a _ ha=>nomatch ha
 rw [List.set_set,List.set_set,mq hv] at J3
 exact ⟨_,aJ.new hS,_,J3⟩
end
end L2.P
namespace L2.P
open PySem PySem.Spec PyProof.Rows L2 L2.E
structure bz (S H S' H':Hp):Prop where
 s:aJ S S'
 g:aJ H H'
 sh:aJ S' H'
 new:∀ b,S' b ≠ none -> S b ≠ none \/ H b = none
theorem bz.refl {S H:Hp} (h:aJ S H):bz S H S H:=⟨aJ.refl _,aJ.refl _,h,fun _ z=>.inl z⟩
theorem bz.trans {S H S1 H1 S2 H2:Hp} (a:bz S H S1 H1) (b:bz S1 H1 S2 H2):bz S H S2 H2:=
 ⟨a.s.trans b.s,a.g.trans b.g,b.sh,fun x h=>by
   rcases b.new x h with z | z
   . exact a.new x z
   . exact .inr (a.g.free z)⟩
theorem SRF.grow {K:PySem.W.Frag} {cls:String -> Option Addr} {Av G S₀ S S' H H':Hp} {ρ:ag} {σ:St} {F:Nat -> List Addr} (I:SRF K cls Av G S₀ ρ σ S H F) (w:bz S H S' H'):SRF K cls Av G S₀ ρ σ S' H' F:=
 I.change (I.gh.trans w.g) w.s w.sh (fun b h=>by
  rcases w.new b h with z | z
  . exact I.new b z
  . exact .inr (I.gh.free z)) (fun i a _ o h=>w.g _ _ h) (fun b o _ h=>w.g _ _ h) fun i a ha=>by
    obtain ⟨⟨o,h1,_⟩,_,h3⟩:=I.live i a ha
    cases q:S' a with
    | none=>rfl
    | some o=>
      rcases w.new a (by rw [q]; simp) with z | z
      . exact absurd h3 z
      . rw [h1] at z; cases z
theorem SR.grow {K:PySem.W.Frag} {cls:String -> Option Addr} {Av G S₀ S S' H H':Hp} {ρ:ag} {σ:St} (I:SR K cls Av G S₀ ρ σ S H) (w:bz S H S' H'):SR K cls Av G S₀ ρ σ S' H':=let ⟨F,J⟩:=I; ⟨F,J.grow w⟩
theorem SR.Ju {K:PySem.W.Frag} {cls:String -> Option Addr} {Av G S₀ S S' H H':Hp} {ρ:ag} {σ:St} {i:Nat} {xs:List PV} {v:V} (I:SR K cls Av G S₀ ρ σ S H) (w:bz S H S' H') (h:mm K H S' H' (.fr xs) v):SR K cls Av G S₀ (ρ.set i (some (.ow xs))) (σ.set i (some v)) S' H':=by
 obtain ⟨F,J⟩:=I
 obtain ⟨p,vs,rfl,hB,hS,hH,hr⟩:=h
 have hG:=J.gh.free hB
 refine ⟨_,(J.grow w).put (fp:=[p]) (fun t e=>by cases e; exact ⟨_,rfl,p,vs,rfl,rfl,hG,hS,hH,hr⟩) (fun a ha=>?_) fun j a _ ha hz=>?_⟩
 . have z:a = p:=by simpa using ha
   subst z
   exact ⟨⟨_,hH,rfl⟩,hG,hS⟩
 . have z:a = p:=by simpa using ha
   subst z
   obtain ⟨⟨o,h1,_⟩,_⟩:=J.live j a hz
   rw [hB] at h1; cases h1
theorem bz.heap {S H:Hp} {p:Addr} {o:HO} (h:aJ S H) (hp:H p = none):bz S H S (upd H p o):=⟨aJ.refl _,aJ.new hp,h.trans (aJ.new hp),fun _ z=>.inl z⟩
theorem bz.both {S H:Hp} {p:Addr} {o:HO} (h:aJ S H) (hp:H p = none):bz S H (upd S p o) (upd H p o):=by
 have hS:=h.free hp
 refine ⟨aJ.new hS,aJ.new hp,fun b u z=>?_,fun b z=>?_⟩
 . by_cases e:b = p
   . subst e; rw [bb] at z ⊢; exact z
   . rw [ba e] at z ⊢; exact h b u z
 . by_cases e:b = p
   . subst e; exact .inr hp
   . rw [ba e] at z; exact .inl z
section
variable (K:PySem.W.Frag) (cls:String -> Option Addr) (W:XW)
noncomputable def lr (σ:St) (S H:Hp) (Q:VK):OE -> Prop
 | .ok r=>∀ v S' H',bz S H S' H' -> mm K H S' H' r v -> Q v H'
 | .exc c fs=>∀ a C S' H',bz S H S' H' -> nN K cls S' H' c fs a C -> W (.ref C) (some a) σ H'
 | .bad=>False
noncomputable def rl (σ:St) (S H:Hp) (Q:Bool -> Hp -> Prop):OT -> Prop
 | .ok b=>∀ S' H',bz S H S' H' -> Q b H'
 | .exc c fs=>∀ a C S' H',bz S H S' H' -> nN K cls S' H' c fs a C -> W (.ref C) (some a) σ H'
 | .bad=>False
noncomputable def uV (σ:St) (S H:Hp) (Q:List V -> Hp -> Prop):OA -> Prop
 | .ok xs=>∀ vs S' H',bz S H S' H' -> bR K S' xs vs -> Q vs H'
 | .exc c fs=>∀ a C S' H',bz S H S' H' -> nN K cls S' H' c fs a C -> W (.ref C) (some a) σ H'
 | .bad=>False
noncomputable def jc (Av G S₀:Hp) (S:Hp) (D:Ends):OS -> Prop
 | .nx ρ=>∀ σ' S' H',SR K cls Av G S₀ ρ σ' S' H' -> aJ S S' -> D.nx σ' H'
 | .bk ρ=>∀ σ' S' H',SR K cls Av G S₀ ρ σ' S' H' -> aJ S S' -> D.bk σ' H'
 | .ct ρ=>∀ σ' S' H',SR K cls Av G S₀ ρ σ' S' H' -> aJ S S' -> D.ct σ' H'
 | .rt ρ r=>∀ v σ' S' H',SR K cls Av G S₀ ρ σ' S' H' -> aJ S S' -> mm K G S' H' r v -> D.rt v H'
 | .exc ρ c fs=>∀ a C σ' S' H',SR K cls Av G S₀ ρ σ' S' H' -> aJ S S' -> nN K cls S' H' c fs a C -> W (.ref C) (some a) σ' H'
 | .bad=>False
noncomputable def JE (te:TE) (m:ag -> OE):Prop:=∀ Av G S₀ ρ σ S H Q,SR K cls Av G S₀ ρ σ S H -> lr K cls W σ S H Q (m ρ) -> te σ H Q
noncomputable def JT (te:TT) (m:ag -> OT):Prop:=∀ Av G S₀ ρ σ S H Q,SR K cls Av G S₀ ρ σ S H -> rl K cls W σ S H Q (m ρ) -> te σ H Q
noncomputable def JA (te:TA) (m:ag -> OA):Prop:=∀ Av G S₀ ρ σ S H Q,SR K cls Av G S₀ ρ σ S H -> uV K cls W σ S H Q (m ρ) -> te σ H Q
noncomputable def JS (ts:TS) (m:ag -> OS):Prop:=∀ Av G S₀ ρ σ S H D,SR K cls Av G S₀ ρ σ S H -> jc K cls W Av G S₀ S D (m ρ) -> ts D σ H
end
section
variable {K:PySem.W.Frag} {cls:String -> Option Addr} {W:XW} {Av G S₀ S S' H H' B B':Hp} {ρ:ag} {σ:St} {Q:VK}
theorem mm.back {r:RV} {v:V} (h:mm K B' S H r v) (g:aJ B B'):mm K B S H r v:=by
 cases r with
 | sh x=>exact h
 | fr xs=>obtain ⟨p,vs,e,h1,h2⟩:=h; exact ⟨p,vs,e,g.free h1,h2⟩
 | al xs=>exact h
theorem lr.back {o:OE} {S1 H1:Hp} (w:bz S H S1 H1) (h:lr K cls W σ S H Q o):lr K cls W σ S1 H1 Q o:=by
 cases o with
 | ok r=>exact fun v S' H' w' r=>h v S' H' (w.trans w') (r.back w.g)
 | exc c fs=>exact fun a C S' H' w' r=>h a C S' H' (w.trans w') r
 | bad=>exact h
theorem rl.back {o:OT} {Q:Bool -> Hp -> Prop} {S1 H1:Hp} (w:bz S H S1 H1) (h:rl K cls W σ S H Q o):rl K cls W σ S1 H1 Q o:=by
 cases o with
 | ok r=>exact fun S' H' w'=>h S' H' (w.trans w')
 | exc c fs=>exact fun a C S' H' w' r=>h a C S' H' (w.trans w') r
 | bad=>exact h
theorem uV.back {o:OA} {Q:List V -> Hp -> Prop} {S1 H1:Hp} (w:bz S H S1 H1) (h:uV K cls W σ S H Q o):uV K cls W σ S1 H1 Q o:=by
 cases o with
 | ok r=>exact fun v S' H' w' r=>h v S' H' (w.trans w') r
 | exc c fs=>exact fun a C S' H' w' r=>h a C S' H' (w.trans w') r
 | bad=>exact h
theorem jc.back {o:OS} {D:Ends} {S1:Hp} (s:aJ S S1) (h:jc K cls W Av G S₀ S D o):jc K cls W Av G S₀ S1 D o:=by
 cases o with
 | nx ρ=>exact fun σ' S' H' I s'=>h σ' S' H' I (s.trans s')
 | bk ρ=>exact fun σ' S' H' I s'=>h σ' S' H' I (s.trans s')
 | ct ρ=>exact fun σ' S' H' I s'=>h σ' S' H' I (s.trans s')
 | rt ρ r=>exact fun v σ' S' H' I s'=>h v σ' S' H' I (s.trans s')
 | exc ρ c fs=>exact fun a C σ' S' H' I s'=>h a C σ' S' H' I (s.trans s')
 | bad=>exact h
theorem JE.go {te:TE} {m:ag -> OE} {f:RV -> OE} {Q':VK} (h:JE K cls W te m) (I:SR K cls Av G S₀ ρ σ S H) (p:lr K cls W σ S H Q ((m ρ).bind f))
  (k:∀ r v S1 H1,SR K cls Av G S₀ ρ σ S1 H1 -> bz S H S1 H1 -> mm K H S1 H1 r v -> lr K cls W σ S1 H1 Q (f r) -> Q' v H1):te σ H Q':=by
 refine h Av G S₀ ρ σ S H Q' I ?_
 cases e:m ρ with
 | ok r=>rw [e] at p; exact fun v S1 H1 w r1=>k r v S1 H1 (I.grow w) w r1 (p.back w)
 | exc c fs=>rw [e] at p; exact p
 | bad=>rw [e] at p; exact p
theorem JE.goT {te:TE} {m:ag -> OE} {f:RV -> OT} {Q':VK} {Q:Bool -> Hp -> Prop} (h:JE K cls W te m) (I:SR K cls Av G S₀ ρ σ S H) (p:rl K cls W σ S H Q ((m ρ).gJ f))
  (k:∀ r v S1 H1,SR K cls Av G S₀ ρ σ S1 H1 -> bz S H S1 H1 -> mm K H S1 H1 r v -> rl K cls W σ S1 H1 Q (f r) -> Q' v H1):te σ H Q':=by
 refine h Av G S₀ ρ σ S H Q' I ?_
 cases e:m ρ with
 | ok r=>rw [e] at p; exact fun v S1 H1 w r1=>k r v S1 H1 (I.grow w) w r1 (p.back w)
 | exc c fs=>rw [e] at p; exact p
 | bad=>rw [e] at p; exact p
theorem JE.goS {te:TE} {m:ag -> OE} {f:RV -> OS} {Q':VK} {D:Ends} (h:JE K cls W te m) (I:SR K cls Av G S₀ ρ σ S H) (p:jc K cls W Av G S₀ S D ((m ρ).bS ρ f))
  (k:∀ r v S1 H1,SR K cls Av G S₀ ρ σ S1 H1 -> bz S H S1 H1 -> mm K H S1 H1 r v -> jc K cls W Av G S₀ S1 D (f r) -> Q' v H1):te σ H Q':=by
 refine h Av G S₀ ρ σ S H Q' I ?_
 cases e:m ρ with
 | ok r=>rw [e] at p; exact fun v S1 H1 w r1=>k r v S1 H1 (I.grow w) w r1 (p.back w.s)
 | exc c fs=>rw [e] at p; exact fun a C S' H' w x=>p a C σ S' H' (I.grow w) w.s x
 | bad=>rw [e] at p; exact p
theorem JT.go {te:TT} {m:ag -> OT} {f:Bool -> OE} {Q':Bool -> Hp -> Prop} (h:JT K cls W te m) (I:SR K cls Av G S₀ ρ σ S H) (p:lr K cls W σ S H Q ((m ρ).bind f))
  (k:∀ b S1 H1,SR K cls Av G S₀ ρ σ S1 H1 -> bz S H S1 H1 -> lr K cls W σ S1 H1 Q (f b) -> Q' b H1):te σ H Q':=by
 refine h Av G S₀ ρ σ S H Q' I ?_
 cases e:m ρ with
 | ok r=>rw [e] at p; exact fun S1 H1 w=>k r S1 H1 (I.grow w) w (p.back w)
 | exc c fs=>rw [e] at p; exact p
 | bad=>rw [e] at p; exact p
theorem JT.goT {te:TT} {m:ag -> OT} {f:Bool -> OT} {Q Q':Bool -> Hp -> Prop} (h:JT K cls W te m) (I:SR K cls Av G S₀ ρ σ S H) (p:rl K cls W σ S H Q ((m ρ).gJ f))
  (k:∀ b S1 H1,SR K cls Av G S₀ ρ σ S1 H1 -> bz S H S1 H1 -> rl K cls W σ S1 H1 Q (f b) -> Q' b H1):te σ H Q':=by
 refine h Av G S₀ ρ σ S H Q' I ?_
 cases e:m ρ with
 | ok r=>rw [e] at p; exact fun S1 H1 w=>k r S1 H1 (I.grow w) w (p.back w)
 | exc c fs=>rw [e] at p; exact p
 | bad=>rw [e] at p; exact p
theorem JT.goS {te:TT} {m:ag -> OT} {f:Bool -> OS} {Q':Bool -> Hp -> Prop} {D:Ends} (h:JT K cls W te m) (I:SR K cls Av G S₀ ρ σ S H) (p:jc K cls W Av G S₀ S D ((m ρ).bS ρ f))
  (k:∀ b S1 H1,SR K cls Av G S₀ ρ σ S1 H1 -> bz S H S1 H1 -> jc K cls W Av G S₀ S1 D (f b) -> Q' b H1):te σ H Q':=by
 refine h Av G S₀ ρ σ S H Q' I ?_
 cases e:m ρ with
 | ok r=>rw [e] at p; exact fun S1 H1 w=>k r S1 H1 (I.grow w) w (p.back w.s)
 | exc c fs=>rw [e] at p; exact fun a C S' H' w x=>p a C σ S' H' (I.grow w) w.s x
 | bad=>rw [e] at p; exact p
theorem JA.go {te:TA} {m:ag -> OA} {f:List PV -> OE} {Q':List V -> Hp -> Prop} (h:JA K cls W te m) (I:SR K cls Av G S₀ ρ σ S H) (p:lr K cls W σ S H Q ((m ρ).bind f))
  (k:∀ xs vs S1 H1,SR K cls Av G S₀ ρ σ S1 H1 -> bz S H S1 H1 -> bR K S1 xs vs -> lr K cls W σ S1 H1 Q (f xs) -> Q' vs H1):te σ H Q':=by
 refine h Av G S₀ ρ σ S H Q' I ?_
 cases e:m ρ with
 | ok r=>rw [e] at p; exact fun v S1 H1 w r1=>k r v S1 H1 (I.grow w) w r1 (p.back w)
 | exc c fs=>rw [e] at p; exact p
 | bad=>rw [e] at p; exact p
theorem JA.goA {te:TA} {m:ag -> OA} {f:List PV -> OA} {Q Q':List V -> Hp -> Prop} (h:JA K cls W te m) (I:SR K cls Av G S₀ ρ σ S H) (p:uV K cls W σ S H Q ((m ρ).gq f))
  (k:∀ xs vs S1 H1,SR K cls Av G S₀ ρ σ S1 H1 -> bz S H S1 H1 -> bR K S1 xs vs -> uV K cls W σ S1 H1 Q (f xs) -> Q' vs H1):te σ H Q':=by
 refine h Av G S₀ ρ σ S H Q' I ?_
 cases e:m ρ with
 | ok r=>rw [e] at p; exact fun v S1 H1 w r1=>k r v S1 H1 (I.grow w) w r1 (p.back w)
 | exc c fs=>rw [e] at p; exact p
 | bad=>rw [e] at p; exact p
theorem JA.goS {te:TA} {m:ag -> OA} {f:List PV -> OS} {Q':List V -> Hp -> Prop} {D:Ends} (h:JA K cls W te m) (I:SR K cls Av G S₀ ρ σ S H) (p:jc K cls W Av G S₀ S D ((m ρ).bS ρ f))
  (k:∀ xs vs S1 H1,SR K cls Av G S₀ ρ σ S1 H1 -> bz S H S1 H1 -> bR K S1 xs vs -> jc K cls W Av G S₀ S1 D (f xs) -> Q' vs H1):te σ H Q':=by
 refine h Av G S₀ ρ σ S H Q' I ?_
 cases e:m ρ with
 | ok r=>rw [e] at p; exact fun v S1 H1 w r1=>k r v S1 H1 (I.grow w) w r1 (p.back w.s)
 | exc c fs=>rw [e] at p; exact fun a C S' H' w x=>p a C σ S' H' (I.grow w) w.s x
 | bad=>rw [e] at p; exact p
theorem ae {i:Nat}:JE K cls W (sU i) (au i):=by
 intro Av G S₀ ρ σ S H Q I p
 unfold au at p
 split at p
 . rename_i x e
   obtain ⟨v,e1,r⟩:=I.good i _ e
   exact ⟨v,e1,p v S H (bz.refl I.sh) r⟩
 . rename_i xs e
   obtain ⟨v,e1,a,vs,e2,_,_,h3,h4⟩:=I.good i _ e
   exact ⟨v,e1,p v S H (bz.refl I.sh) ⟨a,vs,e2,SqL.new h3,h4⟩⟩
 . exact p.elim
theorem vM {x:PV} {v:V} (h:∀ S,Rep K S x v):JE K cls W (tC v) (mC x):=fun Av G S₀ ρ σ S H Q I p=>p v S H (bz.refl I.sh) (h S)
theorem ah {n:Int}:JE K cls W (tC (.int n)) (mC (.int n)):=vM fun _=>by unfold Rep; rfl
theorem Ah {n:Bool}:JE K cls W (tC (.bl n)) (mC (.bl n)):=vM fun _=>by unfold Rep; rfl
theorem dk:JE K cls W (tC .non) (mC .non):=vM fun _=>by unfold Rep; rfl
theorem aP {n:Str}:JE K cls W (tC (.str n)) (mC (.str n)):=vM fun _=>by unfold Rep; rfl
theorem lP {p:Addr} {ns:List Int} (h:∀ S,SqT K S p (ns.map V.int)):JE K cls W (tC (.ref p)) (mC (.tup (ns.map .int))):=vM fun S=>by unfold Rep; exact ⟨p,_,rfl,h S,bR.ints⟩
noncomputable def JR (K:PySem.W.Frag) (r:R2) (g:PV -> PV -> Option RV):Prop:=∀ S H x y v u rr Q,aJ S H -> RdV K S H x v -> RdV K S H y u -> g x y = some rr ->
 (∀ z S' H',bz S H S' H' -> mm K H S' H' rr z -> Q z H') -> r v u H Q
theorem aw {r:R2} {g:PV -> PV -> Option RV} {ta tb:TE} {ma mb:ag -> OE} (hr:JR K r g) (ha:JE K cls W ta ma) (hb:JE K cls W tb mb):JE K cls W (tOp r ta tb) (mOp g ma mb):=by
 intro Av G S₀ ρ σ S H Q I p
 refine ha.go I p fun a v S1 H1 I1 w1 r1 p1=>hb.go I1 p1 fun b u S2 H2 I2 w2 r2 p2=>?_
 cases e:g a.pv b.pv with
 | none=>rw [e] at p2; exact p2.elim
 | some rr=>
   rw [e] at p2
   exact hr S2 H2 a.pv b.pv v u rr Q I2.sh ((r1.rd I1.sh).mono w2.s w2.g) (r2.rd I2.sh) e p2
theorem dJ {i:Int} {v:V} (h:RdV K S H (.int i) v):v = .int i:=by unfold RdV Rep at h; exact h
theorem nB {i:Bool} {v:V} (h:RdV K S H (.bl i) v):v = .bl i:=by unfold RdV Rep at h; exact h
theorem kS {i:Str} {v:V} (h:RdV K S H (.str i) v):v = .str i:=by unfold RdV Rep at h; exact h
theorem jH {v:V} (h:RdV K S H .non v):v = .non:=by unfold RdV Rep at h; exact h
theorem iw {xs:List PV} {v:V} (h:RdV K S H (.lst xs) v):∃ p vs,v = .ref p /\ SqL K H p vs /\ bR K S xs vs:=h
theorem mL {xs:List PV} {v:V} (h:RdV K S H (.tup xs) v):∃ p vs,v = .ref p /\ SqT K S p vs /\ bR K S xs vs:=by unfold RdV Rep at h; exact h
theorem CM {C:Int -> Int -> Prop} {c:Int -> Int -> Bool} {f:Int -> Int -> PV} {fv:Int -> Int -> V} (hc:∀ i j,c i j = true -> C i j) (hf:∀ S i j,Rep K S (f i j) (fv i j)):JR K (rI C fv) (gI c f):=by
 intro S H x y v u rr Q I hx hy e k
 unfold gI at e
 split at e
 . rename_i i j
   split at e
   . rename_i hcc
     cases e
     exact ⟨i,j,dJ hx,dJ hy,hc i j hcc,k _ S H (bz.refl I) (hf S i j)⟩
   . cases e
 . cases e
theorem qS {f:Int -> Int -> PV} {fv:Int -> Int -> V} (hf:∀ S i j,Rep K S (f i j) (fv i j)):JR K (rI0 fv) (gI (fun _ _=>true) f):=by
 intro S H x y v u rr Q I hx hy e k
 unfold gI at e
 split at e
 . rename_i i j
   simp only [if_true] at e
   cases e
   exact ⟨i,j,dJ hx,dJ hy,k _ S H (bz.refl I) (hf S i j)⟩
 . cases e
theorem cq:JR K (rI0 fun i j=>.int (i + j)) eL:=qS fun _ _ _=>by unfold Rep; rfl
theorem km:JR K (rI0 fun i j=>.int (i - j)) qt:=qS fun _ _ _=>by unfold Rep; rfl
theorem pD:JR K (rI Cg fun i j=>.int (i * j)) vB:=CM (fun i j h=>by simpa [Cg,Bool.or_eq_true,Bool.and_eq_true,decide_eq_true_eq] using h) fun _ _ _=>by unfold Rep; rfl
theorem ll:JR K (rI Gv fun i j=>.int (i / j)) uh:=CM (fun i j h=>by simpa [Gv,Bool.and_eq_true,decide_eq_true_eq] using h) fun _ _ _=>by unfold Rep; rfl
theorem fG:JR K (rI (fun _ j=>0 < j) fun i j=>.int (i % j)) kJ:=CM (fun i j h=>by simpa using h) fun _ _ _=>by unfold Rep; rfl
theorem jP:JR K (rI0 fun i j=>.bl (decide (i < j))) gLt:=qS fun _ _ _=>by unfold Rep; rfl
theorem kf:JR K (rI0 fun i j=>.bl (decide (i <= j))) gLe:=qS fun _ _ _=>by unfold Rep; rfl
theorem Js:JR K (rI0 fun i j=>.bl (decide (j < i))) gGt:=qS fun _ _ _=>by unfold Rep; rfl
theorem ze:JR K (rI0 fun i j=>.bl (decide (j <= i))) gGe:=qS fun _ _ _=>by unfold Rep; rfl
theorem BW {x y:PV} {v u:V} {b:Bool} (hx:RdV K S H x v) (hy:RdV K S H y u) (e:eqS x y = some b):HL v u = true /\ decide (v = u) = b:=by
 unfold eqS at e
 split at e
 all_goals first
  | (have h1:=jH hx; subst h1; have h2:=jH hy; subst h2; cases e; exact ⟨rfl,by simp⟩)
  | (have h1:=jH hx; subst h1; have h2:=dJ hy; subst h2; cases e; exact ⟨rfl,by simp⟩)
  | (have h1:=dJ hx; subst h1; have h2:=jH hy; subst h2; cases e; exact ⟨rfl,by simp⟩)
  | (have h1:=jH hx; subst h1; have h2:=nB hy; subst h2; cases e; exact ⟨rfl,by simp⟩)
  | (have h1:=nB hx; subst h1; have h2:=jH hy; subst h2; cases e; exact ⟨rfl,by simp⟩)
  | (have h1:=jH hx; subst h1; have h2:=kS hy; subst h2; cases e; exact ⟨rfl,by simp⟩)
  | (have h1:=kS hx; subst h1; have h2:=jH hy; subst h2; cases e; exact ⟨rfl,by simp⟩)
  | (have h1:=dJ hx; subst h1; have h2:=dJ hy; subst h2; cases e; exact ⟨rfl,by simp⟩)
  | (have h1:=nB hx; subst h1; have h2:=nB hy; subst h2; cases e; exact ⟨rfl,by simp⟩)
  | (have h1:=kS hx; subst h1; have h2:=kS hy; subst h2; cases e; exact ⟨rfl,by simp⟩)
  | (have h1:=dJ hx; subst h1; have h2:=kS hy; subst h2; cases e; exact ⟨rfl,by simp⟩)
  | (have h1:=kS hx; subst h1; have h2:=dJ hy; subst h2; cases e; exact ⟨rfl,by simp⟩)
  | (have h1:=nB hx; subst h1; have h2:=kS hy; subst h2; cases e; exact ⟨rfl,by simp⟩)
  | (have h1:=kS hx; subst h1; have h2:=nB hy; subst h2; cases e; exact ⟨rfl,by simp⟩)
  | cases e
theorem cj:JR K rEq gEq:=by
 intro S H x y v u rr Q I hx hy e k
 obtain ⟨b,e1,e2⟩:=Option.map_eq_some_iff.mp e
 obtain ⟨h1,h2⟩:=BW hx hy e1
 refine ⟨h1,k _ S H (bz.refl I) ?_⟩
 subst e2
 show Rep K S _ _
 unfold Rep; rw [h2]
theorem sO:JR K rNe gNe:=by
 intro S H x y v u rr Q I hx hy e k
 obtain ⟨b,e1,e2⟩:=Option.map_eq_some_iff.mp e
 obtain ⟨h1,h2⟩:=BW hx hy e1
 refine ⟨h1,k _ S H (bz.refl I) ?_⟩
 subst e2
 show Rep K S _ _
 unfold Rep; rw [h2]
end
end L2.P
namespace L2.P
open PySem PySem.Spec PyProof.Rows L2 L2.E
section
variable {K:PySem.W.Frag} {cls:String -> Option Addr} {W:XW} {Av G S₀ S S' H H' B B':Hp} {ρ:ag} {σ:St} {Q:VK}
theorem mm.share {S1 H1:Hp} {r:RV} {v:V} {x:PV} (h:mm K H S1 H1 r v) (w:bz S H S1 H1) (e:lS r = some x):∃ S2,bz S H S2 H1 /\ aJ S1 S2 /\ Rep K S2 x v:=by
 cases r with
 | sh y=>cases e; exact ⟨S1,w,aJ.refl _,h⟩
 | al xs=>cases e
 | fr xs=>
   cases e
   obtain ⟨p,vs,rfl,hB,hS,hH,hr⟩:=h
   refine ⟨upd S1 p (.lst vs),⟨w.s.trans (aJ.new hS),w.g,fun b u z=>?_,fun b z=>?_⟩,aJ.new hS,?_⟩
   . by_cases e:b = p
     . subst e; rw [bb] at z; cases z; exact hH
     . rw [ba e] at z; exact w.sh b u z
   . by_cases e:b = p
     . subst e; exact .inr hB
     . rw [ba e] at z; exact w.new b z
   . unfold Rep
     exact ⟨p,vs,rfl,SqL.new bb,hr.mono (aJ.new hS)⟩
theorem ax:JA K cls W m6 aN:=fun Av G S₀ ρ σ S H Q I p=>p [] S H (bz.refl I.sh) .nil
theorem af {te:TE} {t:TA} {me:ag -> OE} {mr:ag -> OA} (he:JE K cls W te me) (ht:JA K cls W t mr):JA K cls W (kG te t) (aj me mr):=by
 intro Av G S₀ ρ σ S H Q I p
 refine he Av G S₀ ρ σ S H _ I ?_
 unfold aj at p
 cases e:me ρ with
 | exc c fs=>rw [e] at p; exact p
 | bad=>rw [e] at p; exact p
 | ok r=>
   rw [e] at p
   intro v S1 H1 w1 r1
   simp only [OE.gq] at p
   cases es:lS r with
   | none=>rw [es] at p; exact p.elim
   | some x=>
     rw [es] at p
     obtain ⟨S2,w2,s2,rx⟩:=r1.share w1 es
     refine ht.goA (I.grow w2) (p.back w2) fun xs vs S3 H3 I3 w3 r3 p3=>?_
     exact p3 (v ::vs) S3 H3 (bz.refl I3.sh) (.cons (Rep.mono w3.s rx) r3)
theorem By:lim = sizeLine:=by decide
theorem br {t:TA} {ma:ag -> OA} (h:JA K cls W t ma):JE K cls W (Gs t) (cV ma):=by
 intro Av G S₀ ρ σ S H Q I p
 refine h.go I p fun xs vs S1 H1 I1 w1 r1 p1=>?_
 split at p1
 . rename_i hl
   refine ⟨by rw [r1.length]; exact hl,fun q hq=>p1 (.ref q) S1 _ (bz.heap I1.sh hq) ⟨q,vs,rfl,hq,I1.sh.free hq,bb,r1⟩⟩
 . exact p1.elim
theorem eB {t:TA} {ma:ag -> OA} (h:JA K cls W t ma):JE K cls W (Iq t) (jU ma):=by
 intro Av G S₀ ρ σ S H Q I p
 refine h.go I p fun xs vs S1 H1 I1 w1 r1 p1=>?_
 split at p1
 . rename_i hl
   refine ⟨by rw [r1.length]; exact hl,fun q hq=>p1 (.ref q) _ _ (bz.both I1.sh hq) ?_⟩
   show Rep K _ _ _
   unfold Rep
   exact ⟨q,vs,rfl,SqT.new bb,r1.mono (bz.both (o:=.tup vs) I1.sh hq).s⟩
 . exact p1.elim
noncomputable def Jx (K:PySem.W.Frag) (cls:String -> Option Addr) (S H:Hp) (Q:VK) (E:XK):OE -> Prop
 | .ok r=>∀ v S' H',bz S H S' H' -> mm K H S' H' r v -> Q v H'
 | .exc c fs=>∀ a C S' H',bz S H S' H' -> nN K cls S' H' c fs a C -> E (.ref C) (some a) H'
 | .bad=>False
noncomputable def spP (K:PySem.W.Frag) (cls:String -> Option Addr) (f:List PV -> OE):Sp:=fun vs H Q E=>∃ S xs,aJ S H /\ bR K S xs vs /\ Jx K cls S H Q E (f xs)
theorem aG {t:TA} {ma:ag -> OA} {f:List PV -> OE} (h:JA K cls W t ma):JE K cls W (tV (spP K cls f) [] W t) (bf f ma):=by
 intro Av G S₀ ρ σ S H Q I p
 refine h.go I p fun xs vs S1 H1 I1 w1 r1 p1=>?_
 show spP K cls f (vs ++ []) H1 Q _
 rw [List.append_nil]
 refine ⟨S1,xs,I1.sh,r1,?_⟩
 cases e:f xs with
 | ok r=>rw [e] at p1; exact p1
 | exc c fs=>rw [e] at p1; exact p1
 | bad=>rw [e] at p1; exact p1
noncomputable def JU (K:PySem.W.Frag) (r:List V -> Hp -> VK -> Prop) (g:PV -> Option RV):Prop:=∀ S H x v rr Q,aJ S H -> RdV K S H x v -> g x = some rr ->
 (∀ z S' H',bz S H S' H' -> mm K H S' H' rr z -> Q z H') -> r [v] H Q
theorem gc {r:List V -> Hp -> VK -> Prop} {g:PV -> Option RV} {ta:TE} {ma:ag -> OE} (hr:JU K r g) (ha:JE K cls W ta ma):JE K cls W (tCB r (kG ta m6)) (mUn g ma):=by
 intro Av G S₀ ρ σ S H Q I p
 refine ha.go I p fun a v S1 H1 I1 w1 r1 p1=>?_
 show r [v] H1 Q
 cases e:g a.pv with
 | none=>rw [e] at p1; exact p1.elim
 | some rr=>rw [e] at p1; exact hr S1 H1 a.pv v rr Q I1.sh (r1.rd I1.sh) e p1
theorem FI {r:V -> Hp -> VK -> Prop} {g:PV -> Option RV} {ta:TE} {ma:ag -> OE} (hr:JU K (fun vs H Q=>∃ v,vs = [v] /\ r v H Q) g) (ha:JE K cls W ta ma):JE K cls W (tUn r ta) (mUn g ma):=by
 intro Av G S₀ ρ σ S H Q I p
 refine ha.go I p fun a v S1 H1 I1 w1 r1 p1=>?_
 cases e:g a.pv with
 | none=>rw [e] at p1; exact p1.elim
 | some rr=>
   rw [e] at p1
   obtain ⟨u,e1,h⟩:=hr S1 H1 a.pv v rr Q I1.sh (r1.rd I1.sh) e p1
   cases e1
   exact h
theorem Bq:JU K (fun vs H Q=>∃ v,vs = [v] /\ rU (fun i=>.int (-i)) v H Q) B1:=by
 intro S H x v rr Q I hx e k
 cases x with
 | int i=>cases e; exact ⟨v,rfl,i,dJ hx,k _ S H (bz.refl I) (by show Rep K S _ _; unfold Rep; rfl)⟩
 | _=>cases e
theorem jh:JU K (fun xs H Q=>∃ p ys,xs = [.ref p] /\ (SqL K H p ys \/ SqT K H p ys) /\ Q (.int ys.length) H) ng:=by
 intro S H x v rr Q I hx e k
 cases x with
 | lst xs=>
   cases e
   obtain ⟨p,vs,rfl,hq,r⟩:=iw hx
   exact ⟨p,vs,rfl,.inl hq,k _ S H (bz.refl I) (by show Rep K S _ _; unfold Rep; rw [r.length])⟩
 | tup xs=>
   cases e
   obtain ⟨p,vs,rfl,hq,r⟩:=mL hx
   exact ⟨p,vs,rfl,.inr (aJ.tup I hq),k _ S H (bz.refl I) (by show Rep K S _ _; unfold Rep; rw [r.length])⟩
 | _=>cases e
theorem zU:JU K (fun xs H Q=>(∃ i,xs = [.int i] /\ Q (.int i) H) \/ ∃ k,xs = [.bl k] /\ Q (.int (if k then 1 else 0)) H) xj:=by
 intro S H x v rr Q I hx e k
 cases x with
 | int i=>cases e; exact .inl ⟨i,by rw [dJ hx],k _ S H (bz.refl I) (by show Rep K S _ _; unfold Rep; rfl)⟩
 | bl b=>cases e; exact .inr ⟨b,by rw [nB hx],k _ S H (bz.refl I) (by show Rep K S _ _; unfold Rep; rfl)⟩
 | _=>cases e
theorem y4:JU K (fun xs H Q=>∃ p ys,xs = [.ref p] /\ (SqL K H p ys \/ SqT K H p ys) /\ ∀ l,H l = none -> Q (.ref l) (upd H l (.lst ys))) r9:=by
 intro S H x v rr Q I hx e k
 cases x with
 | lst xs=>
   cases e
   obtain ⟨p,vs,rfl,hq,r⟩:=iw hx
   exact ⟨p,vs,rfl,.inl hq,fun l hl=>k _ S _ (bz.heap I hl) ⟨l,vs,rfl,hl,I.free hl,bb,r⟩⟩
 | tup xs=>
   cases e
   obtain ⟨p,vs,rfl,hq,r⟩:=mL hx
   exact ⟨p,vs,rfl,.inr (aJ.tup I hq),fun l hl=>k _ S _ (bz.heap I hl) ⟨l,vs,rfl,hl,I.free hl,bb,r⟩⟩
 | _=>cases e
theorem Ii {α:Type} (xs:List α) (i:Int):atP xs i = L2.atI xs i:=rfl
theorem bR.atI {xs:List PV} {vs:List V} {i:Int} {x:PV} (h:bR K S xs vs) (e:atP xs i = some x):∃ v,L2.atI vs i = some v /\ Rep K S x v:=by
 rw [Ii] at e
 unfold L2.atI at e ⊢
 rw [h.length]
 cases q:ixN xs.length i with
 | none=>rw [q] at e; cases e
 | some j=>rw [q] at e; exact h.get e
theorem eT:JR K (Jp K) jV:=by
 intro S H x y v u rr Q I hx hy e k
 unfold jV at e
 split at e
 . rename_i xs i
   obtain ⟨z,e1,e2⟩:=Option.map_eq_some_iff.mp e
   obtain ⟨p,vs,rfl,hq,r⟩:=iw hx
   obtain ⟨w,e3,rw'⟩:=r.atI e1
   subst e2
   exact ⟨p,vs,i,w,rfl,dJ hy,hq,e3,k _ S H (bz.refl I) rw'⟩
 . cases e
theorem iW:JR K (IW K) mY:=by
 intro S H x y v u rr Q I hx hy e k
 unfold mY at e
 split at e
 . rename_i xs i
   obtain ⟨z,e1,e2⟩:=Option.map_eq_some_iff.mp e
   obtain ⟨p,vs,rfl,hq,r⟩:=mL hx
   obtain ⟨w,e3,rw'⟩:=r.atI e1
   subst e2
   exact ⟨p,vs,i,w,rfl,dJ hy,aJ.tup I hq,e3,k _ S H (bz.refl I) rw'⟩
 . cases e
end
end L2.P
namespace L2.P
open PySem PySem.Spec PyProof.Rows L2 L2.E
section
variable {K:PySem.W.Frag} {cls:String -> Option Addr} {W:XW} {Av G S₀ S S' H H' B B':Hp} {ρ:ag} {σ:St} {Q:VK}
theorem iA:JR K (FK K) kL:=by
 intro S H x y v u rr Q I hx hy e k
 unfold kL at e
 split at e
 . rename_i xs ys
   split at e
   . rename_i hl
     cases e
     obtain ⟨p,vs,rfl,hq,r⟩:=iw hx
     obtain ⟨p2,vs2,rfl,hq2,r2⟩:=iw hy
     exact ⟨p,p2,vs,vs2,rfl,rfl,hq,hq2,by rw [r.length,r2.length]; exact hl,fun l hn=>k _ S _ (bz.heap I hn) ⟨l,_,rfl,hn,I.free hn,bb,r.append r2⟩⟩
   . cases e
 . cases e
theorem uv {xs:List PV} {ns:List Int} (h:qF xs = some ns):xs = ns.map .int:=by
 induction xs generalizing ns with
 | nil=>cases h; rfl
 | cons x xs ih=>
   cases x with
   | int i=>
     obtain ⟨ms,e1,e2⟩:=Option.map_eq_some_iff.mp h
     subst e2
     rw [ih e1]; rfl
   | _=>cases h
theorem zP {x y:PV} {v u:V} {b:Bool} (hx:RdV K S H x v) (hy:RdV K S H y u) (e:A4 x y = some b):
  ∃ (p q:Addr) (ns ms:List Int),v = .ref p /\ u = .ref q /\ SqL K H p (ns.map V.int) /\ SqL K H q (ms.map V.int) /\ b = decide (ns = ms):=by
 unfold A4 at e
 split at e
 . rename_i xs ys
   split at e
   . rename_i a b' e1 e2
     cases e
     obtain ⟨p,vs,rfl,hq,r⟩:=iw hx
     obtain ⟨p2,vs2,rfl,hq2,r2⟩:=iw hy
     rw [uv e1] at r
     rw [uv e2] at r2
     rw [r.xf] at hq
     rw [r2.xf] at hq2
     exact ⟨p,p2,a,b',rfl,rfl,hq,hq2,rfl⟩
   . cases e
 . cases e
theorem yM {A:Around} (hu:A.units + 64 < cLine):JR K (DK K A false) AA:=by
 intro S H x y v u rr Q I hx hy e k
 obtain ⟨b,e1,e2⟩:=Option.map_eq_some_iff.mp e
 obtain ⟨p,q,ns,ms,rfl,rfl,h1,h2,rfl⟩:=zP hx hy e1
 subst e2
 exact ⟨p,q,ns,ms,rfl,rfl,h1,h2,hu,k _ S H (bz.refl I) (by show Rep K S _ _; unfold Rep; simp)⟩
theorem Ga {A:Around} (hu:A.units + 64 < cLine):JR K (DK K A true) Gp:=by
 intro S H x y v u rr Q I hx hy e k
 obtain ⟨b,e1,e2⟩:=Option.map_eq_some_iff.mp e
 obtain ⟨p,q,ns,ms,rfl,rfl,h1,h2,rfl⟩:=zP hx hy e1
 subst e2
 exact ⟨p,q,ns,ms,rfl,rfl,h1,h2,hu,k _ S H (bz.refl I) (by show Rep K S _ _; unfold Rep; simp)⟩
theorem yt {xs:List PV} {vs:List V} {bs:List Bool} (h:oG xs = some bs) (r:bR K S xs vs):vs = bs.map V.bl:=by
 induction xs generalizing bs vs with
 | nil=>cases h; exact r.nil_inv
 | cons x xs ih=>
   cases x with
   | bl i=>
     obtain ⟨ms,e1,e2⟩:=Option.map_eq_some_iff.mp h
     subst e2
     obtain ⟨v,t,rfl,h1,h2⟩:=r.cons_inv
     unfold Rep at h1
     rw [ih e1 h2,h1]; rfl
   | _=>cases h
theorem Ca {A:Around} (hh:A.handled = none):JU K (fun xs H Q=>∃ (p:Addr) (bs:List Bool),xs = [.ref p] /\ SqL K H p (bs.map V.bl) /\ A.handled = none /\ Q (.bl (bs.all id)) H) AZ:=by
 intro S H x v rr Q I hx e k
 cases x with
 | lst xs=>
   obtain ⟨bs,e1,e2⟩:=Option.map_eq_some_iff.mp e
   obtain ⟨p,vs,rfl,hq,r⟩:=iw hx
   rw [yt e1 r] at hq
   subst e2
   exact ⟨p,bs,rfl,hq,hh,k _ S H (bz.refl I) (by show Rep K S _ _; unfold Rep; rfl)⟩
 | _=>cases e
theorem Ir {T:String} {x:PV} {v:V} {b:Bool} (s:aJ S H) (hx:RdV K S H x v) (e:isP T x = some b):IsV K T v H b:=by
 cases x with
 | int i=>
   have:=dJ hx; subst this
   simp only [isP] at e
   split at e
   . cases e; exact .inl ⟨by assumption,rfl⟩
   . split at e
     . rename_i h; cases e; rcases h with h | h | h | h
       . exact .inr (.inl ⟨h,rfl⟩)
       . exact .inr (.inr (.inl ⟨h,rfl⟩))
       . exact .inr (.inr (.inr (.inl ⟨h,rfl⟩)))
       . exact .inr (.inr (.inr (.inr ⟨h,rfl⟩)))
     . cases e
 | bl i=>
   have:=nB hx; subst this
   simp only [isP] at e
   split at e
   . rename_i h; cases e; rcases h with h | h
     . exact .inl ⟨h,rfl⟩
     . exact .inr (.inl ⟨h,rfl⟩)
   . split at e
     . rename_i h; cases e; rcases h with h | h | h
       . exact .inr (.inr (.inl ⟨h,rfl⟩))
       . exact .inr (.inr (.inr (.inl ⟨h,rfl⟩)))
       . exact .inr (.inr (.inr (.inr ⟨h,rfl⟩)))
     . cases e
 | non=>
   have:=jH hx; subst this
   simp only [isP] at e
   split at e
   . rename_i h; cases e; rcases h with h | h | h | h | h
     . exact .inl ⟨h,rfl⟩
     . exact .inr (.inl ⟨h,rfl⟩)
     . exact .inr (.inr (.inl ⟨h,rfl⟩))
     . exact .inr (.inr (.inr (.inl ⟨h,rfl⟩)))
     . exact .inr (.inr (.inr (.inr ⟨h,rfl⟩)))
   . cases e
 | str i=>
   have:=kS hx; subst this
   simp only [isP] at e
   split at e
   . cases e; exact .inr (.inr (.inr (.inr ⟨by assumption,rfl⟩)))
   . split at e
     . rename_i h; cases e; rcases h with h | h | h | h
       . exact .inl ⟨h,rfl⟩
       . exact .inr (.inl ⟨h,rfl⟩)
       . exact .inr (.inr (.inl ⟨h,rfl⟩))
       . exact .inr (.inr (.inr (.inl ⟨h,rfl⟩)))
     . cases e
 | lst xs=>
   obtain ⟨p,vs,rfl,hq,r⟩:=iw hx
   refine .inl ⟨⟨vs,hq⟩,?_⟩
   simp only [isP] at e
   split at e
   . cases e; exact .inr (.inr (.inl ⟨by assumption,rfl⟩))
   . split at e
     . rename_i h; cases e; rcases h with h | h | h | h
       . exact .inl ⟨h,rfl⟩
       . exact .inr (.inl ⟨h,rfl⟩)
       . exact .inr (.inr (.inr (.inl ⟨h,rfl⟩)))
       . exact .inr (.inr (.inr (.inr ⟨h,rfl⟩)))
     . cases e
 | tup xs=>
   obtain ⟨p,vs,rfl,hq,r⟩:=mL hx
   refine .inr ⟨⟨vs,aJ.tup s hq⟩,?_⟩
   simp only [isP] at e
   split at e
   . cases e; exact .inr (.inr (.inr (.inl ⟨by assumption,rfl⟩)))
   . split at e
     . rename_i h; cases e; rcases h with h | h | h | h
       . exact .inl ⟨h,rfl⟩
       . exact .inr (.inl ⟨h,rfl⟩)
       . exact .inr (.inr (.inl ⟨h,rfl⟩))
       . exact .inr (.inr (.inr (.inr ⟨h,rfl⟩)))
     . cases e
theorem vJ {T:String} {ta:TE} {ma:ag -> OE} (ha:JE K cls W ta ma):
  JE K cls W (tCB (fun xs H Q=>∃ x T b,xs = [x,.ty T] /\ IsV K T x H b /\ Q (.bl b) H) (kG ta (kG (tC (.ty T)) m6))) (mIs T ma):=by
 intro Av G S₀ ρ σ S H Q I p
 refine ha.go I p fun a v S1 H1 I1 w1 r1 p1=>?_
 show ∃ x T' b,[v,V.ty T] = [x,V.ty T'] /\ _
 dsimp only at p1
 cases e:isP T a.pv with
 | none=>rw [e] at p1; exact p1.elim
 | some b=>
   rw [e] at p1
   exact ⟨v,T,b,rfl,Ir I1.sh (r1.rd I1.sh) e,p1 _ S1 H1 (bz.refl I1.sh) (by show Rep K S1 _ _; unfold Rep; rfl)⟩
end
end L2.P
namespace L2.P
open PySem PySem.Spec PyProof.Rows L2 L2.E
section
variable {K:PySem.W.Frag} {cls:String -> Option Addr} {W:XW} {Av G S₀ S S' H H' B B':Hp} {ρ:ag} {σ:St} {Q:VK}
theorem pT {xs:List PV} {vs:List V} (h:bR K S xs vs):vs.isEmpty = xs.isEmpty:=by
 cases xs with
 | nil=>rw [h.nil_inv]; rfl
 | cons x xs=>obtain ⟨v,r,rfl,_⟩:=h.cons_inv; rfl
theorem zK {x:PV} {v:V} {b:Bool} (s:aJ S H) (hx:RdV K S H x v) (e:tE x = some b):yF K v H b:=by
 cases x with
 | non=>have:=jH hx; subst this; cases e; rfl
 | bl c=>have:=nB hx; subst this; cases e; rfl
 | int i=>have:=dJ hx; subst this; cases e; rfl
 | str z=>cases e
 | lst xs=>
   obtain ⟨p,vs,rfl,hq,r⟩:=iw hx
   cases e
   exact .inl ⟨vs,hq,by rw [pT r]⟩
 | tup xs=>
   obtain ⟨p,vs,rfl,hq,r⟩:=mL hx
   cases e
   exact .inr (.inl ⟨vs,aJ.tup s hq,by rw [pT r]⟩)
theorem gi {ta:TE} {ma:ag -> OE} (ha:JE K cls W ta ma):JT K cls W (fun σ H Q=>ta σ H fun x H'=>∃ k,yF K x H' k /\ Q k H') (jr ma):=by
 intro Av G S₀ ρ σ S H Q I p
 refine ha.goT I p fun r v S1 H1 I1 w1 r1 p1=>?_
 cases e:tE r.pv with
 | none=>rw [e] at p1; exact p1.elim
 | some b=>rw [e] at p1; exact ⟨b,zK I1.sh (r1.rd I1.sh) e,p1 S1 H1 (bz.refl I1.sh)⟩
theorem vO {r:RV} {b:Bool} {v:V} {S1 H1:Hp} (h:r.pv = .bl b) (r1:mm K H S1 H1 r v) (s:aJ S1 H1):v = .bl b:=by
 have:=r1.rd s
 rw [h] at this
 exact nB this
theorem az {ta:TE} {ma:ag -> OE} (ha:JE K cls W ta ma):JT K cls W (xQ ta) (aR ma):=by
 intro Av G S₀ ρ σ S H Q I p
 refine ha.goT I p fun r v S1 H1 I1 w1 r1 p1=>?_
 cases e:r.pv with
 | bl b=>rw [e] at p1; exact ⟨b,vO e r1 I1.sh,p1 S1 H1 (bz.refl I1.sh)⟩
 | _=>rw [e] at p1; exact p1.elim
theorem yA {ta:TT} {ma:ag -> OT} (ha:JT K cls W ta ma):JT K cls W (Du ta) (xv ma):=by
 intro Av G S₀ ρ σ S H Q I p
 exact ha.goT I p fun b S1 H1 I1 w1 p1=>p1 S1 H1 (bz.refl I1.sh)
theorem n8 {ta tb:TT} {ma mb:ag -> OT} (ha:JT K cls W ta ma) (hb:JT K cls W tb mb):JT K cls W (G9 ta tb) (nX ma mb):=by
 intro Av G S₀ ρ σ S H Q I p
 refine ha.goT I p fun b S1 H1 I1 w1 p1=>?_
 cases b with
 | true=>exact v9 (hb Av G S₀ ρ σ S1 H1 Q I1 p1)
 | false=>exact vR (p1 S1 H1 (bz.refl I1.sh))
theorem zL {ta tb:TT} {ma mb:ag -> OT} (ha:JT K cls W ta ma) (hb:JT K cls W tb mb):JT K cls W (tOr ta tb) (A7 ma mb):=by
 intro Av G S₀ ρ σ S H Q I p
 refine ha.goT I p fun b S1 H1 I1 w1 p1=>?_
 cases b with
 | false=>exact vR (hb Av G S₀ ρ σ S1 H1 Q I1 p1)
 | true=>exact v9 (p1 S1 H1 (bz.refl I1.sh))
theorem mZ {b:Bool}:mm K B S H (.sh (.bl b)) (.bl b):=by show Rep K S _ _; unfold Rep; rfl
theorem pK {ta tb:TE} {ma mb:ag -> OE} (ha:JE K cls W ta ma) (hb:JE K cls W tb mb):JE K cls W (BE ta tb) (qi ma mb):=by
 intro Av G S₀ ρ σ S H Q I p
 refine ha.go I p fun r v S1 H1 I1 w1 r1 p1=>?_
 cases e:r.pv with
 | bl b=>
   rw [e] at p1
   refine ⟨b,vO e r1 I1.sh,?_⟩
   cases b with
   | true=>exact v9 (hb Av G S₀ ρ σ S1 H1 Q I1 p1)
   | false=>exact vR (p1 _ S1 H1 (bz.refl I1.sh) mZ)
 | _=>rw [e] at p1; exact p1.elim
theorem GZ {ta:TE} {ma:ag -> OE} (ha:JE K cls W ta ma):JE K cls W (Co ta) (B6 ma):=by
 intro Av G S₀ ρ σ S H Q I p
 refine ha.go I p fun r v S1 H1 I1 w1 r1 p1=>?_
 cases e:r.pv with
 | bl b=>rw [e] at p1; exact ⟨b,vO e r1 I1.sh,p1 _ S1 H1 (bz.refl I1.sh) mZ⟩
 | _=>rw [e] at p1; exact p1.elim
theorem jQ {tc:TT} {ta tb:TE} {mc:ag -> OT} {ma mb:ag -> OE} (hc:JT K cls W tc mc) (ha:JE K cls W ta ma) (hb:JE K cls W tb mb):JE K cls W (tIf tc ta tb) (lZ mc ma mb):=by
 intro Av G S₀ ρ σ S H Q I p
 refine hc.go I p fun b S1 H1 I1 w1 p1=>?_
 cases b with
 | true=>exact v9 (ha Av G S₀ ρ σ S1 H1 Q I1 p1)
 | false=>exact vR (hb Av G S₀ ρ σ S1 H1 Q I1 p1)
theorem i5 {r r':R2} {g g':PV -> PV -> Option RV} {ta tb tc:TE} {ma mb mc:ag -> OE} (hr:JR K r g) (hr':JR K r' g') (ha:JE K cls W ta ma) (hb:JE K cls W tb mb) (hc:JE K cls W tc mc):
  JE K cls W (tS r r' ta tb tc) (kC g g' ma mb mc):=by
 intro Av G S₀ ρ σ S H Q I p
 refine ha.go I p fun a v S1 H1 I1 w1 r1 p1=>hb.go I1 p1 fun b u S2 H2 I2 w2 r2 p2=>?_
 cases e:g a.pv b.pv with
 | none=>rw [e] at p2; exact p2.elim
 | some rr=>
   rw [e] at p2
   refine hr S2 H2 a.pv b.pv v u rr _ I2.sh ((r1.rd I1.sh).mono w2.s w2.g) (r2.rd I2.sh) e fun z S3 H3 w3 r3=>?_
   have I3:=I2.grow w3
   simp only [oE,OE.bind] at p2
   cases e3:rr.pv with
   | bl k=>
     rw [e3] at p2
     have hz:=vO e3 r3 I3.sh
     refine ⟨k,hz,?_⟩
     cases k with
     | false=>exact vR (p2 _ S3 H3 w3 mZ)
     | true=>
       refine v9 (hc.go I3 (p2.back w3) fun c y S4 H4 I4 w4 r4 p4=>?_)
       cases e4:g' b.pv c.pv with
       | none=>rw [e4] at p4; exact p4.elim
       | some r'=>rw [e4] at p4; exact hr' S4 H4 b.pv c.pv u y r' Q I4.sh (((r2.rd I2.sh).mono w3.s w3.g).mono w4.s w4.g) (r4.rd I4.sh) e4 p4
   | _=>rw [e3] at p2; exact p2.elim
theorem ay {ta tb:TS} {ma mb:ag -> OS} (ha:JS K cls W ta ma) (hb:JS K cls W tb mb):JS K cls W (F5 ta tb) (aS ma mb):=by
 intro Av G S₀ ρ σ S H D I p
 refine ha Av G S₀ ρ σ S H _ I ?_
 unfold aS at p
 cases e:ma ρ with
 | nx ρ'=>rw [e] at p; exact fun σ' S' H' I' s'=>hb Av G S₀ ρ' σ' S' H' D I' (p.back s')
 | bk ρ'=>rw [e] at p; exact p
 | ct ρ'=>rw [e] at p; exact p
 | rt ρ' r=>rw [e] at p; exact p
 | exc ρ' c fs=>rw [e] at p; exact p
 | bad=>rw [e] at p; exact p
theorem aI:JS K cls W BO bt:=fun Av G S₀ ρ σ S H D I p=>p σ S H I (aJ.refl _)
theorem aZ {i:Nat} {te:TE} {me:ag -> OE} (he:JE K cls W te me):JS K cls W (ur te (lp i)) (cK i me):=by
 intro Av G S₀ ρ σ S H D I p
 refine he.goS I p fun r v S1 H1 I1 w1 r1 p1=>?_
 show D.nx (σ.set i (some v)) H1
 cases r with
 | sh x=>exact p1 _ S1 H1 (I1.wZ r1) (aJ.refl _)
 | fr xs=>exact p1 _ S1 H1 (I.Ju w1 r1) (aJ.refl _)
 | al xs=>exact p1.elim
theorem bp {tc:TT} {ta tb:TS} {mc:ag -> OT} {ma mb:ag -> OS} (hc:JT K cls W tc mc) (ha:JS K cls W ta ma) (hb:JS K cls W tb mb):JS K cls W (Eh tc ta tb) (cf mc ma mb):=by
 intro Av G S₀ ρ σ S H D I p
 refine hc.goS I p fun b S1 H1 I1 w1 p1=>?_
 cases b with
 | true=>exact v9 (ha Av G S₀ ρ σ S1 H1 D I1 p1)
 | false=>exact vR (hb Av G S₀ ρ σ S1 H1 D I1 p1)
theorem aD {te:TE} {me:ag -> OE} (he:JE K cls W te me):JS K cls W (Ej te) (bw me):=by
 intro Av G S₀ ρ σ S H D I p
 refine he.goS I p fun r v S1 H1 I1 w1 r1 p1=>?_
 cases r with
 | sh x=>exact p1 v σ S1 H1 I1 (aJ.refl _) r1
 | fr xs=>exact p1 v σ S1 H1 I1 (aJ.refl _) (r1.back I.gh)
 | al xs=>exact p1.elim
theorem gR {i:Nat}:JS K cls W (Ej (sU i)) (iS i):=by
 intro Av G S₀ ρ σ S H D I p
 unfold iS at p
 split at p
 . rename_i x e
   obtain ⟨v,e1,r⟩:=I.good i _ e
   exact ⟨v,e1,p v σ S H I (aJ.refl _) r⟩
 . rename_i xs e
   obtain ⟨v,e1,a,vs,e2,h1,h2,h3,h4⟩:=I.good i _ e
   exact ⟨v,e1,p v σ S H I.drop (aJ.refl _) ⟨a,vs,e2,h1,h2,h3,h4⟩⟩
 . exact p.elim
theorem zB {te:TE} {me:ag -> OE} (he:JE K cls W te me):JS K cls W (uy te) (zX me):=by
 intro Av G S₀ ρ σ S H D I p
 exact he.goS I p fun r v S1 H1 I1 w1 r1 p1=>p1 σ S1 H1 I1 (aJ.refl _)
theorem dw {i:Nat} {ts:TS} {m:ag -> OS} (h:JS K cls W ts m):JS K cls W ts (d0 i m):=by
 intro Av G S₀ ρ σ S H D I p
 unfold d0 kb at p
 split at p
 . rename_i xs e
   obtain ⟨S',s,J⟩:=I.Jg e
   exact h Av G S₀ _ σ S' H D J (p.back s)
 . exact h Av G S₀ ρ σ S H D I p
theorem oy {i:Nat} {te:TE} {me:ag -> OE} (he:JE K cls W te me):JS K cls W (uy (tBM K "list" vK (sU i) (kG te m6))) (mW i me):=by
 intro Av G S₀ ρ σ S H D I p
 unfold mW at p
 split at p
 . rename_i xs e
   obtain ⟨v,e1,a,vs,rfl,h1,h2,h3,h4⟩:=I.good i _ e
   refine ⟨_,e1,.inl ⟨rfl,_,SqL.new h3⟩,?_⟩
   refine he Av G S₀ ρ σ S H _ I ?_
   cases em:me ρ with
   | exc c fs=>rw [em] at p; exact fun a C S' H' w x=>p a C σ S' H' (I.grow w) w.s x
   | bad=>rw [em] at p; exact p
   | ok r=>
     rw [em] at p
     intro u S1 H1 w1 r1
     simp only [OE.bS] at p
     cases es:lS r with
     | none=>rw [es] at p; exact p.elim
     | some y=>
       rw [es] at p
       dsimp only at p
       split at p
       . rename_i hl
         obtain ⟨S2,w2,s2,rx⟩:=r1.share w1 es
         have I2:=I.grow w2
         refine ⟨a,vs,u,rfl,rfl,w2.g _ _ h3,by rw [h4.length]; exact hl,?_⟩
         exact p σ S2 _ (I2.mut e e1 ((h4.mono w2.s).append (.cons rx .nil))) w2.s
       . exact p.elim
 . exact p.elim
theorem uJ {i:Nat} {tb:TS} {mb:ag -> OS} {D:Ends} {x:PV} {xs:List PV} {v:V} {N:St -> Hp -> Prop} (hb:JS K cls W tb mb) (I:SR K cls Av G S₀ ρ σ S H) (hx:Rep K S x v)
  (p:jc K cls W Av G S₀ S D (kF i mb (x ::xs) ρ)) (hN:∀ ρ' σ' S' H',SR K cls Av G S₀ ρ' σ' S' H' -> aJ S S' -> jc K cls W Av G S₀ S' D (kF i mb xs ρ') -> N σ' H'):
  lp i v σ H fun σ2 H2=>tb { D with nx:=N,ct:=N,bk:=D.nx } σ2 H2:=by
 refine hb Av G S₀ _ _ S H _ (I.wZ hx) ?_
 rw [jm] at p
 cases e:mb (ρ.set i (some (.sh x))) with
 | nx ρ'=>rw [e] at p; exact fun σ' S' H' I' s'=>hN ρ' σ' S' H' I' s' (p.back s')
 | ct ρ'=>rw [e] at p; exact fun σ' S' H' I' s'=>hN ρ' σ' S' H' I' s' (p.back s')
 | bk ρ'=>rw [e] at p; exact p
 | rt ρ' r=>rw [e] at p; exact p
 | exc ρ' c fs=>rw [e] at p; exact p
 | bad=>rw [e] at p; exact p
theorem rZ {i:Nat} {tl:TE} {tb:TS} {ml:ag -> OE} {mb:ag -> OS} (hl:JE K cls W tl ml) (hb:JS K cls W tb mb):JS K cls W (Cj (xk K tl) (lp i) tb) (tq i ml mb):=by
 intro Av G S₀ ρ σ S H D I p
 refine hl Av G S₀ ρ σ S H _ I ?_
 unfold tq at p
 cases em:ml ρ with
 | exc c fs=>rw [em] at p; exact fun a C S' H' w x=>p a C σ S' H' (I.grow w) w.s x
 | bad=>rw [em] at p; exact p
 | ok r=>
   rw [em] at p
   intro v S1 H1 w1 r1
   simp only [OE.bS] at p
   cases ei:yI r with
   | none=>rw [ei] at p; exact p.elim
   | some xs=>
     rw [ei] at p
     have es:lS r = some (.lst xs):=by
      cases r with
      | sh y=>cases y <;> cases ei <;> rfl
      | fr ys=>cases ei; rfl
      | al ys=>cases ei
     obtain ⟨S2,w2,s2,rx⟩:=r1.share w1 es
     have I2:=I.grow w2
     unfold Rep at rx
     obtain ⟨a,vs,rfl,hq,hr⟩:=rx
     refine ⟨a,rfl,⟨vs,aJ.seq I2.sh hq⟩,?_⟩
     refine B5 (xs:=vs) (fun k σ' H'=>∃ ρ' S',SR K cls Av G S₀ ρ' σ' S' H' /\ aJ S2 S' /\ jc K cls W Av G S₀ S' D (kF i mb (xs.drop k) ρ'))
      ⟨ρ,S2,I2,aJ.refl _,p.back w2.s⟩ ?_ ?_ ?_
     . rintro k σ' H' _ ⟨ρ',S',I',s',_⟩
       exact aJ.seq (s'.trans I'.sh) hq
     . rintro k x σ' H' hx ⟨ρ',S',I',s',p'⟩
       obtain ⟨y,hy,ry⟩:=hr.Jj hx
       have hd:xs.drop k = y ::xs.drop (k + 1):=by
        have hk:k < xs.length:=(List.getElem?_eq_some_iff.mp hy).1
        rw [List.drop_eq_getElem_cons hk]
        congr 1
        have:=List.getElem?_eq_getElem hk
        rw [hy] at this
        exact (Option.some.inj this).symm
       rw [hd] at p'
       exact uJ hb I' (Rep.mono s' ry) p' fun ρ2 σ2 S3 H3 I3 s3 p3=>⟨ρ2,S3,I3,s'.trans s3,p3⟩
     . rintro σ' H' ⟨ρ',S',I',s',p'⟩
       rw [List.drop_of_length_le (by rw [hr.length]; exact Nat.le_refl _)] at p'
       exact p' σ' S' H' I' (aJ.refl _)
theorem wX {n k:Nat} (h:k < n):(dQ n).drop k = .int (k:Int) ::(dQ n).drop (k + 1):=by
 have hk:k < (dQ n).length:=by unfold dQ; simpa using h
 rw [List.drop_eq_getElem_cons hk]
 congr 1
 simp [dQ]
theorem Ae {i:Nat} {te:TE} {tb:TS} {me:ag -> OE} {mb:ag -> OS} (he:JE K cls W te me) (hb:JS K cls W tb mb):JS K cls W (Cj (zM (kG te m6)) (lp i) tb) (Af i me mb):=by
 intro Av G S₀ ρ σ S H D I p
 refine he.goS I p fun r v S1 H1 I1 w1 r1 p1=>?_
 cases e:r.pv with
 | int j=>
   rw [e] at p1
   have hv:v = .int j:=by have:=r1.rd I1.sh; rw [e] at this; exact dJ this
   subst hv
   dsimp only at p1
   split at p1
   . rename_i hj
     refine ⟨j,rfl,hj.1,hj.2,?_⟩
     refine Ak (n:=j.toNat) (fun k σ' H'=>∃ ρ' S',SR K cls Av G S₀ ρ' σ' S' H' /\ aJ S1 S' /\ jc K cls W Av G S₀ S' D (kF i mb ((dQ j.toNat).drop k) ρ'))
      ⟨ρ,S1,I1,aJ.refl _,p1⟩ ?_ ?_
     . rintro k σ' H' hk ⟨ρ',S',I',s',p'⟩
       rw [wX hk] at p'
       refine uJ hb I' ?_ p' fun ρ2 σ2 S3 H3 I3 s3 p3=>⟨ρ2,S3,I3,s'.trans s3,p3⟩
       unfold Rep
       rw [Int.zero_add]
     . rintro σ' H' ⟨ρ',S',I',s',p'⟩
       rw [List.drop_of_length_le (by unfold dQ; simp)] at p'
       exact p' σ' S' H' I' (aJ.refl _)
   . exact p1.elim
 | _=>rw [e] at p1; exact p1.elim
theorem kX {tc:TT} {tb:TS} {mc:ag -> OT} {mb:ag -> OS} {n:Nat} (hc:JT K cls W tc mc) (hb:JS K cls W tb mb):JS K cls W (yH tc tb) (b7 mc mb n):=by
 intro Av G S₀ ρ σ S H D I p
 refine ⟨fun m σ' H'=>∃ ρ' S',SR K cls Av G S₀ ρ' σ' S' H' /\ aJ S S' /\ jc K cls W Av G S₀ S' D (b7 mc mb m ρ'),⟨n,ρ,S,I,aJ.refl _,p⟩,?_⟩
 rintro m σ1 H1 ⟨ρ1,S1,I1,s1,p1⟩
 cases m with
 | zero=>exact p1.elim
 | succ m=>
   unfold b7 at p1
   refine hc.goS I1 p1 fun b S2 H2 I2 w2 p2=>?_
   cases b with
   | false=>exact vR (p2 σ1 S2 H2 I2 (aJ.refl _))
   | true=>
     refine v9 ⟨fun σ' H'=>∃ ρ' S',SR K cls Av G S₀ ρ' σ' S' H' /\ aJ S S' /\ jc K cls W Av G S₀ S' D (b7 mc mb m ρ'),fun σ' H' h=>⟨m,Nat.lt_succ_self m,h⟩,?_⟩
     refine hb Av G S₀ ρ1 σ1 S2 H2 _ I2 ?_
     simp only [if_true] at p2
     cases e:mb ρ1 with
     | nx ρ'=>rw [e] at p2; exact fun σ' S' H' I' s'=>⟨ρ',S',I',(s1.trans w2.s).trans s',p2.back s'⟩
     | ct ρ'=>rw [e] at p2; exact fun σ' S' H' I' s'=>⟨ρ',S',I',(s1.trans w2.s).trans s',p2.back s'⟩
     | bk ρ'=>rw [e] at p2; exact p2
     | rt r=>rw [e] at p2; exact p2
     | exc ρ' c fs=>rw [e] at p2; exact p2
     | bad=>rw [e] at p2; exact p2
end
end L2.P
namespace L2.P
open PySem PySem.Spec PyProof.Rows L2 L2.E
section
variable {K:PySem.W.Frag} {cls:String -> Option Addr} {W:XW} {Av G S₀ S S' H H' B B':Hp} {ρ:ag} {σ:St} {Q:VK}
noncomputable def CP:V -> Option Int
 | .int i=>some i
 | _=>none
noncomputable def JO (K:PySem.W.Frag) (cls:String -> Option Addr) (W:XW) (to:TO) (m:ag -> OE):Prop:=∀ Av G S₀ ρ σ S H (Q:Option Int -> Hp -> Prop),SR K cls Av G S₀ ρ σ S H ->
 lr K cls W σ S H (fun v H'=>Q (CP v) H') (m ρ) -> to σ H Q
theorem oB {te:TE} {m:ag -> OE} (h:JE K cls W te m):JO K cls W (Br te) (rJ m):=by
 intro Av G S₀ ρ σ S H Q I p
 refine h.go I p fun r v S1 H1 I1 w1 r1 p1=>?_
 cases e:r.pv with
 | int i=>
   rw [e] at p1
   have hv:v = .int i:=by have:=r1.rd I1.sh; rw [e] at this; exact dJ this
   exact ⟨i,hv,p1 (.int i) S1 H1 (bz.refl I1.sh) (by show Rep K S1 _ _; unfold Rep; rfl)⟩
 | _=>rw [e] at p1; exact p1.elim
theorem JO.go {to:TO} {m:ag -> OE} {f:RV -> OE} {Q':Option Int -> Hp -> Prop} (h:JO K cls W to m) (I:SR K cls Av G S₀ ρ σ S H) (p:lr K cls W σ S H Q ((m ρ).bind f))
  (k:∀ r v S1 H1,SR K cls Av G S₀ ρ σ S1 H1 -> bz S H S1 H1 -> mm K H S1 H1 r v -> lr K cls W σ S1 H1 Q (f r) -> Q' (CP v) H1):to σ H Q':=by
 refine h Av G S₀ ρ σ S H Q' I ?_
 cases e:m ρ with
 | ok r=>rw [e] at p; exact fun v S1 H1 w r1=>k r v S1 H1 (I.grow w) w r1 (p.back w)
 | exc c fs=>rw [e] at p; exact p
 | bad=>rw [e] at p; exact p
theorem part_of {x:PV} {v:V} (h:RdV K S H x v):CP v = tM x:=by
 cases x with
 | int i=>rw [dJ h]; rfl
 | non=>rw [jH h]; rfl
 | bl b=>rw [nB h]; rfl
 | str b=>rw [kS h]; rfl
 | lst xs=>obtain ⟨p,vs,rfl,_⟩:=iw h; rfl
 | tup xs=>obtain ⟨p,vs,rfl,_⟩:=mL h; rfl
theorem bR.cut {xs:List PV} {vs:List V} (h:bR K S xs vs) (lo hi:Option Int):bR K S (uq xs lo hi) (AX vs lo hi):=by
 have es:∀ n d o,vg n d o = HT.sIx n d o:=fun n d o=>by cases o <;> rfl
 unfold uq AX
 simp only [es]
 rw [h.length]
 exact (h.drop _).take _
theorem yl {te:TE} {tl th:TO} {ma ml mh:ag -> OE} (ha:JE K cls W te ma) (hl:JO K cls W tl ml) (hh:JO K cls W th mh):JE K cls W (tSl (IV K) te tl th) (BS ma ml mh):=by
 intro Av G S₀ ρ σ S H Q I p
 refine ha.go I p fun a v S1 H1 I1 w1 r1 p1=>hl.go I1 p1 fun l u S2 H2 I2 w2 r2 p2=>hh.go I2 p2 fun h z S3 H3 I3 w3 r3 p3=>?_
 rw [part_of (r2.rd I2.sh),part_of (r3.rd I3.sh)]
 have ra:=((r1.rd I1.sh).mono w2.s w2.g).mono w3.s w3.g
 cases e:a.pv with
 | lst xs=>
   rw [e] at p3 ra
   obtain ⟨q,vs,rfl,hq,hr⟩:=iw ra
   exact ⟨q,vs,rfl,hq,fun b hb=>p3 _ S3 _ (bz.heap I3.sh hb) ⟨b,_,rfl,hb,I3.sh.free hb,bb,hr.cut _ _⟩⟩
 | _=>rw [e] at p3; exact p3.elim
theorem join_some {α:Type} {o:Option (Option α)} {s:α} (h:o.join = some s):o = some (some s):=by
 cases o with
 | none=>cases h
 | some x=>cases x with
   | none=>cases h
   | some y=>rw [show y = s from Option.some.inj h]
theorem EV {α:Type} {l:List (Option α)} {ι:List Nat} {j:Nat} {s:α} (h:(ι.map fun i=>(l[i]?).join)[j]? = some (some s)):∃ i,ι[j]? = some i /\ l[i]? = some (some s):=by
 rw [List.getElem?_map] at h
 cases e:ι[j]? with
 | none=>rw [e] at h; cases h
 | some i=>rw [e] at h; exact ⟨i,rfl,join_some (Option.some.inj h)⟩
noncomputable def Fd (ι:List Nat) (Av:Hp):Hp:=fun j=>match ι[j]? with
 | some i=>Av i
 | none=>none
noncomputable def wC (ι:List Nat) (F:Nat -> List Addr):Nat -> List Addr:=fun j=>match ι[j]? with
 | some i=>F i
 | none=>[]
theorem rM.at {i j:Nat} {Av':Hp} {s:Sl} {v:V} {fp:List Addr} (h:rM K cls Av G S H i s v fp) (e:Av' j = Av i):rM K cls Av' G S H j s v fp:=by
 cases s with
 | sh x=>exact h
 | ow xs=>exact h
 | ex c fs=>exact h
 | tr io t=>exact ⟨h.1,h.2.1,h.2.2.1,fun z=>by rw [e]; exact h.2.2.2 z⟩
 | bo t=>exact h
theorem SR.pick {ι:List Nat} {x:PV} {v:V} (I:SR K cls Av G S₀ ρ σ S H) (hι:ι.Nodup) (hx:Rep K S x v):SR K cls (Fd ι Av) G S₀ (dP ι ρ ++ [some (.sh x)]) (L2.E.pick ι σ ++ [some v]) S H:=by
 obtain ⟨F,J⟩:=I
 have hl:(dP ι ρ).length = (L2.E.pick ι σ).length:=by unfold dP L2.E.pick; simp
 have hp:(dP ι ρ).length = ι.length:=by unfold dP; simp
 refine ⟨wC ι F,J.gh,J.s0,J.sh,J.new,fun j s e=>?_,fun j k a h1 h2=>?_,fun j a h=>?_,by unfold dP L2.E.pick; simp⟩
 . by_cases hj:j < (dP ι ρ).length
   . rw [List.getElem?_append_left hj] at e
     obtain ⟨i,e1,e2⟩:=EV e
     obtain ⟨u,e3,r⟩:=J.own i s e2
     refine ⟨u,?_,?_⟩
     . rw [List.getElem?_append_left (by rw [<- hl]; exact hj)]
       unfold L2.E.pick
       rw [List.getElem?_map,e1]
       show some (σ[i]?).join = _
       rw [e3]; rfl
     . unfold wC
       rw [e1]
       exact r.at (by unfold Fd; rw [e1])
   . have hj':(dP ι ρ).length <= j:=Nat.le_of_not_lt hj
     rw [List.getElem?_append_right hj'] at e
     have h0:j - (dP ι ρ).length = 0:=by
      by_cases h:j - (dP ι ρ).length = 0
      . exact h
      . rw [List.getElem?_eq_none (by simp; omega)] at e; cases e
     rw [h0] at e
     cases e
     refine ⟨v,?_,?_,hx⟩
     . rw [List.getElem?_append_right (by rw [<- hl]; exact hj'),<- hl,h0]; rfl
     . unfold wC
       rw [List.getElem?_eq_none (by rw [<- hp]; exact hj')]
 . unfold wC at h1 h2
   cases e1:ι[j]? with
   | none=>rw [e1] at h1; cases h1
   | some i=>
     cases e2:ι[k]? with
     | none=>rw [e2] at h2; cases h2
     | some i'=>
       rw [e1] at h1
       rw [e2] at h2
       have z:=J.apart i i' a h1 h2
       subst z
       obtain ⟨ha,ea⟩:=List.getElem?_eq_some_iff.mp e1
       obtain ⟨hb,eb⟩:=List.getElem?_eq_some_iff.mp e2
       exact (List.getElem_inj hι).mp (ea.trans eb.symm)
 . unfold wC at h
   cases e1:ι[j]? with
   | none=>rw [e1] at h; cases h
   | some i=>rw [e1] at h; exact J.live i a h
theorem Ci {me:ag -> OE} {x:PV} {xs ys:List PV} (h:dA me ρ (x ::xs) = .ok ys):∃ r y zs,me (ρ ++ [some (.sh x)]) = .ok r /\ lS r = some y /\ dA me ρ xs = .ok zs /\ ys = y ::zs:=by
 unfold dA at h
 cases e:me (ρ ++ [some (.sh x)]) with
 | ok r=>
   rw [e] at h
   simp only [OE.gq] at h
   cases e2:lS r with
   | none=>rw [e2] at h; cases h
   | some y=>
     rw [e2] at h
     dsimp only at h
     cases e3:dA me ρ xs with
     | ok zs=>rw [e3] at h; cases h; exact ⟨r,y,zs,rfl,e2,rfl,rfl⟩
     | exc c fs=>rw [e3] at h; cases h
     | bad=>rw [e3] at h; cases h
 | exc c fs=>rw [e] at h; cases h
 | bad=>rw [e] at h; cases h
theorem qR {J:It} {ι:List Nat} {te:TE} {me:ag -> OE} {xs ys:List PV} (hι:ι.Nodup) (he:JE K cls (fun _ _ _ _=>False) te me) (I:SR K cls Av G S₀ ρ σ S H) (hy:dA me (dP ι ρ) xs = .ok ys) (hl:ys.length <= lim)
  (go:∀ k H' x,aJ H H' -> xs[k]? = some x -> J.go k H' /\ ∀ v H2,J.yld k H' v H2 -> H2 = H' /\ Rep K S x v) (stop:∀ H',aJ H H' -> J.stop xs.length H')
  (hQ:∀ D S' H',bz S H S' H' -> H D = none -> S' D = none -> (∃ us,H' D = some (.lst us) /\ bR K S' ys us) -> Q (.ref D) H'):
  ∀ D,H D = none -> ∃ W:Nat -> Nat -> List V -> Hp -> Prop,(∃ m,W 0 m [] (upd H D (.lst []))) /\ ∀ i m us H',W i m us H' ->
    H' D = some (.lst us) /\ ((J.stop i H' /\ Q (.ref D) H') \/ (J.go i H' /\ ∀ x H2,J.yld i H' x H2 -> te (L2.E.pick ι σ ++ [some x]) H2 fun y H3=>H3 D = some (.lst us) /\ us.length < sizeLine /\ ∃ m',m' < m /\ W (i + 1) m' (us ++ [y]) (upd H3 D (.lst (us ++ [y]))))):=by
 intro D nD
 refine ⟨fun k m us H'=>m + k = xs.length /\ H' D = some (.lst us) /\ ∃ S' zs ws,aJ S S' /\ aJ H H' /\ aJ S' H' /\ (∀ b,S' b ≠ none -> S b ≠ none \/ (H b = none /\ b ≠ D)) /\ bR K S' zs us /\ dA me (dP ι ρ) (xs.drop k) = .ok ws /\ ys = zs ++ ws,
  ⟨xs.length,rfl,bb,S,[],ys,aJ.refl _,aJ.new nD,I.sh.trans (aJ.new nD),fun b z=>.inl z,.nil,hy,rfl⟩,?_⟩
 rintro k m us H' ⟨hm,hD,S',zs,ws,s1,g1,sh1,n1,r1,e1,rfl⟩
 refine ⟨hD,?_⟩
 have hSD:S' D = none:=by
  cases q:S' D with
  | none=>rfl
  | some o=>
    rcases n1 D (by rw [q]; simp) with z | ⟨_,z⟩
    . exact absurd (I.sh.free nD) z
    . exact absurd rfl z
 by_cases hk:k < xs.length
 . refine .inr ?_
   have hx:xs[k]? = some xs[k]:=by simp [hk]
   obtain ⟨hgo,hyld⟩:=go k H' xs[k] g1 hx
   refine ⟨hgo,fun v H2 hv=>?_⟩
   obtain ⟨rfl,rv⟩:=hyld v H2 hv
   rw [List.drop_eq_getElem_cons hk] at e1
   obtain ⟨r,y,zs',em,es,e2,rfl⟩:=Ci e1
   have I1:SR K cls Av G S₀ ρ σ S' H2:=I.grow ⟨s1,g1,sh1,fun b z=>by
    rcases n1 b z with z | ⟨z,_⟩
    . exact .inl z
    . exact .inr z⟩
   refine he _ G S₀ _ _ S' H2 _ (I1.pick hι (Rep.mono s1 rv)) ?_
   rw [em]
   intro u S2 H3 w2 r2
   obtain ⟨S3,w3,s3,ru⟩:=r2.share w2 es
   have hl2:(zs ++ y ::zs').length <= lim:=hl
   have hSD3:S3 D = none:=by
    cases q:S3 D with
    | none=>rfl
    | some o=>
      rcases w3.new D (by rw [q]; simp) with z | z
      . exact absurd hSD z
      . rw [hD] at z; cases z
   refine ⟨w3.g _ _ hD,?_,m - 1,by omega,by omega,bb,S3,zs ++ [y],zs',s1.trans w3.s,(g1.trans w3.g).upd nD,w3.sh.upd hSD3,fun b z=>?_,(r1.mono w3.s).append (.cons ru .nil),e2,by simp⟩
   . rw [r1.length,<- By]
     rw [List.length_append,List.length_cons] at hl2
     omega
   . rcases w3.new b z with z | z
     . exact n1 b z
     . refine .inr ⟨g1.free z,fun e=>?_⟩
       rw [e,hD] at z; cases z
 . have hk':k = xs.length:=by omega
   subst hk'
   refine .inl ⟨stop H' g1,?_⟩
   rw [List.drop_length] at e1
   cases e1
   exact hQ D S' H' ⟨s1,g1,sh1,fun b z=>by
    rcases n1 b z with z | ⟨z,_⟩
    . exact .inl z
    . exact .inr z⟩ nD hSD ⟨us,hD,by rw [List.append_nil]; exact r1⟩
theorem wV {tl te:TE} {ml me:ag -> OE} {ι:List Nat} (hι:ι.Nodup) (hl:JE K cls W tl ml) (he:JE K cls (fun _ _ _ _=>False) te me):JE K cls W (sW (xk K tl) ι te) (v7 ml ι me):=by
 intro Av G S₀ ρ σ S H Q I p
 refine hl.go I p fun r v S1 H1 I1 w1 r1 p1=>?_
 have ra:=r1.rd I1.sh
 cases e:r.pv with
 | lst xs=>
   rw [e] at p1 ra
   obtain ⟨a,vs,rfl,hq,hr⟩:=iw ra
   refine ⟨a,rfl,⟨vs,hq⟩,?_⟩
   dsimp only at p1
   cases em:dA me (dP ι ρ) xs with
   | exc c fs=>rw [em] at p1; exact p1.elim
   | bad=>rw [em] at p1; exact p1.elim
   | ok ys=>
     rw [em] at p1
     simp only [noX] at p1
     split at p1
     . rename_i hlen
       refine qR hι he I1 em hlen (fun k H' x g hx=>?_) (fun H' g=>⟨vs,aJ.seq g hq,by rw [hr.length]; exact Nat.le_refl _⟩) fun D S' H' w nD sD ⟨us,hD,rr⟩=>p1 (.ref D) S' H' w ⟨D,us,rfl,nD,sD,hD,rr⟩
       obtain ⟨u,hu,ru⟩:=hr.get hx
       refine ⟨⟨vs,u,aJ.seq g hq,hu⟩,?_⟩
       rintro v' H2 ⟨rfl,hv⟩
       have:=hv vs (aJ.seq g hq)
       rw [hu] at this
       cases this
       exact ⟨rfl,ru⟩
     . exact p1.elim
 | _=>rw [e] at p1; exact p1.elim
theorem sJ {tn te:TE} {mn me:ag -> OE} {ι:List Nat} (hι:ι.Nodup) (hn:JE K cls W tn mn) (he:JE K cls (fun _ _ _ _=>False) te me):JE K cls W (sW (zM (kG tn m6)) ι te) (sY mn ι me):=by
 intro Av G S₀ ρ σ S H Q I p
 refine hn.go I p fun r v S1 H1 I1 w1 r1 p1=>?_
 have ra:=r1.rd I1.sh
 cases e:r.pv with
 | int j=>
   rw [e] at p1 ra
   have hv:=dJ ra
   subst hv
   dsimp only at p1
   split at p1
   . rename_i hj
     refine ⟨j,rfl,hj.1,hj.2,?_⟩
     cases em:dA me (dP ι ρ) (dQ j.toNat) with
     | exc c fs=>rw [em] at p1; exact p1.elim
     | bad=>rw [em] at p1; exact p1.elim
     | ok ys=>
       rw [em] at p1
       simp only [noX] at p1
       split at p1
       . rename_i hlen
         have hln:(dQ j.toNat).length = j.toNat:=by unfold dQ; simp
         refine qR hι he I1 em hlen (fun k H' x g hx=>?_) (fun H' g=>by rw [hln]; exact Nat.le_refl _) fun D S' H' w nD sD ⟨us,hD,rr⟩=>p1 (.ref D) S' H' w ⟨D,us,rfl,nD,sD,hD,rr⟩
         have hk:k < j.toNat:=by rw [<- hln]; exact (List.getElem?_eq_some_iff.mp hx).1
         refine ⟨hk,?_⟩
         rintro v' H2 ⟨rfl,rfl⟩
         refine ⟨rfl,?_⟩
         have:x = .int (k:Int):=by
          unfold dQ at hx
          rw [List.getElem?_map,List.getElem?_range hk] at hx
          exact (Option.some.inj hx).symm
         subst this
         unfold Rep
         rw [Int.zero_add]
       . exact p1.elim
   . exact p1.elim
 | _=>rw [e] at p1; exact p1.elim
theorem Cu {C:Addr} {c:String} {t:TA} {ma:ag -> OA} (hc:cls c = some C) (ha:JA K cls W t ma):JS K cls W (yd C W t) (ye c ma):=by
 intro Av G S₀ ρ σ S H D I p
 refine ha.goS I p fun xs vs S1 H1 I1 w1 r1 p1=>?_
 split at p1
 . rename_i hl
   refine ⟨by rw [r1.length]; exact hl,fun a hn=>p1 a C σ S1 _ (I1.grow (bz.heap I1.sh hn)) (aJ.refl _) ⟨hc,none,bb,.inl rfl⟩⟩
 . exact p1.elim
theorem Cd {i:Nat} {tb:XW -> TS} {T:Addr} {ts:TS} {mb ms:ag -> OS} {takes:String -> Option Bool} (hb:∀ W,JS K cls W (tb W) mb) (hs:JS K cls (fun _ _ _ _=>False) ts ms) (hT:∀ c C b,cls c = some C -> takes c = some b -> uA K T C b):
  JS K cls W (GR K tb T ts (some i) W) (vx i mb takes ms):=by
 intro Av G S₀ ρ σ S H D I p
 refine hb _ Av G S₀ ρ σ S H D I ?_
 unfold vx at p
 cases e:mb ρ with
 | exc ρ' c fs=>
   rw [e] at p
   dsimp only at p
   intro a C σ' S' H' I' s' x H2 g2
   cases et:takes c with
   | none=>rw [et] at p; exact p.elim
   | some b=>
     rw [et] at p
     refine ⟨C,b,rfl,hT c C b x.1 et,?_⟩
     have I2:=I'.same g2
     have x2:=x.mono (aJ.refl _) g2
     cases b with
     | true=>
       refine v9 (hs Av G S₀ _ _ S' H2 _ (I2.I0 (i:=i) x2) ?_)
       dsimp only at p
       cases eo:ms (ρ'.set i (some (.ex c fs))) with
       | exc ρ c fs=>rw [eo] at p; exact p.elim
       | nx ρ=>rw [eo] at p; exact fun σ3 S3 H3 I3 s3=>p (σ3.set i none) S3 H3 I3.zT (s'.trans s3)
       | bk ρ=>rw [eo] at p; exact fun σ3 S3 H3 I3 s3=>p (σ3.set i none) S3 H3 I3.zT (s'.trans s3)
       | ct ρ=>rw [eo] at p; exact fun σ3 S3 H3 I3 s3=>p (σ3.set i none) S3 H3 I3.zT (s'.trans s3)
       | rt ρ r=>rw [eo] at p; exact fun v σ3 S3 H3 I3 s3 r3=>p v σ3 S3 H3 I3 (s'.trans s3) r3
       | bad=>rw [eo] at p; exact p.elim
     | false=>exact vR (p a C σ' S' H2 I2 s' x2)
 | nx ρ'=>rw [e] at p; exact p
 | bk ρ'=>rw [e] at p; exact p
 | ct ρ'=>rw [e] at p; exact p
 | rt ρ' r=>rw [e] at p; exact p
 | bad=>rw [e] at p; exact p
theorem Gu {i:Nat} {T:V} {under:String -> Bool} (hT:∀ c C,cls c = some C -> under c = true -> ∃ bm,nK K C bm /\ ((∃ B bmB,T = .ref B /\ nK K B bmB /\ (Value.ref C ::bm).contains (.ref B) = true) \/ (T = .ty "ValueError" /\ bm.contains (.type "ValueError") = true))):
  JE K cls W (tCB (fun xs H Q=>∃ a T C dx bm,xs = [.ref a,T] /\ H a = some (oM a C dx) /\ nK K C bm /\ ((∃ B bmB,T = .ref B /\ nK K B bmB /\ (Value.ref C ::bm).contains (.ref B) = true) \/ (T = .ty "ValueError" /\ bm.contains (.type "ValueError") = true)) /\ Q (.bl true) H) (kG (sU i) (kG (tC T) m6))) (Ex i under):=by
 intro Av G S₀ ρ σ S H Q I p
 unfold Ex at p
 split at p
 . rename_i c fs e
   obtain ⟨v,e1,a,C,rfl,hc,dx,hx,_⟩:=I.good i _ e
   split at p
   . rename_i hu
     obtain ⟨bm,h1,h2⟩:=hT c C hc hu
     exact ⟨_,e1,a,T,C,dx,bm,rfl,hx,h1,h2,p _ S H (bz.refl I.sh) mZ⟩
   . exact p.elim
 . exact p.elim
theorem bR.begin {xs:List PV} {vs:List V} (h:bR K S xs vs) (N:List Str) (i:Nat) (s:Sl) (e:(nM N.length xs)[i]? = some (some s)):∃ x v,s = .sh x /\ (L2.start N vs)[i]? = some (some v) /\ Rep K S x v:=by
 unfold nM at e
 by_cases hi:i < xs.length
 . rw [List.getElem?_append_left (by simpa using hi),List.getElem?_map] at e
   have hx:xs[i]? = some xs[i]:=by simp [hi]
   rw [hx] at e
   cases e
   obtain ⟨v,hv,r⟩:=h.get hx
   refine ⟨_,v,rfl,?_,r⟩
   unfold L2.start
   rw [List.getElem?_append_left (by rw [List.length_map,h.length]; exact hi),List.getElem?_map,hv]; rfl
 . rw [List.getElem?_append_right (by simpa using hi)] at e
   rw [List.getElem?_replicate] at e
   split at e <;> cases e
theorem Le {P:Program} {w:World} {mg:Str -> Option Value} {base:Heap} {x qual:Str} {st:Stmt} {f:Addr} {fd:FuncData} {N ps:List Str} {k:Nat} {m:ag -> OS} (F:Fun K x qual st f fd) (Sc:aU N ps (av st))
  (hbody:∀ (cdv:Value) (A:Around) (outer:List Env) (s:Shared) (H:Hp) (E:XK),iN k (A.deeper (envOfC qual (av st) s.heap.objs.size f cdv)) ->
    ∃ t,PSs (pZ (CXE P w) P w K mg base N qual (av st) f cdv A outer s H E) (aT st) t /\ JS K cls (fun C a _ H=>∀ H',aJ H H' -> E C a H') t m):cb P w K mg base (CXE P w) (k + 1) f fd ps (spP K cls (fnP ps.length N.length m)):=by
 refine okX F Sc (fun vs H Q E h=>?_) fun cdv A outer s H vs Q E hr h=>?_
 . obtain ⟨S,xs,_,r,q⟩:=h
   unfold fnP at q
   split at q
   . rw [r.length]; assumption
   . exact q.elim
 . obtain ⟨S,xs,sS,r,q⟩:=h
   unfold fnP at q
   split at q
   . rename_i hl
     obtain ⟨t,ht,J⟩:=hbody cdv A outer s H E hr
     refine ⟨t,ht,?_⟩
     refine J (fun _=>none) H S (nM N.length xs) (start N vs) S H _ ⟨fun _=>[],aJ.refl _,aJ.refl _,sS,fun _ z=>.inl z,fun i s e=>?_,fun i j a h=>(nomatch h),fun i a h=>(nomatch h),?_⟩ ?_
     . obtain ⟨x,v,rfl,e1,rx⟩:=r.begin N i s e
       exact ⟨v,e1,rfl,rx⟩
     . unfold nM L2.start
       simp [r.length]
     . cases e:m (nM N.length xs) with
       | nx ρ'=>rw [e] at q; exact fun σ' S' H' I' s'=>q .non S' H' ⟨I'.s0,I'.gh,I'.sh,I'.new⟩ (by show Rep K S' _ _; unfold Rep; rfl)
       | bk ρ'=>rw [e] at q; exact q.elim
       | ct ρ'=>rw [e] at q; exact q.elim
       | bad=>rw [e] at q; exact q.elim
       | rt ρ' r=>
         rw [e] at q
         cases r with
         | al ys=>exact q.elim
         | sh y=>exact fun v σ' S' H' b' s' rr=>q v S' H' ⟨b'.s0,b'.gh,b'.sh,b'.new⟩ rr
         | fr ys=>exact fun v σ' S' H' b' s' rr=>q v S' H' ⟨b'.s0,b'.gh,b'.sh,b'.new⟩ rr
       | exc ρ' c fs=>
         rw [e] at q
         exact fun a C σ' S' H' I' s' x H2 g2=>q a C S' H2 ⟨I'.s0,I'.gh.trans g2,I'.sh.trans g2,I'.new⟩ (x.mono (aJ.refl _) g2)
   . exact q.elim
noncomputable def vF (K:PySem.W.Frag):Sp:=fun vs H Q _=>∃ (a:Addr) (ns:List Int),vs = [.ref a] /\ SqL K H a (ns.map V.int) /\ ns.length <= 63 /\ ∀ H',Q (.bl true) H'
theorem DR {f:List PV -> OE} (h:∀ ns:List Int,ns.length <= 63 -> f [.lst (ns.map .int)] = .ok (.sh (.bl true))) (vs:List V) (H:Hp) (Q:VK) (E:XK) (q:vF K vs H Q E):spP K cls f vs H Q E:=by
 obtain ⟨a,ns,rfl,hS,hl,q⟩:=q
 refine ⟨H,[.lst (ns.map .int)],aJ.refl _,.cons (by unfold Rep; exact ⟨a,_,rfl,hS,bR.ints⟩) .nil,?_⟩
 rw [h ns hl]
 intro v S' H' w r
 have:v = .bl true:=by have r':Rep K S' (.bl true) v:=r; unfold Rep at r'; exact r'
 subst this
 exact q H'
end
end L2.P
namespace L2.P
open PySem PySem.Spec PyProof.Rows L2 L2.E
section
variable {K:PySem.W.Frag} {cls:String -> Option Addr} {W:XW} {Av G S₀ S S' H H' B B':Hp} {ρ:ag} {σ:St} {Q:VK}
theorem EZ {i:Nat} {te:TE} {me:ag -> OE} {f:Int -> Int -> Int} (he:JE K cls W te me):JS K cls W (Ee i te (ipI f)) (rQ i (gI (fun _ _=>true) fun i j=>.int (f i j)) me):=by
 intro Av G S₀ ρ σ S H D I p
 unfold rQ at p
 split at p
 . rename_i x e
   obtain ⟨v,e1,r⟩:=I.good i _ e
   refine ⟨v,e1,he.goS I p fun rr u S1 H1 I1 w1 r1 p1=>?_⟩
   have ra:=r1.rd I1.sh
   cases x with
   | int a=>
     cases eb:rr.pv with
     | int b=>
       rw [eb] at p1 ra
       have r':Rep K S (.int a) v:=r
       unfold Rep at r'
       subst r'
       exact ⟨a,b,rfl,dJ ra,p1 _ S1 H1 (I1.wZ (by unfold Rep; rfl)) (aJ.refl _)⟩
     | _=>rw [eb] at p1; exact p1.elim
   | _=>cases eb:rr.pv <;> (rw [eb] at p1; exact p1.elim)
 . exact p.elim
theorem hJ {i:Nat} {te:TE} {me:ag -> OE} (he:JE K cls W te me):JS K cls W (Ee i te (ipI fun i j=>i + j)) (rQ i eL me):=EZ he
theorem uw {x:PV} {v:V} (h:RdV K S H x v):decide (v = .non) = cz x:=by
 cases x with
 | non=>rw [jH h]; rfl
 | bl b=>rw [nB h]; rfl
 | int b=>rw [dJ h]; rfl
 | str b=>rw [kS h]; rfl
 | lst xs=>obtain ⟨p,vs,rfl,_⟩:=iw h; rfl
 | tup xs=>obtain ⟨p,vs,rfl,_⟩:=mL h; rfl
theorem qT:JR K (fun x y H Q=>y = .non /\ Q (.bl (decide (x = .non))) H) sv:=by
 intro S H x y v u rr Q I hx hy e k
 unfold sv at e
 split at e
 . cases e
   exact ⟨jH hy,k _ S H (bz.refl I) (by rw [uw hx]; exact mZ)⟩
 . cases e
theorem u5:JR K (fun x y H Q=>y = .non /\ Q (.bl (!decide (x = .non))) H) uN:=by
 intro S H x y v u rr Q I hx hy e k
 unfold uN at e
 split at e
 . cases e
   exact ⟨jH hy,k _ S H (bz.refl I) (by rw [uw hx]; exact mZ)⟩
 . cases e
end
end L2.P
namespace L2
open PySem PySem.Spec PyProof.Rows
structure QE (X:Cx) (e:Expr) (t:TE):Prop where
 out:PE X e t
structure QA (X:Cx) (es:List Expr) (t:TA):Prop where
 out:PA X es t
structure QS (X:Cx) (st:Stmt) (t:TS):Prop where
 out:PS X st t
structure QSs (X:Cx) (st:List Stmt) (t:TS):Prop where
 out:PSs X st t
structure QT (X:Cx) (e:Expr) (t:TT):Prop where
 out:PT X e t
structure QW (X:Cx) (e:Expr) (t:TT):Prop where
 out:PW X e t
structure QI (X:Cx) (tg e:Expr) (t:TI):Prop where
 out:PI X tg e t
structure QG (X:Cx) (e:Expr) (t:TG):Prop where
 out:PG X e t
structure QO (X:Cx) (e:Option Expr) (t:TO):Prop where
 out:PO X e t
end L2
namespace L2.E
open PySem PySem.Spec PyProof.Rows L2
theorem zw {X:L2.Cx} {b:Bool} {j:Nat} {pos:PySem.Pos}:L2.QE X (PySem.Expr.Constant (PySem.Const.bool b) j pos) (L2.tC (L2.V.bl b)):=⟨L2.Ja ⟩
theorem ao {X:L2.Cx} {i:Int} {j:Nat} {pos:PySem.Pos}:L2.QE X (PySem.Expr.Constant (PySem.Const.int i) j pos) (L2.tC (L2.V.int i)):=⟨L2.Ha ⟩
theorem aO {X:L2.Cx} {x:PySem.Str} {j:Nat} {pos:PySem.Pos}:L2.QE X (PySem.Expr.Constant (PySem.Const.str x) j pos) (L2.tC (L2.V.str x)):=⟨L2.G2 ⟩
theorem dq {X:L2.Cx} {j:Nat} {pos:PySem.Pos}:L2.QE X (PySem.Expr.Constant PySem.Const.none j pos) (L2.tC L2.V.non):=⟨L2.GX ⟩
theorem qv {X:L2.Cx} (h1:Nat) {x:PySem.Str} {pos:PySem.Pos} (h4:X.N[h1]? = Option.some x:=by first | rfl | decide | exact .inl rfl | exact .inr rfl | exact .inr (.inl rfl) | exact .inr (.inr rfl) | assumption | (intro _; rfl) | with_unfolding_all rfl) (h5:L2.Vis X.env.scope x:=by first | rfl | decide | exact .inl rfl | exact .inr rfl | exact .inr (.inl rfl) | exact .inr (.inr rfl) | assumption | (intro _; rfl) | with_unfolding_all rfl) (h6:(x == PySem.Str.ofString "__debug__") = Bool.false:=by first | rfl | decide | exact .inl rfl | exact .inr rfl | exact .inr (.inl rfl) | exact .inr (.inr rfl) | assumption | (intro _; rfl) | with_unfolding_all rfl) (h7:(x == PySem.Str.ofString "__classdict__") = Bool.false:=by first | rfl | decide | exact .inl rfl | exact .inr rfl | exact .inr (.inl rfl) | exact .inr (.inr rfl) | assumption | (intro _; rfl) | with_unfolding_all rfl):L2.QE X (PySem.Expr.Name x pos) (L2.sU h1):=⟨L2.pv h1 h4 h5 h6 h7⟩
theorem aK {X:L2.Cx} {x:PySem.Str} {v:L2.V} {u:PySem.Value} {pos:PySem.Pos} (h5:L2.Gl X x) (h6:X.mg x = Option.some u) (h7:L2.RelV v u) (h8:(x == PySem.Str.ofString "__debug__") = Bool.false:=by first | rfl | decide | exact .inl rfl | exact .inr rfl | exact .inr (.inl rfl) | exact .inr (.inr rfl) | assumption | (intro _; rfl) | with_unfolding_all rfl):L2.QE X (PySem.Expr.Name x pos) (L2.tC v):=⟨L2.E1 h5 h6 h7 h8⟩
theorem sf {X:L2.Cx} {x:PySem.Str} {v:L2.V} {u:PySem.Value} {pos:PySem.Pos} (h5:L2.Gl X x) (h6:X.mg x = Option.none) (h7:PySem.bootBuiltins x = Option.some u) (h8:L2.RelV v u) (h9:x ≠ PySem.Str.ofString "__name__":=by first | rfl | decide | exact .inl rfl | exact .inr rfl | exact .inr (.inl rfl) | exact .inr (.inr rfl) | assumption | (intro _; rfl) | with_unfolding_all rfl) (h10:(x == PySem.Str.ofString "__debug__") = Bool.false:=by first | rfl | decide | exact .inl rfl | exact .inr rfl | exact .inr (.inl rfl) | exact .inr (.inr rfl) | assumption | (intro _; rfl) | with_unfolding_all rfl):L2.QE X (PySem.Expr.Name x pos) (L2.tC v):=⟨L2.Ef h5 h6 h7 h8 h9 h10⟩
theorem Hs {X:L2.Cx} {a:PySem.Expr} {ta:L2.TE} {pos:PySem.Pos} (h4:L2.QE X a ta):L2.QE X (PySem.Expr.UnaryOp PySem.UnaryOp.Not a pos) (L2.Co ta):=⟨L2.HM h4.out⟩
theorem FW {X:L2.Cx} {a:PySem.Expr} {ta:L2.TE} {pos:PySem.Pos} {op:PySem.UnaryOp} {r:L2.V -> L2.Hp -> L2.VK -> Prop} (h6:L2.UnR X (PySem.unaryOp op) r) (h7:L2.QE X a ta):L2.QE X (PySem.Expr.UnaryOp op a pos) (L2.tUn r ta):=⟨L2.IZ h6 h7.out⟩
theorem aV {X:L2.Cx} {a:PySem.Expr} {b:PySem.Expr} {ta:L2.TE} {tb:L2.TE} {pos:PySem.Pos} {op:PySem.Operator} {r:L2.R2} (h8:L2.OpR X (PySem.binaryOp op) r) (h9:L2.QE X a ta) (h10:L2.QE X b tb):L2.QE X (PySem.Expr.BinOp a op b pos) (L2.tOp r ta tb):=⟨L2.JI h8 h9.out h10.out⟩
theorem iR {X:L2.Cx} {a:PySem.Expr} {b:PySem.Expr} {ta:L2.TE} {tb:L2.TE} {pos:PySem.Pos} {op:PySem.CmpOp} {r:L2.R2} (h8:L2.OpR X (PySem.compareOp op) r) (h9:L2.QE X a ta) (h10:L2.QE X b tb) (h11:PySem.behindInMarks op b = Bool.false):L2.QE X (PySem.Expr.Compare a [op] [b] pos) (L2.tOp r ta tb):=⟨L2.EJ h8 h9.out h10.out h11⟩
theorem Dp {X:L2.Cx} {a:PySem.Expr} {b:PySem.Expr} {c:PySem.Expr} {ta:L2.TE} {tb:L2.TE} {tc:L2.TE} {pos:PySem.Pos} {op:PySem.CmpOp} {op':PySem.CmpOp} {r:L2.R2} {r':L2.R2} (h12:L2.OpR X (PySem.compareOp op) r) (h13:L2.OpR X (PySem.compareOp op') r') (h14:L2.QE X a ta) (h15:L2.QE X b tb) (h16:L2.QE X c tc) (h17:PySem.lastMarks [op,op'] [b,c] = Bool.false:=by first | rfl | decide | exact .inl rfl | exact .inr rfl | exact .inr (.inl rfl) | exact .inr (.inr rfl) | assumption | (intro _; rfl) | with_unfolding_all rfl):L2.QE X (PySem.Expr.Compare a [op,op'] [b,c] pos) (L2.tS r r' ta tb tc):=⟨L2.BY h12 h13 h14.out h15.out h16.out h17⟩
theorem tm {X:L2.Cx} {a:PySem.Expr} {pos:PySem.Pos} {op:PySem.BoolOp} {t:L2.TE} (h5:L2.QE X a t):L2.QE X (PySem.Expr.BoolOp op [a] pos) t:=⟨L2.Gd h5.out⟩
theorem pq {X:L2.Cx} {a:PySem.Expr} {b:PySem.Expr} {ta:L2.TE} {tb:L2.TE} {pos:PySem.Pos} {rest:List PySem.Expr} (h7:L2.QE X a ta) (h8:L2.QE X (PySem.Expr.BoolOp PySem.BoolOp.And (b ::rest) pos) tb):L2.QE X (PySem.Expr.BoolOp PySem.BoolOp.And (a ::b ::rest) pos) (L2.BE ta tb):=⟨L2.Gz h7.out h8.out⟩
theorem dR {X:L2.Cx} {a:PySem.Expr} {b:PySem.Expr} {ta:L2.TE} {tb:L2.TE} {pos:PySem.Pos} {tA:L2.TT} {c:PySem.Expr} (h8:L2.QT X c tA) (h9:L2.QE X a ta) (h10:L2.QE X b tb):L2.QE X (PySem.Expr.IfExp c a b pos) (L2.tIf tA ta tb):=⟨L2.B4 h8.out h9.out h10.out⟩
theorem bq {X:L2.Cx} {es:List PySem.Expr} {t:L2.TA} {pos:PySem.Pos} (h4:L2.QA X es t):L2.QE X (PySem.Expr.List es pos) (L2.Gs t):=⟨L2.GB h4.out⟩
theorem eJ {X:L2.Cx} {es:List PySem.Expr} {t:L2.TA} {pos:PySem.Pos} {x1:Nat} (h5:L2.QA X es t):L2.QE X (PySem.Expr.Tuple es x1 pos) (L2.Iq t):=⟨L2.HV h5.out⟩
theorem sR {X:L2.Cx} {e:PySem.Expr} {te:L2.TE} {lo:Option PySem.Expr} {hi:Option PySem.Expr} {tl:L2.TO} {th:L2.TO} {pos:PySem.Pos} {p2:PySem.Pos} {r:L2.V -> Option Int -> Option Int -> L2.Hp -> L2.VK -> Prop} (h10:L2.SlR X r) (h11:L2.QE X e te) (h12:L2.QO X lo tl) (h13:L2.QO X hi th):L2.QE X (PySem.Expr.Subscript e (PySem.Expr.Slice lo hi Option.none p2) pos) (L2.tSl r te tl th):=⟨L2.Di h10 h11.out h12.out h13.out⟩
theorem dv {X:L2.Cx} {a:PySem.Expr} {b:PySem.Expr} {ta:L2.TE} {tb:L2.TE} {pos:PySem.Pos} {r:L2.R2} (h7:L2.IxR X r) (h8:L2.QE X a ta) (h9:L2.QE X b tb) (h10:L2.zJ b):L2.QE X (PySem.Expr.Subscript a b pos) (L2.tOp r ta tb):=⟨L2.JK h7 h8.out h9.out h10⟩
theorem p6 {X:L2.Cx} {scope:PySem.Scope} {cl:List (PySem.Str × PySem.Addr)} {M:List PySem.Str} {ι:List Nat} {x:PySem.Str} {elt:PySem.Expr} {iter:PySem.Expr} {px:PySem.Pos} {pos:PySem.Pos} {wi:L2.TI} {te:L2.TE} (h12:L2.E.mX X scope cl M ι x) (h13:X.calm = Bool.true) (h14:L2.QI X (PySem.Expr.Name x px) iter wi) (h15:∀ (C:PySem.Addr) (s₀:PySem.Shared) (H₀:L2.Hp) (ex:List PySem.Addr),L2.QE (L2.E.blk X scope cl (M ++ [x]) C s₀ H₀ ex) elt te) (h16:∀ (v:PySem.Value),PySem.foldedSetIterable iter X.env v = Pure.pure v:=by first | rfl | decide | exact .inl rfl | exact .inr rfl | exact .inr (.inl rfl) | exact .inr (.inr rfl) | assumption | (intro _; rfl) | with_unfolding_all rfl):L2.QE X (PySem.Expr.ListComp elt [PySem.Comprehension.mk (PySem.Expr.Name x px) iter [] 0] scope pos) (L2.E.sW wi ι te):=⟨L2.E.EX h12 h13 h14.out (fun z0 z1 z2 z3=>(h15 z0 z1 z2 z3).out) h16⟩
theorem aC {X:L2.Cx} {k:Nat} {f:PySem.Addr} {fd:PySem.FuncData} {ps:List PySem.Str} {sp:L2.Sp} {dvs:List L2.V} {ds:List PySem.Value} {W:L2.E.XW} {x:PySem.Str} {p:PySem.Pos} {pos:PySem.Pos} {e:PySem.Expr} {es:List PySem.Expr} {t:L2.TA} (h15:L2.cb X.prog X.w X.K X.mg X.base (L2.E.CXE X.prog X.w) k f fd ps sp) (h16:L2.iN k X.A) (h17:L2.Gl X x) (h18:X.mg x = Option.some (PySem.Value.ref f)) (h19:PySem.W.keepIn X.K (PySem.Value.ref f) = Bool.true) (h20:L2.Binds X.K fd ps ds) (h21:L2.Vals dvs ds) (h22:L2.E.Thr X W) (h23:L2.QA X (e ::es) t) (h24:(x == PySem.Str.ofString "__debug__") = Bool.false:=by first | rfl | decide | exact .inl rfl | exact .inr rfl | exact .inr (.inl rfl) | exact .inr (.inr rfl) | assumption | (intro _; rfl) | with_unfolding_all rfl) (h25:PySem.starEach (e ::es) X.env = (Bool.false,PySem.eval e X.env) ::PySem.starEach es X.env:=by first | rfl | decide | exact .inl rfl | exact .inr rfl | exact .inr (.inl rfl) | exact .inr (.inr rfl) | assumption | (intro _; rfl) | with_unfolding_all rfl) (h26:(List.any (PySem.backTo pos (PySem.starEach es X.env)) fun x=>x.fst) = Bool.false:=by first | rfl | decide | exact .inl rfl | exact .inr rfl | exact .inr (.inl rfl) | exact .inr (.inr rfl) | assumption | (intro _; rfl) | with_unfolding_all rfl):L2.QE X (PySem.Expr.Call (PySem.Expr.Name x p) (e ::es) [] pos) (L2.E.tV sp dvs W t):=⟨L2.E.Dm h15 h16 h17 h18 h19 h20 h21 h22 h23.out h24 h25 h26⟩
theorem cR {X:L2.Cx} {x:PySem.Str} {p:PySem.Pos} {pos:PySem.Pos} {e:PySem.Expr} {es:List PySem.Expr} {t:L2.TA} {id:String} {r:List L2.V -> L2.Hp -> L2.VK -> Prop} (h9:L2.o3 X (PySem.Value.builtin id) r) (h10:L2.Gl X x) (h11:X.mg x = Option.none) (h12:PySem.bootBuiltins x = Option.some (PySem.Value.builtin id)) (h13:L2.QA X (e ::es) t) (h14:x ≠ PySem.Str.ofString "__name__":=by first | rfl | decide | exact .inl rfl | exact .inr rfl | exact .inr (.inl rfl) | exact .inr (.inr rfl) | assumption | (intro _; rfl) | with_unfolding_all rfl) (h15:(x == PySem.Str.ofString "__debug__") = Bool.false:=by first | rfl | decide | exact .inl rfl | exact .inr rfl | exact .inr (.inl rfl) | exact .inr (.inr rfl) | assumption | (intro _; rfl) | with_unfolding_all rfl) (h16:PySem.starEach (e ::es) X.env = (Bool.false,PySem.eval e X.env) ::PySem.starEach es X.env:=by first | rfl | decide | exact .inl rfl | exact .inr rfl | exact .inr (.inl rfl) | exact .inr (.inr rfl) | assumption | (intro _; rfl) | with_unfolding_all rfl) (h17:(List.any (PySem.backTo pos (PySem.starEach es X.env)) fun x=>x.fst) = Bool.false:=by first | rfl | decide | exact .inl rfl | exact .inr rfl | exact .inr (.inl rfl) | exact .inr (.inr rfl) | assumption | (intro _; rfl) | with_unfolding_all rfl):L2.QE X (PySem.Expr.Call (PySem.Expr.Name x p) (e ::es) [] pos) (L2.tCB r t):=⟨L2.BX h9 h10 h11 h12 h13.out h14 h15 h16 h17⟩
theorem qI {X:L2.Cx} {x:PySem.Str} {p:PySem.Pos} {pos:PySem.Pos} {e:PySem.Expr} {es:List PySem.Expr} {t:L2.TA} {T:String} {r:List L2.V -> L2.Hp -> L2.VK -> Prop} (h9:L2.o3 X (PySem.Value.type T) r) (h10:L2.Gl X x) (h11:X.mg x = Option.none) (h12:PySem.bootBuiltins x = Option.some (PySem.Value.type T)) (h13:L2.QA X (e ::es) t) (h14:x ≠ PySem.Str.ofString "__name__":=by first | rfl | decide | exact .inl rfl | exact .inr rfl | exact .inr (.inl rfl) | exact .inr (.inr rfl) | assumption | (intro _; rfl) | with_unfolding_all rfl) (h15:(x == PySem.Str.ofString "__debug__") = Bool.false:=by first | rfl | decide | exact .inl rfl | exact .inr rfl | exact .inr (.inl rfl) | exact .inr (.inr rfl) | assumption | (intro _; rfl) | with_unfolding_all rfl) (h16:PySem.starEach (e ::es) X.env = (Bool.false,PySem.eval e X.env) ::PySem.starEach es X.env:=by first | rfl | decide | exact .inl rfl | exact .inr rfl | exact .inr (.inl rfl) | exact .inr (.inr rfl) | assumption | (intro _; rfl) | with_unfolding_all rfl) (h17:(List.any (PySem.backTo pos (PySem.starEach es X.env)) fun x=>x.fst) = Bool.false:=by first | rfl | decide | exact .inl rfl | exact .inr rfl | exact .inr (.inl rfl) | exact .inr (.inr rfl) | assumption | (intro _; rfl) | with_unfolding_all rfl):L2.QE X (PySem.Expr.Call (PySem.Expr.Name x p) (e ::es) [] pos) (L2.tCB r t):=⟨L2.AO h9 h10 h11 h12 h13.out h14 h15 h16 h17⟩
theorem uU {X:L2.Cx} {o:PySem.Expr} {e:PySem.Expr} {es:List PySem.Expr} {to:L2.TE} {t:L2.TA} {name:PySem.Str} {apos:PySem.Pos} {cpos:PySem.Pos} {T:String} {id:String} {r:L2.V -> List L2.V -> L2.Hp -> L2.VK -> Prop} (h12:PySem.PlainAttrs T) (h13:PySem.Slot T name id) (h14:PySem.typeOf (PySem.Value.builtin id) = Pure.pure (PySem.Value.type "method_descriptor")) (h15:L2.MtR X id r) (h16:L2.QE X o to) (h17:L2.QA X (e ::es) t) (h18:PySem.attributeBase o name X.env (PySem.eval o X.env) = PySem.eval o X.env:=by first | rfl | decide | exact .inl rfl | exact .inr rfl | exact .inr (.inl rfl) | exact .inr (.inr rfl) | assumption | (intro _; rfl) | with_unfolding_all rfl) (h19:(((List.all (PySem.backTo cpos (PySem.starEach (e ::es) X.env)) fun x=>!x.fst) && List.all (PySem.backToKw cpos (PySem.keywordEach [] X.env)) fun x=>Option.isSome x.fst) && Decidable.decide ((List.length (e ::es) + List.length ([]:List Keyword) + if List.isEmpty ([]:List Keyword) = Bool.true then 0 else 1) < 30)) = Bool.true:=by first | rfl | decide | exact .inl rfl | exact .inr rfl | exact .inr (.inl rfl) | exact .inr (.inr rfl) | assumption | (intro _; rfl) | with_unfolding_all rfl) (h20:(apos.endLine == cpos.line) = Bool.true:=by first | rfl | decide | exact .inl rfl | exact .inr rfl | exact .inr (.inl rfl) | exact .inr (.inr rfl) | assumption | (intro _; rfl) | with_unfolding_all rfl) (h21:PySem.starEach (e ::es) X.env = (Bool.false,PySem.eval e X.env) ::PySem.starEach es X.env:=by first | rfl | decide | exact .inl rfl | exact .inr rfl | exact .inr (.inl rfl) | exact .inr (.inr rfl) | assumption | (intro _; rfl) | with_unfolding_all rfl) (h22:(List.any (PySem.backTo cpos (PySem.starEach es X.env)) fun x=>x.fst) = Bool.false:=by first | rfl | decide | exact .inl rfl | exact .inr rfl | exact .inr (.inl rfl) | exact .inr (.inr rfl) | assumption | (intro _; rfl) | with_unfolding_all rfl):L2.QE X (PySem.Expr.Call (PySem.Expr.Attribute o name apos) (e ::es) [] cpos) (L2.tBM X.K T r to t):=⟨L2.IL h12 h13 h14 h15 h16.out h17.out h18 h19 h20 h21 h22⟩
theorem BN {X:L2.Cx} {o:PySem.Expr} {to:L2.TE} {name:PySem.Str} {apos:PySem.Pos} {cpos:PySem.Pos} {T:String} {id:String} {r:L2.V -> List L2.V -> L2.Hp -> L2.VK -> Prop} (h9:PySem.PlainAttrs T) (h10:PySem.Slot T name id) (h11:PySem.typeOf (PySem.Value.builtin id) = Pure.pure (PySem.Value.type "method_descriptor")) (h12:L2.MtR X id r) (h13:L2.QE X o to) (h14:PySem.attributeBase o name X.env (PySem.eval o X.env) = PySem.eval o X.env:=by first | rfl | decide | exact .inl rfl | exact .inr rfl | exact .inr (.inl rfl) | exact .inr (.inr rfl) | assumption | (intro _; rfl) | with_unfolding_all rfl) (h15:(apos.endLine == cpos.line) = Bool.true:=by first | rfl | decide | exact .inl rfl | exact .inr rfl | exact .inr (.inl rfl) | exact .inr (.inr rfl) | assumption | (intro _; rfl) | with_unfolding_all rfl):L2.QE X (PySem.Expr.Call (PySem.Expr.Attribute o name apos) [] [] cpos) (L2.G6 X.K T r to):=⟨L2.GJ h9 h10 h11 h12 h13.out h14 h15⟩
theorem oH {X:L2.Cx} {e:PySem.Expr} {te:L2.TE} (h3:L2.QE X e te):L2.QO X (Option.some e) (L2.Br te):=⟨L2.E0 h3.out⟩
theorem ak {X:L2.Cx}:L2.QA X [] L2.m6:=⟨L2.GI ⟩
theorem aa {X:L2.Cx} {e:PySem.Expr} {es:List PySem.Expr} {te:L2.TE} {t:L2.TA} (h5:L2.QE X e te) (h6:L2.QA X es t) (h7:L2.E.isStar e = Bool.false:=by first | rfl | decide | exact .inl rfl | exact .inr rfl | exact .inr (.inl rfl) | exact .inr (.inr rfl) | assumption | (intro _; rfl) | with_unfolding_all rfl):L2.QA X (e ::es) (L2.kG te t):=⟨L2.E.BG h5.out h6.out h7⟩
theorem aB {X:L2.Cx} {a:PySem.Expr} {b:PySem.Expr} {ta:L2.TE} {tb:L2.TE} {pos:PySem.Pos} {op:PySem.CmpOp} {r:L2.R2} (h8:L2.OpR X (PySem.compareOp op) r) (h9:L2.QE X a ta) (h10:L2.QE X b tb) (h11:PySem.behindInMarks op b = Bool.false):L2.QT X (PySem.Expr.Compare a [op] [b] pos) (L2.xQ (L2.tOp r ta tb)):=⟨L2.E8 h8 h9.out h10.out h11⟩
theorem jL {X:L2.Cx} {a:PySem.Expr} {b:PySem.Expr} {c:PySem.Expr} {ta:L2.TE} {tb:L2.TE} {tc:L2.TE} {pos:PySem.Pos} {op:PySem.CmpOp} {op':PySem.CmpOp} {r:L2.R2} {r':L2.R2} (h12:L2.OpR X (PySem.compareOp op) r) (h13:L2.OpR X (PySem.compareOp op') r') (h14:L2.QE X a ta) (h15:L2.QE X b tb) (h16:L2.QE X c tc) (h17:PySem.lastMarks [op,op'] [b,c] = Bool.false:=by first | rfl | decide | exact .inl rfl | exact .inr rfl | exact .inr (.inl rfl) | exact .inr (.inr rfl) | assumption | (intro _; rfl) | with_unfolding_all rfl):L2.QT X (PySem.Expr.Compare a [op,op'] [b,c] pos) (L2.xQ (L2.tS r r' ta tb tc)):=⟨L2.Bs h12 h13 h14.out h15.out h16.out h17⟩
theorem vD {X:L2.Cx} {a:PySem.Expr} {pos:PySem.Pos} {tA:L2.TT} (h4:L2.QT X a tA):L2.QT X (PySem.Expr.UnaryOp PySem.UnaryOp.Not a pos) (L2.Du tA):=⟨L2.HX h4.out⟩
theorem fh {X:L2.Cx} {a:PySem.Expr} {ta:L2.TE} (h3:L2.QE X a ta) (h4:∀ (whole:PySem.Sem PySem.Value),
 PySem.isTrue a X.env whole = do
  let v <- whole
  PySem.standAt (PySem.Expr.pos a)
  PySem.holding [v] (PySem.truthy v)):L2.QT X a fun σ H Q=>ta σ H fun x H'=>∃ k,L2.yF X.K x H' k /\ Q k H':=⟨L2.BJ h3.out h4⟩
theorem pU {X:L2.Cx} {e:PySem.Expr} {t:L2.TT} (h3:L2.QW X e t):L2.QT X e t:=⟨L2.PW.pt h3.out⟩
theorem qp {X:L2.Cx} {a:PySem.Expr} {pos:PySem.Pos} {tA:L2.TT} (h4:L2.QT X a tA):L2.QW X (PySem.Expr.BoolOp PySem.BoolOp.And [a] pos) tA:=⟨L2.DC h4.out⟩
theorem u3 {X:L2.Cx} {a:PySem.Expr} {pos:PySem.Pos} {tA:L2.TT} (h4:L2.QT X a tA):L2.QW X (PySem.Expr.BoolOp PySem.BoolOp.Or [a] pos) tA:=⟨L2.G3 h4.out⟩
theorem nZ {X:L2.Cx} {a:PySem.Expr} {b:PySem.Expr} {pos:PySem.Pos} {tA:L2.TT} {tB':L2.TT} {rest:List PySem.Expr} (h7:L2.QT X a tA) (h8:L2.QW X (PySem.Expr.BoolOp PySem.BoolOp.And (b ::rest) pos) tB'):L2.QW X (PySem.Expr.BoolOp PySem.BoolOp.And (a ::b ::rest) pos) (L2.G9 tA tB'):=⟨L2.Hn h7.out h8.out⟩
theorem zt {X:L2.Cx} {a:PySem.Expr} {b:PySem.Expr} {pos:PySem.Pos} {tA:L2.TT} {tB':L2.TT} {rest:List PySem.Expr} (h7:L2.QT X a tA) (h8:L2.QW X (PySem.Expr.BoolOp PySem.BoolOp.Or (b ::rest) pos) tB'):L2.QW X (PySem.Expr.BoolOp PySem.BoolOp.Or (a ::b ::rest) pos) (L2.tOr tA tB'):=⟨L2.IM h7.out h8.out⟩
theorem mf {X:L2.Cx} {tg:PySem.Expr} {a:PySem.Expr} {ta:L2.TA} {p:PySem.Pos} {pos:PySem.Pos} (h6:L2.Gl X (PySem.Str.ofString "range")) (h7:X.mg (PySem.Str.ofString "range") = Option.none) (h8:L2.QA X [a] ta) (h9:PySem.starEach [a] X.env = [(Bool.false,PySem.eval a X.env)]:=by first | rfl | decide | exact .inl rfl | exact .inr rfl | exact .inr (.inl rfl) | exact .inr (.inr rfl) | assumption | (intro _; rfl) | with_unfolding_all rfl):L2.QI X tg (PySem.Expr.Call (PySem.Expr.Name (PySem.Str.ofString "range") p) [a] [] pos) (L2.zM ta):=⟨L2.AJ h6 h7 h8.out h9⟩
theorem mR {X:L2.Cx} {tg:PySem.Expr} {l:PySem.Expr} {tl:L2.TE} (h4:L2.QE X l tl):L2.QI X tg l (L2.xk X.K tl):=⟨L2.Eo h4.out⟩
theorem HA {X:L2.Cx} {tg:PySem.Expr} {l:PySem.Expr} {tl:L2.TE} (h4:L2.QE X l tl):L2.QI X tg l (L2.HQ X.K tl):=⟨L2.Hh h4.out⟩
theorem aX {X:L2.Cx} {pos:PySem.Pos} {i:Nat} {x:PySem.Str} {e:PySem.Expr} {te:L2.TE} {pos':PySem.Pos} (h7:List.Nodup X.N) (h8:X.N[i]? = Option.some x) (h9:L2.Loc X.env.scope x) (h10:L2.QE X e te) (h11:PySem.swapsWith e (Option.some (PySem.Expr.Name x pos')) pos.line X.env = Pure.pure Bool.false:=by first | rfl | decide | exact .inl rfl | exact .inr rfl | exact .inr (.inl rfl) | exact .inr (.inr rfl) | assumption | (intro _; rfl) | with_unfolding_all rfl) (h12:X.fn x = Bool.true \/ List.lookup x X.env.scope.names = Option.some PySem.NameKind.local:=by first | rfl | decide | exact .inl rfl | exact .inr rfl | exact .inr (.inl rfl) | exact .inr (.inr rfl) | assumption | (intro _; rfl) | with_unfolding_all rfl):L2.QS X (PySem.Stmt.Assign [PySem.Expr.Name x pos'] e pos) (L2.ur te (L2.lp i)):=⟨L2.G5 h7 h8 h9 h10.out h11 h12⟩
theorem HG {X:L2.Cx} {pos:PySem.Pos} {tg:PySem.Expr} {e:PySem.Expr} {te:L2.TE} {g:L2.TG} (h6:L2.QE X e te) (h7:L2.QG X tg g) (h8:PySem.swapsWithSole [tg] e pos.line X.env = Pure.pure Bool.false:=by first | rfl | decide | exact .inl rfl | exact .inr rfl | exact .inr (.inl rfl) | exact .inr (.inr rfl) | assumption | (intro _; rfl) | with_unfolding_all rfl) (h9:PySem.swappedStores [tg] e X.env = Pure.pure Option.none:=by first | rfl | decide | exact .inl rfl | exact .inr rfl | exact .inr (.inl rfl) | exact .inr (.inr rfl) | assumption | (intro _; rfl) | with_unfolding_all rfl) (h10:List.map (fun x=>x.snd) (PySem.assignEach [tg] X.env) = [PySem.assign tg X.env]:=by first | rfl | decide | exact .inl rfl | exact .inr rfl | exact .inr (.inl rfl) | exact .inr (.inr rfl) | assumption | (intro _; rfl) | with_unfolding_all rfl):L2.QS X (PySem.Stmt.Assign [tg] e pos) (L2.ur te g):=⟨L2.F6 h6.out h7.out h8 h9 h10⟩
theorem n9 {X:L2.Cx} {pos:PySem.Pos} {i:Nat} {x:PySem.Str} {e:PySem.Expr} {te:L2.TE} {op:PySem.Operator} {ti:L2.TIp} {pos':PySem.Pos} (h9:List.Nodup X.N) (h10:X.N[i]? = Option.some x) (h11:L2.Loc X.env.scope x) (h12:L2.QE X e te) (h13:L2.PIp X op ti) (h14:X.fn x = Bool.true \/ List.lookup x X.env.scope.names = Option.some PySem.NameKind.local:=by first | rfl | decide | exact .inl rfl | exact .inr rfl | exact .inr (.inl rfl) | exact .inr (.inr rfl) | assumption | (intro _; rfl) | with_unfolding_all rfl):L2.QS X (PySem.Stmt.AugAssign (PySem.Expr.Name x pos') op e pos) (L2.Ee i te ti):=⟨L2.Hf h9 h10 h11 h12.out h13 h14⟩
theorem bj {X:L2.Cx} {t:L2.TS} {u:L2.TS} {pos:PySem.Pos} {c:PySem.Expr} {a:List PySem.Stmt} {b:List PySem.Stmt} {tc:L2.TT} (h8:L2.QT X c tc) (h9:L2.QSs X a t) (h10:L2.QSs X b u):L2.QS X (PySem.Stmt.If c a b pos) (L2.Eh tc t u):=⟨L2.JB h8.out h9.out h10.out⟩
theorem aA {X:L2.Cx} {e:PySem.Expr} {te:L2.TE} {pos:PySem.Pos} (h4:L2.QE X e te):L2.QS X (PySem.Stmt.Return (Option.some e) pos) (L2.Ej te):=⟨L2.Gw h4.out⟩
theorem lH {X:L2.Cx} {e:PySem.Expr} {te:L2.TE} {pos:PySem.Pos} (h4:L2.QE X e te) (h5:PySem.swapsWith e Option.none pos.line X.env = Pure.pure Bool.false:=by first | rfl | decide | exact .inl rfl | exact .inr rfl | exact .inr (.inl rfl) | exact .inr (.inr rfl) | assumption | (intro _; rfl) | with_unfolding_all rfl):L2.QS X (PySem.Stmt.Expr e pos) (L2.uy te):=⟨L2.Eg h4.out h5⟩
theorem lb {X:L2.Cx} {pos:PySem.Pos} {c:PySem.Expr} {body:List PySem.Stmt} {tc:L2.TT} {tb:L2.TS} (h6:PySem.PassesOwn (PySem.model X.prog X.w) X.A X.env X.xe) (h7:L2.QT X c tc) (h8:L2.QSs X body tb):L2.QS X (PySem.Stmt.While c body [] pos) (L2.yH tc tb):=⟨L2.Cn h6 h7.out h8.out⟩
theorem pE {X:L2.Cx} {tg:PySem.Expr} {iter:PySem.Expr} {body:List PySem.Stmt} {wi:L2.TI} {g:L2.TG} {tb:L2.TS} {pos:PySem.Pos} (h8:PySem.PassesOwn (PySem.model X.prog X.w) X.A X.env X.xe) (h9:X.calm = Bool.true) (h10:L2.QI X tg iter wi) (h11:L2.QG X tg g) (h12:L2.QSs X body tb) (h13:∀ (x:PySem.Value),PySem.foldedSetIterable iter X.env x = Pure.pure x:=by first | rfl | decide | exact .inl rfl | exact .inr rfl | exact .inr (.inl rfl) | exact .inr (.inr rfl) | assumption | (intro _; rfl) | with_unfolding_all rfl):L2.QS X (PySem.Stmt.For tg iter body [] pos) (L2.Cj wi g tb):=⟨L2.GC h8 h9 h10.out h11.out h12.out h13⟩
theorem B2 {X:L2.Cx} {x:PySem.Str} {np:PySem.Pos} {cpos:PySem.Pos} {pos:PySem.Pos} {e₀:PySem.Expr} {rest:List PySem.Expr} {t:L2.TA} {W:L2.E.XW} {C:PySem.Addr} {B:String} {newId:String} {initId:String} {bm:List PySem.Value} (h14:L2.E.Thr X W) (h15:X.A.handled = Option.none) (h16:PySem.ExcBaseFacts B newId initId bm) (h17:L2.Gl X x) (h18:X.mg x = Option.some (PySem.Value.ref C)) (h19:PySem.W.excIn X.K C bm newId = Bool.true) (h20:L2.QA X (e₀ ::rest) t) (h21:PySem.starEach (e₀ ::rest) X.env = (Bool.false,PySem.eval e₀ X.env) ::PySem.starEach rest X.env:=by first | rfl | decide | exact .inl rfl | exact .inr rfl | exact .inr (.inl rfl) | exact .inr (.inr rfl) | assumption | (intro _; rfl) | with_unfolding_all rfl) (h22:(List.any (PySem.backTo cpos (PySem.starEach rest X.env)) fun x=>x.fst) = Bool.false:=by first | rfl | decide | exact .inl rfl | exact .inr rfl | exact .inr (.inl rfl) | exact .inr (.inr rfl) | assumption | (intro _; rfl) | with_unfolding_all rfl) (h23:(x == PySem.Str.ofString "__debug__") = Bool.false:=by first | rfl | decide | exact .inl rfl | exact .inr rfl | exact .inr (.inl rfl) | exact .inr (.inr rfl) | assumption | (intro _; rfl) | with_unfolding_all rfl):L2.QS X (PySem.Stmt.Raise (Option.some (PySem.Expr.Call (PySem.Expr.Name x np) (e₀ ::rest) [] cpos)) Option.none pos) (L2.E.yd C W t):=⟨L2.E.BP h14 h15 h16 h17 h18 h19 h20.out h21 h22 h23⟩
theorem B9 {X:L2.Cx} {x:PySem.Str} {n:PySem.Str} {np:PySem.Pos} {hpos:PySem.Pos} {pos:PySem.Pos} {body:List PySem.Stmt} {suite:List PySem.Stmt} {b₀:PySem.Stmt} {tb:L2.E.XW -> L2.TS} {ts:L2.TS} {T:PySem.Addr} {W₀:L2.E.XW} {i:Nat} (h14:X.stack = X.env ::X.outer /\ X.env.frame = Option.some X.env.locals) (h15:List.Nodup X.N) (h16:X.N[i]? = Option.some n) (h17:List.lookup n X.env.scope.names = Option.some PySem.NameKind.local) (h18:∀ (pn:List (PySem.Addr × PySem.Obj)) (xe:PySem.Value -> PySem.Shared -> Prop) (W:L2.E.XW),L2.E.Thr (L2.E.tY X pn xe) W -> PySem.PassesOwn (PySem.model X.prog X.w) X.A X.env xe -> L2.QSs (L2.E.tY X pn xe) body (tb W)) (h19:L2.Gl X x) (h20:X.mg x = Option.some (PySem.Value.ref T)) (h21:∀ (a:PySem.Addr),L2.QSs (L2.E.hand X a) (b₀ ::suite) ts) (h22:L2.E.Thr X W₀) (h23:(x == PySem.Str.ofString "__debug__") = Bool.false:=by first | rfl | decide | exact .inl rfl | exact .inr rfl | exact .inr (.inl rfl) | exact .inr (.inr rfl) | assumption | (intro _; rfl) | with_unfolding_all rfl):L2.QS X (PySem.Stmt.Try body [PySem.ExceptHandler.ExceptHandler (Option.some (PySem.Expr.Name x np)) (Option.some n) (b₀ ::suite) hpos] [] [] pos) (L2.E.GR X.K tb T ts (Option.some i) W₀):=⟨L2.E.Bo h14 h15 h16 h17 (fun z0 z1 z2 z3 z4=>(h18 z0 z1 z2 z3 z4).out) h19 h20 (fun z0=>(h21 z0).out) h22 h23⟩
theorem lM {X:L2.Cx} {pos:PySem.Pos} {i:Nat} {x:PySem.Str} (h4:List.Nodup X.N) (h5:X.N[i]? = Option.some x) (h6:L2.Loc X.env.scope x) (h7:X.fn x = Bool.true \/ List.lookup x X.env.scope.names = Option.some PySem.NameKind.local:=by first | rfl | decide | exact .inl rfl | exact .inr rfl | exact .inr (.inl rfl) | exact .inr (.inr rfl) | assumption | (intro _; rfl) | with_unfolding_all rfl):L2.QG X (PySem.Expr.Name x pos) (L2.lp i):=⟨L2.EB h4 h5 h6 h7⟩
theorem aH {X:L2.Cx}:L2.QSs X [] L2.BO:=⟨L2.DO ⟩
theorem aq {X:L2.Cx} {st:PySem.Stmt} {t:L2.TS} (h3:L2.QS X st t):L2.QSs X [st] t:=⟨L2.zS h3.out⟩
theorem ai {X:L2.Cx} {st:PySem.Stmt} {rest:List PySem.Stmt} {t:L2.TS} {u:L2.TS} (h5:L2.QS X st t) (h6:L2.QSs X rest u):L2.QSs X (st ::rest) (L2.F5 t u):=⟨L2.BQ h5.out h6.out⟩
end L2.E
namespace L2.P
open PySem PySem.Spec PyProof.Rows L2 L2.E
theorem eR {K:PySem.W.Frag} {cls:String -> Option Addr} {P:Program} {w:World} {mg:Str -> Option Value} {base:Heap} {x qual:Str} {st:Stmt} {f:Addr} {fd:FuncData} {N ps:List Str} {k:Nat} {m:ag -> OS} (F:Fun K x qual st f fd) (Sc:aU N ps (av st))
  (hbody:∀ (cdv:Value) (A:Around) (outer:List Env) (s:Shared) (H:Hp) (E:XK),iN k (A.deeper (envOfC qual (av st) s.heap.objs.size f cdv)) ->
    ∃ t,QSs (pZ (CXE P w) P w K mg base N qual (av st) f cdv A outer s H E) (aT st) t /\ JS K cls (fun C a _ H=>∀ H',aJ H H' -> E C a H') t m):cb P w K mg base (CXE P w) (k + 1) f fd ps (spP K cls (fnP ps.length N.length m)):=
 Le F Sc fun cdv A outer s H E hr=>let ⟨t,h1,h2⟩:=hbody cdv A outer s H E hr; ⟨t,h1.out,h2⟩
end L2.P
namespace L2.E
open PySem PySem.Spec PyProof.Rows L2
end L2.E
namespace L2.P
open PySem PySem.Spec PyProof.Rows L2 L2.E
end L2.P
namespace L2.E
open PySem PySem.Spec PyProof.Rows L2
noncomputable def dz:List Value:=[.type "ValueError",.type "Exception",.type "BaseException",.type "object"]
noncomputable def dD:List Value -> Bool
 | .ref _ ::r=>dD r
 | l=>l == dz
theorem my {c:Addr} {r:List Value}:dD (.ref c ::r) = dD r:=by simp [dD]
theorem so:∀ {l:List Value},dD l = true -> l.contains (.type "object") = true /\ l.contains (.type "BaseException") = true /\ l.isEmpty = false
 | .ref c ::r,e=>by
   rw [my] at e
   obtain ⟨h1,h2,h3⟩:=so e
   exact ⟨by rw [List.contains_cons,h1,Bool.or_true],by rw [List.contains_cons,h2,Bool.or_true],rfl⟩
 | [],e=>by simp [dD,dz] at e
 | .type n ::r,e=>by
   have e':(Value.type n ::r) = dz:=by simpa [dD] using e
   rw [e']; decide
 | .none ::r,e=>by simp [dD,dz] at e
 | .bool b ::r,e=>by simp [dD,dz] at e
 | .int i t ::r,e=>by simp [dD,dz] at e
 | .str i t ::r,e=>by simp [dD,dz] at e
 | .builtin i ::r,e=>by simp [dD,dz] at e
 | .float i t ::r,e=>by simp [dD,dz] at e
 | .bytes i t ::r,e=>by simp [dD,dz] at e
 | .ellipsis ::r,e=>by simp [dD,dz] at e
theorem sq (self:Value):∀ {l:List Value},dD l = true -> refuseLoop self "__setattr__" l = pure ()
 | .ref c ::r,e=>by rw [refuseLoop_ref]; exact sq self (by rw [my] at e; exact e)
 | [],e=>by simp [dD,dz] at e
 | .type n ::r,e=>by
   have e':(Value.type n ::r) = dz:=by simpa [dD] using e
   rw [e']; exact PySem.F.store_ValueError.passes self
 | .none ::r,e=>by simp [dD,dz] at e
 | .bool b ::r,e=>by simp [dD,dz] at e
 | .int i t ::r,e=>by simp [dD,dz] at e
 | .str i t ::r,e=>by simp [dD,dz] at e
 | .builtin i ::r,e=>by simp [dD,dz] at e
 | .float i t ::r,e=>by simp [dD,dz] at e
 | .bytes i t ::r,e=>by simp [dD,dz] at e
 | .ellipsis ::r,e=>by simp [dD,dz] at e
noncomputable def tX (K:PySem.W.Frag) (C:Addr):Bool:=(PySem.W.clsIn K C).any fun cd=>dD cd.mro
structure zc (K:PySem.W.Frag) (C:Addr) (f:Str):Prop where
 hd:PySem.W.hasDictIn K C = true
 mr:tX K C = true
 sa:PySem.W.findIn K (.ref C) "__setattr__" = some (some (.builtin "object.__setattr__"))
 ga:PySem.W.findIn K (.ref C) "__getattribute__" = some (some (.builtin "BaseException.__getattribute__"))
 gt:PySem.W.findIn K (.ref C) "__getattr__" = some none
 na:PySem.W.findIn K (.ref C) f = some none
section
variable {prog:Program} {w:World} {A:Around} {E:Value -> Shared -> Prop} {s:Shared} {K:PySem.W.Frag} {x C:Addr} {name:Str} {v:Value}
open PySem.W in
theorem LF {ox:Obj} {od:Option Obj} {tk:Tok} {R:Result -> Shared -> Prop} (X:K.In s.heap) (I:InstAt s.heap x ox C od) (c:zc K C name)
  (h:wpAny (model prog w) A.in1 (Builtin.ObjectAttr.storeInOwnDict (.ref x) (.ref C) (.str name tk) name v false)
    (fun fin s'=>match fin with | .done f=>R (.ok f) s' | .again c'=>c'.quiet = true /\ codeAny (model prog w) A c' R s') (fun e s'=>R (.error e) s') s):
  codeAny (model prog w) A (.call (.builtin "object.__setattr__") ⟨[.ref x,.str name tk,v],[]⟩) R s:=by
 have SF:=PySem.F.store_object
 obtain ⟨cd,hc,ho⟩:=any_some (show (clsIn K C).any (fun cd=>dD cd.mro) = true from c.mr)
 obtain ⟨q1,q2,q3⟩:=so ho
 have sub:Looks (model prog w) s.heap (isInstance (.ref x) (.type "object")) true:=I.type.andThen (looks_mroIn X (by unfold mroIn; rw [hc,Option.bind_some,if_neg (by rw [q3]; decide),q1]))
 refine codeAny_call_builtin SF.slot.plain SF.entry (@check_slot (model prog w) _ _ s "object.__setattr__" "object" "__setattr__" (.ref x) [.str name tk,v] [] _ SF.kind SF.split sub (SF.args (.ref x) (.str name tk) v) ?_)
 have hm:Looks (model prog w) s.heap (mroOf (.ref C)) cd.mro:=(looks_clsIn X hc).andThen .now
 rw [osa_eq,refuse_eq]
 refine wpAny_bind (wpAny_bind (I.type.here (wpAny_bind (hm.here ?_))))
 rw [sq _ ho]
 exact wpAny_pure (wpAny_bind (I.type.here (wpAny_bind ((looks_findIn X c.na).here (wpAny_bind (Looks.here (r:=none) .now h))))))
open PySem.W in
theorem K7 {ox:Obj} {vs:Array Value} {Q:Unit -> Shared -> Prop} (X:K.In s.heap) (hx:s.heap.get? x = some ox) (hcls:ox.cls = .ref C) (hdict:ox.dict = none) (hdat:ox.data = .fields vs) (c:zc K C name)
  (h:∀ h',h'.get? x = some { ox with dict:=some s.heap.objs.size } -> h'.Ns1 s.heap.objs.size (fun y=>if y = name then some v else none) -> (∀ b o,b ≠ x -> s.heap.get? b = some o -> h'.get? b = some o) -> Q () { s with heap:=h',toks:=s.toks + 2 }):
  wpAny (model prog w) A (setAttr (.ref x) name v) Q E s:=by
 obtain ⟨oc,odi,oda,osl⟩:=ox
 dsimp only at hcls hdict hdat
 subst hcls hdict hdat
 have I:InstAt s.heap x ⟨.ref C,none,.fields vs,osl⟩ C none:=⟨hx,rfl,rfl,trivial⟩
 refine set_plain X I c.sa (LF (s:={ s with toks:=s.toks + 1 }) X I c ?_)
 obtain ⟨cd,hc,hd'⟩:=any_some c.hd
 have ne:s.heap.objs.size ≠ x:=Nat.ne_of_gt (Heap.lt_size hx)
 refine wpAny_bind (wpAny_pure (wpAny_bind (wpAny_bind (wpAny_loadPart hx (wpAny_bind (Looks.here (s:={ s with toks:=s.toks + 1 }) (looks_clsIn X hc) ?_))))))
 rw [hd']
 refine wpAny_bind (wpAny_alloc ?_)
 have hx1:(s.heap.push { cls:=.type "dict",data:=.dict #[] }).get? x = some ⟨.ref C,none,.fields vs,osl⟩:=Heap.get?_push_of_some _ hx
 refine wpAny_bind (wpAny_update hx1 ?_)
 refine wpAny_pure (a:=some s.heap.objs.size) (wpAny_bind (wpAny_pure (wpAny_bind ?_)))
 have e1:(s.heap.push { cls:=.type "dict",data:=.dict #[] }).get? s.heap.objs.size = some { cls:=.type "dict",data:=.dict #[] }:=Heap.get?_push_size s.heap rfl
 have e2:((s.heap.push { cls:=.type "dict",data:=.dict #[] }).update x fun o=>{ o with dict:=some s.heap.objs.size }).get? s.heap.objs.size = some { cls:=.type "dict",data:=.dict #[] }:=
  (Heap.get?_update_other _ _ (Ne.symm ne)).trans e1
 have n1:Heap.Ns1 ((s.heap.push { cls:=.type "dict",data:=.dict #[] }).update x fun o=>{ o with dict:=some s.heap.objs.size }) s.heap.objs.size (fun _=>none):=
  Heap.Ns1.of_empty ⟨_,#[],_,e2,rfl,(fun e he=>absurd he (by simp)),fun _=>rfl⟩
 refine wpAny_nsSet1 n1 fun h' hn2 hs2=>?_
 have hw:PySem.Within (fun _=>(none:Option Value)) ([]:List Str):=fun y hy=>absurd rfl hy
 obtain ⟨oD,esD,epD,hoD,hdD,hcD⟩:=hn2.count (PySem.Within.cons name v hw)
 refine wpAny_bind (wpAny_lookBehind hoD (by rw [hdD]; exact pastItsLine_dict (Nat.le_trans hcD (by simp))) ?_)
 have hx2:((s.heap.push { cls:=.type "dict",data:=.dict #[] }).update x fun o=>{ o with dict:=some s.heap.objs.size }).get? x = some ⟨.ref C,some s.heap.objs.size,.fields vs,osl⟩:=
  Heap.get?_update_self _ hx1 rfl
 exact wpAny_pure (h h' ((hs2.2 _ (Ne.symm ne)).trans hx2) hn2 fun b o hb e=>(hs2.2 b (Nat.ne_of_lt (Heap.lt_size e))).trans ((Heap.get?_update_other _ _ (Ne.symm hb)).trans (Heap.get?_push_of_some _ e)))
end
noncomputable def Cr (a C:Addr) (dx:Option Addr) (h:Heap):Prop:=∃ o t,h.get? a = some o /\ o.cls = .ref C /\ o.dict = dx /\ o.data = .fields #[.ref t,.none,.none,.none,.bool false,.none]
noncomputable abbrev ly (a C:Addr) (dx:Option Addr):HO:=.ext (Cr a C dx)
theorem zg {P:Program} {w:World} {H:Hp} {h:Heap} {a C:Addr} {dx:Option Addr} (x:Cr a C dx h):gm P w H h a (ly a C dx):=by
 refine ⟨x,let ⟨o,_,e,_⟩:=x; ⟨o,e⟩,fun h1 h2 p k=>?_⟩
 obtain ⟨o,vs,e,r⟩:=p
 exact ⟨o,vs,k o e,r⟩
theorem Cr.exc {a C:Addr} {dx:Option Addr} {h:Heap} (x:Cr a C dx h):Cy a C dx h:=let ⟨o,t,e,c,d,f⟩:=x; ⟨o,_,e,c,d,f,rfl⟩
section
variable {X:Cx} {pins:List (Addr × Obj)} {σ:St} {H:Hp} {s:Shared} {a C:Addr} {f:Str} {A:Around} {E:Value -> Shared -> Prop}
theorem Cq {y:V} {u:Value} {Q:Unit -> Shared -> Prop} (I:Inv X pins σ H s) (e:H a = some (ly a C none)) (c:zc X.K C f) (ry:RelV y u)
  (h:∀ s' d,H d = none -> Inv X pins σ (upd (upd H a (ly a C (some d))) d (.xd [(f,y)])) s' -> Q () s'):wpAny (model X.prog X.w) A (setAttr (.ref a) f u) Q E s:=by
 obtain ⟨⟨o,tv,ho,hc,hd,hv⟩,_,_⟩:=I.hok a _ e
 refine K7 I.kIn ho hc hd hv c fun h' h1 h2 h3=>?_
 have nd:H s.heap.objs.size = none:=I.hok.fresh (Nat.le_refl _)
 have ned:∀ b ob,s.heap.get? b = some ob -> b ≠ s.heap.objs.size:=fun b ob q=>Nat.ne_of_lt (Heap.lt_size q)
 have nea:s.heap.objs.size ≠ a:=Ne.symm (ned a o ho)
 have off:∀ b,b ≠ a -> b ≠ s.heap.objs.size -> (upd (upd H a (ly a C (some s.heap.objs.size))) s.heap.objs.size (.xd [(f,y)])) b = H b:=fun b q1 q2=>by rw [ba q2,ba q1]
 have na:∀ b ob,H b = some ob -> ob ≠ ly a C none -> b ≠ a:=fun b ob q n z=>by rw [z,e] at q; exact n (Option.some.inj q).symm
 have nb:∀ b ob,H b = some ob -> b ≠ s.heap.objs.size:=fun b ob q z=>by rw [z,nd] at q; cases q
 have un:Un (frs X.stack) [] H (upd (upd H a (ly a C (some s.heap.objs.size))) s.heap.objs.size (.xd [(f,y)])) s.heap h':=by
  have keep:∀ b ob,s.heap.get? b = some ob -> H b = none -> h'.get? b = some ob:=fun b ob q n=>h3 b ob (fun z=>by rw [z,e] at n; cases n) q
  refine ⟨fun b ob q n _ _=>keep b ob q n,fun b ob q n _ _=>⟨ob.slots,keep b ob q n⟩,fun b ob q n _=>?_,fun b ob q _=>?_,fun b xs q=>?_,fun b ob xs q=>?_,fun b ps q=>⟨#[],?_⟩⟩
  . rw [off b (fun z=>by rw [z,e] at n; cases n) (ned b ob q)]; exact n
  . by_cases z:b = a
    . subst z; exact ⟨_,h1⟩
    . exact ⟨ob,h3 b ob z q⟩
  . rw [off b (na b _ q (by intro z; cases z)) (nb b _ q)]; exact q
  . rw [off b (na b _ q (by intro z; cases z)) (nb b _ q)]; exact q
  . rw [off b (na b _ q (by intro z; cases z)) (nb b _ q),q]; simp
 have hok:HOk X.prog X.w (upd (upd H a (ly a C (some s.heap.objs.size))) s.heap.objs.size (.xd [(f,y)])) h':=fun b ob q=>by
  by_cases zb:b = s.heap.objs.size
  . subst zb
    rw [bb] at q
    cases q
    refine ⟨_,h2,fun g=>?_⟩
    show bH (List.lookup g [(f,y)]) (if g = f then some u else none)
    by_cases z:g = f
    . subst z; simp [List.lookup,bH,ry]
    . have zz:(g == f) = false:=beq_eq_false_iff_ne.mpr z
      simp [List.lookup,zz,z,bH]
  . rw [ba zb] at q
    by_cases za:b = a
    . subst za
      rw [bb] at q
      cases q
      exact zg ⟨_,tv,h1,hc,rfl,hv⟩
    . rw [ba za] at q
      refine (I.hok b ob q).pJ (fun b' u' hb' r=>h3 b' u' ?_ r) (fun b' r=>?_) fun b' xs r=>?_
      . rcases hb' with z | z
        . rw [z]; exact za
        . exact na b' _ z (by intro z; cases z)
      . rw [off b' (na b' _ r (by intro z; cases z)) (nb b' _ r)]; exact r
      . rw [off b' (na b' _ r (by intro z; cases z)) (nb b' _ r)]; exact r
 exact h _ s.heap.objs.size nd (I.call (g':=s.gens) (t':=s.toks + 2) (d':=s.drawn) (ch:=[]) un hok I.bare (fun b z=>absurd z (by simp)))
end
end L2.E
namespace L2.E
open PySem PySem.Spec PyProof.Rows L2
section
variable {prog:Program} {w:World} {A:Around} {E:Value -> Shared -> Prop} {s:Shared} {K:PySem.W.Frag} {x C:Addr} {name:Str} {v:Value} {tk:Tok}
open PySem.W in
end
section
variable {prog:Program} {w:World} {A:Around} {E:Value -> Shared -> Prop} {hh:Heap} {g:Array GenState} {d:Drawn} {t:Nat} {os:OsState} {K:PySem.W.Frag} {x C:Addr} {name:Str} {v:Value} {tk:Tok}
open PySem.W in
end
section
variable {prog:Program} {w:World} {A:Around} {E:Value -> Shared -> Prop} {s:Shared} {K:PySem.W.Frag} {x C:Addr} {name:Str} {v:Value}
open PySem.W in
end
section
variable {X:Cx} {pins:List (Addr × Obj)} {σ:St} {H:Hp} {s:Shared} {a C d:Addr} {f:Str} {A:Around} {E:Value -> Shared -> Prop}
noncomputable def BV (K:PySem.W.Frag) (ta tv:TE) (f:Str):TS:=fun D σ H=>tv σ H fun y H1=>ta σ H1 fun x H2=>∃ a C,x = .ref a /\ H2 a = some (ly a C none) /\ zc K C f /\ ∀ d,H2 d = none -> D.nx σ (upd (upd H2 a (ly a C (some d))) d (.xd [(f,y)]))
theorem EF {o value:Expr} {ta tv:TE} {pos pos':Pos} (ha:PE X o ta) (hv:PE X value tv) (hs:swapsWith value (some (.Attribute o f pos')) pos.line X.env = pure false:=by rfl):PS X (.Assign [.Attribute o f pos'] value pos) (BV X.K ta tv f):=by
 intro pins s σ H D I h
 refine plainObj_wpAny_Assign_Attribute (thn (hv pins s σ H _ I h) fun u s1 ⟨y,H1,I1,ry,q⟩=>thn (ha pins s1 σ H1 _ I1 q) fun ov s2 ⟨x,H2,I2,rx,a,C,ex,ea,c,q2⟩=>?_) hs
 subst ex
 obtain rfl:ov = Value.ref a:=rx
 exact Cq I2 ea c ry fun s3 d nd I3=>⟨σ,_,I3,q2 d nd⟩
end
noncomputable def sH (C:Addr) (f:Str):Sp:=fun vs H Q _=>∃ a v,vs = [.ref a,v] /\ H a = some (ly a C none) /\ ∀ d,H d = none -> Q .non (upd (upd H a (ly a C (some d))) d (.xd [(f,v)]))
end L2.E
namespace L2.E
open PySem PySem.Spec PyProof.Rows L2
section
variable {prog:Program} {w:World} {A:Around} {E:Value -> Shared -> Prop} {h:Heap} {g:Array GenState} {d:Drawn} {t:Nat} {os:OsState} {K:PySem.W.Frag}
variable {nm q:Str} {C N:Addr} {bs bm bmB:List Value} {hdct:Bool} {sn:List Str} {sub:List Value} {ab:Bool} {col:Option Bool} {dd:Option Addr} {k0 k1 k2 k3 k5:Option Value} {B newId initId:String}
open PySem.W in
theorem Ig (F:ExcBaseFacts B newId initId bmB) (T:OwnTail h bmB bm) {rest:List Value} {fI:Addr} {oI:Obj} {Q:Fin -> Shared -> Prop} (X:K.In h)
  (hC:h.get? C = some (excClassObj nm q C N bs bm hdct sn sub ab col dd k0 k1 k2 k3 k5 newId)) (hi:findIn K (.ref C) "__init__" = some (some (.ref fI)))
  (hfI:h.get? fI = some oI) (hfc:oI.cls = .type "function")
  (hq:∀ h' e,Heap.MadeExcOf h h' e (.ref C) rest ->
    wpAny (model prog w) A (call (.ref fI) (.ref e ::rest)) (fun r s'=>r = .none /\ Q (.done (.ret (.ref e))) s') E ⟨h',g,d,t,os⟩) (hrest:rest.length <= sizeLine):
  wpAny (model prog w) A (Builtin.«type.__call__» ⟨.ref C ::rest,[]⟩) Q E ⟨h,g,d,t,os⟩:=by
 repeat (first | with_reducible refine wpAny_loadPart_at hC ?_ | with_reducible refine wpAny_madeBy_exc hC ?_ | wp_step)
 refine codeAny_call_builtin_code (Code.quiet_builtin _ F.quiet) (wpAny_check_new_subT F T hC ?_)
 refine codeAny_exc_new_subT F T hC ?_ hrest
 show wpAny _ _ _ _ _ _
 have hC₁:=Heap.get?_push_of_some { cls:=.ref C,data:=.fields #[.ref h.objs.size,.none,.none,.none,.bool false,.none] }
  (Heap.get?_push_of_some { cls:=.type "tuple",data:=.seq rest.toArray } hC)
 have hfI₁:=Heap.get?_push_of_some { cls:=.ref C,data:=.fields #[.ref h.objs.size,.none,.none,.none,.bool false,.none] }
  (Heap.get?_push_of_some { cls:=.type "tuple",data:=.seq rest.toArray } hfI)
 have X₁:K.In ((h.push { cls:=.type "tuple",data:=.seq rest.toArray }).push { cls:=.ref C,data:=.fields #[.ref h.objs.size,.none,.none,.none,.bool false,.none] }):=
  X.keeps fun b o e=>Heap.get?_push_of_some _ (Heap.get?_push_of_some _ e)
 have hget:((h.push { cls:=.type "tuple",data:=.seq rest.toArray }).push
   { cls:=.ref C,data:=.fields #[.ref h.objs.size,.none,.none,.none,.bool false,.none] }).get? (h.objs.size + 1) = some
   { cls:=.ref C,data:=.fields #[.ref h.objs.size,.none,.none,.none,.bool false,.none] }:=by heap_get
 have hcC:(Value.ref C ::bm).contains (.ref C) = true:=by simp
 unfold isInstance
 repeat (first | with_reducible refine wpAny_loadPart_at hget ?_ | (with_reducible refine wpAny_isSubtype_exc hC₁ ?_; rw [hcC]) | wp_step)
 show wpAny _ _ (typeLookup (.ref C) _) _ _ _
 refine (looks_findIn (M:=model prog w) X₁ hi).at ?_
 refine wpAny_holding (wpAny_bind ?_)
 unfold bindSpecial
 refine wpAny_bind (wpAny_typeOf (T:="function") ⟨_,hfI₁,hfc⟩ ?_)
 rw [if_pos (by decide)]
 refine wpAny_pure (wpAny_bind (wpAny_mono (hq _ (h.objs.size + 1) ⟨fun b o hb=>Heap.get?_push_of_some _ (Heap.get?_push_of_some _ hb),Heap.get?_none_of_le (Nat.le_succ _),h.objs.size,hget,Heap.get?_none_of_le (Nat.le_refl _),?_⟩) (fun r s' hr=>?_) fun _ _ x=>x))
 . exact Heap.get?_push_of_some _ (Heap.get?_push_at rfl rfl)
 . obtain ⟨rfl,hQ⟩:=hr
   wp_walk
   exact hQ
open PySem.W in
theorem CY (F:ExcBaseFacts B newId initId bmB) (T:OwnTail h bmB bm) {rest:List Value} {fI:Addr} {oI:Obj} {Q:Value -> Shared -> Prop} (X:K.In h)
  (hC:h.get? C = some (excClassObj nm q C N bs bm hdct sn sub ab col dd k0 k1 k2 k3 k5 newId)) (hi:findIn K (.ref C) "__init__" = some (some (.ref fI)))
  (hfI:h.get? fI = some oI) (hfc:oI.cls = .type "function")
  (hq:∀ h' e,Heap.MadeExcOf h h' e (.ref C) rest ->
    wpAny (model prog w) (A.under (.builtin "type.__call__" ⟨.ref C ::rest,[]⟩)) (call (.ref fI) (.ref e ::rest)) (fun r s'=>r = .none /\ Q (.ref e) s') E ⟨h',g,d,t,os⟩) (hrest:rest.length <= sizeLine):
  wpAny (model prog w) A (call (.ref C) rest) Q E ⟨h,g,d,t,os⟩:=by
 have f1:=tc_lookup
 have f2:=tc_bind (.ref C)
 have hT:(⟨h,g,d,t,os⟩:Shared).TypeIs (.ref C) "type":=⟨_,hC,rfl⟩
 refine wpAny_call (codeAny_of_tree ?_)
 show wpAny _ _ (callAny (.ref C) _) _ _ _
 repeat (any_goals (first | assumption | with_reducible refine wpAny_loadPart_at hC ?_ | wp_step))
 refine ⟨rfl,?_⟩
 refine codeAny_call_builtin_at (Code.quiet_builtin _ (by decide +kernel)) entry_typeCall (wpAny_check_type_call_sub hC (Ig F T X hC hi hfI hfc (fun h' e hm=>?_) hrest))
 exact hq h' e hm
theorem yZ {M:Model} {env:Env} {s:Shared} {x:Sem Value} {Q:Flow -> Shared -> Prop} (hbase:bm.contains (.type "BaseException") = true) (hh:A.handled = none)
  (h:wpAny M A x (fun v s₁=>∃ e dct tt sl,v = .ref e /\ s₁.heap.get? C = some (excClassObj nm q C N bs bm hdct sn sub ab col dd k0 k1 k2 k3 k5 newId) /\
    s₁.heap.get? e = some ⟨.ref C,dct,.fields #[.ref tt,.none,.none,.none,.bool false,.none],sl⟩ /\ E (.ref e) s₁) E s):
  wpAny M A (raiseStmt env (some x) none) Q E s:=by
 have hcB:(Value.ref C ::bm).contains (.type "BaseException") = true:=by rw [List.contains_cons,hbase,Bool.or_true]
 unfold raiseStmt
 refine wpAny_bind (wpAny_mono h (fun v s₁ h₁=>?_) fun _ _ x=>x)
 obtain ⟨e,dct,tt,sl,rfl,hC,he,hE⟩:=h₁
 obtain ⟨hp,g,d,tk,os⟩:=s₁
 repeat (first | with_reducible refine wpAny_loadPart_at he ?_ | with_reducible refine wpAny_loadPart_at hC ?_ | (with_reducible refine wpAny_isSubtype_exc hC ?_; rw [hcB]) | wp_step)
 exact wpAny_raiseNew_none hh hE
end
structure XMk (K:PySem.W.Frag) (mg:Str -> Option Value) (x:Str) (C fI:Addr) (bm:List Value) (f:Str):Prop where
 m:mg x = some (.ref C)
 lk:∃ nm q N bs hdct sn sub ab col dd k0 k1 k2 k3 k5,K.lookup C = some (excClassObj nm q C N bs bm hdct sn sub ab col dd k0 k1 k2 k3 k5 "ValueError.__new__")
 bx:bm.contains (.type "BaseException") = true
 tl:∀ h:Heap,K.In h -> OwnTail h dz bm
 ini:PySem.W.findIn K (.ref C) "__init__" = some (some (.ref fI))
 fn:∃ o,K.lookup fI = some o /\ o.cls = .type "function"
 xc:zc K C f
section
variable {X:Cx} {x f:Str} {np cpos pos:Pos} {e₀:Expr} {t:TA} {W:XW} {C fI:Addr} {bm:List Value} {k:Nat} {fd:FuncData} {ps:List Str}
noncomputable def va (C:Addr) (f:Str) (W:XW) (t:TA):TS:=fun D σ H=>t σ H fun vs H1=>∃ v,vs = [v] /\ ∀ a d H2,aJ H1 H2 -> H2 a = some (oM a C (some d)) -> H2 d = some (.xd [(f,v)]) -> W (.ref C) (some a) σ H2
theorem Lc {X:Cx} {pins:List (Addr × Obj)} {σ:St} {H:Hp} {s:Shared} {h':Heap} {e C:Addr} {us:List Value} (I:Inv X pins σ H s) (hm:Heap.MadeExcOf s.heap h' e (.ref C) us):
  H e = none /\ Inv X pins σ (upd H e (ly e C none)) { s with heap:=h' }:=by
 obtain ⟨t,he,_,_⟩:=hm.there
 exact ⟨vQ I hm.new,Fg I hm.keeps hm.new (zg ⟨_,t,he,rfl,rfl,rfl⟩)⟩
theorem AY (M:XMk X.K X.mg x C fI bm f) (F:cb X.prog X.w X.K X.mg X.base (CXE X.prog X.w) k fI fd ps (sH C f)) (hb:Binds X.K fd ps []) (hr:iN (k + 1) X.A) (hT:Thr X W) (hg:Gl X x) (ha:PA X [e₀] t)
  (he:isStar e₀ = false:=by rfl) (hd:(x == ("__debug__":Str)) = false:=by decide):
  PS X (.Raise (some (.Call (.Name x np) [e₀] [] cpos)) none pos) (va C f W t):=by
 intro pins s σ H D I h
 have FB:=PySem.F.excBase_ValueError
 obtain ⟨nm,q,N,bs,hdct,sn,sub,ab,col,dd,k0,k1,k2,k3,k5,lk⟩:=M.lk
 obtain ⟨oI,lI,cI⟩:=M.fn
 have hpl:(backTo cpos (starEach [e₀] X.env)).any (·.1) = false:=by rw [oz he]; rfl
 have hsp:=ha cpos pins s σ H _ I h
 rw [arm_exec_Raise]
 refine wpAny_bind (wpAny_standAt (yZ (C:=C) (nm:=nm) (q:=q) (N:=N) (bs:=bs) (bm:=bm) (hdct:=hdct) (sn:=sn) (sub:=sub) (ab:=ab) (col:=col) (dd:=dd) (k0:=k0) (k1:=k1) (k2:=k2) (k3:=k3) (k5:=k5) (newId:="ValueError.__new__") M.bx hr.hd
  (wpAny_bind (wpAny_mono (wpAny_Call_ofName (m3 I hg M.m ?_ hd)) (fun v s₃ h₃=>wpAny_bind (wpAny_standAt (wpAny_pure h₃))) fun _ _ x=>x))))
 unfold callWith
 refine wpAny_bind (wpAny_holding ?_)
 rw [oz he] at hsp
 rw [oz he]
 refine Calls.evalArgs_plain (wpAny_mono hsp (fun us s2 h2=>wpAny_bind (wpAny_standAt ?_)) fun _ _ y=>y)
 obtain ⟨vs,H2,I2,r,v,rfl,wv⟩:=h2
 obtain ⟨u,rfl,ru⟩:=vals1 r
 obtain ⟨hp,g,d,tk,os⟩:=s2
 have hpl':(backTo cpos ((false,eval e₀ X.env) ::starEach [] X.env)).any (·.1) = false:=rfl
 simp only [hpl']
 have hC:=I2.kIn _ _ lk
 refine wpAny_bind (wpAny_keeperOf_exc hC ?_)
 refine wpAny_bind (CY FB (M.tl _ I2.kIn) I2.kIn hC M.ini (I2.kIn _ _ lI) cI (fun h' e hm=>?_) (by show 1 <= sizeLine; decide))
 obtain ⟨nE,I3⟩:=Lc I2 hm
 have hsp3:sH C f [.ref e,v] (upd H2 e (ly e C none)) (fun z H4=>z = .non /\ ∃ dd,aJ H2 H4 /\ H4 e = some (ly e C (some dd)) /\ H4 dd = some (.xd [(f,v)])) (fun _ _ _=>False):=by
  refine ⟨e,v,rfl,bb,fun dd nd=>⟨rfl,dd,?_,?_,bb⟩⟩
  . have ne:dd ≠ e:=fun z=>by rw [z,bb] at nd; cases nd
    intro b o hb
    have nb:b ≠ e:=wa hb nE
    have nd2:b ≠ dd:=fun z=>by rw [z] at hb; rw [ba ne,hb] at nd; cases nd
    rw [ba nd2,ba nb,ba nb]; exact hb
  . have ne:e ≠ dd:=fun z=>by rw [<- z,bb] at nd; cases nd
    rw [ba ne,bb]
 have hl:([Value.ref e,u] ++ []).length = ps.length:=by
  have e1:=F.len _ _ _ _ hsp3
  rw [<- e1]; rfl
 refine wpAny_call (codeAny_mono (F.run _ X.stack _ _ ⟨[Value.ref e,u],[]⟩ ([Value.ref e,u] ++ []) [.ref e,v] _ _ (hr.make C [u] []) (I3.Gj.make C [u] []) (hb _ [Value.ref e,u] I3.kIn hl) (.cons rfl (.cons ru .nil)) hsp3) fun r s' hq'=>?_)
 cases r with
 | error e'=>
   obtain ⟨_,_,_,_,_,_,_,_,_,_,z⟩:=hq'
   exact z.elim
 | ok fl=>
   cases fl with
   | next=>exact False.elim hq'
   | brk=>exact False.elim hq'
   | cont=>exact False.elim hq'
   | ret u'=>
     obtain ⟨z,H4,I4,rz,ez,dd',sm,h4,h5⟩:=I3.after hq'
     subst ez
     obtain ⟨⟨o4,tt,g4,c4,d4,f4⟩,_,_⟩:=I4.hok e _ h4
     refine ⟨rz,wpAny_bind (wpAny_holding (wpAny_point (wpAny_pure ?_)))⟩
     obtain ⟨oc,od,oda,osl⟩:=o4
     dsimp only at c4 d4 f4
     subst c4 d4 f4
     refine ⟨e,some dd',tt,osl,rfl,I4.kIn _ _ lk,g4,?_⟩
     obtain ⟨hh,gg,d2,t2,o2⟩:=s'
     have I5:=I4.write (x:=e) (e:=e) (o:=oM e C (some dd')) (t':=t2) (h':=hh) (by rw [h4]; trivial) (.inl rfl) (fun b u hb q=>q) ⟨_,g4⟩ (yR (Cr.exc ⟨_,tt,g4,rfl,rfl,rfl⟩))
     have ned:dd' ≠ e:=fun z=>by rw [z,h4] at h5; cases h5
     have sm2:aJ H2 (upd H4 e (oM e C (some dd'))):=fun b o hb=>by
      have nb:b ≠ e:=wa hb nE
      rw [ba nb]; exact sm b o hb
     exact hT pins σ _ _ e C (some dd') I5 ⟨bb,_,_,g4,rfl,.inl rfl⟩ (wv e dd' _ sm2 bb (by rw [ba ned]; exact h5))
end
end L2.E
namespace L2.E
open PySem PySem.Spec PyProof.Rows L2
theorem qJ {X:Cx} {x f:Str} {np cpos pos:Pos} {e₀:Expr} {t:TA} {W:XW} {C fI:Addr} {bm:List Value} {k:Nat} {fd:FuncData} {ps:List Str} (M:XMk X.K X.mg x C fI bm f) (F:cb X.prog X.w X.K X.mg X.base (CXE X.prog X.w) k fI fd ps (sH C f)) (hb:Binds X.K fd ps []) (hr:iN (k + 1) X.A) (hT:Thr X W) (hg:Gl X x) (ha:QA X [e₀] t)
  (he:isStar e₀ = false:=by rfl) (hd:(x == ("__debug__":Str)) = false:=by decide):QS X (.Raise (some (.Call (.Name x np) [e₀] [] cpos)) none pos) (va C f W t):=⟨AY M F hb hr hT hg ha.out he hd⟩
theorem D7 {K:PySem.W.Frag} {G:Addr} {bm:List Value} (eG:nK K G bm) (q:PySem.W.excIn K G dz "ValueError.__new__" = true):∀ h:Heap,K.In h -> OwnTail h dz (.ref G ::bm):=by
 intro h Xh
 have O:=zk (mg:=fun _=>some (.ref G)) (x:="") Xh rfl q
 obtain ⟨tl,N,nm,q',bs,hdct,sn,sub,ab,col,dd,k0,k1,k2,k3,k5,mN,hc,hN,hni,T⟩:=O.obj
 obtain ⟨_,nm2,q2,N2,bs2,hd2,sn2,sub2,ab2,col2,dd2,j0,j1,j2,j3,j5,nid,lG⟩:=eG
 have e:=Xh _ _ lG
 rw [hc] at e
 have e1:tl = bm:=by
  have e':=Option.some.inj e
  unfold excClassObj at e'
  simp only [Obj.mk.injEq,Data.cls.injEq,ClassData.mk.injEq,List.cons.injEq] at e'
  exact e'.2.2.1.2.2.1.2
 subst e1
 exact OwnTail.own hc hN hni T
theorem AH {K:PySem.W.Frag} {nm q:Str} {C N:Addr} {bs bm:List Value} {hdct:Bool} {sn:List Str} {sub:List Value} {ab:Bool} {col:Option Bool} {dd:Option Addr} {k0 k1 k2 k3 k5:Option Value} {newId:String}
  (l:K.lookup C = some (excClassObj nm q C N bs bm hdct sn sub ab col dd k0 k1 k2 k3 k5 newId)) (h:dD (.ref C ::bm) = true):tX K C = true:=by
 unfold tX PySem.W.clsIn
 rw [l]
 exact h
theorem DL {P:Program} {w:World} {K:PySem.W.Frag} {mg:Str -> Option Value} {base:Heap} {C fI:Addr} {fd:FuncData} {st:Stmt} {x qual:Str} {n0 n1 f:Str} (F:Fun K x qual st fI fd) (S:aU [n0,n1] [n0,n1] (av st)) (xc:zc K C f)
  (hbody:∀ (cdv:Value) (A:Around) (outer:List Env) (s:Shared) (H:Hp) (E:XK),QSs (pZ (CXE P w) P w K mg base [n0,n1] qual (av st) fI cdv A outer s H E) (aT st) (BV K (sU 0) (sU 1) f)):
  cb P w K mg base (CXE P w) 1 fI fd [n0,n1] (sH C f):=
 okX F S (fun vs H Q E h=>by obtain ⟨a,v,rfl,_⟩:=h; rfl) fun cdv A outer s H vs Q E hr h=>by
  obtain ⟨a,v,rfl,hH,q⟩:=h
  exact ⟨_,(hbody cdv A outer s H E).out,_,rfl,_,rfl,a,C,rfl,hH,xc,fun d nd=>q d nd⟩
theorem Bl {X:Cx} {o value:Expr} {ta tv:TE} {f:Str} {pos pos':Pos} (ha:QE X o ta) (hv:QE X value tv) (hs:swapsWith value (some (.Attribute o f pos')) pos.line X.env = pure false:=by rfl):QSs X [.Assign [.Attribute o f pos'] value pos] (BV X.K ta tv f):=⟨zS (EF ha.out hv.out hs)⟩
theorem Hg {X:Cx} {o i:Expr} {to ti:TE} {t:DF} {pos:Pos} (ho:QE X o to) (hi:QE X i ti) (hs:G0 X t)
  (ha:∀ v,assign (.Subscript o i pos) X.env v = (do
    let ov <- holding [v] (eval o X.env)
    let iv <- holding [v,ov] (eval i X.env)
    standAt pos
    holding [v,ov,iv] (setItem ov iv v)
    release [v,ov,iv] []):=by intro _; rfl):QG X (.Subscript o i pos) (H0 to ti t):=⟨Ia ho.out hi.out hs ha⟩
end L2.E
namespace L2.P
open PySem PySem.Spec PyProof.Rows L2 L2.E
section
variable {K:PySem.W.Frag} {cls:String -> Option Addr} {W:XW} {S H:Hp}
theorem qE {C:Addr} {c:String} {f:Str} {t:TA} {ma:ag -> OA} (hc:cls c = some C) (ha:JA K cls W t ma):JS K cls W (va C f W t) (qx c f ma):=by
 intro Av G S₀ ρ σ S H D I p
 refine ha.goS I p fun xs vs S1 H1 I1 w1 r1 p1=>?_
 match xs,r1,p1 with
 | [x],r1,p1=>
   obtain ⟨v,r,rfl,q1,r2⟩:=r1.cons_inv
   obtain rfl:=r2.nil_inv
   exact ⟨v,rfl,fun a d H2 sm h4 h5=>p1 a C σ S1 H2 (I1.same sm) (aJ.refl _) ⟨hc,some d,h4,.inr ⟨d,[(f,v)],rfl,h5,rfl,.cons q1 .nil⟩⟩⟩
 | [],r1,p1=>exact p1.elim
 | _ ::_ ::_,r1,p1=>exact p1.elim
theorem Hj {i:Nat} {tk tv:TE} {mk mv:ag -> OE} (hk:JE K cls W tk mk) (hv:JE K cls W tv mv):JS K cls W (ur tv (H0 (sU i) tk FX)) (DW i mk mv):=by
 intro Av G S₀ ρ σ S H D I p
 unfold DW at p
 split at p
 . rename_i xs e
   refine hv Av G S₀ ρ σ S H _ I ?_
   cases em:mv ρ with
   | exc c fs=>rw [em] at p; exact fun a C S' H' w x=>p a C σ S' H' (I.grow w) w.s x
   | bad=>rw [em] at p; exact p
   | ok r=>
     rw [em] at p
     intro u S1 H1 w1 r1
     simp only [OE.bS] at p
     cases es:lS r with
     | none=>rw [es] at p; exact p.elim
     | some y=>
       rw [es] at p
       obtain ⟨S2,w2,s2,rx⟩:=r1.share w1 es
       have I2:=I.grow w2
       obtain ⟨v,e1,a,vs,rfl,h1,h2,h3,h4⟩:=I2.good i _ e
       refine ⟨_,e1,?_⟩
       refine hk.goS I2 (p.back w2.s) fun kk z S3 H3 I3 w3 r3 p3=>?_
       have rk:=r3.rd I3.sh
       cases ek:kk.pv with
       | int k=>
         rw [ek] at p3 rk
         have hz:=dJ rk
         subst hz
         dsimp only at p3
         cases ej:ixP xs.length k with
         | none=>rw [ej] at p3; exact p3.elim
         | some j=>
           rw [ej] at p3
           refine ⟨a,vs,k,j,rfl,rfl,w3.g _ _ h3,by rw [h4.length]; exact ej,?_⟩
           exact p3 σ S3 _ (I3.mut e e1 ((h4.mono w3.s).set (Rep.mono w3.s rx) j)) (aJ.refl _)
       | _=>rw [ek] at p3; exact p3.elim
 . exact p.elim
end
end L2.P
namespace L2.P
open PySem
inductive Stp where
 | ix (k:Nat) | fd (f:Str)
noncomputable def oo:List Str -> List OV -> Str -> Option OV
 | k ::ks,t ::ts,f=>if k = f then some t else oo ks ts f
 | _,_,_=>none
noncomputable def ug:List Str -> List OV -> Str -> OV -> List OV
 | k ::ks,t ::ts,f,u=>if k = f then u ::ts else t ::ug ks ts f u
 | _,ts,_,_=>ts
noncomputable def OV.at1:OV -> Stp -> Option OV
 | .ol ts,.ix k=>ts[k]?
 | .ob _ ks ts,.fd f=>oo ks ts f
 | _,_=>none
noncomputable def OV.CV:OV -> Stp -> OV -> OV
 | .ol ts,.ix k,u=>.ol (ts.set k u)
 | .ob c ks ts,.fd f,u=>.ob c ks (ug ks ts f u)
 | t,_,_=>t
noncomputable def OV.get:OV -> List Stp -> Option OV
 | t,[]=>some t
 | t,s ::π=>(t.at1 s).bind fun u=>u.get π
noncomputable def OV.put:OV -> List Stp -> OV -> OV
 | _,[],u=>u
 | t,s ::π,u=>match t.at1 s with
   | some t'=>t.CV s (t'.put π u)
   | none=>t
noncomputable def slT:Sl -> Option OV
 | .tr _ t=>some t
 | .bo t=>some t
 | _=>none
noncomputable def ky (i:Nat) (ρ:ag):Option OV:=match ρ[i]? with
 | some (some s)=>slT s
 | _=>none
abbrev MP:=ag -> Option (List Stp)
noncomputable def eQ:MP:=fun _=>some []
noncomputable def pIx (i:Nat) (mp:MP) (mk:ag -> OE):MP:=fun ρ=>match ky i ρ with
 | some t=>(match mp ρ with
   | some π=>(match t.get π with
     | some (.ol ts)=>(match mk ρ with
       | .ok r=>(match r.pv with
         | .int k=>(ixP ts.length k).map fun j=>π ++ [.ix j]
         | _=>none)
       | _=>none)
     | _=>none)
   | none=>none)
 | none=>none
noncomputable def subAt (i:Nat) (mp:MP) (ρ:ag):Option OV:=match ky i ρ with
 | some t=>(match mp ρ with
   | some π=>t.get π
   | none=>none)
 | none=>none
noncomputable def pFd (i:Nat) (mp:MP) (f:Str) (ok:String -> Bool):MP:=fun ρ=>match subAt i mp ρ with
 | some (.ob c ks ts)=>if (ok c && (oo ks ts f).isSome) = true then (mp ρ).map fun π=>π ++ [.fd f] else none
 | _=>none
noncomputable def xt:List OV -> Option (List PV)
 | []=>some []
 | .sh x ::r=>(xt r).map (x ::·)
 | _ ::_=>none
@[simp] theorem uK (xs:List PV):xt (xs.map .sh) = some xs:=by
  induction xs with
  | nil=>rfl
  | cons x xs ih=>show (xt (xs.map .sh)).map (x ::·) = _; rw [ih]; rfl
noncomputable def rB (i:Nat) (mp:MP):ag -> OE:=fun ρ=>match subAt i mp ρ with
 | some (.sh x)=>.ok (.sh x)
 | some (.ol ts)=>(match xt ts with
   | some xs=>.ok (.al xs)
   | none=>.bad)
 | _=>.bad
noncomputable def qf (i:Nat) (mp:MP):ag -> OT:=fun ρ=>match subAt i mp ρ with
 | some (.ol ts)=>.ok (!ts.isEmpty)
 | _=>.bad
inductive OD where
 | ok (t:OV) | exc (c:String) (fs:XF) | bad
inductive ODs where
 | ok (ts:List OV) | exc (c:String) (fs:XF) | bad
noncomputable def mD (me:ag -> OE):ag -> OD:=fun ρ=>match me ρ with
 | .ok (.sh x)=>.ok (.sh x)
 | .ok (.fr xs)=>.ok (.ol (xs.map .sh))
 | .ok (.al _)=>.bad
 | .exc c fs=>.exc c fs
 | .bad=>.bad
noncomputable def mDc (md:ag -> OD) (mr:ag -> ODs):ag -> ODs:=fun ρ=>match md ρ with
 | .ok t=>(match mr ρ with
   | .ok ts=>.ok (t ::ts)
   | .exc c fs=>.exc c fs
   | .bad=>.bad)
 | .exc c fs=>.exc c fs
 | .bad=>.bad
noncomputable def o5 (i:Nat) (md:ag -> OD):ag -> OS:=fun ρ=>match md ρ with
 | .ok t=>.nx (ρ.set i (some (.tr false t)))
 | .exc c fs=>.exc ρ c fs
 | .bad=>.bad
noncomputable def yD (i:Nat) (mp:MP) (ρ:ag) (k:OV -> (OV -> ag) -> OS):OS:=match ρ[i]? with
 | some (some (.tr io t))=>(match mp ρ with
   | some π=>(match t.get π with
     | some u=>k u fun u'=>ρ.set i (some (.tr io (t.put π u')))
     | none=>.bad)
   | none=>.bad)
 | _=>.bad
noncomputable def nR (i:Nat) (mp:MP) (md:ag -> OD):ag -> OS:=fun ρ=>yD i mp ρ fun u put=>match u with
 | .ol ts=>(match md ρ with
   | .ok x=>if ts.length < lim then .nx (put (.ol (ts ++ [x]))) else .bad
   | .exc c fs=>.exc ρ c fs
   | .bad=>.bad)
 | _=>.bad
noncomputable def nV (i:Nat) (mp:MP) (me:ag -> OE):ag -> OS:=fun ρ=>yD i mp ρ fun u put=>match u with
 | .ol ts=>(me ρ).bS ρ fun r=>(match r with
   | .fr ys=>if ts.length + ys.length <= lim then .nx (put (.ol (ts ++ ys.map .sh))) else .bad
   | _=>.bad)
 | _=>.bad
noncomputable def CJ (i:Nat) (mp:MP) (f:Str) (okc:String -> Bool) (md:ag -> OD):ag -> OS:=fun ρ=>match md ρ with
 | .ok x=>yD i mp ρ fun u put=>(match u with
   | .ob c ks ts=>if (okc c && decide (ks.length < 1000)) = true then (if ks.contains f = true then .nx (put (.ob c ks (ug ks ts f x))) else .nx (put (.ob c (ks ++ [f]) (ts ++ [x])))) else .bad
   | _=>.bad)
 | .exc c fs=>.exc ρ c fs
 | .bad=>.bad
inductive OX where
 | ok (ρ:ag) (s:Sl) | exc (ρ:ag) (c:String) (fs:XF) | bad
noncomputable def slO:OV -> Sl
 | .sh x=>.sh x
 | t=>.tr false t
noncomputable def oX (i:Nat) (mp:MP):ag -> OX:=fun ρ=>match ρ[i]? with
 | some (some (.tr io t))=>(match mp ρ with
   | some π=>(match t.get π with
     | some (.ol ts)=>(match ts.getLast? with
       | some x=>.ok (ρ.set i (some (.tr io (t.put π (.ol ts.dropLast))))) (slO x)
       | none=>.bad)
     | _=>.bad)
   | none=>.bad)
 | _=>.bad
noncomputable def nio:Sl -> Bool
 | .tr true _=>false
 | .bo _=>false
 | _=>true
noncomputable def oa (i:Nat) (m:ag -> OX):ag -> OS:=fun ρ=>match m ρ with
 | .ok ρ' s=>if nio s then .nx (ρ'.set i (some s)) else .bad
 | .exc ρ' c fs=>.exc ρ' c fs
 | .bad=>.bad
noncomputable def EI (neg:Bool) (m:ag -> OX) (a b:ag -> OS):ag -> OS:=fun ρ=>match m ρ with
 | .ok ρ' (.sh x)=>(match tE x with
   | some k=>if (k != neg) = true then a ρ' else b ρ'
   | none=>.bad)
 | .ok _ _=>.bad
 | .exc ρ' c fs=>.exc ρ' c fs
 | .bad=>.bad
mutual
noncomputable def pvO:OV -> Option PV
 | .sh x=>some x
 | .ol ts=>(Jq ts).map .lst
 | .ob _ _ _=>none
 | .di _=>none
 | .dt _=>none
noncomputable def Jq:List OV -> Option (List PV)
 | []=>some []
 | t ::ts=>(pvO t).bind fun x=>(Jq ts).map (x ::·)
end
noncomputable def Kp (i:Nat) (ρ:ag):ag:=match ρ[i]? with
 | some (some (.tr false t))=>(match pvO t with
   | some x=>ρ.set i (some (.sh x))
   | none=>ρ)
 | _=>ρ
inductive OI where
 | ok (x:PV) (outs:List (Option OV)) | exc (c:String) (fs:XF) (outs:List (Option OV)) | bad
inductive Arg where
 | e (me:ag -> OE) | t (i:Nat) (mp:MP) | b (i:Nat) (mp:MP)
noncomputable def uR:Option Sl -> Option OV
 | some (.tr true t)=>some t
 | _=>none
noncomputable def yb (np:Nat):OS -> OI
 | .nx ρ=>.ok .non ((ρ.take np).map uR)
 | .rt ρ (.sh x)=>.ok x ((ρ.take np).map uR)
 | .exc ρ c fs=>.exc c fs ((ρ.take np).map uR)
 | _=>.bad
noncomputable def mU (n:Nat) (as:List Sl):ag:=as.map some ++ List.replicate (n - as.length) none
noncomputable def fnI (np n:Nat) (m:ag -> OS) (as:List Sl):OI:=if as.length = np then yb np (m (mU n as)) else .bad
noncomputable def mQ (a:Arg) (ρ:ag):Option Sl:=match a with
 | .e me=>(match me ρ with
   | .ok r=>(lS r).map .sh
   | _=>none)
 | .t i mp=>(match ρ[i]? with
   | some (some (.tr _ t))=>((mp ρ).bind fun π=>t.get π).map (.tr true)
   | _=>none)
 | .b i mp=>(subAt i mp ρ).map .bo
noncomputable def lY:List Arg -> ag -> Option (List Sl)
 | [],_=>some []
 | a ::as,ρ=>(mQ a ρ).bind fun s=>(lY as ρ).map (s ::·)
noncomputable def lW (ρ₀:ag):Arg -> Option OV -> ag -> ag
 | .t i mp,some u,ρ=>(match ρ[i]? with
   | some (some (.tr io t))=>(match mp ρ₀ with
     | some π=>ρ.set i (some (.tr io (t.put π u)))
     | none=>ρ.set i none)
   | _=>ρ.set i none)
 | .t i _,none,ρ=>ρ.set i none
 | _,_,ρ=>ρ
noncomputable def gU (ρ₀:ag):List Arg -> List (Option OV) -> ag -> ag
 | [],_,ρ=>ρ
 | a ::as,us,ρ=>gU ρ₀ as us.tail (lW ρ₀ a us.head?.join ρ)
noncomputable def vL (f:List Sl -> OI) (as:List Arg):ag -> OX:=fun ρ=>match lY as ρ with
 | some ss=>(match f ss with
   | .ok x outs=>.ok (gU ρ as outs ρ) (.sh x)
   | .exc c fs outs=>.exc (gU ρ as outs ρ) c fs
   | .bad=>.bad)
 | none=>.bad
noncomputable def v3 (f:List Sl -> OI) (as:List Arg):ag -> OE:=fun ρ=>match lY as ρ with
 | some ss=>(match f ss with
   | .ok x _=>.ok (.sh x)
   | .exc c fs _=>.exc c fs
   | .bad=>.bad)
 | none=>.bad
noncomputable def recv (c:String) (m:Str):Option Sl -> Bool
 | some (.tr true (.ob c' ks _))=>c' == c && !ks.contains m
 | some (.bo (.ob c' ks _))=>c' == c && !ks.contains m
 | _=>false
noncomputable def oe (c:String) (m:Str) (f:List Sl -> OI) (as:List Arg):ag -> OX:=fun ρ=>match as with
 | a ::_=>if recv c m (mQ a ρ) = true then vL f as ρ else .bad
 | []=>.bad
noncomputable def mx (c:String) (m:Str) (f:List Sl -> OI) (as:List Arg):ag -> OE:=fun ρ=>match as with
 | a ::_=>if recv c m (mQ a ρ) = true then v3 f as ρ else .bad
 | []=>.bad
noncomputable def uH (c:String) (f:List Sl -> OI):ag -> OD:=fun _=>match f [.tr true (.ob c [] [])] with
 | .ok .non (some t ::_)=>.ok t
 | _=>.bad
noncomputable def mH (i j:Nat) (mb:ag -> OS):List PV -> ag -> OS
 | [],ρ=>.nx ρ
 | .tup [x,y] ::xs,ρ=>(mb ((ρ.set i (some (.sh x))).set j (some (.sh y)))).turn (mH i j mb xs)
 | _ ::_,_=>.bad
noncomputable def rf (k:Nat):List PV -> List PV
 | []=>[]
 | x ::xs=>.tup [.int k,x] ::rf (k + 1) xs
noncomputable def Ad (i j:Nat) (ml:ag -> OE) (mb:ag -> OS):ag -> OS:=fun ρ=>(ml ρ).bS ρ fun r=>match yI r with
 | some xs=>mH i j mb (rf 0 xs) ρ
 | none=>.bad
noncomputable def sk (ml:ag -> OE) (ι:List Nat) (me:ag -> OE):ag -> OE:=fun ρ=>(ml ρ).bind fun r=>match r.pv with
 | .tup xs=>noX (dA me (dP ι ρ) xs)
 | _=>.bad
noncomputable def i7 (mc:ag -> OT) (me:ag -> OE) (ρ:ag):List PV -> OA
 | []=>.ok []
 | x ::xs=>(match mc (ρ ++ [some (.sh x)]) with
   | .ok true=>(me (ρ ++ [some (.sh x)])).gq fun r=>(match lS r with
     | some y=>(i7 mc me ρ xs).gq fun ys=>.ok (y ::ys)
     | none=>.bad)
   | .ok false=>i7 mc me ρ xs
   | _=>.bad)
noncomputable def sy (ml:ag -> OE) (ι:List Nat) (mc:ag -> OT) (me:ag -> OE):ag -> OE:=fun ρ=>(ml ρ).bind fun r=>match r.pv with
 | .lst xs=>noX (i7 mc me (dP ι ρ) xs)
 | _=>.bad
noncomputable def Ep (ma ms:ag -> OE):ag -> OE:=fun ρ=>(ma ρ).bind fun a=>(ms ρ).bind fun k=>match a.pv,k.pv with
 | .lst xs,.int k=>if k = -1 then .ok (.fr xs.reverse) else .bad
 | _,_=>.bad
noncomputable def Lp:PV -> Option RV
 | .lst xs=>some (.sh (.tup xs))
 | .tup xs=>some (.sh (.tup xs))
 | _=>none
mutual
noncomputable def jN:PV -> PV -> Bool
 | .non,y=>(match y with | .non=>true | _=>false)
 | .bl a,y=>(match y with | .bl b=>a == b | .int j=>(if a then 1 else 0) == j | _=>false)
 | .int i,y=>(match y with | .bl b=>i == (if b then 1 else 0) | .int j=>i == j | _=>false)
 | .str x,y=>(match y with | .str z=>x == z | _=>false)
 | .lst xs,y=>(match y with | .lst ys=>Ct xs ys | _=>false)
 | .tup xs,y=>(match y with | .tup ys=>Ct xs ys | _=>false)
noncomputable def Ct:List PV -> List PV -> Bool
 | [],ys=>(match ys with | []=>true | _ ::_=>false)
 | x ::xs,ys=>(match ys with | y ::ys=>jN x y && Ct xs ys | []=>false)
end
mutual
noncomputable def HB:PV -> Nat -> Bool
 | .str x,_=>x.cps.all (· < 0x110000)
 | .lst xs,n=>(match n with | 0=>false | n + 1=>BB xs n)
 | .tup xs,n=>(match n with | 0=>false | n + 1=>BB xs n)
 | _,_=>true
noncomputable def BB:List PV -> Nat -> Bool
 | [],_=>true
 | x ::xs,n=>HB x n && BB xs n
end
noncomputable def cg:PV -> Bool
 | .lst _=>false
 | .tup _=>false
 | _=>true
noncomputable def fO:PV -> PV -> Option Bool
 | x,.tup ys=>if ys.all cg = true then some (ys.any fun y=>jN y x) else none
 | x,.lst ys=>if ys.all cg = true then some (ys.any fun y=>jN y x) else none
 | _,_=>none
noncomputable def gIn:PV -> PV -> Option RV:=fun x y=>(fO x y).map fun b=>.sh (.bl b)
noncomputable def oq:PV -> PV -> Option RV:=fun x y=>(fO x y).map fun b=>.sh (.bl (!b))
end L2.P
namespace L2.P
open PySem
noncomputable def zp (kvs:List (Int × PV)):PV -> Option RV
 | .int n=>(kvs.lookup n).map .sh
 | _=>none
noncomputable def gT (kvs:List (Int × PV)):PV -> Option RV
 | .int n=>some (.sh ((kvs.lookup n).getD .non))
 | _=>none
end L2.P
namespace L2.P
open PySem
end L2.P
namespace L2
open PySem PySem.Spec PyProof.Rows
section
variable {X:Cx} {pins:List (Addr × Obj)} {σ:St} {H:Hp} {s:Shared} {h':Heap}
theorem Inv.Az {t':Nat} {its:List Addr} {a:Addr} {o:HO} (I:Inv X pins σ H s) (k:∀ b u,b ∉ its -> s.heap.get? b = some u -> h'.get? b = some u) (hf:∀ b ∈ its,oO X pins H b)
  (hp:s.heap.objs.size <= a) (new:gm X.prog X.w (upd H a o) h' a o):Inv X pins σ (upd H a o) { s with heap:=h',toks:=t' }:=by
 have hn:=I.hok.fresh hp
 have nit:∀ b u,H b = some u -> b ∉ its:=fun b u e z=>by rw [(hf b z).1] at e; cases e
 refine I.step (g':=s.gens) (d':=s.drawn) (ch:=its) (fun b hb=>?_) (fun b u _ _ hc e _=>k b u hc e) (fun b u _ _ hc e _=>⟨u.slots,k b u hc e⟩)
  (fun b u _ q n=>by rw [ba (Nat.ne_of_lt (Nat.lt_of_lt_of_le (Heap.lt_size q) hp))]; exact n)
  (fun b u hc e=>⟨u,k b u hc e⟩) (fun b xs q=>by rw [ba (cS q hn)]; exact q) (fun b u xs q=>by rw [ba (cS q hn)]; exact q) (fun b ps q=>⟨#[],by rw [ba (cS q hn),q]; simp⟩) (fun m hm=>?_) (fun b u e=>?_) I.bare
 . obtain ⟨_,f1,f2,f3,f4,f5⟩:=hf b hb
   exact ⟨f3,f1,f4,f5⟩
 . obtain ⟨ob,es,ep,ho,r⟩:=hm
   exact ⟨ob,es,ep,k _ ob (fun z=>(hf _ z).2.1 rfl) ho,r⟩
 . by_cases hb:b = a
   . subst hb; rw [bb] at e; cases e; exact new
   . rw [ba hb] at e
     refine (I.hok b u e).pJ (fun c v hc q=>k c v ?_ q) (fun c q=>by rw [ba (cS q hn)]; exact q) fun c xs q=>by rw [ba (cS q hn)]; exact q
     rcases hc with z | z
     . rw [z]; exact nit b u e
     . exact nit c _ z
end
noncomputable def Ite (K:PySem.W.Frag) (a:Addr):It:=
 ⟨fun i H=>∃ xs x,SqL K H a xs /\ xs[i]? = some x,fun i H v H'=>∃ t x,(∀ xs,SqL K H a xs -> xs[i]? = some x) /\ H t = none /\ v = .ref t /\ H' = upd H t (.tup [.int i,x]),fun i H=>∃ xs,SqL K H a xs /\ xs.length <= i⟩
theorem A3 {P:Program} {w:World} {K:PySem.W.Frag} {elts:List Expr} {k:Nat} {pos:Pos} (a e it:Addr) (hei:e ≠ it):
  Turn P w K (.Tuple elts k pos) (Ite K a) [e,it] e (fun i h=>(∃ old,IsEnum h e it i old) /\ h.IsListIter it a i) where
 mem:=by simp
 obj:=fun i h st b hb=>by
  obtain ⟨⟨old,h1⟩,o,h2,c,d⟩:=st
  rcases List.mem_cons.mp hb with z | z
  . subst z; exact ⟨_,h1,fun v z=>by cases z⟩
  . have z':b = it:=by simpa using z
    subst z'; exact ⟨o,h2,fun v z=>by rw [d] at z; cases z⟩
 keep:=fun i h h' st k=>by
  obtain ⟨⟨old,h1⟩,h2⟩:=st
  exact ⟨⟨old,k e (by simp) _ h1⟩,h2.at fun o x=>k it (by simp) o x⟩
 item:=by
  intro X hP hw hK hc i pins s σ H E I hf st hg
  subst hP hw hK
  obtain ⟨xs,x,hq,hx⟩:=hg
  obtain ⟨its,rv,p,hz⟩:=I.list hq
  obtain ⟨u,hu,ru⟩:=rv.get hx
  obtain ⟨⟨old,he⟩,hit⟩:=st
  refine wpAny_pyNext_enum_item he hit p.isList (x:=u) (by simpa using hu) hei fun h1 ho hit1 hT hsz hk=>⟨_,rfl,?_⟩
  refine wpAny_letOwnedTupleGo_enum ho fun h2 he2 hs2=>?_
  have hT2:h2.get? s.heap.objs.size = some { cls:=.type "tuple",data:=.seq #[.int i s.toks,u] }:=(hs2.2 _ (Nat.ne_of_gt (Heap.lt_size he))).trans hT
  have nH:H s.heap.objs.size = none:=I.hok.fresh (Nat.le_refl _)
  refine ⟨.ref s.heap.objs.size,upd H s.heap.objs.size (.tup [.int i,x]),I.Az (its:=[e,it]) (t':=s.toks + 1) (fun b o hb q=>?_) hf (Nat.le_refl _) ?_,rfl,⟨_,x,fun ys hy=>by rw [I.wN hy hq]; exact hx,nH,rfl,rfl⟩,⟨⟨u,by simpa using he2⟩,?_⟩,fun b hb=>?_⟩
  . have nb:b ≠ e /\ b ≠ it:=by simpa using hb
    exact (hs2.2 b nb.1).trans (hk b o nb.1 nb.2 q)
  . exact ⟨by show 2 <= sizeLine; decide,[.int i s.toks,u],.cons ⟨_,rfl⟩ (.cons ru .nil),⟨_,hT2,rfl,_,rfl⟩⟩
  . exact hit1.at fun o y=>(hs2.2 it hei.symm).trans y
  . have:b < s.heap.objs.size:=by
     rcases List.mem_cons.mp hb with z | z
     . subst z; exact Heap.lt_size he
     . have z':b = it:=by simpa using z
       subst z'; obtain ⟨_,y,_⟩:=hit; exact Heap.lt_size y
    rw [ba (Nat.ne_of_lt this)]
    exact (hf b hb).1
 done:=by
  intro X hP hw hK hc i pins s σ H E I hf st hg
  subst hP hw hK
  obtain ⟨xs,hq,hx⟩:=hg
  obtain ⟨its,rv,p,hz⟩:=I.list hq
  obtain ⟨⟨old,he⟩,hit⟩:=st
  obtain ⟨f0,f1,f2,f3,f4,f5⟩:=hf it (by simp)
  have hl:=rv.length
  exact wpAny_pyNext_enum_end (I.ok.hd hc) he hit p.isList (by simp; omega) fun h' eb=>⟨rfl,I.turned (t':=s.toks) (fun b o hb e=>eb b o hb e) f0 f1 f3 f4 f5⟩
 self:=fun _ _ _ _ _ st h=>by
  obtain ⟨⟨old,he⟩,_⟩:=st
  exact wpAny_pyIter_enum he h
section
variable {X:Cx}
noncomputable def Bj (K:PySem.W.Frag) (ta:TA):TI:=fun σ H R=>ta σ H fun vs H1=>∃ a,vs = [.ref a] /\ (∃ xs,SqL K H1 a xs) /\ R (Ite K a) H1
theorem Ek {elts:List Expr} {k:Nat} {tp:Pos} {a:Expr} {ta:TA} {p pos:Pos} (hg:Gl X "enumerate") (hm:X.mg "enumerate" = none) (ha:PA X [a] ta) (hs:starEach [a] X.env = [(false,eval a X.env)]:=by rfl):
  PI X (.Tuple elts k tp) (.Call (.Name "enumerate" p) [a] [] pos) (Bj X.K ta):=by
 intro pins s σ H R I h
 refine Call_ (tL I hg hm (show bootBuiltins "enumerate" = some (.type "enumerate") by rfl) (PyProof.Rows.callWith_type1 (thn (ha pos pins s σ H _ I h) fun us s1 ⟨vs,H1,I1,r1,q1⟩=>?_) hs rfl))
 obtain ⟨l,e,⟨xs,hq⟩,q⟩:=q1
 subst e
 cases r1 with
 | cons r rr=>
   cases rr
   cases r
   obtain ⟨its,rv,p,hz⟩:=I1.list hq
   refine call_enumerate_list p.isList fun h' he hit hsz hk=>?_
   refine wpAny_pyIter_enum he ?_
   have I2:Inv X pins σ H1 { s1 with heap:=h' }:=I1.kept (t':=s1.toks) hk
   refine ⟨s1.heap.objs.size + 1,[s1.heap.objs.size + 1,s1.heap.objs.size],_,_,H1,rfl,I2,A3 l _ _ (Nat.succ_ne_self _),⟨⟨.none,he⟩,hit⟩,fun b hb=>?_,q⟩
   have:s1.heap.objs.size <= b:=by
    rcases List.mem_cons.mp hb with z | z
    . subst z; exact Nat.le_succ _
    . have z':b = s1.heap.objs.size:=by simpa using z
      subst z'; exact Nat.le_refl _
   exact I1.B7 this (I1.hok.fresh this)
end
theorem C9 {K:PySem.W.Frag} {a:Addr} {xs:List V} {g:TG} {tb:TS} {D:Ends} {σ:St} {H:Hp} (Pv:Nat -> St -> Hp -> Prop) (h0:Pv 0 σ H) (hl:∀ i σ H,i <= xs.length -> Pv i σ H -> SqL K H a xs)
  (hs:∀ i x σ H t,xs[i]? = some x -> Pv i σ H -> H t = none -> g (.ref t) σ (upd H t (.tup [.int i,x])) fun σ2 H2=>tb { D with nx:=Pv (i + 1),ct:=Pv (i + 1),bk:=D.nx } σ2 H2) (hd:∀ σ H,Pv xs.length σ H -> D.nx σ H):
  ∃ W:Nat -> Nat -> St -> Hp -> Prop,(∃ m,W 0 m σ H) /\ ∀ i m σ H,W i m σ H ->
    ((Ite K a).stop i H /\ D.nx σ H) \/ ((Ite K a).go i H /\ ∃ N:St -> Hp -> Prop,(∀ σ' H',N σ' H' -> ∃ m',m' < m /\ W (i + 1) m' σ' H') /\ ∀ x H',(Ite K a).yld i H x H' -> g x σ H' fun σ2 H2=>tb { D with nx:=N,ct:=N,bk:=D.nx } σ2 H2):=by
 refine ⟨fun i m σ H=>m = xs.length - i /\ i <= xs.length /\ Pv i σ H,⟨xs.length,by simp,Nat.zero_le _,h0⟩,?_⟩
 rintro i m σ H ⟨rfl,hi,p⟩
 have q:=hl i σ H hi p
 by_cases hlt:i < xs.length
 . refine .inr ⟨⟨xs,xs[i],q,by simp [hlt]⟩,Pv (i + 1),fun σ' H' p'=>⟨xs.length - (i + 1),by omega,rfl,hlt,p'⟩,fun x H' y=>?_⟩
   obtain ⟨t,z,y1,y3,e1,e2⟩:=y
   subst e1 e2
   exact hs i z σ _ t (y1 xs q) p y3
 . have e:i = xs.length:=by omega
   subst e
   exact .inl ⟨⟨xs,q,Nat.le_refl _⟩,hd σ H p⟩
end L2
namespace L2.P
open PySem PySem.Spec PyProof.Rows L2 L2.E PySem.SeqAt
section
variable {K:PySem.W.Frag} {S H:Hp}
theorem RdV.rep {x:PV} {v:V} (h:RdV K S H x v) (s:aJ S H):Rep K H x v:=by
 cases x with
 | lst xs=>obtain ⟨p,vs,e,q,r⟩:=h; unfold Rep; exact ⟨p,vs,e,q,r.mono s⟩
 | non=>exact Rep.mono s h
 | bl b=>exact Rep.mono s h
 | int i=>exact Rep.mono s h
 | str x=>exact Rep.mono s h
 | tup xs=>exact Rep.mono s h
end
end L2.P
namespace L2.P
open PySem PySem.Spec PyProof.Rows L2 L2.E PySem.SeqAt
section
variable {X:Cx} {K:PySem.W.Frag} {S H:Hp}
theorem tO {x:PV} {v:V} (h:Rep K H x v) (f:cg x = true):pe v = true:=by
 cases x with
 | lst xs=>cases f
 | tup xs=>cases f
 | non=>unfold Rep at h; subst h; rfl
 | bl b=>unfold Rep at h; subst h; rfl
 | int b=>unfold Rep at h; subst h; rfl
 | str b=>unfold Rep at h; subst h; rfl
theorem DH {x y:PV} {v u:V} (h:Rep K H x v) (k:Rep K H y u) (f:cg x = true) (g:cg y = true):eqV u v = jN y x:=by
 cases x <;> first | (cases f; done) | skip
 all_goals (unfold Rep at h; subst h; cases y <;> first | (cases g; done) | (unfold Rep at k; subst k; simp [eqV,jN]))
theorem uE {xs:List PV} {vs:List V} (h:bR K H xs vs) (f:xs.all cg = true):vs.all pe = true:=by
 induction xs generalizing vs with
 | nil=>rw [h.nil_inv]; rfl
 | cons x xs ih=>
   obtain ⟨v,r,rfl,h1,h2⟩:=h.cons_inv
   rw [List.all_cons,Bool.and_eq_true] at f ⊢
   exact ⟨tO h1 f.1,ih h2 f.2⟩
theorem xB {x:PV} {v:V} {xs:List PV} {vs:List V} (hx:Rep K H x v) (g:cg x = true) (h:bR K H xs vs) (f:xs.all cg = true):inV v vs = xs.any fun y=>jN y x:=by
 induction xs generalizing vs with
 | nil=>rw [h.nil_inv]; rfl
 | cons y xs ih=>
   obtain ⟨u,r,rfl,h1,h2⟩:=h.cons_inv
   rw [List.all_cons,Bool.and_eq_true] at f
   have:=ih h2 f.2
   unfold inV at this ⊢
   rw [List.any_cons,List.any_cons,this,DH hx h1 g f.1]
theorem xO {x:PV} {xs:List PV} (g:cg x = false) (f:xs.all cg = true):(xs.any fun y=>jN y x) = false:=by
 induction xs with
 | nil=>rfl
 | cons y xs ih=>
   rw [List.all_cons,Bool.and_eq_true] at f
   rw [List.any_cons,ih f.2,Bool.or_false]
   have f1:=f.1
   cases y <;> first | (cases f1; done) | (cases x <;> first | (cases g; done) | simp [jN])
theorem wm {α:Type} (l:List α):(l.any fun _=>false) = false:=by induction l <;> simp_all
theorem qc {A:Around} {s:Shared} {pins:List (Addr × Obj)} {σ:St} (I:Inv X pins σ H s) (hu:A.units < cLine) {x:PV} {v:V} {a:Value} (hx:Rep X.K H x v) (ra:RelV v a) (g:cg x = false):
  ∀ {xs:List PV} {vs:List V} {us:List Value},bR X.K H xs vs -> Vals vs us -> xs.all cg = true -> ∀ u ∈ us,EqAt A s u a false:=by
 intro xs
 induction xs with
 | nil=>intro vs us h r _ u hu; rw [h.nil_inv] at r; cases r; cases hu
 | cons y xs ih=>
   intro vs us h r f u hm
   obtain ⟨w,t,rfl,h1,h2⟩:=h.cons_inv
   rw [List.all_cons,Bool.and_eq_true] at f
   cases r with
   | cons r1 r2=>
     rcases List.mem_cons.mp hm with rfl | hm
     . cases x with
       | non=>cases g
       | bl b=>cases g
       | int b=>cases g
       | str b=>cases g
       | lst zs=>
         unfold Rep at hx
         obtain ⟨p,us',rfl,hq,_⟩:=hx
         cases ra
         obtain ⟨its,_,pl,_⟩:=I.list hq
         cases y with
         | non=>unfold Rep at h1; subst h1; cases r1; exact EqAt.none_list pl.isList hu
         | bl b=>unfold Rep at h1; subst h1; cases r1; exact EqAt.bool_list b pl.isList hu
         | int b=>unfold Rep at h1; subst h1; obtain ⟨t',rfl⟩:=r1; exact EqAt.int_list b t' pl.isList hu
         | str b=>unfold Rep at h1; subst h1; obtain ⟨t',rfl⟩:=r1; exact EqAt.str_list b t' pl.isList hu
         | lst _=>cases f.1
         | tup _=>cases f.1
       | tup zs=>
         unfold Rep at hx
         obtain ⟨p,us',rfl,hq,_⟩:=hx
         cases ra
         obtain ⟨its,_,pl,_⟩:=I.tuple hq
         cases y with
         | non=>unfold Rep at h1; subst h1; cases r1; exact EqAt.none_tuple pl hu
         | bl b=>unfold Rep at h1; subst h1; cases r1; exact EqAt.bool_tuple b pl hu
         | int b=>unfold Rep at h1; subst h1; obtain ⟨t',rfl⟩:=r1; exact EqAt.int_tuple b t' pl hu
         | str b=>unfold Rep at h1; subst h1; obtain ⟨t',rfl⟩:=r1; exact EqAt.str_tuple b t' pl hu
         | lst _=>cases f.1
         | tup _=>cases f.1
     . exact ih h2 r2 f.2 u hm
noncomputable def CS (K:PySem.W.Frag) (A:Around) (neg:Bool):R2:=fun v u H Q=>∃ x ys p vs,Rep K H x v /\ u = .ref p /\ (SqL K H p vs \/ SqT K H p vs) /\ bR K H ys vs /\ ys.all cg = true /\ A.units + 64 < cLine /\ Q (.bl (if neg then !(ys.any fun y=>jN y x) else ys.any fun y=>jN y x)) H
theorem kn:OpR X (compareOp .In) (CS X.K X.A false):=by
 intro pins s σ H v u a b Q I rx ry h
 obtain ⟨x,ys,p,vs,hx,rfl,hq,hr,hf,hu,q⟩:=h
 cases g:cg x with
 | true=>exact AV pins s σ H v _ a b Q I rx ry ⟨p,vs,rfl,hq,tO hx g,uE hr hf,by rw [xB hx g hr hf]; exact q⟩
 | false=>
   rw [xO g hf] at q
   cases ry
   rcases hq with hq | hq
   . obtain ⟨its,r,pl,hz⟩:=I.list hq
     refine SeqAt.in_listAt (fun _=>false) pl.isList (fun w hw=>qc I (by show X.A.units + 1 < cLine; omega) hx rx g hr r hf w (by simpa using hw)) ⟨.bl _,H,I,rfl,?_⟩
     rw [show (its.toArray.any fun _=>false) = false by simp [wm]]
     exact q
   . obtain ⟨its,r,pl,hz⟩:=I.tuple hq
     refine SeqAt.in_tupleAt (fun _=>false) pl (fun w hw=>qc I (by show X.A.units + 1 < cLine; omega) hx rx g hr r hf w (by simpa using hw)) ⟨.bl _,H,I,rfl,?_⟩
     rw [show (its.toArray.any fun _=>false) = false by simp [wm]]
     exact q
theorem qA:OpR X (compareOp .NotIn) (CS X.K X.A true):=by
 intro pins s σ H v u a b Q I rx ry h
 obtain ⟨x,ys,p,vs,hx,rfl,hq,hr,hf,hu,q⟩:=h
 cases g:cg x with
 | true=>exact vy pins s σ H v _ a b Q I rx ry ⟨p,vs,rfl,hq,tO hx g,uE hr hf,by rw [xB hx g hr hf]; exact q⟩
 | false=>
   rw [xO g hf] at q
   cases ry
   rcases hq with hq | hq
   . obtain ⟨its,r,pl,hz⟩:=I.list hq
     refine SeqAt.notIn_listAt (fun _=>false) pl.isList (fun w hw=>qc I (by show X.A.units + 1 < cLine; omega) hx rx g hr r hf w (by simpa using hw)) ⟨.bl _,H,I,rfl,?_⟩
     rw [show (its.toArray.any fun _=>false) = false by simp [wm]]
     exact q
   . obtain ⟨its,r,pl,hz⟩:=I.tuple hq
     refine SeqAt.notIn_tupleAt (fun _=>false) pl (fun w hw=>qc I (by show X.A.units + 1 < cLine; omega) hx rx g hr r hf w (by simpa using hw)) ⟨.bl _,H,I,rfl,?_⟩
     rw [show (its.toArray.any fun _=>false) = false by simp [wm]]
     exact q
theorem zi {A:Around} {neg:Bool} {x y:PV} {v u:V} {b:Bool} {Q:VK} (hu:A.units + 64 < cLine) (I:aJ S H) (hx:RdV K S H x v) (hy:RdV K S H y u) (e:fO x y = some b) (k:∀ z S' H',bz S H S' H' -> mm K H S' H' (.sh (.bl (if neg then !b else b))) z -> Q z H'):CS K A neg v u H Q:=by
 cases y with
 | tup ys=>
   simp only [fO] at e
   by_cases hf:ys.all cg = true
   . rw [if_pos hf] at e
     cases e
     obtain ⟨p,vs,rfl,hq,hr⟩:=mL hy
     exact ⟨x,ys,p,vs,hx.rep I,rfl,.inr (aJ.tup I hq),hr.mono I,hf,hu,k _ S H (bz.refl I) mZ⟩
   . rw [if_neg hf] at e; cases e
 | lst ys=>
   simp only [fO] at e
   by_cases hf:ys.all cg = true
   . rw [if_pos hf] at e
     cases e
     obtain ⟨p,vs,rfl,hq,hr⟩:=iw hy
     exact ⟨x,ys,p,vs,hx.rep I,rfl,.inl hq,hr.mono I,hf,hu,k _ S H (bz.refl I) mZ⟩
   . rw [if_neg hf] at e; cases e
 | _=>simp only [fO] at e; cases e
theorem ny {A:Around} (hu:A.units + 64 < cLine):JR K (CS K A false) gIn:=by
 intro S H x y v u rr Q I hx hy e k
 obtain ⟨b,e1,e2⟩:=Option.map_eq_some_iff.mp e
 subst e2
 exact zi hu I hx hy e1 k
theorem tU {A:Around} (hu:A.units + 64 < cLine):JR K (CS K A true) oq:=by
 intro S H x y v u rr Q I hx hy e k
 obtain ⟨b,e1,e2⟩:=Option.map_eq_some_iff.mp e
 subst e2
 exact zi hu I hx hy e1 k
end
end L2.P
namespace L2.P
open PySem PySem.Spec PyProof.Rows L2 L2.E
section
variable {K:PySem.W.Frag} {cls:String -> Option Addr} {W:XW} {Av G S₀ S S' H H' B B':Hp} {ρ:ag} {σ:St} {Q:VK}
noncomputable abbrev g2 (K:PySem.W.Frag) (i j:Nat):TG:=Gh K 2 (zq (lp i) (zq (lp j) Ih))
theorem yQ {i j:Nat} {tb:TS} {mb:ag -> OS} {D:Ends} {x y:PV} {xs:List PV} {v u:V} {t:Addr} {N:St -> Hp -> Prop} (hb:JS K cls W tb mb) (I:SR K cls Av G S₀ ρ σ S H) (hx:Rep K S x v) (hy:Rep K S y u) (ht:SqT K H t [v,u])
  (p:jc K cls W Av G S₀ S D (mH i j mb (.tup [x,y] ::xs) ρ)) (hN:∀ ρ' σ' S' H',SR K cls Av G S₀ ρ' σ' S' H' -> aJ S S' -> jc K cls W Av G S₀ S' D (mH i j mb xs ρ') -> N σ' H'):
  g2 K i j (.ref t) σ H fun σ2 H2=>tb { D with nx:=N,ct:=N,bk:=D.nx } σ2 H2:=by
 refine ⟨t,_,rfl,ht,rfl,_,_,rfl,_,_,rfl,rfl,?_⟩
 refine hb Av G S₀ _ _ S H _ ((I.wZ hx).wZ hy) ?_
 unfold mH at p
 cases e:mb ((ρ.set i (some (.sh x))).set j (some (.sh y))) with
 | nx ρ'=>rw [e] at p; exact fun σ' S' H' I' s'=>hN ρ' σ' S' H' I' s' (p.back s')
 | ct ρ'=>rw [e] at p; exact fun σ' S' H' I' s'=>hN ρ' σ' S' H' I' s' (p.back s')
 | bk ρ'=>rw [e] at p; exact p
 | rt ρ' r=>rw [e] at p; exact p
 | exc ρ' c fs=>rw [e] at p; exact p
 | bad=>rw [e] at p; exact p
theorem yL (xs:List PV):∀ (k n:Nat) (y:PV),xs[k]? = some y -> rf (n + k) (xs.drop k) = .tup [.int ((n + k:Nat):Int),y] ::rf (n + (k + 1)) (xs.drop (k + 1)):=by
 intro k n y hy
 have hk:k < xs.length:=(List.getElem?_eq_some_iff.mp hy).1
 rw [List.drop_eq_getElem_cons hk]
 have:xs[k] = y:=(List.getElem?_eq_some_iff.mp hy).2
 rw [this]
 rfl
theorem DX {i j:Nat} {tl:TE} {tb:TS} {ml:ag -> OE} {mb:ag -> OS} (hl:JE K cls W tl ml) (hb:JS K cls W tb mb):JS K cls W (Cj (Bj K (kG tl m6)) (g2 K i j) tb) (Ad i j ml mb):=by
 intro Av G S₀ ρ σ S H D I p
 refine hl Av G S₀ ρ σ S H _ I ?_
 unfold Ad at p
 cases em:ml ρ with
 | exc c fs=>rw [em] at p; exact fun a C S' H' w x=>p a C σ S' H' (I.grow w) w.s x
 | bad=>rw [em] at p; exact p
 | ok r=>
   rw [em] at p
   intro v S1 H1 w1 r1
   simp only [OE.bS] at p
   cases ei:yI r with
   | none=>rw [ei] at p; exact p.elim
   | some xs=>
     rw [ei] at p
     have es:lS r = some (.lst xs):=by
      cases r with
      | sh y=>cases y <;> cases ei <;> rfl
      | fr ys=>cases ei; rfl
      | al ys=>cases ei
     obtain ⟨S2,w2,s2,rx⟩:=r1.share w1 es
     have I2:=I.grow w2
     unfold Rep at rx
     obtain ⟨a,vs,rfl,hq,hr⟩:=rx
     show ∃ a',[V.ref a] = [V.ref a'] /\ _
     refine ⟨a,rfl,⟨vs,aJ.seq I2.sh hq⟩,?_⟩
     refine C9 (xs:=vs) (fun k σ' H'=>∃ ρ' S',SR K cls Av G S₀ ρ' σ' S' H' /\ aJ S2 S' /\ jc K cls W Av G S₀ S' D (mH i j mb (rf (0 + k) (xs.drop k)) ρ'))
      ⟨ρ,S2,I2,aJ.refl _,p.back w2.s⟩ ?_ ?_ ?_
     . rintro k σ' H' _ ⟨ρ',S',I',s',_⟩
       exact aJ.seq (s'.trans I'.sh) hq
     . rintro k x σ' H' t hx ⟨ρ',S',I',s',p'⟩ ht
       obtain ⟨y,hy,ry⟩:=hr.Jj hx
       rw [yL xs k 0 y hy] at p'
       have w3:bz S' H' S' (upd H' t (.tup [.int k,x])):=bz.heap I'.sh ht
       refine yQ hb (I'.grow w3) (x:=.int ((0 + k:Nat):Int)) (v:=.int k) (by unfold Rep; rw [Nat.zero_add]) (Rep.mono s' ry) (SqT.new bb) p' fun ρ2 σ2 S3 H3 I3 s3 p3=>⟨ρ2,S3,I3,s'.trans s3,p3⟩
     . rintro σ' H' ⟨ρ',S',I',s',p'⟩
       rw [List.drop_of_length_le (by rw [hr.length]; exact Nat.le_refl _)] at p'
       exact p' σ' S' H' I' (aJ.refl _)
end
end L2.P
namespace L2.E
open PySem PySem.Spec PyProof.Rows L2
theorem EA {X:Cx} {elts:List Expr} {k:Nat} {tp:Pos} {a:Expr} {ta:TA} {p pos:Pos} (hg:Gl X "enumerate") (hm:X.mg "enumerate" = none) (ha:QA X [a] ta) (hs:starEach [a] X.env = [(false,eval a X.env)]:=by rfl):
  QI X (.Tuple elts k tp) (.Call (.Name "enumerate" p) [a] [] pos) (Bj X.K ta):=⟨Ek hg hm ha.out hs⟩
structure QGs (X:Cx) (es:List Expr) (t:TGs):Prop where
 out:PGs X es t
theorem Dy {X:Cx}:QGs X [] Ih:=⟨EY⟩
theorem xU {X:Cx} {e:Expr} {es:List Expr} {t:TG} {u:TGs} (h1:QG X e t) (h2:QGs X es u)
  (hs:(assignEach (e ::es) X.env).map (·.2) = assign e X.env ::(assignEach es X.env).map (·.2):=by rfl):QGs X (e ::es) (zq t u):=⟨Cb h1.out h2.out hs⟩
theorem HH {X:Cx} {es:List Expr} {k:Nat} {t:TGs} {n:Nat} {pos:Pos} (hc:X.calm = true) (h:QGs X es t)
  (hn:(assignEach es X.env).length = n:=by rfl) (hst:(assignEach es X.env).findIdx? (·.1) = none:=by rfl):QG X (.Tuple es k pos) (Gh X.K n t):=⟨Gm hc h.out hn hst⟩
end L2.E
namespace L2.P
open PySem PySem.Spec PyProof.Rows L2 L2.E
section
variable {K:PySem.W.Frag} {cls:String -> Option Addr} {W:XW} {Av G S₀ S S' H H' B B':Hp} {ρ:ag} {σ:St} {Q:VK} {F:Nat -> List Addr}
theorem bP.length {ts:List OV} {vs:List V} {f:List Addr} (h:bP K cls S H ts vs f):vs.length = ts.length:=by
 induction ts generalizing vs f with
 | nil=>unfold bP at h; rw [h.1]; rfl
 | cons t ts ih=>
   unfold bP at h
   obtain ⟨v,r,f1,f2,rfl,_,_,h2⟩:=h
   simp [ih h2]
theorem bP.cons_inv {t:OV} {ts:List OV} {vs:List V} {fp:List Addr} (h:bP K cls S H (t ::ts) vs fp):∃ v r f1 f2,vs = v ::r /\ fp = f1 ++ f2 /\ bH K cls S H t v f1 /\ bP K cls S H ts r f2:=by unfold bP at h; exact h
theorem bP.cons {t:OV} {ts:List OV} {v:V} {vs:List V} {f1 f2:List Addr} (h:bH K cls S H t v f1) (r:bP K cls S H ts vs f2):bP K cls S H (t ::ts) (v ::vs) (f1 ++ f2):=by unfold bP; exact ⟨v,vs,f1,f2,rfl,rfl,h,r⟩
theorem bP.nil:bP K cls S H [] [] []:=by unfold bP; exact ⟨rfl,rfl⟩
theorem bP.append {ts us:List OV} {vs ws:List V} {f g:List Addr} (h:bP K cls S H ts vs f) (k:bP K cls S H us ws g):bP K cls S H (ts ++ us) (vs ++ ws) (f ++ g):=by
 induction ts generalizing vs f with
 | nil=>unfold bP at h; rw [h.1,h.2]; exact k
 | cons t ts ih=>
   obtain ⟨v,r,f1,f2,rfl,rfl,h1,h2⟩:=h.cons_inv
   have:=bP.cons h1 (ih h2)
   rw [List.append_assoc]
   exact this
theorem bP.shs {xs:List PV} {vs:List V} (h:bR K S xs vs):bP K cls S H (xs.map .sh) vs []:=by
 induction xs generalizing vs with
 | nil=>rw [h.nil_inv]; exact .nil
 | cons x xs ih=>
   obtain ⟨v,r,rfl,h1,h2⟩:=h.cons_inv
   exact bP.cons (f1:=[]) (by unfold bH; exact ⟨rfl,h1⟩) (ih h2)
theorem bP.flat {ts:List OV} {xs:List PV} {vs:List V} {f:List Addr} (e:xt ts = some xs) (h:bP K cls S H ts vs f):bR K S xs vs /\ f = []:=by
 induction ts generalizing xs vs f with
 | nil=>cases e; unfold bP at h; rw [h.1,h.2]; exact ⟨.nil,rfl⟩
 | cons t ts ih=>
   cases t with
   | sh x=>
     obtain ⟨ys,e1,e2⟩:=Option.map_eq_some_iff.mp e
     subst e2
     obtain ⟨v,r,f1,f2,rfl,rfl,h1,h2⟩:=h.cons_inv
     unfold bH at h1
     obtain ⟨h3,h4⟩:=ih e1 h2
     exact ⟨.cons h1.2 h3,by rw [h1.1,h4]; rfl⟩
   | ol _=>cases e
   | ob _ _ _=>cases e
   | di _=>cases e
   | dt _=>cases e
theorem bP.at {ts:List OV} {vs:List V} {f:List Addr} {k:Nat} {u:OV} (h:bP K cls S H ts vs f) (e:ts[k]? = some u):
  ∃ w f1 rest,vs[k]? = some w /\ bH K cls S H u w f1 /\ f.Perm (f1 ++ rest) /\
    ∀ S' H' u' w' f',aJ S S' -> bH K cls S' H' u' w' f' -> (∀ a ∈ rest,∀ o,H a = some o -> H' a = some o) -> ∃ g,bP K cls S' H' (ts.set k u') (vs.set k w') g /\ g.Perm (f' ++ rest):=by
 induction ts generalizing vs f k with
 | nil=>simp at e
 | cons t ts ih=>
   obtain ⟨v,r,f1,f2,rfl,rfl,h1,h2⟩:=h.cons_inv
   cases k with
   | zero=>
     simp at e
     subst e
     refine ⟨v,f1,f2,rfl,h1,List.Perm.refl _,fun S' H' u' w' f' s r' g=>?_⟩
     exact ⟨f' ++ f2,bP.cons r' (h2.mono s g),List.Perm.refl _⟩
   | succ k=>
     simp at e
     obtain ⟨w,g1,rest,e1,r1,p1,c1⟩:=ih h2 e
     refine ⟨w,g1,f1 ++ rest,by simpa using e1,r1,?_,fun S' H' u' w' f' s r' g=>?_⟩
     . have:(f1 ++ f2).Perm (f1 ++ (g1 ++ rest)):=List.Perm.append_left f1 p1
       refine this.trans ?_
       rw [<- List.append_assoc,<- List.append_assoc]
       exact List.Perm.append_right rest List.perm_append_comm
     . obtain ⟨g2,r2,p2⟩:=c1 S' H' u' w' f' s r' fun a ha=>g a (List.mem_append_right _ ha)
       refine ⟨f1 ++ g2,bP.cons (h1.mono s fun a ha=>g a (List.mem_append_left _ ha)) r2,?_⟩
       refine (List.Perm.append_left f1 p2).trans ?_
       rw [<- List.append_assoc,<- List.append_assoc]
       exact List.Perm.append_right rest List.perm_append_comm
theorem zm {ks:List Str} {ts:List OV} {f:Str} {u:OV} (h:oo ks ts f = some u):∃ k,ts[k]? = some u /\ ks[k]? = some f /\ (∀ u',ug ks ts f u' = ts.set k u') /\ ∀ {α:Type} (us:List (Str × α)),us.map (·.1) = ks -> us.lookup f = (us.map (·.2))[k]?:=by
 induction ks generalizing ts with
 | nil=>simp [oo] at h
 | cons g ks ih=>
   cases ts with
   | nil=>simp [oo] at h
   | cons t ts=>
     unfold oo at h
     split at h
     . rename_i e
       subst e
       cases h
       refine ⟨0,rfl,rfl,fun u'=>by simp [ug],fun us eu=>?_⟩
       cases us with
       | nil=>cases eu
       | cons q us=>
         simp at eu
         obtain ⟨a,b⟩:=q
         simp at eu
         rw [<- eu.1]
         simp [List.lookup]
     . rename_i ne
       obtain ⟨k,e1,e2,e3,e4⟩:=ih h
       refine ⟨k + 1,by simpa using e1,by simpa using e2,fun u'=>by simp [ug,ne,e3],fun us eu=>?_⟩
       cases us with
       | nil=>cases eu
       | cons q us=>
         obtain ⟨a,b⟩:=q
         simp at eu
         have:(f == a) = false:=by rw [eu.1]; simpa using Ne.symm ne
         simp [List.lookup,this,e4 us eu.2]
noncomputable def uI (H:Hp):Stp -> V -> V -> Prop
 | .ix k,v,w=>∃ p vs,v = .ref p /\ H p = some (.lst vs) /\ vs[k]? = some w
 | .fd f,v,w=>∃ p C dx us,v = .ref p /\ H p = some (.ins C dx us) /\ us.lookup f = some w
noncomputable def ke (H:Hp):V -> List Stp -> V -> Prop
 | v,[],w=>w = v
 | v,s ::π,w=>∃ u,uI H s v u /\ ke H u π w
theorem uI.inj {s:Stp} {v w w':V} (h:uI H s v w) (k:uI H s v w'):w = w':=by
 cases s with
 | ix n=>
   obtain ⟨p,vs,rfl,e1,e2⟩:=h
   obtain ⟨p',vs',e3,e4,e5⟩:=k
   cases e3
   rw [e1] at e4; cases e4
   rw [e2] at e5; cases e5; rfl
 | fd f=>
   obtain ⟨p,C,dx,us,rfl,e1,e2⟩:=h
   obtain ⟨p',C',dx',us',e3,e4,e5⟩:=k
   cases e3
   rw [e1] at e4; cases e4
   rw [e2] at e5; cases e5; rfl
theorem ke.inj {π:List Stp}:∀ {v w w':V},ke H v π w -> ke H v π w' -> w = w':=by
 induction π with
 | nil=>intro v w w' h k; rw [h,k]
 | cons s π ih=>
   rintro v w w' ⟨u,h1,h2⟩ ⟨u',k1,k2⟩
   have:=h1.inj k1
   subst this
   exact ih h2 k2
theorem ke.snoc {π:List Stp} {s:Stp}:∀ {v w u:V},ke H v π w -> uI H s w u -> ke H v (π ++ [s]) u:=by
 induction π with
 | nil=>intro v w u h k; rw [h] at k; exact ⟨u,k,rfl⟩
 | cons t π ih=>
   rintro v w u ⟨x,h1,h2⟩ k
   exact ⟨x,h1,ih h2 k⟩
theorem ke.mono {π:List Stp} (g:aJ H H'):∀ {v w:V},ke H v π w -> ke H' v π w:=by
 induction π with
 | nil=>intro v w h; exact h
 | cons t π ih=>
   rintro v w ⟨x,h1,h2⟩
   refine ⟨x,?_,ih h2⟩
   cases t with
   | ix k=>obtain ⟨p,vs,e,e1,e2⟩:=h1; exact ⟨p,vs,e,g _ _ e1,e2⟩
   | fd f=>obtain ⟨p,C,dx,us,e,e1,e2⟩:=h1; exact ⟨p,C,dx,us,e,g _ _ e1,e2⟩
theorem bH.step {t u:OV} {v:V} {fp:List Addr} {s:Stp} (h:bH K cls S H t v fp) (e:t.at1 s = some u):
  ∃ w f1 rest,uI H s v w /\ bH K cls S H u w f1 /\ fp.Perm (f1 ++ rest) /\
    ∀ S' H' u' f',aJ S S' -> bH K cls S' H' u' w f' -> (∀ a ∈ rest,∀ o,H a = some o -> H' a = some o) -> ∃ g,bH K cls S' H' (t.CV s u') v g /\ g.Perm (f' ++ rest):=by
 cases t with
 | sh x=>cases s <;> cases e
 | di x=>cases s <;> cases e
 | dt x=>cases s <;> cases e
 | ol ts=>
   cases s with
   | fd f=>cases e
   | ix k=>
     unfold bH at h
     obtain ⟨p,vs,f,rfl,hp,rfl,r⟩:=h
     obtain ⟨w,f1,rest,e1,r1,p1,c1⟩:=r.at e
     refine ⟨w,f1,p ::rest,⟨p,vs,rfl,hp,e1⟩,r1,?_,fun S' H' u' f' s r' g=>?_⟩
     . exact (List.Perm.cons p p1).trans (List.perm_middle.symm)
     . obtain ⟨g2,r2,p2⟩:=c1 S' H' u' w f' s r' fun a ha=>g a (by simp [ha])
       refine ⟨p ::g2,?_,(List.Perm.cons p p2).trans List.perm_middle.symm⟩
       rw [mq e1] at r2
       unfold OV.CV bH
       exact ⟨p,vs,g2,rfl,g p (by simp) _ hp,rfl,r2⟩
 | ob c ks ts=>
   cases s with
   | ix k=>cases e
   | fd f=>
     unfold bH at h
     obtain ⟨p,C,dx,us,ff,rfl,hc,hp,hd,hk,rfl,r⟩:=h
     obtain ⟨k,e1,e2,e3,e4⟩:=zm e
     obtain ⟨w,f1,rest,q1,r1,p1,c1⟩:=r.at e1
     refine ⟨w,f1,p ::dx ::rest,⟨p,C,dx,us,rfl,hp,by rw [e4 us hk]; exact q1⟩,r1,?_,fun S' H' u' f' s r' g=>?_⟩
     . exact ((List.Perm.cons p ((List.Perm.cons dx p1).trans List.perm_middle.symm))).trans List.perm_middle.symm
     . obtain ⟨g2,r2,p2⟩:=c1 S' H' u' w f' s r' fun a ha=>g a (by simp [ha])
       refine ⟨p ::dx ::g2,?_,(List.Perm.cons p ((List.Perm.cons dx p2).trans List.perm_middle.symm)).trans List.perm_middle.symm⟩
       rw [mq q1] at r2
       unfold OV.CV bH
       exact ⟨p,C,dx,us,g2,rfl,hc,g p (by simp) _ hp,g dx (by simp) _ hd,hk,rfl,by rw [e3]; exact r2⟩
theorem bH.focus {π:List Stp}:∀ {t u:OV} {v:V} {fp:List Addr},bH K cls S H t v fp -> t.get π = some u ->
  ∃ w f1 rest,ke H v π w /\ bH K cls S H u w f1 /\ fp.Perm (f1 ++ rest) /\
    ∀ S' H' u' f',aJ S S' -> bH K cls S' H' u' w f' -> (∀ a ∈ rest,∀ o,H a = some o -> H' a = some o) -> ∃ g,bH K cls S' H' (t.put π u') v g /\ g.Perm (f' ++ rest):=by
 induction π with
 | nil=>
   intro t u v fp h e
   cases e
   exact ⟨v,fp,[],rfl,h,by simp,fun S' H' u' f' _ r' _=>⟨f',by unfold OV.put; exact r',by simp⟩⟩
 | cons s π ih=>
   intro t u v fp h e
   unfold OV.get at e
   obtain ⟨t1,e1,e2⟩:=Option.bind_eq_some_iff.mp e
   obtain ⟨w1,f1,rest1,st,r1,p1,c1⟩:=h.step e1
   obtain ⟨w,f2,rest2,wk,r2,p2,c2⟩:=ih r1 e2
   refine ⟨w,f2,rest2 ++ rest1,⟨w1,st,wk⟩,r2,?_,fun S' H' u' f' s' r' g=>?_⟩
   . rw [<- List.append_assoc]
     exact p1.trans (List.Perm.append_right rest1 p2)
   . obtain ⟨g1,q1,k1⟩:=c2 S' H' u' f' s' r' fun a ha=>g a (List.mem_append_left _ ha)
     obtain ⟨g2,q2,k2⟩:=c1 S' H' _ g1 s' q1 fun a ha=>g a (List.mem_append_right _ ha)
     refine ⟨g2,?_,?_⟩
     . unfold OV.put
       rw [e1]
       exact q2
     . rw [<- List.append_assoc]
       exact k2.trans (List.Perm.append_right rest1 k1)
theorem SR.tree {i:Nat} {t:OV} (I:SR K cls Av G S₀ ρ σ S H) (e:ky i ρ = some t):∃ v fp,σ[i]? = some (some v) /\ bH K cls S H t v fp:=by
 obtain ⟨F,J⟩:=I
 unfold ky at e
 cases q:ρ[i]? with
 | none=>rw [q] at e; cases e
 | some o=>
   cases o with
   | none=>rw [q] at e; cases e
   | some s=>
     rw [q] at e
     obtain ⟨v,e1,r⟩:=J.own i s q
     cases s with
     | tr io t'=>cases e; exact ⟨v,_,e1,r.1⟩
     | bo t'=>
       cases e
       obtain ⟨_,f,r⟩:=r
       exact ⟨v,f,e1,r.mono (aJ.refl _) fun _ _ _ h=>J.gh _ _ h⟩
     | sh x=>cases e
     | ow xs=>cases e
     | ex c fs=>cases e
noncomputable def JP (K:PySem.W.Frag) (cls:String -> Option Addr) (te:TE) (i:Nat) (mp:MP):Prop:=∀ Av G S₀ ρ σ S H Q v0 t π,SR K cls Av G S₀ ρ σ S H -> ky i ρ = some t -> σ[i]? = some (some v0) -> mp ρ = some π -> (t.get π).isSome = true ->
 (∀ w S' H',bz S H S' H' -> ke H' v0 π w -> Q w H') -> te σ H Q
theorem jK {i:Nat}:JP K cls (sU i) i eQ:=by
 intro Av G S₀ ρ σ S H Q v0 t π I e ev ep _ k
 cases ep
 exact ⟨v0,ev,k v0 S H (bz.refl I.sh) rfl⟩
theorem JP.sub {i:Nat} {te:TE} {mp:MP} {u:OV} {Q:VK} (hp:JP K cls te i mp) (I:SR K cls Av G S₀ ρ σ S H) (e:subAt i mp ρ = some u)
  (k:∀ w S' H' f,bz S H S' H' -> SR K cls Av G S₀ ρ σ S' H' -> bH K cls S' H' u w f -> Q w H'):te σ H Q:=by
 unfold subAt at e
 split at e
 . rename_i t et
   split at e
   . rename_i π eπ
     obtain ⟨v0,fp0,ev,_⟩:=I.tree et
     refine hp Av G S₀ ρ σ S H _ v0 t π I et ev eπ (by rw [e]; rfl) fun w S1 H1 w1 wk=>?_
     obtain ⟨v,fp,ev',ro⟩:=(I.grow w1).tree et
     rw [ev] at ev'; cases ev'
     obtain ⟨w',f1,rest,wk',r',_,_⟩:=ro.focus e
     have:=wk.inj wk'
     subst this
     exact k w S1 H1 f1 w1 (I.grow w1) r'
   . cases e
 . cases e
theorem wR {i:Nat} {te:TE} {mp:MP} {f:Str} {ok:String -> Bool} (hp:JP K cls te i mp) (ha:∀ c C,cls c = some C -> ok c = true -> Cls K C /\ lU K C f):JP K cls (Hq K te f) i (pFd i mp f ok):=by
 intro Av G S₀ ρ σ S H Q v0 t π I e ev ep hs k
 unfold pFd at ep
 split at ep
 . rename_i c ks ts es
   split at ep
   . rename_i hok
     rw [Bool.and_eq_true] at hok
     obtain ⟨π0,e0,rfl⟩:=Option.map_eq_some_iff.mp ep
     have e1:t.get π0 = some (.ob c ks ts):=by
      unfold subAt at es
      rw [e] at es
      dsimp only at es
      rw [e0] at es
      exact es
     refine hp Av G S₀ ρ σ S H _ v0 t π0 I e ev e0 (by rw [e1]; rfl) fun w S1 H1 w1 wk=>?_
     have I1:=I.grow w1
     obtain ⟨v,fp,ev',ro⟩:=I1.tree e
     rw [ev] at ev'; cases ev'
     obtain ⟨w',f1,rest,wk',r',_,_⟩:=ro.focus e1
     have:=wk.inj wk'
     subst this
     unfold bH at r'
     obtain ⟨p,C,dx,us,ff,rfl,hcl,hp',hd,hk,rfl,r⟩:=r'
     obtain ⟨a1,a2⟩:=ha c C hcl hok.1
     cases q:oo ks ts f with
     | none=>rw [q] at hok; cases hok.2
     | some u=>
       obtain ⟨n,h1,h2,h3,h4⟩:=zm q
       have hn:n < (us.map (·.2)).length:=by rw [r.length]; exact (List.getElem?_eq_some_iff.mp h1).1
       have hx:us.lookup f = some (us.map (·.2))[n]:=by rw [h4 us hk]; exact List.getElem?_eq_getElem hn
       exact ⟨p,C,dx,us,_,rfl,hp',a1,a2,hx,k _ S1 H1 w1 (wk'.snoc ⟨p,C,dx,us,rfl,hp',hx⟩)⟩
   . cases ep
 . cases ep
theorem zC {i:Nat} {te:TE} {mp:MP} (hp:JP K cls te i mp):JE K cls W te (rB i mp):=by
 intro Av G S₀ ρ σ S H Q I p
 unfold rB at p
 split at p
 . rename_i x e
   refine hp.sub I e fun w S1 H1 f w1 _ r=>?_
   unfold bH at r
   exact p w S1 H1 w1 r.2
 . rename_i ts e
   split at p
   . rename_i xs ex
     refine hp.sub I e fun w S1 H1 f w1 _ r=>?_
     unfold bH at r
     obtain ⟨q,vs,ff,rfl,hq,_,rs⟩:=r
     exact p _ S1 H1 w1 ⟨q,vs,rfl,SqL.new hq,(rs.flat ex).1⟩
   . exact p.elim
 . exact p.elim
theorem AF {i:Nat} {te:TE} {mp:MP} (hp:JP K cls te i mp):JT K cls W (fun σ H Q=>te σ H fun x H'=>∃ k,yF K x H' k /\ Q k H') (qf i mp):=by
 intro Av G S₀ ρ σ S H Q I p
 unfold qf at p
 split at p
 . rename_i ts e
   refine hp.sub I e fun w S1 H1 f w1 _ r=>?_
   unfold bH at r
   obtain ⟨q,vs,ff,rfl,hq,_,rs⟩:=r
   refine ⟨_,.inl ⟨vs,SqL.new hq,rfl⟩,?_⟩
   have:vs.isEmpty = ts.isEmpty:=by
    have:=rs.length
    cases vs <;> cases ts <;> simp_all
   rw [this]
   exact p S1 H1 w1
 . exact p.elim
end
end L2.P
namespace L2.P
open PySem PySem.Spec PyProof.Rows L2 L2.E
section
variable {K:PySem.W.Frag} {cls:String -> Option Addr} {W:XW} {Av G S₀ S S' H H' B B':Hp} {ρ:ag} {σ:St} {Q:VK} {F:Nat -> List Addr}
theorem SRF.part {i:Nat} {io:Bool} {t u:OV} {v0:V} {π:List Stp} (J:SRF K cls Av G S₀ ρ σ S H F) (hi:ρ[i]? = some (some (.tr io t))) (hv:σ[i]? = some (some v0)) (e:t.get π = some u):
  ∃ w f1 rest,ke H v0 π w /\ bH K cls S H u w f1 /\ (F i).Perm (f1 ++ rest) /\ (f1 ++ rest).Nodup /\ (∀ a ∈ f1,G a = none /\ S a = none) /\
    ∀ S' H' u' f',aJ S S' -> aJ S' H' -> aJ G H' -> (∀ b,S' b ≠ none -> S₀ b ≠ none \/ G b = none) -> bH K cls S' H' u' w f' -> f'.Nodup -> (∀ a ∈ f',a ∈ f1 \/ H a = none) -> (∀ a ∈ f',S' a = none) ->
      (∀ a o,a ∉ f1 -> H a = some o -> H' a = some o) -> (∀ a,S' a ≠ none -> S a ≠ none \/ H a = none \/ a ∈ f1) ->
      ∃ g,SRF K cls Av G S₀ (ρ.set i (some (.tr io (t.put π u')))) σ S' H' (oR F i g) /\ g.Perm (f' ++ rest):=by
 obtain ⟨v,ev,ro,nd,gs,hio⟩:=J.own i _ hi
 rw [hv] at ev; cases ev
 obtain ⟨w,f1,rest,wk,r1,p1,c1⟩:=ro.focus e
 have nd1:(f1 ++ rest).Nodup:=p1.nodup_iff.mp nd
 have in1:∀ a,a ∈ f1 -> a ∈ F i:=fun a ha=>p1.mem_iff.mpr (List.mem_append_left _ ha)
 have inr:∀ a,a ∈ rest -> a ∈ F i:=fun a ha=>p1.mem_iff.mpr (List.mem_append_right _ ha)
 have off1:∀ a,a ∈ rest -> a ∉ f1:=fun a ha hb=>(List.nodup_append.mp nd1).2.2 a hb a ha rfl
 refine ⟨w,f1,rest,wk,r1,p1,nd1,fun a ha=>gs a (in1 a ha),fun S' H' u' f' s sh gh new r' nd' fr nS keep nw=>?_⟩
 obtain ⟨g,rg,pg⟩:=c1 S' H' u' f' s r' fun a ha o h=>keep a o (off1 a ha) h
 have noS:∀ j a,a ∈ F j -> a ∉ f1 -> S' a = none:=fun j a ha hb=>by
  cases q:S' a with
  | none=>rfl
  | some o=>
    obtain ⟨⟨o',h1,_⟩,_,h3⟩:=J.live j a ha
    rcases nw a (by rw [q]; simp) with z | z | z
    . exact absurd h3 z
    . rw [h1] at z; cases z
    . exact absurd z hb
 have J1:SRF K cls Av G S₀ (ρ.set i none) (σ.set i none) S H (oR F i []):=J.put (fun t e=>nomatch e) (fun a ha=>nomatch ha) fun j a _ ha=>nomatch ha
 have off:∀ j a,a ∈ oR F i [] j -> a ∉ f1 /\ j ≠ i:=fun j a ha=>by
  by_cases ej:j = i
  . subst ej; rw [j9] at ha; cases ha
  . rw [gA ej] at ha
    exact ⟨fun hb=>ej (J.apart j i a ha (in1 a hb)),ej⟩
 have J2:=J1.change (S':=S') (H':=H') gh s sh new (fun j a ha o h=>keep a o (off j a ha).1 h)
  (fun b o hx h=>keep b o (fun hb=>by
    obtain ⟨⟨o',h1,h2⟩,_⟩:=J.live i b (in1 b hb)
    rw [h] at h1; cases h1; rw [hx] at h2; cases h2) h)
  fun j a ha=>by
   have hj:=off j a ha
   rw [gA hj.2] at ha
   exact noS j a ha hj.1
 have mem:∀ a,a ∈ g -> a ∈ f' \/ a ∈ rest:=fun a ha=>List.mem_append.mp (pg.mem_iff.mp ha)
 have hlive:∀ a ∈ g,(∃ o,H' a = some o /\ isX o = false) /\ G a = none /\ S' a = none:=fun a ha=>by
  refine ⟨rg.live a ha,?_,?_⟩
  . rcases mem a ha with z | z
    . rcases fr a z with y | y
      . exact (gs a (in1 a y)).1
      . exact J.gh.free y
    . exact (gs a (inr a z)).1
  . rcases mem a ha with z | z
    . exact nS a z
    . exact noS i a (inr a z) (off1 a z)
 have ndg:g.Nodup:=pg.nodup_iff.mpr (List.nodup_append.mpr ⟨nd',(List.nodup_append.mp nd1).2.1,fun a ha b hb z=>by
  subst z
  rcases fr a ha with y | y
  . exact off1 a hb y
  . obtain ⟨⟨o',h1,_⟩,_⟩:=J.live i a (inr a hb)
    rw [y] at h1; cases h1⟩)
 have J3:=J2.put (i:=i) (s:=some (.tr io (t.put π u'))) (u:=some v0) (fp:=g) (fun t' e=>by
  cases e
  exact ⟨v0,rfl,rg,ndg,fun a ha=>⟨(hlive a ha).2.1,(hlive a ha).2.2⟩,hio⟩) hlive fun j a hj ha hz=>by
   rw [gA hj] at hz
   rcases mem a ha with z | z
   . rcases fr a z with y | y
     . exact hj (J.apart j i a hz (in1 a y))
     . obtain ⟨⟨o',h1,_⟩,_⟩:=J.live j a hz
       rw [y] at h1; cases h1
   . exact hj (J.apart j i a hz (inr a z))
 rw [List.set_set,List.set_set,mq hv] at J3
 have eF:oR (oR F i []) i g = oR F i g:=by
  funext j
  by_cases ej:j = i
  . subst ej; rw [j9,j9]
  . rw [gA ej,gA ej,gA ej]
 rw [eF] at J3
 exact ⟨g,J3,pg⟩
theorem SRF.more {s:Option Sl} {u:Option V} {fp:List Addr} (I:SRF K cls Av G S₀ ρ σ S H F) (h:∀ t,s = some t -> ∃ v,u = some v /\ rM K cls Av G S H ρ.length t v fp)
  (hl:∀ a ∈ fp,(∃ o,H a = some o /\ isX o = false) /\ G a = none /\ S a = none) (ap:∀ j a,j < ρ.length -> a ∈ fp -> a ∉ F j):∃ F',SRF K cls Av G S₀ (ρ ++ [s]) (σ ++ [u]) S H F':=by
 refine ⟨fun j=>if j < ρ.length then F j else if j = ρ.length then fp else [],I.gh,I.s0,I.sh,I.new,fun j t e=>?_,fun j k a h1 h2=>?_,fun j a ha=>?_,by simp [I.len]⟩
 . by_cases hj:j < ρ.length
   . rw [List.getElem?_append_left hj] at e
     rw [List.getElem?_append_left (by rw [<- I.len]; exact hj)]
     simp only [hj,if_true]
     exact I.own j t e
   . rw [List.getElem?_append_right (Nat.le_of_not_lt hj)] at e
     have h0:j - ρ.length = 0:=by
      by_cases h:j - ρ.length = 0
      . exact h
      . rw [List.getElem?_eq_none (by simp; omega)] at e; cases e
     rw [h0] at e
     have ej:j = ρ.length:=by omega
     obtain ⟨v,e2,r⟩:=h t (Option.some.inj e)
     refine ⟨v,?_,?_⟩
     . rw [List.getElem?_append_right (by rw [<- I.len]; omega),<- I.len,h0,e2]; rfl
     . subst ej
       simp only [Nat.lt_irrefl,if_false,if_true]
       exact r
 . by_cases hj:j < ρ.length
   . simp only [hj,if_true] at h1
     by_cases hk:k < ρ.length
     . simp only [hk,if_true] at h2; exact I.apart j k a h1 h2
     . simp only [hk,if_false] at h2
       split at h2
       . exact absurd h1 (ap j a hj h2)
       . cases h2
   . simp only [hj,if_false] at h1
     split at h1
     . rename_i ej
       by_cases hk:k < ρ.length
       . simp only [hk,if_true] at h2; exact absurd h2 (ap k a hk h1)
       . simp only [hk,if_false] at h2
         split at h2
         . rename_i ek; rw [ej,ek]
         . cases h2
     . cases h1
 . by_cases hj:j < ρ.length
   . simp only [hj,if_true] at ha; exact I.live j a ha
   . simp only [hj,if_false] at ha
     split at ha
     . exact hl a ha
     . cases ha
theorem SR.fold {i:Nat} {s:Sl} {v:V} (I:SR K cls Av G S₀ (ρ ++ [some s]) (σ ++ [some v]) S H) (hs:nio s = true):SR K cls Av G S₀ (ρ.set i (some s)) (σ.set i (some v)) S H:=by
 obtain ⟨F,J⟩:=I
 have hlen:ρ.length = σ.length:=by have:=J.len; simpa using this
 obtain ⟨v',ev,r⟩:=J.own ρ.length s (by simp)
 have ev':v' = v:=by
  rw [List.getElem?_append_right (by rw [hlen]; exact Nat.le_refl _),hlen,Nat.sub_self] at ev
  cases ev; rfl
 subst ev'
 have J1:SRF K cls Av G S₀ ρ σ S H (fun j=>if j < ρ.length then F j else []):=by
  refine ⟨J.gh,J.s0,J.sh,J.new,fun j t e=>?_,fun j k a h1 h2=>?_,fun j a ha=>?_,hlen⟩
  . have hj:j < ρ.length:=(List.getElem?_eq_some_iff.mp e).1
    obtain ⟨v2,e2,r2⟩:=J.own j t (by rw [List.getElem?_append_left hj]; exact e)
    rw [List.getElem?_append_left (by rw [<- hlen]; exact hj)] at e2
    simp only [hj,if_true]
    exact ⟨v2,e2,r2⟩
  . split at h1
    . split at h2
      . exact J.apart j k a h1 h2
      . cases h2
    . cases h1
  . split at ha
    . exact J.live j a ha
    . cases ha
 refine ⟨_,J1.put (i:=i) (s:=some s) (u:=some v') (fp:=F ρ.length) (fun t e=>?_) (fun a ha=>J.live _ a ha) fun j a hj ha hz=>?_⟩
 . cases e
   refine ⟨v',rfl,?_⟩
   cases s with
   | sh x=>exact r
   | ow xs=>exact r
   | ex c fs=>exact r
   | tr io t=>
     cases io with
     | true=>cases hs
     | false=>exact ⟨r.1,r.2.1,r.2.2.1,fun z=>nomatch z⟩
   | bo t=>cases hs
 . split at hz
   . rename_i hj'
     have:=J.apart j ρ.length a hz ha
     omega
   . cases hz
theorem SR.zE {s:Option Sl} {u:Option V} (I:SR K cls Av G S₀ (ρ ++ [s]) (σ ++ [u]) S H):SR K cls Av G S₀ ρ σ S H:=by
 obtain ⟨F,J⟩:=I
 have hlen:ρ.length = σ.length:=by have:=J.len; simpa using this
 refine ⟨F,J.gh,J.s0,J.sh,J.new,fun j t e=>?_,J.apart,J.live,hlen⟩
 have hj:j < ρ.length:=(List.getElem?_eq_some_iff.mp e).1
 obtain ⟨v2,e2,r2⟩:=J.own j t (by rw [List.getElem?_append_left hj]; exact e)
 rw [List.getElem?_append_left (by rw [<- hlen]; exact hj)] at e2
 exact ⟨v2,e2,r2⟩
noncomputable def CF (K:PySem.W.Frag) (cls:String -> Option Addr) (B S H:Hp) (t:OV) (v:V):Prop:=∃ fp,bH K cls S H t v fp /\ fp.Nodup /\ ∀ a ∈ fp,B a = none /\ S a = none
noncomputable def Jk (K:PySem.W.Frag) (cls:String -> Option Addr) (W:XW) (σ:St) (S H:Hp) (Q:VK):OD -> Prop
 | .ok t=>∀ v S' H',bz S H S' H' -> CF K cls H S' H' t v -> Q v H'
 | .exc c fs=>∀ a C S' H',bz S H S' H' -> nN K cls S' H' c fs a C -> W (.ref C) (some a) σ H'
 | .bad=>False
noncomputable def JD (K:PySem.W.Frag) (cls:String -> Option Addr) (W:XW) (te:TE) (m:ag -> OD):Prop:=∀ Av G S₀ ρ σ S H Q,SR K cls Av G S₀ ρ σ S H -> Jk K cls W σ S H Q (m ρ) -> te σ H Q
theorem CF.grow {S1 H1:Hp} {t:OV} {v:V} (h:CF K cls B S H t v) (w:bz S H S1 H1):CF K cls B S1 H1 t v:=by
 obtain ⟨fp,r,nd,g⟩:=h
 refine ⟨fp,r.mono w.s fun a _ o z=>w.g _ _ z,nd,fun a ha=>⟨(g a ha).1,?_⟩⟩
 obtain ⟨o,h1,_⟩:=r.live a ha
 cases q:S1 a with
 | none=>rfl
 | some o'=>
   rcases w.new a (by rw [q]; simp) with z | z
   . exact absurd (g a ha).2 z
   . rw [h1] at z; cases z
theorem Ij {te:TE} {me:ag -> OE} (h:JE K cls W te me):JD K cls W te (mD me):=by
 intro Av G S₀ ρ σ S H Q I p
 refine h Av G S₀ ρ σ S H Q I ?_
 unfold mD at p
 cases e:me ρ with
 | exc c fs=>rw [e] at p; exact p
 | bad=>rw [e] at p; exact p
 | ok r=>
   rw [e] at p
   cases r with
   | sh x=>exact fun v S' H' w r=>p v S' H' w ⟨[],by unfold bH; exact ⟨rfl,r⟩,List.nodup_nil,fun a ha=>nomatch ha⟩
   | al xs=>exact p.elim
   | fr xs=>
     intro v S' H' w r
     obtain ⟨q,vs,rfl,hB,hS,hH,hr⟩:=r
     refine p _ S' H' w ⟨[q],by unfold bH; exact ⟨q,vs,[],rfl,hH,rfl,.shs hr⟩,by simp,fun a ha=>?_⟩
     have z:a = q:=by simpa using ha
     subst z; exact ⟨hB,hS⟩
theorem SR.Jt {i:Nat} {t:OV} {v:V} (I:SR K cls Av G S₀ ρ σ S H) (w:bz S H S' H') (h:CF K cls H S' H' t v):SR K cls Av G S₀ (ρ.set i (some (.tr false t))) (σ.set i (some v)) S' H':=by
 obtain ⟨F,J⟩:=I
 obtain ⟨fp,r,nd,g⟩:=h
 refine ⟨_,(J.grow w).put (fp:=fp) (fun t' e=>by cases e; exact ⟨v,rfl,r,nd,fun a ha=>⟨J.gh.free (g a ha).1,(g a ha).2⟩,fun z=>nomatch z⟩) (fun a ha=>⟨r.live a ha,J.gh.free (g a ha).1,(g a ha).2⟩) fun j a _ ha hz=>?_⟩
 obtain ⟨⟨o,h1,_⟩,_⟩:=J.live j a hz
 rw [(g a ha).1] at h1; cases h1
theorem vA {i:Nat} {te:TE} {md:ag -> OD} (h:JD K cls W te md):JS K cls W (ur te (lp i)) (o5 i md):=by
 intro Av G S₀ ρ σ S H D I p
 refine h Av G S₀ ρ σ S H _ I ?_
 unfold o5 at p
 cases e:md ρ with
 | exc c fs=>rw [e] at p; exact fun a C S' H' w x=>p a C σ S' H' (I.grow w) w.s x
 | bad=>rw [e] at p; exact p
 | ok t=>rw [e] at p; exact fun v S1 H1 w1 r1=>p _ S1 H1 (I.Jt w1 r1) w1.s
end
end L2.P
namespace L2.P
open PySem PySem.Spec PyProof.Rows L2 L2.E
section
variable {K:PySem.W.Frag} {cls:String -> Option Addr} {W:XW} {Av G S₀ S S' H H' B B':Hp} {ρ:ag} {σ:St} {Q:VK} {F:Nat -> List Addr}
theorem bH.HZ {ts:List OV} {v:V} {fp:List Addr} (h:bH K cls S H (.ol ts) v fp):∃ p vs f,v = .ref p /\ H p = some (.lst vs) /\ fp = p ::f /\ bP K cls S H ts vs f:=by unfold bH at h; exact h
theorem SRF.vk {i:Nat} {io:Bool} {t:OV} {ts:List OV} {v0:V} {π:List Stp} (J:SRF K cls Av G S₀ ρ σ S H F) (hi:ρ[i]? = some (some (.tr io t))) (hv:σ[i]? = some (some v0)) (e:t.get π = some (.ol ts)):
  ∃ q vs ff rest,ke H v0 π (.ref q) /\ H q = some (.lst vs) /\ vs.length = ts.length /\ bP K cls S H ts vs ff /\ (F i).Perm ((q ::ff) ++ rest) /\ ((q ::ff) ++ rest).Nodup /\
    ∀ S' H' ts' vs' f',bz S H S' H' -> bP K cls S' H' ts' vs' f' -> f'.Nodup -> (∀ a ∈ f',a ∈ ff \/ (H a = none /\ S' a = none)) ->
      ∃ g,SRF K cls Av G S₀ (ρ.set i (some (.tr io (t.put π (.ol ts'))))) σ S' (upd H' q (.lst vs')) (oR F i g) /\ g.Perm ((q ::f') ++ rest):=by
 obtain ⟨w,f1,rest,wk,r1,p1,nd1,gs,c⟩:=J.part hi hv e
 obtain ⟨q,vs,ff,rfl,hq,rfl,rs⟩:=r1.HZ
 refine ⟨q,vs,ff,rest,wk,hq,rs.length,rs,p1,nd1,fun S' H' ts' vs' f' wg r' nd' fr=>?_⟩
 have hGq:=(gs q (by simp)).1
 have hSq:=(gs q (by simp)).2
 have hS'q:S' q = none:=by
  cases z:S' q with
  | none=>rfl
  | some o=>
    rcases wg.new q (by rw [z]; simp) with y | y
    . exact absurd hSq y
    . rw [hq] at y; cases y
 have nq:q ∉ f':=fun z=>by
  rcases fr q z with y | y
  . exact (List.nodup_cons.mp (List.nodup_append.mp nd1).1).1 y
  . rw [y.1] at hq; cases hq
 have nS:∀ a ∈ f',S' a = none:=fun a ha=>by
  rcases fr a ha with y | y
  . cases z:S' a with
    | none=>rfl
    | some o=>
      obtain ⟨o',h1,_⟩:=rs.live a y
      rcases wg.new a (by rw [z]; simp) with k | k
      . exact absurd (gs a (by simp [y])).2 k
      . rw [h1] at k; cases k
  . exact y.2
 refine c S' (upd H' q (.lst vs')) (.ol ts') (q ::f') wg.s (wg.sh.upd hS'q) ((J.gh.trans wg.g).upd hGq) (fun b h=>?_) ?_ (List.nodup_cons.mpr ⟨nq,nd'⟩) (fun a ha=>?_) (fun a ha=>?_) (fun a o hn h=>?_) fun a h=>?_
 . rcases wg.new b h with z | z
   . exact J.new b z
   . exact .inr (J.gh.free z)
 . unfold bH
   exact ⟨q,vs',f',rfl,bb,rfl,r'.mono (aJ.refl _) fun a ha o h=>by rw [ba (fun z=>nq (by rw [<- z]; exact ha))]; exact h⟩
 . rcases List.mem_cons.mp ha with z | z
   . subst z; exact .inl (by simp)
   . rcases fr a z with y | y
     . exact .inl (by simp [y])
     . exact .inr y.1
 . rcases List.mem_cons.mp ha with z | z
   . subst z; exact hS'q
   . exact nS a z
 . rw [ba (fun z=>hn (by rw [z]; simp))]; exact wg.g _ _ h
 . rcases wg.new a h with z | z
   . exact .inl z
   . exact .inr (.inl z)
theorem JP.at {i:Nat} {te:TE} {mp:MP} {io:Bool} {t u:OV} {v0:V} {π:List Stp} {Q:VK} (hp:JP K cls te i mp) (I:SR K cls Av G S₀ ρ σ S H) (hi:ρ[i]? = some (some (.tr io t))) (hv:σ[i]? = some (some v0)) (e0:mp ρ = some π) (e1:t.get π = some u)
  (k:∀ w S' H',bz S H S' H' -> SR K cls Av G S₀ ρ σ S' H' -> ke H' v0 π w -> Q w H'):te σ H Q:=
 hp Av G S₀ ρ σ S H Q v0 t π I (by unfold ky; rw [hi]; rfl) hv e0 (by rw [e1]; rfl) fun w S1 H1 w1 wk=>k w S1 H1 w1 (I.grow w1) wk
theorem tj {i:Nat} {mp:MP} {k:OV -> (OV -> ag) -> OS} {D:Ends} (p:jc K cls W Av G S₀ S D (yD i mp ρ k)):∃ io t π u,ρ[i]? = some (some (.tr io t)) /\ mp ρ = some π /\ t.get π = some u /\ jc K cls W Av G S₀ S D (k u fun u'=>ρ.set i (some (.tr io (t.put π u')))):=by
 unfold yD at p
 split at p
 . rename_i io t hi
   split at p
   . rename_i π e0
     split at p
     . rename_i u e1
       exact ⟨io,t,π,u,hi,e0,e1,p⟩
     . exact p.elim
   . exact p.elim
 . exact p.elim
theorem SR.val {i:Nat} {s:Sl} (I:SR K cls Av G S₀ ρ σ S H) (e:ρ[i]? = some (some s)):∃ v,σ[i]? = some (some v):=let ⟨v,h,_⟩:=I.good i s e; ⟨v,h⟩
theorem yk {i:Nat} {te tx:TE} {mp:MP} {md:ag -> OD} (hp:JP K cls te i mp) (hx:JD K cls W tx md):JS K cls W (uy (tBM K "list" vK te (kG tx m6))) (nR i mp md):=by
 intro Av G S₀ ρ σ S H D I p
 obtain ⟨io,t,π,u,hi,e0,e1,p⟩:=tj p
 obtain ⟨v0,hv⟩:=I.val hi
 cases u with
 | sh x=>exact p.elim
 | ob c ks us=>exact p.elim
 | di x=>exact p.elim
 | dt x=>exact p.elim
 | ol ts=>
   dsimp only at p
   refine hp.at I hi hv e0 e1 fun w S1 H1 w1 I1 wk=>?_
   obtain ⟨F,J1⟩:=I1
   obtain ⟨q,vs,ff,rest,wk',hq,hl,rs,_,nd,c⟩:=J1.vk hi hv e1
   have:=wk.inj wk'
   subst this
   refine ⟨.inl ⟨rfl,_,SqL.new hq⟩,?_⟩
   refine hx Av G S₀ ρ σ S1 H1 _ ⟨F,J1⟩ ?_
   cases ed:md ρ with
   | exc c fs=>rw [ed] at p; exact fun a C S' H' w x=>p a C σ S' H' (SR.grow ⟨F,J1⟩ w) (w1.s.trans w.s) x
   | bad=>rw [ed] at p; exact p
   | ok x=>
     rw [ed] at p
     dsimp only at p
     split at p
     . rename_i hlt
       intro v S2 H2 w2 r2
       obtain ⟨fx,rx,ndx,gx⟩:=r2
       refine ⟨q,vs,v,rfl,rfl,w2.g _ _ hq,by rw [hl]; exact hlt,?_⟩
       have ndf:ff.Nodup:=(List.nodup_cons.mp (List.nodup_append.mp nd).1).2
       have apx:∀ a ∈ ff,a ∉ fx:=fun a ha hb=>by
        obtain ⟨o,h1,_⟩:=rs.live a ha
        rw [(gx a hb).1] at h1; cases h1
       obtain ⟨g,J3,_⟩:=c S2 H2 (ts ++ [x]) (vs ++ [v]) (ff ++ (fx ++ [])) w2 ((rs.mono w2.s fun a _ o h=>w2.g _ _ h).append (.cons rx .nil)) (by
         rw [List.append_nil]
         exact List.nodup_append.mpr ⟨ndf,ndx,fun a ha b hb z=>by subst z; exact apx a ha hb⟩) (fun a ha=>by
         rw [List.append_nil] at ha
         rcases List.mem_append.mp ha with z | z
         . exact .inl z
         . exact .inr (gx a z))
       exact p σ S2 _ ⟨_,J3⟩ (w1.s.trans w2.s)
     . exact p.elim
end
end L2.P
namespace L2.P
open PySem PySem.Spec PyProof.Rows L2 L2.E
section
variable {K:PySem.W.Frag} {cls:String -> Option Addr} {W:XW} {Av G S₀ S S' H H' B B':Hp} {ρ:ag} {σ:St} {Q:VK} {F:Nat -> List Addr}
theorem y7 {i:Nat} {te tx:TE} {mp:MP} {me:ag -> OE} (hp:JP K cls te i mp) (hx:JE K cls W tx me):JS K cls W (uy (tBM K "list" zI te (kG tx m6))) (nV i mp me):=by
 intro Av G S₀ ρ σ S H D I p
 obtain ⟨io,t,π,u,hi,e0,e1,p⟩:=tj p
 obtain ⟨v0,hv⟩:=I.val hi
 cases u with
 | sh x=>exact p.elim
 | ob c ks us=>exact p.elim
 | di x=>exact p.elim
 | dt x=>exact p.elim
 | ol ts=>
   dsimp only at p
   refine hp.at I hi hv e0 e1 fun w S1 H1 w1 I1 wk=>?_
   have p1:=p.back w1.s
   obtain ⟨F,J1⟩:=id I1
   obtain ⟨q,vs,ff,rest,wk',hq,hl,rs,_,nd,c⟩:=J1.vk hi hv e1
   have:=wk.inj wk'
   subst this
   refine ⟨.inl ⟨rfl,_,SqL.new hq⟩,?_⟩
   refine hx.goS I1 p1 fun r v S2 H2 I2 w2 r2 p2=>?_
   cases r with
   | sh x=>exact p2.elim
   | al ys=>exact p2.elim
   | fr ys=>
     dsimp only at p2
     split at p2
     . rename_i hlt
       obtain ⟨b,us,rfl,k1,k2,k3,k4⟩:=r2
       refine ⟨q,b,vs,us,rfl,rfl,w2.g _ _ hq,k3,by rw [hl,k4.length]; exact hlt,?_⟩
       have ndf:ff.Nodup:=(List.nodup_cons.mp (List.nodup_append.mp nd).1).2
       obtain ⟨g,J3,_⟩:=c S2 H2 (ts ++ ys.map .sh) (vs ++ us) (ff ++ []) w2 ((rs.mono w2.s fun a _ o h=>w2.g _ _ h).append (.shs k4)) (by rw [List.append_nil]; exact ndf) fun a ha=>.inl (by simpa using ha)
       exact p2 σ S2 _ ⟨_,J3⟩ (aJ.refl _)
     . exact p2.elim
noncomputable def Fw (K:PySem.W.Frag) (cls:String -> Option Addr) (W:XW) (Av G S₀:Hp) (σ:St) (S:Hp) (Q:VK):OX -> Prop
 | .ok ρ' s=>∀ v S' H',SR K cls Av G S₀ (ρ' ++ [some s]) (σ ++ [some v]) S' H' -> aJ S S' -> Q v H'
 | .exc ρ' c fs=>∀ a C S' H',SR K cls Av G S₀ ρ' σ S' H' -> aJ S S' -> nN K cls S' H' c fs a C -> W (.ref C) (some a) σ H'
 | .bad=>False
noncomputable def JX (K:PySem.W.Frag) (cls:String -> Option Addr) (W:XW) (te:TE) (m:ag -> OX):Prop:=∀ Av G S₀ ρ σ S H Q,SR K cls Av G S₀ ρ σ S H -> Fw K cls W Av G S₀ σ S Q (m ρ) -> te σ H Q
theorem vm {i:Nat} {te:TE} {m:ag -> OX} (h:JX K cls W te m):JS K cls W (ur te (lp i)) (oa i m):=by
 intro Av G S₀ ρ σ S H D I p
 refine h Av G S₀ ρ σ S H _ I ?_
 unfold oa at p
 cases e:m ρ with
 | exc ρ' c fs=>rw [e] at p; exact fun a C S' H' I' s' x=>p a C σ S' H' I' s' x
 | bad=>rw [e] at p; exact p
 | ok ρ' s=>
   rw [e] at p
   dsimp only at p
   split at p
   . rename_i hs
     exact fun v S' H' I' s'=>p _ S' H' (I'.fold hs) s'
   . exact p.elim
theorem SR.Ie {x:PV} {v:V} (I:SR K cls Av G S₀ (ρ ++ [some (.sh x)]) (σ ++ [some v]) S H):Rep K S x v:=by
 obtain ⟨F,J⟩:=I
 have hlen:ρ.length = σ.length:=by have:=J.len; simpa using this
 obtain ⟨v',ev,r⟩:=J.own ρ.length (.sh x) (by simp)
 rw [List.getElem?_append_right (by rw [hlen]; exact Nat.le_refl _),hlen,Nat.sub_self] at ev
 cases ev
 exact r.2
theorem Ez {te:TE} {m:ag -> OX} {ta tb:TS} {ma mb:ag -> OS} (h:JX K cls W te m) (ha:JS K cls W ta ma) (hb:JS K cls W tb mb):
  JS K cls W (Eh (Du (fun σ H Q=>te σ H fun x H'=>∃ k,yF K x H' k /\ Q k H')) ta tb) (EI true m ma mb):=by
 intro Av G S₀ ρ σ S H D I p
 refine h Av G S₀ ρ σ S H _ I ?_
 unfold EI at p
 cases e:m ρ with
 | exc ρ' c fs=>rw [e] at p; exact fun a C S' H' I' s' x=>p a C σ S' H' I' s' x
 | bad=>rw [e] at p; exact p
 | ok ρ' s=>
   rw [e] at p
   cases s with
   | sh x=>
     dsimp only at p
     intro v S' H' I' s'
     cases et:tE x with
     | none=>rw [et] at p; exact p.elim
     | some k=>
       rw [et] at p
       refine ⟨k,zK I'.sh (I'.Ie.rd I'.sh) et,?_⟩
       cases k with
       | false=>exact v9 (ha Av G S₀ ρ' σ S' H' D I'.zE (p.back s'))
       | true=>exact vR (hb Av G S₀ ρ' σ S' H' D I'.zE (p.back s'))
   | ow xs=>exact p.elim
   | ex c fs=>exact p.elim
   | tr io t=>exact p.elim
   | bo t=>exact p.elim
theorem bP.last {ts:List OV} {vs:List V} {f:List Addr} {x:OV} (h:bP K cls S H ts vs f) (e:ts.getLast? = some x):∃ y f1 f2,vs[vs.length - 1]? = some y /\ bP K cls S H ts.dropLast vs.dropLast f1 /\ bH K cls S H x y f2 /\ f = f1 ++ f2:=by
 induction ts generalizing vs f with
 | nil=>cases e
 | cons t ts ih=>
   obtain ⟨v,r,f1,f2,rfl,rfl,h1,h2⟩:=h.cons_inv
   cases ts with
   | nil=>
     unfold bP at h2
     obtain ⟨rfl,rfl⟩:=h2
     simp at e
     subst e
     exact ⟨v,[],f1,rfl,.nil,h1,by simp⟩
   | cons t2 ts2=>
     rw [List.getLast?_cons_cons] at e
     obtain ⟨y,g1,g2,e1,r1,r2,rfl⟩:=ih h2 e
     have hr:r ≠ []:=by intro z; subst z; have:=h2.length; simp at this
     refine ⟨y,f1 ++ g1,g2,?_,?_,r2,by simp⟩
     . cases r with
       | nil=>exact absurd rfl hr
       | cons a r'=>simpa using e1
     . cases r with
       | nil=>exact absurd rfl hr
       | cons a r'=>exact bP.cons h1 r1
theorem EU {x:OV} {v:V} {fp:List Addr} {i:Nat} (h:bH K cls S H x v fp) (nd:fp.Nodup) (g:∀ a ∈ fp,G a = none /\ S a = none):rM K cls Av G S H i (slO x) v fp:=by
 cases x with
 | sh y=>unfold bH at h; exact h
 | ol ts=>exact ⟨h,nd,g,fun z=>nomatch z⟩
 | ob c ks ts=>exact ⟨h,nd,g,fun z=>nomatch z⟩
 | di x=>exact ⟨h,nd,g,fun z=>nomatch z⟩
 | dt x=>exact ⟨h,nd,g,fun z=>nomatch z⟩
theorem zA {i:Nat} {te:TE} {mp:MP} (hp:JP K cls te i mp):JX K cls W (G6 K "list" JL te) (oX i mp):=by
 intro Av G S₀ ρ σ S H Q I p
 unfold oX at p
 split at p
 . rename_i io t hi
   split at p
   . rename_i π e0
     split at p
     . rename_i ts e1
       split at p
       . rename_i x ex
         obtain ⟨v0,hv⟩:=I.val hi
         refine hp.at I hi hv e0 e1 fun w S1 H1 w1 I1 wk=>?_
         obtain ⟨F,J1⟩:=id I1
         obtain ⟨q,vs,ff,rest,wk',hq,hl,rs,pF,nd,c⟩:=J1.vk hi hv e1
         have:=wk.inj wk'
         subst this
         obtain ⟨y,f1,f2,ey,ri,rx,rfl⟩:=rs.last ex
         have ndf:(f1 ++ f2).Nodup:=(List.nodup_cons.mp (List.nodup_append.mp nd).1).2
         have nq:q ∉ f1 ++ f2:=(List.nodup_cons.mp (List.nodup_append.mp nd).1).1
         refine ⟨.inl ⟨rfl,_,SqL.new hq⟩,q,vs,y,rfl,rfl,hq,ey,?_⟩
         obtain ⟨g,J3,pg⟩:=c S1 H1 ts.dropLast vs.dropLast f1 (bz.refl J1.sh) ri (List.nodup_append.mp ndf).1 fun a ha=>.inl (List.mem_append_left _ ha)
         have in2:∀ a ∈ f2,a ∈ F i:=fun a ha=>pF.mem_iff.mpr (by simp [ha])
         have rx':bH K cls S1 (upd H1 q (.lst vs.dropLast)) x y f2:=rx.mono (aJ.refl _) fun a ha o h=>by rw [ba (fun z=>nq (by rw [<- z]; simp [ha]))]; exact h
         have gs2:∀ a ∈ f2,G a = none /\ S1 a = none:=fun a ha=>(J1.live i a (in2 a ha)).2
         obtain ⟨F',J4⟩:=J3.more (s:=some (slO x)) (u:=some y) (fp:=f2) (fun t' e=>by cases e; exact ⟨y,rfl,EU rx' (List.nodup_append.mp ndf).2.1 gs2⟩) (fun a ha=>⟨rx'.live a ha,gs2 a ha⟩) fun j a hj ha hz=>by
          by_cases ej:j = i
          . subst ej
            rw [j9] at hz
            have hm:=pg.mem_iff.mp hz
            have hd:=List.nodup_append.mp nd
            rcases List.mem_append.mp hm with z | z
            . rcases List.mem_cons.mp z with z | z
              . subst z; exact nq (by simp [ha])
              . exact (List.nodup_append.mp ndf).2.2 a z a ha rfl
            . exact hd.2.2 a (by simp [ha]) a z rfl
          . rw [gA ej] at hz
            exact ej (J1.apart j i a hz (in2 a ha))
         exact p y S1 _ ⟨F',J4⟩ w1.s
       . exact p.elim
     . exact p.elim
   . exact p.elim
 . exact p.elim
end
end L2.P
namespace L2.P
open PySem PySem.Spec PyProof.Rows L2 L2.E
section
variable {K:PySem.W.Frag} {cls:String -> Option Addr} {W:XW} {Av G S₀ S S' H H' B B':Hp} {ρ:ag} {σ:St} {Q:VK} {F:Nat -> List Addr}
theorem EG {ks:List Str} {us:List (Str × V)} {f:Str} {y:V} (hk:us.map (·.1) = ks) {k:Nat} (hf:∀ j,ks[j]? = some f -> k <= j) (he:ks[k]? = some f):(kA f y us).map (·.1) = ks /\ (kA f y us).map (·.2) = (us.map (·.2)).set k y:=by
 induction us generalizing ks k with
 | nil=>subst hk; cases he
 | cons q us ih=>
   obtain ⟨g,x⟩:=q
   subst hk
   unfold kA
   by_cases e:g = f
   . rw [if_pos e]
     have k0:k = 0:=by have:=hf 0 (by simp [e]); omega
     subst k0
     exact ⟨rfl,rfl⟩
   . rw [if_neg e]
     cases k with
     | zero=>simp at he; exact absurd he e
     | succ k=>
       obtain ⟨h1,h2⟩:=ih (ks:=us.map (·.1)) (k:=k) rfl (fun j hj=>by have:=hf (j + 1) (by simpa using hj); omega) (by simpa using he)
       simp [h1,h2]
theorem Bt {us:List (Str × V)} {f:Str} {y:V} (h:f ∉ us.map (·.1)):kA f y us = us ++ [(f,y)]:=by
 induction us with
 | nil=>rfl
 | cons q us ih=>
   obtain ⟨g,x⟩:=q
   simp at h
   unfold kA
   rw [if_neg (fun z=>h.1 z.symm),ih (by simpa using h.2)]
   rfl
theorem yy {ks:List Str} {ts:List OV} {f:Str} (hl:ts.length = ks.length) (h:f ∈ ks):∃ k,ks[k]? = some f /\ (∀ j,ks[j]? = some f -> k <= j) /\ k < ts.length /\ ∀ u,ug ks ts f u = ts.set k u:=by
 induction ks generalizing ts with
 | nil=>cases h
 | cons g ks ih=>
   cases ts with
   | nil=>cases hl
   | cons t ts=>
     by_cases e:g = f
     . subst e
       exact ⟨0,rfl,fun j _=>Nat.zero_le _,by simp,fun u=>by simp [ug]⟩
     . obtain ⟨k,h1,h2,h3,h4⟩:=ih (ts:=ts) (by simpa using hl) (by
        rcases List.mem_cons.mp h with z | z
        . exact absurd z.symm e
        . exact z)
       refine ⟨k + 1,by simpa using h1,fun j hj=>?_,by simpa using h3,fun u=>by simp [ug,e,h4]⟩
       cases j with
       | zero=>simp at hj; exact absurd hj e
       | succ j=>have:=h2 j (by simpa using hj); omega
theorem E7 {i:Nat} {te tx:TE} {mp:MP} {f:Str} {okc:String -> Bool} {md:ag -> OD} (hp:JP K cls te i mp) (hx:JD K cls W tx md) (ha:∀ c C,cls c = some C -> okc c = true -> Cls K C /\ lU K C f):JS K cls W (Hu K te tx f) (CJ i mp f okc md):=by
 intro Av G S₀ ρ σ S H D I p
 refine hx Av G S₀ ρ σ S H _ I ?_
 unfold CJ at p
 cases ed:md ρ with
 | exc c fs=>rw [ed] at p; exact fun a C S' H' w x=>p a C σ S' H' (I.grow w) w.s x
 | bad=>rw [ed] at p; exact p
 | ok x=>
   rw [ed] at p
   dsimp only at p
   obtain ⟨io,t,π,u,hi,e0,e1,p⟩:=tj p
   obtain ⟨v0,hv⟩:=I.val hi
   cases u with
   | sh x=>exact p.elim
   | ol ts=>exact p.elim
   | di x=>exact p.elim
   | dt x=>exact p.elim
   | ob c ks ts=>
     dsimp only at p
     split at p
     . rename_i hok
       rw [Bool.and_eq_true,decide_eq_true_eq] at hok
       intro v S1 H1 w1 r1
       refine hp.at (I.grow w1) hi hv e0 e1 fun w S2 H2 w2 I2 wk=>?_
       obtain ⟨F,J⟩:=id I
       obtain ⟨w0,f1,rest,wk',ro,pF,nd,gs,cc⟩:=J.part hi hv e1
       have wg:bz S H S2 H2:=w1.trans w2
       have:=wk.inj (wk'.mono wg.g)
       subst this
       unfold bH at ro
       obtain ⟨q,C,dx,us,ff,rfl,hcl,hq,hd,hk,rfl,rs⟩:=ro
       obtain ⟨a1,a2⟩:=ha c C hcl hok.1
       have nd1:=(List.nodup_append.mp nd).1
       have nq:q ∉ dx ::ff:=(List.nodup_cons.mp nd1).1
       have ndx':dx ∉ ff:=(List.nodup_cons.mp (List.nodup_cons.mp nd1).2).1
       have ndf:ff.Nodup:=(List.nodup_cons.mp (List.nodup_cons.mp nd1).2).2
       have hlen:us.length < 1000:=by have:=congrArg List.length hk; simp at this; omega
       obtain ⟨fx,rx,nx,gx⟩:=r1.grow w2
       refine ⟨q,C,dx,us,rfl,wg.g _ _ hq,a1,a2,hlen,?_⟩
       have noS:∀ a ∈ q ::dx ::ff,S2 a = none:=fun a ha=>by
        cases z:S2 a with
        | none=>rfl
        | some o=>
          obtain ⟨⟨o',h1,_⟩,_,h3⟩:=J.live i a (pF.mem_iff.mpr (List.mem_append_left _ ha))
          rcases wg.new a (by rw [z]; simp) with y | y
          . exact absurd h3 y
          . rw [h1] at y; cases y
       have fin:∀ ks' ts' f',(kA f v us).map (·.1) = ks' -> bP K cls S2 H2 ts' ((kA f v us).map (·.2)) f' -> f'.Nodup -> (∀ a ∈ f',a ∈ ff \/ (H a = none /\ S2 a = none)) ->
         SR K cls Av G S₀ (ρ.set i (some (.tr io (t.put π (.ob c ks' ts'))))) σ S2 (upd H2 q (.ins C dx (kA f v us))):=by
        intro ks' ts' f' hk' rs' nd' fr
        have nqf:q ∉ f':=fun z=>by
         rcases fr q z with y | y
         . exact nq (by simp [y])
         . rw [y.1] at hq; cases hq
        have ndf':dx ∉ f':=fun z=>by
         rcases fr dx z with y | y
         . exact ndx' y
         . rw [y.1] at hd; cases hd
        have ndq:dx ≠ q:=fun z=>nq (by simp [z])
        obtain ⟨g,J3,_⟩:=cc S2 (upd H2 q (.ins C dx (kA f v us))) (.ob c ks' ts') (q ::dx ::f') wg.s (wg.sh.upd (noS q (by simp))) ((J.gh.trans wg.g).upd (gs q (by simp)).1) (fun b h=>by
          rcases wg.new b h with z | z
          . exact J.new b z
          . exact .inr (J.gh.free z)) (by
          unfold bH
          exact ⟨q,C,dx,_,f',rfl,hcl,bb,by rw [ba ndq]; exact wg.g _ _ hd,hk',rfl,rs'.mono (aJ.refl _) fun a ha o h=>by rw [ba (fun z=>nqf (by rw [<- z]; exact ha))]; exact h⟩)
         (List.nodup_cons.mpr ⟨fun z=>by
           rcases List.mem_cons.mp z with z | z
           . exact ndq z.symm
           . exact nqf z,List.nodup_cons.mpr ⟨ndf',nd'⟩⟩) (fun a ha=>by
           rcases List.mem_cons.mp ha with z | z
           . subst z; exact .inl (by simp)
           . rcases List.mem_cons.mp z with z | z
             . subst z; exact .inl (by simp)
             . rcases fr a z with y | y
               . exact .inl (by simp [y])
               . exact .inr y.1) (fun a ha=>by
           rcases List.mem_cons.mp ha with z | z
           . subst z; exact noS _ (by simp)
           . rcases List.mem_cons.mp z with z | z
             . subst z; exact noS _ (by simp)
             . rcases fr a z with y | y
               . exact noS a (by simp [y])
               . exact y.2) (fun a o hn h=>by rw [ba (fun z=>hn (by rw [z]; simp))]; exact wg.g _ _ h) fun a h=>by
           rcases wg.new a h with z | z
           . exact .inl z
           . exact .inr (.inl z)
        exact ⟨_,J3⟩
       have hlts:ts.length = ks.length:=by rw [<- rs.length,<- hk]; simp
       split at p
       . rename_i hc
         obtain ⟨k,h1,h2,h3,h4⟩:=yy hlts (by simpa using hc)
         obtain ⟨k1,k2⟩:=EG (y:=v) hk h2 h1
         obtain ⟨w3,g1,rest3,e3,r3,p3,c3⟩:=rs.at (k:=k) (u:=ts[k]) (by simp [h3])
         obtain ⟨g,rg,pg⟩:=c3 S2 H2 x v fx wg.s rx fun a _ o h=>wg.g _ _ h
         have inff:∀ a ∈ rest3,a ∈ ff:=fun a ha=>p3.mem_iff.mpr (List.mem_append_right _ ha)
         have ndr:rest3.Nodup:=(List.nodup_append.mp (p3.nodup_iff.mp ndf)).2.1
         have ndg:g.Nodup:=pg.nodup_iff.mpr (List.nodup_append.mpr ⟨nx,ndr,fun a ha b hb z=>by
          subst z
          obtain ⟨o,h1,_⟩:=rs.live a (inff a hb)
          rw [(gx a ha).1] at h1; cases h1⟩)
         have q1:=fin ks (ts.set k x) g k1 (by rw [k2]; exact rg) ndg fun a ha=>by
          rcases List.mem_append.mp (pg.mem_iff.mp ha) with z | z
          . exact .inr (gx a z)
          . exact .inl (inff a z)
         rw [h4] at p
         exact p σ S2 _ q1 wg.s
       . rename_i hc
         have hn:f ∉ us.map (·.1):=by rw [hk]; simpa using hc
         have e2:=Bt (y:=v) hn
         have ndg:(ff ++ (fx ++ [])).Nodup:=by
          rw [List.append_nil]
          exact List.nodup_append.mpr ⟨ndf,nx,fun a ha b hb z=>by
           subst z
           obtain ⟨o,h1,_⟩:=rs.live a ha
           rw [(gx a hb).1] at h1; cases h1⟩
         have q1:=fin (ks ++ [f]) (ts ++ [x]) (ff ++ (fx ++ [])) (by rw [e2]; simp [hk]) (by rw [e2,List.map_append]; exact (rs.mono wg.s fun a _ o h=>wg.g _ _ h).append (.cons rx .nil)) ndg fun a ha=>by
          rw [List.append_nil] at ha
          rcases List.mem_append.mp ha with z | z
          . exact .inl z
          . exact .inr (gx a z)
         exact p σ S2 _ q1 wg.s
     . exact p.elim
end
end L2.P
namespace L2.P
open PySem PySem.Spec PyProof.Rows L2 L2.E
open Classical in
noncomputable def minus (H:Hp) (Fc:Nat -> List Addr):Hp:=fun a=>if ∃ k,a ∈ Fc k then none else H a
section
variable {K:PySem.W.Frag} {cls:String -> Option Addr} {W:XW} {Av G S₀ S S' H H' B B':Hp} {ρ:ag} {σ:St} {Q:VK} {F Fc Fc':Nat -> List Addr}
theorem wO {a:Addr} {k:Nat} (h:a ∈ Fc k):minus H Fc a = none:=by unfold minus; rw [if_pos ⟨k,h⟩]
theorem jZ {a:Addr} (h:∀ k,a ∉ Fc k):minus H Fc a = H a:=by unfold minus; rw [if_neg (fun ⟨k,z⟩=>h k z)]
theorem tH:aJ (minus H Fc) H:=fun b u h=>by
 unfold minus at h
 split at h
 . cases h
 . exact h
theorem m4 {a:Addr} (h:minus H Fc a = none):H a = none \/ ∃ k,a ∈ Fc k:=by
 unfold minus at h
 split at h
 . rename_i z; exact .inr z
 . exact .inl h
noncomputable def LC (K:PySem.W.Frag) (cls:String -> Option Addr) (S H Hm:Hp):Sl -> V -> List Addr -> Prop
 | .sh x,v,fp=>fp = [] /\ Rep K S x v
 | .tr true t,v,fp=>bH K cls S H t v fp /\ fp.Nodup
 | .bo t,v,fp=>fp = [] /\ ∃ f,bH K cls S Hm t v f
 | _,_,_=>False
structure BH (K:PySem.W.Frag) (cls:String -> Option Addr) (vs:List V) (S H:Hp) (Fc:Nat -> List Addr) (outs:List (Option OV)) (S' H':Hp) (Fc':Nat -> List Addr):Prop where
 s:aJ S S'
 sh:aJ S' H'
 keep:aJ (minus H Fc) H'
 new:∀ b,S' b ≠ none -> S b ≠ none \/ H b = none \/ ∃ k,b ∈ Fc k
 out:∀ k t',outs[k]? = some (some t') -> ∃ u,vs[k]? = some u /\ bH K cls S' H' t' u (Fc' k) /\ (Fc' k).Nodup
 apart:∀ j k a,a ∈ Fc' j -> a ∈ Fc' k -> j = k
 live:∀ k a,a ∈ Fc' k -> minus H Fc a = none /\ S' a = none
noncomputable def JC (K:PySem.W.Frag) (cls:String -> Option Addr) (vs:List V) (S H:Hp) (Fc:Nat -> List Addr) (Q:VK) (E:XK):OI -> Prop
 | .ok x outs=>∀ v S' H' Fc',BH K cls vs S H Fc outs S' H' Fc' -> Rep K S' x v -> Q v H'
 | .exc c fs outs=>∀ a C S' H' Fc',BH K cls vs S H Fc outs S' H' Fc' -> nN K cls S' H' c fs a C -> E (.ref C) (some a) H'
 | .bad=>False
structure C7 (K:PySem.W.Frag) (cls:String -> Option Addr) (as:List Sl) (vs:List V) (S H:Hp) (Fc:Nat -> List Addr):Prop where
 sh:aJ S H
 len:as.length = vs.length
 rel:∀ (k:Nat) (s:Sl),as[k]? = some s -> ∃ v,vs[k]? = some v /\ LC K cls S H (minus H Fc) s v (Fc k)
 apart:∀ j k a,a ∈ Fc j -> a ∈ Fc k -> j = k
 live:∀ k a,a ∈ Fc k -> (∃ o,H a = some o /\ isX o = false) /\ S a = none
noncomputable def spI (K:PySem.W.Frag) (cls:String -> Option Addr) (f:List Sl -> OI):Sp:=fun vs H Q E=>∃ S as Fc,C7 K cls as vs S H Fc /\ JC K cls vs S H Fc Q E (f as)
theorem Er {as:List Sl} {vs:List V} {N:List Str} {i:Nat} {s:Sl} (hl:as.length = vs.length) (e:(mU N.length as)[i]? = some (some s)):as[i]? = some s /\ (L2.start N vs)[i]? = some ((vs[i]?)):=by
 unfold mU at e
 by_cases hi:i < as.length
 . rw [List.getElem?_append_left (by simpa using hi),List.getElem?_map] at e
   have hx:as[i]? = some as[i]:=by simp [hi]
   rw [hx] at e
   cases e
   refine ⟨hx,?_⟩
   unfold L2.start
   rw [List.getElem?_append_left (by rw [List.length_map,<- hl]; exact hi),List.getElem?_map]
   have hv:vs[i]? = some (vs[i]'(by rw [<- hl]; exact hi)):=by simp [<- hl,hi]
   rw [hv]; rfl
 . rw [List.getElem?_append_right (by simpa using hi)] at e
   rw [List.getElem?_replicate] at e
   split at e <;> cases e
noncomputable def CO (vs:List V):Hp:=fun i=>(vs[i]?).map fun v=>.lst [v]
theorem SR.Il {vs:List V} {np:Nat} {ρ':ag} {σ':St} (A:aJ S H) (I:SR K cls (CO vs) (minus H Fc) S ρ' σ' S' H'):∃ Fc',BH K cls vs S H Fc ((ρ'.take np).map uR) S' H' Fc':=by
 obtain ⟨F,J⟩:=I
 refine ⟨F,J.s0,J.sh,J.gh,fun b h=>?_,fun k t' e=>?_,J.apart,fun k a ha=>(J.live k a ha).2⟩
 . rcases J.new b h with z | z
   . exact .inl z
   . rcases m4 z with y | y
     . exact .inr (.inl y)
     . exact .inr (.inr y)
 . rw [List.getElem?_map] at e
   obtain ⟨s,e1,e2⟩:=Option.map_eq_some_iff.mp e
   have e3:ρ'[k]? = some s:=by
    rw [List.getElem?_take] at e1
    split at e1
    . exact e1
    . cases e1
   cases s with
   | none=>cases e2
   | some s=>
     cases s with
     | tr io t=>
       cases io with
       | false=>cases e2
       | true=>
         cases e2
         obtain ⟨v,ev,ro,nd,_,hio⟩:=J.own k _ e3
         have:=hio rfl
         unfold CO at this
         obtain ⟨u,eu,e4⟩:=Option.map_eq_some_iff.mp this
         cases e4
         exact ⟨v,eu,ro,nd⟩
     | sh x=>cases e2
     | ow x=>cases e2
     | ex c fs=>cases e2
     | bo t=>cases e2
theorem xx {P:Program} {w:World} {mg:Str -> Option Value} {base:Heap} {x qual:Str} {st:Stmt} {f:Addr} {fd:FuncData} {N ps:List Str} {k:Nat} {m:ag -> OS} (Fn:Fun K x qual st f fd) (Sc:aU N ps (av st))
  (hbody:∀ (cdv:Value) (A:Around) (outer:List Env) (s:Shared) (H:Hp) (E:XK),iN k (A.deeper (envOfC qual (av st) s.heap.objs.size f cdv)) ->
    ∃ t,QSs (pZ (CXE P w) P w K mg base N qual (av st) f cdv A outer s H E) (aT st) t /\ JS K cls (fun C a _ H=>∀ H',aJ H H' -> E C a H') t m):cb P w K mg base (CXE P w) (k + 1) f fd ps (spI K cls (fnI ps.length N.length m)):=by
 refine okX Fn Sc (fun vs H Q E h=>?_) fun cdv A outer s H vs Q E hr h=>?_
 . obtain ⟨S,as,Fc,a,q⟩:=h
   unfold fnI at q
   split at q
   . rw [<- a.len]; assumption
   . exact q.elim
 . obtain ⟨S,as,Fc,a,q⟩:=h
   unfold fnI at q
   split at q
   . rename_i hl
     obtain ⟨t,ht,J⟩:=hbody cdv A outer s H E hr
     refine ⟨t,ht.out,?_⟩
     have start:SR K cls (CO vs) (minus H Fc) S (mU N.length as) (L2.start N vs) S H:=by
      refine ⟨Fc,tH,aJ.refl _,a.sh,fun _ z=>.inl z,fun i s e=>?_,a.apart,fun i b hb=>⟨(a.live i b hb).1,wO hb,(a.live i b hb).2⟩,?_⟩
      . obtain ⟨e1,e2⟩:=Er a.len e
        obtain ⟨v,ev,r⟩:=a.rel i s e1
        rw [ev] at e2
        refine ⟨v,e2,?_⟩
        cases s with
        | sh x=>exact r
        | ow x=>exact r.elim
        | ex c fs=>exact r.elim
        | tr io t=>
          cases io with
          | false=>exact r.elim
          | true=>exact ⟨r.1,r.2,fun b hb=>⟨wO hb,(a.live i b hb).2⟩,fun _=>by unfold CO; rw [ev]; rfl⟩
        | bo t=>exact r
      . unfold mU L2.start
        simp [a.len]
     refine J (CO vs) (minus H Fc) S (mU N.length as) (L2.start N vs) S H _ start ?_
     cases e:m (mU N.length as) with
     | nx ρ'=>rw [e] at q; exact fun σ' S' H' I' s'=>let ⟨Fc',E'⟩:=I'.Il (np:=ps.length) a.sh; q .non S' H' Fc' E' (by unfold Rep; rfl)
     | bk ρ'=>rw [e] at q; exact q.elim
     | ct ρ'=>rw [e] at q; exact q.elim
     | bad=>rw [e] at q; exact q.elim
     | rt ρ' r=>
       rw [e] at q
       cases r with
       | al ys=>exact q.elim
       | fr ys=>exact q.elim
       | sh y=>exact fun v σ' S' H' I' s' rr=>let ⟨Fc',E'⟩:=I'.Il (np:=ps.length) a.sh; q v S' H' Fc' E' rr
     | exc ρ' c fs=>
       rw [e] at q
       exact fun b C σ' S' H' I' s' x H2 g2=>let ⟨Fc',E'⟩:=(I'.same g2).Il (np:=ps.length) a.sh; q b C S' H2 Fc' E' (x.mono (aJ.refl _) g2)
   . exact q.elim
noncomputable def AR1 (K:PySem.W.Frag) (S H:Hp) (ρ:ag) (σ:St):Arg -> Sl -> V -> Prop
 | .e _,.sh x,v=>Rep K S x v
 | .t i mp,.tr true u,v=>∃ io t π v0,ρ[i]? = some (some (.tr io t)) /\ mp ρ = some π /\ t.get π = some u /\ σ[i]? = some (some v0) /\ ke H v0 π v
 | .b i mp,.bo u,v=>∃ t π v0,ky i ρ = some t /\ mp ρ = some π /\ t.get π = some u /\ σ[i]? = some (some v0) /\ ke H v0 π v
 | _,_,_=>False
noncomputable def ARs (K:PySem.W.Frag) (S H:Hp) (ρ:ag) (σ:St):List Arg -> List Sl -> List V -> Prop
 | [],ss,vs=>ss = [] /\ vs = []
 | a ::as,ss,vs=>∃ s sr v vr,ss = s ::sr /\ vs = v ::vr /\ AR1 K S H ρ σ a s v /\ ARs K S H ρ σ as sr vr
theorem AR1.mono {a:Arg} {s:Sl} {v:V} (h:AR1 K S H ρ σ a s v) (s1:aJ S S') (g:aJ H H'):AR1 K S' H' ρ σ a s v:=by
 cases a with
 | e me=>cases s <;> first | exact h.elim | exact Rep.mono s1 h
 | t i mp=>
   cases s with
   | tr io u=>
     cases io with
     | false=>exact h.elim
     | true=>obtain ⟨io,t,π,v0,h1,h2,h3,h4,h5⟩:=h; exact ⟨io,t,π,v0,h1,h2,h3,h4,h5.mono g⟩
   | _=>exact h.elim
 | b i mp=>
   cases s with
   | bo u=>obtain ⟨t,π,v0,h1,h2,h3,h4,h5⟩:=h; exact ⟨t,π,v0,h1,h2,h3,h4,h5.mono g⟩
   | _=>exact h.elim
theorem ARs.at {as:List Arg}:∀ {ss:List Sl} {vs:List V} {k:Nat} {a:Arg},ARs K S H ρ σ as ss vs -> as[k]? = some a -> ∃ s v,ss[k]? = some s /\ vs[k]? = some v /\ AR1 K S H ρ σ a s v:=by
 induction as with
 | nil=>intro ss vs k a _ e; simp at e
 | cons b as ih=>
   rintro ss vs k a ⟨s,sr,v,vr,rfl,rfl,h1,h2⟩ e
   cases k with
   | zero=>simp at e; subst e; exact ⟨s,v,rfl,rfl,h1⟩
   | succ k=>simp at e; obtain ⟨s',v',e1,e2,r⟩:=ih h2 e; exact ⟨s',v',by simpa using e1,by simpa using e2,r⟩
theorem ARs.len {as:List Arg}:∀ {ss:List Sl} {vs:List V},ARs K S H ρ σ as ss vs -> ss.length = as.length /\ vs.length = as.length:=by
 induction as with
 | nil=>intro ss vs h; rw [h.1,h.2]; exact ⟨rfl,rfl⟩
 | cons b as ih=>
   rintro ss vs ⟨s,sr,v,vr,rfl,rfl,h1,h2⟩
   have:=ih h2
   simp [this]
noncomputable def JAI (K:PySem.W.Frag) (cls:String -> Option Addr) (t:TA) (as:List Arg):Prop:=∀ Av G S₀ ρ σ S H Q ss,SR K cls Av G S₀ ρ σ S H -> lY as ρ = some ss -> (∀ vs S' H',bz S H S' H' -> ARs K S' H' ρ σ as ss vs -> Q vs H') -> t σ H Q
noncomputable def JA1 (K:PySem.W.Frag) (cls:String -> Option Addr) (te:TE) (a:Arg):Prop:=∀ Av G S₀ ρ σ S H Q s,SR K cls Av G S₀ ρ σ S H -> mQ a ρ = some s -> (∀ v S' H',bz S H S' H' -> AR1 K S' H' ρ σ a s v -> Q v H') -> te σ H Q
theorem Ff {te:TE} {me:ag -> OE} (h:JE K cls W te me):JA1 K cls te (.e me):=by
 intro Av G S₀ ρ σ S H Q s I e k
 unfold mQ at e
 dsimp only at e
 refine h Av G S₀ ρ σ S H Q I ?_
 cases em:me ρ with
 | exc c fs=>rw [em] at e; cases e
 | bad=>rw [em] at e; cases e
 | ok r=>
   rw [em] at e
   obtain ⟨x,e1,rfl⟩:=Option.map_eq_some_iff.mp e
   intro v S1 H1 w1 r1
   obtain ⟨S2,w2,s2,rx⟩:=r1.share w1 e1
   exact k v S2 H1 w2 rx
theorem Fi {te:TE} {i:Nat} {mp:MP} (h:JP K cls te i mp):JA1 K cls te (.t i mp):=by
 intro Av G S₀ ρ σ S H Q s I e k
 unfold mQ at e
 dsimp only at e
 split at e
 . rename_i io t hi
   obtain ⟨u,e1,rfl⟩:=Option.map_eq_some_iff.mp e
   obtain ⟨π,e2,e3⟩:=Option.bind_eq_some_iff.mp e1
   obtain ⟨v0,hv⟩:=I.val hi
   exact h.at I hi hv e2 e3 fun w S1 H1 w1 I1 wk=>k w S1 H1 w1 ⟨io,t,π,v0,hi,e2,e3,hv,wk⟩
 . cases e
theorem FD {te:TE} {i:Nat} {mp:MP} (h:JP K cls te i mp):JA1 K cls te (.b i mp):=by
 intro Av G S₀ ρ σ S H Q s I e k
 unfold mQ at e
 dsimp only at e
 obtain ⟨u,e1,rfl⟩:=Option.map_eq_some_iff.mp e
 unfold subAt at e1
 split at e1
 . rename_i t et
   split at e1
   . rename_i π eπ
     obtain ⟨v0,fp,hv,_⟩:=I.tree et
     exact h Av G S₀ ρ σ S H Q v0 t π I et hv eπ (by rw [e1]; rfl) fun w S1 H1 w1 wk=>k w S1 H1 w1 ⟨t,π,v0,et,eπ,e1,hv,wk⟩
   . cases e1
 . cases e1
theorem se:JAI K cls m6 []:=by
 intro Av G S₀ ρ σ S H Q ss I e k
 cases e
 exact k [] S H (bz.refl I.sh) ⟨rfl,rfl⟩
theorem xr {te:TE} {t:TA} {a:Arg} {as:List Arg} (h:JA1 K cls te a) (r:JAI K cls t as):JAI K cls (kG te t) (a ::as):=by
 intro Av G S₀ ρ σ S H Q ss I e k
 unfold lY at e
 obtain ⟨s,e1,e2⟩:=Option.bind_eq_some_iff.mp e
 obtain ⟨sr,e3,rfl⟩:=Option.map_eq_some_iff.mp e2
 refine h Av G S₀ ρ σ S H _ s I e1 fun v S1 H1 w1 h1=>?_
 refine r Av G S₀ ρ σ S1 H1 _ sr (I.grow w1) e3 fun vs S2 H2 w2 h2=>?_
 exact k (v ::vs) S2 H2 (w1.trans w2) ⟨s,sr,v,vs,rfl,rfl,h1.mono w2.s w2.g,h2⟩
end
end L2.P
namespace L2.P
open PySem PySem.Spec PyProof.Rows L2 L2.E
section
variable {K:PySem.W.Frag} {cls:String -> Option Addr} {W:XW} {Av G S₀ S S' H H' B B':Hp} {ρ:ag} {σ:St} {Q:VK} {F Fc Fc':Nat -> List Addr}
noncomputable def dB:List Arg -> List Nat
 | []=>[]
 | .t i _ ::as=>i ::dB as
 | _ ::as=>dB as
noncomputable def qN:List Arg -> List Nat
 | []=>[]
 | .b i _ ::as=>i ::qN as
 | _ ::as=>qN as
noncomputable def argsOk (as:List Arg):Bool:=decide (dB as).Nodup && (qN as).all fun i=>!(dB as).contains i
theorem ir {as:List Arg} {k i:Nat} {mp:MP} (h:as[k]? = some (.t i mp)):i ∈ dB as:=by
 induction as generalizing k with
 | nil=>simp at h
 | cons a as ih=>
   cases k with
   | zero=>simp at h; subst h; simp [dB]
   | succ k=>
     simp at h
     have:=ih h
     cases a <;> simp [dB,this]
theorem yN {as:List Arg} {k i:Nat} {mp:MP} (h:as[k]? = some (.b i mp)):i ∈ qN as:=by
 induction as generalizing k with
 | nil=>simp at h
 | cons a as ih=>
   cases k with
   | zero=>simp at h; subst h; simp [qN]
   | succ k=>
     simp at h
     have:=ih h
     cases a <;> simp [qN,this]
theorem m8 {as:List Arg} (nd:(dB as).Nodup) {j k i:Nat} {mp mp':MP} (h:as[j]? = some (.t i mp)) (h':as[k]? = some (.t i mp')):j = k:=by
 induction as generalizing j k with
 | nil=>simp at h
 | cons a as ih=>
   cases j with
   | zero=>
     simp at h
     subst h
     cases k with
     | zero=>rfl
     | succ k=>
       simp at h'
       have:=ir h'
       simp [dB] at nd
       exact absurd this nd.1
   | succ j=>
     cases k with
     | zero=>
       simp at h'
       subst h'
       simp at h
       have:=ir h
       simp [dB] at nd
       exact absurd this nd.1
     | succ k=>
       simp at h h'
       have nd':(dB as).Nodup:=by
        cases a with
        | t i' mp=>simp [dB] at nd; exact nd.2
        | e me=>exact nd
        | b i' mp=>exact nd
       rw [ih nd' h h']
theorem qK {as:List Arg} {i:Nat} (h:i ∈ dB as):∃ (k:Nat) (mp:MP),as[k]? = some (.t i mp):=by
 induction as with
 | nil=>simp [dB] at h
 | cons a as ih=>
   cases a with
   | t j mp=>
     simp [dB] at h
     rcases h with h | h
     . subst h; exact ⟨0,mp,rfl⟩
     . obtain ⟨k,mp',e⟩:=ih h; exact ⟨k + 1,mp',by simpa using e⟩
   | e me=>obtain ⟨k,mp',e⟩:=ih h; exact ⟨k + 1,mp',by simpa using e⟩
   | b j mp=>obtain ⟨k,mp',e⟩:=ih h; exact ⟨k + 1,mp',by simpa using e⟩
theorem rh {as:List Arg} {ρ₀:ag}:∀ {us:List (Option OV)} {ρ:ag} {i:Nat},i ∉ dB as -> (gU ρ₀ as us ρ)[i]? = ρ[i]?:=by
 induction as with
 | nil=>intro us ρ i _; rfl
 | cons a as ih=>
   intro us ρ i h
   unfold gU
   cases a with
   | e me=>rw [ih h]; rfl
   | b j mp=>rw [ih h]; rfl
   | t j mp=>
     simp [dB] at h
     rw [ih h.2]
     have:∀ x:Option Sl,(ρ.set j x)[i]? = ρ[i]?:=fun x=>List.getElem?_set_ne (Ne.symm h.1)
     cases us.head?.join with
     | none=>exact this _
     | some u=>
       unfold lW
       dsimp only
       split
       . split
         . exact this _
         . exact this _
       . exact this _
theorem yB {as:List Arg} {ρ₀:ag}:∀ {us:List (Option OV)} {ρ:ag} {i k:Nat} {mp:MP} {s:Sl},(dB as).Nodup -> as[k]? = some (.t i mp) -> (gU ρ₀ as us ρ)[i]? = some (some s) ->
  ∃ io t π u,us[k]? = some (some u) /\ ρ[i]? = some (some (.tr io t)) /\ mp ρ₀ = some π /\ s = .tr io (t.put π u):=by
 induction as with
 | nil=>intro us ρ i k mp s _ h; simp at h
 | cons a as ih=>
   intro us ρ i k mp s nd h e
   unfold gU at e
   cases k with
   | zero=>
     simp at h
     subst h
     simp [dB] at nd
     rw [rh nd.1] at e
     cases us with
     | nil=>
       unfold lW at e
       simp at e
       rw [List.getElem?_set] at e
       simp at e
     | cons u us=>
       cases u with
       | none=>
         unfold lW at e
         simp at e
         rw [List.getElem?_set] at e
         simp at e
       | some u=>
         unfold lW at e
         simp only [List.head?_cons,Option.join_some] at e
         split at e
         . rename_i io t hi
           split at e
           . rename_i π hπ
             rw [List.getElem?_set] at e
             simp at e
             exact ⟨io,t,π,u,rfl,hi,hπ,e.2.symm⟩
           . rw [List.getElem?_set] at e
             simp at e
         . rw [List.getElem?_set] at e
           simp at e
   | succ k=>
     simp at h
     have nd':(dB as).Nodup:=by
      cases a with
      | t i' mp=>simp [dB] at nd; exact nd.2
      | e me=>exact nd
      | b i' mp=>exact nd
     obtain ⟨io,t,π,u,e1,e2,e3,e4⟩:=ih nd' h e
     refine ⟨io,t,π,u,?_,?_,e3,e4⟩
     . cases us with
       | nil=>simp at e1
       | cons _ us=>simpa using e1
     . cases a with
       | e me=>exact e2
       | b j mp=>exact e2
       | t j mp'=>
         have hij:i ≠ j:=by
          intro z
          subst z
          simp [dB] at nd
          exact nd.1 (ir h)
         have:∀ x:Option Sl,(ρ.set j x)[i]? = ρ[i]?:=fun x=>List.getElem?_set_ne (Ne.symm hij)
         cases q:us.head?.join with
         | none=>rw [q] at e2; unfold lW at e2; simp only at e2; rw [this] at e2; exact e2
         | some u=>
           rw [q] at e2
           unfold lW at e2
           simp only at e2
           split at e2
           . split at e2
             . rw [this] at e2; exact e2
             . rw [this] at e2; exact e2
           . rw [this] at e2; exact e2
theorem xP {as:List Arg} {ρ₀:ag}:∀ {us:List (Option OV)} {ρ:ag},(gU ρ₀ as us ρ).length = ρ.length:=by
 induction as with
 | nil=>intro us ρ; rfl
 | cons a as ih=>
   intro us ρ
   unfold gU
   rw [ih]
   unfold lW
   split
   . split
     . split <;> simp
     . simp
   . simp
   . rfl
theorem SR.Jb {as:List Arg} {ss:List Sl} {vs:List V} (I:SR K cls Av G S₀ ρ σ S H) (ok:argsOk as = true) (h:ARs K S H ρ σ as ss vs):
  ∃ Fc,C7 K cls ss vs S H Fc /\ ∀ outs S' H' Fc',BH K cls vs S H Fc outs S' H' Fc' -> SR K cls Av G S₀ (gU ρ as outs ρ) σ S' H':=by
 obtain ⟨F,J⟩:=I
 unfold argsOk at ok
 rw [Bool.and_eq_true,decide_eq_true_eq] at ok
 obtain ⟨nd,hb⟩:=ok
 have cell:∀ k:Nat,∃ d:List Addr × List Addr,(∀ i mp,as[k]? = some (.t i mp) -> ∃ io t π u v0 w,ss[k]? = some (.tr true u) /\ vs[k]? = some w /\ ρ[i]? = some (some (.tr io t)) /\ mp ρ = some π /\ t.get π = some u /\ σ[i]? = some (some v0) /\ bH K cls S H u w d.1 /\ (F i).Perm (d.1 ++ d.2) /\ (d.1 ++ d.2).Nodup /\ (io = true -> Av i = some (.lst [v0])) /\
   ∀ S' H' u' f',aJ S S' -> bH K cls S' H' u' w f' -> (∀ a ∈ d.2,∀ o,H a = some o -> H' a = some o) -> ∃ g,bH K cls S' H' (t.put π u') v0 g /\ g.Perm (f' ++ d.2)) /\ ((∀ i mp,as[k]? ≠ some (.t i mp)) -> d = ([],[])):=by
  intro k
  by_cases hk:∃ i mp,as[k]? = some (.t i mp)
  . obtain ⟨i,mp,e⟩:=hk
    obtain ⟨s,w,es,ev,r⟩:=h.at e
    cases s with
    | tr io' u=>
      cases io' with
      | false=>exact r.elim
      | true=>
        obtain ⟨io,t,π,v0,h1,h2,h3,h4,h5⟩:=r
        obtain ⟨v,ev',ro,ndf,gs,hio⟩:=J.own i _ h1
        rw [h4] at ev'; cases ev'
        obtain ⟨w',f1,rest,wk,r1,p1,c1⟩:=ro.focus h3
        have:=h5.inj wk
        subst this
        refine ⟨(f1,rest),fun i' mp' e'=>?_,fun z=>absurd e (z i mp)⟩
        rw [e] at e'
        cases e'
        exact ⟨io,t,π,u,v0,w,es,ev,h1,h2,h3,h4,r1,p1,p1.nodup_iff.mp ndf,hio,c1⟩
    | sh x=>exact r.elim
    | ow x=>exact r.elim
    | ex c fs=>exact r.elim
    | bo x=>exact r.elim
  . exact ⟨([],[]),fun i mp e=>absurd ⟨i,mp,e⟩ hk,fun _=>rfl⟩
 obtain ⟨d,hd⟩:=Classical.axiomOfChoice cell
 have tOf:∀ k a,a ∈ (d k).1 -> ∃ i mp,as[k]? = some (.t i mp) /\ a ∈ F i:=by
  intro k a ha
  by_cases hk:∃ i mp,as[k]? = some (.t i mp)
  . obtain ⟨i,mp,e⟩:=hk
    obtain ⟨io,t,π,u,v0,w,_,_,_,_,_,_,_,p1,_⟩:=(hd k).1 i mp e
    exact ⟨i,mp,e,p1.mem_iff.mpr (List.mem_append_left _ ha)⟩
  . rw [(hd k).2 fun i mp e=>hk ⟨i,mp,e⟩] at ha; cases ha
 have hlen:=h.len
 have pJ:∀ i a,a ∈ F i -> (∀ k mp,as[k]? = some (.t i mp) -> a ∉ (d k).1) -> ∀ k,a ∉ (d k).1:=by
  intro i a ha hn k hk
  obtain ⟨i',mp,e,ha'⟩:=tOf k a hk
  have:=J.apart i i' a ha ha'
  subst this
  exact hn k mp e hk
 refine ⟨fun k=>(d k).1,⟨J.sh,by rw [hlen.1,hlen.2],fun k s es=>?_,fun j k a h1 h2=>?_,fun k a ha=>?_⟩,fun outs S' H' Fc' E=>?_⟩
 . have hk:k < as.length:=by rw [<- hlen.1]; exact (List.getElem?_eq_some_iff.mp es).1
   obtain ⟨s',w,es',ev,r⟩:=h.at (k:=k) (a:=as[k]) (by simp [hk])
   rw [es] at es'; cases es'
   refine ⟨w,ev,?_⟩
   cases q:as[k] with
   | e me=>
     rw [q] at r
     have hz:=(hd k).2 fun i mp e=>by rw [List.getElem?_eq_getElem hk,q] at e; cases e
     cases s <;> first | exact r.elim | exact ⟨by rw [hz],r⟩
   | t i mp=>
     have eq:as[k]? = some (.t i mp):=by rw [List.getElem?_eq_getElem hk,q]
     obtain ⟨io,t,π,u,v0,w',es',ev',_,_,_,_,r1,_,nd1,_⟩:=(hd k).1 i mp eq
     rw [es] at es'; cases es'
     rw [ev] at ev'; cases ev'
     exact ⟨r1,(List.nodup_append.mp nd1).1⟩
   | b i mp=>
     have eq:as[k]? = some (.b i mp):=by rw [List.getElem?_eq_getElem hk,q]
     rw [q] at r
     have hz:=(hd k).2 fun i mp e=>by rw [eq] at e; cases e
     cases s with
     | bo u=>
       obtain ⟨t,π,v0,h1,h2,h3,h4,h5⟩:=r
       refine ⟨by rw [hz],?_⟩
       have nt:i ∉ dB as:=by
        have:=List.all_eq_true.mp hb i (yN eq)
        simpa using this
       have ro:∃ f,bH K cls S (minus H fun k=>(d k).1) t v0 f:=by
        unfold ky at h1
        cases q1:ρ[i]? with
        | none=>rw [q1] at h1; cases h1
        | some o=>
          cases o with
          | none=>rw [q1] at h1; cases h1
          | some s1=>
            rw [q1] at h1
            obtain ⟨v,ev',r⟩:=J.own i s1 q1
            rw [h4] at ev'; cases ev'
            cases s1 with
            | tr io t'=>
              cases h1
              exact ⟨_,r.1.mono (aJ.refl _) fun a ha o ho=>by
               rw [jZ (pJ i a ha fun k' mp' e'=>absurd (ir e') nt)]; exact ho⟩
            | bo t'=>
              cases h1
              obtain ⟨_,f,r⟩:=r
              exact ⟨f,r.mono (aJ.refl _) fun a ha o ho=>by
               rw [jZ fun k' hk'=>?_]
               . exact J.gh _ _ ho
               . obtain ⟨i',mp',_,ha'⟩:=tOf k' a hk'
                 rw [(J.live i' a ha').2.1] at ho; cases ho⟩
            | sh x=>cases h1
            | ow x=>cases h1
            | ex c fs=>cases h1
       obtain ⟨f,ro⟩:=ro
       obtain ⟨w',f1,rest,wk,r1,_,_⟩:=ro.focus h3
       have:=h5.inj (wk.mono tH)
       subst this
       exact ⟨f1,r1⟩
     | sh x=>exact r.elim
     | ow x=>exact r.elim
     | ex c fs=>exact r.elim
     | tr io x=>exact r.elim
 . obtain ⟨i,mp,e1,m1⟩:=tOf j a h1
   obtain ⟨i',mp',e2,m2⟩:=tOf k a h2
   have:=J.apart i i' a m1 m2
   subst this
   exact m8 nd e1 e2
 . obtain ⟨i,mp,e1,m1⟩:=tOf k a ha
   exact ⟨(J.live i a m1).1,(J.live i a m1).2.2⟩
 .
  have noS:∀ i a,a ∈ F i -> (∀ k,a ∉ (d k).1) -> S' a = none:=fun i a ha hn=>by
   cases z:S' a with
   | none=>rfl
   | some o=>
     obtain ⟨⟨o',h1,_⟩,_,h3⟩:=J.live i a ha
     rcases E.new a (by rw [z]; simp) with y | y | ⟨k,y⟩
     . exact absurd h3 y
     . rw [h1] at y; cases y
     . exact absurd y (hn k)
  have keep:∀ a o,(∀ k,a ∉ (d k).1) -> H a = some o -> H' a = some o:=fun a o hn ho=>E.keep a o (by rw [jZ hn]; exact ho)
  have restOff:∀ k i mp,as[k]? = some (.t i mp) -> ∀ a ∈ (d k).2,a ∈ F i /\ ∀ k',a ∉ (d k').1:=fun k i mp e a ha=>by
   obtain ⟨io,t,π,u,v0,w,_,_,_,_,_,_,_,p1,nd1,_⟩:=(hd k).1 i mp e
   have m:a ∈ F i:=p1.mem_iff.mpr (List.mem_append_right _ ha)
   refine ⟨m,pJ i a m fun k' mp' e' hk'=>?_⟩
   have:=m8 nd e e'
   subst this
   exact (List.nodup_append.mp nd1).2.2 a hk' a ha rfl
  have gcell:∀ k:Nat,∃ g:List Addr,∀ i mp u',as[k]? = some (.t i mp) -> outs[k]? = some (some u') -> ∀ io t π,ρ[i]? = some (some (.tr io t)) -> mp ρ = some π -> ∃ v0,σ[i]? = some (some v0) /\ (io = true -> Av i = some (.lst [v0])) /\ bH K cls S' H' (t.put π u') v0 g /\ g.Perm (Fc' k ++ (d k).2):=by
   intro k
   by_cases hk:∃ i mp u',as[k]? = some (.t i mp) /\ outs[k]? = some (some u')
   . obtain ⟨i,mp,u',e,eo⟩:=hk
     obtain ⟨io,t,π,u,v0,w,es,ev,h1,h2,h3,h4,r1,p1,nd1,hio,c1⟩:=(hd k).1 i mp e
     obtain ⟨w',ew,r',ndf'⟩:=E.out k u' eo
     rw [ev] at ew; cases ew
     obtain ⟨g,rg,pg⟩:=c1 S' H' u' (Fc' k) E.s r' fun a ha o ho=>keep a o (restOff k i mp e a ha).2 ho
     refine ⟨g,fun i' mp' u'' e' eo' io' t' π' h1' h2'=>?_⟩
     rw [e] at e'; cases e'
     rw [eo] at eo'; cases eo'
     rw [h1] at h1'; cases h1'
     rw [h2] at h2'; cases h2'
     exact ⟨v0,h4,hio,rg,pg⟩
   . exact ⟨[],fun i mp u' e eo=>absurd ⟨i,mp,u',e,eo⟩ hk⟩
  obtain ⟨g,hg⟩:=Classical.axiomOfChoice gcell
  have fcell:∀ i:Nat,∃ f:List Addr,(i ∉ dB as -> f = F i) /\ ∀ k mp,as[k]? = some (.t i mp) -> ((∃ io t π u',ρ[i]? = some (some (.tr io t)) /\ mp ρ = some π /\ outs[k]? = some (some u')) -> f = g k) /\ ((¬ ∃ io t π u',ρ[i]? = some (some (.tr io t)) /\ mp ρ = some π /\ outs[k]? = some (some u')) -> f = []):=by
   intro i
   by_cases hi:i ∈ dB as
   . obtain ⟨k,mp,e⟩:=qK hi
     by_cases hx:∃ io t π u',ρ[i]? = some (some (.tr io t)) /\ mp ρ = some π /\ outs[k]? = some (some u')
     . refine ⟨g k,fun z=>absurd hi z,fun k' mp' e'=>?_⟩
       have:=m8 nd e e'
       subst this
       rw [e] at e'; cases e'
       exact ⟨fun _=>rfl,fun z=>absurd hx z⟩
     . refine ⟨[],fun z=>absurd hi z,fun k' mp' e'=>?_⟩
       have:=m8 nd e e'
       subst this
       rw [e] at e'; cases e'
       exact ⟨fun z=>absurd z hx,fun _=>rfl⟩
   . exact ⟨F i,fun _=>rfl,fun k mp e=>absurd (ir e) hi⟩
  obtain ⟨F',hF'⟩:=Classical.axiomOfChoice fcell
  have memF:∀ i a,a ∈ F' i -> (i ∉ dB as /\ a ∈ F i /\ ∀ k,a ∉ (d k).1) \/ (∃ k mp,as[k]? = some (.t i mp) /\ F' i = g k /\ ((a ∈ Fc' k) \/ (a ∈ F i /\ ∀ k,a ∉ (d k).1)) /\ ∃ io t π u',ρ[i]? = some (some (.tr io t)) /\ mp ρ = some π /\ outs[k]? = some (some u')):=by
   intro i a ha
   by_cases hi:i ∈ dB as
   . obtain ⟨k,mp,e⟩:=qK hi
     by_cases hx:∃ io t π u',ρ[i]? = some (some (.tr io t)) /\ mp ρ = some π /\ outs[k]? = some (some u')
     . have e1:=((hF' i).2 k mp e).1 hx
       refine .inr ⟨k,mp,e,e1,?_,hx⟩
       obtain ⟨io,t,π,u',h1,h2,h3⟩:=hx
       obtain ⟨v0,_,_,rg,pg⟩:=hg k i mp u' e h3 io t π h1 h2
       rw [e1] at ha
       rcases List.mem_append.mp (pg.mem_iff.mp ha) with z | z
       . exact .inl z
       . exact .inr (restOff k i mp e a z)
     . rw [((hF' i).2 k mp e).2 hx] at ha; cases ha
   . have e1:=(hF' i).1 hi
     rw [e1] at ha
     exact .inl ⟨hi,ha,pJ i a ha fun k mp e=>absurd (ir e) hi⟩
  refine ⟨F',?_,J.s0.trans E.s,E.sh,fun b hbn=>?_,fun i s e=>?_,fun i j a h1 h2=>?_,fun i a ha=>?_,?_⟩
  . intro b u hu
    refine keep b u (fun k hk=>?_) (J.gh b u hu)
    obtain ⟨i,mp,_,m⟩:=tOf k b hk
    rw [(J.live i b m).2.1] at hu; cases hu
  . rcases E.new b hbn with z | z | ⟨k,z⟩
    . exact J.new b z
    . exact .inr (J.gh.free z)
    . obtain ⟨i,mp,_,m⟩:=tOf k b z
      exact .inr (J.live i b m).2.1
  . by_cases hi:i ∈ dB as
    . obtain ⟨k,mp,ek⟩:=qK hi
      obtain ⟨io,t,π,u,e1,e2,e3,rfl⟩:=yB nd ek e
      obtain ⟨v0,h1,hio,rg,pg⟩:=hg k i mp u ek e1 io t π e2 e3
      have e4:=((hF' i).2 k mp ek).1 ⟨io,t,π,u,e2,e3,e1⟩
      rw [e4]
      obtain ⟨w',ew,r',ndf'⟩:=E.out k u e1
      refine ⟨v0,h1,rg,pg.nodup_iff.mpr (List.nodup_append.mpr ⟨ndf',?_,fun a ha b hb' z=>?_⟩),fun a ha=>?_,hio⟩
      . obtain ⟨_,_,_,_,_,_,_,_,_,_,_,_,_,_,nd1,_⟩:=(hd k).1 i mp ek
        exact (List.nodup_append.mp nd1).2.1
      . subst z
        obtain ⟨m,off⟩:=restOff k i mp ek a hb'
        have:=(E.live k a ha).1
        rw [jZ off] at this
        obtain ⟨⟨o,ho,_⟩,_⟩:=J.live i a m
        rw [this] at ho; cases ho
      . rcases List.mem_append.mp (pg.mem_iff.mp ha) with z | z
        . refine ⟨?_,(E.live k a z).2⟩
          rcases m4 (E.live k a z).1 with y | ⟨k',y⟩
          . exact J.gh.free y
          . obtain ⟨i',mp',_,m⟩:=tOf k' a y
            exact (J.live i' a m).2.1
        . obtain ⟨m,off⟩:=restOff k i mp ek a z
          exact ⟨(J.live i a m).2.1,noS i a m off⟩
    . rw [rh hi] at e
      obtain ⟨v,ev,r⟩:=J.own i s e
      rw [(hF' i).1 hi]
      have off:∀ a ∈ F i,∀ k,a ∉ (d k).1:=fun a ha=>pJ i a ha fun k mp e=>absurd (ir e) hi
      exact ⟨v,ev,r.mono E.s (fun a ha o ho=>keep a o (off a ha) ho) (fun b o hx ho=>keep b o (fun k hk=>by
       obtain ⟨i',mp',_,m⟩:=tOf k b hk
       obtain ⟨⟨o',h1,h2⟩,_⟩:=J.live i' b m
       rw [ho] at h1; cases h1; rw [hx] at h2; cases h2) ho) fun a ha=>noS i a ha (off a ha)⟩
  .
   have key:∀ i j a,a ∈ F' i -> a ∈ F' j -> (∃ k,a ∈ Fc' k) -> ∃ k mp,as[k]? = some (.t i mp) /\ a ∈ Fc' k:=by
    intro i j a ha _ ⟨k0,hk0⟩
    have no:∀ i',a ∈ F i' -> ¬ ∀ k,a ∉ (d k).1:=fun i' m off=>by
     have:=(E.live k0 a hk0).1
     rw [jZ off] at this
     obtain ⟨⟨o,ho,_⟩,_⟩:=J.live i' a m
     rw [this] at ho; cases ho
    rcases memF i a ha with ⟨_,m,off⟩ | ⟨k,mp,e,_,z,_⟩
    . exact absurd off (no i m)
    . rcases z with z | ⟨m,off⟩
      . exact ⟨k,mp,e,z⟩
      . exact absurd off (no i m)
   by_cases hk:∃ k,a ∈ Fc' k
   . obtain ⟨k1,mp1,e1,z1⟩:=key i j a h1 h2 hk
     obtain ⟨k2,mp2,e2,z2⟩:=key j i a h2 h1 hk
     have:=E.apart k1 k2 a z1 z2
     subst this
     rw [e1] at e2; cases e2; rfl
   . have fromF:∀ i,a ∈ F' i -> a ∈ F i:=fun i ha=>by
      rcases memF i a ha with ⟨_,m,_⟩ | ⟨k,mp,e,_,z,_⟩
      . exact m
      . rcases z with z | ⟨m,_⟩
        . exact absurd ⟨k,z⟩ hk
        . exact m
     exact J.apart i j a (fromF i h1) (fromF j h2)
  . rcases memF i a ha with ⟨_,m,off⟩ | ⟨k,mp,e,eg,z,io,t,π,u',x1,x2,x3⟩
    . obtain ⟨⟨o,ho,hx⟩,hg',_⟩:=J.live i a m
      exact ⟨⟨o,keep a o off ho,hx⟩,hg',noS i a m off⟩
    . obtain ⟨v0,_,_,rg,pg⟩:=hg k i mp u' e x3 io t π x1 x2
      rw [eg] at ha
      refine ⟨rg.live a ha,?_⟩
      rcases z with z | ⟨m,off⟩
      . refine ⟨?_,(E.live k a z).2⟩
        rcases m4 (E.live k a z).1 with y | ⟨k',y⟩
        . exact J.gh.free y
        . obtain ⟨i',mp',_,m⟩:=tOf k' a y
          exact (J.live i' a m).2.1
      . exact ⟨(J.live i a m).2.1,noS i a m off⟩
  . rw [xP]; exact J.len
end
end L2.P
namespace L2.E
open PySem PySem.Spec PyProof.Rows L2
section
variable {X:Cx} {k:Nat} {f C:Addr} {fd:FuncData} {ps:List Str} {sp:Sp} {ds:List Value} {W:XW} {x m:Str} {p pos apos:Pos} {e o:Expr} {es:List Expr} {ta:TE} {t:TA}
noncomputable def wx (C:Addr) (m:Str) (sp:Sp) (W:XW) (ta:TE) (t:TA):TE:=fun σ H Q=>ta σ H fun x H1=>∃ a dx fs,x = .ref a /\ H1 a = some (.ins C dx fs) /\ fs.lookup m = none /\
 t σ H1 fun vs H2=>sp (x ::vs) H2 Q fun C a H'=>W C a σ H'
theorem wJ {pl:Sem Bool} (he:QE X o ta) (c:Cls X.K C) (hm:Meth X.K C m f) (F:cb X.prog X.w X.K X.mg X.base (CXE X.prog X.w) k f fd ps sp) (hr:iN k X.A) (hb:Binds X.K fd ps []) (hx:Thr X W) (ha:QA X (e ::es) t)
  (hst:starEach (e ::es) X.env = (false,eval e X.env) ::starEach es X.env:=by rfl) (hpl:(backTo pos (starEach es X.env)).any (·.1) = false:=by rfl)
  (ht:eval (.Call (.Attribute o m apos) (e ::es) [] pos) X.env = (do
    let ov <- eval o X.env
    standAt apos.atName
    let (f,first) <- holding [ov] (getMethod ov m pl)
    callWith pos f first (backTo pos (starEach (e ::es) X.env)) (backToKw pos (keywordEach [] X.env))):=by rfl):
  QE X (.Call (.Attribute o m apos) (e ::es) [] pos) (wx C m sp W ta t):=⟨by
 intro pins s σ H Q I h
 refine PySem.W.methodCall_KW (pl:=pl) (thn (he.out pins s σ H _ I h) fun u s1 ⟨x,H1,I1,rx,a,dx,fs,ex,ea,l,q⟩=>?_) ht
 subst ex
 obtain rfl:u = Value.ref a:=rx
 refine sF I1 ea c hm l ?_
 refine PySem.W.callWith_K (first:=[.ref a]) (h₀:=X.base) I.ok.mod.kin hm.kp (thn (ha.out pos pins s1 σ H1 _ I1 q) fun us s2 ⟨vs,H2,I2,r,q2⟩=>⟨I2.kIn,?_⟩) hst hpl
 exact r6 (us:=.ref a ::us) (vs:=.ref a ::vs) (dvs:=[]) F hr hb .nil hx I2 (.cons rfl r) (by rw [List.append_nil]; exact q2)⟩
theorem uT {pl:Sem Bool} (he:QE X o ta) (c:Cls X.K C) (hm:Meth X.K C m f) (F:cb X.prog X.w X.K X.mg X.base (CXE X.prog X.w) k f fd ps sp) (hr:iN k X.A) (hb:Binds X.K fd ps []) (hx:Thr X W)
  (ht:eval (.Call (.Attribute o m apos) [] [] pos) X.env = (do
    let ov <- eval o X.env
    standAt apos.atName
    let (f,first) <- holding [ov] (getMethod ov m pl)
    callWith pos f first (backTo pos (starEach [] X.env)) (backToKw pos (keywordEach [] X.env))):=by rfl):
  QE X (.Call (.Attribute o m apos) [] [] pos) (wx C m sp W ta m6):=⟨by
 intro pins s σ H Q I h
 refine PySem.W.methodCall_KW (pl:=pl) (thn (he.out pins s σ H _ I h) fun u s1 ⟨x,H1,I1,rx,a,dx,fs,ex,ea,l,q⟩=>?_) ht
 subst ex
 obtain rfl:u = Value.ref a:=rx
 refine sF I1 ea c hm l ?_
 exact PySem.W.callWith_K0 (first:=[.ref a]) I1.kIn hm.kp (r6 (us:=[.ref a]) (vs:=[.ref a]) (dvs:=[]) F hr hb .nil hx I1 (.cons rfl .nil) q)⟩
theorem uD {x:Str} (F:cb X.prog X.w X.K X.mg X.base (CXE X.prog X.w) k f fd ps sp) (hr:iN k X.A) (hg:Gl X x) (hm:X.mg x = some (.ref f)) (hk:PySem.W.keepIn X.K (.ref f) = true) (hb:Binds X.K fd ps []) (hx:Thr X W)
  (hdb:(x == ("__debug__":Str)) = false:=by decide):QE X (.Call (.Name x p) [] [] pos) (tV sp [] W m6):=⟨AR F hr hg hm hk hb .nil hx hdb⟩
theorem Ce (M:Mk X.K C f) (F:cb X.prog X.w X.K X.mg X.base (CXE X.prog X.w) k f fd ps sp) (hr:iN (k + 1) X.A) (hg:Gl X x) (hm:X.mg x = some (.ref C)) (hb:Binds X.K fd ps []) (hdb:(x == ("__debug__":Str)) = false:=by decide):
  QE X (.Call (.Name x p) [] [] pos) (Dg C sp [] (fun _ _ _=>False) m6):=⟨Cz M F hr hg hm hb .nil (fun pins σ H s e s' I h=>by obtain ⟨a,C,dx,H',_,_,_,_,_,_,z⟩:=h; exact z.elim) hdb⟩
theorem sL {f:Str} (he:QE X e ta) (hb:attributeBase e f X.env (eval e X.env) = eval e X.env:=by rfl):QE X (.Attribute e f pos) (Hq X.K ta f):=⟨G8 he.out hb⟩
theorem GA {f:Str} {value:Expr} {tv:TE} {pos':Pos} (ha:QE X o ta) (hv:QE X value tv) (hs:swapsWith value (some (.Attribute o f pos')) pos.line X.env = pure false:=by rfl):QS X (.Assign [.Attribute o f pos'] value pos) (Hu X.K ta tv f):=⟨G7 ha.out hv.out hs⟩
end
end L2.E
namespace L2.P
open PySem PySem.Spec PyProof.Rows L2 L2.E
section
variable {K:PySem.W.Frag} {cls:String -> Option Addr} {W:XW} {Av G S₀ S S' H H' B B':Hp} {ρ:ag} {σ:St} {Q:VK} {F Fc Fc':Nat -> List Addr}
theorem SR.more {x:PV} {v:V} (I:SR K cls Av G S₀ ρ σ S H) (h:Rep K S x v):SR K cls Av G S₀ (ρ ++ [some (.sh x)]) (σ ++ [some v]) S H:=by
 obtain ⟨F,J⟩:=I
 exact J.more (fp:=[]) (fun t e=>by cases e; exact ⟨v,rfl,rfl,h⟩) (fun a ha=>nomatch ha) fun j a _ ha=>nomatch ha
theorem ym {f:List Sl -> OI} {as:List Arg} {ss:List Sl} {vs:List V} {S1 H1:Hp} (ok:argsOk as = true) (I:SR K cls Av G S₀ ρ σ S1 H1) (s1:aJ S S1) (ar:ARs K S1 H1 ρ σ as ss vs)
  (p:Fw K cls W Av G S₀ σ S Q (match f ss with
    | .ok x outs=>.ok (gU ρ as outs ρ) (.sh x)
    | .exc c fs outs=>.exc (gU ρ as outs ρ) c fs
    | .bad=>.bad)):spI K cls f vs H1 Q fun C a H'=>W C a σ H':=by
 obtain ⟨Fc,A,fin⟩:=I.Jb ok ar
 refine ⟨S1,ss,Fc,A,?_⟩
 cases e:f ss with
 | bad=>rw [e] at p; exact p
 | ok x outs=>rw [e] at p; exact fun v S' H' Fc' E r=>p v S' H' ((fin outs S' H' Fc' E).more r) (s1.trans E.s)
 | exc c fs outs=>rw [e] at p; exact fun a C S' H' Fc' E r=>p a C S' H' (fin outs S' H' Fc' E) (s1.trans E.s) r
theorem zY {c:String} {m:Str} {C:Addr} {a:Arg} {s:Sl} {v:V} (hc:cls c = some C) (I:SR K cls Av G S₀ ρ σ S H) (r:AR1 K S H ρ σ a s v) (h:recv c m (some s) = true):∃ q dx us,v = .ref q /\ H q = some (.ins C dx us) /\ us.lookup m = none:=by
 have main:∀ (ks:List Str) (ts:List OV) (f:List Addr),(c == c && !ks.contains m) = true -> bH K cls S H (.ob c ks ts) v f -> ∃ q dx us,v = .ref q /\ H q = some (.ins C dx us) /\ us.lookup m = none:=by
  intro ks ts f hk ro
  unfold bH at ro
  obtain ⟨q,C',dx,us,ff,rfl,hcl,hq,hd,hks,rfl,rs⟩:=ro
  rw [hc] at hcl; cases hcl
  refine ⟨q,dx,us,rfl,hq,?_⟩
  have hn:m ∉ us.map (·.1):=by rw [hks]; simpa using hk
  clear hks hk rs hq
  induction us with
  | nil=>rfl
  | cons p us ih=>
    obtain ⟨g,y⟩:=p
    simp at hn
    have:(m == g) = false:=by simpa using hn.1
    simp [List.lookup,this,ih (by simpa using hn.2)]
 cases a with
 | e me=>cases s <;> first | exact r.elim | cases h
 | t i mp=>
   cases s with
   | tr io u=>
     cases io with
     | false=>cases h
     | true=>
       cases u with
       | sh x=>cases h
       | ol ts=>cases h
       | di x=>cases h
       | dt x=>cases h
       | ob c' ks ts=>
         obtain ⟨io,t,π,v0,h1,h2,h3,h4,h5⟩:=r
         have h':(c' == c && !ks.contains m) = true:=h
         have hcc:c' = c:=by rw [Bool.and_eq_true] at h'; simpa using h'.1
         subst hcc
         obtain ⟨v',fp,ev,ro⟩:=I.tree (i:=i) (t:=t) (by unfold ky; rw [h1]; rfl)
         rw [h4] at ev; cases ev
         obtain ⟨w,f1,rest,wk,r1,_,_⟩:=ro.focus h3
         have:=h5.inj wk
         subst this
         exact main ks ts f1 h' r1
   | sh x=>exact r.elim
   | ow x=>exact r.elim
   | ex c fs=>exact r.elim
   | bo x=>exact r.elim
 | b i mp=>
   cases s with
   | bo u=>
     cases u with
     | sh x=>cases h
     | ol ts=>cases h
     | di x=>cases h
     | dt x=>cases h
     | ob c' ks ts=>
       obtain ⟨t,π,v0,h1,h2,h3,h4,h5⟩:=r
       have h':(c' == c && !ks.contains m) = true:=h
       have hcc:c' = c:=by rw [Bool.and_eq_true] at h'; simpa using h'.1
       subst hcc
       obtain ⟨v',fp,ev,ro⟩:=I.tree h1
       rw [h4] at ev; cases ev
       obtain ⟨w,f1,rest,wk,r1,_,_⟩:=ro.focus h3
       have:=h5.inj wk
       subst this
       exact main ks ts f1 h' r1
   | sh x=>exact r.elim
   | ow x=>exact r.elim
   | ex c fs=>exact r.elim
   | tr io x=>exact r.elim
theorem wB {c:String} {m:Str} {C:Addr} {f:List Sl -> OI} {a:Arg} {as:List Arg} {ta:TE} {t:TA} (hc:cls c = some C) (ok:argsOk (a ::as) = true) (ha:JA1 K cls ta a) (h:JAI K cls t as):JX K cls W (wx C m (spI K cls f) W ta t) (oe c m f (a ::as)):=by
 intro Av G S₀ ρ σ S H Q I p
 unfold oe at p
 dsimp only at p
 split at p
 . rename_i hr
   unfold vL at p
   cases e:lY (a ::as) ρ with
   | none=>rw [e] at p; exact p.elim
   | some ss=>
     rw [e] at p
     have e':=e
     unfold lY at e'
     obtain ⟨s,e1,e2⟩:=Option.bind_eq_some_iff.mp e'
     obtain ⟨sr,e3,rfl⟩:=Option.map_eq_some_iff.mp e2
     rw [e1] at hr
     refine ha Av G S₀ ρ σ S H _ s I e1 fun v S1 H1 w1 r1=>?_
     have I1:=I.grow w1
     obtain ⟨q,dx,us,rfl,hq,hl⟩:=zY hc I1 r1 hr
     refine ⟨q,dx,us,rfl,hq,hl,?_⟩
     refine h Av G S₀ ρ σ S1 H1 _ sr I1 e3 fun vs S2 H2 w2 ar=>?_
     exact ym (ss:=s ::sr) ok (I1.grow w2) (w1.s.trans w2.s) ⟨s,sr,_,vs,rfl,rfl,r1.mono w2.s w2.g,ar⟩ p
 . exact p.elim
theorem yG {f:List Sl -> OI} {as:List Arg} {ss:List Sl} {vs:List V} (ok:dB as = []) (I:SR K cls Av G S₀ ρ σ S H) (ar:ARs K S H ρ σ as ss vs)
  (p:lr K cls W σ S H Q (match f ss with
    | .ok x _=>.ok (.sh x)
    | .exc c fs _=>.exc c fs
    | .bad=>.bad)):spI K cls f vs H Q fun C a H'=>W C a σ H':=by
 have hm:minus H (fun _=>[]) = H:=by funext a; exact jZ fun k h=>nomatch h
 have hlen:=ar.len
 refine ⟨S,ss,fun _=>[],⟨I.sh,by rw [hlen.1,hlen.2],fun k s es=>?_,fun j k a h=>(nomatch h),fun k a h=>(nomatch h)⟩,?_⟩
 . have hk:k < as.length:=by rw [<- hlen.1]; exact (List.getElem?_eq_some_iff.mp es).1
   obtain ⟨s',w,es',ev,r⟩:=ar.at (k:=k) (a:=as[k]) (by simp [hk])
   rw [es] at es'; cases es'
   refine ⟨w,ev,?_⟩
   cases q:as[k] with
   | e me=>
     rw [q] at r
     cases s <;> first | exact r.elim | exact ⟨rfl,r⟩
   | t i mp=>
     have:=ir (as:=as) (k:=k) (i:=i) (mp:=mp) (by rw [List.getElem?_eq_getElem hk,q])
     rw [ok] at this; cases this
   | b i mp=>
     rw [q] at r
     cases s with
     | bo u=>
       obtain ⟨t,π,v0,h1,h2,h3,h4,h5⟩:=r
       obtain ⟨v',fp,ev',ro⟩:=I.tree h1
       rw [h4] at ev'; cases ev'
       obtain ⟨w',f1,rest,wk,r1,_,_⟩:=ro.focus h3
       have:=h5.inj wk
       subst this
       exact ⟨rfl,f1,by rw [hm]; exact r1⟩
     | sh x=>exact r.elim
     | ow x=>exact r.elim
     | ex c fs=>exact r.elim
     | tr io x=>exact r.elim
 . have gr:∀ {outs S' H' Fc'},BH K cls vs S H (fun _=>[]) outs S' H' Fc' -> bz S H S' H':=fun {outs S' H' Fc'} E=>⟨E.s,by have:=E.keep; rwa [hm] at this,E.sh,fun b hb=>by
    rcases E.new b hb with z | z | ⟨k,z⟩
    . exact .inl z
    . exact .inr z
    . cases z⟩
   cases e:f ss with
   | bad=>rw [e] at p; exact p
   | ok x outs=>rw [e] at p; exact fun v S' H' Fc' E r=>p v S' H' (gr E) r
   | exc c fs outs=>rw [e] at p; exact fun a C S' H' Fc' E r=>p a C S' H' (gr E) r
theorem xK {c:String} {m:Str} {C:Addr} {f:List Sl -> OI} {a:Arg} {as:List Arg} {ta:TE} {t:TA} (hc:cls c = some C) (ok:dB (a ::as) = []) (ha:JA1 K cls ta a) (h:JAI K cls t as):JE K cls W (wx C m (spI K cls f) W ta t) (mx c m f (a ::as)):=by
 intro Av G S₀ ρ σ S H Q I p
 unfold mx at p
 dsimp only at p
 split at p
 . rename_i hr
   unfold v3 at p
   cases e:lY (a ::as) ρ with
   | none=>rw [e] at p; exact p.elim
   | some ss=>
     rw [e] at p
     have e':=e
     unfold lY at e'
     obtain ⟨s,e1,e2⟩:=Option.bind_eq_some_iff.mp e'
     obtain ⟨sr,e3,rfl⟩:=Option.map_eq_some_iff.mp e2
     rw [e1] at hr
     refine ha Av G S₀ ρ σ S H _ s I e1 fun v S1 H1 w1 r1=>?_
     have I1:=I.grow w1
     obtain ⟨q,dx,us,rfl,hq,hl⟩:=zY hc I1 r1 hr
     refine ⟨q,dx,us,rfl,hq,hl,?_⟩
     refine h Av G S₀ ρ σ S1 H1 _ sr I1 e3 fun vs S2 H2 w2 ar=>?_
     exact yG (ss:=s ::sr) ok (I1.grow w2) ⟨s,sr,_,vs,rfl,rfl,r1.mono w2.s w2.g,ar⟩ (p.back (w1.trans w2))
 . exact p.elim
theorem DI {c:String} {C:Addr} {f:List Sl -> OI} (hc:cls c = some C):JD K cls W (Dg C (spI K cls f) [] (fun _ _ _=>False) m6) (uH c f):=by
 intro Av G S₀ ρ σ S H Q I p
 unfold uH at p
 show ∀ x dx,H x = none -> H dx = none -> dx ≠ x -> _
 intro x dx hx hdx ne
 have gS:∀ a,H a = none -> S a = none:=fun a h=>I.sh.free h
 let H1:=upd (upd H dx (.own x)) x (.ins C dx [])
 have h1x:H1 x = some (.ins C dx []):=bb
 have h1d:H1 dx = some (.own x):=by show upd _ x _ dx = _; rw [ba ne,bb]
 have h1o:∀ a,a ≠ x -> a ≠ dx -> H1 a = H a:=fun a n1 n2=>by show upd _ x _ a = _; rw [ba n1,ba n2]
 let Fc:Nat -> List Addr:=fun k=>if k = 0 then [x,dx] else []
 have mF:∀ k a,a ∈ Fc k -> k = 0 /\ (a = x \/ a = dx):=fun k a h=>by
  have h':a ∈ (if k = 0 then [x,dx] else []):=h
  split at h'
  . rename_i e; exact ⟨e,by simpa using h'⟩
  . cases h'
 have A:C7 K cls [.tr true (.ob c [] [])] [.ref x] S H1 Fc:=by
  refine ⟨fun b u h=>?_,rfl,fun k s e=>?_,fun j k a h1 h2=>?_,fun k a h=>?_⟩
  . have hb:=I.sh b u h
    rw [h1o b (fun z=>by rw [z,hx] at hb; cases hb) (fun z=>by rw [z,hdx] at hb; cases hb)]; exact hb
  . cases k with
    | zero=>
      cases e
      refine ⟨.ref x,rfl,?_,?_⟩
      . unfold bH
        exact ⟨x,C,dx,[],[],rfl,hc,h1x,h1d,rfl,rfl,.nil⟩
      . show [x,dx].Nodup
        simp [Ne.symm ne]
    | succ k=>simp at e
  . rw [(mF j a h1).1,(mF k a h2).1]
  . rcases (mF k a h).2 with z | z
    . subst z; exact ⟨⟨_,h1x,rfl⟩,gS _ hx⟩
    . subst z; exact ⟨⟨_,h1d,rfl⟩,gS _ hdx⟩
 refine ⟨S,_,Fc,A,?_⟩
 have free:∀ a,minus H1 Fc a = none -> H a = none:=fun a h=>by
  rcases m4 h with z | ⟨k,z⟩
  . by_cases n1:a = x
    . rw [n1]; exact hx
    . by_cases n2:a = dx
      . rw [n2]; exact hdx
      . rw [h1o a n1 n2] at z; exact z
  . rcases (mF k a z).2 with y | y
    . rw [y]; exact hx
    . rw [y]; exact hdx
 cases e:f [.tr true (.ob c [] [])] with
 | bad=>rw [e] at p; exact p.elim
 | exc c fs outs=>rw [e] at p; exact p.elim
 | ok y outs=>
   rw [e] at p
   cases y with
   | non=>
     cases outs with
     | nil=>exact p.elim
     | cons o outs=>
       cases o with
       | none=>exact p.elim
       | some t=>
         dsimp only at p
         intro v S' H' Fc' E r
         unfold Rep at r
         refine ⟨r,p (.ref x) S' H' ⟨E.s,fun b u h=>?_,E.sh,fun b h=>?_⟩ ?_⟩
         . have n1:b ≠ x:=fun z=>by rw [z,hx] at h; cases h
           have n2:b ≠ dx:=fun z=>by rw [z,hdx] at h; cases h
           refine E.keep b u ?_
           rw [jZ fun k z=>?_]
           . exact (h1o b n1 n2).trans h
           . rcases (mF k b z).2 with y | y
             . exact n1 y
             . exact n2 y
         . rcases E.new b h with z | z | ⟨k,z⟩
           . exact .inl z
           . refine .inr ?_
             by_cases n1:b = x
             . rw [n1]; exact hx
             . by_cases n2:b = dx
               . rw [n2]; exact hdx
               . exact (h1o b n1 n2).symm.trans z
           . rcases (mF k b z).2 with y | y
             . rw [y]; exact .inr hx
             . rw [y]; exact .inr hdx
         . obtain ⟨u,eu,ro,nd⟩:=E.out 0 t rfl
           cases eu
           exact ⟨Fc' 0,ro,nd,fun a ha=>⟨free a (E.live 0 a ha).1,(E.live 0 a ha).2⟩⟩
   | bl b=>exact p.elim
   | int b=>exact p.elim
   | str b=>exact p.elim
   | lst b=>exact p.elim
   | tup b=>exact p.elim
end
end L2.P
namespace L2.E
open PySem PySem.Spec PyProof.Rows L2
noncomputable def u4 (wi:TI) (ι:List Nat) (tc:TT) (te:TE):TE:=fun σ H Q=>wi σ H fun J H1=>∀ D,H1 D = none -> ∃ W:Nat -> Nat -> List V -> Hp -> Prop,(∃ m,W 0 m [] (upd H1 D (.lst []))) /\ ∀ i m ys H,W i m ys H ->
 H D = some (.lst ys) /\ ((J.stop i H /\ Q (.ref D) H) \/ (J.go i H /\ ∀ x H',J.yld i H x H' -> tc (pick ι σ ++ [some x]) H' fun b H3=>H3 D = some (.lst ys) /\ if b = true then
   te (pick ι σ ++ [some x]) H3 fun y H2=>H2 D = some (.lst ys) /\ ys.length < sizeLine /\ ∃ m',m' < m /\ W (i + 1) m' (ys ++ [y]) (upd H2 D (.lst (ys ++ [y]))) else ∃ m',m' < m /\ W (i + 1) m' ys H3))
section
variable {X:Cx} {scope:Scope} {cl:List (Str × Addr)} {M:List Str} {ι:List Nat} {x:Str}
theorem Bd {elt iter c:Expr} {px pos:Pos} {wi:TI} {tc:TT} {te:TE} (S:mX X scope cl M ι x) (hc:X.calm = true) (hi:PI X (.Name x px) iter wi) (hcd:∀ C s₀ H₀ ex,PT (blk X scope cl (M ++ [x]) C s₀ H₀ ex) c tc) (he:∀ C s₀ H₀ ex,PE (blk X scope cl (M ++ [x]) C s₀ H₀ ex) elt te)
  (hs:∀ v,foldedSetIterable iter X.env v = pure v:=by intro _; rfl):PE X (.ListComp elt [⟨.Name x px,iter,[c],0⟩] scope pos) (u4 wi ι tc te):=by
 intro pins s σ H Q I h
 rw [eval_ListComp]
 refine wpAny_comprehension_free (use:=none) rfl hs S.clos S.kind (fun y hy hl=>?_) (wpAny_mono (hi pins s σ H _ I h) (fun v s1 h1=>wpAny_mono h1 (fun itv s2 h2=>?_) fun _ _ z=>z) fun _ _ z=>z)
 . have q:=List.all_eq_true.mp S.locs y hy
   rw [hl] at q
   simpa using q
 obtain ⟨it,fp,tn,J,H2,rfl,I2,T,st2,f2,hW⟩:=h2
 have I3:=I2.Dr (ys:=[]) (its:=[]) (t':=s2.toks) .nil (Nat.zero_le _)
 obtain ⟨W,⟨m0,w0⟩,turn⟩:=hW s2.heap.objs.size I2.fresh
 have fpo:∀ b ∈ fp,b < s2.heap.objs.size:=fun b hb=>let ⟨_,e,_⟩:=T.obj _ _ st2 b hb; Heap.lt_size e
 have f3:∀ b ∈ fp,oO X pins (upd H2 s2.heap.objs.size (.lst [])) b:=fun b hb=>by
  obtain ⟨q0,q⟩:=f2 b hb
  exact ⟨by rw [ba (Nat.ne_of_lt (fpo b hb))]; exact q0,q⟩
 show wpAny _ _ (newObj (.type "list") _ none) _ _ s2
 refine wpAny_newObj_type (wpAny_newFunctionEnv (fun y hy=>?_) (by intro y hy; simp at hy) (fun h₁ hn₁ sb₁=>?_) S.kind)
 . have q:=List.all_eq_true.mp S.nocell y hy
   simpa using q
 have hsz:(s2.heap.push { cls:=.type "list",dict:=none,data:=.seq ([]:List Value).toArray }).objs.size = s2.heap.objs.size + 1:=Heap.size_push ..
 have hk₁:∀ b o,(s2.heap.push { cls:=.type "list",dict:=none,data:=.seq ([]:List Value).toArray }).get? b = some o -> h₁.get? b = some o:=fun b o e=>
  (sb₁.2 b (Nat.ne_of_lt (Heap.lt_size e))).trans (Heap.get?_push_of_some _ e)
 have J0:=ya (t':=s2.toks + ([]:List (Str × Value)).length) S I3 (ex:=fp) (fun b hb=>⟨f3 b hb,Nat.lt_of_lt_of_le (fpo b hb) (by rw [hsz]; exact Nat.le_succ _)⟩) hn₁ hk₁
 have old:∀ b ∈ fp,∀ o,s2.heap.get? b = some o -> h₁.get? b = some o:=fun b _ o e=>hk₁ b o (Heap.get?_push_of_some _ e)
 have st₁:tn 0 h₁:=T.keep _ _ _ st2 old
 have loop:codeAny (model X.prog X.w) X.A (.compLoop (.ListComp elt [⟨.Name x px,iter,[c],0⟩] scope pos) 0 (.ref it) (.ref s2.heap.objs.size) (compEnvC scope cl (s2.heap.objs.size + 1) X.env))
   (compPost (model X.prog X.w) X.A X.xe none (EP X pins σ Q) (.ref s2.heap.objs.size) (s2.heap.objs.size + 1)) { s2 with heap:=h₁,toks:=s2.toks + ([]:List (Str × Value)).length }:=by
  rw [hsz] at J0
  refine codeAny_loop rfl (fun n s'=>∃ i H' ys v,Inv (blk X scope cl (M ++ [x]) (s2.heap.objs.size + 1) { s2 with heap:=s2.heap.push { cls:=.type "list",data:=.seq ([]:List Value).toArray },toks:=s2.toks } (upd H2 s2.heap.objs.size (.lst [])) fp) [] (pick ι σ ++ [v]) H' s' /\ tn i s'.heap /\ (∀ b ∈ fp,H' b = none) /\ W i n ys H')
   (fun n s' hI=>?_) m0 ⟨0,_,[],none,J0,st₁,fun b hb=>(f3 b hb).1,w0⟩
  obtain ⟨i,H',ys,v,J',st',fr',w'⟩:=hI
  obtain ⟨hD,alt⟩:=turn i n ys H' w'
  have fpY:∀ {G:Hp},(∀ b ∈ fp,G b = none) -> ∀ b ∈ fp,oO (blk X scope cl (M ++ [x]) (s2.heap.objs.size + 1) { s2 with heap:=s2.heap.push { cls:=.type "list",data:=.seq ([]:List Value).toArray },toks:=s2.toks } (upd H2 s2.heap.objs.size (.lst [])) fp) [] G b:=fun hG b hb=>
   ⟨hG b hb,(J'.ok.exf b hb).1,J'.ok.exfs b hb,.inl hb,(J'.ok.exf b hb).2,fun p hp=>absurd (show p ∈ ([]:List (Addr × Obj)) from hp) (by simp)⟩
  show wpAny _ _ ((compTurn _ 0 (.ref it) (.ref s2.heap.objs.size) (compEnvC scope cl (s2.heap.objs.size + 1) X.env)).onRaise _) _ _ s'
  refine wpAny_noted (wpAny_noRaise ?_)
  rw [compTurn_list]
  refine wpAny_bind (wpAny_standAt (wpAny_bind ?_))
  rcases alt with ⟨stop,qn⟩ | ⟨go,step⟩
  . refine thn (T.done (blk X scope cl (M ++ [x]) (s2.heap.objs.size + 1) _ _ fp) rfl rfl rfl hc i [] s' _ H' _ J' (fpY fr') st' stop) fun r s4 ⟨hr,J4⟩=>?_
    subst hr
    refine wpAny_pure ?_
    obtain ⟨m,hm,_⟩:=id J4.loc
    refine ⟨m,hm,fun h' sb=>⟨.ref s2.heap.objs.size,H',wt I3 hsz.symm f3 J4 sb,rfl,qn⟩⟩
  . refine thn (T.item (blk X scope cl (M ++ [x]) (s2.heap.objs.size + 1) _ _ fp) rfl rfl rfl hc i [] s' _ H' _ J' (fpY fr') st' go) fun r s4 ⟨u,hr,h4⟩=>?_
    subst hr
    refine wpAny_bind (thn h4 fun _ s5 ⟨z,H5,J5,r5,y5,st5,fr5⟩=>?_)
    have J5':=J5.pinned (fpY fr5) (T.obj _ _ st5)
    have hxN:(M ++ [x])[M.length]? = some x:=by simp
    refine wpAny_bind ?_
    refine wpAny_assign_Name ?_
    refine kl (X:=blk X scope cl (M ++ [x]) (s2.heap.objs.size + 1) _ _ fp) (i:=M.length) (v:=z) J5' S.nd hxN (.inl (lookup_relabel_local S.var)) r5 (fun s6 J6=>?_) (.inr (lookup_relabel_local S.var))
    have hlp:(pick ι σ).length = M.length:=by
     have q:=congrArg List.length S.names
     rw [List.length_map,List.length_map] at q
     unfold pick
     rw [List.length_map,q]
    have hset:(pick ι σ ++ [v]).set M.length (some z) = pick ι σ ++ [some z]:=by
     rw [<- hlp,List.set_append_right _ _ (Nat.le_refl _),Nat.sub_self]
     rfl
    rw [hset] at J6
    refine wpAny_bind (wpAny_tests_one (thn (hcd _ _ _ _ _ s6 _ H5 _ J6 (step z H5 y5)) fun b s7 ⟨H7,J7,hD7,q7⟩=>?_))
    cases b with
    | true=>
      rw [if_pos rfl] at q7
      refine wpAny_bind (wpAny_bind (thn (he _ _ _ _ _ s7 _ H7 _ J7 q7) fun yv s8 ⟨y,H8,J8,r8,hD8,hz8,m',hm',w8⟩=>?_))
      refine wpAny_bind (thn (jy (X:=blk X scope cl (M ++ [x]) (s2.heap.objs.size + 1) _ _ fp) _ s8 _ H8 (.ref s2.heap.objs.size) [y] (.ref s2.heap.objs.size) [yv] (fun _ G=>G = upd H8 s2.heap.objs.size (.lst (ys ++ [y]))) J8 rfl (.cons r8 .nil) ⟨_,_,y,rfl,rfl,hD8,hz8,rfl⟩) fun _ s9 ⟨_,H9,J9,_,e9⟩=>?_)
      subst e9
      refine wpAny_pure (wpAny_pure ⟨rfl,m',hm',i + 1,_,_,some z,J9.ki,?_,fun b hb=>?_,w8⟩)
      . exact T.keep _ _ _ st5 fun b hb o e=>(J9.pin (b,o) (List.mem_append_right _ (List.mem_append_right _ (fm hb e)))).1
      . obtain ⟨o,e,d⟩:=T.obj _ _ st5 b hb
        exact (J9.pin (b,o) (List.mem_append_right _ (List.mem_append_right _ (fm hb e)))).2.1
    | false=>
      rw [if_neg (by decide)] at q7
      obtain ⟨m',hm',w8⟩:=q7
      refine wpAny_pure ⟨rfl,m',hm',i + 1,_,_,some z,J7.ki,?_,fun b hb=>?_,w8⟩
      . exact T.keep _ _ _ st5 fun b hb o e=>(J7.pin (b,o) (List.mem_append_right _ (List.mem_append_right _ (fm hb e)))).1
      . obtain ⟨o,e,d⟩:=T.obj _ _ st5 b hb
        exact (J7.pin (b,o) (List.mem_append_right _ (List.mem_append_right _ (fm hb e)))).2.1
 rw [hsz] at *
 exact codeAny_compStart_list loop (T.self X.A 0 _ _ _ st₁ loop)
end
end L2.E
namespace L2.E
open PySem PySem.Spec PyProof.Rows L2
theorem Bz (its:List Value):slicePick its.toArray none none (some (-1)) = its.reverse.toArray:=by
 unfold slicePick
 have hb:sliceBounds none none (some (-1)) its.toArray.size = ((its.length:Int) - 1,-1,-1):=by simp [sliceBounds]
 rw [hb]
 congr 1
 have hr:sliceRange ((its.length:Int) - 1) (-1) (-1) = (List.range its.length).map fun i=>its.length - 1 - i:=by
  unfold sliceRange
  rw [if_neg (by decide)]
  have hc:(if ((its.length:Int) - 1) > -1 then (((its.length:Int) - 1) - -1 - -1 - 1) / (- -1) else 0).toNat = its.length:=by
   split
   . rw [show (- -1:Int) = 1 by decide,Int.ediv_one]; omega
   . omega
  dsimp only
  rw [hc]
  refine List.map_congr_left fun k hk=>?_
  have:=List.mem_range.mp hk
  omega
 rw [hr]
 apply List.ext_getElem?
 intro n
 rw [List.filterMap_map]
 have hall:∀ m,m <= its.length -> List.filterMap ((fun x=>its.toArray[x]?) ∘ fun i=>its.length - 1 - i) (List.range m) = (its.reverse).take m:=by
  intro m
  induction m with
  | zero=>intro _; simp
  | succ m ih=>
    intro hm
    rw [List.range_succ,List.filterMap_append,ih (by omega)]
    have h1:its.length - 1 - m < its.length:=by omega
    have h2:m < its.reverse.length:=by rw [List.length_reverse]; omega
    rw [List.take_succ_eq_append_getElem h2]
    congr 1
    simp [h1]
 rw [hall its.length (Nat.le_refl _),List.take_of_length_le (by simp)]
theorem xn:∀ {xs:List V} {us:List Value},Vals xs us -> Vals xs.reverse us.reverse
 | _,_,.nil=>.nil
 | _,_,.cons r t=>by
   rw [List.reverse_cons,List.reverse_cons]
   exact (xn t).append (.cons r .nil)
section
variable {X:Cx} {e st:Expr} {te ts:TE} {pos p2:Pos}
noncomputable def HI (K:PySem.W.Frag) (te ts:TE):TE:=fun σ H Q=>te σ H fun x H1=>ts σ H1 fun k H2=>k = .int (-1) /\ ∃ a xs,x = .ref a /\ SqL K H2 a xs /\ ∀ p,H2 p = none -> Q (.ref p) (upd H2 p (.lst xs.reverse))
theorem Hv (he:PE X e te) (hk:PE X st ts):PE X (.Subscript e (.Slice none none (some st) p2) pos) (HI X.K te ts):=by
 intro pins s σ H Q I h
 refine Subscript_ (thn (he pins s σ H _ I h) fun v s1 ⟨x,H1,I1,r1,q1⟩=>?_)
 refine wpAny_Slice ?_
 rw [evalPart_none]
 refine wpAny_pure (wpAny_pure ?_)
 rw [evalPart_some]
 refine thn (hk pins s1 σ H1 _ I1 q1) fun u s3 ⟨k,H3,I3,r3,q3⟩=>?_
 obtain ⟨rfl,a,xs,rfl,hq,q⟩:=q3
 obtain ⟨t,rfl⟩:=r3
 cases r1
 have I4:Inv X pins σ H3 { s3 with heap:=s3.heap.push { cls:=.type "slice",data:=.fields #[.none,.none,.int (-1) t] } }:=I3.kept (t':=s3.toks) fun b ob q=>Heap.get?_push_of_some _ q
 obtain ⟨its,r,ht,hz⟩:=I4.list hq
 have hlen:=r.length
 show wpAny (model X.prog X.w) X.A (subscriptTail e (.Slice none none (some st) p2) (.ref a) (.ref s3.heap.objs.size)) (EP X pins σ Q) X.xe { s3 with heap:=s3.heap.push { cls:=.type "slice",data:=.fields #[.none,.none,.int (-1) t] } }
 refine tail_any (ops:=[.ref a,.ref s3.heap.objs.size]) ht.isList.typeIs slot_list_getitem.lookup ?_ (by with_unfolding_all rfl)
 refine wpAny_getItem_list_slice ht.isList (Heap.IsSliceOf.new ..) .none .none (.int (-1) t) (by decide) ?_ (by rw [List.size_toArray] <;> omega)
 rw [Bz]
 refine ⟨.ref _,_,I4.laid (t':=s3.toks) (o:=.lst xs.reverse) (fun b ob q=>Heap.get?_push_of_some _ q) (Nat.le_refl _) ?_,rfl,q _ (I4.hok.fresh (Nat.le_refl _))⟩
 refine ⟨by rw [List.length_reverse]; exact hz,its.reverse,0,xn r,Heap.get?_push_size _ rfl⟩
end
end L2.E
namespace L2.E
open PySem PySem.Spec PyProof.Rows L2
section
variable {X:Cx} {scope:Scope} {cl:List (Str × Addr)} {M:List Str} {ι:List Nat} {x:Str}
theorem Et {i:Nat} {y:Str} {py spos:Pos} {elt iter:Expr} {px pos:Pos} {wi:TI} {te:TE} (S:mX X scope cl M ι x) (hc:X.calm = true) (hi:PI X (.Name x px) iter wi) (he:∀ C s₀ H₀ ex,PE (blk X scope cl (M ++ [x]) C s₀ H₀ ex) elt te)
  (hN:X.N.Nodup) (hiy:X.N[i]? = some y) (hy:Loc X.env.scope y) (hsw:swapsWith (.ListComp elt [⟨.Name x px,iter,[],0⟩] scope pos) (some (.Name y py)) spos.line X.env = pure true) (hf:X.fn y = true \/ X.env.scope.names.lookup y = some .local:=by first | exact .inl rfl | exact .inr rfl | assumption)
  (hs:∀ v,foldedSetIterable iter X.env v = pure v:=by intro _; rfl):PS X (.Assign [.Name y py] (.ListComp elt [⟨.Name x px,iter,[],0⟩] scope pos) spos) (ur (sW wi ι te) (lp i)):=by
 intro pins s σ H D0 I h
 rw [exec_Assign_Name_used _ _ _ _ hsw]
 refine wpAny_bind (wpAny_standAt (wpAny_bind ?_))
 show wpAny _ _ (do let _ <- comprehension (.ListComp elt [⟨.Name x px,iter,[],0⟩] scope pos) scope X.env _ (newList []) false (eval iter X.env) (some (assign (.Name y py) X.env))) _ _ s
 refine wpAny_bind (wpAny_mono (wpAny_comprehension_free (use:=some (assign (.Name y py) X.env)) (Q:=fun _ s'=>∃ σ' H',Inv X pins σ' H' s' /\ D0.nx σ' H') rfl hs S.clos S.kind (fun y hy hl=>?_) (wpAny_mono (hi pins s σ H _ I h) (fun v s1 h1=>wpAny_mono h1 (fun itv s2 h2=>?_) fun _ _ z=>z) fun _ _ z=>z)) (fun _ s' hq=>wpAny_pure (wpAny_pure hq)) fun _ _ e=>e)
 . have q:=List.all_eq_true.mp S.locs y hy
   rw [hl] at q
   simpa using q
 obtain ⟨it,fp,tn,J,H2,rfl,I2,T,st2,f2,hW⟩:=h2
 have I3:=I2.Dr (ys:=[]) (its:=[]) (t':=s2.toks) .nil (Nat.zero_le _)
 obtain ⟨W,⟨m0,w0⟩,turn⟩:=hW s2.heap.objs.size I2.fresh
 have fpo:∀ b ∈ fp,b < s2.heap.objs.size:=fun b hb=>let ⟨_,e,_⟩:=T.obj _ _ st2 b hb; Heap.lt_size e
 have f3:∀ b ∈ fp,oO X pins (upd H2 s2.heap.objs.size (.lst [])) b:=fun b hb=>by
  obtain ⟨q0,q⟩:=f2 b hb
  exact ⟨by rw [ba (Nat.ne_of_lt (fpo b hb))]; exact q0,q⟩
 show wpAny _ _ (newObj (.type "list") _ none) _ _ s2
 refine wpAny_newObj_type (wpAny_newFunctionEnv (fun y hy=>?_) (by intro y hy; simp at hy) (fun h₁ hn₁ sb₁=>?_) S.kind)
 . have q:=List.all_eq_true.mp S.nocell y hy
   simpa using q
 have hsz:(s2.heap.push { cls:=.type "list",dict:=none,data:=.seq ([]:List Value).toArray }).objs.size = s2.heap.objs.size + 1:=Heap.size_push ..
 have hk₁:∀ b o,(s2.heap.push { cls:=.type "list",dict:=none,data:=.seq ([]:List Value).toArray }).get? b = some o -> h₁.get? b = some o:=fun b o e=>
  (sb₁.2 b (Nat.ne_of_lt (Heap.lt_size e))).trans (Heap.get?_push_of_some _ e)
 have J0:=ya (t':=s2.toks + ([]:List (Str × Value)).length) S I3 (ex:=fp) (fun b hb=>⟨f3 b hb,Nat.lt_of_lt_of_le (fpo b hb) (by rw [hsz]; exact Nat.le_succ _)⟩) hn₁ hk₁
 have old:∀ b ∈ fp,∀ o,s2.heap.get? b = some o -> h₁.get? b = some o:=fun b _ o e=>hk₁ b o (Heap.get?_push_of_some _ e)
 have st₁:tn 0 h₁:=T.keep _ _ _ st2 old
 have loop:codeAny (model X.prog X.w) X.A (.compLoop (.ListComp elt [⟨.Name x px,iter,[],0⟩] scope pos) 0 (.ref it) (.ref s2.heap.objs.size) (compEnvC scope cl (s2.heap.objs.size + 1) X.env))
   (compPost (model X.prog X.w) X.A X.xe (some (assign (.Name y py) X.env)) (fun _ s'=>∃ σ' H',Inv X pins σ' H' s' /\ D0.nx σ' H') (.ref s2.heap.objs.size) (s2.heap.objs.size + 1)) { s2 with heap:=h₁,toks:=s2.toks + ([]:List (Str × Value)).length }:=by
  rw [hsz] at J0
  refine codeAny_loop rfl (fun n s'=>∃ i H' ys v,Inv (blk X scope cl (M ++ [x]) (s2.heap.objs.size + 1) { s2 with heap:=s2.heap.push { cls:=.type "list",data:=.seq ([]:List Value).toArray },toks:=s2.toks } (upd H2 s2.heap.objs.size (.lst [])) fp) [] (pick ι σ ++ [v]) H' s' /\ tn i s'.heap /\ (∀ b ∈ fp,H' b = none) /\ W i n ys H')
   (fun n s' hI=>?_) m0 ⟨0,_,[],none,J0,st₁,fun b hb=>(f3 b hb).1,w0⟩
  obtain ⟨i,H',ys,v,J',st',fr',w'⟩:=hI
  obtain ⟨hD,alt⟩:=turn i n ys H' w'
  have fpY:∀ {G:Hp},(∀ b ∈ fp,G b = none) -> ∀ b ∈ fp,oO (blk X scope cl (M ++ [x]) (s2.heap.objs.size + 1) { s2 with heap:=s2.heap.push { cls:=.type "list",data:=.seq ([]:List Value).toArray },toks:=s2.toks } (upd H2 s2.heap.objs.size (.lst [])) fp) [] G b:=fun hG b hb=>
   ⟨hG b hb,(J'.ok.exf b hb).1,J'.ok.exfs b hb,.inl hb,(J'.ok.exf b hb).2,fun p hp=>absurd (show p ∈ ([]:List (Addr × Obj)) from hp) (by simp)⟩
  show wpAny _ _ ((compTurn _ 0 (.ref it) (.ref s2.heap.objs.size) (compEnvC scope cl (s2.heap.objs.size + 1) X.env)).onRaise _) _ _ s'
  refine wpAny_noted (wpAny_noRaise ?_)
  rw [u2]
  refine wpAny_bind (wpAny_standAt (wpAny_bind ?_))
  rcases alt with ⟨stop,qn⟩ | ⟨go,step⟩
  . refine thn (T.done (blk X scope cl (M ++ [x]) (s2.heap.objs.size + 1) _ _ fp) rfl rfl rfl hc i [] s' _ H' _ J' (fpY fr') st' stop) fun r s4 ⟨hr,J4⟩=>?_
    subst hr
    refine wpAny_pure ?_
    obtain ⟨m,hm,_⟩:=id J4.loc
    have I4:Inv X pins σ H' s4:=wt (h':=s4.heap) I3 hsz.symm f3 J4 ⟨rfl,fun _ _=>rfl⟩
    obtain ⟨oC,es,ep,hoC,rC⟩:=id hm
    have fC:oO X pins H' (s2.heap.objs.size + 1):=I3.B7 (by rw [hsz]; exact Nat.le_refl _) J4.free
    obtain ⟨_,c1,c2,c3,c4,c5⟩:=id fC
    have I5:=I4.pinned (fp:=[s2.heap.objs.size + 1]) (fun b hb=>by
     have z:b = s2.heap.objs.size + 1:=by simpa using hb
     subst z; exact fC) fun b hb=>by
     have z:b = s2.heap.objs.size + 1:=by simpa using hb
     subst z
     exact ⟨oC,hoC,fun v z=>by rw [rC.1] at z; cases z⟩
    show wpAny _ _ (assign (.Name y py) X.env (.ref s2.heap.objs.size)) _ _ s4
    refine wpAny_assign_Name (kl I5 hN hiy hy (v:=.ref s2.heap.objs.size) rfl (fun s5 I6=>?_) hf)
    have hC5:s5.heap.get? (s2.heap.objs.size + 1) = some oC:=(I6.pin (_,oC) (List.mem_append_right _ (List.mem_append_right _ (fm (List.mem_singleton.mpr rfl) hoC)))).1
    refine ⟨m,⟨oC,es,ep,hC5,rC⟩,fun h' sb=>⟨_,H',(I6.ki).turned (t':=s5.toks) (it:=s2.heap.objs.size + 1) (fun b o hb e=>(sb.2 b hb).trans e) J4.free c1 c3 c4 c5,qn⟩⟩
  . refine thn (T.item (blk X scope cl (M ++ [x]) (s2.heap.objs.size + 1) _ _ fp) rfl rfl rfl hc i [] s' _ H' _ J' (fpY fr') st' go) fun r s4 ⟨u,hr,h4⟩=>?_
    subst hr
    refine wpAny_bind (thn h4 fun _ s5 ⟨z,H5,J5,r5,y5,st5,fr5⟩=>?_)
    have J5':=J5.pinned (fpY fr5) (T.obj _ _ st5)
    have hxN:(M ++ [x])[M.length]? = some x:=by simp
    refine wpAny_bind ?_
    refine wpAny_assign_Name ?_
    refine kl (X:=blk X scope cl (M ++ [x]) (s2.heap.objs.size + 1) _ _ fp) (i:=M.length) (v:=z) J5' S.nd hxN (.inl (lookup_relabel_local S.var)) r5 (fun s6 J6=>?_) (.inr (lookup_relabel_local S.var))
    have hlp:(pick ι σ).length = M.length:=by
     have q:=congrArg List.length S.names
     rw [List.length_map,List.length_map] at q
     unfold pick
     rw [List.length_map,q]
    have hset:(pick ι σ ++ [v]).set M.length (some z) = pick ι σ ++ [some z]:=by
     rw [<- hlp,List.set_append_right _ _ (Nat.le_refl _),Nat.sub_self]
     rfl
    rw [hset] at J6
    refine wpAny_bind (wpAny_bind (thn (he _ _ _ _ _ s6 _ H5 _ J6 (step z H5 y5)) fun yv s7 ⟨y,H7,J7,r7,hD7,hz7,m',hm',w7⟩=>?_))
    refine wpAny_bind (thn (jy (X:=blk X scope cl (M ++ [x]) (s2.heap.objs.size + 1) _ _ fp) _ s7 _ H7 (.ref s2.heap.objs.size) [y] (.ref s2.heap.objs.size) [yv] (fun _ G=>G = upd H7 s2.heap.objs.size (.lst (ys ++ [y]))) J7 rfl (.cons r7 .nil) ⟨_,_,y,rfl,rfl,hD7,hz7,rfl⟩) fun _ s8 ⟨_,H8,J8,_,e8⟩=>?_)
    subst e8
    refine wpAny_pure (wpAny_pure ⟨rfl,m',hm',i + 1,_,_,some z,J8.ki,?_,fun b hb=>?_,w7⟩)
    . exact T.keep _ _ _ st5 fun b hb o e=>(J8.pin (b,o) (List.mem_append_right _ (List.mem_append_right _ (fm hb e)))).1
    . obtain ⟨o,e,d⟩:=T.obj _ _ st5 b hb
      exact (J8.pin (b,o) (List.mem_append_right _ (List.mem_append_right _ (fm hb e)))).2.1
 rw [hsz] at *
 exact codeAny_compStart_list loop (T.self X.A 0 _ _ _ st₁ loop)
end
end L2.E
namespace L2.P
open PySem PySem.Spec PyProof.Rows L2 L2.E
section
variable {K:PySem.W.Frag} {cls:String -> Option Addr} {W:XW} {Av G S₀ S S' H H' B B':Hp} {ρ:ag} {σ:St} {Q:VK}
theorem C5 {tl te:TE} {ml me:ag -> OE} {ι:List Nat} (hι:ι.Nodup) (hl:JE K cls W tl ml) (he:JE K cls (fun _ _ _ _=>False) te me):JE K cls W (sW (HQ K tl) ι te) (sk ml ι me):=by
 intro Av G S₀ ρ σ S H Q I p
 refine hl.go I p fun r v S1 H1 I1 w1 r1 p1=>?_
 have ra:=r1.rd I1.sh
 cases e:r.pv with
 | tup xs=>
   rw [e] at p1 ra
   obtain ⟨a,vs,rfl,hq,hr⟩:=mL ra
   refine ⟨a,rfl,⟨vs,aJ.tup I1.sh hq⟩,?_⟩
   dsimp only at p1
   cases em:dA me (dP ι ρ) xs with
   | exc c fs=>rw [em] at p1; exact p1.elim
   | bad=>rw [em] at p1; exact p1.elim
   | ok ys=>
     rw [em] at p1
     simp only [noX] at p1
     split at p1
     . rename_i hlen
       refine qR hι he I1 em hlen (fun k H' x g hx=>?_) (fun H' g=>⟨vs,aJ.tup (I1.sh.trans g) hq,by rw [hr.length]; exact Nat.le_refl _⟩) fun D S' H' w nD sD ⟨us,hD,rr⟩=>p1 (.ref D) S' H' w ⟨D,us,rfl,nD,sD,hD,rr⟩
       obtain ⟨u,hu,ru⟩:=hr.get hx
       refine ⟨⟨vs,u,aJ.tup (I1.sh.trans g) hq,hu⟩,?_⟩
       rintro v' H2 ⟨rfl,hv⟩
       have:=hv vs (aJ.tup (I1.sh.trans g) hq)
       rw [hu] at this
       cases this
       exact ⟨rfl,ru⟩
     . exact p1.elim
 | _=>rw [e] at p1; exact p1.elim
theorem xF {J:It} {ι:List Nat} {tc:TT} {mc:ag -> OT} {te:TE} {me:ag -> OE} {xs ys:List PV} (hι:ι.Nodup) (hc:JT K cls (fun _ _ _ _=>False) tc mc) (he:JE K cls (fun _ _ _ _=>False) te me) (I:SR K cls Av G S₀ ρ σ S H) (hy:i7 mc me (dP ι ρ) xs = .ok ys) (hl:ys.length <= lim)
  (go:∀ k H' x,aJ H H' -> xs[k]? = some x -> J.go k H' /\ ∀ v H2,J.yld k H' v H2 -> H2 = H' /\ Rep K S x v) (stop:∀ H',aJ H H' -> J.stop xs.length H')
  (hQ:∀ D S' H',bz S H S' H' -> H D = none -> S' D = none -> (∃ us,H' D = some (.lst us) /\ bR K S' ys us) -> Q (.ref D) H'):
  ∀ D,H D = none -> ∃ W:Nat -> Nat -> List V -> Hp -> Prop,(∃ m,W 0 m [] (upd H D (.lst []))) /\ ∀ i m us H',W i m us H' ->
    H' D = some (.lst us) /\ ((J.stop i H' /\ Q (.ref D) H') \/ (J.go i H' /\ ∀ x H2,J.yld i H' x H2 -> tc (L2.E.pick ι σ ++ [some x]) H2 fun b H4=>H4 D = some (.lst us) /\ if b = true then te (L2.E.pick ι σ ++ [some x]) H4 fun y H3=>H3 D = some (.lst us) /\ us.length < sizeLine /\ ∃ m',m' < m /\ W (i + 1) m' (us ++ [y]) (upd H3 D (.lst (us ++ [y]))) else ∃ m',m' < m /\ W (i + 1) m' us H4)):=by
 intro D nD
 refine ⟨fun k m us H'=>m + k = xs.length /\ H' D = some (.lst us) /\ ∃ S' zs ws,aJ S S' /\ aJ H H' /\ aJ S' H' /\ (∀ b,S' b ≠ none -> S b ≠ none \/ (H b = none /\ b ≠ D)) /\ bR K S' zs us /\ i7 mc me (dP ι ρ) (xs.drop k) = .ok ws /\ ys = zs ++ ws,
  ⟨xs.length,rfl,bb,S,[],ys,aJ.refl _,aJ.new nD,I.sh.trans (aJ.new nD),fun b z=>.inl z,.nil,hy,rfl⟩,?_⟩
 rintro k m us H' ⟨hm,hD,S',zs,ws,s1,g1,sh1,n1,r1,e1,rfl⟩
 refine ⟨hD,?_⟩
 have hSD:S' D = none:=by
  cases q:S' D with
  | none=>rfl
  | some o=>
    rcases n1 D (by rw [q]; simp) with z | ⟨_,z⟩
    . exact absurd (I.sh.free nD) z
    . exact absurd rfl z
 by_cases hk:k < xs.length
 . refine .inr ?_
   have hx:xs[k]? = some xs[k]:=by simp [hk]
   obtain ⟨hgo,hyld⟩:=go k H' xs[k] g1 hx
   refine ⟨hgo,fun v H2 hv=>?_⟩
   obtain ⟨rfl,rv⟩:=hyld v H2 hv
   rw [List.drop_eq_getElem_cons hk] at e1
   have I1:SR K cls Av G S₀ ρ σ S' H2:=I.grow ⟨s1,g1,sh1,fun b z=>by
    rcases n1 b z with z | ⟨z,_⟩
    . exact .inl z
    . exact .inr z⟩
   have Ip:=I1.pick hι (Rep.mono s1 rv)
   refine hc _ G S₀ _ _ S' H2 _ Ip ?_
   unfold i7 at e1
   split at e1
   . rename_i ec
     rw [ec]
     intro S2 H3 w2
     have hSD2:S2 D = none:=by
      cases q:S2 D with
      | none=>rfl
      | some o=>
        rcases w2.new D (by rw [q]; simp) with z | z
        . exact absurd hSD z
        . rw [hD] at z; cases z
     refine ⟨w2.g _ _ hD,?_⟩
     rw [if_pos rfl]
     refine he _ G S₀ _ _ S2 H3 _ (Ip.grow w2) ?_
     cases em:me (dP ι ρ ++ [some (.sh xs[k])]) with
     | exc c fs=>rw [em] at e1; cases e1
     | bad=>rw [em] at e1; cases e1
     | ok r=>
       rw [em] at e1
       simp only [OE.gq] at e1
       cases es:lS r with
       | none=>rw [es] at e1; cases e1
       | some y=>
         rw [es] at e1
         dsimp only at e1
         cases e2:i7 mc me (dP ι ρ) (xs.drop (k + 1)) with
         | exc c fs=>rw [e2] at e1; cases e1
         | bad=>rw [e2] at e1; cases e1
         | ok zs'=>
           rw [e2] at e1
           simp only [OA.gq] at e1
           cases e1
           intro u S4 H4 w4 r4
           obtain ⟨S3,w3,s3,ru⟩:=r4.share w4 es
           have hl2:(zs ++ y ::zs').length <= lim:=hl
           have w5:=w2.trans w3
           have hSD3:S3 D = none:=by
            cases q:S3 D with
            | none=>rfl
            | some o=>
              rcases w3.new D (by rw [q]; simp) with z | z
              . exact absurd hSD2 z
              . rw [w2.g _ _ hD] at z; cases z
           refine ⟨w5.g _ _ hD,?_,m - 1,by omega,by omega,bb,S3,zs ++ [y],zs',s1.trans w5.s,(g1.trans w5.g).upd nD,w3.sh.upd hSD3,fun b z=>?_,(r1.mono w5.s).append (.cons ru .nil),e2,by simp⟩
           . rw [r1.length,<- By]
             rw [List.length_append,List.length_cons] at hl2
             omega
           . rcases w5.new b z with z | z
             . exact n1 b z
             . refine .inr ⟨g1.free z,fun e=>?_⟩
               rw [e,hD] at z; cases z
   . rename_i ec
     rw [ec]
     intro S2 H3 w2
     refine ⟨w2.g _ _ hD,?_⟩
     rw [if_neg (by decide)]
     refine ⟨m - 1,by omega,by omega,w2.g _ _ hD,S2,zs,ws,s1.trans w2.s,g1.trans w2.g,w2.sh,fun b z=>?_,r1.mono w2.s,e1,rfl⟩
     rcases w2.new b z with z | z
     . exact n1 b z
     . refine .inr ⟨g1.free z,fun e=>?_⟩
       rw [e,hD] at z; cases z
   . cases e1
 . have hk':k = xs.length:=by omega
   subst hk'
   refine .inl ⟨stop H' g1,?_⟩
   rw [List.drop_length] at e1
   cases e1
   exact hQ D S' H' ⟨s1,g1,sh1,fun b z=>by
    rcases n1 b z with z | ⟨z,_⟩
    . exact .inl z
    . exact .inr z⟩ nD hSD ⟨us,hD,by rw [List.append_nil]; exact r1⟩
theorem yE {tl te:TE} {tc:TT} {ml me:ag -> OE} {mc:ag -> OT} {ι:List Nat} (hι:ι.Nodup) (hl:JE K cls W tl ml) (hc:JT K cls (fun _ _ _ _=>False) tc mc) (he:JE K cls (fun _ _ _ _=>False) te me):JE K cls W (u4 (xk K tl) ι tc te) (sy ml ι mc me):=by
 intro Av G S₀ ρ σ S H Q I p
 refine hl.go I p fun r v S1 H1 I1 w1 r1 p1=>?_
 have ra:=r1.rd I1.sh
 cases e:r.pv with
 | lst xs=>
   rw [e] at p1 ra
   obtain ⟨a,vs,rfl,hq,hr⟩:=iw ra
   refine ⟨a,rfl,⟨vs,hq⟩,?_⟩
   dsimp only at p1
   cases em:i7 mc me (dP ι ρ) xs with
   | exc c fs=>rw [em] at p1; exact p1.elim
   | bad=>rw [em] at p1; exact p1.elim
   | ok ys=>
     rw [em] at p1
     simp only [noX] at p1
     split at p1
     . rename_i hlen
       refine xF hι hc he I1 em hlen (fun k H' x g hx=>?_) (fun H' g=>⟨vs,aJ.seq g hq,by rw [hr.length]; exact Nat.le_refl _⟩) fun D S' H' w nD sD ⟨us,hD,rr⟩=>p1 (.ref D) S' H' w ⟨D,us,rfl,nD,sD,hD,rr⟩
       obtain ⟨u,hu,ru⟩:=hr.get hx
       refine ⟨⟨vs,u,aJ.seq g hq,hu⟩,?_⟩
       rintro v' H2 ⟨rfl,hv⟩
       have:=hv vs (aJ.seq g hq)
       rw [hu] at this
       cases this
       exact ⟨rfl,ru⟩
     . exact p1.elim
 | _=>rw [e] at p1; exact p1.elim
theorem Gy {ta ts:TE} {ma ms:ag -> OE} (ha:JE K cls W ta ma) (hs:JE K cls W ts ms):JE K cls W (HI K ta ts) (Ep ma ms):=by
 intro Av G S₀ ρ σ S H Q I p
 refine ha.go I p fun a v S1 H1 I1 w1 r1 p1=>hs.go I1 p1 fun k u S2 H2 I2 w2 r2 p2=>?_
 have ra:=(r1.rd I1.sh).mono w2.s w2.g
 have rk:=r2.rd I2.sh
 split at p2
 . rename_i xs n ea ek
   split at p2
   . rename_i hn
     rw [ea] at ra
     rw [ek] at rk
     obtain ⟨q,vs,rfl,hq,hr⟩:=iw ra
     refine ⟨by rw [dJ rk,hn],q,vs,rfl,hq,fun l hl=>?_⟩
     refine p2 _ S2 _ (bz.heap I2.sh hl) ⟨l,_,rfl,hl,I2.sh.free hl,bb,?_⟩
     clear ea p2 hq ra
     induction xs generalizing vs with
     | nil=>rw [hr.nil_inv]; exact .nil
     | cons x xs ih=>
       obtain ⟨y,t,rfl,h1,h2⟩:=hr.cons_inv
       rw [List.reverse_cons,List.reverse_cons]
       exact (ih _ h2).append (.cons h1 .nil)
   . exact p2.elim
 . exact p2.elim
end
end L2.P
namespace L2.E
open PySem PySem.Spec PyProof.Rows L2
theorem AI {X:Cx} {scope:Scope} {cl:List (Str × Addr)} {M:List Str} {ι:List Nat} {x:Str} {elt iter c:Expr} {px pos:Pos} {wi:TI} {tc:TT} {te:TE} (S:mX X scope cl M ι x) (hc:X.calm = true) (hi:QI X (.Name x px) iter wi) (hcd:∀ C s₀ H₀ ex,QT (blk X scope cl (M ++ [x]) C s₀ H₀ ex) c tc) (he:∀ C s₀ H₀ ex,QE (blk X scope cl (M ++ [x]) C s₀ H₀ ex) elt te)
  (hs:∀ v,foldedSetIterable iter X.env v = pure v:=by intro _; rfl):QE X (.ListComp elt [⟨.Name x px,iter,[c],0⟩] scope pos) (u4 wi ι tc te):=⟨Bd S hc hi.out (fun a b c d=>(hcd a b c d).out) (fun a b c d=>(he a b c d).out) hs⟩
theorem GW {X:Cx} {e st:Expr} {te ts:TE} {pos p2:Pos} (he:QE X e te) (hk:QE X st ts):QE X (.Subscript e (.Slice none none (some st) p2) pos) (HI X.K te ts):=⟨Hv he.out hk.out⟩
end L2.E
namespace L2.E
open PySem PySem.Spec PyProof.Rows L2
theorem El {X:Cx} {scope:Scope} {cl:List (Str × Addr)} {M:List Str} {ι:List Nat} {x:Str} {i:Nat} {y:Str} {py spos:Pos} {elt iter:Expr} {px pos:Pos} {wi:TI} {te:TE} (hN:X.N.Nodup) (hiy:X.N[i]? = some y) (hy:Loc X.env.scope y) (S:mX X scope cl M ι x) (hc:X.calm = true) (hi:QI X (.Name x px) iter wi) (he:∀ C s₀ H₀ ex,QE (blk X scope cl (M ++ [x]) C s₀ H₀ ex) elt te)
  (hsw:swapsWith (.ListComp elt [⟨.Name x px,iter,[],0⟩] scope pos) (some (.Name y py)) spos.line X.env = pure true:=by rfl) (hf:X.fn y = true \/ X.env.scope.names.lookup y = some .local:=by first | exact .inl rfl | exact .inr rfl | assumption)
  (hs:∀ v,foldedSetIterable iter X.env v = pure v:=by intro _; rfl):QS X (.Assign [.Name y py] (.ListComp elt [⟨.Name x px,iter,[],0⟩] scope pos) spos) (ur (sW wi ι te) (lp i)):=⟨Et S hc hi.out (fun a b c d=>(he a b c d).out) hN hiy hy hsw hf hs⟩
end L2.E
namespace L2.E
open PySem PySem.Spec PyProof.Rows L2
noncomputable def JF (p:Int × V) (e:DictEntry):Prop:=e.hash = hashInt p.1 /\ (∃ t,e.key = .int p.1 t) /\ RelV p.2 e.val
noncomputable def DKI (K:PySem.W.Frag) (d:Addr) (kvs:List (Int × V)):Prop:=(d == sysModules) = false /\ (kvs.map (·.1)).Nodup /\ ∃ (es:List DictEntry) (ep:Nat),K.lookup d = some ⟨.type "dict",none,.dict es.toArray ep,#[]⟩ /\ Paired JF kvs es
theorem x4 {prog:Program} {w:World}:∀ {kvs:List (Int × V)} {es:List DictEntry},Paired JF kvs es ->
  ∃ us:List (Int × Value),us.map (·.1) = kvs.map (·.1) /\ Pairs (intKind prog w) es us /\ (∀ e ∈ es,∃ k,(intKind prog w).is k e.key = true /\ e.hash = (intKind prog w).hash k) /\
    ∀ n,match kvs.lookup n with
      | some v=>∃ u,valueAt us n = some u /\ RelV v u
      | none=>valueAt us n = none
 | _,_,.nil=>⟨[],rfl,.nil,fun e he=>(nomatch he),fun n=>rfl⟩
 | (n,v) ::kvs,e ::es,.cons h t=>by
   obtain ⟨us,h1,h2,h3,h4⟩:=x4 (prog:=prog) (w:=w) t
   obtain ⟨k1,⟨tk,k2⟩,k3⟩:=h
   have hk:(intKind prog w).is n e.key = true:=by rw [k2]; show Value.isInt n (.int n tk) = true; simp [Value.isInt]
   refine ⟨(n,e.val) ::us,by simp [h1],.cons hk rfl h2,fun e' he'=>?_,fun m=>?_⟩
   . rcases List.mem_cons.mp he' with z | z
     . subst z; exact ⟨n,hk,k1⟩
     . exact h3 e' z
   . have:=h4 m
     by_cases hm:m = n
     . subst hm
       simp [List.lookup,valueAt]
       exact k3
     . have hb:(m == n) = false:=by simpa using hm
       have hn:¬ n = m:=fun z=>hm z.symm
       simp only [List.lookup,hb]
       unfold valueAt at this ⊢
       simp only [List.find?_cons,hn,decide_false]
       exact this
theorem DKI.at {X:Cx} {pins:List (Addr × Obj)} {σ:St} {H:Hp} {s:Shared} {d:Addr} {kvs:List (Int × V)} (D:DKI X.K d kvs) (I:Inv X pins σ H s):
  ∃ us:List (Int × Value),s.heap.DictOf (intKind X.prog X.w) d us /\ ∀ n,match kvs.lookup n with
     | some v=>∃ u,valueAt us n = some u /\ RelV v u
     | none=>valueAt us n = none:=by
 obtain ⟨_,nd,es,ep,hk,pr⟩:=D
 obtain ⟨us,h1,h2,h3,h4⟩:=x4 (prog:=X.prog) (w:=X.w) pr
 exact ⟨us,⟨_,es.toArray,ep,I.kIn d _ hk,⟨rfl,rfl,rfl⟩,rfl,fun e he=>h3 e (by simpa using he),by simpa using h2,by rw [h1]; exact nd⟩,h4⟩
section
variable {X:Cx}
noncomputable def Fj (K:PySem.W.Frag):R2:=fun x y H Q=>∃ d kvs n v,x = .ref d /\ y = .int n /\ DKI K d kvs /\ kvs.lookup n = some v /\ Q v H
theorem Ji:IxR X (Fj X.K):=by
 intro value slice pins s σ H x y v u Q I rx ry h hs
 obtain ⟨d,kvs,n,z,rfl,rfl,D,hl,q⟩:=h
 cases rx
 obtain ⟨t,rfl⟩:=ry
 obtain ⟨us,dd,hv⟩:=D.at I
 have h2:=hv n
 rw [hl] at h2
 obtain ⟨w,e,rw'⟩:=h2
 refine tail_any (ops:=[.ref d,.int n t]) dd.typeIs slot_dict_getitem.lookup ?_ hs
 exact wpAny_getItem_of (knd:=intKind X.prog X.w) (k:=n) (by show Value.isInt n (.int n t) = true; simp [Value.isInt]) dd.mapOf e ⟨z,H,I.tok _,rw',q⟩
noncomputable def CW (K:PySem.W.Frag) (td te:TE):TE:=fun σ H Q=>td σ H fun x H1=>∃ d kvs,x = .ref d /\ DKI K d kvs /\ te σ H1 fun y H2=>∃ n,y = .int n /\ Q ((kvs.lookup n).getD .non) H2
theorem xS {o e:Expr} {td te:TE} {apos cpos:Pos} (ho:QE X o td) (he:QE X e te) (hbase:attributeBase o "get" X.env (eval o X.env) = eval o X.env:=by rfl)
  (few:((backTo cpos (starEach [e] X.env)).all (fun x=>!x.1) && (backToKw cpos (keywordEach [] X.env)).all (fun x=>x.1.isSome) && decide (([e]:List Expr).length + ([]:List Keyword).length + (if ([]:List Keyword).isEmpty then 0 else 1) < 30)) = true:=by rfl)
  (line:(apos.endLine == cpos.line) = true:=by rfl) (trees:backTo cpos (starEach [e] X.env) = [(false,eval e X.env)]:=by rfl):QE X (.Call (.Attribute o "get" apos) [e] [] cpos) (CW X.K td te):=⟨by
 intro pins s σ H Q I h
 refine wpAny_Call_method hbase few line PySem.F.plainAttrs_dict PySem.F.slot_dict_get PySem.F.type_dict_get (thn (ho.out pins s σ H _ I h) fun u s1 ⟨x,H1,I1,rx,d,kvs,ex,D,q1⟩=>?_)
 subst ex
 obtain rfl:u = Value.ref d:=rx
 obtain ⟨us,dd,hv⟩:=D.at I1
 obtain ⟨_,nd,es,ep,hk,pr⟩:=id D
 refine ⟨dd.typeIs,fun b hb=>by cases hb; exact ⟨_,I1.kIn d _ hk,rfl⟩,?_⟩
 rw [trees]
 refine Calls.callWith_builtin rfl (Calls.evalArgs_plain (Calls.spliced_cons (thn (he.out pins s1 σ H1 _ I1 q1) fun iv s2 ⟨y,H2,I2,ry,n,ey,q2⟩=>Calls.spliced_nil ?_)))
 subst ey
 obtain ⟨t,rfl⟩:=ry
 obtain ⟨us2,dd2,hv2⟩:=D.at I2
 refine call_meetsIn PySem.F.slot_dict_get dd2.typeIs PySem.F.entry_dict_get (PySem.F.args_dict_get_2 _ _) (meets_dict_get (intKind X.prog X.w) d (k:=n) (key:=.int n t) (by show Value.isInt n (.int n t) = true; simp [Value.isInt]) D.1) ⟨_,dd2.mapOf,⟨_,H2,I2.tok _,?_,q2⟩⟩
 have h2:=hv2 n
 cases q:kvs.lookup n with
 | none=>rw [q] at h2; rw [h2]; rfl
 | some v=>rw [q] at h2; obtain ⟨u,e,r⟩:=h2; rw [e]; exact r⟩
end
end L2.E
namespace L2.P
open PySem PySem.Spec PyProof.Rows L2 L2.E
section
variable {K:PySem.W.Frag} {cls:String -> Option Addr} {W:XW} {Av G S₀ S S' H H' B B':Hp} {ρ:ag} {σ:St} {Q:VK}
noncomputable def DKP (K:PySem.W.Frag) (d:Addr) (kvs:List (Int × PV)):Prop:=∃ us,DKI K d us /\ Paired (fun (p:Int × PV) (q:Int × V)=>p.1 = q.1 /\ ∀ S,Rep K S p.2 q.2) kvs us
theorem DKP.look {d:Addr}:∀ {kvs:List (Int × PV)} {us:List (Int × V)},Paired (fun (p:Int × PV) (q:Int × V)=>p.1 = q.1 /\ ∀ S,Rep K S p.2 q.2) kvs us -> ∀ n,match kvs.lookup n with
  | some x=>∃ v,us.lookup n = some v /\ ∀ S,Rep K S x v
  | none=>us.lookup n = none
 | _,_,.nil,n=>rfl
 | (k,x) ::kvs,(k',v) ::us,.cons h t,n=>by
   obtain ⟨rfl,hr⟩:=h
   have:=DKP.look (d:=d) t n
   by_cases hm:n = k
   . subst hm
     simp [List.lookup]
     exact hr
   . have hb:(n == k) = false:=by simpa using hm
     simp only [List.lookup,hb]
     exact this
theorem EK {d:Addr} {kvs:List (Int × PV)} {ta:TE} {ma:ag -> OE} (D:DKP K d kvs) (ha:JE K cls W ta ma):JE K cls W (tOp (Fj K) (tC (.ref d)) ta) (mUn (zp kvs) ma):=by
 intro Av G S₀ ρ σ S H Q I p
 refine ha.go I p fun a v S1 H1 I1 w1 r1 p1=>?_
 have ra:=r1.rd I1.sh
 cases e:a.pv with
 | int n=>
   rw [e] at p1 ra
   obtain ⟨us,D1,pr⟩:=D
   have:=DKP.look (d:=d) pr n
   simp only [zp] at p1
   cases q:kvs.lookup n with
   | none=>rw [q] at p1; exact p1.elim
   | some x=>
     rw [q] at p1 this
     obtain ⟨u,eu,hr⟩:=this
     exact ⟨d,us,n,u,rfl,dJ ra,D1,eu,p1 _ S1 H1 (bz.refl I1.sh) (hr S1)⟩
 | _=>rw [e] at p1; exact p1.elim
theorem wQ {d:Addr} {kvs:List (Int × PV)} {ta:TE} {ma:ag -> OE} (D:DKP K d kvs) (ha:JE K cls W ta ma):JE K cls W (CW K (tC (.ref d)) ta) (mUn (gT kvs) ma):=by
 intro Av G S₀ ρ σ S H Q I p
 obtain ⟨us,D1,pr⟩:=D
 refine ⟨d,us,rfl,D1,?_⟩
 refine ha.go I p fun a v S1 H1 I1 w1 r1 p1=>?_
 have ra:=r1.rd I1.sh
 cases e:a.pv with
 | int n=>
   rw [e] at p1 ra
   have:=DKP.look (d:=d) pr n
   simp only [gT,oE] at p1
   refine ⟨n,dJ ra,?_⟩
   cases q:kvs.lookup n with
   | none=>
     rw [q] at p1 this
     rw [this]
     exact p1 _ S1 H1 (bz.refl I1.sh) (by show Rep K S1 _ _; unfold Rep; rfl)
   | some x=>
     rw [q] at p1 this
     obtain ⟨u,eu,hr⟩:=this
     rw [eu]
     exact p1 _ S1 H1 (bz.refl I1.sh) (hr S1)
 | _=>rw [e] at p1; exact p1.elim
end
end L2.P
namespace L2.E
open PySem PySem.Spec PyProof.Rows L2
end L2.E
namespace L2.P
open PySem PySem.Spec PyProof.Rows L2 L2.E
end L2.P
namespace L2.P
open PySem
end L2.P
namespace L2.P
open PySem PySem.Spec PyProof.Rows L2 L2.E
end L2.P
namespace L2.P
open PySem
noncomputable def Jm (x:Str):List PV:=x.cps.toList.map fun c=>.str ⟨#[c]⟩
noncomputable def F9 (ml:ag -> OE) (ι:List Nat) (me:ag -> OE):ag -> OE:=fun ρ=>(ml ρ).bind fun r=>match r.pv with
 | .str x=>noX (dA me (dP ι ρ) (Jm x))
 | _=>.bad
@[simp] theorem I8 (ml:ag -> OE) (ι:List Nat) (me:ag -> OE) (ρ:ag):F9 ml ι me ρ = ((ml ρ).bind fun r=>match r.pv with
  | .str x=>noX (dA me (dP ι ρ) (Jm x))
  | _=>.bad):=rfl
end L2.P
namespace L2.P
open PySem
end L2.P
namespace L2
open PySem PySem.Spec PyProof.Rows
end L2
namespace L2.P
open PySem PySem.Spec PyProof.Rows L2 L2.E
end L2.P
namespace HT
open PySem PyProof.Rows
end HT
namespace L2
open PySem PySem.Spec PyProof.Rows
end L2
namespace L2.P
open PySem PySem.Spec PyProof.Rows L2 L2.E
end L2.P
namespace HT
open PySem PyProof.Rows
open AutoSeq1 (wpAny_loadPart')
end HT
namespace L2
open PySem PySem.Spec PyProof.Rows
end L2
namespace L2.P
open PySem PySem.Spec PyProof.Rows L2 L2.E
end L2.P
namespace L2.P
open PySem
noncomputable def mz (kvs:List (Int × PV)) (a b:RV):OE:=match a.pv,b with
 | .int n,.sh d=>.ok (.sh ((kvs.lookup n).getD d))
 | _,_=>.bad
noncomputable def vS (kvs:List (Int × PV)) (ma mb:ag -> OE):ag -> OE:=fun ρ=>(ma ρ).bind fun a=>(mb ρ).bind fun b=>mz kvs a b
@[simp] theorem IA (kvs:List (Int × PV)) (ma mb:ag -> OE) (ρ:ag):vS kvs ma mb ρ = (ma ρ).bind fun a=>(mb ρ).bind fun b=>mz kvs a b:=rfl
noncomputable def F4 (kvs:List (Int × Int)):ag -> OD:=fun _=>.ok (.di (kvs.map fun p=>(p.1,.int p.2)))
noncomputable def wK (neg:Bool) (me:ag -> OE) (i:Nat) (mp:MP):ag -> OE:=fun ρ=>(me ρ).bind fun r=>match r.pv with
 | .int n=>(match subAt i mp ρ with
   | some (.di kvs)=>.ok (.sh (.bl (if neg then !(kvs.lookup n).isSome else (kvs.lookup n).isSome)))
   | _=>.bad)
 | _=>.bad
noncomputable def zW (i:Nat) (mp:MP) (me:ag -> OE):ag -> OE:=fun ρ=>match subAt i mp ρ with
 | some (.di kvs)=>(me ρ).bind fun r=>(match r.pv with
   | .int n=>oE ((kvs.lookup n).map .sh)
   | _=>.bad)
 | _=>.bad
noncomputable def LD:PV -> Option RV
 | .int i=>some (.sh (.int (if i < 0 then -i else i)))
 | _=>none
@[simp] theorem Kz (i:Int):LD (.int i) = some (.sh (.int (if i < 0 then -i else i))):=rfl
end L2.P
namespace L2
open PySem PySem.Spec PyProof.Rows
end L2
namespace L2.E
open PySem PySem.Spec PyProof.Rows L2
section
variable {X:Cx}
noncomputable def zl (K:PySem.W.Frag) (td te tf:TE):TE:=fun σ H Q=>td σ H fun x H1=>∃ d kvs,x = .ref d /\ DKI K d kvs /\ te σ H1 fun y H2=>tf σ H2 fun z H3=>∃ n,y = .int n /\ Q ((kvs.lookup n).getD z) H3
theorem AG {o e f:Expr} {td te tf:TE} {apos cpos:Pos} (ho:QE X o td) (he:QE X e te) (hf:QE X f tf) (hbase:attributeBase o "get" X.env (eval o X.env) = eval o X.env:=by rfl)
  (few:((backTo cpos (starEach [e,f] X.env)).all (fun x=>!x.1) && (backToKw cpos (keywordEach [] X.env)).all (fun x=>x.1.isSome) && decide (([e,f]:List Expr).length + ([]:List Keyword).length + (if ([]:List Keyword).isEmpty then 0 else 1) <= 15)) = true:=by rfl)
  (line:(apos.endLine == cpos.line) = true:=by rfl) (trees:backTo cpos (starEach [e,f] X.env) = [(false,eval e X.env),(false,eval f X.env)]:=by rfl):QE X (.Call (.Attribute o "get" apos) [e,f] [] cpos) (zl X.K td te tf):=⟨by
 intro pins s σ H Q I h
 refine wpAny_Call_method hbase few line PySem.F.plainAttrs_dict PySem.F.slot_dict_get PySem.F.type_dict_get (thn (ho.out pins s σ H _ I h) fun u s1 ⟨x,H1,I1,rx,d,kvs,ex,D,q1⟩=>?_)
 subst ex
 obtain rfl:u = Value.ref d:=rx
 obtain ⟨us,dd,hv⟩:=D.at I1
 obtain ⟨_,nd,es,ep,hk,pr⟩:=id D
 refine ⟨dd.typeIs,fun b hb=>by cases hb; exact ⟨_,I1.kIn d _ hk,rfl⟩,?_⟩
 rw [trees]
 refine Calls.callWith_builtin rfl (Calls.evalArgs_plain (Calls.spliced_cons (thn (he.out pins s1 σ H1 _ I1 q1) fun iv s2 ⟨y,H2,I2,ry,q2⟩=>Calls.spliced_cons (thn (hf.out pins s2 σ H2 _ I2 q2) fun fv s3 ⟨z,H3,I3,rz,n,ey,q3⟩=>Calls.spliced_nil ?_))))
 subst ey
 obtain ⟨t,rfl⟩:=ry
 obtain ⟨us2,dd2,hv2⟩:=D.at I3
 refine call_meetsIn PySem.F.slot_dict_get dd2.typeIs PySem.F.entry_dict_get (PySem.F.args_dict_get_3 _ _ _) (meets_dict_get_default (intKind X.prog X.w) d (k:=n) (key:=.int n t) (by show Value.isInt n (.int n t) = true; simp [Value.isInt]) D.1 fv) ⟨_,dd2.mapOf,_,H3,I3.tok _,?_,q3⟩
 have h2:=hv2 n
 cases q:kvs.lookup n with
 | none=>rw [q] at h2; rw [h2]; exact rz
 | some v=>rw [q] at h2; obtain ⟨u,e,r⟩:=h2; rw [e]; exact r⟩
end
end L2.E
namespace L2.P
open PySem PySem.Spec PyProof.Rows L2 L2.E
section
variable {K:PySem.W.Frag} {cls:String -> Option Addr} {W:XW} {S:Hp}
theorem AQ {d:Addr} {kvs:List (Int × PV)} {ta tb:TE} {ma mb:ag -> OE} (D:DKP K d kvs) (ha:JE K cls W ta ma) (hb:JE K cls W tb mb):JE K cls W (zl K (tC (.ref d)) ta tb) (vS kvs ma mb):=by
 intro Av G S₀ ρ σ S H Q I p
 obtain ⟨us,D1,pr⟩:=D
 refine ⟨d,us,rfl,D1,?_⟩
 refine ha.go I p fun a v S1 H1 I1 w1 r1 p1=>hb.go I1 p1 fun b u S2 H2 I2 w2 r2 p2=>?_
 have ra:=(r1.rd I1.sh).mono w2.s w2.g
 cases e:a.pv with
 | int n=>
   rw [e] at ra
   have:=DKP.look (d:=d) pr n
   cases b with
   | fr xs=>unfold mz at p2; rw [e] at p2; exact p2.elim
   | al xs=>unfold mz at p2; rw [e] at p2; exact p2.elim
   | sh x=>
     unfold mz at p2
     rw [e] at p2
     refine ⟨n,dJ ra,?_⟩
     cases q:kvs.lookup n with
     | none=>
       simp only [q] at p2 this
       rw [this]
       exact p2 _ S2 H2 (bz.refl I2.sh) r2
     | some y=>
       simp only [q] at p2 this
       obtain ⟨u,eu,hr⟩:=this
       rw [eu]
       exact p2 _ S2 H2 (bz.refl I2.sh) (hr S2)
 | _=>unfold mz at p2; rw [e] at p2; exact p2.elim
end
end L2.P
namespace L2.E
open PySem PySem.Spec PyProof.Rows L2
section
variable {X:Cx} {o i:Expr} {td ty:TE} {pos:Pos}
theorem Iu (hu:X.A.units + 1 < cLine) (hi:QE X i ty) (ho:QE X o td) (h1:behindInMarks .In o = false:=by first | exact wI _ (by decide) (by decide) | rfl):QT X (.Compare i [.In] [o] pos) (tB (GQ ty td)):=⟨GG (Gb hu hi.out ho.out) h1⟩
theorem E2 (hu:X.A.units + 1 < cLine) (ho:QE X o td) (hi:QE X i ty) (hs:GH i):QE X (.Subscript o i pos) (BZ td ty):=⟨DG hu ho.out hi.out hs⟩
structure QPs (X:Cx) (pos:Pos) (keys:List (Option Expr)) (values:List Expr) (trs:List (TE × TE)):Prop where
 out:PPs X pos keys values trs
theorem Ea:QPs X pos [] [] []:=⟨DA⟩
theorem kj {k v:Expr} {ks:List (Option Expr)} {vs:List Expr} {tk tv:TE} {trs:List (TE × TE)} (hk:QE X k tk) (hv:QE X v tv) (hr:QPs X pos ks vs trs):QPs X pos (some k ::ks) (v ::vs) ((tk,tv) ::trs):=⟨CB hk.out hv.out hr.out⟩
theorem EH {keys:List (Option Expr)} {values:List Expr} {trs:List (TE × TE)} (h:QPs X pos keys values trs) (hall:keys.all (·.isSome) = true:=by rfl) (hl:keys.length = values.length:=by rfl) (h0:keys ≠ []:=by intro z; cases z) (h15:keys.length <= 15:=by decide):QE X (.Dict keys values pos) (Bw trs):=⟨Ec h.out hall hl h0 h15⟩
end
end L2.E
namespace L2.P
open PySem PySem.Spec PyProof.Rows L2 L2.E
section
variable {K:PySem.W.Frag} {cls:String -> Option Addr} {W:XW} {S H:Hp}
theorem xZ (kvs:List (Int × Int)) (σ:St):∀ (H:Hp) (R:List (V × V) -> Hp -> Prop),R (kvs.map fun p=>(.int p.1,.int p.2)) H -> u6 (kvs.map fun p=>(tC (.int p.1),tC (.int p.2))) σ H R:=by
 induction kvs with
 | nil=>intro H R h; exact h
 | cons p kvs ih=>intro H R h; exact ih H _ h
theorem A8 (more:List (Key × V)):∀ kvs:List (Key × V),((kvs ++ more).map (·.1)).Nodup -> n5 kvs more = kvs ++ more:=by
 induction more with
 | nil=>intro kvs _; simp [n5]
 | cons p more ih=>
   intro kvs h
   have hn:lR kvs p.1 = none:=by
    unfold lR
    rw [Option.map_eq_none_iff,List.find?_eq_none]
    intro q hq e
    have e':q.1 = p.1:=of_decide_eq_true e
    rw [List.map_append,List.nodup_append] at h
    exact h.2.2 q.1 (List.mem_map_of_mem hq) p.1 (by simp) e'
   show n5 (putK kvs p.1 p.2) more = _
   rw [CU _ hn,ih _ (by simpa using h)]
   simp
theorem Gi {kvs:List (Int × Int)} (nd:(kvs.map (·.1)).Nodup) (h15:kvs.length <= 15):JD K cls W (Bw (kvs.map fun p=>(tC (.int p.1),tC (.int p.2)))) (F4 kvs):=by
 intro Av G S₀ ρ σ S H Q I p
 intro q hq
 refine xZ kvs σ _ _ ⟨bb,kvs.map fun p=>(Sum.inl p.1,V.int p.2),by simp [kV],by simpa using h15,?_⟩
 rw [D8,A8 _ [] (by
  rw [List.nil_append,List.map_map]
  have:((fun x:Key × V=>x.1) ∘ fun p:Int × Int=>((Sum.inl p.1:Key),V.int p.2)) = (fun k:Int=>(Sum.inl k:Key)) ∘ fun p:Int × Int=>p.1:=rfl
  rw [this,<- List.map_map]
  exact List.pairwise_map.mpr (List.Pairwise.imp (fun h z=>h (Sum.inl.inj z)) nd)),List.nil_append]
 refine p (.ref q) S _ (bz.heap I.sh hq) ⟨[q],?_,by simp,fun a ha=>?_⟩
 . unfold bH
   refine ⟨q,_,rfl,bb,rfl,?_⟩
   clear nd h15 p
   induction kvs with
   | nil=>exact .nil
   | cons x kvs ih=>exact .cons ⟨rfl,by unfold Rep; rfl⟩ ih
 . have z:a = q:=by simpa using ha
   subst z
   exact ⟨hq,I.sh.free hq⟩
theorem wo.look {kvs:List (Int × PV)} {us:List (Key × V)} (h:wo K S kvs us) (n:Int):match kvs.lookup n with
  | some x=>∃ v,lR us (Sum.inl n:Key) = some v /\ Rep K S x v
  | none=>lR us (Sum.inl n:Key) = none:=by
 induction h with
 | nil=>rfl
 | @cons p q ps qs h t ih=>
   obtain ⟨h1,h2⟩:=h
   obtain ⟨k,x⟩:=p
   obtain ⟨k',v⟩:=q
   dsimp only at h1 h2
   subst h1
   by_cases hm:n = k
   . subst hm
     simp [List.lookup,lR]
     exact h2
   . have hb:(n == k) = false:=by simpa using hm
     have hd:decide ((Sum.inl k:Key) = Sum.inl n) = false:=decide_eq_false fun z=>hm (Sum.inl.inj z).symm
     simp only [List.lookup,hb]
     have e:lR ((Sum.inl k,v) ::qs) (Sum.inl n:Key) = lR qs (Sum.inl n):=by
      unfold lR
      rw [List.find?_cons,hd]
     rw [e]
     exact ih
theorem wo.EN {kvs:List (Int × PV)} {us:List (Key × V)} (h:wo K S kvs us) (n:Int):(lR us (Sum.inl n:Key)).isSome = (kvs.lookup n).isSome:=by
 have:=h.look n
 cases q:kvs.lookup n with
 | none=>rw [q] at this; rw [this]; rfl
 | some x=>rw [q] at this; obtain ⟨v,e,_⟩:=this; rw [e]; rfl
theorem EM {i:Nat} {ta td:TE} {ma:ag -> OE} {mp:MP} (ha:JE K cls W ta ma) (hp:JP K cls td i mp):JE K cls W (GQ ta td) (wK false ma i mp):=by
 intro Av G S₀ ρ σ S H Q I p
 refine ha.go I p fun a v S1 H1 I1 w1 r1 p1=>?_
 have ra:=r1.rd I1.sh
 cases e:a.pv with
 | int n=>
   rw [e] at p1 ra
   dsimp only at p1
   split at p1
   . rename_i kvs es
     refine hp.sub I1 es fun w S2 H2 f w2 _ r=>?_
     unfold bH at r
     obtain ⟨q,us,rfl,hq,_,hd⟩:=r
     have hv:=dJ ra
     subst hv
     refine ⟨q,_,rfl,vH.k (k:=Sum.inl n) hq,?_⟩
     rw [hd.EN n]
     exact p1 _ S2 H2 w2 mZ
   . exact p1.elim
 | _=>rw [e] at p1; exact p1.elim
theorem Eb {i:Nat} {ta td:TE} {ma:ag -> OE} {mp:MP} (hp:JP K cls td i mp) (ha:JE K cls W ta ma):JE K cls W (BZ td ta) (zW i mp ma):=by
 intro Av G S₀ ρ σ S H Q I p
 unfold zW at p
 split at p
 . rename_i kvs es
   refine hp.sub I es fun w S2 H2 f w2 I2 r=>?_
   refine ha.go I2 (p.back w2) fun a v S1 H1 I1 w1 r1 p1=>?_
   have ra:=r1.rd I1.sh
   have r':=r.mono w1.s fun a _ o z=>w1.g _ _ z
   unfold bH at r'
   obtain ⟨q,us,rfl,hq,_,hd⟩:=r'
   cases e:a.pv with
   | int n=>
     rw [e] at p1 ra
     dsimp only at p1
     have hv:=dJ ra
     subst hv
     have hl:=hd.look n
     cases el:kvs.lookup n with
     | none=>rw [el] at p1; exact p1.elim
     | some x=>
       rw [el] at p1 hl
       obtain ⟨u,eu,ru⟩:=hl
       refine ⟨q,u,rfl,by have:=vH.k (k:=(Sum.inl n:Key)) hq; rw [eu] at this; exact this,p1 u S1 H1 (bz.refl I1.sh) ru⟩
   | _=>rw [e] at p1; exact p1.elim
 . exact p.elim
end
end L2.P
namespace L2.E
open PySem PySem.Spec PyProof.Rows L2
end L2.E
namespace L2.P
open PySem PySem.Spec PyProof.Rows L2 L2.E
end L2.P
namespace PG
noncomputable def fu (n:Int):Bool:=(decide (0 <= n) && decide (n < 55296)) || (decide (57343 < n) && decide (n <= 1114111))
noncomputable def aQ (n:Int):List Int:=if n < 128 then [n] else if n < 2048 then [192 + n / 64,128 + n % 64] else if n < 65536 then [224 + n / 4096,128 + n / 64 % 64,128 + n % 64] else [240 + n / 262144,128 + n / 4096 % 64,128 + n / 64 % 64,128 + n % 64]
noncomputable def cell (ns:List Int) (k:Int):Int:=if ns = [] then 0 else ns.getD (k % (ns.length:Int)).toNat 0
noncomputable def mix (ns:List Int) (k:Int):Int:=
 let a:=(cell ns k + 104729 * (k + 1)) % 4294967291
 let b:=a * 48271 % 4294967279
 (b / 64 * 69621 + b) % 4294967231
noncomputable def menu:List Int:=[34,92,47,8,12,10,13,9,0,31,127]
noncomputable def point (n:Int):Int:=
 if n % 8 < 2 then 32 + n / 8 % 95 else if n % 8 < 4 then menu.getD (n / 8 % 11).toNat 0 else if n % 8 = 4 then 128 + n / 8 % 1920
 else if n % 8 = 5 then 2048 + n / 8 % 53248 else if n % 8 = 6 then 57344 + n / 8 % 8192 else 65536 + n / 8 % 1048576
noncomputable def sV (ns:List Int) (k:Int):Int:=if mix ns k / 5 % 8 = 3 then mix ns k / 40 % 14 else mix ns k % 5
noncomputable def points (ns:List Int) (k:Int):List Int:=(List.range (sV ns k).toNat).map fun j:Nat=>point (mix ns (k + 1 + (j:Int)))
theorem yW (ns:List Int) (k:Int):0 <= mix ns k /\ mix ns k < 4294967231:=by unfold mix; dsimp only; omega
theorem xT (ns:List Int) (k:Int):0 <= sV ns k /\ sV ns k < 14:=by
 have:=yW ns k
 unfold sV; split <;> omega
theorem ER (i:Nat) (h:i < 11):0 <= menu.getD i 0 /\ menu.getD i 0 < 128:=by
 revert h; revert i; decide
theorem xu (n:Int):fu (point n) = true:=by
 unfold point fu
 have h11:=ER (n / 8 % 11).toNat (by omega)
 simp only [Bool.or_eq_true,Bool.and_eq_true,decide_eq_true_eq]
 split
 . omega
 . split
   . omega
   . split
     . omega
     . split
       . omega
       . split <;> omega
theorem AN (ns:List Int) (k:Int):(points ns k).all fu = true:=by
 rw [List.all_eq_true]
 intro x hx
 unfold points at hx
 obtain ⟨j,_,rfl⟩:=List.mem_map.mp hx
 exact xu _
theorem yX (ns:List Int) (k:Int):(points ns k).length < 14:=by
 have:=xT ns k
 unfold points
 rw [List.length_map,List.length_range]
 omega
end PG
namespace PG
noncomputable def pV (b:Int):Int × Int:=if b = 224 then (160,191) else if b = 237 then (128,159) else (128,191)
noncomputable def oU (b:Int):Int × Int:=if b = 240 then (144,191) else if b = 244 then (128,143) else (128,191)
noncomputable def spans (b:Int):Option (List (Int × Int)):=if 0 <= b /\ b < 128 then some [] else if 194 <= b /\ b < 224 then some [(128,191)] else if 224 <= b /\ b < 240 then some [pV b,(128,191)] else if 240 <= b /\ b < 245 then some [oU b,(128,191),(128,191)] else none
noncomputable def eat:List (Int × Int) -> List Int -> Option Nat
 | [],_=>none
 | _ ::_,[]=>some 0
 | s ::ss,c ::cs=>if s.1 <= c /\ c <= s.2 then (eat ss cs).map (· + 1) else some 0
noncomputable def eH:List (Int × Int) -> Int -> List Int -> Int
 | [],_,[]=>-1
 | _ ::_,k,[]=>k
 | s ::ws,k,b ::r=>if s.1 <= b /\ b <= s.2 then eH ws (k + 1) r else k
 | [],k,b ::r=>match spans b with
   | some ws=>eH ws (k + 1) r
   | none=>k
theorem tR:∀ (ss:List (Int × Int)) (k:Int) (cs:List Int),eH ss k cs = match eat ss cs with
  | some j=>k + j
  | none=>eH [] (k + ss.length) (cs.drop ss.length)
 | [],k,cs=>by simp [eat]
 | s ::ss,k,[]=>by simp [eH,eat]
 | s ::ss,k,c ::cs=>by
   have ih:=tR ss (k + 1) cs
   by_cases h:s.1 <= c /\ c <= s.2
   . simp only [eH,eat,h,and_self,if_true]
     rw [ih]
     cases e:eat ss cs with
     | none=>simp; congr 1; omega
     | some j=>show k + 1 + (j:Int) = k + ((j + 1:Nat):Int); omega
   . simp [eH,eat,h]
noncomputable def mark (k:Nat):Int:=[0,192,224,240].getD k 0
noncomputable def val (b:Int) (cs:List Int):Int:=cs.foldl (fun n c=>n * 64 + c - 128) (b - mark cs.length)
theorem we:∀ (ss:List (Int × Int)) (cs:List Int),eat ss cs = none -> ss.length <= cs.length
 | [],cs,_=>by simp
 | s ::ss,[],h=>by simp [eat] at h
 | s ::ss,c ::cs,h=>by
   by_cases hc:s.1 <= c /\ c <= s.2
   . simp only [eat,hc,and_self,if_true,Option.map_eq_none_iff] at h
     have:=we ss cs h
     simp; omega
   . simp [eat,hc] at h
theorem xa {b:Int} {ss:List (Int × Int)} {cs:List Int} (hs:spans b = some ss) (he:eat ss cs = none):fu (val b (cs.take ss.length)) = true /\ aQ (val b (cs.take ss.length)) = b ::cs.take ss.length /\ ss.length <= 3:=by
 unfold spans at hs
 split at hs
 . cases hs
   rename_i h
   refine ⟨?_,?_,by simp⟩
   . simp [val,mark,fu]; omega
   . simp [val,mark,aQ]; omega
 split at hs
 . cases hs
   rename_i h1 h
   match cs,he with
   | [],he=>simp [eat] at he
   | c ::cs,he=>
     have hc:128 <= c /\ c <= 191:=by
      by_cases hc:128 <= c /\ c <= 191
      . exact hc
      . simp [eat,hc] at he
     refine ⟨?_,?_,by simp⟩
     . simp [val,mark,fu]; omega
     . have e1:¬ (b - 192) * 64 + c - 128 < 128:=by omega
       have e2:(b - 192) * 64 + c - 128 < 2048:=by omega
       simp [val,mark,aQ,e1,e2]; omega
 split at hs
 . cases hs
   rename_i h1 h2 h
   match cs,he with
   | [],he=>simp [eat] at he
   | [c],he=>
     exfalso
     by_cases hc:(pV b).1 <= c /\ c <= (pV b).2 <;> simp [eat,hc] at he
   | c ::d ::cs,he=>
     have hc:(pV b).1 <= c /\ c <= (pV b).2:=by
      by_cases hc:(pV b).1 <= c /\ c <= (pV b).2
      . exact hc
      . simp [eat,hc] at he
     have hd:128 <= d /\ d <= 191:=by
      by_cases hd:128 <= d /\ d <= 191
      . exact hd
      . simp [eat,hc,hd] at he
     have hb:128 <= c /\ c <= 191 /\ (b = 224 -> 160 <= c) /\ (b = 237 -> c <= 159):=by
      unfold pV at hc
      split at hc
      . simp at hc; omega
      . split at hc
        . simp at hc; omega
        . simp at hc; omega
     refine ⟨?_,?_,by simp⟩
     . simp [val,mark,fu]; omega
     . have e1:¬ ((b - 224) * 64 + c - 128) * 64 + d - 128 < 128:=by omega
       have e2:¬ ((b - 224) * 64 + c - 128) * 64 + d - 128 < 2048:=by omega
       have e3:((b - 224) * 64 + c - 128) * 64 + d - 128 < 65536:=by omega
       simp [val,mark,aQ,e1,e2,e3]; omega
 split at hs
 . cases hs
   rename_i h1 h2 h3 h
   match cs,he with
   | [],he=>simp [eat] at he
   | [c],he=>
     exfalso
     by_cases hc:(oU b).1 <= c /\ c <= (oU b).2 <;> simp [eat,hc] at he
   | [c,d],he=>
     exfalso
     by_cases hc:(oU b).1 <= c /\ c <= (oU b).2 <;> by_cases hd:128 <= d /\ d <= 191 <;> simp [eat,hc,hd] at he
   | c ::d ::e ::cs,he=>
     have hc:(oU b).1 <= c /\ c <= (oU b).2:=by
      by_cases hc:(oU b).1 <= c /\ c <= (oU b).2
      . exact hc
      . simp [eat,hc] at he
     have hd:128 <= d /\ d <= 191:=by
      by_cases hd:128 <= d /\ d <= 191
      . exact hd
      . simp [eat,hc,hd] at he
     have hE:128 <= e /\ e <= 191:=by
      by_cases hE:128 <= e /\ e <= 191
      . exact hE
      . simp [eat,hc,hd,hE] at he
     have hb:128 <= c /\ c <= 191 /\ (b = 240 -> 144 <= c) /\ (b = 244 -> c <= 143):=by
      unfold oU at hc
      split at hc
      . simp at hc; omega
      . split at hc
        . simp at hc; omega
        . simp at hc; omega
     refine ⟨?_,?_,by simp⟩
     . simp [val,mark,fu]; omega
     . have e1:¬ (((b - 240) * 64 + c - 128) * 64 + d - 128) * 64 + e - 128 < 128:=by omega
       have e2:¬ (((b - 240) * 64 + c - 128) * 64 + d - 128) * 64 + e - 128 < 2048:=by omega
       have e3:¬ (((b - 240) * 64 + c - 128) * 64 + d - 128) * 64 + e - 128 < 65536:=by omega
       simp [val,mark,aQ,e1,e2,e3]; omega
 cases hs
theorem jj {n:Int} (h:fu n = true):0 <= n /\ n <= 1114111:=by
 unfold fu at h
 simp only [Bool.or_eq_true,Bool.and_eq_true,decide_eq_true_eq] at h
 omega
theorem A6 {n m:Int} {r q:List Int} (hn:fu n = true) (hm:fu m = true) (h:aQ n ++ r = aQ m ++ q):n = m /\ r = q:=by
 have rn:=jj hn
 have rm:=jj hm
 unfold aQ at h
 by_cases a1:n < 128 <;> by_cases b1:m < 128 <;> by_cases a2:n < 2048 <;> by_cases b2:m < 2048 <;> by_cases a3:n < 65536 <;> by_cases b3:m < 65536 <;>
  simp only [a1,a2,a3,b1,b2,b3,if_true,if_false,List.cons_append,List.nil_append,List.cons.injEq] at h <;>
  first
   | (exfalso; omega)
   | exact ⟨by omega,by first | exact h.2 | exact h.2.2 | exact h.2.2.2 | exact h.2.2.2.2⟩
theorem xR:∀ {l m:List Int},l.all fu = true -> m.all fu = true -> l.flatMap aQ = m.flatMap aQ -> l = m
 | [],[],_,_,_=>rfl
 | [],b ::m,_,_,h=>by
   exfalso
   rw [List.flatMap_nil,List.flatMap_cons] at h
   have:aQ b = []:=(List.append_eq_nil_iff.mp h.symm).1
   unfold aQ at this
   repeat' split at this
   all_goals simp at this
 | a ::l,[],_,_,h=>by
   exfalso
   rw [List.flatMap_nil,List.flatMap_cons] at h
   have:aQ a = []:=(List.append_eq_nil_iff.mp h).1
   unfold aQ at this
   repeat' split at this
   all_goals simp at this
 | a ::l,b ::m,h1,h2,h=>by
   rw [List.all_cons,Bool.and_eq_true] at h1 h2
   rw [List.flatMap_cons,List.flatMap_cons] at h
   obtain ⟨e1,e2⟩:=A6 h1.1 h2.1 h
   rw [e1,xR h1.2 h2.2 e2]
end PG
namespace L2.P
open PySem
@[simp] theorem FQ (s:String):(Str.ofString s).cps.all (· < 0x110000) = true:=by
  rw [Str.ofString_eq_toList,List.all_toArray,List.all_map]
  rw [List.all_eq_true]
  intro c _
  have:=c.valid
  simp only [Function.comp,decide_eq_true_eq]
  rcases this with h | ⟨_,h⟩
  . exact Nat.lt_of_lt_of_le h (by decide)
  . exact h
theorem toNat_inj:∀ (xs ys:List Char),xs.map Char.toNat = ys.map Char.toNat -> xs = ys
 | [],[],_=>rfl
 | [],_ ::_,h=>by cases h
 | _ ::_,[],h=>by cases h
 | x ::xs,y ::ys,h=>by
   rw [List.map_cons,List.map_cons] at h
   injection h with h1 h2
   have:x = y:=Char.ext (UInt32.toNat_inj.mp h1)
   rw [this,toNat_inj xs ys h2]
theorem aM (a b:String):Str.ofString a = Str.ofString b ↔ a = b:=by
 constructor
 . intro h
   rw [Str.ofString_eq_toList,Str.ofString_eq_toList] at h
   injection h with h
   have h2:a.toList.map Char.toNat = b.toList.map Char.toNat:=by
    have:=congrArg Array.toList h
    simpa using this
   exact String.toList_inj.mp (toNat_inj _ _ h2)
 . intro h; rw [h]
@[simp] theorem D2 (a b:String):(Str.ofString a == Str.ofString b) = decide (a = b):=by
  by_cases h:a = b
  . subst h; simp
  . have:Str.ofString a ≠ Str.ofString b:=fun z=>h ((aM a b).mp z)
    simp [h,this]
@[simp] theorem Km (a b:String):jN (.str (Str.ofString a)) (.str (Str.ofString b)) = decide (a = b):=by simp [jN]
@[simp] theorem Ls (a:String) (n:Nat):HB (.str (Str.ofString a)) n = true:=by simp [HB]
end L2.P
namespace L2.P
open PySem
theorem GY (n:Nat):ixP (n + 1) (-1) = some n:=by
 unfold ixP
 rw [if_neg (by decide),if_pos (by omega)]
 congr 1
 omega
@[simp] theorem get_nil (t:OV):t.get [] = some t:=by cases t <;> rfl
@[simp] theorem Ed (t u:OV):t.put [] u = u:=by cases t <;> rfl
theorem xX {ρ:ag} {i:Nat} {io:Bool} {ts:List OV} {md:ag -> OD} {x:OV} (h:ρ[i]? = some (some (.tr io (.ol ts)))) (hd:md ρ = .ok x) (hl:ts.length < lim):
  nR i eQ md ρ = .nx (ρ.set i (some (.tr io (.ol (ts ++ [x]))))):=by
 unfold nR yD eQ
 rw [h]
 simp only [get_nil]
 rw [hd]
 simp only [hl,if_true,Ed]
end L2.P
namespace L2.P
open PySem
section
variable {ρ:ag} {i:Nat} {io:Bool} {init us:List OV} {x:PV}
theorem DS (n k:Nat) (h:k < n):ixP n (k:Int) = some k:=by
 unfold ixP
 rw [if_pos (by omega),if_pos (by omega)]
 simp
end
theorem Bu {ρ:ag} {i:Nat} {io:Bool} {ts:List OV} {x:OV} (h:ρ[i]? = some (some (.tr io (.ol (ts ++ [x]))))):oX i eQ ρ = .ok (ρ.set i (some (.tr io (.ol ts)))) (slO x):=by
 unfold oX eQ
 rw [h]
 simp
end L2.P
namespace PG
open L2.P PySem
inductive It where
 | sp (lo hi:Int) | white | value | lead | figures | fraction | exponent | sign | text | escape | code | coded | hex | hexd | hexcf | row | mrow | fields | mfields | name
 deriving DecidableEq
noncomputable def bc:It -> PV
 | .sp lo hi=>.tup [.int lo,.int hi]
 | .white=>.str "white" | .value=>.str "value" | .lead=>.str "lead" | .figures=>.str "figures" | .fraction=>.str "fraction" | .exponent=>.str "exponent" | .sign=>.str "sign"
 | .text=>.str "text" | .escape=>.str "escape" | .code=>.str "code" | .coded=>.str "code d" | .hex=>.str "hex" | .hexd=>.str "hex d" | .hexcf=>.str "hex c to f"
 | .row=>.str "row" | .mrow=>.str "more row" | .fields=>.str "fields" | .mfields=>.str "more fields" | .name=>.str "name"
noncomputable def loose:It -> Bool
 | .white=>true | .figures=>true | .fraction=>true | .exponent=>true | .sign=>true
 | _=>false
noncomputable def opn:It -> Bool
 | .row=>true | .mrow=>true | .fields=>true | .mfields=>true
 | _=>false
noncomputable def wht (b:Int):Bool:=decide (9 = b) || (decide (10 = b) || (decide (13 = b) || decide (32 = b)))
noncomputable def fig (b:Int):Bool:=decide (48 <= b) && decide (b <= 57)
noncomputable def dN (b:Int):Option Int:=if 48 <= b /\ b <= 57 then some (b - 48) else if 65 <= b /\ b <= 70 then some (b - 55) else if 97 <= b /\ b <= 102 then some (b - 87) else none
noncomputable def mP (b:Int):Option (List It):=if b = 48 then some [.fraction,.exponent] else if 48 <= b /\ b <= 57 then some [.figures,.fraction,.exponent] else none
noncomputable def oi (b:Int):Option (List It):=
 if b = 91 then some [.white,.row] else if b = 123 then some [.white,.fields] else if b = 34 then some [.text] else if b = 45 then some [.lead]
 else if b = 110 then some [.sp 117 117,.sp 108 108,.sp 108 108] else if b = 116 then some [.sp 114 114,.sp 117 117,.sp 101 101] else if b = 102 then some [.sp 97 97,.sp 108 108,.sp 115 115,.sp 101 101]
 else mP b
noncomputable def o8:List It:=[.white,.sp 58 58,.white,.value,.white,.mfields]
noncomputable def tls (b:Int):Option (List It):=
 if 0 <= b /\ b < 128 then some [] else if 194 <= b /\ b < 224 then some [.sp 128 191]
 else if 224 <= b /\ b < 240 then some [if b = 224 then .sp 160 191 else if b = 237 then .sp 128 159 else .sp 128 191,.sp 128 191]
 else if 240 <= b /\ b < 245 then some [if b = 240 then .sp 144 191 else if b = 244 then .sp 128 143 else .sp 128 191,.sp 128 191,.sp 128 191]
 else none
noncomputable def qQ (b:Int):Option (List It):=if b = 34 then some [] else if b = 92 then some [.escape,.text] else if b < 32 then none else (tls b).map (· ++ [.text])
noncomputable def wd (b:Int):Bool:=b = 34 || b = 92 || b = 47 || b = 98 || b = 102 || b = 110 || b = 114 || b = 116
noncomputable def BR (b:Int):Option (List It):=if b = 117 then some [.code] else if wd b then some [] else none
noncomputable def yY (w:Int):Option (List It):=if w < 8 then some [.hex,.hex] else if w < 12 then some [.hex,.hex,.sp 92 92,.sp 117 117,.hexd,.hexcf,.hex,.hex] else none
noncomputable def bh:It -> Int -> Option (List It)
 | .sp lo hi,b=>if lo <= b /\ b <= hi then some [] else none
 | .white,b=>if wht b then some [.white] else none
 | .value,b=>oi b
 | .lead,b=>mP b
 | .figures,b=>if 48 <= b /\ b <= 57 then some [.figures] else none
 | .fraction,b=>if b = 46 then some [.sp 48 57,.figures] else none
 | .exponent,b=>if b = 101 \/ b = 69 then some [.sign,.sp 48 57,.figures] else none
 | .sign,b=>if b = 43 \/ b = 45 then some [] else none
 | .text,b=>qQ b
 | .escape,b=>BR b
 | .code,b=>(dN b).bind fun w=>if w = 13 then some [.coded] else some [.hex,.hex,.hex]
 | .coded,b=>(dN b).bind yY
 | .hex,b=>(dN b).map fun _=>[]
 | .hexd,b=>(dN b).bind fun w=>if w = 13 then some [] else none
 | .hexcf,b=>(dN b).bind fun w=>if 12 <= w then some [] else none
 | .row,b=>if b = 93 then some [] else (oi b).map (· ++ [.white,.mrow])
 | .mrow,b=>if b = 44 then some [.white,.value,.white,.mrow] else if b = 93 then some [] else none
 | .fields,b=>if b = 125 then some [] else if b = 34 then some (.text ::o8) else none
 | .mfields,b=>if b = 44 then some (.white ::.name ::o8) else if b = 125 then some [] else none
 | .name,b=>if b = 34 then some [.text] else none
noncomputable def cnt (st:List It):Nat:=(st.filter opn).length
noncomputable def gon:List It -> Int -> List It × Bool
 | [],_=>([],false)
 | it ::st,b=>match bh it b with
   | some l=>(l ++ st,decide (cnt (l ++ st) <= 64))
   | none=>if loose it then gon st b else (st,false)
noncomputable def tk:List It -> List Int -> List It × Nat
 | st,[]=>(st,0)
 | st,b ::r=>if (gon st b).2 then ((tk (gon st b).1 r).1,(tk (gon st b).1 r).2 + 1) else ((gon st b).1,0)
noncomputable def st0:List It:=[.white,.value,.white]
noncomputable def flt (row:List Int):Option Nat:=if (tk st0 row).2 = row.length /\ (tk st0 row).1.all loose = true then none else some (tk st0 row).2
noncomputable def wk (st:List It):OV:=.ob "Walk" ["coming"] [.ol ((st.reverse.map bc).map .sh)]
theorem Bm (it:It) (b:Int) (l:List It) (h:bh it b = some l):l.length <= 8:=by
 have hv:∀ l,oi b = some l -> l.length <= 5:=by
  intro l h
  unfold oi mP at h
  repeat' split at h
  all_goals (first | (cases h; done) | (injection h with h; subst h; decide))
 have ht:∀ l,tls b = some l -> l.length <= 5:=by
  intro l h
  unfold tls at h
  repeat' split at h
  all_goals (first | (cases h; done) | (injection h with h; subst h; simp))
 cases it with
 | value=>exact Nat.le_trans (hv l h) (by decide)
 | row=>
   simp only [bh] at h
   split at h
   . injection h with h; subst h; decide
   . cases e:oi b with
     | none=>rw [e] at h; cases h
     | some l'=>rw [e] at h; injection h with h; subst h; have:=hv l' e; simp; omega
 | text=>
   simp only [bh,qQ] at h
   repeat' split at h
   all_goals first | (cases h; done) | (injection h with h; subst h; decide) | skip
   cases e:tls b with
   | none=>rw [e] at h; cases h
   | some l'=>rw [e] at h; injection h with h; subst h; have:=ht l' e; simp; omega
 | code=>
   simp only [bh] at h
   cases e:dN b with
   | none=>rw [e] at h; cases h
   | some w=>rw [e] at h; simp only [Option.bind_some] at h; split at h <;> (injection h with h; subst h; decide)
 | coded=>
   simp only [bh] at h
   cases e:dN b with
   | none=>rw [e] at h; cases h
   | some w=>
     rw [e] at h; simp only [Option.bind_some,yY] at h
     repeat' split at h
     all_goals first | (cases h; done) | (injection h with h; subst h; decide)
 | hex=>
   simp only [bh] at h
   cases e:dN b with
   | none=>rw [e] at h; cases h
   | some w=>rw [e] at h; injection h with h; subst h; simp
 | hexd=>
   simp only [bh] at h
   cases e:dN b with
   | none=>rw [e] at h; cases h
   | some w=>rw [e] at h; simp only [Option.bind_some] at h; split at h <;> first | (cases h; done) | (injection h with h; subst h; decide)
 | hexcf=>
   simp only [bh] at h
   cases e:dN b with
   | none=>rw [e] at h; cases h
   | some w=>rw [e] at h; simp only [Option.bind_some] at h; split at h <;> first | (cases h; done) | (injection h with h; subst h; decide)
 | _=>
   simp only [bh,mP,BR,o8] at h
   repeat' split at h
   all_goals first | (cases h; done) | (injection h with h; subst h; decide)
theorem Ac (st:List It) (b:Int):(gon st b).1.length <= st.length + 8:=by
 induction st with
 | nil=>simp [gon]
 | cons it st ih=>
   unfold gon
   cases e:bh it b with
   | some l=>have:=Bm it b l e; simp; omega
   | none=>
     dsimp only
     split
     . simp; omega
     . simp; omega
end PG
namespace PG
inductive Sg where
 | pl (p:Int) | sh (c p:Int) | hx (a b c d:Int) | pr (a b c d e f g h:Int)
noncomputable def pts:Sg -> List Int
 | .pl p=>[p]
 | .sh c _=>[92,c]
 | .hx a b c d=>[92,117,a,b,c,d]
 | .pr a b c d e f g h=>[92,117,a,b,c,d,92,117,e,f,g,h]
noncomputable def hv (b:Int):Int:=(dN b).getD 0
noncomputable def cod (a b c d:Int):Int:=16 * (16 * (16 * hv a + hv b) + hv c) + hv d
noncomputable def rV:Sg -> Int
 | .pl p=>p
 | .sh _ p=>p
 | .hx a b c d=>cod a b c d
 | .pr a b c d e f g h=>65536 + 1024 * (cod a b c d - 55296) + cod e f g h - 56320
noncomputable def shP:List (Int × Int):=[(34,34),(92,92),(47,47),(98,8),(102,12),(110,10),(114,13),(116,9)]
noncomputable def Sok:Sg -> Prop
 | .pl p=>fu p = true /\ 32 <= p /\ p ≠ 34 /\ p ≠ 92
 | .sh c p=>(c,p) ∈ shP
 | .hx a b c d=>(dN a).isSome = true /\ (dN b).isSome = true /\ (dN c).isSome = true /\ (dN d).isSome = true /\ ¬ (55296 <= cod a b c d /\ cod a b c d <= 57343)
 | .pr a b c d e f g h=>(dN a = some 13 /\ 8 <= hv b /\ hv b < 12 /\ (dN b).isSome = true /\ (dN c).isSome = true /\ (dN d).isSome = true) /\ dN e = some 13 /\ 12 <= hv f /\ (dN f).isSome = true /\ (dN g).isSome = true /\ (dN h).isSome = true
noncomputable def kM (s:Sg):List Int:=(pts s).flatMap aQ
theorem eM {b w:Int} (h:dN b = some w):0 <= w /\ w < 16 /\ 48 <= b /\ b <= 102 /\ b ≠ 92 /\ b ≠ 117:=by
 unfold dN at h
 split at h
 . injection h with h; omega
 . split at h
   . injection h with h; omega
   . split at h
     . injection h with h; omega
     . cases h
theorem gu {b w:Int} (h:dN b = some w):hv b = w:=by unfold hv; rw [h]; rfl
theorem lN {n:Int} (h:n < 128):aQ n = [n]:=by unfold aQ; rw [if_pos h]
theorem cnt_cons (it:It) (st:List It):cnt (it ::st) = (if opn it then 1 else 0) + cnt st:=by
 unfold cnt
 cases e:opn it <;> simp [e]
 omega
theorem DT (l st:List It):cnt (l ++ st) = cnt l + cnt st:=by
 unfold cnt; rw [List.filter_append,List.length_append]
theorem Aq {st st':List It} {b:Int} {r:List Int} (h:gon st b = (st',true)):tk st (b ::r) = ((tk st' r).1,(tk st' r).2 + 1):=by
 simp [tk,h]
theorem ET {it:It} {st l:List It} {b:Int} {r:List Int} (h:bh it b = some l) (hl:cnt l = 0) (hc:cnt st <= 64):tk (it ::st) (b ::r) = ((tk (l ++ st) r).1,(tk (l ++ st) r).2 + 1):=by
 refine Aq ?_
 have:cnt (l ++ st) <= 64:=by rw [DT]; omega
 simp [gon,h,this]
theorem E4 {it:It} {st:List It} {b:Int} {r:List Int} (h:bh it b = none) (hl:loose it = true):tk (it ::st) (b ::r) = tk st (b ::r):=by
 simp [tk,gon,h,hl]
noncomputable def Goes (st:List It) (bs:List Int) (st':List It):Prop:=∀ r,tk st (bs ++ r) = ((tk st' r).1,(tk st' r).2 + bs.length)
theorem Goes.nil (st:List It):Goes st [] st:=fun r=>by simp
theorem Goes.trans {a b c:List It} {xs ys:List Int} (h:Goes a xs b) (k:Goes b ys c):Goes a (xs ++ ys) c:=fun r=>by
 rw [List.append_assoc,h,k,List.length_append]
 congr 1
 omega
theorem Goes.step {it:It} {st l st':List It} {b:Int} {bs:List Int} (h:bh it b = some l) (hl:cnt l = 0) (hc:cnt st <= 64) (k:Goes (l ++ st) bs st'):Goes (it ::st) (b ::bs) st':=fun r=>by
 rw [List.cons_append,ET h hl hc,k,List.length_cons]
 congr 1
theorem DU {p:Int} {st:List It} (h:fu p = true) (h1:32 <= p) (h2:p ≠ 34) (h3:p ≠ 92) (hc:cnt st <= 64):Goes (.text ::st) (aQ p) (.text ::st):=by
 have hr:=jj h
 have hs:p < 55296 \/ 57343 < p:=by
  unfold fu at h
  simp only [Bool.or_eq_true,Bool.and_eq_true,decide_eq_true_eq] at h
  omega
 have hc1:cnt (.text ::st) <= 64:=by rw [cnt_cons]; simp [opn]; omega
 have hsp:∀ lo hi:Int,cnt (.sp lo hi ::.text ::st) <= 64:=fun lo hi=>by rw [cnt_cons,cnt_cons]; simp [opn]; omega
 have b1:∀ b:Int,b ≠ 34 -> b ≠ 92 -> ¬ b < 32 -> bh .text b = (tls b).map (· ++ [.text]):=fun b g1 g2 g3=>by simp only [bh,qQ,g1,g2,g3,if_false]
 unfold aQ
 by_cases c1:p < 128
 . rw [if_pos c1]
   refine Goes.step (l:=[.text]) ?_ rfl hc (.nil _)
   rw [b1 p h2 h3 (by omega)]
   unfold tls
   rw [if_pos ⟨by omega,c1⟩]
   rfl
 . rw [if_neg c1]
   by_cases c2:p < 2048
   . rw [if_pos c2]
     refine Goes.step (l:=[.sp 128 191,.text]) ?_ rfl hc ?_
     . rw [b1 _ (by omega) (by omega) (by omega)]
       unfold tls
       rw [if_neg (by omega),if_pos (by omega)]
       rfl
     . refine Goes.step (l:=[]) ?_ rfl hc1 (.nil _)
       simp only [bh]
       rw [if_pos (by omega)]
   . rw [if_neg c2]
     by_cases c3:p < 65536
     . rw [if_pos c3]
       refine Goes.step (l:=[if 224 + p / 4096 = 224 then .sp 160 191 else if 224 + p / 4096 = 237 then .sp 128 159 else .sp 128 191,.sp 128 191,.text]) ?_ ?_ hc ?_
       . rw [b1 _ (by omega) (by omega) (by omega)]
         unfold tls
         rw [if_neg (by omega),if_neg (by omega),if_pos (by omega)]
         rfl
       . split
         . rfl
         . split <;> rfl
       . refine Goes.step (l:=[]) ?_ rfl (hsp _ _) ?_
         . split
           . simp only [bh]; rw [if_pos (by omega)]
           . split
             . simp only [bh]; rw [if_pos (by omega)]
             . simp only [bh]; rw [if_pos (by omega)]
         . refine Goes.step (l:=[]) ?_ rfl hc1 (.nil _)
           simp only [bh]
           rw [if_pos (by omega)]
     . rw [if_neg c3]
       have hsp2:cnt (.sp 128 191 ::.sp 128 191 ::.text ::st) <= 64:=by rw [cnt_cons,cnt_cons,cnt_cons]; simp [opn]; omega
       refine Goes.step (l:=[if 240 + p / 262144 = 240 then .sp 144 191 else if 240 + p / 262144 = 244 then .sp 128 143 else .sp 128 191,.sp 128 191,.sp 128 191,.text]) ?_ ?_ hc ?_
       . rw [b1 _ (by omega) (by omega) (by omega)]
         unfold tls
         rw [if_neg (by omega),if_neg (by omega),if_neg (by omega),if_pos (by omega)]
         rfl
       . split
         . rfl
         . split <;> rfl
       . refine Goes.step (l:=[]) ?_ rfl hsp2 ?_
         . split
           . simp only [bh]; rw [if_pos (by omega)]
           . split
             . simp only [bh]; rw [if_pos (by omega)]
             . simp only [bh]; rw [if_pos (by omega)]
         . refine Goes.step (l:=[]) ?_ rfl (hsp _ _) ?_
           . simp only [bh]; rw [if_pos (by omega)]
           . refine Goes.step (l:=[]) ?_ rfl hc1 (.nil _)
             simp only [bh]
             rw [if_pos (by omega)]
theorem m7 {b w:Int} (h:dN b = some w):bh .hex b = some []:=by simp [bh,h]
theorem some_of {b:Int} (h:(dN b).isSome = true):∃ w,dN b = some w:=Option.isSome_iff_exists.mp h
theorem j8 {a b c d:Int} (ha:(dN a).isSome = true) (hb:(dN b).isSome = true) (hc:(dN c).isSome = true) (hd:(dN d).isSome = true):aQ a = [a] /\ aQ b = [b] /\ aQ c = [c] /\ aQ d = [d]:=by
 obtain ⟨w1,e1⟩:=some_of ha
 obtain ⟨w2,e2⟩:=some_of hb
 obtain ⟨w3,e3⟩:=some_of hc
 obtain ⟨w4,e4⟩:=some_of hd
 have:=eM e1
 have:=eM e2
 have:=eM e3
 have:=eM e4
 exact ⟨lN (by omega),lN (by omega),lN (by omega),lN (by omega)⟩
theorem DZ (s:Sg) (h:Sok s) (st:List It) (hc:cnt st <= 64):Goes (.text ::st) (kM s) (.text ::st):=by
 have hc1:cnt (.text ::st) <= 64:=by rw [cnt_cons]; simp [opn]; omega
 have n0:∀ it:It,opn it = false -> ∀ st,cnt st <= 64 -> cnt (it ::st) <= 64:=fun it ho st h=>by rw [cnt_cons,ho]; simp; omega
 cases s with
 | pl p=>
   obtain ⟨h1,h2,h3,h4⟩:=h
   show Goes _ (aQ p ++ []) _
   rw [List.append_nil]
   exact DU h1 h2 h3 h4 hc
 | sh c p=>
   have hb:kM (.sh c p) = [92,c] /\ bh .escape c = some []:=by
    simp only [Sok,shP,List.mem_cons,Prod.mk.injEq,List.not_mem_nil,or_false] at h
    rcases h with h | h | h | h | h | h | h | h <;> (obtain ⟨rfl,rfl⟩:=h; exact ⟨rfl,rfl⟩)
   rw [hb.1]
   exact Goes.step (l:=[.escape,.text]) rfl rfl hc (Goes.step (l:=[]) hb.2 rfl hc1 (.nil _))
 | hx a b c d=>
   obtain ⟨ha,hb,hcc,hd,hs⟩:=h
   obtain ⟨e1,e2,e3,e4⟩:=j8 ha hb hcc hd
   have hby:kM (.hx a b c d) = [92,117,a,b,c,d]:=by
    show aQ 92 ++ (aQ 117 ++ (aQ a ++ (aQ b ++ (aQ c ++ (aQ d ++ []))))) = _
    rw [e1,e2,e3,e4]; rfl
   rw [hby]
   obtain ⟨w1,f1⟩:=some_of ha
   obtain ⟨w2,f2⟩:=some_of hb
   obtain ⟨w3,f3⟩:=some_of hcc
   obtain ⟨w4,f4⟩:=some_of hd
   refine Goes.step (l:=[.escape,.text]) rfl rfl hc (Goes.step (l:=[.code]) rfl rfl hc1 ?_)
   by_cases hw:w1 = 13
   . have h8:w2 < 8:=by
      have g2:=eM f2
      have g3:=eM f3
      have g4:=eM f4
      simp only [cod,gu f1,gu f2,gu f3,gu f4] at hs
      omega
     refine Goes.step (l:=[.coded]) (by simp [bh,f1,hw]) rfl hc1 (Goes.step (l:=[.hex,.hex]) (by simp [bh,f2,yY,h8]) rfl hc1 ?_)
     exact Goes.step (l:=[]) (m7 f3) rfl (n0 _ rfl _ hc1) (Goes.step (l:=[]) (m7 f4) rfl hc1 (.nil _))
   . refine Goes.step (l:=[.hex,.hex,.hex]) (by simp [bh,f1,hw]) rfl hc1 ?_
     exact Goes.step (l:=[]) (m7 f2) rfl (n0 _ rfl _ (n0 _ rfl _ hc1)) (Goes.step (l:=[]) (m7 f3) rfl (n0 _ rfl _ hc1) (Goes.step (l:=[]) (m7 f4) rfl hc1 (.nil _)))
 | pr a b c d e f g h'=>
   obtain ⟨⟨f1,hb8,hb12,hb,hcc,hd⟩,f5,hf12,hf,hg,hh⟩:=h
   obtain ⟨e1,e2,e3,e4⟩:=j8 (by rw [f1]; rfl) hb hcc hd
   obtain ⟨e5,e6,e7,e8⟩:=j8 (by rw [f5]; rfl) hf hg hh
   have hby:kM (.pr a b c d e f g h') = [92,117,a,b,c,d,92,117,e,f,g,h']:=by
    show aQ 92 ++ (aQ 117 ++ (aQ a ++ (aQ b ++ (aQ c ++ (aQ d ++ (aQ 92 ++ (aQ 117 ++ (aQ e ++ (aQ f ++ (aQ g ++ (aQ h' ++ []))))))))))) = _
    rw [e1,e2,e3,e4,e5,e6,e7,e8]; rfl
   rw [hby]
   obtain ⟨w2,f2⟩:=some_of hb
   obtain ⟨w3,f3⟩:=some_of hcc
   obtain ⟨w4,f4⟩:=some_of hd
   obtain ⟨w6,f6⟩:=some_of hf
   obtain ⟨w7,f7⟩:=some_of hg
   obtain ⟨w8,f8⟩:=some_of hh
   rw [gu f2] at hb8 hb12
   rw [gu f6] at hf12
   have hn8:¬ w2 < 8:=by omega
   refine Goes.step (l:=[.escape,.text]) rfl rfl hc (Goes.step (l:=[.code]) rfl rfl hc1 (Goes.step (l:=[.coded]) (by simp [bh,f1]) rfl hc1 (Goes.step (l:=[.hex,.hex,.sp 92 92,.sp 117 117,.hexd,.hexcf,.hex,.hex]) (by simp [bh,f2,yY,hn8,hb12]) rfl hc1 ?_)))
   have k1:=n0 .hex rfl _ hc1
   have k2:=n0 .hex rfl _ k1
   have k3:=n0 .hexcf rfl _ k2
   have k4:=n0 .hexd rfl _ k3
   have k5:=n0 (.sp 117 117) rfl _ k4
   have k6:=n0 (.sp 92 92) rfl _ k5
   have k7:=n0 .hex rfl _ k6
   exact Goes.step (l:=[]) (m7 f3) rfl k7 (Goes.step (l:=[]) (m7 f4) rfl k6 (Goes.step (l:=[]) rfl rfl k5 (Goes.step (l:=[]) rfl rfl k4 (Goes.step (l:=[]) (by simp [bh,f5]) rfl k3 (Goes.step (l:=[]) (by simp [bh,f6,hf12]) rfl k2 (Goes.step (l:=[]) (m7 f7) rfl k1 (Goes.step (l:=[]) (m7 f8) rfl hc1 (.nil _))))))))
noncomputable def inner (ss:List Sg):List Int:=ss.flatMap kM
theorem BC (ss:List Sg) (h:∀ s ∈ ss,Sok s) (st:List It) (hc:cnt st <= 64):Goes (.text ::st) (inner ss) (.text ::st):=by
 induction ss with
 | nil=>exact .nil _
 | cons s ss ih=>exact (DZ s (h s List.mem_cons_self) st hc).trans (ih fun x hx=>h x (List.mem_cons_of_mem _ hx))
theorem rb (ss:List Sg) (h:∀ s ∈ ss,Sok s) (st:List It) (hc:cnt st <= 64):Goes (.text ::st) (inner ss ++ [34]) st:=
 (BC ss h st hc).trans (Goes.step (l:=[]) rfl rfl hc (.nil _))
theorem w9 {p:Int} (h:fu p = true) (k:Int) (r:List Int):eH [] k (aQ p ++ r) = eH [] (k + (aQ p).length) r:=by
 have hr:=jj h
 have hs:p < 55296 \/ 57343 < p:=by
  unfold fu at h
  simp only [Bool.or_eq_true,Bool.and_eq_true,decide_eq_true_eq] at h
  omega
 unfold aQ
 by_cases c1:p < 128
 . rw [if_pos c1]
   have e:spans p = some []:=by unfold spans; rw [if_pos (by omega)]
   simp [eH,e]
 . rw [if_neg c1]
   by_cases c2:p < 2048
   . rw [if_pos c2]
     have e:spans (192 + p / 64) = some [(128,191)]:=by unfold spans; rw [if_neg (by omega),if_pos (by omega)]
     have i1:(128:Int) <= 128 + p % 64 /\ 128 + p % 64 <= 191:=by omega
     simp [eH,e,i1]
     congr 1
     omega
   . rw [if_neg c2]
     by_cases c3:p < 65536
     . rw [if_pos c3]
       have e:spans (224 + p / 4096) = some [pV (224 + p / 4096),(128,191)]:=by unfold spans; rw [if_neg (by omega),if_neg (by omega),if_pos (by omega)]
       have i1:(pV (224 + p / 4096)).1 <= 128 + p / 64 % 64 /\ 128 + p / 64 % 64 <= (pV (224 + p / 4096)).2:=by
        unfold pV
        split
        . dsimp only; omega
        . split <;> (dsimp only; omega)
       have i2:(128:Int) <= 128 + p % 64 /\ 128 + p % 64 <= 191:=by omega
       simp [eH,e,i1,i2]
       congr 1
       omega
     . rw [if_neg c3]
       have e:spans (240 + p / 262144) = some [oU (240 + p / 262144),(128,191),(128,191)]:=by unfold spans; rw [if_neg (by omega),if_neg (by omega),if_neg (by omega),if_pos (by omega)]
       have i1:(oU (240 + p / 262144)).1 <= 128 + p / 4096 % 64 /\ 128 + p / 4096 % 64 <= (oU (240 + p / 262144)).2:=by
        unfold oU
        split
        . dsimp only; omega
        . split <;> (dsimp only; omega)
       have i2:(128:Int) <= 128 + p / 64 % 64 /\ 128 + p / 64 % 64 <= 191:=by omega
       have i3:(128:Int) <= 128 + p % 64 /\ 128 + p % 64 <= 191:=by omega
       simp [eH,e,i1,i2,i3]
       congr 1
       omega
theorem yT (l:List Int) (h:l.all fu = true):∀ k,eH [] k (l.flatMap aQ) = -1:=by
 induction l with
 | nil=>intro k; rfl
 | cons p l ih=>
   intro k
   simp only [List.all_cons,Bool.and_eq_true] at h
   rw [List.flatMap_cons,w9 h.1,ih h.2]
theorem tG (ss:List Sg):inner ss = (ss.flatMap pts).flatMap aQ:=by
 unfold inner kM
 induction ss with
 | nil=>rfl
 | cons s ss ih=>rw [List.flatMap_cons,List.flatMap_cons,List.flatMap_append,ih]
theorem kz {b:Int} (h:(dN b).isSome = true):fu b = true:=by
 obtain ⟨w,e⟩:=some_of h
 have:=eM e
 unfold fu
 simp only [Bool.or_eq_true,Bool.and_eq_true,decide_eq_true_eq]
 omega
theorem GL (s:Sg) (h:Sok s):(pts s).all fu = true:=by
 cases s with
 | pl p=>simp [pts,h.1]
 | sh c p=>
   simp only [Sok,shP,List.mem_cons,Prod.mk.injEq,List.not_mem_nil,or_false] at h
   rcases h with h | h | h | h | h | h | h | h <;> (obtain ⟨rfl,rfl⟩:=h; decide)
 | hx a b c d=>
   obtain ⟨ha,hb,hc,hd,_⟩:=h
   have i1:fu 92 = true:=rfl
   have i2:fu 117 = true:=rfl
   simp [pts,kz ha,kz hb,kz hc,kz hd,i1,i2]
 | pr a b c d e f g h'=>
   obtain ⟨⟨f1,_,_,hb,hc,hd⟩,f5,_,hf,hg,hh⟩:=h
   have i1:fu 92 = true:=rfl
   have i2:fu 117 = true:=rfl
   simp [pts,kz (b:=a) (by rw [f1]; rfl),kz hb,kz hc,kz hd,kz (b:=e) (by rw [f5]; rfl),kz hf,kz hg,kz hh,i1,i2]
theorem zO (ss:List Sg) (h:∀ s ∈ ss,Sok s):(ss.flatMap pts).all fu = true:=by
 rw [List.all_eq_true]
 intro x hx
 obtain ⟨s,hs,hxs⟩:=List.mem_flatMap.mp hx
 exact List.all_eq_true.mp (GL s (h s hs)) x hxs
inductive Skp:List Int -> Prop
 | nil:Skp []
 | one {b:Int} {r:List Int}:b ≠ 34 -> b ≠ 92 -> Skp r -> Skp (b ::r)
 | two {c:Int} {r:List Int}:Skp r -> Skp (92 ::c ::r)
theorem Skp.app {xs ys:List Int} (h:Skp xs) (k:Skp ys):Skp (xs ++ ys):=by
 induction h with
 | nil=>exact k
 | one h1 h2 _ ih=>exact .one h1 h2 ih
 | two _ ih=>exact .two ih
theorem Ey {l:List Int} (h:∀ b ∈ l,b ≠ 34 /\ b ≠ 92):Skp l:=by
 induction l with
 | nil=>exact .nil
 | cons b l ih=>exact .one (h b List.mem_cons_self).1 (h b List.mem_cons_self).2 (ih fun x hx=>h x (List.mem_cons_of_mem _ hx))
theorem jd {b:Int} {r:List Int} (h:(dN b).isSome = true) (k:Skp r):Skp (b ::r):=by
 obtain ⟨w,e⟩:=some_of h
 have:=eM e
 exact .one (by omega) (by omega) k
theorem GP (s:Sg) (h:Sok s):Skp (kM s):=by
 cases s with
 | pl p=>
   obtain ⟨h1,h2,h3,h4⟩:=h
   have hr:=jj h1
   show Skp (aQ p ++ [])
   rw [List.append_nil]
   refine Ey fun b hb=>?_
   unfold aQ at hb
   split at hb
   . simp at hb; omega
   . split at hb
     . simp at hb; omega
     . split at hb <;> (simp at hb; omega)
 | sh c p=>
   simp only [Sok,shP,List.mem_cons,Prod.mk.injEq,List.not_mem_nil,or_false] at h
   rcases h with h | h | h | h | h | h | h | h <;> (obtain ⟨rfl,rfl⟩:=h; exact .two .nil)
 | hx a b c d=>
   obtain ⟨ha,hb,hcc,hd,hs⟩:=h
   obtain ⟨e1,e2,e3,e4⟩:=j8 ha hb hcc hd
   have hby:kM (.hx a b c d) = [92,117,a,b,c,d]:=by
    show aQ 92 ++ (aQ 117 ++ (aQ a ++ (aQ b ++ (aQ c ++ (aQ d ++ []))))) = _
    rw [e1,e2,e3,e4]; rfl
   rw [hby]
   exact .two (jd ha (jd hb (jd hcc (jd hd .nil))))
 | pr a b c d e f g h'=>
   obtain ⟨⟨f1,_,_,hb,hcc,hd⟩,f5,_,hf,hg,hh⟩:=h
   have ha:(dN a).isSome = true:=by rw [f1]; rfl
   have he:(dN e).isSome = true:=by rw [f5]; rfl
   obtain ⟨e1,e2,e3,e4⟩:=j8 ha hb hcc hd
   obtain ⟨e5,e6,e7,e8⟩:=j8 he hf hg hh
   have hby:kM (.pr a b c d e f g h') = [92,117,a,b,c,d,92,117,e,f,g,h']:=by
    show aQ 92 ++ (aQ 117 ++ (aQ a ++ (aQ b ++ (aQ c ++ (aQ d ++ (aQ 92 ++ (aQ 117 ++ (aQ e ++ (aQ f ++ (aQ g ++ (aQ h' ++ []))))))))))) = _
    rw [e1,e2,e3,e4,e5,e6,e7,e8]; rfl
   rw [hby]
   exact .two (jd ha (jd hb (jd hcc (jd hd (.two (jd he (jd hf (jd hg (jd hh .nil)))))))))
theorem A5 (ss:List Sg) (h:∀ s ∈ ss,Sok s):Skp (inner ss):=by
 induction ss with
 | nil=>exact .nil
 | cons s ss ih=>exact (GP s (h s List.mem_cons_self)).app (ih fun x hx=>h x (List.mem_cons_of_mem _ hx))
theorem Goes.skip {it:It} {st st':List It} {b:Int} {bs:List Int} (h:bh it b = none) (hl:loose it = true) (k:Goes st (b ::bs) st'):Goes (it ::st) (b ::bs) st':=fun r=>by
 rw [List.cons_append,E4 h hl,<- List.cons_append,k]
theorem Goes.flt {row:List Int} {st:List It} (h:Goes st0 row st) (hl:st.all loose = true):flt row = none:=by
 have e:=h []
 rw [List.append_nil] at e
 unfold PG.flt
 rw [e]
 simp [tk,hl]
noncomputable def txt (ss:List Sg):List Int:=34 ::(inner ss ++ [34])
theorem x8 {st:List It} (ss:List Sg) (h:∀ s ∈ ss,Sok s) (hc:cnt st <= 64):Goes (.value ::st) (txt ss) st:=
 Goes.step (l:=[.text]) rfl rfl hc (rb ss h st hc)
theorem EW (ss:List Sg) (h:∀ s ∈ ss,Sok s):flt (txt ss) = none:=
 Goes.flt (st:=[.white]) (Goes.skip rfl rfl (x8 ss h (by decide))) rfl
end PG
namespace L2.plainglass_k15_texts_meant
open PySem L2.P
noncomputable def iO (c:String):Option Bool:=if c = "GlassError" then some true else if c = "Fault" then some true else if c = "NoNode" then some true else none
noncomputable def nJ (c:String):Bool:=c == "Walk"
noncomputable def mJ:ag -> OS:=
    (aS (cf (jr (au 0))
    (bw (mOp jV (au 0) (mOp kJ (au 1) (mUn ng (au 0)))))
    bt)
    (bw (mC (.int 0))))
noncomputable def iC:List PV -> OE:=fnP 2 2 mJ
noncomputable def rH:ag -> OS:=
    (bw (mOp kJ (mOp eL (mOp vB (mOp uh (au 2) (mC (.int 64))) (mC (.int 69621))) (au 2)) (mC (.int 4294967231))))
noncomputable def rp:ag -> OS:=
    (aS (cK 2 (mOp kJ (mOp vB (au 2) (mC (.int 48271))) (mC (.int 4294967279))))
    rH)
noncomputable def gP:ag -> OS:=
    (aS (cK 2 (mOp kJ (mOp eL (bf iC (aj (au 0) (aj (au 1) aN))) (mOp vB (mC (.int 104729)) (mOp eL (au 1) (mC (.int 1))))) (mC (.int 4294967291))))
    rp)
noncomputable def dW:List PV -> OE:=fnP 2 3 gP
noncomputable def fX:ag -> OS:=
    (bw (mOp eL (mC (.int 65536)) (mOp kJ (au 2) (mC (.int 1048576)))))
noncomputable def fQ:ag -> OS:=
    (aS (cf (aR (mOp gEq (au 1) (mC (.int 6))))
    (bw (mOp eL (mC (.int 57344)) (mOp kJ (au 2) (mC (.int 8192)))))
    bt)
    fX)
noncomputable def fK:ag -> OS:=
    (aS (cf (aR (mOp gEq (au 1) (mC (.int 5))))
    (bw (mOp eL (mC (.int 2048)) (mOp kJ (au 2) (mC (.int 53248)))))
    bt)
    fQ)
noncomputable def fS:ag -> OS:=
    (aS (cf (aR (mOp gEq (au 1) (mC (.int 4))))
    (bw (mOp eL (mC (.int 128)) (mOp kJ (au 2) (mC (.int 1920)))))
    bt)
    fK)
noncomputable def fN:ag -> OS:=
    (aS (cf (aR (mOp gLt (au 1) (mC (.int 4))))
    (bw (mOp jV (cV (aj (mC (.int 34)) (aj (mC (.int 92)) (aj (mC (.int 47)) (aj (mC (.int 8)) (aj (mC (.int 12)) (aj (mC (.int 10)) (aj (mC (.int 13)) (aj (mC (.int 9)) (aj (mC (.int 0)) (aj (mC (.int 31)) (aj (mC (.int 127)) aN)))))))))))) (mOp kJ (au 2) (mC (.int 11)))))
    bt)
    fS)
noncomputable def fH:ag -> OS:=
    (aS (cf (aR (mOp gLt (au 1) (mC (.int 2))))
    (bw (mOp eL (mC (.int 32)) (mOp kJ (au 2) (mC (.int 95)))))
    bt)
    fN)
noncomputable def fT:ag -> OS:=
    (aS (cK 2 (mOp uh (au 0) (mC (.int 8))))
    fH)
noncomputable def eW:ag -> OS:=
    (aS (cK 1 (mOp kJ (au 0) (mC (.int 8))))
    fT)
noncomputable def cU:List PV -> OE:=fnP 1 3 eW
noncomputable def kY:ag -> OE:=
    (bf cU (aj (bf dW (aj (au 0) (aj (mOp eL (mOp eL (au 1) (mC (.int 1))) (au 2)) aN))) aN))
noncomputable def kR:ag -> OS:=
    (bw (sY (au 3) [0,1] kY))
noncomputable def kQ:ag -> OS:=
    (aS (cf (aR (mOp gEq (mOp kJ (mOp uh (au 2) (mC (.int 5))) (mC (.int 8))) (mC (.int 3))))
    (cK 3 (mOp kJ (mOp uh (au 2) (mC (.int 40))) (mC (.int 14))))
    bt)
    kR)
noncomputable def lg:ag -> OS:=
    (aS (cK 3 (mOp kJ (au 2) (mC (.int 5))))
    kQ)
noncomputable def jE:ag -> OS:=
    (aS (cK 2 (bf dW (aj (au 0) (aj (au 1) aN))))
    lg)
noncomputable def eS:List PV -> OE:=fnP 2 4 jE
noncomputable def i6:ag -> OS:=
    (aS (cK 2 (mOp kL (cV (aj (mOp eL (mC (.int 128)) (mOp kJ (au 0) (mC (.int 64)))) aN)) (au 2)))
    (cK 0 (mOp uh (au 0) (mC (.int 64)))))
noncomputable def iX:ag -> OS:=
    (bw (mOp kL (cV (aj (mOp eL (mOp jV (cV (aj (mC (.int 192)) (aj (mC (.int 224)) (aj (mC (.int 240)) aN)))) (mOp qt (au 1) (mC (.int 1)))) (au 0)) aN)) (au 2)))
noncomputable def i8:ag -> OS:=
    (aS (Af 3 (au 1)
    i6)
    iX)
noncomputable def iZ:ag -> OS:=
    (aS (cK 2 (cV aN))
    i8)
noncomputable def i4:ag -> OS:=
    (aS (cK 1 (mOp eL (mOp eL (mC (.int 1)) (mUn xj (mOp gGe (au 0) (mC (.int 2048))))) (mUn xj (mOp gGe (au 0) (mC (.int 65536))))))
    iZ)
noncomputable def iz:ag -> OS:=
    (aS (cf (aR (mOp gLt (au 0) (mC (.int 128))))
    (bw (cV (aj (au 0) aN)))
    bt)
    i4)
noncomputable def ee:List PV -> OE:=fnP 1 4 iz
noncomputable def lK:ag -> OS:=
    (aS (cK 4 (mOp kJ (au 0) (mC (.int 16))))
    (aS (cf (aR (mOp gLt (au 4) (mC (.int 10))))
    (cK 2 (mOp kL (cV (aj (mOp eL (mC (.int 48)) (au 4)) aN)) (au 2)))
    (cK 2 (mOp kL (cV (aj (mOp eL (lZ (jr (au 1)) (mC (.int 55)) (mC (.int 87))) (au 4)) aN)) (au 2))))
    (cK 0 (mOp uh (au 0) (mC (.int 16))))))
noncomputable def rG:ag -> OS:=
    (bw (mOp kL (cV (aj (mC (.int 92)) (aj (mC (.int 117)) aN))) (au 2)))
noncomputable def rq:ag -> OS:=
    (aS (Af 3 (mC (.int 4))
    lK)
    rG)
noncomputable def kP:ag -> OS:=
    (aS (cK 2 (cV aN))
    rq)
noncomputable def gQ:List PV -> OE:=fnP 2 5 kP
noncomputable def qd:ag -> OS:=
    (bw (mOp kL (bf gQ (aj (mOp eL (mC (.int 55296)) (mOp uh (au 4) (mC (.int 1024)))) (aj (mOp gEq (au 3) (mC (.int 1))) aN))) (bf gQ (aj (mOp eL (mC (.int 56320)) (mOp kJ (au 4) (mC (.int 1024)))) (aj (mOp gEq (au 3) (mC (.int 0))) aN)))))
noncomputable def qg:ag -> OS:=
    (aS (cK 4 (mOp qt (au 0) (mC (.int 65536))))
    qd)
noncomputable def kN:ag -> OS:=
    (aS (cf (aR (mOp gLt (au 0) (mC (.int 65536))))
    (bw (bf gQ (aj (au 0) (aj (mOp gEq (au 3) (mC (.int 1))) aN))))
    bt)
    qg)
noncomputable def fz:ag -> OS:=
    (aS (cf (nX (aR (mOp gGt (au 3) (mC (.int 1)))) (nX (aR (mOp gGe (au 0) (mC (.int 32)))) (nX (aR (mOp gNe (au 0) (mC (.int 34)))) (aR (mOp gNe (au 0) (mC (.int 92)))))))
    (bw (bf ee (aj (au 0) aN)))
    bt)
    kN)
noncomputable def mB:ag -> OS:=
    (aS (cf (nX (aR (mOp gEq (au 3) (mC (.int 0)))) (aR (wK false (au 0) 2 eQ)))
    (bw (cV (aj (mC (.int 92)) (aj (zW 2 eQ (au 0)) aN))))
    bt)
    fz)
noncomputable def jC:ag -> OS:=
    (aS (cK 3 (mOp kJ (au 1) (mC (.int 5))))
    mB)
noncomputable def mM:ag -> OS:=
    (aS (o5 2 (F4 [(34,34),(92,92),(47,47),(8,98),(12,102),(10,110),(13,114),(9,116)]))
    jC)
noncomputable def iE:List PV -> OE:=fnP 2 5 mM
noncomputable def kO:ag -> OS:=
    (aS (cK 2 (mOp kL (au 2) (bf iE (aj (au 4) (aj (mOp eL (mOp uh (au 1) (mOp eL (mC (.int 1)) (mOp kJ (au 3) (mC (.int 7))))) (au 3)) aN)))))
    (cK 3 (mOp eL (au 3) (mC (.int 1)))))
noncomputable def qm:ag -> OS:=
    (bw (mOp kL (au 2) (cV (aj (mC (.int 34)) aN))))
noncomputable def qr:ag -> OS:=
    (aS (tq 4 (au 0)
    kO)
    qm)
noncomputable def pX:ag -> OS:=
    (aS (cK 3 (mC (.int 0)))
    qr)
noncomputable def la:ag -> OS:=
    (aS (cK 2 (cV (aj (mC (.int 34)) aN)))
    pX)
noncomputable def fP:List PV -> OE:=fnP 2 5 la
noncomputable def rW:ag -> OS:=
    (CJ 0 eQ "coming" nJ (mD (cV (aj (mC (.str "white")) (aj (mC (.str "value")) (aj (mC (.str "white")) aN))))))
noncomputable def cY:List Sl -> OI:=fnI 1 1 rW
noncomputable def hZ:ag -> OS:=
    (bw (mUn (gT [(110,.tup ([117,108,108].map .int)),(116,.tup ([114,117,101].map .int)),(102,.tup ([97,108,115,101].map .int))]) (au 0)))
noncomputable def eV:List PV -> OE:=fnP 1 1 hZ
noncomputable def js:ag -> OS:=
    (bw (kC gLe gLe (mC (.int 48)) (au 0) (mC (.int 57))))
noncomputable def eY:List PV -> OE:=fnP 1 1 js
noncomputable def ku:ag -> OS:=
    (bw (mC .non))
noncomputable def kx:ag -> OS:=
    (aS (cf (jr (bf eY (aj (au 0) aN)))
    (bw (cV (aj (mC (.str "figures")) (aj (mC (.str "fraction")) (aj (mC (.str "exponent")) aN)))))
    bt)
    ku)
noncomputable def gL:ag -> OS:=
    (aS (cf (aR (mOp gEq (au 0) (mC (.int 48))))
    (bw (cV (aj (mC (.str "fraction")) (aj (mC (.str "exponent")) aN))))
    bt)
    kx)
noncomputable def dC:List PV -> OE:=fnP 1 1 gL
noncomputable def cO:ag -> OE:=
    (jU (aj (au 0) (aj (au 0) aN)))
noncomputable def cM:ag -> OS:=
    (bw (bf dC (aj (au 0) aN)))
noncomputable def cN:ag -> OS:=
    (aS (cf (aR (mOp uN (au 1) (mC .non)))
    (bw (sk (au 1) [] cO))
    bt)
    cM)
noncomputable def cL:ag -> OS:=
    (aS (cK 1 (bf eV (aj (au 0) aN)))
    cN)
noncomputable def cJ:ag -> OS:=
    (aS (cf (aR (mOp gEq (au 0) (mC (.int 45))))
    (bw (cV (aj (mC (.str "lead")) aN)))
    bt)
    cL)
noncomputable def cP:ag -> OS:=
    (aS (cf (aR (mOp gEq (au 0) (mC (.int 34))))
    (bw (cV (aj (mC (.str "text")) aN)))
    bt)
    cJ)
noncomputable def cH:ag -> OS:=
    (aS (cf (aR (mOp gEq (au 0) (mC (.int 123))))
    (bw (cV (aj (mC (.str "white")) (aj (mC (.str "fields")) aN))))
    bt)
    cP)
noncomputable def cA:ag -> OS:=
    (aS (cf (aR (mOp gEq (au 0) (mC (.int 91))))
    (bw (cV (aj (mC (.str "white")) (aj (mC (.str "row")) aN))))
    bt)
    cH)
noncomputable def bB:List PV -> OE:=fnP 1 2 cA
noncomputable def bD:ag -> OS:=
    (bw (lZ (aR (mOp gIn (au 1) (jU (aj (mC (.int 43)) (aj (mC (.int 45)) aN))))) (cV aN) (mC .non)))
noncomputable def bE:ag -> OS:=
    (aS (cf (aR (mOp gEq (au 0) (mC (.str "exponent"))))
    (bw (lZ (aR (mOp gIn (au 1) (jU (aj (mC (.int 101)) (aj (mC (.int 69)) aN))))) (cV (aj (mC (.str "sign")) (aj (jU (aj (mC (.int 48)) (aj (mC (.int 57)) aN))) (aj (mC (.str "figures")) aN)))) (mC .non)))
    bt)
    bD)
noncomputable def bF:ag -> OS:=
    (aS (cf (aR (mOp gEq (au 0) (mC (.str "fraction"))))
    (bw (lZ (aR (mOp gEq (au 1) (mC (.int 46)))) (cV (aj (jU (aj (mC (.int 48)) (aj (mC (.int 57)) aN))) (aj (mC (.str "figures")) aN))) (mC .non)))
    bt)
    bE)
noncomputable def bG:ag -> OS:=
    (aS (cf (aR (mOp gEq (au 0) (mC (.str "figures"))))
    (bw (lZ (jr (bf eY (aj (au 1) aN))) (cV (aj (mC (.str "figures")) aN)) (mC .non)))
    bt)
    bF)
noncomputable def bA:ag -> OS:=
    (aS (cf (aR (mOp gEq (au 0) (mC (.str "lead"))))
    (bw (bf dC (aj (au 1) aN)))
    bt)
    bG)
noncomputable def aY:List PV -> OE:=fnP 2 2 bA
noncomputable def o9:ag -> OS:=
    (bw (mC .non))
noncomputable def ph:ag -> OS:=
    (aS (cf (aR (kC gLe gLe (mC (.int 97)) (au 0) (mC (.int 102))))
    (bw (mOp qt (au 0) (mC (.int 87))))
    bt)
    o9)
noncomputable def pf:ag -> OS:=
    (aS (cf (aR (kC gLe gLe (mC (.int 65)) (au 0) (mC (.int 70))))
    (bw (mOp qt (au 0) (mC (.int 55))))
    bt)
    ph)
noncomputable def jx:ag -> OS:=
    (aS (cf (jr (bf eY (aj (au 0) aN)))
    (bw (mOp qt (au 0) (mC (.int 48))))
    bt)
    pf)
noncomputable def er:List PV -> OE:=fnP 1 1 jx
noncomputable def jA:ag -> OS:=
    (bw (mC .non))
noncomputable def jG:ag -> OS:=
    (aS (cf (aR (mOp gLt (au 0) (mC (.int 12))))
    (aS (cK 1 (cV (aj (jU (aj (mC (.int 92)) (aj (mC (.int 92)) aN))) (aj (jU (aj (mC (.int 117)) (aj (mC (.int 117)) aN))) (aj (mC (.str "hex d")) (aj (mC (.str "hex c to f")) (aj (mC (.str "hex")) (aj (mC (.str "hex")) aN))))))))
    (bw (mOp kL (cV (aj (mC (.str "hex")) (aj (mC (.str "hex")) aN))) (au 1))))
    bt)
    jA)
noncomputable def gK:ag -> OS:=
    (aS (cf (aR (mOp gLt (au 0) (mC (.int 8))))
    (bw (cV (aj (mC (.str "hex")) (aj (mC (.str "hex")) aN))))
    bt)
    jG)
noncomputable def da:List PV -> OE:=fnP 1 2 gK
noncomputable def eP:ag -> OS:=
    (bw (mC (.tup ([128,191].map .int))))
noncomputable def eN:ag -> OS:=
    (aS (cf (aR (mOp gEq (au 0) (mC (.int 237))))
    (bw (jU (aj (mC (.int 128)) (aj (mC (.int 159)) aN))))
    bt)
    eP)
noncomputable def dG:ag -> OS:=
    (aS (cf (aR (mOp gEq (au 0) (mC (.int 224))))
    (bw (jU (aj (mC (.int 160)) (aj (mC (.int 191)) aN))))
    bt)
    eN)
noncomputable def bJ:List PV -> OE:=fnP 1 1 dG
noncomputable def fo:ag -> OS:=
    (bw (mC (.tup ([128,191].map .int))))
noncomputable def fi:ag -> OS:=
    (aS (cf (aR (mOp gEq (au 0) (mC (.int 244))))
    (bw (jU (aj (mC (.int 128)) (aj (mC (.int 143)) aN))))
    bt)
    fo)
noncomputable def dU:ag -> OS:=
    (aS (cf (aR (mOp gEq (au 0) (mC (.int 240))))
    (bw (jU (aj (mC (.int 144)) (aj (mC (.int 191)) aN))))
    bt)
    fi)
noncomputable def bN:List PV -> OE:=fnP 1 1 dU
noncomputable def gn:ag -> OS:=
    (bw (mC .non))
noncomputable def gk:ag -> OS:=
    (aS (cf (aR (kC gLe gLt (mC (.int 240)) (au 0) (mC (.int 245))))
    (bw (cV (aj (bf bN (aj (au 0) aN)) (aj (mC (.tup ([128,191].map .int))) (aj (mC (.tup ([128,191].map .int))) aN)))))
    bt)
    gn)
noncomputable def gb:ag -> OS:=
    (aS (cf (aR (kC gLe gLt (mC (.int 224)) (au 0) (mC (.int 240))))
    (bw (cV (aj (bf bJ (aj (au 0) aN)) (aj (mC (.tup ([128,191].map .int))) aN))))
    bt)
    gk)
noncomputable def gf:ag -> OS:=
    (aS (cf (aR (kC gLe gLt (mC (.int 194)) (au 0) (mC (.int 224))))
    (bw (cV (aj (mC (.tup ([128,191].map .int))) aN)))
    bt)
    gb)
noncomputable def gZ:ag -> OS:=
    (aS (cf (aR (kC gLe gLt (mC (.int 0)) (au 0) (mC (.int 128))))
    (bw (cV aN))
    bt)
    gf)
noncomputable def eU:List PV -> OE:=fnP 1 1 gZ
noncomputable def d7:ag -> OS:=
    (bw (mOp kL (au 1) (cV (aj (mC (.str "text")) aN))))
noncomputable def d8:ag -> OS:=
    (aS (cf (A7 (aR (mOp gLt (au 0) (mC (.int 32)))) (aR (mOp sv (au 1) (mC .non))))
    (bw (mC .non))
    bt)
    d7)
noncomputable def ef:ag -> OS:=
    (aS (cK 1 (bf eU (aj (au 0) aN)))
    d8)
noncomputable def d9:ag -> OS:=
    (aS (cf (aR (mOp gEq (au 0) (mC (.int 92))))
    (bw (cV (aj (mC (.str "escape")) (aj (mC (.str "text")) aN))))
    bt)
    ef)
noncomputable def dc:ag -> OS:=
    (aS (cf (aR (mOp gEq (au 0) (mC (.int 34))))
    (bw (cV aN))
    bt)
    d9)
noncomputable def bK:List PV -> OE:=fnP 1 2 dc
noncomputable def bO:ag -> OS:=
    (bw (mUn (gT [(34,.int 34),(92,.int 92),(47,.int 47),(98,.int 8),(102,.int 12),(110,.int 10),(114,.int 13),(116,.int 9)]) (au 0)))
noncomputable def bu:List PV -> OE:=fnP 1 1 bO
noncomputable def fq:ag -> OS:=
    (aS (cf (aR (mOp gEq (au 0) (mC (.int 117))))
    (bw (cV (aj (mC (.str "code")) aN)))
    bt)
    (bw (lZ (aR (mOp sv (bf bu (aj (au 0) aN)) (mC .non))) (mC .non) (cV aN))))
noncomputable def cu:List PV -> OE:=fnP 1 1 fq
noncomputable def dh:ag -> OS:=
    (bw (bf da (aj (au 2) aN)))
noncomputable def dm:ag -> OS:=
    (aS (cf (aR (mOp gEq (au 0) (mC (.str "code"))))
    (bw (lZ (aR (mOp gEq (au 2) (mC (.int 13)))) (cV (aj (mC (.str "code d")) aN)) (cV (aj (mC (.str "hex")) (aj (mC (.str "hex")) (aj (mC (.str "hex")) aN))))))
    bt)
    dh)
noncomputable def de:ag -> OS:=
    (aS (cf (aR (mOp sv (au 2) (mC .non)))
    (bw (mC .non))
    bt)
    dm)
noncomputable def dr:ag -> OS:=
    (aS (cK 2 (bf er (aj (au 1) aN)))
    de)
noncomputable def df:ag -> OS:=
    (aS (cf (aR (mOp gEq (au 0) (mC (.str "escape"))))
    (bw (bf cu (aj (au 1) aN)))
    bt)
    dr)
noncomputable def cQ:ag -> OS:=
    (aS (cf (aR (mOp gEq (au 0) (mC (.str "text"))))
    (bw (bf bK (aj (au 1) aN)))
    bt)
    df)
noncomputable def bI:List PV -> OE:=fnP 2 3 cQ
noncomputable def il:ag -> OS:=
    (bw (cV aN))
noncomputable def ij:ag -> OS:=
    (aS (cf (aR (mOp gEq (au 0) (mC (.str "hex c to f"))))
    (bw (lZ (aR (mOp gGe (au 2) (mC (.int 12)))) (cV aN) (mC .non)))
    bt)
    il)
noncomputable def hU:ag -> OS:=
    (aS (cf (aR (mOp gEq (au 0) (mC (.str "hex d"))))
    (bw (lZ (aR (mOp gEq (au 2) (mC (.int 13)))) (cV aN) (mC .non)))
    bt)
    ij)
noncomputable def ie:ag -> OS:=
    (aS (cf (aR (mOp sv (au 2) (mC .non)))
    (bw (mC .non))
    bt)
    hU)
noncomputable def gG:ag -> OS:=
    (aS (cK 2 (bf er (aj (au 1) aN)))
    ie)
noncomputable def dF:List PV -> OE:=fnP 2 3 gG
noncomputable def fE:ag -> OS:=
    (bw (lZ (aR (mOp sv (au 1) (mC .non))) (mC .non) (mOp kL (au 1) (cV (aj (mC (.str "white")) (aj (mC (.str "more row")) aN))))))
noncomputable def fA:ag -> OS:=
    (aS (cK 1 (bf bB (aj (au 0) aN)))
    fE)
noncomputable def dY:ag -> OS:=
    (aS (cf (aR (mOp gEq (au 0) (mC (.int 93))))
    (bw (cV aN))
    bt)
    fA)
noncomputable def b5:List PV -> OE:=fnP 1 2 dY
noncomputable def iY:ag -> OS:=
    (bw (cV (aj (mC (.str "white")) (aj (jU (aj (mC (.int 58)) (aj (mC (.int 58)) aN))) (aj (mC (.str "white")) (aj (mC (.str "value")) (aj (mC (.str "white")) (aj (mC (.str "more fields")) aN))))))))
noncomputable def d5:List PV -> OE:=fnP 0 0 iY
noncomputable def dS:ag -> OS:=
    (aS (cf (aR (mOp gEq (au 0) (mC (.int 125))))
    (bw (cV aN))
    bt)
    (bw (lZ (aR (mOp gEq (au 0) (mC (.int 34)))) (mOp kL (cV (aj (mC (.str "text")) aN)) (bf d5 aN)) (mC .non))))
noncomputable def bL:List PV -> OE:=fnP 1 1 dS
noncomputable def cv:ag -> OS:=
    (bw (lZ (aR (mOp gEq (au 1) (mC (.int 125)))) (cV aN) (mC .non)))
noncomputable def cn:ag -> OS:=
    (aS (cf (aR (mOp gEq (au 1) (mC (.int 44))))
    (bw (mOp kL (cV (aj (mC (.str "white")) (aj (mC (.str "name")) aN))) (bf d5 aN)))
    bt)
    cv)
noncomputable def cy:ag -> OS:=
    (aS (cf (aR (mOp gEq (au 0) (mC (.str "more row"))))
    (aS (cf (aR (mOp gEq (au 1) (mC (.int 44))))
    (bw (cV (aj (mC (.str "white")) (aj (mC (.str "value")) (aj (mC (.str "white")) (aj (mC (.str "more row")) aN))))))
    bt)
    (bw (lZ (aR (mOp gEq (au 1) (mC (.int 93)))) (cV aN) (mC .non))))
    bt)
    cn)
noncomputable def cx:ag -> OS:=
    (aS (cf (aR (mOp gEq (au 0) (mC (.str "fields"))))
    (bw (bf bL (aj (au 1) aN)))
    bt)
    cy)
noncomputable def bQ:ag -> OS:=
    (aS (cf (aR (mOp gEq (au 0) (mC (.str "row"))))
    (bw (bf b5 (aj (au 1) aN)))
    bt)
    cx)
noncomputable def bg:List PV -> OE:=fnP 2 2 bQ
noncomputable def jk:ag -> OS:=
    (bw (mOp gIn (au 0) (mC (.tup ([9,10,13,32].map .int)))))
noncomputable def ft:List PV -> OE:=fnP 1 1 jk
noncomputable def b6:ag -> OS:=
    (bw (bf bB (aj (au 1) aN)))
noncomputable def bY:ag -> OS:=
    (aS (cf (aR (mOp gEq (au 0) (mC (.str "name"))))
    (bw (lZ (aR (mOp gEq (au 1) (mC (.int 34)))) (cV (aj (mC (.str "text")) aN)) (mC .non)))
    bt)
    b6)
noncomputable def bX:ag -> OS:=
    (aS (cf (aR (mOp gEq (au 0) (mC (.str "white"))))
    (bw (lZ (jr (bf ft (aj (au 1) aN))) (cV (aj (mC (.str "white")) aN)) (mC .non)))
    bt)
    bY)
noncomputable def bV:ag -> OS:=
    (aS (cf (aR (mOp gIn (au 0) (mC (.tup [.str "row",.str "more row",.str "fields",.str "more fields"]))))
    (bw (bf bg (aj (au 0) (aj (au 1) aN))))
    bt)
    bX)
noncomputable def bZ:ag -> OS:=
    (aS (cf (aR (mOp gIn (au 0) (jU (aj (mC (.str "hex")) (aj (mC (.str "hex d")) (aj (mC (.str "hex c to f")) aN))))))
    (bw (bf dF (aj (au 0) (aj (au 1) aN))))
    bt)
    bV)
noncomputable def bU:ag -> OS:=
    (aS (cf (aR (mOp gIn (au 0) (jU (aj (mC (.str "text")) (aj (mC (.str "escape")) (aj (mC (.str "code")) (aj (mC (.str "code d")) aN)))))))
    (bw (bf bI (aj (au 0) (aj (au 1) aN))))
    bt)
    bZ)
noncomputable def bW:ag -> OS:=
    (aS (cf (aR (mOp gIn (au 0) (jU (aj (mC (.str "lead")) (aj (mC (.str "figures")) (aj (mC (.str "fraction")) (aj (mC (.str "exponent")) (aj (mC (.str "sign")) aN))))))))
    (bw (bf aY (aj (au 0) (aj (au 1) aN))))
    bt)
    bU)
noncomputable def cE:ag -> OS:=
    (aS (cf (jr (mIs "tuple" (au 0)))
    (bw (lZ (aR (kC gLe gLe (mOp mY (au 0) (mC (.int 0))) (au 1) (mOp mY (au 0) (mC (.int 1))))) (cV aN) (mC .non)))
    bt)
    bW)
noncomputable def b9:List PV -> OE:=fnP 2 2 cE
noncomputable def jF:ag -> OE:=
    (au 0)
noncomputable def gX:ag -> OT:=
    (aR (mOp gIn (au 0) (mC (.tup [.str "row",.str "more row",.str "fields",.str "more fields"]))))
noncomputable def nv:ag -> OS:=
    (bw (mUn ng (sy (rB 0 (pFd 0 eQ "coming" nJ)) [] gX jF)))
noncomputable def cF:List Sl -> OI:=fnI 1 1 nv
noncomputable def iK:ag -> OT:=
    (qf 0 (pFd 0 eQ "coming" nJ))
noncomputable def iI:ag -> OS:=
    (aS (oa 2 (oX 0 (pFd 0 eQ "coming" nJ)))
    (aS (cK 3 (bf b9 (aj (au 2) (aj (au 1) aN))))
    (aS (cf (aR (mOp uN (au 3) (mC .non)))
    (aS (nV 0 (pFd 0 eQ "coming" nJ) (Ep (au 3) (mUn B1 (mC (.int 1)))))
    (bw (mOp gLe (mx "Walk" "brackets" cF [.b 0 eQ]) (mC (.int 64)))))
    bt)
    (cf (aR (mOp oq (au 2) (mC (.tup [.str "white",.str "figures",.str "fraction",.str "exponent",.str "sign"]))))
    (bw (mC (.bl false)))
    bt))))
noncomputable def jJ:ag -> OS:=
    (aS (b7 iK
    iI fuel)
    (bw (mC (.bl false))))
noncomputable def eh:List Sl -> OI:=fnI 2 4 jJ
noncomputable def j6:ag -> OS:=
    (EI true (oe "Walk" "goes_on" eh [.t 0 eQ,.e (au 3)])
    (iS 2)
    bt)
noncomputable def lE:ag -> OS:=
    (aS (Ad 2 3 (au 1)
    j6)
    (bw (mUn ng (au 1))))
noncomputable def gp:List Sl -> OI:=fnI 2 4 lE
noncomputable def jB:ag -> OE:=
    (mOp gIn (au 0) (mC (.tup [.str "white",.str "figures",.str "fraction",.str "exponent",.str "sign"])))
noncomputable def nF:ag -> OS:=
    (bw (mUn AZ (v7 (rB 0 (pFd 0 eQ "coming" nJ)) [] jB)))
noncomputable def cZ:List Sl -> OI:=fnI 1 1 nF
noncomputable def qH:ag -> OS:=
    (iS 2)
noncomputable def u0:ag -> OS:=
    (aS (cf (nX (aR (mOp gEq (au 2) (mUn ng (au 0)))) (jr (mx "Walk" "is_whole" cZ [.b 1 eQ])))
    (bw (mC .non))
    bt)
    qH)
noncomputable def uW:ag -> OS:=
    (aS (oa 2 (oe "Walk" "take" gp [.t 1 eQ,.e (au 0)]))
    u0)
noncomputable def sj:ag -> OS:=
    (aS (o5 1 (uH "Walk" cY))
    uW)
noncomputable def lF:List PV -> OE:=fnP 1 3 sj
noncomputable def ib:ag -> OS:=
    (aS (cK 1 (bf lF (aj (au 0) aN)))
    (cf (aR (mOp uN (au 1) (mC .non)))
    (qx "Fault" "at" (aj (au 1) aN))
    bt))
noncomputable def dH:List PV -> OE:=fnP 1 2 ib
noncomputable def kB:ag -> OS:=
    (bw (jU (aj (mOp mY (au 2) (mC (.int 0))) (aj (mOp mY (au 2) (mC (.int 1))) (aj (mOp mY (au 2) (mC (.int 2))) (aj (mOp mY (mOp jV (au 0) (mOp eL (au 1) (mC (.int 1)))) (mC (.int 3))) aN))))))
noncomputable def kq:ag -> OS:=
    (aS (cf (aR (mOp gNe (mOp mY (au 2) (mC (.int 0))) (mC (.str "name"))))
    (iS 2)
    bt)
    kB)
noncomputable def i0:ag -> OS:=
    (aS (cK 2 (mOp jV (au 0) (au 1)))
    kq)
noncomputable def eX:List PV -> OE:=fnP 2 3 i0
noncomputable def fD:ag -> OT:=
    (aR (mOp gNe (mOp jV (au 0) (au 2)) (mC (.int 34))))
noncomputable def iP:ag -> OS:=
    (rQ 2 eL (lZ (aR (mOp gEq (mOp jV (au 0) (au 2)) (mC (.int 92)))) (mC (.int 2)) (mC (.int 1))))
noncomputable def pR:ag -> OS:=
    (bw (mOp eL (au 2) (mC (.int 1))))
noncomputable def qo:ag -> OS:=
    (aS (b7 fD
    iP fuel)
    pR)
noncomputable def ni:ag -> OS:=
    (aS (cK 2 (mOp eL (au 1) (mC (.int 1))))
    qo)
noncomputable def iG:List PV -> OE:=fnP 2 3 ni
noncomputable def uk:ag -> OT:=
    (nX (aR (mOp gLt (au 2) (mUn ng (au 0)))) (nX (xv (jr (bf ft (aj (mOp jV (au 0) (au 2)) aN)))) (aR (mOp oq (mOp jV (au 0) (au 2)) (jU (aj (mC (.int 44)) (aj (mC (.int 93)) (aj (mC (.int 125)) aN))))))))
noncomputable def uc:ag -> OS:=
    (rQ 2 eL (mC (.int 1)))
noncomputable def ua:ag -> OS:=
    (iS 2)
noncomputable def um:ag -> OS:=
    (aS (b7 uk
    uc fuel)
    ua)
noncomputable def nP:ag -> OS:=
    (aS (cK 2 (au 1))
    um)
noncomputable def jv:List PV -> OE:=fnP 2 3 nP
noncomputable def kh:ag -> OT:=
    (nX (aR (mOp gLt (au 1) (mUn ng (au 0)))) (jr (bf ft (aj (mOp jV (au 0) (au 1)) aN))))
noncomputable def xV:ag -> OS:=
    (rQ 1 eL (mC (.int 1)))
noncomputable def mw:ag -> OS:=
    (aS (b7 kh
    xV fuel)
    (bw (qi (mOp gLt (au 1) (mUn ng (au 0))) (mOp gEq (mOp jV (au 0) (au 1)) (mC (.int 58))))))
noncomputable def gd:List PV -> OE:=fnP 2 2 mw
noncomputable def xI:ag -> OS:=
    (bw (jU (aj (lZ (jr (bf gd (aj (au 0) (aj (au 4) aN)))) (mC (.str "name")) (mC (.str "text"))) (aj (au 1) (aj (au 4) (aj (mOp eL (au 2) (mC (.int 1))) aN))))))
noncomputable def wL:ag -> OS:=
    (aS (cK 4 (bf iG (aj (au 0) (aj (au 1) aN))))
    xI)
noncomputable def wW:ag -> OS:=
    (aS (cf (aR (mOp gNe (au 3) (mC (.str "text"))))
    (bw (jU (aj (au 3) (aj (au 1) (aj (bf jv (aj (au 0) (aj (au 1) aN))) (aj (mOp eL (au 2) (mC (.int 1))) aN))))))
    bt)
    wL)
noncomputable def vq:ag -> OS:=
    (aS (cK 3 (vS [(34,.str "text"),(91,.str "row"),(102,.str "false"),(110,.str "null"),(116,.str "true"),(123,.str "fields")] (mOp jV (au 0) (au 1)) (mC (.str "number"))))
    wW)
noncomputable def mI:List PV -> OE:=fnP 3 5 vq
noncomputable def iL:ag -> OT:=
    (aR (mOp gLt (au 3) (mUn ng (au 0))))
noncomputable def cW:ag -> OS:=
    (aS (cK 4 (mOp jV (au 0) (au 3)))
    (cf (aR (mOp gIn (au 4) (jU (aj (mC (.int 91)) (aj (mC (.int 123)) aN)))))
    (aS (nR 2 eQ (mD (mUn ng (au 1))))
    (aS (mW 1 (jU (aj (mUn (zp [(34,.str "text"),(91,.str "row"),(102,.str "false"),(110,.str "null"),(116,.str "true"),(123,.str "fields")]) (au 4)) (aj (au 3) aN))))
    (rQ 3 eL (mC (.int 1)))))
    (cf (aR (mOp gIn (au 4) (jU (aj (mC (.int 93)) (aj (mC (.int 125)) aN)))))
    (aS (rQ 3 eL (mC (.int 1)))
    (aS (oa 5 (oX 2 eQ))
    (DW 1 (au 5) (jU (aj (mOp mY (mOp jV (au 1) (au 5)) (mC (.int 0))) (aj (mOp mY (mOp jV (au 1) (au 5)) (mC (.int 1))) (aj (au 3) (aj (mUn ng (au 1)) aN))))))))
    (cf (A7 (jr (bf ft (aj (au 4) aN))) (aR (mOp gIn (au 4) (jU (aj (mC (.int 44)) (aj (mC (.int 58)) aN))))))
    (rQ 3 eL (mC (.int 1)))
    (aS (mW 1 (bf mI (aj (au 0) (aj (au 3) (aj (mUn ng (au 1)) aN)))))
    (cK 3 (mOp mY (mOp jV (au 1) (mUn B1 (mC (.int 1)))) (mC (.int 2)))))))))
noncomputable def ou:ag -> OE:=
    (bf eX (aj (au 0) (aj (au 1) aN)))
noncomputable def qM:ag -> OS:=
    (d0 1 (bw (sY (mUn ng (au 1)) [1] ou)))
noncomputable def uF:ag -> OS:=
    (aS (b7 iL
    cW fuel)
    qM)
noncomputable def u1:ag -> OS:=
    (aS (cK 3 (mC (.int 0)))
    uF)
noncomputable def qC:ag -> OS:=
    (aS (o5 2 (mD (cV aN)))
    u1)
noncomputable def uP:ag -> OS:=
    (aS (cK 1 (cV aN))
    qC)
noncomputable def p0:ag -> OS:=
    (aS (zX (bf dH (aj (au 0) aN)))
    uP)
noncomputable def iH:List PV -> OE:=fnP 1 6 p0
noncomputable def xq:ag -> OS:=
    (cK 2 (mOp eL (mOp vB (mC (.int 16)) (au 2)) (bf er (aj (au 3) aN))))
noncomputable def wG:ag -> OS:=
    (iS 2)
noncomputable def xm:ag -> OS:=
    (aS (tq 3 (BS (au 0) (rJ (mOp eL (au 1) (mC (.int 2)))) (rJ (mOp eL (au 1) (mC (.int 6)))))
    xq)
    wG)
noncomputable def pN:ag -> OS:=
    (aS (cK 2 (mC (.int 0)))
    xm)
noncomputable def kZ:List PV -> OE:=fnP 2 4 pN
noncomputable def gN:ag -> OS:=
    (bw (mC (.int 6)))
noncomputable def gO:ag -> OS:=
    (aS (cf (aR (kC gLe gLe (mC (.int 55296)) (bf kZ (aj (au 0) (aj (au 1) aN))) (mC (.int 57343))))
    (bw (mOp vB (mC (.int 2)) (mC (.int 6))))
    bt)
    gN)
noncomputable def gM:ag -> OS:=
    (aS (cf (aR (mOp gNe (mOp jV (au 0) (mOp eL (au 1) (mC (.int 1)))) (mC (.int 117))))
    (bw (mC (.int 2)))
    bt)
    gO)
noncomputable def gv:ag -> OS:=
    (aS (cf (aR (mOp gNe (mOp jV (au 0) (au 1)) (mC (.int 92))))
    (bw (mC (.int 1)))
    bt)
    gM)
noncomputable def dO:List PV -> OE:=fnP 2 2 gv
noncomputable def iq:ag -> OS:=
    (bw (mOp qt (mOp eL (mOp eL (mC (.int 65536)) (mOp vB (mC (.int 1024)) (mOp qt (bf kZ (aj (au 0) (aj (au 1) aN))) (mC (.int 55296))))) (bf kZ (aj (au 0) (aj (mOp eL (au 1) (mC (.int 6))) aN)))) (mC (.int 56320))))
noncomputable def g9:ag -> OS:=
    (aS (cf (aR (mOp gEq (au 2) (mC (.int 6))))
    (bw (bf kZ (aj (au 0) (aj (au 1) aN))))
    bt)
    iq)
noncomputable def iu:ag -> OS:=
    (aS (cf (aR (mOp gEq (au 2) (mC (.int 2))))
    (bw (bf bu (aj (mOp jV (au 0) (mOp eL (au 1) (mC (.int 1)))) aN)))
    bt)
    g9)
noncomputable def gz:ag -> OS:=
    (aS (cf (aR (mOp gEq (au 2) (mC (.int 1))))
    (bw (mOp jV (au 0) (au 1)))
    bt)
    iu)
noncomputable def dM:List PV -> OE:=fnP 3 3 gz
noncomputable def eO:ag -> OT:=
    (aR (mOp gLt (au 2) (mUn ng (au 0))))
noncomputable def fY:ag -> OS:=
    (aS (cK 3 (bf dO (aj (au 0) (aj (au 2) aN))))
    (aS (mW 1 (bf dM (aj (au 0) (aj (au 2) (aj (au 3) aN)))))
    (rQ 2 eL (au 3))))
noncomputable def kD:ag -> OS:=
    (iS 1)
noncomputable def kH:ag -> OS:=
    (aS (b7 eO
    fY fuel)
    kD)
noncomputable def iT:ag -> OS:=
    (aS (cK 2 (mC (.int 0)))
    kH)
noncomputable def gW:ag -> OS:=
    (aS (cK 1 (cV aN))
    iT)
noncomputable def cT:List PV -> OE:=fnP 1 4 gW
noncomputable def eA:ag -> OS:=
    (aS (cf (A7 (aR (mOp gEq (au 3) (mUn ng (au 0)))) (xv (aR (kC gLe gLe (mOp mY (au 4) (mC (.int 0))) (mOp jV (au 0) (au 3)) (mOp mY (au 4) (mC (.int 1)))))))
    (qx "Fault" "at" (aj (au 3) aN))
    bt)
    (rQ 3 eL (mC (.int 1))))
noncomputable def jz:ag -> OS:=
    (iS 3)
noncomputable def jD:ag -> OS:=
    (aS (d0 2 (tq 4 (au 2)
    eA))
    jz)
noncomputable def jI:ag -> OS:=
    (aS (cK 3 (mOp eL (au 1) (mC (.int 1))))
    jD)
noncomputable def gY:ag -> OS:=
    (aS (cf (aR (mOp sv (au 2) (mC .non)))
    (qx "Fault" "at" (aj (au 1) aN))
    bt)
    jI)
noncomputable def fw:ag -> OS:=
    (aS (cK 2 (bf eU (aj (mOp jV (au 0) (au 1)) aN)))
    gY)
noncomputable def cG:List PV -> OE:=fnP 2 5 fw
noncomputable def j4:ag -> OS:=
    (cK 3 (mOp qt (mOp eL (mOp vB (au 3) (mC (.int 64))) (au 4)) (mC (.int 128))))
noncomputable def oZ:ag -> OS:=
    (iS 3)
noncomputable def oW:ag -> OS:=
    (aS (tq 4 (BS (au 0) (rJ (mOp eL (au 1) (mC (.int 1)))) (rJ (au 2)))
    j4)
    oZ)
noncomputable def lJ:ag -> OS:=
    (aS (cK 3 (mOp qt (mOp jV (au 0) (au 1)) (mOp mY (mC (.tup ([0,192,224,240].map .int))) (mOp qt (mOp qt (au 2) (au 1)) (mC (.int 1))))))
    oW)
noncomputable def gw:List PV -> OE:=fnP 3 5 lJ
noncomputable def hV:ag -> OT:=
    (aR (mOp gLt (au 2) (mUn ng (au 0))))
noncomputable def fL:ag -> OS:=
    (aS (cK 3 (bf cG (aj (au 0) (aj (au 2) aN))))
    (aS (mW 1 (bf gw (aj (au 0) (aj (au 2) (aj (au 3) aN)))))
    (cK 2 (au 3))))
noncomputable def pz:ag -> OS:=
    (iS 1)
noncomputable def pP:ag -> OS:=
    (aS (b7 hV
    fL fuel)
    pz)
noncomputable def pI:ag -> OS:=
    (aS (cK 2 (mC (.int 0)))
    pP)
noncomputable def oh:ag -> OS:=
    (aS (cK 1 (cV aN))
    pI)
noncomputable def jb:List PV -> OE:=fnP 1 4 oh
noncomputable def qX:ag -> OS:=
    (bw (bf cT (aj (bf jb (aj (BS (au 0) (rJ (mOp eL (mOp mY (au 3) (mC (.int 1))) (mC (.int 1)))) (rJ (mOp qt (mOp mY (au 3) (mC (.int 2))) (mC (.int 1))))) aN)) aN)))
noncomputable def qD:ag -> OS:=
    (aS (cf (aR (mOp oq (mOp mY (au 3) (mC (.int 0))) (jU (aj (mC (.str "text")) (aj (mC (.str "name")) aN)))))
    (ye "NoNode" (aj (mC (.str "a node that is neither a text nor a name")) aN))
    bt)
    qX)
noncomputable def lA:ag -> OS:=
    (aS (cK 3 (mOp jV (au 1) (au 2)))
    qD)
noncomputable def fZ:List PV -> OE:=fnP 3 4 lA
noncomputable def lu:ag -> OS:=
    (bw (qi (mIs "int" (au 0)) (B6 (mIs "bool" (au 0)))))
noncomputable def gy:List PV -> OE:=fnP 1 1 lu
noncomputable def lj:ag -> OE:=
    (bf gy (aj (au 0) aN))
noncomputable def iM:ag -> OS:=
    (bw (qi (mIs "list" (au 0)) (mUn AZ (v7 (au 0) [] lj))))
noncomputable def d6:List PV -> OE:=fnP 1 1 iM
noncomputable def nk:ag -> OS:=
    (iS 3)
noncomputable def nr:ag -> OS:=
    (aS (vx 4 (zX (bf fZ (aj (au 0) (aj (au 1) (aj (au 2) aN))))) iO
    (cK 3 (Ex 4 fun c=>c == "NoNode")))
    nk)
noncomputable def j7:ag -> OS:=
    (aS (cK 3 (mC (.bl false)))
    nr)
noncomputable def eZ:List PV -> OE:=fnP 3 5 j7
noncomputable def vP:ag -> OE:=
    (bf cU (aj (bf dW (aj (au 0) (aj (mOp eL (mC (.int 40)) (au 1)) aN))) aN))
noncomputable def xD:ag -> OS:=
    (d0 8 (d0 7 (bw (qi (bf d6 (aj (au 7) aN)) (qi (bf d6 (aj (au 8) aN)) (qi (mOp AA (au 7) (au 1)) (mOp AA (au 8) (au 5))))))))
noncomputable def Ag:ag -> OS:=
    (aS (d0 3 (d0 2 (cf (A7 (aR (mOp Gp (au 6) (au 2))) (xv (jr (bf eZ (aj (au 2) (aj (au 3) (aj (mC (.int 0)) aN)))))))
    (bw (mC (.bl false)))
    bt)))
    xD)
noncomputable def zG:ag -> OS:=
    (aS (d0 3 (d0 6 (cK 8 (bf fZ (aj (au 6) (aj (au 3) (aj (mC (.int 2)) aN)))))))
    Ag)
noncomputable def zZ:ag -> OS:=
    (aS (d0 3 (d0 6 (cK 7 (bf fZ (aj (au 6) (aj (au 3) (aj (mC (.int 1)) aN)))))))
    zG)
noncomputable def zN:ag -> OS:=
    (aS (cK 6 (mUn r9 (au 2)))
    zZ)
noncomputable def vd:ag -> OS:=
    (aS (d0 2 (cK 3 (bf iH (aj (au 2) aN))))
    zN)
noncomputable def zh:ag -> OS:=
    (aS (d0 5 (cK 2 (mOp kL (mOp kL (mOp kL (mOp kL (cV (aj (mC (.int 123)) aN)) (au 2)) (cV (aj (mC (.int 58)) aN))) (bf fP (aj (au 5) (aj (bf dW (aj (au 0) (aj (mC (.int 2)) aN))) aN)))) (cV (aj (mC (.int 125)) aN)))))
    vd)
noncomputable def vV:ag -> OS:=
    (aS (cK 5 (sY (mOp kJ (bf dW (aj (au 0) (aj (mC (.int 2)) aN))) (mC (.int 3))) [0] vP))
    zh)
noncomputable def wz:ag -> OS:=
    (aS (cf (aR (mOp gEq (mOp kJ (bf dW (aj (au 0) (aj (mC (.int 0)) aN))) (mC (.int 3))) (mC (.int 0))))
    (aS (d0 2 (cK 3 (bf iH (aj (au 2) aN))))
    (aS (d0 3 (d0 2 (cK 4 (bf fZ (aj (au 2) (aj (au 3) (aj (mC (.int 0)) aN)))))))
    (d0 4 (bw (qi (bf d6 (aj (au 4) aN)) (mOp AA (au 4) (au 1)))))))
    bt)
    vV)
noncomputable def rX:ag -> OS:=
    (aS (d0 1 (cK 2 (bf fP (aj (au 1) (aj (bf dW (aj (au 0) (aj (mC (.int 1)) aN))) aN)))))
    wz)
noncomputable def Dl:ag -> OS:=
    (aS (cK 1 (bf eS (aj (au 0) (aj (mC (.int 3)) aN))))
    rX)
noncomputable def tW:List PV -> OE:=fnP 1 9 Dl
theorem yi (ns:List Int) (k:Int):iC [.lst (ns.map .int),.int k] = .ok (.sh (.int (PG.cell ns k))):=by
 unfold iC mJ PG.cell
 cases ns with
 | nil=>simp
 | cons n r=>
   have hp:(0:Int) < (r.length:Int) + 1:=by omega
   have hm:0 <= k % ((r.length:Int) + 1):=Int.emod_nonneg _ (by omega)
   have hm2:k % ((r.length:Int) + 1) < (r.length:Int) + 1:=Int.emod_lt_of_pos _ hp
   have hi:(k % ((r.length:Int) + 1)).toNat < (n ::r).length:=by rw [List.length_cons]; omega
   have ha:atP (PV.int n ::r.map .int) (k % ((r.length:Int) + 1)) = some (.int ((n ::r).getD (k % ((r.length:Int) + 1)).toNat 0)):=by
    rw [Dn _ _ hm]
    have:(PV.int n ::r.map .int) = (n ::r).map .int:=rfl
    rw [this,List.getElem?_map,List.getElem?_eq_getElem hi,List.getD_eq_getElem?_getD,List.getElem?_eq_getElem hi]
    rfl
   simp [hp,ha]
theorem jt (ns:List Int) (k:Int):dW [.lst (ns.map .int),.int k] = .ok (.sh (.int (PG.mix ns k))):=by
 unfold PG.mix
 simp [rH,rp,gP,dW,yi]
theorem wA (n:Int):gy [.int n] = .ok (.sh (.bl true)):=by
 unfold gy lu
 simp
theorem vc (ns:List Int):dA lj [] (ns.map .int) = .ok (ns.map fun _=>.bl true):=
 ot _ fun n _=>by simp [lj,wA]
theorem qj (ns:List Int) (h:ns.length <= 1000000):d6 [.lst (ns.map .int)] = .ok (.sh (.bl true)):=by
 unfold d6 iM
 have e:oG (ns.map fun _=>PV.bl true) = some (ns.map fun _=>true):=by
  have:=rF (ns.map fun _=>true)
  rwa [List.map_map] at this
 simp [vc,dP,iV h,AZ,e]
theorem rj (n:Int):cU [.int n] = .ok (.sh (.int (PG.point n))):=by
 unfold PG.point
 have ha:atP [PV.int 34,.int 92,.int 47,.int 8,.int 12,.int 10,.int 13,.int 9,.int 0,.int 31,.int 127] (n / 8 % 11) = some (.int (PG.menu.getD (n / 8 % 11).toNat 0)):=by
  have h0:0 <= n / 8 % 11:=by omega
  have hi:(n / 8 % 11).toNat < PG.menu.length:=by show _ < 11; omega
  rw [Dn _ _ h0]
  show (PG.menu.map PV.int)[_]? = _
  rw [List.getElem?_map,List.getD_eq_getElem?_getD,List.getElem?_eq_getElem hi]
  rfl
 by_cases h1:n % 8 < 2
 . simp [fX,fQ,fK,fS,fN,fH,fT,eW,cU,h1]
 . by_cases h2:n % 8 < 4
   . simp [fX,fQ,fK,fS,fN,fH,fT,eW,cU,h1,h2,ha]
   . by_cases h3:n % 8 = 4
     . simp [fX,fQ,fK,fS,fN,fH,fT,eW,cU,h3]
     . by_cases h4:n % 8 = 5
       . simp [fX,fQ,fK,fS,fN,fH,fT,eW,cU,h4]
       . by_cases h5:n % 8 = 6
         . simp [fX,fQ,fK,fS,fN,fH,fT,eW,cU,h5]
         . simp [fX,fQ,fK,fS,fN,fH,fT,eW,cU,h1,h2,h3,h4,h5]
theorem vf (ns:List Int) (k:Int):eS [.lst (ns.map .int),.int k] = .ok (.fr ((PG.points ns k).map .int)):=by
 have hs:=PG.xT ns k
 have hm:=PG.yW ns k
 have el:∀ m:Nat,dA kY [some (.sh (.lst (ns.map .int))),some (.sh (.int k))] (dQ m) =
   .ok ((List.range m).map fun j:Nat=>.int (PG.point (PG.mix ns (k + 1 + (j:Int))))):=fun m=>by
  unfold dQ
  refine ot _ fun j _=>?_
  simp [kY,jt,rj]
 have hp:(PG.points ns k).map PV.int = (List.range (PG.sV ns k).toNat).map fun j:Nat=>.int (PG.point (PG.mix ns (k + 1 + (j:Int)))):=by
  unfold PG.points
  rw [List.map_map]
  rfl
 rw [hp]
 have hl:(PG.sV ns k).toNat <= lim:=iV (by omega)
 unfold PG.sV at hs hl ⊢
 by_cases h3:PG.mix ns k / 5 % 8 = 3
 . rw [if_pos h3] at hs hl ⊢
   have h1:-4611686018427387904 <= PG.mix ns k / 40 % 14 /\ PG.mix ns k / 40 % 14 < 4611686018427387904:=by omega
   simp [eS,jE,lg,kQ,kR,jt,h3,dP,el,h1]
   unfold lim; omega
 . rw [if_neg h3] at hs hl ⊢
   have h1:-4611686018427387904 <= PG.mix ns k % 5 /\ PG.mix ns k % 5 < 4611686018427387904:=by omega
   simp [eS,jE,lg,kQ,kR,jt,h3,dP,el,h1]
   unfold lim; omega
theorem wD (n:Int) (h:PG.fu n = true):ee [.int n] = .ok (.fr ((PG.aQ n).map .int)):=by
 have hn:0 <= n:=by
  unfold PG.fu at h
  simp only [Bool.or_eq_true,Bool.and_eq_true,decide_eq_true_eq] at h
  omega
 unfold PG.aQ
 by_cases h1:n < 128
 . simp [i6,iX,i8,iZ,i4,iz,ee,h1]
 . by_cases h2:n < 2048
   . have g2:¬ 2048 <= n:=by omega
     have g3:¬ 65536 <= n:=by omega
     simp [i6,iX,i8,iZ,i4,iz,ee,h1,h2,g2,g3,dQ,List.range_succ]
   . by_cases h3:n < 65536
     . have g2:2048 <= n:=by omega
       have g3:¬ 65536 <= n:=by omega
       have e1:n / 64 / 64 = n / 4096:=by omega
       simp [i6,iX,i8,iZ,i4,iz,ee,h1,h2,h3,g2,g3,dQ,List.range_succ,e1]
     . have g2:2048 <= n:=by omega
       have g3:65536 <= n:=by omega
       have e1:n / 64 / 64 = n / 4096:=by omega
       have e2:n / 4096 / 64 = n / 262144:=by omega
       simp [i6,iX,i8,iZ,i4,iz,ee,h1,h2,h3,g2,g3,dQ,List.range_succ,e1,e2]
noncomputable def sp (s:Int × Int):PV:=.tup [.int s.1,.int s.2]
theorem F0 (b:Int):bJ [.int b] = .ok (.sh (sp (PG.pV b))):=by
 unfold PG.pV sp
 by_cases h1:b = 224
 . simp [eP,eN,dG,bJ,h1]
 . by_cases h2:b = 237 <;> simp [eP,eN,dG,bJ,h1,h2]
theorem HC (b:Int):bN [.int b] = .ok (.sh (sp (PG.oU b))):=by
 unfold PG.oU sp
 by_cases h1:b = 240
 . simp [fo,fi,dU,bN,h1]
 . by_cases h2:b = 244 <;> simp [fo,fi,dU,bN,h1,h2]
theorem DQ (b:Int):eU [.int b] = match PG.spans b with
  | some ss=>.ok (.fr (ss.map sp))
  | none=>.ok (.sh .non):=by
 unfold PG.spans
 by_cases h1:0 <= b /\ b < 128
 . simp [gn,gk,gb,gf,gZ,eU,h1]
 . by_cases h2:194 <= b /\ b < 224
   . have g1:0 <= b:=by omega
     have g2:¬ b < 128:=by omega
     simp [gn,gk,gb,gf,gZ,eU,h2,g1,g2,sp]
   . by_cases h3:224 <= b /\ b < 240
     . have g1:0 <= b:=by omega
       have g2:¬ b < 128:=by omega
       have g3:194 <= b:=by omega
       have g4:¬ b < 224:=by omega
       simp [gn,gk,gb,gf,gZ,eU,h3,g1,g2,g3,g4,F0]
       rfl
     . by_cases h4:240 <= b /\ b < 245
       . have g1:0 <= b:=by omega
         have g2:¬ b < 128:=by omega
         have g3:194 <= b:=by omega
         have g4:¬ b < 224:=by omega
         have g5:224 <= b:=by omega
         have g6:¬ b < 240:=by omega
         simp [gn,gk,gb,gf,gZ,eU,h4,g1,g2,g3,g4,g5,g6,HC]
         rfl
       . simp only [h1,h2,h3,h4,if_false]
         by_cases k1:0 <= b <;> by_cases k2:b < 128 <;> by_cases k3:194 <= b <;> by_cases k4:b < 224 <;> by_cases k5:224 <= b <;> by_cases k6:b < 240 <;> by_cases k7:240 <= b <;> by_cases k8:b < 245 <;> first
          | (exfalso; omega)
          | simp [gn,gk,gb,gf,gZ,eU,k1,k2,k3,k4,k5,k6,k7,k8]
theorem y2 (pre:List Int) (c:Int) (r:List Int):atP ((pre ++ c ::r).map PV.int) (pre.length:Int) = some (.int c):=by
 rw [lz,List.getElem?_map]
 simp
theorem DY (pre cs:List Int) (A B:Option Sl) (s:Int × Int):eA [some (.sh (.lst ((pre ++ cs).map .int))),A,B,some (.sh (.int pre.length)),some (.sh (sp s))] = match cs with
  | []=>.exc [some (.sh (.lst ((pre ++ cs).map .int))),A,B,some (.sh (.int pre.length)),some (.sh (sp s))] "Fault" [("at",.int pre.length)]
  | c ::_=>if s.1 <= c /\ c <= s.2 then .nx [some (.sh (.lst ((pre ++ cs).map .int))),A,B,some (.sh (.int (pre.length + 1))),some (.sh (sp s))] else
    .exc [some (.sh (.lst ((pre ++ cs).map .int))),A,B,some (.sh (.int pre.length)),some (.sh (sp s))] "Fault" [("at",.int pre.length)]:=by
 cases cs with
 | nil=>simp [eA,sp]
 | cons c r=>
   have ha:=y2 pre c r
   simp only [List.map_append,List.map_cons] at ha
   have hne:¬ (pre.length:Int) = pre.length + (r.length + 1):=by omega
   by_cases h1:s.1 <= c <;> by_cases h2:c <= s.2 <;> simp [eA,sp,ha,hne,h1,h2]
theorem DJ (A B:Option Sl) (ss:List (Int × Int)):∀ (pre cs:List Int) (o:Option Sl),
  (PG.eat ss cs = none -> ∃ o',kF 4 eA (ss.map sp) [some (.sh (.lst ((pre ++ cs).map .int))),A,B,some (.sh (.int pre.length)),o] = .nx [some (.sh (.lst ((pre ++ cs).map .int))),A,B,some (.sh (.int (pre.length + ss.length))),o']) /\
  (∀ k,PG.eat ss cs = some k -> ∃ ρ,kF 4 eA (ss.map sp) [some (.sh (.lst ((pre ++ cs).map .int))),A,B,some (.sh (.int pre.length)),o] = .exc ρ "Fault" [("at",.int (pre.length + k))]):=by
 induction ss with
 | nil=>intro pre cs o; exact ⟨fun _=>⟨o,by simp⟩,fun k h=>by simp [PG.eat] at h⟩
 | cons s ss ih=>
   intro pre cs o
   have ht:=DY pre cs A B s
   cases cs with
   | nil=>
     refine ⟨fun h=>by simp [PG.eat] at h,fun k h=>?_⟩
     simp [PG.eat] at h
     subst h
     refine ⟨[some (.sh (.lst ((pre ++ []).map .int))),A,B,some (.sh (.int pre.length)),some (.sh (sp s))],?_⟩
     rw [List.map_cons,jm]
     simp only [List.set_cons_succ,List.set_cons_zero]
     rw [ht]
     simp
   | cons c r=>
     by_cases hc:s.1 <= c /\ c <= s.2
     . have e0:pre ++ c ::r = (pre ++ [c]) ++ r:=by simp
       have e1:((pre ++ [c]).length:Int) = pre.length + 1:=by simp
       obtain ⟨i1,i2⟩:=ih (pre ++ [c]) r (some (.sh (sp s)))
       rw [<- e0,e1] at i1 i2
       simp only [hc,and_self,if_true] at ht
       refine ⟨fun h=>?_,fun k h=>?_⟩
       . obtain ⟨o',e⟩:=i1 (by simpa [PG.eat,hc] using h)
         refine ⟨o',?_⟩
         rw [List.map_cons,jm]
         simp only [List.set_cons_succ,List.set_cons_zero]
         rw [ht,iQ,e]
         simp; omega
       . obtain ⟨j,hj,hk⟩:∃ j,PG.eat ss r = some j /\ j + 1 = k:=by simpa [PG.eat,hc] using h
         obtain ⟨ρ,e⟩:=i2 j hj
         refine ⟨ρ,?_⟩
         rw [List.map_cons,jm]
         simp only [List.set_cons_succ,List.set_cons_zero]
         rw [ht,iQ,e]
         simp; omega
     . refine ⟨fun h=>by simp [PG.eat,hc] at h,fun k h=>?_⟩
       simp [PG.eat,hc] at h
       subst h
       refine ⟨[some (.sh (.lst ((pre ++ c ::r).map .int))),A,B,some (.sh (.int pre.length)),some (.sh (sp s))],?_⟩
       rw [List.map_cons,jm]
       simp only [List.set_cons_succ,List.set_cons_zero]
       rw [ht]
       simp [hc]
theorem Ly (pre:List Int) (b:Int) (cs:List Int):cG [.lst ((pre ++ b ::cs).map .int),.int pre.length] = match PG.spans b with
  | none=>.exc "Fault" [("at",.int pre.length)]
  | some ss=>match PG.eat ss cs with
    | none=>.ok (.sh (.int (pre.length + 1 + ss.length)))
    | some k=>.exc "Fault" [("at",.int (pre.length + 1 + k))]:=by
 have ha:=y2 pre b cs
 have e0:pre ++ b ::cs = (pre ++ [b]) ++ cs:=by simp
 have e1:((pre ++ [b]).length:Int) = pre.length + 1:=by simp
 have ht:=DQ b
 cases hs:PG.spans b with
 | none=>
   rw [hs] at ht
   simp only [List.map_append,List.map_cons] at ha ⊢
   simp [cG,fw,gY,ha,ht,cz]
 | some ss=>
   rw [hs] at ht
   obtain ⟨l1,l2⟩:=DJ (some (.sh (.int pre.length))) (some (.sh (.lst (ss.map sp)))) ss (pre ++ [b]) cs none
   rw [<- e0,e1] at l1 l2
   simp only [List.map_append,List.map_cons] at ha l1 l2 ⊢
   cases he:PG.eat ss cs with
   | none=>
     obtain ⟨o',l⟩:=l1 he
     simp [cG,fw,gY,jI,jD,jz,ha,ht,kb,sv,cz,l]
   | some k=>
     obtain ⟨ρ,l⟩:=l2 k he
     simp [cG,fw,gY,jI,jD,jz,ha,ht,kb,sv,cz,l]
theorem Dx (A B C:Option Sl) (cs:List Int):∀ (n:Int) (o:Option Sl),∃ o',kF 4 j4 (cs.map .int) [A,B,C,some (.sh (.int n)),o] = .nx [A,B,C,some (.sh (.int (cs.foldl (fun n c=>n * 64 + c - 128) n))),o']:=by
 induction cs with
 | nil=>intro n o; exact ⟨o,by simp⟩
 | cons c cs ih=>
   intro n o
   have hb:j4 [A,B,C,some (.sh (.int n)),some (.sh (.int c))] = .nx [A,B,C,some (.sh (.int (n * 64 + c - 128))),some (.sh (.int c))]:=by simp [j4]
   obtain ⟨o',e⟩:=ih (n * 64 + c - 128) (some (.sh (.int c)))
   refine ⟨o',?_⟩
   rw [List.map_cons,jm]
   simp only [List.set_cons_succ,List.set_cons_zero]
   rw [hb,iQ,e]
   rfl
theorem He (pre:List Int) (b:Int) (cs r:List Int) (h:cs.length <= 3):gw [.lst ((pre ++ b ::(cs ++ r)).map .int),.int pre.length,.int (pre.length + 1 + cs.length)] = .ok (.sh (.int (PG.val b cs))):=by
 have ha:=y2 pre b (cs ++ r)
 have hm:atP [PV.int 0,.int 192,.int 224,.int 240] (cs.length:Int) = some (.int (PG.mark cs.length)):=by
  rw [lz]
  unfold PG.mark
  match cs.length,h with
  | 0,_=>rfl
  | 1,_=>rfl
  | 2,_=>rfl
  | 3,_=>rfl
 have hc:uq ((pre ++ b ::(cs ++ r)).map PV.int) (some (pre.length + 1)) (some (pre.length + 1 + cs.length)) = cs.map .int:=by
  unfold uq vg
  dsimp only
  rw [if_neg (by omega),if_neg (by omega)]
  have l1:((pre ++ b ::(cs ++ r)).map PV.int).length = pre.length + 1 + cs.length + r.length:=by simp; omega
  rw [l1]
  have t1:min ((pre.length:Int) + 1).toNat (pre.length + 1 + cs.length + r.length) = pre.length + 1:=by omega
  have t2:min ((pre.length:Int) + 1 + cs.length).toNat (pre.length + 1 + cs.length + r.length) = pre.length + 1 + cs.length:=by omega
  rw [t1,t2,<- List.map_drop,<- List.map_take]
  congr 1
  have d1:(pre ++ b ::(cs ++ r)).drop (pre.length + 1) = cs ++ r:=by
   rw [List.drop_append]
   simp
  rw [d1,show pre.length + 1 + cs.length - (pre.length + 1) = cs.length from by omega]
  simp
 obtain ⟨o',l⟩:=Dx (some (.sh (.lst ((pre ++ b ::(cs ++ r)).map .int)))) (some (.sh (.int pre.length))) (some (.sh (.int (pre.length + 1 + cs.length)))) cs (b - PG.mark cs.length) none
 have e3:(pre.length:Int) + 1 + cs.length - pre.length - 1 = cs.length:=by omega
 generalize (pre ++ b ::(cs ++ r)).map PV.int = row at ha hc l ⊢
 simp [gw,lJ,oW,oZ,ha,e3,hm,hc,l]
 rfl
theorem B3 (pre:List Int) (b:Int) (cs found:List Int) (o:Option Sl) (hl:found.length <= 1000):
  fL [some (.sh (.lst ((pre ++ b ::cs).map .int))),some (.ow (found.map .int)),some (.sh (.int pre.length)),o] = match PG.spans b with
  | none=>.exc [some (.sh (.lst ((pre ++ b ::cs).map .int))),some (.ow (found.map .int)),some (.sh (.int pre.length)),o] "Fault" [("at",.int pre.length)]
  | some ss=>match PG.eat ss cs with
    | none=>.nx [some (.sh (.lst ((pre ++ b ::cs).map .int))),some (.ow ((found ++ [PG.val b (cs.take ss.length)]).map .int)),some (.sh (.int (pre.length + 1 + ss.length))),some (.sh (.int (pre.length + 1 + ss.length)))]
    | some k=>.exc [some (.sh (.lst ((pre ++ b ::cs).map .int))),some (.ow (found.map .int)),some (.sh (.int pre.length)),o] "Fault" [("at",.int (pre.length + 1 + k))]:=by
 have hc:=Ly pre b cs
 have hlim:found.length < lim:=sM (by omega)
 cases hs:PG.spans b with
 | none=>
   rw [hs] at hc
   generalize (pre ++ b ::cs).map PV.int = row at hc ⊢
   simp [fL,hc]
 | some ss=>
   rw [hs] at hc
   cases he:PG.eat ss cs with
   | none=>
     dsimp only at hc
     rw [he] at hc
     have hlen:=PG.we ss cs he
     obtain ⟨_,_,h3⟩:=PG.xa hs he
     have hch:=He pre b (cs.take ss.length) (cs.drop ss.length) (by rw [List.length_take]; omega)
     rw [List.take_append_drop,show (cs.take ss.length).length = ss.length from by rw [List.length_take]; omega] at hch
     dsimp only at hc ⊢
     rw [he]
     generalize (pre ++ b ::cs).map PV.int = row at hc hch ⊢
     simp [fL,hc,hch,hlim]
   | some k=>
     dsimp only at hc
     rw [he] at hc
     dsimp only at hc ⊢
     rw [he]
     generalize (pre ++ b ::cs).map PV.int = row at hc ⊢
     simp [fL,hc]
theorem tD (pre rest:List Int) (A o:Option Sl):hV [some (.sh (.lst ((pre ++ rest).map .int))),A,some (.sh (.int pre.length)),o] = .ok (!rest.isEmpty):=by
 cases rest with
 | nil=>simp [hV]
 | cons b r=>simp [hV]; omega
theorem B0:∀ (m:Nat) (pre rest found:List Int) (o:Option Sl) (n:Nat),rest.length <= m -> found.length + rest.length <= 1000 -> m < n ->
  (PG.eH [] pre.length rest = -1 -> ∃ L o',L.all PG.fu = true /\ L.flatMap PG.aQ = rest /\ b7 hV fL n [some (.sh (.lst ((pre ++ rest).map .int))),some (.ow (found.map .int)),some (.sh (.int pre.length)),o] =
    .nx [some (.sh (.lst ((pre ++ rest).map .int))),some (.ow ((found ++ L).map .int)),some (.sh (.int (pre.length + rest.length))),o']) /\
  (PG.eH [] pre.length rest ≠ -1 -> 0 <= PG.eH [] pre.length rest /\ ∃ ρ,b7 hV fL n [some (.sh (.lst ((pre ++ rest).map .int))),some (.ow (found.map .int)),some (.sh (.int pre.length)),o] =
    .exc ρ "Fault" [("at",.int (PG.eH [] pre.length rest))]):=by
 intro m
 induction m with
 | zero=>
   intro pre rest found o n hr hf hn
   have:rest = []:=List.length_eq_zero_iff.mp (by omega)
   subst this
   obtain ⟨n',rfl⟩:∃ k,n = k + 1:=⟨n - 1,by omega⟩
   have hc:=tD pre [] (some (.ow (found.map .int))) o
   refine ⟨fun _=>⟨[],o,rfl,rfl,?_⟩,fun h=>absurd rfl h⟩
   unfold b7
   rw [hc]
   simp
 | succ m ih=>
   intro pre rest found o n hr hf hn
   obtain ⟨n',rfl⟩:∃ k,n = k + 1:=⟨n - 1,by omega⟩
   cases rest with
   | nil=>
     have hc:=tD pre [] (some (.ow (found.map .int))) o
     refine ⟨fun _=>⟨[],o,rfl,rfl,?_⟩,fun h=>absurd rfl h⟩
     unfold b7
     rw [hc]
     simp
   | cons b cs=>
     have hc:=tD pre (b ::cs) (some (.ow (found.map .int))) o
     have ht:=B3 pre b cs found o (by omega)
     have step:b7 hV fL (n' + 1) [some (.sh (.lst ((pre ++ b ::cs).map .int))),some (.ow (found.map .int)),some (.sh (.int pre.length)),o] = (fL [some (.sh (.lst ((pre ++ b ::cs).map .int))),some (.ow (found.map .int)),some (.sh (.int pre.length)),o]).turn (b7 hV fL n'):=by
      conv=>lhs; unfold b7
      rw [hc]
      simp
     rw [step,ht]
     have hfa:PG.eH [] (pre.length:Int) (b ::cs) = match PG.spans b with
      | some ws=>PG.eH ws (pre.length + 1) cs
      | none=>(pre.length:Int):=rfl
     rw [hfa]
     cases hs:PG.spans b with
     | none=>
       have hp0:(0:Int) <= (pre.length:Int):=Int.natCast_nonneg _
       refine ⟨fun h=>?_,fun h=>⟨hp0,_,rfl⟩⟩
       have h':(pre.length:Int) = -1:=h
       rw [h'] at hp0
       exact absurd hp0 (by decide)
     | some ss=>
       dsimp only
       rw [PG.tR]
       cases he:PG.eat ss cs with
       | some k=>
         have hp0:(0:Int) <= (pre.length:Int) + 1 + (k:Int):=Int.add_nonneg (Int.add_nonneg (Int.natCast_nonneg _) (by decide)) (Int.natCast_nonneg _)
         refine ⟨fun h=>?_,fun h=>⟨hp0,_,rfl⟩⟩
         have h':(pre.length:Int) + 1 + (k:Int) = -1:=h
         rw [h'] at hp0
         exact absurd hp0 (by decide)
       | none=>
         dsimp only
         have hlen:=PG.we ss cs he
         obtain ⟨hp,hv,h3⟩:=PG.xa hs he
         have e0:pre ++ b ::cs = (pre ++ b ::cs.take ss.length) ++ cs.drop ss.length:=by simp
         have e1:((pre ++ b ::cs.take ss.length).length:Int) = pre.length + 1 + ss.length:=by
          rw [List.length_append,List.length_cons,List.length_take]; omega
         rw [List.length_cons] at hr hf
         obtain ⟨i1,i2⟩:=ih (pre ++ b ::cs.take ss.length) (cs.drop ss.length) (found ++ [PG.val b (cs.take ss.length)]) (some (.sh (.int (pre.length + 1 + ss.length)))) n' (by rw [List.length_drop]; omega) (by rw [List.length_append,List.length_drop]; simp; omega) (by omega)
         rw [<- e0,e1] at i1 i2
         refine ⟨fun h=>?_,fun h=>?_⟩
         . obtain ⟨L,o',hL,hfl,e⟩:=i1 h
           refine ⟨PG.val b (cs.take ss.length) ::L,o',by simp [hp,hL],?_,?_⟩
           . rw [List.flatMap_cons,hv,hfl]; simp
           . rw [iQ,e]
             have e4:((pre.length:Int) + 1 + ss.length + (cs.drop ss.length).length) = pre.length + (b ::cs).length:=by rw [List.length_drop,List.length_cons]; omega
             rw [e4]
             simp
         . obtain ⟨h0,ρ,e⟩:=i2 h
           exact ⟨h0,ρ,by rw [iQ,e]⟩
theorem C6 (row:List Int) (h:row.length <= 500):
  (PG.eH [] 0 row = -1 -> ∃ L:List Int,L.all PG.fu = true /\ L.flatMap PG.aQ = row /\ jb [.lst (row.map .int)] = .ok (.fr (L.map .int))) /\
  (PG.eH [] 0 row ≠ -1 -> 0 <= PG.eH [] 0 row /\ jb [.lst (row.map .int)] = .exc "Fault" [("at",.int (PG.eH [] 0 row))]):=by
 obtain ⟨h1,h2⟩:=B0 row.length [] row [] none fuel (Nat.le_refl _) (by simp; omega) (by unfold fuel; omega)
 simp only [List.nil_append,List.length_nil,List.map_nil] at h1 h2
 refine ⟨fun hf=>?_,fun hf=>?_⟩
 . obtain ⟨L,o',hL,hfl,e⟩:=h1 hf
   refine ⟨L,hL,hfl,?_⟩
   simp only [Int.ofNat_zero,Int.cast_ofNat_Int] at e
   simp [jb,oh,pI,pP,pz,e]
 . obtain ⟨h0,ρ,e⟩:=h2 hf
   refine ⟨h0,?_⟩
   simp only [Int.ofNat_zero,Int.cast_ofNat_Int] at e
   simp [jb,oh,pI,pP,pz,e]
theorem jS (b:Int):ft [.int b] = .ok (.sh (.bl (PG.wht b))):=by
 simp -implicitDefEqProofs [jk,ft,gIn,fO,cg,jN,PG.wht]
 simp [Bool.beq_eq_decide_eq]
theorem nW (b:Int):eY [.int b] = .ok (.sh (.bl (PG.fig b))):=by
 by_cases h:48 <= b <;> simp -implicitDefEqProofs [js,eY,PG.fig,h]
theorem n6 (b:Int):er [.int b] = .ok (.sh (match PG.dN b with | some w=>.int w | none=>.non)):=by
 unfold PG.dN
 by_cases h1:48 <= b <;> by_cases h2:b <= 57 <;> by_cases h3:65 <= b <;> by_cases h4:b <= 70 <;> by_cases h5:97 <= b <;> by_cases h6:b <= 102 <;> first | omega | simp -implicitDefEqProofs [o9,ph,pf,jx,er,nW,PG.fig,h1,h2,h3,h4,h5,h6]
theorem Ck (b:Int):eU [.int b] = .ok (match PG.tls b with | some l=>.fr (l.map PG.bc) | none=>.sh .non):=by
 have h3:bJ [.int b] = .ok (.sh (PG.bc (if b = 224 then .sp 160 191 else if b = 237 then .sp 128 159 else .sp 128 191))):=by
  by_cases h1:b = 224
  . simp [eP,eN,dG,bJ,h1,PG.bc]
  . by_cases h2:b = 237 <;> simp [eP,eN,dG,bJ,h1,h2,PG.bc]
 have h4:bN [.int b] = .ok (.sh (PG.bc (if b = 240 then .sp 144 191 else if b = 244 then .sp 128 143 else .sp 128 191))):=by
  by_cases h1:b = 240
  . simp [fo,fi,dU,bN,h1,PG.bc]
  . by_cases h2:b = 244 <;> simp [fo,fi,dU,bN,h1,h2,PG.bc]
 unfold PG.tls
 by_cases h0:0 <= b /\ b < 128
 . simp [gn,gk,gb,gf,gZ,eU,h0.1,h0.2]
 . by_cases ha:194 <= b /\ b < 224
   . have:¬ b < 128:=by omega
     have z:0 <= b:=by omega
     simp [gn,gk,gb,gf,gZ,eU,ha.1,ha.2,z,this,PG.bc]
   . by_cases hb:224 <= b /\ b < 240
     . have z1:¬ b < 128:=by omega
       have z2:¬ b < 224:=by omega
       have z:0 <= b:=by omega
       have z3:194 <= b:=by omega
       simp [gn,gk,gb,gf,gZ,eU,hb.1,hb.2,z,z1,z2,z3,h3]
       simp [PG.bc]
     . by_cases hc:240 <= b /\ b < 245
       . have z1:¬ b < 128:=by omega
         have z2:¬ b < 224:=by omega
         have z:0 <= b:=by omega
         have z3:194 <= b:=by omega
         have z4:224 <= b:=by omega
         have z5:¬ b < 240:=by omega
         simp [gn,gk,gb,gf,gZ,eU,hc.1,hc.2,z,z1,z2,z3,z4,z5,h4]
         simp [PG.bc]
       . simp only [h0,ha,hb,hc,if_false]
         by_cases g0:0 <= b <;> by_cases g1:b < 128 <;> by_cases g2:194 <= b <;> by_cases g3:b < 224 <;> by_cases g4:224 <= b <;> by_cases g5:b < 240 <;> by_cases g6:240 <= b <;> by_cases g7:b < 245 <;> first | omega | simp [gn,gk,gb,gf,gZ,eU,g0,g1,g2,g3,g4,g5,g6,g7]
noncomputable def rI:Option (List PG.It) -> RV
 | some l=>.fr (l.map PG.bc)
 | none=>.sh .non
theorem pb (b:Int):dC [.int b] = .ok (rI (PG.mP b)):=by
 unfold PG.mP
 by_cases h0:b = 48
 . simp [ku,kx,gL,dC,h0,rI,PG.bc]
 . by_cases h1:48 <= b <;> by_cases h2:b <= 57 <;> simp [ku,kx,gL,dC,h0,h1,h2,nW,PG.fig,rI,PG.bc]
theorem nQ (b:Int):bB [.int b] = .ok (rI (PG.oi b)):=by
 unfold PG.oi
 by_cases h1:b = 91
 . simp [cO,cM,cN,cL,cJ,cP,cH,cA,bB,h1,rI,PG.bc]
 by_cases h2:b = 123
 . simp [cO,cM,cN,cL,cJ,cP,cH,cA,bB,h2,rI,PG.bc]
 by_cases h3:b = 34
 . simp [cO,cM,cN,cL,cJ,cP,cH,cA,bB,h3,rI,PG.bc]
 by_cases h4:b = 45
 . simp [cO,cM,cN,cL,cJ,cP,cH,cA,bB,h4,rI,PG.bc]
 by_cases h5:b = 110
 . simp [cO,cM,cN,cL,cJ,cP,cH,cA,bB,h5,rI,PG.bc,hZ,eV,gT,cz,sk,dA,dP,List.lookup]
 by_cases h6:b = 116
 . simp [cO,cM,cN,cL,cJ,cP,cH,cA,bB,h6,rI,PG.bc,hZ,eV,gT,cz,sk,dA,dP,List.lookup]
 by_cases h7:b = 102
 . simp [cO,cM,cN,cL,cJ,cP,cH,cA,bB,h7,rI,PG.bc,hZ,eV,gT,cz,sk,dA,dP,List.lookup]
 have z5:(b == 110) = false:=by simpa using h5
 have z6:(b == 116) = false:=by simpa using h6
 have z7:(b == 102) = false:=by simpa using h7
 simp [cO,cM,cN,cL,cJ,cP,cH,cA,bB,h1,h2,h3,h4,h5,h6,h7,z5,z6,z7,hZ,eV,gT,cz,List.lookup,pb]
 cases PG.mP b <;> simp [rI]
theorem pd:d5 [] = .ok (.fr (PG.o8.map PG.bc)):=by
 simp [iY,d5,PG.o8,PG.bc]
theorem mi (it:PG.It) (b:Int) (h:it = .lead \/ it = .figures \/ it = .fraction \/ it = .exponent \/ it = .sign):aY [PG.bc it,.int b] = .ok (rI (PG.bh it b)):=by
 rcases h with rfl | rfl | rfl | rfl | rfl
 . simp [bD,bE,bF,bG,bA,aY,PG.bc,gEq,eqS,aM,pb]
   cases e:PG.mP b <;> simp [PG.bh,rI,e]
 . by_cases h1:48 <= b <;> by_cases h2:b <= 57 <;> simp [bD,bE,bF,bG,bA,aY,PG.bc,gEq,eqS,aM,nW,PG.fig,PG.bh,rI,h1,h2]
 . by_cases h1:b = 46 <;> simp [bD,bE,bF,bG,bA,aY,PG.bc,gEq,eqS,aM,PG.bh,rI,h1]
 . by_cases h1:b = 101
   . simp [bD,bE,bF,bG,bA,aY,PG.bc,gEq,eqS,aM,PG.bh,rI,h1,gIn,fO,cg,jN]
   . by_cases h2:b = 69
     . simp [bD,bE,bF,bG,bA,aY,PG.bc,gEq,eqS,aM,PG.bh,rI,h2,gIn,fO,cg,jN]
     . have z1:¬ 101 = b:=fun z=>h1 z.symm
       have z2:¬ 69 = b:=fun z=>h2 z.symm
       simp [bD,bE,bF,bG,bA,aY,PG.bc,gEq,eqS,aM,PG.bh,rI,h1,h2,z1,z2,gIn,fO,cg,jN]
 . by_cases h1:b = 43
   . simp [bD,bE,bF,bG,bA,aY,PG.bc,gEq,eqS,aM,PG.bh,rI,h1,gIn,fO,cg,jN]
   . by_cases h2:b = 45
     . simp [bD,bE,bF,bG,bA,aY,PG.bc,gEq,eqS,aM,PG.bh,rI,h2,gIn,fO,cg,jN]
     . have z1:¬ 43 = b:=fun z=>h1 z.symm
       have z2:¬ 45 = b:=fun z=>h2 z.symm
       simp [bD,bE,bF,bG,bA,aY,PG.bc,gEq,eqS,aM,PG.bh,rI,h1,h2,z1,z2,gIn,fO,cg,jN]
theorem tQ (b:Int):∃ x,bu [.int b] = .ok (.sh x) /\ cz x = !PG.wd b:=by
 unfold PG.wd
 by_cases h1:b = 34
 . exact ⟨.int 34,by simp [bO,bu,gT,List.lookup,h1],by simp [cz,h1]⟩
 by_cases h2:b = 92
 . exact ⟨.int 92,by simp [bO,bu,gT,List.lookup,h2],by simp [cz,h2]⟩
 by_cases h3:b = 47
 . exact ⟨.int 47,by simp [bO,bu,gT,List.lookup,h3],by simp [cz,h3]⟩
 by_cases h4:b = 98
 . exact ⟨.int 8,by simp [bO,bu,gT,List.lookup,h4],by simp [cz,h4]⟩
 by_cases h5:b = 102
 . exact ⟨.int 12,by simp [bO,bu,gT,List.lookup,h5],by simp [cz,h5]⟩
 by_cases h6:b = 110
 . exact ⟨.int 10,by simp [bO,bu,gT,List.lookup,h6],by simp [cz,h6]⟩
 by_cases h7:b = 114
 . exact ⟨.int 13,by simp [bO,bu,gT,List.lookup,h7],by simp [cz,h7]⟩
 by_cases h8:b = 116
 . exact ⟨.int 9,by simp [bO,bu,gT,List.lookup,h8],by simp [cz,h8]⟩
 have zz:∀ k:Int,¬ b = k -> (b == k) = false:=fun k h=>by simpa using h
 exact ⟨.non,by simp [bO,bu,gT,List.lookup,zz _ h1,zz _ h2,zz _ h3,zz _ h4,zz _ h5,zz _ h6,zz _ h7,zz _ h8],by simp [cz,h1,h2,h3,h4,h5,h6,h7,h8]⟩
theorem pH (b:Int):cu [.int b] = .ok (rI (PG.BR b)):=by
 obtain ⟨x,hx,hn⟩:=tQ b
 unfold PG.BR
 by_cases h1:b = 117
 . simp [fq,cu,h1,rI,PG.bc]
 . cases hs:PG.wd b <;> rw [hs] at hn <;> simp at hn <;> simp [fq,cu,h1,hx,hn,rI]
theorem DD (b:Int) (l:List PG.It) (h:PG.tls b = some l):l.length <= 3:=by
 unfold PG.tls at h
 repeat' split at h
 all_goals (first | (cases h; done) | (injection h with h; subst h; simp))
theorem pM (b:Int):bK [.int b] = .ok (rI (PG.qQ b)):=by
 have ht:=Ck b
 unfold PG.qQ
 by_cases h1:b = 34
 . simp [d7,d8,ef,d9,dc,bK,h1,rI]
 by_cases h2:b = 92
 . simp [d7,d8,ef,d9,dc,bK,h2,rI,PG.bc]
 cases e:PG.tls b with
 | none=>
   rw [e] at ht
   by_cases h3:b < 32 <;> simp [d7,d8,ef,d9,dc,bK,h1,h2,h3,rI,ht,cz]
 | some l=>
   rw [e] at ht
   have hl:l.length + 1 <= lim:=iV (by have:=DD b l e; omega)
   by_cases h3:b < 32 <;> simp [d7,d8,ef,d9,dc,bK,h1,h2,h3,rI,ht,cz,hl,PG.bc]
theorem rO (w:Int):da [.int w] = .ok (rI (PG.yY w)):=by
 unfold PG.yY
 by_cases h1:w < 8
 . simp [jA,jG,gK,da,h1,rI,PG.bc]
 . by_cases h2:w < 12 <;> simp [jA,jG,gK,da,h1,h2,rI,PG.bc]
theorem sg (it:PG.It) (b:Int) (h:it = .text \/ it = .escape \/ it = .code \/ it = .coded):bI [PG.bc it,.int b] = .ok (rI (PG.bh it b)):=by
 have hw:=n6 b
 rcases h with rfl | rfl | rfl | rfl
 . simp [dh,dm,de,dr,df,cQ,bI,PG.bc,gEq,eqS,aM,pM]
   cases e:PG.qQ b <;> simp [PG.bh,rI,e]
 . simp [dh,dm,de,dr,df,cQ,bI,PG.bc,gEq,eqS,aM,pH]
   cases e:PG.BR b <;> simp [PG.bh,rI,e]
 . cases e:PG.dN b with
   | none=>
     rw [e] at hw
     simp [dh,dm,de,dr,df,cQ,bI,PG.bc,gEq,eqS,aM,hw,cz,PG.bh,e,rI]
   | some w=>
     rw [e] at hw
     by_cases h13:w = 13 <;> simp [dh,dm,de,dr,df,cQ,bI,PG.bc,gEq,eqS,aM,hw,cz,PG.bh,e,rI,h13]
 . cases e:PG.dN b with
   | none=>
     rw [e] at hw
     simp [dh,dm,de,dr,df,cQ,bI,PG.bc,gEq,eqS,aM,hw,cz,PG.bh,e,rI]
   | some w=>
     rw [e] at hw
     simp [dh,dm,de,dr,df,cQ,bI,PG.bc,gEq,eqS,aM,hw,cz,PG.bh,e,rO]
     cases e2:PG.yY w <;> simp [rI]
theorem yV (it:PG.It) (b:Int) (h:it = .hex \/ it = .hexd \/ it = .hexcf):dF [PG.bc it,.int b] = .ok (rI (PG.bh it b)):=by
 have hw:=n6 b
 cases e:PG.dN b with
 | none=>
   rw [e] at hw
   rcases h with rfl | rfl | rfl <;> simp [il,ij,hU,ie,gG,dF,PG.bc,gEq,eqS,aM,hw,cz,PG.bh,e,rI]
 | some w=>
   rw [e] at hw
   rcases h with rfl | rfl | rfl
   . simp [il,ij,hU,ie,gG,dF,PG.bc,gEq,eqS,aM,hw,cz,PG.bh,e,rI]
   . by_cases h13:w = 13 <;> simp [il,ij,hU,ie,gG,dF,PG.bc,gEq,eqS,aM,hw,cz,PG.bh,e,rI,h13]
   . by_cases h13:12 <= w <;> simp [il,ij,hU,ie,gG,dF,PG.bc,gEq,eqS,aM,hw,cz,PG.bh,e,rI,h13]
theorem Be (b:Int) (l:List PG.It) (h:PG.oi b = some l):l.length <= 5:=by
 unfold PG.oi PG.mP at h
 repeat' split at h
 all_goals (first | (cases h; done) | (injection h with h; subst h; decide))
theorem pO (b:Int):b5 [.int b] = .ok (rI (PG.bh .row b)):=by
 have hv:=nQ b
 by_cases h1:b = 93
 . simp [fE,fA,dY,b5,h1,rI,PG.bh]
 cases e:PG.oi b with
 | none=>rw [e] at hv; simp [fE,fA,dY,b5,h1,hv,rI,PG.bh,e,cz]
 | some l=>
   rw [e] at hv
   have hl:l.length + 2 <= lim:=iV (by have:=Be b l e; omega)
   simp [fE,fA,dY,b5,h1,hv,rI,PG.bh,e,cz,PG.bc,hl]
theorem nL (b:Int):bL [.int b] = .ok (rI (PG.bh .fields b)):=by
 by_cases h1:b = 125
 . simp [dS,bL,h1,rI,PG.bh]
 by_cases h2:b = 34 <;> simp [dS,bL,h1,h2,rI,PG.bh,pd,PG.o8,PG.bc]
theorem lD (it:PG.It) (b:Int) (h:it = .row \/ it = .mrow \/ it = .fields \/ it = .mfields):bg [PG.bc it,.int b] = .ok (rI (PG.bh it b)):=by
 rcases h with rfl | rfl | rfl | rfl
 . simp [cv,cn,cy,cx,bQ,bg,PG.bc,gEq,eqS,aM,pO]
   cases e:PG.bh .row b <;> simp [rI]
 . by_cases h1:b = 44
   . simp [cv,cn,cy,cx,bQ,bg,PG.bc,gEq,eqS,aM,h1,PG.bh,rI]
   . by_cases h2:b = 93 <;> simp [cv,cn,cy,cx,bQ,bg,PG.bc,gEq,eqS,aM,h1,h2,PG.bh,rI]
 . simp [cv,cn,cy,cx,bQ,bg,PG.bc,gEq,eqS,aM,nL]
   cases e:PG.bh .fields b <;> simp [rI]
 . by_cases h1:b = 44
   . simp [cv,cn,cy,cx,bQ,bg,PG.bc,gEq,eqS,aM,h1,PG.bh,rI,pd,PG.o8]
   . by_cases h2:b = 125 <;> simp [cv,cn,cy,cx,bQ,bg,PG.bc,gEq,eqS,aM,h1,h2,PG.bh,rI]
theorem CZ (it:PG.It) (b:Int):b9 [PG.bc it,.int b] = .ok (rI (PG.bh it b)):=by
 cases it with
 | sp lo hi=>by_cases h1:lo <= b <;> by_cases h2:b <= hi <;> simp [b6,bY,bX,bV,bZ,bU,bW,cE,b9,PG.bc,isP,h1,h2,PG.bh,rI]
 | white=>
   cases h:PG.wht b <;> simp [b6,bY,bX,bV,bZ,bU,bW,cE,b9,PG.bc,isP,gIn,fO,cg,gEq,eqS,aM,jS,h,PG.bh,rI]
 | name=>by_cases h:b = 34 <;> simp [b6,bY,bX,bV,bZ,bU,bW,cE,b9,PG.bc,isP,gIn,fO,cg,gEq,eqS,aM,h,PG.bh,rI]
 | value=>
   have:=nQ b
   simp [b6,bY,bX,bV,bZ,bU,bW,cE,b9,PG.bc,isP,gIn,fO,cg,gEq,eqS,aM,this,PG.bh]
   cases PG.oi b <;> simp [rI]
 | lead=>
   have:=mi .lead b (by simp)
   simp only [PG.bc] at this
   simp [b6,bY,bX,bV,bZ,bU,bW,cE,b9,PG.bc,isP,gIn,fO,cg,this]
   cases PG.bh .lead b <;> simp [rI]
 | figures=>
   have:=mi .figures b (by simp)
   simp only [PG.bc] at this
   simp [b6,bY,bX,bV,bZ,bU,bW,cE,b9,PG.bc,isP,gIn,fO,cg,this]
   cases PG.bh .figures b <;> simp [rI]
 | fraction=>
   have:=mi .fraction b (by simp)
   simp only [PG.bc] at this
   simp [b6,bY,bX,bV,bZ,bU,bW,cE,b9,PG.bc,isP,gIn,fO,cg,this]
   cases PG.bh .fraction b <;> simp [rI]
 | exponent=>
   have:=mi .exponent b (by simp)
   simp only [PG.bc] at this
   simp [b6,bY,bX,bV,bZ,bU,bW,cE,b9,PG.bc,isP,gIn,fO,cg,this]
   cases PG.bh .exponent b <;> simp [rI]
 | sign=>
   have:=mi .sign b (by simp)
   simp only [PG.bc] at this
   simp [b6,bY,bX,bV,bZ,bU,bW,cE,b9,PG.bc,isP,gIn,fO,cg,this]
   cases PG.bh .sign b <;> simp [rI]
 | text=>
   have:=sg .text b (by simp)
   simp only [PG.bc] at this
   simp [b6,bY,bX,bV,bZ,bU,bW,cE,b9,PG.bc,isP,gIn,fO,cg,this]
   cases PG.bh .text b <;> simp [rI]
 | escape=>
   have:=sg .escape b (by simp)
   simp only [PG.bc] at this
   simp [b6,bY,bX,bV,bZ,bU,bW,cE,b9,PG.bc,isP,gIn,fO,cg,this]
   cases PG.bh .escape b <;> simp [rI]
 | code=>
   have:=sg .code b (by simp)
   simp only [PG.bc] at this
   simp [b6,bY,bX,bV,bZ,bU,bW,cE,b9,PG.bc,isP,gIn,fO,cg,this]
   cases PG.bh .code b <;> simp [rI]
 | coded=>
   have:=sg .coded b (by simp)
   simp only [PG.bc] at this
   simp [b6,bY,bX,bV,bZ,bU,bW,cE,b9,PG.bc,isP,gIn,fO,cg,this]
   cases PG.bh .coded b <;> simp [rI]
 | hex=>
   have:=yV .hex b (by simp)
   simp only [PG.bc] at this
   simp [b6,bY,bX,bV,bZ,bU,bW,cE,b9,PG.bc,isP,gIn,fO,cg,this]
   cases PG.bh .hex b <;> simp [rI]
 | hexd=>
   have:=yV .hexd b (by simp)
   simp only [PG.bc] at this
   simp [b6,bY,bX,bV,bZ,bU,bW,cE,b9,PG.bc,isP,gIn,fO,cg,this]
   cases PG.bh .hexd b <;> simp [rI]
 | hexcf=>
   have:=yV .hexcf b (by simp)
   simp only [PG.bc] at this
   simp [b6,bY,bX,bV,bZ,bU,bW,cE,b9,PG.bc,isP,gIn,fO,cg,this]
   cases PG.bh .hexcf b <;> simp [rI]
 | row=>
   have:=lD .row b (by simp)
   simp only [PG.bc] at this
   simp [b6,bY,bX,bV,bZ,bU,bW,cE,b9,PG.bc,isP,gIn,fO,cg,this]
   cases PG.bh .row b <;> simp [rI]
 | mrow=>
   have:=lD .mrow b (by simp)
   simp only [PG.bc] at this
   simp [b6,bY,bX,bV,bZ,bU,bW,cE,b9,PG.bc,isP,gIn,fO,cg,this]
   cases PG.bh .mrow b <;> simp [rI]
 | fields=>
   have:=lD .fields b (by simp)
   simp only [PG.bc] at this
   simp [b6,bY,bX,bV,bZ,bU,bW,cE,b9,PG.bc,isP,gIn,fO,cg,this]
   cases PG.bh .fields b <;> simp [rI]
 | mfields=>
   have:=lD .mfields b (by simp)
   simp only [PG.bc] at this
   simp [b6,bY,bX,bV,bZ,bU,bW,cE,b9,PG.bc,isP,gIn,fO,cg,this]
   cases PG.bh .mfields b <;> simp [rI]
noncomputable abbrev cm (st:List PG.It):List PV:=st.reverse.map PG.bc
theorem xl (st:List PG.It):PG.wk st = .ob "Walk" ["coming"] [.ol ((cm st).map .sh)]:=rfl
theorem yf (st:List PG.It):(PG.wk st).get [.fd "coming"] = some (.ol ((cm st).map .sh)):=by
 simp [xl,OV.get,OV.at1,oo]
theorem CK (st:List PG.It) (t:OV):(PG.wk st).put [.fd "coming"] t = .ob "Walk" ["coming"] [t]:=by
 simp [xl,OV.put,OV.at1,OV.CV,oo,ug]
theorem yw {ρ:ag} {i:Nat} {s:Sl} {st:List PG.It} (h:ρ[i]? = some (some s)) (hs:slT s = some (PG.wk st)):subAt i eQ ρ = some (PG.wk st):=by
 unfold subAt ky eQ; rw [h]; simp [hs]
theorem yr {ρ:ag} {i:Nat} {s:Sl} {st:List PG.It} (h:ρ[i]? = some (some s)) (hs:slT s = some (PG.wk st)):pFd i eQ "coming" nJ ρ = some [.fd "coming"]:=by
 unfold pFd
 rw [yw h hs,xl]
 simp [nJ,oo,eQ]
theorem vG {ρ:ag} {i:Nat} {s:Sl} {st:List PG.It} (h:ρ[i]? = some (some s)) (hs:slT s = some (PG.wk st)):subAt i (pFd i eQ "coming" nJ) ρ = some (.ol ((cm st).map .sh)):=by
 unfold subAt ky
 rw [h,yr h hs]
 simp [hs,yf]
theorem Jr (it:PG.It):gX [some (.sh (PG.bc it))] = .ok (PG.opn it):=by
 cases it <;> simp -implicitDefEqProofs [gX,PG.bc,gIn,fO,cg,PG.opn,jN]
theorem An (l:List PG.It):i7 gX jF [] (l.map PG.bc) = .ok ((l.filter PG.opn).map PG.bc):=by
 induction l with
 | nil=>rfl
 | cons it l ih=>
   rw [List.map_cons]
   unfold i7
   have h:=Jr it
   have he:jF [some (.sh (PG.bc it))] = .ok (.sh (PG.bc it)):=rfl
   cases e:PG.opn it <;> rw [e] at h <;> simp [h,ih,e,he]
theorem yg (st:List PG.It) (hl:st.length <= 100000):cF [.bo (PG.wk st)] = .ok (.int (PG.cnt st)) [none]:=by
 have hp:rB 0 (pFd 0 eQ "coming" nJ) [some (.bo (PG.wk st))] = .ok (.al (cm st)):=by
  unfold rB
  rw [vG (s:=.bo (PG.wk st)) rfl rfl]
  simp only [uK]
 have hc:(st.reverse.filter PG.opn).length = PG.cnt st:=by unfold PG.cnt; rw [List.filter_reverse,List.length_reverse]
 have hn:PG.cnt st <= lim:=iV (by unfold PG.cnt; have:=List.length_filter_le PG.opn st; omega)
 have he:=An st.reverse
 simp -implicitDefEqProofs only [cF,nv,fnI,mU,sy,hp,dP,List.map_nil,he,Cv,Dj,List.map_cons,List.length_cons,List.length_nil,List.replicate,List.append_nil,oF,Fp,CH,List.length_map,hc,hn,if_true,Gg,vo,jT,FA,Nat.sub_self,yb]
 rfl
theorem Dq (it:PG.It):oq (PG.bc it) (.tup [.str "white",.str "figures",.str "fraction",.str "exponent",.str "sign"]) = some (.sh (.bl (!PG.loose it))):=by
 cases it <;> simp -implicitDefEqProofs [PG.bc,oq,fO,cg,PG.loose,jN]
theorem BA (it:PG.It):gIn (PG.bc it) (.tup [.str "white",.str "figures",.str "fraction",.str "exponent",.str "sign"]) = some (.sh (.bl (PG.loose it))):=by
 cases it <;> simp -implicitDefEqProofs [PG.bc,gIn,fO,cg,PG.loose,jN]
theorem HP {ρ:ag} {i:Nat} {io:Bool} {it:PG.It} {st:List PG.It} (h:ρ[i]? = some (some (.tr io (PG.wk (it ::st))))):oX i (pFd i eQ "coming" nJ) ρ = .ok (ρ.set i (some (.tr io (PG.wk st)))) (.sh (PG.bc it)):=by
 have hc:(cm (it ::st)).map OV.sh = (cm st).map OV.sh ++ [.sh (PG.bc it)]:=by simp [cm]
 unfold oX
 rw [h,yr h rfl]
 simp only [yf,hc,List.getLast?_concat,List.dropLast_concat,CK]
 rfl
theorem GK {ρ:ag} {i:Nat} {io:Bool} {l st:List PG.It} {me:ag -> OE} (h:ρ[i]? = some (some (.tr io (PG.wk st)))) (he:me ρ = .ok (.fr (l.map PG.bc).reverse)) (hl:st.length + l.length <= 100000):
  nV i (pFd i eQ "coming" nJ) me ρ = .nx (ρ.set i (some (.tr io (PG.wk (l ++ st))))):=by
 have hc:(cm (l ++ st)).map OV.sh = (cm st).map OV.sh ++ (l.map PG.bc).reverse.map .sh:=by simp [cm]
 have hl2:st.length + l.length <= lim:=iV (by omega)
 unfold nV yD
 rw [h,yr h rfl]
 simp only [yf,he,jT,List.length_map,List.length_reverse,hl2,if_true,CK]
 rw [xl,hc]
theorem x5 {ρ:ag} {i:Nat} {io:Bool} {st:List PG.It} (h:ρ[i]? = some (some (.tr io (PG.wk st)))):qf i (pFd i eQ "coming" nJ) ρ = .ok (!st.isEmpty):=by
 unfold qf
 rw [vG h rfl]
 cases st <;> simp [cm]
theorem DV {ρ:ag} {i:Nat} {io:Bool} {st:List PG.It} (h:ρ[i]? = some (some (.tr io (PG.wk st)))) (hl:st.length <= 100000):mx "Walk" "brackets" cF [.b i eQ] ρ = .ok (.sh (.int (PG.cnt st))):=by
 have ha:mQ (.b i eQ) ρ = some (.bo (PG.wk st)):=by
  simp only [mQ]
  rw [yw h rfl]
  rfl
 have hr:recv "Walk" "brackets" (some (.bo (PG.wk st))) = true:=by
  rw [xl]
  simp [recv,aM]
 simp only [mx,ha,hr,if_true,v3,lY,Option.bind_some,Option.map_some,yg st hl]
theorem AK (b:Int) (it:PG.It) (st:List PG.It) (io:Bool) (x y:Option Sl) (hl:st.length + 8 <= 100000):iI [some (.tr io (PG.wk (it ::st))),some (.sh (.int b)),x,y] =
  match PG.bh it b with
  | some l=>.rt [some (.tr io (PG.wk (l ++ st))),some (.sh (.int b)),some (.sh (PG.bc it)),some (.ow (l.map PG.bc))] (.sh (.bl (decide (PG.cnt (l ++ st) <= 64))))
  | none=>if PG.loose it then .nx [some (.tr io (PG.wk st)),some (.sh (.int b)),some (.sh (PG.bc it)),some (.sh .non)] else .rt [some (.tr io (PG.wk st)),some (.sh (.int b)),some (.sh (PG.bc it)),some (.sh .non)] (.sh (.bl false)):=by
 have h1:oa 2 (oX 0 (pFd 0 eQ "coming" nJ)) [some (.tr io (PG.wk (it ::st))),some (.sh (.int b)),x,y] = .nx [some (.tr io (PG.wk st)),some (.sh (.int b)),some (.sh (PG.bc it)),y]:=by
  unfold oa
  rw [HP (it:=it) (st:=st) (io:=io) rfl]
  rfl
 have hb:=CZ it b
 have hlo:=Dq it
 unfold iI
 simp only [lh,h1,jl]
 cases e:PG.bh it b with
 | none=>
   rw [e] at hb
   cases e2:PG.loose it <;> rw [e2] at hlo <;> simp -implicitDefEqProofs [hb,rI,cz,hlo]
 | some l=>
   rw [e] at hb
   have hll:=PG.Bm it b l e
   have h2:nV 0 (pFd 0 eQ "coming" nJ) (Ep (au 3) (mUn B1 (mC (.int 1)))) [some (.tr io (PG.wk st)),some (.sh (.int b)),some (.sh (PG.bc it)),some (.ow (l.map PG.bc))] = .nx [some (.tr io (PG.wk (l ++ st))),some (.sh (.int b)),some (.sh (PG.bc it)),some (.ow (l.map PG.bc))]:=
    GK (io:=io) rfl (by simp [Ep]) (by omega)
   have h3:mx "Walk" "brackets" cF [.b 0 eQ] [some (.tr io (PG.wk (l ++ st))),some (.sh (.int b)),some (.sh (PG.bc it)),some (.ow (l.map PG.bc))] = .ok (.sh (.int (PG.cnt (l ++ st)))):=DV (io:=io) rfl (by simp; omega)
   have h4:(decide ((PG.cnt (l ++ st):Int) <= 64)) = decide (PG.cnt (l ++ st) <= 64):=by rw [decide_eq_decide]; omega
   simp -implicitDefEqProofs [hb,rI,cz,h2,h3,h4]
theorem Ao (b:Int) (io:Bool) (st:List PG.It):∀ (n:Nat) (x y:Option Sl),st.length < n -> st.length + 8 <= 100000 ->
  ∃ x' y',(b7 iK iI n [some (.tr io (PG.wk st)),some (.sh (.int b)),x,y]).andThen (bw (mC (.bl false))) = .rt [some (.tr io (PG.wk (PG.gon st b).1)),some (.sh (.int b)),x',y'] (.sh (.bl (PG.gon st b).2)):=by
 induction st with
 | nil=>
   intro n x y hn hl
   obtain ⟨m,rfl⟩:∃ m,n = m + 1:=⟨n - 1,by simp at hn; omega⟩
   refine ⟨x,y,?_⟩
   have hc:iK [some (.tr io (PG.wk [])),some (.sh (.int b)),x,y] = .ok false:=x5 (i:=0) (ρ:=[some (.tr io (PG.wk [])),some (.sh (.int b)),x,y]) (io:=io) (st:=[]) rfl
   simp [b7,hc,PG.gon]
 | cons it st ih=>
   intro n x y hn hl
   obtain ⟨m,rfl⟩:∃ m,n = m + 1:=⟨n - 1,by simp at hn; omega⟩
   have hc:iK [some (.tr io (PG.wk (it ::st))),some (.sh (.int b)),x,y] = .ok true:=x5 (i:=0) (ρ:=[some (.tr io (PG.wk (it ::st))),some (.sh (.int b)),x,y]) (io:=io) (st:=it ::st) rfl
   have ht:=AK b it st io x y (by simp at hl; omega)
   unfold PG.gon
   cases e:PG.bh it b with
   | some l=>
     rw [e] at ht
     exact ⟨some (.sh (PG.bc it)),some (.ow (l.map PG.bc)),by simp only [b7,hc,fJ,if_true,ht,zH,tu]⟩
   | none=>
     rw [e] at ht
     dsimp only at ht ⊢
     cases e2:PG.loose it with
     | false=>
       rw [e2] at ht
       exact ⟨some (.sh (PG.bc it)),some (.sh .non),by simp only [b7,hc,fJ,if_true,ht,zH,tu,Bool.false_eq_true,if_false]⟩
     | true=>
       rw [e2] at ht
       obtain ⟨x',y',h⟩:=ih m (some (.sh (PG.bc it))) (some (.sh .non)) (by simp at hn; omega) (by simp at hl; omega)
       exact ⟨x',y',by simp only [b7,hc,fJ,if_true,ht,iQ,h]⟩
theorem Aj (b:Int) (st:List PG.It) (hl:st.length + 8 < 100000):eh [.tr true (PG.wk st),.sh (.int b)] = .ok (.bl (PG.gon st b).2) [some (PG.wk (PG.gon st b).1),none]:=by
 obtain ⟨x',y',h⟩:=Ao b true st fuel none none (by unfold fuel; omega) (by omega)
 have e:jJ [some (.tr true (PG.wk st)),some (.sh (.int b)),none,none] = _:=h
 show fnI 2 4 jJ _ = _
 unfold fnI
 rw [if_pos (by rfl)]
 show yb 2 (jJ [some (.tr true (PG.wk st)),some (.sh (.int b)),none,none]) = _
 rw [e]
 rfl
theorem Ap (io:Bool) (rw:PV) (row:List Int):∀ (k:Nat) (st:List PG.It) (x y:Option Sl),st.length + 8 * row.length + 8 < 100000 ->
  ∃ x' y',mH 2 3 j6 (rf k (row.map .int)) [some (.tr io (PG.wk st)),some (.sh rw),x,y] = if (PG.tk st row).2 = row.length then .nx [some (.tr io (PG.wk (PG.tk st row).1)),some (.sh rw),x',y'] else .rt [some (.tr io (PG.wk (PG.tk st row).1)),some (.sh rw),x',y'] (.sh (.int ((k + (PG.tk st row).2:Nat):Int))):=by
 induction row with
 | nil=>intro k st x y hl; exact ⟨x,y,by simp [rf,mH,PG.tk]⟩
 | cons b row ih=>
   intro k st x y hl
   simp only [List.length_cons] at hl
   have hg:=Aj b st (by omega)
   have hlen:=PG.Ac st b
   have ht:j6 [some (.tr io (PG.wk st)),some (.sh rw),some (.sh (.int k)),some (.sh (.int b))] = if (PG.gon st b).2 then .nx [some (.tr io (PG.wk (PG.gon st b).1)),some (.sh rw),some (.sh (.int k)),some (.sh (.int b))] else .rt [some (.tr io (PG.wk (PG.gon st b).1)),some (.sh rw),some (.sh (.int k)),some (.sh (.int b))] (.sh (.int k)):=by
    have ha:mQ (.t 0 eQ) [some (.tr io (PG.wk st)),some (.sh rw),some (.sh (.int k)),some (.sh (.int b))] = some (.tr true (PG.wk st)):=by simp [mQ,eQ]
    have ha2:mQ (.e (au 3)) [some (.tr io (PG.wk st)),some (.sh rw),some (.sh (.int k)),some (.sh (.int b))] = some (.sh (.int b)):=by simp [mQ]
    have hr:recv "Walk" "goes_on" (some (.tr true (PG.wk st))) = true:=by rw [xl]; simp [recv,aM]
    have hx:oe "Walk" "goes_on" eh [.t 0 eQ,.e (au 3)] [some (.tr io (PG.wk st)),some (.sh rw),some (.sh (.int k)),some (.sh (.int b))] = .ok [some (.tr io (PG.wk (PG.gon st b).1)),some (.sh rw),some (.sh (.int k)),some (.sh (.int b))] (.sh (.bl (PG.gon st b).2)):=by
     simp only [oe,ha,hr,if_true,vL,lY,ha2,Option.bind_some,Option.map_some,hg]
     simp [gU,lW,eQ]
    unfold j6 EI
    rw [hx]
    cases (PG.gon st b).2 <;> simp
   unfold PG.tk
   simp only [List.map_cons,rf,mH,List.set_cons_succ,List.set_cons_zero,ht]
   cases e:(PG.gon st b).2 with
   | false=>exact ⟨some (.sh (.int k)),some (.sh (.int b)),by simp⟩
   | true=>
     obtain ⟨x',y',h⟩:=ih (k + 1) (PG.gon st b).1 (some (.sh (.int k))) (some (.sh (.int b))) (by omega)
     refine ⟨x',y',?_⟩
     simp only [if_true,iQ,h,List.length_cons,Nat.add_right_cancel_iff]
     have:k + 1 + (PG.tk (PG.gon st b).1 row).2 = k + ((PG.tk (PG.gon st b).1 row).2 + 1):=by omega
     rw [this]
theorem Hd (st:List PG.It) (row:List Int) (hl:st.length + 8 * row.length + 8 < 100000):gp [.tr true (PG.wk st),.sh (.lst (row.map .int))] = .ok (.int (PG.tk st row).2) [some (PG.wk (PG.tk st row).1),none]:=by
 obtain ⟨x',y',h⟩:=Ap true (.lst (row.map .int)) row 0 st none none hl
 show fnI 2 4 lE _ = _
 unfold fnI
 rw [if_pos (by rfl)]
 show yb 2 (lE [some (.tr true (PG.wk st)),some (.sh (.lst (row.map .int))),none,none]) = _
 unfold lE Ad
 simp only [lh,v5,List.getElem?_cons_succ,List.getElem?_cons_zero,jT,HW,h]
 by_cases e:(PG.tk st row).2 = row.length
 . simp [e,yb,uR]
 . simp [e,yb,uR]
theorem yo (st:List PG.It) (hl:st.length <= 100000):cZ [.bo (PG.wk st)] = .ok (.bl (st.all PG.loose)) [none]:=by
 have hp:rB 0 (pFd 0 eQ "coming" nJ) [some (.bo (PG.wk st))] = .ok (.al (cm st)):=by
  unfold rB
  rw [vG (s:=.bo (PG.wk st)) rfl rfl]
  simp only [uK]
 have hn:st.length <= lim:=iV (by omega)
 have he:dA jB [] (cm st) = .ok ((st.reverse.map PG.loose).map .bl):=by
  rw [List.map_map]
  refine ot _ fun it _=>?_
  simp [jB,BA]
 have hb:AZ (.lst ((st.reverse.map PG.loose).map .bl)) = some (.sh (.bl (st.all PG.loose))):=by
  simp only [AZ,rF,Option.map_some]
  congr 3
  rw [List.all_map,List.all_reverse]
  rfl
 simp -implicitDefEqProofs only [cZ,nF,fnI,mU,CC,hp,dP,List.map_nil,he,Cv,Dj,List.map_cons,List.length_cons,List.length_nil,List.replicate,List.append_nil,oF,Fp,CH,List.length_map,List.length_reverse,hn,if_true,hb,vo,jT,FA,Nat.sub_self,yb]
 rfl
theorem Iv:cY [.tr true (.ob "Walk" [] [])] = .ok .non [some (PG.wk PG.st0)]:=by
 rfl
theorem HJ (row:List Int):∀ st,(PG.tk st row).1.length <= st.length + 8 * row.length + 8:=by
 induction row with
 | nil=>intro st; simp [PG.tk]
 | cons b row ih=>
   intro st
   have:=PG.Ac st b
   have h2:=ih (PG.gon st b).1
   unfold PG.tk
   split <;> simp only [List.length_cons] <;> omega
noncomputable def ofO:Option Nat -> PV
 | some k=>.int k
 | none=>.non
theorem DE (row:List Int) (hl:8 * row.length + 20 < 100000):lF [.lst (row.map .int)] = .ok (.sh (ofO (PG.flt row))):=by
 have ht:=Hd PG.st0 row (by simp [PG.st0]; omega)
 have hlen:=HJ row PG.st0
 have hw:=yo (PG.tk PG.st0 row).1 (by have:PG.st0.length = 3:=rfl; omega)
 have h0:uH "Walk" cY [some (.sh (.lst (row.map .int))),none,none] = .ok (PG.wk PG.st0):=by unfold uH; rw [Iv]
 have h1:oa 2 (oe "Walk" "take" gp [.t 1 eQ,.e (au 0)]) [some (.sh (.lst (row.map .int))),some (.tr false (PG.wk PG.st0)),none] = .nx [some (.sh (.lst (row.map .int))),some (.tr false (PG.wk (PG.tk PG.st0 row).1)),some (.sh (.int (PG.tk PG.st0 row).2))]:=by
  have ha:mQ (.t 1 eQ) [some (.sh (.lst (row.map .int))),some (.tr false (PG.wk PG.st0)),none] = some (.tr true (PG.wk PG.st0)):=by simp [mQ,eQ]
  have ha2:mQ (.e (au 0)) [some (.sh (.lst (row.map .int))),some (.tr false (PG.wk PG.st0)),none] = some (.sh (.lst (row.map .int))):=by simp [mQ]
  have hr:recv "Walk" "take" (some (.tr true (PG.wk PG.st0))) = true:=by rw [xl]; simp [recv,aM]
  unfold oa
  simp only [oe,ha,hr,if_true,vL,lY,ha2,Option.bind_some,Option.map_some,ht]
  simp [gU,lW,eQ,nio]
 have h2:mx "Walk" "is_whole" cZ [.b 1 eQ] [some (.sh (.lst (row.map .int))),some (.tr false (PG.wk (PG.tk PG.st0 row).1)),some (.sh (.int (PG.tk PG.st0 row).2))] = .ok (.sh (.bl ((PG.tk PG.st0 row).1.all PG.loose))):=by
  have ha:mQ (.b 1 eQ) [some (.sh (.lst (row.map .int))),some (.tr false (PG.wk (PG.tk PG.st0 row).1)),some (.sh (.int (PG.tk PG.st0 row).2))] = some (.bo (PG.wk (PG.tk PG.st0 row).1)):=by
   simp only [mQ]
   rw [yw (s:=.tr false (PG.wk (PG.tk PG.st0 row).1)) rfl rfl]
   rfl
  have hr:recv "Walk" "is_whole" (some (.bo (PG.wk (PG.tk PG.st0 row).1))) = true:=by rw [xl]; simp [recv,aM]
  simp only [mx,ha,hr,if_true,v3,lY,Option.bind_some,Option.map_some,hw]
 unfold PG.flt
 have hd:o5 1 (uH "Walk" cY) [some (.sh (.lst (row.map .int))),none,none] = .nx [some (.sh (.lst (row.map .int))),some (.tr false (PG.wk PG.st0)),none]:=by
  unfold o5; rw [h0]; rfl
 simp -implicitDefEqProofs only [lF,xp,og,sj,List.map_cons,List.map_nil,List.length_cons,List.length_nil,List.cons_append,List.nil_append,List.replicate,lh,hd,jl,uW,h1,u0,CG,D3,Dv,FZ,v5,List.getElem?_cons_succ,List.getElem?_cons_zero,Dj,oF,BL,h2]
 by_cases e:(PG.tk PG.st0 row).2 = row.length
 . cases e2:(PG.tk PG.st0 row).1.all PG.loose <;> simp [e,qH,ofO]
 . have e3:¬ ((PG.tk PG.st0 row).2:Int) = (row.length:Int):=by omega
   simp [e,e3,qH,ofO]
theorem Bx (row:List Int) (hl:8 * row.length + 20 < 100000):dH [.lst (row.map .int)] = match PG.flt row with
  | some k=>.exc "Fault" [("at",.int k)]
  | none=>.ok (.sh .non):=by
 have h:=DE row hl
 cases e:PG.flt row with
 | none=>rw [e] at h; simp -implicitDefEqProofs [ib,dH,h,ofO,cz]
 | some k=>rw [e] at h; simp -implicitDefEqProofs [ib,dH,h,ofO,cz]
theorem zy (xs ys zs:List Int):uq ((xs ++ ys ++ zs).map PV.int) (some (xs.length:Int)) (some ((xs.length:Int) + ys.length)) = ys.map .int:=by
 have e1:vg ((xs ++ ys ++ zs).map PV.int).length 0 (some (xs.length:Int)) = xs.length:=by
  unfold vg
  dsimp only
  rw [if_neg (by omega)]
  simp
 have e2:vg ((xs ++ ys ++ zs).map PV.int).length ((xs ++ ys ++ zs).map PV.int).length (some ((xs.length:Int) + ys.length)) = xs.length + ys.length:=by
  unfold vg
  dsimp only
  rw [if_neg (by omega)]
  simp
  omega
 unfold uq
 rw [e1,e2,<- List.map_drop,<- List.map_take,List.append_assoc,List.drop_left]
 congr 1
 rw [Nat.add_sub_cancel_left]
 simp
theorem jR {l:List Int} {xs ys:List Int} {x:Int} (h:l = xs ++ x ::ys) {i:Int} (hi:i = xs.length):atP (l.map PV.int) i = some (.int x):=by
 rw [hi,lz,List.getElem?_map,h]; simp
theorem vE {b w:Int} (h:PG.dN b = some w):er [.int b] = .ok (.sh (.int w)):=by rw [n6,h]
theorem x9 {signs pre post:List Int} {a b c d:Int} {i:Int} (hs:signs = pre ++ 92 ::117 ::a ::b ::c ::d ::post) (hi:i = pre.length) (ha:(PG.dN a).isSome = true) (hb:(PG.dN b).isSome = true) (hc:(PG.dN c).isSome = true) (hd:(PG.dN d).isSome = true):
  kZ [.lst (signs.map .int),.int i] = .ok (.sh (.int (PG.cod a b c d))):=by
 obtain ⟨w1,f1⟩:=PG.some_of ha
 obtain ⟨w2,f2⟩:=PG.some_of hb
 obtain ⟨w3,f3⟩:=PG.some_of hc
 obtain ⟨w4,f4⟩:=PG.some_of hd
 have hcut:uq (signs.map PV.int) (some (i + 2)) (some (i + 6)) = [.int a,.int b,.int c,.int d]:=by
  have e:signs = (pre ++ [92,117]) ++ [a,b,c,d] ++ post:=by rw [hs]; simp
  have:=zy (pre ++ [92,117]) [a,b,c,d] post
  rw [<- e] at this
  have e1:((pre ++ [92,117]:List Int).length:Int) = i + 2:=by rw [hi]; simp
  have e2:i + 2 + (([a,b,c,d]:List Int).length:Int) = i + 6:=by simp; omega
  rw [e1,e2] at this
  exact this
 have hm:∀ x:Int,(2:Int) ^ 64 = 18446744073709551616:=fun _=>by decide
 simp -implicitDefEqProofs [xq,wG,xm,pN,kZ,hcut,vE f1,vE f2,vE f3,vE f4,PG.cod,PG.gu f1,PG.gu f2,PG.gu f3,PG.gu f4]
theorem EL {a b c d:Int} (ha:(PG.dN a).isSome = true) (hb:(PG.dN b).isSome = true) (hc:(PG.dN c).isSome = true) (hd:(PG.dN d).isSome = true):0 <= PG.cod a b c d /\ PG.cod a b c d < 65536:=by
 obtain ⟨w1,f1⟩:=PG.some_of ha
 obtain ⟨w2,f2⟩:=PG.some_of hb
 obtain ⟨w3,f3⟩:=PG.some_of hc
 obtain ⟨w4,f4⟩:=PG.some_of hd
 have:=PG.eM f1
 have:=PG.eM f2
 have:=PG.eM f3
 have:=PG.eM f4
 simp only [PG.cod,PG.gu f1,PG.gu f2,PG.gu f3,PG.gu f4]
 omega
theorem Es {c p:Int} (h:(c,p) ∈ PG.shP):bu [.int c] = .ok (.sh (.int p)) /\ c ≠ 117:=by
 simp only [PG.shP,List.mem_cons,Prod.mk.injEq,List.not_mem_nil,or_false] at h
 rcases h with h | h | h | h | h | h | h | h <;> (obtain ⟨rfl,rfl⟩:=h; exact ⟨by simp -implicitDefEqProofs [bO,bu,gT,List.lookup],by decide⟩)
theorem A1 (s:PG.Sg) (h:PG.Sok s) {signs pre post:List Int} (hs:signs = pre ++ (PG.pts s ++ post)):
  dO [.lst (signs.map .int),.int (pre.length:Int)] = .ok (.sh (.int ((PG.pts s).length:Int))) /\ dM [.lst (signs.map .int),.int (pre.length:Int),.int ((PG.pts s).length:Int)] = .ok (.sh (.int (PG.rV s))):=by
 cases s with
 | pl p=>
   obtain ⟨h1,h2,h3,h4⟩:=h
   have ha:atP (signs.map PV.int) (pre.length:Int) = some (.int p):=jR (xs:=pre) (ys:=post) hs rfl
   exact ⟨by simp -implicitDefEqProofs [gN,gO,gM,gv,dO,ha,h4,PG.pts],by simp -implicitDefEqProofs [iq,g9,iu,gz,dM,ha,PG.pts,PG.rV]⟩
 | sh c p=>
   obtain ⟨h1,h2⟩:=Es h
   have ha:atP (signs.map PV.int) (pre.length:Int) = some (.int 92):=jR (xs:=pre) (ys:=c ::post) hs rfl
   have hb:atP (signs.map PV.int) ((pre.length:Int) + 1) = some (.int c):=jR (xs:=pre ++ [92]) (ys:=post) (by rw [hs]; simp [PG.pts]) (by simp)
   exact ⟨by simp -implicitDefEqProofs [gN,gO,gM,gv,dO,ha,hb,h2,PG.pts],by simp -implicitDefEqProofs [iq,g9,iu,gz,dM,hb,h1,PG.pts,PG.rV]⟩
 | hx a b c d=>
   obtain ⟨ha,hb,hc,hd,hn⟩:=h
   have e1:atP (signs.map PV.int) (pre.length:Int) = some (.int 92):=jR (xs:=pre) (ys:=117 ::a ::b ::c ::d ::post) hs rfl
   have e2:atP (signs.map PV.int) ((pre.length:Int) + 1) = some (.int 117):=jR (xs:=pre ++ [92]) (ys:=a ::b ::c ::d ::post) (by rw [hs]; simp [PG.pts]) (by simp)
   have e3:=x9 (signs:=signs) (pre:=pre) (post:=post) (i:=pre.length) (by rw [hs]; simp [PG.pts]) rfl ha hb hc hd
   refine ⟨?_,by simp -implicitDefEqProofs [iq,g9,iu,gz,dM,e3,PG.pts,PG.rV]⟩
   by_cases h1:55296 <= PG.cod a b c d
   . have h2:¬ PG.cod a b c d <= 57343:=fun z=>hn ⟨h1,z⟩
     simp -implicitDefEqProofs [gN,gO,gM,gv,dO,e1,e2,e3,PG.pts,h1,h2]
   . simp -implicitDefEqProofs [gN,gO,gM,gv,dO,e1,e2,e3,PG.pts,h1]
 | pr a b c d e f g h'=>
   obtain ⟨⟨f1,b8,b12,hb,hc,hd⟩,f5,hf12,hf,hg,hh⟩:=h
   have ha:(PG.dN a).isSome = true:=by rw [f1]; rfl
   have he:(PG.dN e).isSome = true:=by rw [f5]; rfl
   have e1:atP (signs.map PV.int) (pre.length:Int) = some (.int 92):=jR (xs:=pre) (ys:=117 ::a ::b ::c ::d ::92 ::117 ::e ::f ::g ::h' ::post) hs rfl
   have e2:atP (signs.map PV.int) ((pre.length:Int) + 1) = some (.int 117):=jR (xs:=pre ++ [92]) (ys:=a ::b ::c ::d ::92 ::117 ::e ::f ::g ::h' ::post) (by rw [hs]; simp [PG.pts]) (by simp)
   have e3:=x9 (signs:=signs) (pre:=pre) (post:=92 ::117 ::e ::f ::g ::h' ::post) (i:=pre.length) (by rw [hs]; simp [PG.pts]) rfl ha hb hc hd
   have e4:=x9 (signs:=signs) (pre:=pre ++ [92,117,a,b,c,d]) (post:=post) (i:=(pre.length:Int) + 6) (by rw [hs]; simp [PG.pts]) (by simp) he hf hg hh
   have hr:55296 <= PG.cod a b c d /\ PG.cod a b c d <= 57343:=by
    obtain ⟨w2,g2⟩:=PG.some_of hb
    obtain ⟨w3,g3⟩:=PG.some_of hc
    obtain ⟨w4,g4⟩:=PG.some_of hd
    have:=PG.eM g2
    have:=PG.eM g3
    have:=PG.eM g4
    rw [PG.gu g2] at b8 b12
    simp only [PG.cod,PG.gu f1,PG.gu g2,PG.gu g3,PG.gu g4]
    omega
   have hc2:=EL he hf hg hh
   refine ⟨by simp -implicitDefEqProofs [gN,gO,gM,gv,dO,e1,e2,e3,PG.pts,hr.1,hr.2],?_⟩
   simp -implicitDefEqProofs [iq,g9,iu,gz,dM,e3,e4,PG.pts,PG.rV]
theorem Dz (s:PG.Sg):0 < (PG.pts s).length:=by cases s <;> simp [PG.pts]
theorem vZ (ss:List PG.Sg) (signs:List Int):∀ (pre found:List Int) (n:Nat) (z:Option Sl),(∀ s ∈ ss,PG.Sok s) -> signs = pre ++ ss.flatMap PG.pts -> found.length + ss.length <= 100000 -> ss.length < n ->
  ∃ z',b7 eO fY n [some (.sh (.lst (signs.map .int))),some (.ow (found.map .int)),some (.sh (.int (pre.length:Int))),z] = .nx [some (.sh (.lst (signs.map .int))),some (.ow ((found ++ ss.map PG.rV).map .int)),some (.sh (.int (signs.length:Int))),z']:=by
 induction ss with
 | nil=>
   intro pre found n z _ hs _ hn
   obtain ⟨m,rfl⟩:∃ m,n = m + 1:=⟨n - 1,by simp at hn; omega⟩
   have e:signs = pre:=by simpa using hs
   subst e
   exact ⟨z,by simp [b7,eO]⟩
 | cons s ss ih=>
   intro pre found n z hok hs hl hn
   simp only [List.length_cons] at hl hn
   obtain ⟨m,rfl⟩:∃ m,n = m + 1:=⟨n - 1,by omega⟩
   have hs':signs = pre ++ (PG.pts s ++ ss.flatMap PG.pts):=by rw [hs,List.flatMap_cons]
   obtain ⟨t1,t2⟩:=A1 s (hok s List.mem_cons_self) hs'
   have hlt:pre.length < signs.length:=by rw [hs']; have:=Dz s; simp; omega
   have hc:eO [some (.sh (.lst (signs.map .int))),some (.ow (found.map .int)),some (.sh (.int (pre.length:Int))),z] = .ok true:=by simp [eO,hlt]
   have hfl:found.length < lim:=sM (by omega)
   have hb:fY [some (.sh (.lst (signs.map .int))),some (.ow (found.map .int)),some (.sh (.int (pre.length:Int))),z] = .nx [some (.sh (.lst (signs.map .int))),some (.ow ((found ++ [PG.rV s]).map .int)),some (.sh (.int ((pre ++ PG.pts s).length:Int))),some (.sh (.int ((PG.pts s).length:Int)))]:=by
    simp -implicitDefEqProofs [fY,t1,t2,hfl]
   obtain ⟨z',h⟩:=ih (pre ++ PG.pts s) (found ++ [PG.rV s]) m (some (.sh (.int ((PG.pts s).length:Int)))) (fun x hx=>hok x (List.mem_cons_of_mem _ hx)) (by rw [hs']; simp) (by simp; omega) (by omega)
   refine ⟨z',?_⟩
   simp only [b7,hc,fJ,if_true,hb,iQ,h]
   simp
theorem Ba (ss:List PG.Sg) (hok:∀ s ∈ ss,PG.Sok s) (hl:ss.length <= 90000):cT [.lst ((ss.flatMap PG.pts).map .int)] = .ok (.fr ((ss.map PG.rV).map .int)):=by
 obtain ⟨z',h⟩:=vZ ss (ss.flatMap PG.pts) [] [] fuel none hok (by simp) (by simp; omega) (by unfold fuel; omega)
 simp only [List.map_nil,List.nil_append,List.length_nil,Int.ofNat_zero,Int.cast_ofNat_Int] at h
 generalize ss.flatMap PG.pts = signs at *
 simp -implicitDefEqProofs only [cT,gW,xp,og,List.map_cons,List.map_nil,List.length_cons,List.length_nil,List.replicate,List.cons_append,List.nil_append,lh,vv,Gx,yK,q9,iT,IU]
 simp -implicitDefEqProofs [iT,kH,h,kD]
theorem Bv (ss:List PG.Sg):ss.length <= (PG.inner ss).length:=by
 induction ss with
 | nil=>simp
 | cons s ss ih=>
   have:0 < (PG.kM s).length:=by
    have h8:∀ p:Int,0 < (PG.aQ p).length:=fun p=>by unfold PG.aQ; repeat' split
                                                    all_goals simp
    cases s with
    | pl p=>show 0 < (PG.aQ p ++ []).length; rw [List.append_nil]; exact h8 p
    | sh c p=>show 0 < (PG.aQ 92 ++ _).length; rw [List.length_append]; have:=h8 92; omega
    | hx a b c d=>show 0 < (PG.aQ 92 ++ _).length; rw [List.length_append]; have:=h8 92; omega
    | pr a b c d e f g h=>show 0 < (PG.aQ 92 ++ _).length; rw [List.length_append]; have:=h8 92; omega
   show _ <= (PG.kM s ++ PG.inner ss).length
   rw [List.length_append,List.length_cons]
   omega
theorem vX (ss:List PG.Sg) (hok:∀ s ∈ ss,PG.Sok s) (row pre post:List Int) (tree:List PV) (k:Int) (nm:String) (n:Int) (hr:row = pre ++ 34 ::(PG.inner ss ++ 34 ::post)) (hl:row.length <= 500) (hn:nm = "text" \/ nm = "name")
  (ht:atP tree k = some (.tup [.str (Str.ofString nm),.int pre.length,.int ((pre.length:Int) + (PG.inner ss).length + 2),.int n])):fZ [.lst (row.map .int),.lst tree,.int k] = .ok (.fr ((ss.map PG.rV).map .int)):=by
 have hcut:uq (row.map PV.int) (some ((pre.length:Int) + 1)) (some ((pre.length:Int) + (PG.inner ss).length + 2 - 1)) = (PG.inner ss).map .int:=by
  have e:row = (pre ++ [34]) ++ PG.inner ss ++ (34 ::post):=by rw [hr]; simp
  have:=zy (pre ++ [34]) (PG.inner ss) (34 ::post)
  rw [<- e] at this
  have e1:((pre ++ [34]:List Int).length:Int) = (pre.length:Int) + 1:=by simp
  have e2:(pre.length:Int) + 1 + ((PG.inner ss).length:Int) = (pre.length:Int) + (PG.inner ss).length + 2 - 1:=by omega
  rw [e1,e2] at this
  exact this
 have hin:(PG.inner ss).length <= 500:=by rw [hr] at hl; simp at hl; omega
 obtain ⟨p1,_⟩:=C6 (PG.inner ss) hin
 have hfa:PG.eH [] 0 (PG.inner ss) = -1:=by rw [PG.tG]; exact PG.yT _ (PG.zO ss hok) 0
 obtain ⟨L,hL,hLf,hp⟩:=p1 hfa
 have hLe:L = ss.flatMap PG.pts:=PG.xR hL (PG.zO ss hok) (by rw [hLf,PG.tG])
 rw [hLe] at hp
 have hsl:ss.length <= 90000:=by
  have h1:=Bv ss
  omega
 have hw:=Ba ss hok hsl
 rcases hn with rfl | rfl <;> simp -implicitDefEqProofs [qX,qD,lA,fZ,ht,oq,fO,cg,hcut,hp,hw]
theorem BF {m:Nat} (h:m <= 90000):m < fuel:=by unfold fuel; omega
theorem Eu (row:List Int) (a:Option Sl) {body:List Int} (hb:PG.Skp body):∀ (pre post:List Int) (n:Nat),row = pre ++ (body ++ 34 ::post) -> body.length < n ->
  b7 fD iP n [some (.sh (.lst (row.map .int))),a,some (.sh (.int (pre.length:Int)))] = .nx [some (.sh (.lst (row.map .int))),a,some (.sh (.int ((pre.length:Int) + body.length)))]:=by
 induction hb with
 | nil=>
   intro pre post n hr hn
   obtain ⟨m,rfl⟩:∃ m,n = m + 1:=⟨n - 1,by simp at hn; omega⟩
   have ha:atP (row.map PV.int) (pre.length:Int) = some (.int 34):=jR (xs:=pre) (ys:=post) hr rfl
   have hc:fD [some (.sh (.lst (row.map .int))),a,some (.sh (.int (pre.length:Int)))] = .ok false:=by simp [fD,ha]
   simp [b7,hc]
 | @one b r h1 h2 _ ih=>
   intro pre post n hr hn
   obtain ⟨m,rfl⟩:∃ m,n = m + 1:=⟨n - 1,by simp at hn; omega⟩
   have ha:atP (row.map PV.int) (pre.length:Int) = some (.int b):=jR (xs:=pre) (ys:=r ++ 34 ::post) (by rw [hr]; simp) rfl
   have hc:fD [some (.sh (.lst (row.map .int))),a,some (.sh (.int (pre.length:Int)))] = .ok true:=by simp [fD,ha,h1]
   have hb:iP [some (.sh (.lst (row.map .int))),a,some (.sh (.int (pre.length:Int)))] = .nx [some (.sh (.lst (row.map .int))),a,some (.sh (.int ((pre ++ [b]).length:Int)))]:=by simp [iP,ha,h2]
   have:=ih (pre ++ [b]) post m (by rw [hr]; simp) (by simp at hn; omega)
   simp only [b7,hc,fJ,if_true,hb,iQ,this]
   congr 6
   simp
   omega
 | @two c r _ ih=>
   intro pre post n hr hn
   obtain ⟨m,rfl⟩:∃ m,n = m + 1:=⟨n - 1,by simp at hn; omega⟩
   have ha:atP (row.map PV.int) (pre.length:Int) = some (.int 92):=jR (xs:=pre) (ys:=c ::(r ++ 34 ::post)) (by rw [hr]; simp) rfl
   have hc:fD [some (.sh (.lst (row.map .int))),a,some (.sh (.int (pre.length:Int)))] = .ok true:=by simp [fD,ha]
   have hb:iP [some (.sh (.lst (row.map .int))),a,some (.sh (.int (pre.length:Int)))] = .nx [some (.sh (.lst (row.map .int))),a,some (.sh (.int ((pre ++ [92,c]).length:Int)))]:=by simp [iP,ha]
   have:=ih (pre ++ [92,c]) post m (by rw [hr]; simp) (by simp at hn; omega)
   simp only [b7,hc,fJ,if_true,hb,iQ,this]
   congr 6
   simp
   omega
theorem Aw (row pre post body:List Int) (hb:PG.Skp body) (hr:row = pre ++ 34 ::(body ++ 34 ::post)) (hl:row.length <= 90000):iG [.lst (row.map .int),.int pre.length] = .ok (.sh (.int ((pre.length:Int) + body.length + 2))):=by
 have h:=Eu row (some (.sh (.int pre.length))) hb (pre ++ [34]) post fuel (by rw [hr]; simp) (BF (by rw [hr] at hl; simp at hl; omega))
 have e1:((pre ++ [34]:List Int).length:Int) = (pre.length:Int) + 1:=by simp
 rw [e1] at h
 have e2:(pre.length:Int) + 1 + (body.length:Int) + 1 = (pre.length:Int) + body.length + 2:=by omega
 simp -implicitDefEqProofs [pR,qo,ni,iG,h,e2]
theorem ud (row:List Int):gd [.lst (row.map .int),.int (row.length:Int)] = .ok (.sh (.bl false)):=by
 have hc:kh [some (.sh (.lst (row.map .int))),some (.sh (.int (row.length:Int)))] = .ok false:=by simp [kh]
 obtain ⟨n,hn⟩:∃ n,fuel = n + 1:=⟨99999,rfl⟩
 simp -implicitDefEqProofs [mw,gd,hn,b7,hc]
theorem qw (row pre post:List Int) (b:Int) (hr:row = pre ++ b ::post) (hw:PG.wht b = false):gd [.lst (row.map .int),.int (pre.length:Int)] = .ok (.sh (.bl (decide (b = 58)))):=by
 have ha:atP (row.map PV.int) (pre.length:Int) = some (.int b):=jR (xs:=pre) (ys:=post) hr rfl
 have hl:pre.length < row.length:=by rw [hr]; simp
 have hc:kh [some (.sh (.lst (row.map .int))),some (.sh (.int (pre.length:Int)))] = .ok false:=by simp [kh,ha,jS,hw]
 obtain ⟨n,hn⟩:∃ n,fuel = n + 1:=⟨99999,rfl⟩
 simp -implicitDefEqProofs [mw,gd,hn,b7,hc,ha,hl]
theorem nY (row pre post:List Int) (ss:List PG.Sg) (hok:∀ s ∈ ss,PG.Sok s) (i:Int) (nm:Bool) (hr:row = pre ++ (PG.txt ss ++ post)) (hl:row.length <= 90000)
  (hn:gd [.lst (row.map .int),.int ((pre.length:Int) + (PG.inner ss).length + 2)] = .ok (.sh (.bl nm))):mI [.lst (row.map .int),.int pre.length,.int i] = .ok (.sh (.tup [.str (if nm then "name" else "text"),.int pre.length,.int ((pre.length:Int) + (PG.inner ss).length + 2),.int (i + 1)])):=by
 have hr':row = pre ++ 34 ::(PG.inner ss ++ 34 ::post):=by rw [hr]; simp [PG.txt]
 have ha:atP (row.map PV.int) (pre.length:Int) = some (.int 34):=jR (xs:=pre) (ys:=PG.inner ss ++ 34 ::post) hr' rfl
 have hte:=Aw row pre post (PG.inner ss) (PG.A5 ss hok) hr' hl
 cases nm <;> simp -implicitDefEqProofs [xI,wL,wW,vq,mI,ha,mz,List.lookup,gNe,eqS,hte,hn]
theorem Cf {xs:List PV} {x:PV}:atP (xs ++ [x]) (-1) = some x:=by
 unfold atP
 rw [show (xs ++ [x]).length = xs.length + 1 by simp,GY]
 simp
noncomputable abbrev NS0 (row:List Int) (tree:List PV) (un:List OV) (p:Int) (b i:Option Sl):ag:=[some (.sh (.lst (row.map .int))),some (.ow tree),some (.tr false (.ol un)),some (.sh (.int p)),b,i]
theorem qP {row:List Int} {tree:List PV} {un:List OV} {p e n:Int} {b:Int} {x y:Option Sl} {nm:Str} (ha:atP (row.map PV.int) p = some (.int b)) (h1:b ≠ 91) (h2:b ≠ 123) (h3:b ≠ 93) (h4:b ≠ 125) (h5:PG.wht b = false) (h6:b ≠ 44) (h7:b ≠ 58) (ht:tree.length <= 90000)
  (hleaf:mI [.lst (row.map .int),.int p,.int tree.length] = .ok (.sh (.tup [.str nm,.int p,.int e,.int n]))):
  cW (NS0 row tree un p x y) = .nx (NS0 row (tree ++ [.tup [.str nm,.int p,.int e,.int n]]) un e (some (.sh (.int b))) y):=by
 have hl:tree.length < lim:=sM (by omega)
 have z:∀ k:Int,b ≠ k -> (k == b) = false:=fun k h=>by simpa using fun q=>h q.symm
 have hlast:=Cf (xs:=tree) (x:=.tup [.str nm,.int p,.int e,.int n])
 simp -implicitDefEqProofs [cW,ha,gIn,fO,cg,jN,z _ h1,z _ h2,z _ h3,z _ h4,z _ h6,z _ h7,jS,h5,hleaf,hl,hlast]
theorem qk (row:List Int) (tree:List PV) (un:List OV) (p:Int) (b i:Option Sl):iL (NS0 row tree un p b i) = .ok (decide (p < row.length)):=by
 simp [iL]
theorem uG (row:List Int) (tree:List PV) (p:Int) (b i:Option Sl) (ys:List PV) (hf:PG.flt row = none) (hl:8 * row.length + 20 < 100000) (ht:tree.length <= 90000)
  (hw:b7 iL cW fuel (NS0 row [] [] 0 none none) = .nx (NS0 row tree [] p b i)) (hy:dA ou [some (.sh (.lst tree))] (dQ tree.length) = .ok ys) (hyl:ys.length = tree.length):iH [.lst (row.map .int)] = .ok (.fr ys):=by
 have hr:=Bx row hl
 rw [hf] at hr
 have hlim:tree.length <= lim:=iV (by omega)
 have hb:-4611686018427387904 <= (tree.length:Int) /\ (tree.length:Int) < 4611686018427387904:=by omega
 have e5:qM (NS0 row tree [] p b i) = .rt [some (.sh (.lst (row.map .int))),some (.sh (.lst tree)),some (.tr false (.ol [])),some (.sh (.int p)),b,i] (.fr ys):=by
  have hfz:kb 1 (NS0 row tree [] p b i) = [some (.sh (.lst (row.map .int))),some (.sh (.lst tree)),some (.tr false (.ol [])),some (.sh (.int p)),b,i]:=rfl
  simp -implicitDefEqProofs [qM,hfz,dP,hb,hy,hyl,hlim]
 have e2:qC [some (.sh (.lst (row.map .int))),some (.ow []),none,none,none,none] = .rt [some (.sh (.lst (row.map .int))),some (.sh (.lst tree)),some (.tr false (.ol [])),some (.sh (.int p)),b,i] (.fr ys):=by
  have hsd:o5 2 (mD (cV aN)) [some (.sh (.lst (row.map .int))),some (.ow []),none,none,none,none] = .nx [some (.sh (.lst (row.map .int))),some (.ow []),some (.tr false (.ol [])),none,none,none]:=by simp [o5,mD]
  simp -implicitDefEqProofs only [qC,lh,hsd,jl,u1,vv,HS,jT,EO,List.set_cons_succ,List.set_cons_zero,uF,hw,e5]
 simp -implicitDefEqProofs [iH,p0,hr,uP,e2]
theorem xg (ss:List PG.Sg) (hok:∀ s ∈ ss,PG.Sok s) (hl:(PG.txt ss).length <= 10000):iH [.lst ((PG.txt ss).map .int)] = .ok (.fr [.tup [.str "text",.int 0,.int ((PG.inner ss).length + 2),.int 1]]):=by
 have hlen:((PG.txt ss).length:Int) = ((PG.inner ss).length:Int) + 2:=by simp [PG.txt]; omega
 have hleaf:=nY (PG.txt ss) [] [] ss hok 0 false (by simp) (by omega) (by have:=ud (PG.txt ss); rw [hlen] at this; simpa using this)
 simp only [List.length_nil,Int.ofNat_zero,Int.cast_ofNat_Int,Int.zero_add,Bool.false_eq_true,if_false] at hleaf
 have ha:atP ((PG.txt ss).map PV.int) 0 = some (.int 34):=jR (xs:=[]) (ys:=PG.inner ss ++ [34]) rfl rfl
 have ht:=qP (row:=PG.txt ss) (tree:=[]) (un:=[]) (p:=0) (x:=none) (y:=none) ha (by decide) (by decide) (by decide) (by decide) rfl (by decide) (by decide) (by simp) hleaf
 have hw:b7 iL cW fuel (NS0 (PG.txt ss) [] [] 0 none none) = .nx (NS0 (PG.txt ss) [.tup [.str "text",.int 0,.int ((PG.inner ss).length + 2),.int 1]] [] ((PG.inner ss).length + 2) (some (.sh (.int 34))) none):=by
  obtain ⟨n,hn⟩:∃ n,fuel = n + 2:=⟨99998,rfl⟩
  rw [hn]
  have c1:=qk (PG.txt ss) [] [] 0 none none
  have c2:=qk (PG.txt ss) [.tup [.str "text",.int 0,.int ((PG.inner ss).length + 2),.int 1]] [] ((PG.inner ss).length + 2) (some (.sh (.int 34))) none
  rw [show decide ((0:Int) < (PG.txt ss).length) = true by rw [hlen]; simp; omega] at c1
  rw [show decide ((((PG.inner ss).length:Int) + 2) < (PG.txt ss).length) = false by rw [hlen]; simp] at c2
  simp only [List.nil_append] at ht
  simp only [b7,c1,fJ,if_true,ht,iQ,c2,Bool.false_eq_true,if_false]
 refine uG (PG.txt ss) _ _ _ _ _ (PG.EW ss hok) (by omega) (by simp) hw ?_ rfl
 simp -implicitDefEqProofs [dQ,List.range,List.range.loop,dA,ou,kB,kq,i0,eX,gNe,eqS,aM]
theorem yh {row:List Int} {tree:List PV} {un:List OV} {p:Int} {x y:Option Sl} (k:Bool) (ha:atP (row.map PV.int) p = some (.int (if k then 123 else 91))) (ht:tree.length <= 90000) (hu:un.length <= 90000):
  cW (NS0 row tree un p x y) = .nx (NS0 row (tree ++ [.tup [.str (if k then "fields" else "row"),.int p]]) (un ++ [.sh (.int (tree.length:Int))]) (p + 1) (some (.sh (.int (if k then 123 else 91)))) y):=by
 have h1:nR 2 eQ (mD (mUn ng (au 1))) [some (.sh (.lst (row.map .int))),some (.ow tree),some (.tr false (.ol un)),some (.sh (.int p)),some (.sh (.int (if k then 123 else 91))),y] = .nx [some (.sh (.lst (row.map .int))),some (.ow tree),some (.tr false (.ol (un ++ [.sh (.int (tree.length:Int))]))),some (.sh (.int p)),some (.sh (.int (if k then 123 else 91))),y]:=by
  refine xX (ts:=un) (io:=false) rfl ?_ (sM (by omega))
  simp [mD]
 have hl:tree.length < lim:=sM (by omega)
 cases k <;> simp only [if_true,Bool.false_eq_true,if_false] at ha h1 ⊢ <;>
  simp -implicitDefEqProofs [cW,ha,gIn,fO,cg,jN,h1,zp,List.lookup,hl]
theorem yc {row:List Int} {tree:List PV} {un:List OV} {p b:Int} {x y:Option Sl} (ha:atP (row.map PV.int) p = some (.int b)) (hb:PG.wht b = true \/ b = 44 \/ b = 58):
  cW (NS0 row tree un p x y) = .nx (NS0 row tree un (p + 1) (some (.sh (.int b))) y):=by
 rcases hb with h | rfl | rfl
 . have hc:b = 9 \/ b = 10 \/ b = 13 \/ b = 32:=by
    unfold PG.wht at h
    simp only [Bool.or_eq_true,decide_eq_true_eq] at h
    omega
   rcases hc with rfl | rfl | rfl | rfl <;> simp -implicitDefEqProofs [cW,ha,gIn,fO,cg,jN,jS,PG.wht]
 . have hw:PG.wht 44 = false:=rfl
   simp -implicitDefEqProofs [cW,ha,gIn,fO,cg,jN,jS,hw]
 . have hw:PG.wht 58 = false:=rfl
   simp -implicitDefEqProofs [cW,ha,gIn,fO,cg,jN,jS,hw]
theorem xY {row:List Int} {tree:List PV} {un:List OV} {p a:Int} {j:Nat} {x y:Option Sl} {nm:Str} {rest:List PV} (k:Bool) (ha:atP (row.map PV.int) p = some (.int (if k then 125 else 93))) (he:tree[j]? = some (.tup (.str nm ::.int a ::rest))):
  cW (NS0 row tree (un ++ [.sh (.int (j:Int))]) p x y) = .nx (NS0 row (tree.set j (.tup [.str nm,.int a,.int (p + 1),.int (tree.length:Int)])) un (p + 1) (some (.sh (.int (if k then 125 else 93)))) (some (.sh (.int (j:Int))))):=by
 have h1:∀ u v z w,oa 5 (oX 2 eQ) [u,v,some (.tr false (.ol (un ++ [.sh (.int (j:Int))]))),z,w,y] = .nx [u,v,some (.tr false (.ol un)),z,w,some (.sh (.int (j:Int)))]:=by
  intro u v z w
  unfold oa
  rw [Bu (ts:=un) (x:=.sh (.int (j:Int))) (io:=false) rfl]
  rfl
 have hj:j < tree.length:=(List.getElem?_eq_some_iff.mp he).1
 have hat:atP tree (j:Int) = some (.tup (.str nm ::.int a ::rest)):=by rw [lz,he]
 have hix:ixP tree.length (j:Int) = some j:=DS _ _ hj
 cases k <;> simp only [if_true,Bool.false_eq_true,if_false] at ha ⊢ <;>
  simp -implicitDefEqProofs [cW,ha,gIn,fO,cg,jN,h1,hat,hix]
theorem tw {row:List Int} {tree:List PV} {un:List OV} {p:Int} {x y:Option Sl} {n:Nat} {s:ag} (h:p < row.length) (ht:cW (NS0 row tree un p x y) = .nx s):b7 iL cW (n + 1) (NS0 row tree un p x y) = b7 iL cW n s:=by
 have hc:=qk row tree un p x y
 rw [show decide (p < (row.length:Int)) = true by simpa using h] at hc
 simp only [b7,hc,fJ,if_true,ht,iQ]
theorem IY {row:List Int} {tree:List PV} {un:List OV} {p:Int} {x y:Option Sl} {n:Nat} (h:¬ p < row.length):b7 iL cW (n + 1) (NS0 row tree un p x y) = .nx (NS0 row tree un p x y):=by
 have hc:=qk row tree un p x y
 rw [show decide (p < (row.length:Int)) = false by simpa using h] at hc
 simp only [b7,hc,fJ,Bool.false_eq_true,if_false]
noncomputable def fgB (big:Bool) (w:Int):Int:=if w < 10 then 48 + w else (if big then 55 else 87) + w
noncomputable def zx (n:Int) (big:Bool):PG.Sg:=.hx (fgB big (n / 16 / 16 / 16 % 16)) (fgB big (n / 16 / 16 % 16)) (fgB big (n / 16 % 16)) (fgB big (n % 16))
noncomputable def rR:List (Int × Int):=[(34,34),(92,92),(47,47),(8,98),(12,102),(10,110),(13,114),(9,116)]
noncomputable def DM (n m:Int) (b1 b2:Bool):PG.Sg:=.pr (fgB b1 (n / 16 / 16 / 16 % 16)) (fgB b1 (n / 16 / 16 % 16)) (fgB b1 (n / 16 % 16)) (fgB b1 (n % 16)) (fgB b2 (m / 16 / 16 / 16 % 16)) (fgB b2 (m / 16 / 16 % 16)) (fgB b2 (m / 16 % 16)) (fgB b2 (m % 16))
noncomputable def o7 (p n:Int):PG.Sg:=
 if n % 5 = 0 /\ (rR.lookup p).isSome = true then .sh ((rR.lookup p).getD 0) p
 else if 1 < n % 5 /\ 32 <= p /\ p ≠ 34 /\ p ≠ 92 then .pl p
 else if p < 65536 then zx p (decide (n % 5 = 1))
 else DM (55296 + (p - 65536) / 1024) (56320 + (p - 65536) % 1024) (decide (n % 5 = 1)) (decide (n % 5 = 0))
theorem p8 (big:Bool) {w:Int} (h:0 <= w /\ w < 16):PG.dN (fgB big w) = some w:=by
 unfold fgB PG.dN
 by_cases h1:w < 10
 . rw [if_pos h1,if_pos (by omega)]; congr 1; omega
 . cases big
   . simp only [h1,if_false,Bool.false_eq_true]
     rw [if_neg (by omega),if_neg (by omega),if_pos (by omega)]; congr 1; omega
   . simp only [h1,if_false,if_true]
     rw [if_neg (by omega),if_pos (by omega)]; congr 1; omega
theorem uz {p:Int} (h:(rR.lookup p).isSome = true):((rR.lookup p).getD 0,p) ∈ PG.shP:=by
 unfold rR at h ⊢
 simp only [List.lookup] at h ⊢
 repeat' split
 all_goals first
  | (rename_i e; have e':=eq_of_beq e; subst e'; decide)
  | (simp_all; done)
theorem qe (n:Int) (big:Bool) (h:0 <= n /\ n < 65536):(PG.dN (fgB big (n / 16 / 16 / 16 % 16)) = some (n / 16 / 16 / 16 % 16) /\ PG.dN (fgB big (n / 16 / 16 % 16)) = some (n / 16 / 16 % 16) /\ PG.dN (fgB big (n / 16 % 16)) = some (n / 16 % 16) /\ PG.dN (fgB big (n % 16)) = some (n % 16)) /\
  PG.cod (fgB big (n / 16 / 16 / 16 % 16)) (fgB big (n / 16 / 16 % 16)) (fgB big (n / 16 % 16)) (fgB big (n % 16)) = n:=by
 have e1:=p8 big (w:=n / 16 / 16 / 16 % 16) (by omega)
 have e2:=p8 big (w:=n / 16 / 16 % 16) (by omega)
 have e3:=p8 big (w:=n / 16 % 16) (by omega)
 have e4:=p8 big (w:=n % 16) (by omega)
 refine ⟨⟨e1,e2,e3,e4⟩,?_⟩
 simp only [PG.cod,PG.gu e1,PG.gu e2,PG.gu e3,PG.gu e4]
 omega
theorem qy (p n:Int) (h:PG.fu p = true):PG.Sok (o7 p n) /\ PG.rV (o7 p n) = p:=by
 have hr:=PG.jj h
 have hs:p < 55296 \/ 57343 < p:=by
  unfold PG.fu at h
  simp only [Bool.or_eq_true,Bool.and_eq_true,decide_eq_true_eq] at h
  omega
 unfold o7
 split
 . rename_i c; exact ⟨uz c.2,rfl⟩
 . split
   . rename_i c; exact ⟨⟨h,c.2.1,c.2.2.1,c.2.2.2⟩,rfl⟩
   . split
     . rename_i c
       obtain ⟨⟨e1,e2,e3,e4⟩,ec⟩:=qe p (decide (n % 5 = 1)) (by omega)
       exact ⟨⟨by rw [e1]; rfl,by rw [e2]; rfl,by rw [e3]; rfl,by rw [e4]; rfl,by rw [ec]; omega⟩,ec⟩
     . rename_i c
       obtain ⟨⟨e1,e2,e3,e4⟩,ec⟩:=qe (55296 + (p - 65536) / 1024) (decide (n % 5 = 1)) (by omega)
       obtain ⟨⟨f1,f2,f3,f4⟩,fc⟩:=qe (56320 + (p - 65536) % 1024) (decide (n % 5 = 0)) (by omega)
       have g1:(55296 + (p - 65536) / 1024) / 16 / 16 / 16 % 16 = 13:=by omega
       have g2:(56320 + (p - 65536) % 1024) / 16 / 16 / 16 % 16 = 13:=by omega
       refine ⟨⟨⟨by rw [e1,g1],by rw [PG.gu e2]; omega,by rw [PG.gu e2]; omega,by rw [e2]; rfl,by rw [e3]; rfl,by rw [e4]; rfl⟩,by rw [f1,g2],by rw [PG.gu f2]; omega,by rw [f2]; rfl,by rw [f3]; rfl,by rw [f4]; rfl⟩,?_⟩
       show 65536 + 1024 * (PG.cod _ _ _ _ - 55296) + PG.cod _ _ _ _ - 56320 = p
       rw [ec,fc]
       omega
noncomputable def xy (n:Int) (big:Bool):List Int:=[92,117,fgB big (n / 16 / 16 / 16 % 16),fgB big (n / 16 / 16 % 16),fgB big (n / 16 % 16),fgB big (n % 16)]
theorem qq (n:Int) (big:Bool) (found:List Int) (k:Int) (x:Option Sl) (hl:found.length <= 10):lK [some (.sh (.int n)),some (.sh (.bl big)),some (.ow (found.map .int)),some (.sh (.int k)),x] = .nx [some (.sh (.int (n / 16))),some (.sh (.bl big)),some (.ow ((fgB big (n % 16) ::found).map .int)),some (.sh (.int k)),some (.sh (.int (n % 16)))]:=by
 have hlim:1 + found.length <= lim:=iV (by omega)
 unfold fgB
 by_cases h:n % 16 < 10
 . simp -implicitDefEqProofs [lK,h,hlim]
 . cases big <;> simp -implicitDefEqProofs [lK,h,hlim]
theorem uS (n:Int) (big:Bool):gQ [.int n,.bl big] = .ok (.fr ((xy n big).map .int)):=by
 have h1:=qq n big [] 0 none (by simp)
 have h2:=qq (n / 16) big [fgB big (n % 16)] 1 (some (.sh (.int (n % 16)))) (by simp)
 have h3:=qq (n / 16 / 16) big [fgB big (n / 16 % 16),fgB big (n % 16)] 2 (some (.sh (.int (n / 16 % 16)))) (by simp)
 have h4:=qq (n / 16 / 16 / 16) big [fgB big (n / 16 / 16 % 16),fgB big (n / 16 % 16),fgB big (n % 16)] 3 (some (.sh (.int (n / 16 / 16 % 16)))) (by simp)
 simp only [List.map_cons,List.map_nil] at h1 h2 h3 h4
 have hr:dQ 4 = [.int 0,.int 1,.int 2,.int 3]:=rfl
 have hb:(-4611686018427387904:Int) <= 4 /\ (4:Int) < 4611686018427387904:=by omega
 simp -implicitDefEqProofs [rG,rq,kP,gQ,hr,h1,h2,h3,h4,xy]
theorem pw (n:Int) (big:Bool) (h:0 <= n /\ n < 65536):PG.kM (zx n big) = xy n big:=by
 obtain ⟨⟨e1,e2,e3,e4⟩,_⟩:=qe n big h
 obtain ⟨g1,g2,g3,g4⟩:=PG.j8 (by rw [e1]; rfl) (by rw [e2]; rfl) (by rw [e3]; rfl) (by rw [e4]; rfl)
 show PG.aQ 92 ++ (PG.aQ 117 ++ (PG.aQ _ ++ (PG.aQ _ ++ (PG.aQ _ ++ (PG.aQ _ ++ []))))) = _
 rw [g1,g2,g3,g4]
 rfl
theorem A2 (n m:Int) (b1 b2:Bool) (h:0 <= n /\ n < 65536) (h':0 <= m /\ m < 65536):PG.kM (DM n m b1 b2) = xy n b1 ++ xy m b2:=by
 rw [<- pw n b1 h,<- pw m b2 h']
 show ([92,117,_,_,_,_,92,117,_,_,_,_]:List Int).flatMap PG.aQ = ([92,117,_,_,_,_]:List Int).flatMap PG.aQ ++ ([92,117,_,_,_,_]:List Int).flatMap PG.aQ
 rw [<- List.flatMap_append]
 rfl
theorem yq (p n:Int) (h:PG.fu p = true):iE [.int p,.int n] = .ok (.fr ((PG.kM (o7 p n)).map .int)):=by
 have hr:=PG.jj h
 have h8:=wD p h
 have hl:(rR.map fun p=>(p.1,PV.int p.2)).lookup p = (rR.lookup p).map .int:=by
  unfold rR
  simp only [List.map,List.lookup]
  repeat' split
  all_goals rfl
 obtain ⟨kv,hkv⟩:∃ kv,kv = rR.map fun p=>(p.1,PV.int p.2):=⟨_,rfl⟩
 rw [<- hkv] at hl
 have hset:o5 2 (F4 [(34,34),(92,92),(47,47),(8,98),(12,102),(10,110),(13,114),(9,116)]) [some (.sh (.int p)),some (.sh (.int n)),none,none,none] = .nx [some (.sh (.int p)),some (.sh (.int n)),some (.tr false (.di kv)),none,none]:=by rw [hkv]; rfl
 have hi:∀ a b c d,subAt 2 eQ [a,b,some (.tr false (.di kv)),c,d] = some (.di kv):=fun a b c d=>by simp [subAt,ky,slT,eQ]
 clear hkv
 have e1:fin (jC [some (.sh (.int p)),some (.sh (.int n)),some (.tr false (.di kv)),none,none]) = .ok (.fr ((PG.kM (o7 p n)).map .int)):=by
  unfold o7
  by_cases c1:n % 5 = 0 /\ (rR.lookup p).isSome = true
  . rw [if_pos c1]
    obtain ⟨c,hc⟩:=Option.isSome_iff_exists.mp c1.2
    have hm:=uz c1.2
    rw [hc] at hm hl ⊢
    have hby:PG.kM (.sh c p) = [92,c]:=by
     simp only [Option.getD_some,PG.shP,List.mem_cons,Prod.mk.injEq,List.not_mem_nil,or_false] at hm
     rcases hm with h | h | h | h | h | h | h | h <;> (obtain ⟨rfl,rfl⟩:=h; rfl)
    simp only [Option.map_some] at hl
    simp -implicitDefEqProofs [jC,mB,c1.1,wK,zW,hi,hl,hby]
  . rw [if_neg c1]
    have hg1:∀ x,nX (aR (mOp gEq (au 3) (mC (.int 0)))) (aR (wK false (au 0) 2 eQ)) [some (.sh (.int p)),some (.sh (.int n)),some (.tr false (.di kv)),some (.sh (.int (n % 5))),x] = .ok false:=fun x=>by
     by_cases z:n % 5 = 0
     . have:rR.lookup p = none:=by
        cases e:rR.lookup p with
        | none=>rfl
        | some c=>exact absurd ⟨z,by rw [e]; rfl⟩ c1
       rw [this] at hl
       simp only [Option.map_none] at hl
       simp -implicitDefEqProofs [z,wK,hi,hl]
     . simp -implicitDefEqProofs [z]
    have e2:fin (fz [some (.sh (.int p)),some (.sh (.int n)),some (.tr false (.di kv)),some (.sh (.int (n % 5))),none]) = .ok (.fr ((PG.kM (if 1 < n % 5 /\ 32 <= p /\ p ≠ 34 /\ p ≠ 92 then .pl p
          else if p < 65536 then zx p (decide (n % 5 = 1)) else DM (55296 + (p - 65536) / 1024) (56320 + (p - 65536) % 1024) (decide (n % 5 = 1)) (decide (n % 5 = 0)))).map .int)):=by
     have e3:fin (kN [some (.sh (.int p)),some (.sh (.int n)),some (.tr false (.di kv)),some (.sh (.int (n % 5))),none]) = .ok (.fr ((PG.kM (if p < 65536 then zx p (decide (n % 5 = 1)) else DM (55296 + (p - 65536) / 1024) (56320 + (p - 65536) % 1024) (decide (n % 5 = 1)) (decide (n % 5 = 0)))).map .int)):=by
      by_cases c3:p < 65536
      . rw [if_pos c3,pw p _ (by omega)]
        simp -implicitDefEqProofs [kN,c3,uS]
      . rw [if_neg c3,A2 _ _ _ _ (by omega) (by omega)]
        have hlim:(xy (55296 + (p - 65536) / 1024) (decide (n % 5 = 1))).length + (xy (56320 + (p - 65536) % 1024) (decide (n % 5 = 0))).length <= lim:=by simp [xy]
        simp -implicitDefEqProofs [kN,c3,qg,qd,uS,hlim]
     by_cases d1:1 < n % 5
     . by_cases d2:32 <= p
       . by_cases d3:p = 34
         . rw [if_neg (fun z=>z.2.2.1 d3)]
           simp -implicitDefEqProofs [fz,d1,d2,d3]
           simpa [d3] using e3
         . by_cases d4:p = 92
           . rw [if_neg (fun z=>z.2.2.2 d4)]
             simp -implicitDefEqProofs [fz,d1,d2,d3,d4]
             simpa [d4] using e3
           . rw [if_pos ⟨d1,d2,d3,d4⟩]
             have hb:PG.kM (.pl p) = PG.aQ p:=by show PG.aQ p ++ [] = _; simp
             rw [hb]
             simp -implicitDefEqProofs [fz,d1,d2,d3,d4,h8]
       . rw [if_neg (fun z=>d2 z.2.1)]
         simp -implicitDefEqProofs [fz,d1,d2]
         exact e3
     . rw [if_neg (fun z=>d1 z.1)]
       simp -implicitDefEqProofs [fz,d1]
       exact e3
    have hs:jC [some (.sh (.int p)),some (.sh (.int n)),some (.tr false (.di kv)),none,none] = fz [some (.sh (.int p)),some (.sh (.int n)),some (.tr false (.di kv)),some (.sh (.int (n % 5))),none]:=by
     have h3:cK 3 (mOp kJ (au 1) (mC (.int 5))) [some (.sh (.int p)),some (.sh (.int n)),some (.tr false (.di kv)),none,none] = .nx [some (.sh (.int p)),some (.sh (.int n)),some (.tr false (.di kv)),some (.sh (.int (n % 5))),none]:=by simp -implicitDefEqProofs
     simp only [jC,lh,h3,jl,mB,CG,hg1,fJ,Bool.false_eq_true,if_false,D9]
    rw [hs]
    exact e2
 simp -implicitDefEqProofs only [iE,mM,xp,og,List.map_cons,List.map_nil,List.length_cons,List.length_nil,List.replicate,List.cons_append,List.nil_append,lh,hset,jl]
 exact e1
noncomputable def lts:List Int -> Int -> Nat -> List PG.Sg
 | [],_,_=>[]
 | p ::l,n,k=>o7 p (n / (1 + (k:Int) % 7) + k) ::lts l n (k + 1)
theorem tN (l:List Int):∀ n k,l.all PG.fu = true -> (lts l n k).map PG.rV = l:=by
 induction l with
 | nil=>intro n k _; rfl
 | cons p l ih=>
   intro n k h
   simp only [List.all_cons,Bool.and_eq_true] at h
   simp only [lts,List.map_cons,ih n (k + 1) h.2,(qy p _ h.1).2]
theorem ve (l:List Int):∀ n k,l.all PG.fu = true -> ∀ s ∈ lts l n k,PG.Sok s:=by
 induction l with
 | nil=>intro n k _ s hs; cases hs
 | cons p l ih=>
   intro n k h s hs
   simp only [List.all_cons,Bool.and_eq_true] at h
   rcases List.mem_cons.mp hs with z | z
   . subst z; exact (qy p _ h.1).1
   . exact ih n (k + 1) h.2 s z
theorem BD (s:PG.Sg) (h:PG.Sok s):(PG.kM s).length <= 12:=by
 cases s with
 | pl p=>
   show (PG.aQ p ++ []).length <= 12
   rw [List.append_nil]
   unfold PG.aQ
   repeat' split
   all_goals simp
 | sh c p=>
   simp only [PG.Sok,PG.shP,List.mem_cons,Prod.mk.injEq,List.not_mem_nil,or_false] at h
   rcases h with h | h | h | h | h | h | h | h <;> (obtain ⟨rfl,rfl⟩:=h; decide)
 | hx a b c d=>
   obtain ⟨ha,hb,hc,hd,_⟩:=h
   obtain ⟨e1,e2,e3,e4⟩:=PG.j8 ha hb hc hd
   show (PG.aQ 92 ++ (PG.aQ 117 ++ (PG.aQ a ++ (PG.aQ b ++ (PG.aQ c ++ (PG.aQ d ++ [])))))).length <= 12
   rw [e1,e2,e3,e4,show PG.aQ 92 = [92] from rfl,show PG.aQ 117 = [117] from rfl]
   simp
 | pr a b c d e f g h'=>
   obtain ⟨⟨f1,_,_,hb,hcc,hd⟩,f5,_,hf,hg,hh⟩:=h
   obtain ⟨e1,e2,e3,e4⟩:=PG.j8 (by rw [f1]; rfl) hb hcc hd
   obtain ⟨e5,e6,e7,e8⟩:=PG.j8 (by rw [f5]; rfl) hf hg hh
   show (PG.aQ 92 ++ (PG.aQ 117 ++ (PG.aQ a ++ (PG.aQ b ++ (PG.aQ c ++ (PG.aQ d ++ (PG.aQ 92 ++ (PG.aQ 117 ++ (PG.aQ e ++ (PG.aQ f ++ (PG.aQ g ++ (PG.aQ h' ++ [])))))))))))).length <= 12
   rw [e1,e2,e3,e4,e5,e6,e7,e8,show PG.aQ 92 = [92] from rfl,show PG.aQ 117 = [117] from rfl]
   simp
theorem AM (l:List Int) (n:Int) (a:Option Sl):∀ (k:Nat) (found:List Int) (x:Option Sl),l.all PG.fu = true -> found.length + 12 * l.length <= 100000 -> ∃ x',kF 4 kO (l.map .int) [a,some (.sh (.int n)),some (.ow (found.map .int)),some (.sh (.int (k:Int))),x] = .nx [a,some (.sh (.int n)),some (.ow ((found ++ PG.inner (lts l n k)).map .int)),some (.sh (.int ((k + l.length:Nat):Int))),x']:=by
 induction l with
 | nil=>intro k found x _ _; exact ⟨x,by simp [lts,PG.inner]⟩
 | cons p l ih=>
   intro k found x hp hl
   simp only [List.all_cons,Bool.and_eq_true] at hp
   simp only [List.length_cons] at hl
   have hs:=yq p (n / (1 + (k:Int) % 7) + k) hp.1
   have h12:=BD _ (qy p (n / (1 + (k:Int) % 7) + k) hp.1).1
   have hlim:found.length + (PG.kM (o7 p (n / (1 + (k:Int) % 7) + k))).length <= lim:=iV (by omega)
   obtain ⟨x',h⟩:=ih (k + 1) (found ++ PG.kM (o7 p (n / (1 + (k:Int) % 7) + k))) (some (.sh (.int p))) hp.2 (by simp; omega)
   refine ⟨x',?_⟩
   have hd:(0:Int) < 1 + (k:Int) % 7:=by omega
   have hd2:1 + (k:Int) % 7 < 1073741824:=by omega
   have ht:kO [a,some (.sh (.int n)),some (.ow (found.map .int)),some (.sh (.int (k:Int))),some (.sh (.int p))] = .nx [a,some (.sh (.int n)),some (.ow ((found ++ PG.kM (o7 p (n / (1 + (k:Int) % 7) + k))).map .int)),some (.sh (.int ((k + 1:Nat):Int))),some (.sh (.int p))]:=by
    simp -implicitDefEqProofs [kO,hd,hd2,hs,hlim]
   rw [List.map_cons,jm]
   simp only [List.set_cons_succ,List.set_cons_zero,ht,iQ,h]
   have e:k + 1 + l.length = k + (l.length + 1):=by omega
   simp [lts,PG.inner,e]
theorem sd (l:List Int):∀ n k,(PG.inner (lts l n k)).length <= 12 * l.length \/ l.all PG.fu = false:=by
 induction l with
 | nil=>intro n k; left; simp [lts,PG.inner]
 | cons p l ih=>
   intro n k
   by_cases h1:PG.fu p = true
   . rcases ih n (k + 1) with h | h
     . left
       have h12:=BD _ (qy p (n / (1 + (k:Int) % 7) + k) h1).1
       show (PG.kM _ ++ PG.inner (lts l n (k + 1))).length <= _
       rw [List.length_append,List.length_cons]
       omega
     . right; simp [h]
   . right; simp [h1]
theorem sZ (l:List Int) (n:Int) (h:l.all PG.fu = true) (hl:l.length <= 1000):fP [.lst (l.map .int),.int n] = .ok (.fr ((PG.txt (lts l n 0)).map .int)):=by
 obtain ⟨x',h1⟩:=AM l n (some (.sh (.lst (l.map .int)))) 0 [34] none h (by simp; omega)
 have hlen:(PG.inner (lts l n 0)).length <= 12 * l.length:=by
  rcases sd l n 0 with z | z
  . exact z
  . rw [h] at z; cases z
 have hlim:(PG.inner (lts l n 0)).length + 1 + 1 <= lim:=iV (by omega)
 simp only [List.map_cons,List.map_nil,Int.ofNat_zero,Int.cast_ofNat_Int] at h1
 simp -implicitDefEqProofs only [fP,la,xp,og,List.map_cons,List.map_nil,List.length_cons,List.length_nil,List.replicate,List.cons_append,List.nil_append,lh]
 simp -implicitDefEqProofs [pX,qr,h1,qm,hlim,PG.txt]
noncomputable def i9 (ss:List PG.Sg):Int:=1 + (PG.inner ss).length + 2
noncomputable def kg (s1 s2:List PG.Sg):List Int:=123 ::(PG.txt s1 ++ 58 ::(PG.txt s2 ++ [125]))
theorem As (s1 s2:List PG.Sg) (h1:∀ s ∈ s1,PG.Sok s) (h2:∀ s ∈ s2,PG.Sok s):PG.Goes PG.st0 (kg s1 s2) [.white]:=by
 unfold kg
 refine PG.Goes.skip rfl rfl ?_
 have c0:PG.Goes [.value,.white] [123] [.white,.fields,.white]:=fun r=>PG.Aq (by rfl)
 have c1:PG.Goes [.white,.fields,.white] [34] (.text ::(PG.o8 ++ [.white])):=fun r=>PG.Aq (by rfl)
 have c2:=PG.rb s1 h1 (PG.o8 ++ [.white]) (by decide)
 have c3:PG.Goes (PG.o8 ++ [.white]) [58] [.white,.value,.white,.mfields,.white]:=fun r=>PG.Aq (by rfl)
 have c4:PG.Goes [.white,.value,.white,.mfields,.white] [34] [.text,.white,.mfields,.white]:=fun r=>PG.Aq (by rfl)
 have c5:=PG.rb s2 h2 [.white,.mfields,.white] (by decide)
 have c6:PG.Goes [.white,.mfields,.white] [125] [.white]:=fun r=>PG.Aq (by rfl)
 have:=c0.trans (c1.trans (c2.trans (c3.trans (c4.trans (c5.trans c6)))))
 simpa [PG.txt] using this
noncomputable def nu (s1 s2:List PG.Sg):List PV:=[.tup [.str "fields",.int 0,.int (kg s1 s2).length,.int 3],.tup [.str "name",.int 1,.int (i9 s1),.int 3],.tup [.str "text",.int (i9 s1 + 1),.int (i9 s1 + 1 + (PG.inner s2).length + 2),.int 3]]
theorem tP (s1 s2:List PG.Sg):((kg s1 s2).length:Int) = (PG.inner s1).length + (PG.inner s2).length + 7:=by
 simp [kg,PG.txt]; omega
theorem Bf (s1 s2:List PG.Sg) (h1:∀ s ∈ s1,PG.Sok s) (h2:∀ s ∈ s2,PG.Sok s) (hl:(kg s1 s2).length <= 10000):iH [.lst ((kg s1 s2).map .int)] = .ok (.fr (nu s1 s2)):=by
 have hlen:=tP s1 s2
 obtain ⟨R,hR⟩:∃ R,R = kg s1 s2:=⟨_,rfl⟩
 have hR0:R = [] ++ 123 ::(PG.txt s1 ++ 58 ::(PG.txt s2 ++ [125])):=hR
 have hR1:R = [123] ++ (PG.txt s1 ++ (58 ::(PG.txt s2 ++ [125]))):=hR
 have hR1':R = [123] ++ 34 ::(PG.inner s1 ++ 34 ::(58 ::(PG.txt s2 ++ [125]))):=by rw [hR]; simp [kg,PG.txt]
 have hR2:R = (123 ::PG.txt s1) ++ 58 ::(PG.txt s2 ++ [125]):=by rw [hR]; simp [kg]
 have hR3:R = (123 ::(PG.txt s1 ++ [58])) ++ (PG.txt s2 ++ [125]):=by rw [hR]; simp [kg]
 have hR3':R = (123 ::(PG.txt s1 ++ [58])) ++ 34 ::(PG.inner s2 ++ 34 ::[125]):=by rw [hR]; simp [kg,PG.txt]
 have hR4:R = (123 ::(PG.txt s1 ++ 58 ::PG.txt s2)) ++ 125 ::[]:=by rw [hR]; simp [kg]
 have l2:((123 ::PG.txt s1:List Int).length:Int) = i9 s1:=by simp [PG.txt,i9]; omega
 have l3:((123 ::(PG.txt s1 ++ [58]):List Int).length:Int) = i9 s1 + 1:=by simp [PG.txt,i9]; omega
 have l4:((123 ::(PG.txt s1 ++ 58 ::PG.txt s2):List Int).length:Int) = i9 s1 + 1 + (PG.inner s2).length + 2:=by simp [PG.txt,i9]; omega
 rw [<- hR] at hlen hl
 have b0:atP (R.map PV.int) 0 = some (.int (if true then 123 else 91)):=jR hR0 rfl
 have b1:atP (R.map PV.int) 1 = some (.int 34):=jR hR1' rfl
 have b2:atP (R.map PV.int) (i9 s1) = some (.int 58):=jR hR2 l2.symm
 have b3:atP (R.map PV.int) (i9 s1 + 1) = some (.int 34):=jR hR3' l3.symm
 have b4:atP (R.map PV.int) (i9 s1 + 1 + (PG.inner s2).length + 2) = some (.int (if true then 125 else 93)):=jR hR4 l4.symm
 have n1:=qw R (123 ::PG.txt s1) (PG.txt s2 ++ [125]) 58 hR2 rfl
 rw [l2] at n1
 have n2:=qw R (123 ::(PG.txt s1 ++ 58 ::PG.txt s2)) [] 125 hR4 rfl
 rw [l4] at n2
 have f1:=nY R [123] (58 ::(PG.txt s2 ++ [125])) s1 h1 1 true hR1 (by omega) n1
 have f2:=nY R (123 ::(PG.txt s1 ++ [58])) [125] s2 h2 2 false hR3 (by omega) (by rw [l3]; exact n2)
 rw [l3] at f2
 have l1:(([123]:List Int).length:Int) + (PG.inner s1).length + 2 = i9 s1:=rfl
 have l0:(([123]:List Int).length:Int) = 1:=rfl
 rw [l1,l0] at f1
 simp only [if_true,Bool.false_eq_true,if_false] at f1 f2
 have t0:=yh (row:=R) (tree:=[]) (un:=[]) (p:=0) (x:=none) (y:=none) true b0 (by simp) (by simp)
 have t1:=qP (row:=R) (tree:=[.tup [.str "fields",.int 0]]) (un:=[.sh (.int 0)]) (p:=1) (x:=some (.sh (.int 123))) (y:=none) b1 (by decide) (by decide) (by decide) (by decide) rfl (by decide) (by decide) (by simp) f1
 have t2:=yc (row:=R) (tree:=[.tup [.str "fields",.int 0],.tup [.str "name",.int 1,.int (i9 s1),.int (1 + 1)]]) (un:=[.sh (.int 0)]) (p:=i9 s1) (x:=some (.sh (.int 34))) (y:=none) b2 (.inr (.inr rfl))
 have t3:=qP (row:=R) (tree:=[.tup [.str "fields",.int 0],.tup [.str "name",.int 1,.int (i9 s1),.int (1 + 1)]]) (un:=[.sh (.int 0)]) (p:=i9 s1 + 1) (x:=some (.sh (.int 58))) (y:=none) b3 (by decide) (by decide) (by decide) (by decide) rfl (by decide) (by decide) (by simp) f2
 have t4:=xY (row:=R) (tree:=[.tup [.str "fields",.int 0],.tup [.str "name",.int 1,.int (i9 s1),.int (1 + 1)],.tup [.str "text",.int (i9 s1 + 1),.int (i9 s1 + 1 + (PG.inner s2).length + 2),.int (2 + 1)]]) (un:=[]) (p:=i9 s1 + 1 + (PG.inner s2).length + 2) (j:=0) (x:=some (.sh (.int 34))) (y:=none) true b4 rfl
 have hfin:i9 s1 + 1 + (PG.inner s2).length + 2 + 1 = (R.length:Int):=by rw [hlen]; unfold i9; omega
 rw [hfin] at t4
 simp only [List.nil_append,List.cons_append,List.length_nil,List.length_cons,Int.ofNat_zero,Int.cast_ofNat_Int,Int.zero_add,if_true,List.set_cons_zero] at t0 t1 t2 t3 t4
 have hw:b7 iL cW fuel (NS0 R [] [] 0 none none) = .nx (NS0 R [.tup [.str "fields",.int 0,.int R.length,.int 3],.tup [.str "name",.int 1,.int (i9 s1),.int (1 + 1)],.tup [.str "text",.int (i9 s1 + 1),.int (i9 s1 + 1 + (PG.inner s2).length + 2),.int (2 + 1)]] [] R.length (some (.sh (.int 125))) (some (.sh (.int 0)))):=by
  obtain ⟨n,hn⟩:∃ n,fuel = n + 1 + 1 + 1 + 1 + 1 + 1:=⟨99994,rfl⟩
  have hp:(0:Int) <= (PG.inner s1).length:=by omega
  rw [hn,tw (by omega) t0,tw (by omega) t1,tw (by unfold i9; omega) t2,tw (by unfold i9; omega) t3,tw (by unfold i9; omega) t4,IY (by omega)]
  rfl
 rw [<- hR]
 refine uG R _ _ _ _ _ (by rw [hR]; exact (As s1 s2 h1 h2).flt rfl) (by omega) (by simp) hw ?_ rfl
 rw [nu,<- hR]
 simp -implicitDefEqProofs [dQ,List.range,List.range.loop,dA,ou,kB,kq,i0,eX,gNe,eqS,aM]
theorem AB (l:List Int) (n:Int) (h:l.all PG.fu = true) (hl:l.length <= 20):∃ tree,iH [.lst ((PG.txt (lts l n 0)).map .int)] = .ok (.fr tree) /\ fZ [.lst ((PG.txt (lts l n 0)).map .int),.lst tree,.int 0] = .ok (.fr (l.map .int)):=by
 have hin:(PG.inner (lts l n 0)).length <= 12 * l.length:=by
  rcases sd l n 0 with z | z
  . exact z
  . rw [h] at z; cases z
 have htl:(PG.txt (lts l n 0)).length <= 500:=by simp [PG.txt]; omega
 have hnodes:=xg (lts l n 0) (ve l n 0 h) (by omega)
 have hmeant:=vX (lts l n 0) (ve l n 0 h) (PG.txt (lts l n 0)) [] [] [.tup [.str "text",.int 0,.int ((PG.inner (lts l n 0)).length + 2),.int 1]] 0 "text" 1 rfl htl (.inl rfl) (by simp)
 rw [tN l n 0 h] at hmeant
 exact ⟨_,hnodes,hmeant⟩
theorem Cm (l m:List Int) (n n':Int) (h:l.all PG.fu = true) (h':m.all PG.fu = true) (hl:l.length <= 14) (hm:m.length <= 4):(kg (lts l n 0) (lts m n' 0)).length <= 300 /\ iH [.lst ((kg (lts l n 0) (lts m n' 0)).map .int)] = .ok (.fr (nu (lts l n 0) (lts m n' 0))) /\
  fZ [.lst ((kg (lts l n 0) (lts m n' 0)).map .int),.lst (nu (lts l n 0) (lts m n' 0)),.int 1] = .ok (.fr (l.map .int)) /\ fZ [.lst ((kg (lts l n 0) (lts m n' 0)).map .int),.lst (nu (lts l n 0) (lts m n' 0)),.int 2] = .ok (.fr (m.map .int)) /\
  fZ [.lst ((kg (lts l n 0) (lts m n' 0)).map .int),.lst (nu (lts l n 0) (lts m n' 0)),.int 0] = .exc "NoNode" []:=by
 have hin:(PG.inner (lts l n 0)).length <= 12 * l.length:=by
  rcases sd l n 0 with z | z
  . exact z
  . rw [h] at z; cases z
 have hin':(PG.inner (lts m n' 0)).length <= 12 * m.length:=by
  rcases sd m n' 0 with z | z
  . exact z
  . rw [h'] at z; cases z
 have e1:=tN l n 0 h
 have e2:=tN m n' 0 h'
 have o1:=ve l n 0 h
 have o2:=ve m n' 0 h'
 generalize lts l n 0 = s1 at *
 generalize lts m n' 0 = s2 at *
 have hlen:=tP s1 s2
 have hle:(kg s1 s2).length <= 300:=by omega
 refine ⟨hle,Bf s1 s2 o1 o2 (by omega),?_,?_,?_⟩
 . have:=vX s1 o1 (kg s1 s2) [123] (58 ::(PG.txt s2 ++ [125])) (nu s1 s2) 1 "name" 3 (by simp [kg,PG.txt]) (by omega) (.inr rfl) (by simp [nu,i9])
   rw [e1] at this
   exact this
 . have:=vX s2 o2 (kg s1 s2) (123 ::(PG.txt s1 ++ [58])) [125] (nu s1 s2) 2 "text" 3 (by simp [kg,PG.txt]) (by omega) (.inl rfl) (by
    have l3:((123 ::(PG.txt s1 ++ [58]):List Int).length:Int) = i9 s1 + 1:=by simp [PG.txt,i9]; omega
    rw [l3]
    simp [nu])
   rw [e2] at this
   exact this
 . simp -implicitDefEqProofs [qX,qD,lA,fZ,nu,oq,fO,cg]
theorem IS (ns:List Int) (_:ns.length <= 63):tW [.lst (ns.map .int)] = .ok (.sh (.bl true)):=by
 have hp:=PG.AN ns 3
 have hpl:=PG.yX ns 3
 have hpts:=vf ns 3
 have hm2:=PG.yW ns 2
 obtain ⟨l,hl⟩:∃ l,l = PG.points ns 3:=⟨_,rfl⟩
 rw [<- hl] at hp hpl hpts
 clear hl
 have htx:=sZ l (PG.mix ns 1) hp (by omega)
 have hwl:=qj l (by omega)
 obtain ⟨tree,a1,a2⟩:=AB l (PG.mix ns 1) hp (by omega)
 obtain ⟨k,hk⟩:∃ k:Nat,PG.mix ns 2 % 3 = (k:Int):=⟨(PG.mix ns 2 % 3).toNat,by omega⟩
 obtain ⟨m,hm⟩:∃ m:List Int,m = (List.range k).map fun j:Nat=>PG.point (PG.mix ns (40 + (j:Int))):=⟨_,rfl⟩
 have hmp:m.all PG.fu = true:=by
  rw [hm,List.all_eq_true]
  intro x hx
  obtain ⟨j,_,rfl⟩:=List.mem_map.mp hx
  exact PG.xu _
 have hml:m.length <= 3:=by rw [hm]; simp; omega
 have hel:dA vP [some (.sh (.lst (ns.map .int)))] (dQ k) = .ok (m.map .int):=by
  rw [hm,List.map_map]
  unfold dQ
  refine ot _ fun j _=>?_
  simp -implicitDefEqProofs [vP,jt,rj]
 have htm:=sZ m (PG.mix ns 2) hmp (by omega)
 have hwm:=qj m (by omega)
 obtain ⟨b0,b1,b2,b3,b4⟩:=Cm l m (PG.mix ns 1) (PG.mix ns 2) hp hmp (by omega) (by omega)
 have hmk:m.length = k:=by rw [hm]; simp
 have hrow:(([123] ++ PG.txt (lts l (PG.mix ns 1) 0)) ++ [58] ++ PG.txt (lts m (PG.mix ns 2) 0)) ++ [125] = kg (lts l (PG.mix ns 1) 0) (lts m (PG.mix ns 2) 0):=by simp [kg]
 have hl1:=tP (lts l (PG.mix ns 1) 0) (lts m (PG.mix ns 2) 0)
 have ht1:(PG.txt (lts l (PG.mix ns 1) 0)).length = (PG.inner (lts l (PG.mix ns 1) 0)).length + 2:=by simp [PG.txt]
 have ht2:(PG.txt (lts m (PG.mix ns 2) 0)).length = (PG.inner (lts m (PG.mix ns 2) 0)).length + 2:=by simp [PG.txt]
 generalize kg (lts l (PG.mix ns 1) 0) (lts m (PG.mix ns 2) 0) = R at *
 generalize nu (lts l (PG.mix ns 1) 0) (lts m (PG.mix ns 2) 0) = TR at *
 generalize PG.txt (lts l (PG.mix ns 1) 0) = T1 at *
 generalize PG.txt (lts m (PG.mix ns 2) 0) = T2 at *
 have href:eZ [.lst (R.map .int),.lst TR,.int 0] = .ok (.sh (.bl true)):=by
  simp -implicitDefEqProofs [nk,nr,j7,eZ,b4,iO,xJ,Hb]
 have e5:fin (vd [some (.sh (.lst (ns.map .int))),some (.sh (.lst (l.map .int))),some (.ow (R.map .int)),none,none,some (.sh (.lst (m.map .int))),none,none,none]) = .ok (.sh (.bl true)):=by
  simp -implicitDefEqProofs [vd,kb,b1,zN,zZ,b2,zG,b3,Ag,Gp,A4,href,xD,hwl,hwm,AA]
 have e3:fin (vV [some (.sh (.lst (ns.map .int))),some (.sh (.lst (l.map .int))),some (.ow (T1.map .int)),none,none,none,none,none,none]) = .ok (.sh (.bl true)):=by
  have hb:(-4611686018427387904:Int) <= (k:Int) /\ (k:Int) < 4611686018427387904:=by omega
  have c1:T1.length + 1 <= lim:=iV (by omega)
  have c2:T1.length + 1 + 1 <= lim:=iV (by omega)
  have c3:T1.length + 1 + 1 + T2.length <= lim:=iV (by omega)
  have c4:T1.length + 1 + 1 + T2.length + 1 <= lim:=iV (by omega)
  have c5:m.length <= lim:=iV (by omega)
  have hs4:d0 5 (cK 2 (mOp kL (mOp kL (mOp kL (mOp kL (cV (aj (mC (.int 123)) aN)) (au 2)) (cV (aj (mC (.int 58)) aN))) (bf fP (aj (au 5) (aj (bf dW (aj (au 0) (aj (mC (.int 2)) aN))) aN)))) (cV (aj (mC (.int 125)) aN)))) [some (.sh (.lst (ns.map .int))),some (.sh (.lst (l.map .int))),some (.ow (T1.map .int)),none,none,some (.ow (m.map .int)),none,none,none] = .nx [some (.sh (.lst (ns.map .int))),some (.sh (.lst (l.map .int))),some (.ow (R.map .int)),none,none,some (.sh (.lst (m.map .int))),none,none,none]:=by
   rw [<- hrow]
   have g1:1 + T1.length <= lim:=by omega
   have g2:1 + T1.length + 1 <= lim:=by omega
   have g3:1 + T1.length + 1 + T2.length <= lim:=by omega
   have g4:1 + T1.length + 1 + T2.length + 1 <= lim:=by omega
   simp -implicitDefEqProofs [kb,jt,htm,c1,c2,c3,c4,g1,g2,g3,g4]
   try omega
  simp -implicitDefEqProofs only [vV,lh,vv,C4,FZ,zd,Ai,v5,List.getElem?_cons_zero,sC,zF,HS,yK,sI,q9,jt,oF,IX,HD,GD,vo,hk]
  simp -implicitDefEqProofs [hb,dP,hel,c5]
  simp -implicitDefEqProofs only [zh,lh,hs4,jl]
  exact e5
 have e1:fin (rX [some (.sh (.lst (ns.map .int))),some (.ow (l.map .int)),none,none,none,none,none,none,none]) = .ok (.sh (.bl true)):=by
  by_cases h3:PG.mix ns 0 % 3 = 0
  . simp -implicitDefEqProofs [rX,kb,jt,htx,wz,h3,a1,a2,hwl,AA,A4]
  . simp -implicitDefEqProofs [rX,kb,jt,htx,wz,h3,e3]
 simp -implicitDefEqProofs only [tW,Dl,xp,og,List.map_cons,List.map_nil,List.length_cons,List.length_nil,List.replicate,List.cons_append,List.nil_append,lh,vv,zd,Ai,v5,List.getElem?_cons_zero,sC,zF,HS,yK,sI,q9,hpts,jT,Ew,List.set_cons_succ,List.set_cons_zero,jl]
 exact e1
end L2.plainglass_k15_texts_meant
namespace L2.plainglass_k15_texts_meant
open PySem PySem.Spec PyProof.Rows L2.E L2.P
def top (i:Nat):Stmt:=PySem.Challenge.pw_plainglass_k15_texts_meant.main.body.getD i (.Pass ⟨0,0,0,0⟩)
abbrev kW:Stmt:=top 11
theorem lX:aU ["row","found","at","end"] ["row"] (av kW):=⟨rfl,rfl,rfl,by decide +kernel,rfl,by decide +kernel,by decide +kernel⟩
abbrev eD:Stmt:=top 12
theorem gj:aU ["row","at","spans","end","span"] ["row","at"] (av eD):=⟨rfl,rfl,rfl,by decide +kernel,rfl,by decide +kernel,by decide +kernel⟩
abbrev mE:Stmt:=top 13
theorem CL:aU ["byte"] ["byte"] (av mE):=⟨rfl,rfl,rfl,by decide +kernel,rfl,by decide +kernel,by decide +kernel⟩
abbrev dI:Stmt:=top 14
theorem pG:aU ["byte"] ["byte"] (av dI):=⟨rfl,rfl,rfl,by decide +kernel,rfl,by decide +kernel,by decide +kernel⟩
abbrev dZ:Stmt:=top 15
theorem p9:aU ["byte"] ["byte"] (av dZ):=⟨rfl,rfl,rfl,by decide +kernel,rfl,by decide +kernel,by decide +kernel⟩
abbrev iF:Stmt:=top 16
theorem kK:aU ["row","at","end","number","byte"] ["row","at","end"] (av iF):=⟨rfl,rfl,rfl,by decide +kernel,rfl,by decide +kernel,by decide +kernel⟩
abbrev je:Stmt:=top 38
theorem wM:aU ["byte"] ["byte"] (av je):=⟨rfl,rfl,rfl,by decide +kernel,rfl,by decide +kernel,by decide +kernel⟩
abbrev iy:Stmt:=top 39
theorem vt:aU ["byte"] ["byte"] (av iy):=⟨rfl,rfl,rfl,by decide +kernel,rfl,by decide +kernel,by decide +kernel⟩
abbrev ic:Stmt:=top 40
theorem vI:aU ["byte"] ["byte"] (av ic):=⟨rfl,rfl,rfl,by decide +kernel,rfl,by decide +kernel,by decide +kernel⟩
abbrev ip:Stmt:=top 41
theorem wq:aU ["byte"] ["byte"] (av ip):=⟨rfl,rfl,rfl,by decide +kernel,rfl,by decide +kernel,by decide +kernel⟩
abbrev fb:Stmt:=top 42
theorem rK:aU ["byte"] ["byte"] (av fb):=⟨rfl,rfl,rfl,by decide +kernel,rfl,by decide +kernel,by decide +kernel⟩
abbrev m9:Stmt:=top 45
theorem xM:aU ["row","tree","i","node"] ["row","tree","i"] (av m9):=⟨rfl,rfl,rfl,by decide +kernel,rfl,by decide +kernel,by decide +kernel⟩
abbrev dE:Stmt:=top 46
theorem fk:aU ["signs","found","at","size"] ["signs"] (av dE):=⟨rfl,rfl,rfl,by decide +kernel,rfl,by decide +kernel,by decide +kernel⟩
abbrev ig:Stmt:=top 47
theorem vw:aU ["signs","at"] ["signs","at"] (av ig):=⟨rfl,rfl,rfl,by decide +kernel,rfl,by decide +kernel,by decide +kernel⟩
abbrev gE:Stmt:=top 48
theorem ui:aU ["signs","at","size"] ["signs","at","size"] (av gE):=⟨rfl,rfl,rfl,by decide +kernel,rfl,by decide +kernel,by decide +kernel⟩
abbrev pC:Stmt:=top 49
theorem rY:aU ["signs","at","number","figure"] ["signs","at"] (av pC):=⟨rfl,rfl,rfl,by decide +kernel,rfl,by decide +kernel,by decide +kernel⟩
abbrev kT:Stmt:=top 55
theorem AL:aU ["item","byte"] ["item","byte"] (av kT):=⟨rfl,rfl,rfl,by decide +kernel,rfl,by decide +kernel,by decide +kernel⟩
abbrev fj:Stmt:=top 56
theorem nC:aU ["byte","rest"] ["byte"] (av fj):=⟨rfl,rfl,rfl,by decide +kernel,rfl,by decide +kernel,by decide +kernel⟩
abbrev fR:Stmt:=top 57
theorem sP:aU ["byte"] ["byte"] (av fR):=⟨rfl,rfl,rfl,by decide +kernel,rfl,by decide +kernel,by decide +kernel⟩
abbrev dn:Stmt:=top 58
theorem oK:aU ["item","byte"] ["item","byte"] (av dn):=⟨rfl,rfl,rfl,by decide +kernel,rfl,by decide +kernel,by decide +kernel⟩
abbrev dX:Stmt:=top 59
theorem lO:aU ["item","byte","worth"] ["item","byte"] (av dX):=⟨rfl,rfl,rfl,by decide +kernel,rfl,by decide +kernel,by decide +kernel⟩
abbrev du:Stmt:=top 60
theorem kE:aU ["byte","spans"] ["byte"] (av du):=⟨rfl,rfl,rfl,by decide +kernel,rfl,by decide +kernel,by decide +kernel⟩
abbrev dj:Stmt:=top 61
theorem oP:aU ["byte"] ["byte"] (av dj):=⟨rfl,rfl,rfl,by decide +kernel,rfl,by decide +kernel,by decide +kernel⟩
abbrev eC:Stmt:=top 62
theorem mj:aU ["worth","second"] ["worth"] (av eC):=⟨rfl,rfl,rfl,by decide +kernel,rfl,by decide +kernel,by decide +kernel⟩
abbrev gC:Stmt:=top 63
theorem oY:aU ["item","byte","worth"] ["item","byte"] (av gC):=⟨rfl,rfl,rfl,by decide +kernel,rfl,by decide +kernel,by decide +kernel⟩
abbrev cD:Stmt:=top 64
theorem nG:aU ["item","byte"] ["item","byte"] (av cD):=⟨rfl,rfl,rfl,by decide +kernel,rfl,by decide +kernel,by decide +kernel⟩
abbrev dg:Stmt:=top 65
theorem kI:aU ["byte","items"] ["byte"] (av dg):=⟨rfl,rfl,rfl,by decide +kernel,rfl,by decide +kernel,by decide +kernel⟩
abbrev cC:Stmt:=top 66
theorem nc:aU ["byte"] ["byte"] (av cC):=⟨rfl,rfl,rfl,by decide +kernel,rfl,by decide +kernel,by decide +kernel⟩
abbrev fM:Stmt:=top 67
theorem tK:aU [] [] (av fM):=⟨rfl,rfl,rfl,by decide +kernel,rfl,by decide +kernel,by decide +kernel⟩
abbrev mS:Stmt:=top 69
theorem sA:aU ["row","walk","at"] ["row"] (av mS):=⟨rfl,rfl,rfl,by decide +kernel,rfl,by decide +kernel,by decide +kernel⟩
abbrev fe:Stmt:=top 70
theorem nA:aU ["row","at"] ["row"] (av fe):=⟨rfl,rfl,rfl,by decide +kernel,rfl,by decide +kernel,by decide +kernel⟩
abbrev mT:Stmt:=top 73
theorem ja:aU ["row","tree","unended","at","byte","i"] ["row"] (av mT):=⟨rfl,rfl,rfl,by decide +kernel,rfl,by decide +kernel,by decide +kernel⟩
abbrev pB:Stmt:=top 74
theorem vU:aU ["row","at","i","kind","end"] ["row","at","i"] (av pB):=⟨rfl,rfl,rfl,by decide +kernel,rfl,by decide +kernel,by decide +kernel⟩
abbrev g8:Stmt:=top 75
theorem mK:aU ["row","at","end"] ["row","at"] (av g8):=⟨rfl,rfl,rfl,by decide +kernel,rfl,by decide +kernel,by decide +kernel⟩
abbrev jo:Stmt:=top 76
theorem nU:aU ["row","at","end"] ["row","at"] (av jo):=⟨rfl,rfl,rfl,by decide +kernel,rfl,by decide +kernel,by decide +kernel⟩
abbrev jX:Stmt:=top 77
theorem sE:aU ["row","end"] ["row","end"] (av jX):=⟨rfl,rfl,rfl,by decide +kernel,rfl,by decide +kernel,by decide +kernel⟩
abbrev fW:Stmt:=top 78
theorem n4:aU ["tree","i","node"] ["tree","i"] (av fW):=⟨rfl,rfl,rfl,by decide +kernel,rfl,by decide +kernel,by decide +kernel⟩
abbrev jg:Stmt:=top 80
theorem xo:aU ["_law_script","_law_k"] ["_law_script","_law_k"] (av jg):=⟨rfl,rfl,rfl,by decide +kernel,rfl,by decide +kernel,by decide +kernel⟩
abbrev jY:Stmt:=top 81
theorem pQ:aU ["_law_script","_law_k","_law_number"] ["_law_script","_law_k"] (av jY):=⟨rfl,rfl,rfl,by decide +kernel,rfl,by decide +kernel,by decide +kernel⟩
abbrev ik:Stmt:=top 82
theorem wb:aU ["_law_found"] ["_law_found"] (av ik):=⟨rfl,rfl,rfl,by decide +kernel,rfl,by decide +kernel,by decide +kernel⟩
abbrev gF:Stmt:=top 83
theorem uu:aU ["_law_found"] ["_law_found"] (av gF):=⟨rfl,rfl,rfl,by decide +kernel,rfl,by decide +kernel,by decide +kernel⟩
abbrev iD:Stmt:=top 84
theorem mV:aU ["_law_number","_law_kind","_law_rest"] ["_law_number"] (av iD):=⟨rfl,rfl,rfl,by decide +kernel,rfl,by decide +kernel,by decide +kernel⟩
abbrev gH:Stmt:=top 85
theorem ka:aU ["_law_script","_law_k","_law_number","_law_size_here"] ["_law_script","_law_k"] (av gH):=⟨rfl,rfl,rfl,by decide +kernel,rfl,by decide +kernel,by decide +kernel⟩
abbrev iB:Stmt:=top 86
theorem iJ:aU ["_law_point_here","_law_many_here","_law_found","_law_k"] ["_law_point_here"] (av iB):=⟨rfl,rfl,rfl,by decide +kernel,rfl,by decide +kernel,by decide +kernel⟩
abbrev jW:Stmt:=top 87
theorem jf:aU ["_law_number","_law_big","_law_found","_law_k","_law_worth"] ["_law_number","_law_big"] (av jW):=⟨rfl,rfl,rfl,by decide +kernel,rfl,by decide +kernel,by decide +kernel⟩
abbrev jn:Stmt:=top 88
theorem lx:aU ["_law_point_here","_law_number","_law_short","_law_way","_law_rest"] ["_law_point_here","_law_number"] (av jn):=⟨rfl,rfl,rfl,by decide +kernel,rfl,by decide +kernel,by decide +kernel⟩
abbrev ji:Stmt:=top 89
theorem ju:aU ["_law_points_here","_law_number","_law_found","_law_at","_law_point_here"] ["_law_points_here","_law_number"] (av ji):=⟨rfl,rfl,rfl,by decide +kernel,rfl,by decide +kernel,by decide +kernel⟩
abbrev fV:Stmt:=top 90
theorem jM:aU ["_law_row","_law_tree","_law_i","_law_refused_here","e"] ["_law_row","_law_tree","_law_i"] (av fV):=⟨rfl,rfl,rfl,by decide +kernel,rfl,by decide +kernel,by decide +kernel⟩
abbrev tJ:Stmt:=top 91
theorem kU:aU ["_law_script","_law_points_here","_law_row","_law_tree","_law_found","_law_other","_law_handed","_law_name","_law_text_here"] ["_law_script"] (av tJ):=⟨rfl,rfl,rfl,by decide +kernel,rfl,by decide +kernel,by decide +kernel⟩
abbrev eE:Stmt:=inClass (top 54) 0
theorem qV:aU ["self"] ["self"] (av eE):=⟨rfl,rfl,rfl,by decide +kernel,rfl,by decide +kernel,by decide +kernel⟩
abbrev ia:Stmt:=inClass (top 54) 1
theorem mO:aU ["self","row","at","byte"] ["self","row"] (av ia):=⟨rfl,rfl,rfl,by decide +kernel,rfl,by decide +kernel,by decide +kernel⟩
abbrev fg:Stmt:=inClass (top 54) 2
theorem kr:aU ["self","byte","item","items"] ["self","byte"] (av fg):=⟨rfl,rfl,rfl,by decide +kernel,rfl,by decide +kernel,by decide +kernel⟩
abbrev eI:Stmt:=inClass (top 54) 3
theorem qO:aU ["self"] ["self"] (av eI):=⟨rfl,rfl,rfl,by decide +kernel,rfl,by decide +kernel,by decide +kernel⟩
abbrev eK:Stmt:=inClass (top 54) 5
theorem qY:aU ["self"] ["self"] (av eK):=⟨rfl,rfl,rfl,by decide +kernel,rfl,by decide +kernel,by decide +kernel⟩
abbrev gD:Stmt:=inClass (top 3) 0
theorem ub:aU ["self","at"] ["self","at"] (av gD):=⟨rfl,rfl,rfl,by decide +kernel,rfl,by decide +kernel,by decide +kernel⟩
set_option genInjectivity false in
set_option genSizeOf false in
structure Adr where
 jb:Addr
 d_points:FuncData
 cG:Addr
 d_character_end:FuncData
 eU:Addr
 d_tails:FuncData
 bJ:Addr
 d_second_of_three:FuncData
 bN:Addr
 d_second_of_four:FuncData
 gw:Addr
 d_character:FuncData
 ft:Addr
 d_is_white:FuncData
 eY:Addr
 d_is_figure:FuncData
 er:Addr
 d_hex_worth:FuncData
 eV:Addr
 d_word_rest:FuncData
 bu:Addr
 d_short_escape:FuncData
 fZ:Addr
 d_meant:FuncData
 cT:Addr
 d_without_escapes:FuncData
 dO:Addr
 d_sign_size:FuncData
 dM:Addr
 d_sign_meant:FuncData
 kZ:Addr
 d_code:FuncData
 b9:Addr
 d_behind:FuncData
 bB:Addr
 d_behind_value:FuncData
 dC:Addr
 d_behind_lead:FuncData
 aY:Addr
 d_behind_in_number:FuncData
 bI:Addr
 d_behind_in_text:FuncData
 bK:Addr
 d_behind_character:FuncData
 cu:Addr
 d_behind_backslash:FuncData
 da:Addr
 d_behind_code_d:FuncData
 dF:Addr
 d_behind_hex:FuncData
 bg:Addr
 d_behind_in_brackets:FuncData
 b5:Addr
 d_behind_row_begin:FuncData
 bL:Addr
 d_behind_fields_begin:FuncData
 d5:Addr
 d_member_rest:FuncData
 lF:Addr
 d_fault:FuncData
 dH:Addr
 d_refuse_fault:FuncData
 iH:Addr
 d_nodes:FuncData
 mI:Addr
 d_leaf:FuncData
 jv:Addr
 d_plain_end:FuncData
 iG:Addr
 d_text_end:FuncData
 gd:Addr
 d_is_name:FuncData
 eX:Addr
 d_with_member:FuncData
 iC:Addr
 d_law_cell:FuncData
 dW:Addr
 d_law_mix:FuncData
 gy:Addr
 d_law_whole:FuncData
 d6:Addr
 d_law_wholes:FuncData
 cU:Addr
 d_law_point:FuncData
 eS:Addr
 d_law_points:FuncData
 ee:Addr
 d_law_eight:FuncData
 gQ:Addr
 d_law_hex:FuncData
 iE:Addr
 d_law_sign:FuncData
 fP:Addr
 d_law_text:FuncData
 eZ:Addr
 d_law_refused:FuncData
 tW:Addr
 d_law:FuncData
 cY:Addr
 d_Walk___init__:FuncData
 gp:Addr
 d_Walk_take:FuncData
 eh:Addr
 d_Walk_goes_on:FuncData
 cF:Addr
 d_Walk_brackets:FuncData
 cZ:Addr
 d_Walk_is_whole:FuncData
 C_GlassError:Addr
 C_Fault:Addr
 f_Fault_init:Addr
 d_Fault_init:FuncData
 C_NoNode:Addr
 C_Walk:Addr
 v_FIRST_PAIRED:Value
 v_LAST_PAIRED:Value
 v_MARKS:Addr
 v_TAIL_MARK:Value
 v_TAIL:Addr
 v_BLANK:Value
 v_QUOTE:Value
 v_PLUS:Value
 v_COMMA:Value
 v_MINUS:Value
 v_POINT:Value
 v_NOUGHT:Value
 v_NINE:Value
 v_COLON:Value
 v_BIG_E:Value
 v_ROW_BEGIN:Value
 v_BACKSLASH:Value
 v_ROW_END:Value
 v_SMALL_E:Value
 v_SMALL_U:Value
 v_FIELDS_BEGIN:Value
 v_FIELDS_END:Value
 v_WHITE:Addr
 v_WORDS:Addr
 v_SHORT_ESCAPES:Addr
 v_CODE_SIZE:Value
 v_MOST_BRACKETS:Value
 v_LOOSE:Addr
 v_UNENDED:Addr
 v_KINDS:Addr
structure Txt (K:PySem.W.Frag) (mg:Str -> Option Value) (t:Adr):Prop where
 F_points:Fun K "points" "points" kW t.jb t.d_points
 oh:mg "points" = some (.ref t.jb)
 b_points:Binds K t.d_points ["row"] []
 F_character_end:Fun K "character_end" "character_end" eD t.cG t.d_character_end
 fw:mg "character_end" = some (.ref t.cG)
 b_character_end:Binds K t.d_character_end ["row","at"] []
 F_tails:Fun K "tails" "tails" mE t.eU t.d_tails
 gZ:mg "tails" = some (.ref t.eU)
 b_tails:Binds K t.d_tails ["byte"] []
 F_second_of_three:Fun K "second_of_three" "second_of_three" dI t.bJ t.d_second_of_three
 dG:mg "second_of_three" = some (.ref t.bJ)
 b_second_of_three:Binds K t.d_second_of_three ["byte"] []
 F_second_of_four:Fun K "second_of_four" "second_of_four" dZ t.bN t.d_second_of_four
 dU:mg "second_of_four" = some (.ref t.bN)
 b_second_of_four:Binds K t.d_second_of_four ["byte"] []
 F_character:Fun K "character" "character" iF t.gw t.d_character
 lJ:mg "character" = some (.ref t.gw)
 b_character:Binds K t.d_character ["row","at","end"] []
 F_is_white:Fun K "is_white" "is_white" je t.ft t.d_is_white
 jk:mg "is_white" = some (.ref t.ft)
 b_is_white:Binds K t.d_is_white ["byte"] []
 F_is_figure:Fun K "is_figure" "is_figure" iy t.eY t.d_is_figure
 js:mg "is_figure" = some (.ref t.eY)
 b_is_figure:Binds K t.d_is_figure ["byte"] []
 F_hex_worth:Fun K "hex_worth" "hex_worth" ic t.er t.d_hex_worth
 jx:mg "hex_worth" = some (.ref t.er)
 b_hex_worth:Binds K t.d_hex_worth ["byte"] []
 F_word_rest:Fun K "word_rest" "word_rest" ip t.eV t.d_word_rest
 hZ:mg "word_rest" = some (.ref t.eV)
 b_word_rest:Binds K t.d_word_rest ["byte"] []
 F_short_escape:Fun K "short_escape" "short_escape" fb t.bu t.d_short_escape
 bO:mg "short_escape" = some (.ref t.bu)
 b_short_escape:Binds K t.d_short_escape ["byte"] []
 F_meant:Fun K "meant" "meant" m9 t.fZ t.d_meant
 lA:mg "meant" = some (.ref t.fZ)
 b_meant:Binds K t.d_meant ["row","tree","i"] []
 F_without_escapes:Fun K "without_escapes" "without_escapes" dE t.cT t.d_without_escapes
 gW:mg "without_escapes" = some (.ref t.cT)
 b_without_escapes:Binds K t.d_without_escapes ["signs"] []
 F_sign_size:Fun K "sign_size" "sign_size" ig t.dO t.d_sign_size
 gv:mg "sign_size" = some (.ref t.dO)
 b_sign_size:Binds K t.d_sign_size ["signs","at"] []
 F_sign_meant:Fun K "sign_meant" "sign_meant" gE t.dM t.d_sign_meant
 gz:mg "sign_meant" = some (.ref t.dM)
 b_sign_meant:Binds K t.d_sign_meant ["signs","at","size"] []
 F_code:Fun K "code" "code" pC t.kZ t.d_code
 pN:mg "code" = some (.ref t.kZ)
 b_code:Binds K t.d_code ["signs","at"] []
 F_behind:Fun K "behind" "behind" kT t.b9 t.d_behind
 cE:mg "behind" = some (.ref t.b9)
 b_behind:Binds K t.d_behind ["item","byte"] []
 F_behind_value:Fun K "behind_value" "behind_value" fj t.bB t.d_behind_value
 cA:mg "behind_value" = some (.ref t.bB)
 b_behind_value:Binds K t.d_behind_value ["byte"] []
 F_behind_lead:Fun K "behind_lead" "behind_lead" fR t.dC t.d_behind_lead
 gL:mg "behind_lead" = some (.ref t.dC)
 b_behind_lead:Binds K t.d_behind_lead ["byte"] []
 F_behind_in_number:Fun K "behind_in_number" "behind_in_number" dn t.aY t.d_behind_in_number
 bA:mg "behind_in_number" = some (.ref t.aY)
 b_behind_in_number:Binds K t.d_behind_in_number ["item","byte"] []
 F_behind_in_text:Fun K "behind_in_text" "behind_in_text" dX t.bI t.d_behind_in_text
 cQ:mg "behind_in_text" = some (.ref t.bI)
 b_behind_in_text:Binds K t.d_behind_in_text ["item","byte"] []
 F_behind_character:Fun K "behind_character" "behind_character" du t.bK t.d_behind_character
 dc:mg "behind_character" = some (.ref t.bK)
 b_behind_character:Binds K t.d_behind_character ["byte"] []
 F_behind_backslash:Fun K "behind_backslash" "behind_backslash" dj t.cu t.d_behind_backslash
 fq:mg "behind_backslash" = some (.ref t.cu)
 b_behind_backslash:Binds K t.d_behind_backslash ["byte"] []
 F_behind_code_d:Fun K "behind_code_d" "behind_code_d" eC t.da t.d_behind_code_d
 gK:mg "behind_code_d" = some (.ref t.da)
 b_behind_code_d:Binds K t.d_behind_code_d ["worth"] []
 F_behind_hex:Fun K "behind_hex" "behind_hex" gC t.dF t.d_behind_hex
 gG:mg "behind_hex" = some (.ref t.dF)
 b_behind_hex:Binds K t.d_behind_hex ["item","byte"] []
 F_behind_in_brackets:Fun K "behind_in_brackets" "behind_in_brackets" cD t.bg t.d_behind_in_brackets
 bQ:mg "behind_in_brackets" = some (.ref t.bg)
 b_behind_in_brackets:Binds K t.d_behind_in_brackets ["item","byte"] []
 F_behind_row_begin:Fun K "behind_row_begin" "behind_row_begin" dg t.b5 t.d_behind_row_begin
 dY:mg "behind_row_begin" = some (.ref t.b5)
 b_behind_row_begin:Binds K t.d_behind_row_begin ["byte"] []
 F_behind_fields_begin:Fun K "behind_fields_begin" "behind_fields_begin" cC t.bL t.d_behind_fields_begin
 dS:mg "behind_fields_begin" = some (.ref t.bL)
 b_behind_fields_begin:Binds K t.d_behind_fields_begin ["byte"] []
 F_member_rest:Fun K "member_rest" "member_rest" fM t.d5 t.d_member_rest
 iY:mg "member_rest" = some (.ref t.d5)
 b_member_rest:Binds K t.d_member_rest [] []
 F_fault:Fun K "fault" "fault" mS t.lF t.d_fault
 sj:mg "fault" = some (.ref t.lF)
 b_fault:Binds K t.d_fault ["row"] []
 F_refuse_fault:Fun K "refuse_fault" "refuse_fault" fe t.dH t.d_refuse_fault
 ib:mg "refuse_fault" = some (.ref t.dH)
 b_refuse_fault:Binds K t.d_refuse_fault ["row"] []
 F_nodes:Fun K "nodes" "nodes" mT t.iH t.d_nodes
 p0:mg "nodes" = some (.ref t.iH)
 b_nodes:Binds K t.d_nodes ["row"] []
 F_leaf:Fun K "leaf" "leaf" pB t.mI t.d_leaf
 vq:mg "leaf" = some (.ref t.mI)
 b_leaf:Binds K t.d_leaf ["row","at","i"] []
 F_plain_end:Fun K "plain_end" "plain_end" g8 t.jv t.d_plain_end
 nP:mg "plain_end" = some (.ref t.jv)
 b_plain_end:Binds K t.d_plain_end ["row","at"] []
 F_text_end:Fun K "text_end" "text_end" jo t.iG t.d_text_end
 ni:mg "text_end" = some (.ref t.iG)
 b_text_end:Binds K t.d_text_end ["row","at"] []
 F_is_name:Fun K "is_name" "is_name" jX t.gd t.d_is_name
 mw:mg "is_name" = some (.ref t.gd)
 b_is_name:Binds K t.d_is_name ["row","end"] []
 F_with_member:Fun K "with_member" "with_member" fW t.eX t.d_with_member
 i0:mg "with_member" = some (.ref t.eX)
 b_with_member:Binds K t.d_with_member ["tree","i"] []
 F_law_cell:Fun K "_law_cell" "_law_cell" jg t.iC t.d_law_cell
 mJ:mg "_law_cell" = some (.ref t.iC)
 b_law_cell:Binds K t.d_law_cell ["_law_script","_law_k"] []
 F_law_mix:Fun K "_law_mix" "_law_mix" jY t.dW t.d_law_mix
 gP:mg "_law_mix" = some (.ref t.dW)
 b_law_mix:Binds K t.d_law_mix ["_law_script","_law_k"] []
 F_law_whole:Fun K "_law_whole" "_law_whole" ik t.gy t.d_law_whole
 lu:mg "_law_whole" = some (.ref t.gy)
 b_law_whole:Binds K t.d_law_whole ["_law_found"] []
 F_law_wholes:Fun K "_law_wholes" "_law_wholes" gF t.d6 t.d_law_wholes
 iM:mg "_law_wholes" = some (.ref t.d6)
 b_law_wholes:Binds K t.d_law_wholes ["_law_found"] []
 F_law_point:Fun K "_law_point" "_law_point" iD t.cU t.d_law_point
 eW:mg "_law_point" = some (.ref t.cU)
 b_law_point:Binds K t.d_law_point ["_law_number"] []
 F_law_points:Fun K "_law_points" "_law_points" gH t.eS t.d_law_points
 jE:mg "_law_points" = some (.ref t.eS)
 b_law_points:Binds K t.d_law_points ["_law_script","_law_k"] []
 F_law_eight:Fun K "_law_eight" "_law_eight" iB t.ee t.d_law_eight
 iz:mg "_law_eight" = some (.ref t.ee)
 b_law_eight:Binds K t.d_law_eight ["_law_point_here"] []
 F_law_hex:Fun K "_law_hex" "_law_hex" jW t.gQ t.d_law_hex
 kP:mg "_law_hex" = some (.ref t.gQ)
 b_law_hex:Binds K t.d_law_hex ["_law_number","_law_big"] []
 F_law_sign:Fun K "_law_sign" "_law_sign" jn t.iE t.d_law_sign
 mM:mg "_law_sign" = some (.ref t.iE)
 b_law_sign:Binds K t.d_law_sign ["_law_point_here","_law_number"] []
 F_law_text:Fun K "_law_text" "_law_text" ji t.fP t.d_law_text
 la:mg "_law_text" = some (.ref t.fP)
 b_law_text:Binds K t.d_law_text ["_law_points_here","_law_number"] []
 F_law_refused:Fun K "_law_refused" "_law_refused" fV t.eZ t.d_law_refused
 j7:mg "_law_refused" = some (.ref t.eZ)
 b_law_refused:Binds K t.d_law_refused ["_law_row","_law_tree","_law_i"] []
 F_law:Fun K "law" "law" tJ t.tW t.d_law
 Dl:mg "law" = some (.ref t.tW)
 b_law:Binds K t.d_law ["_law_script"] []
 F_Walk___init__:Fun K "__init__" "Walk.__init__" eE t.cY t.d_Walk___init__
 b_Walk___init__:Binds K t.d_Walk___init__ ["self"] []
 F_Walk_take:Fun K "take" "Walk.take" ia t.gp t.d_Walk_take
 h_Walk_take:Meth K t.C_Walk "take" t.gp
 b_Walk_take:Binds K t.d_Walk_take ["self","row"] []
 F_Walk_goes_on:Fun K "goes_on" "Walk.goes_on" fg t.eh t.d_Walk_goes_on
 h_Walk_goes_on:Meth K t.C_Walk "goes_on" t.eh
 b_Walk_goes_on:Binds K t.d_Walk_goes_on ["self","byte"] []
 F_Walk_brackets:Fun K "brackets" "Walk.brackets" eI t.cF t.d_Walk_brackets
 h_Walk_brackets:Meth K t.C_Walk "brackets" t.cF
 b_Walk_brackets:Binds K t.d_Walk_brackets ["self"] []
 F_Walk_is_whole:Fun K "is_whole" "Walk.is_whole" eK t.cZ t.d_Walk_is_whole
 h_Walk_is_whole:Meth K t.C_Walk "is_whole" t.cZ
 b_Walk_is_whole:Binds K t.d_Walk_is_whole ["self"] []
 n_len:mg "len" = none
 n_isinstance:mg "isinstance" = none
 n_tuple:mg "tuple" = none
 n_range:mg "range" = none
 n_int:mg "int" = none
 n_bool:mg "bool" = none
 n_list:mg "list" = none
 n_all:mg "all" = none
 n_enumerate:mg "enumerate" = none
 n_ValueError:mg "ValueError" = none
 m_Walk:mg "Walk" = some (.ref t.C_Walk)
 c_Walk:Cls K t.C_Walk
 k_Walk:Mk K t.C_Walk t.cY
 na_Walk_coming:lU K t.C_Walk "coming"
 m_GlassError:mg "GlassError" = some (.ref t.C_GlassError)
 e_GlassError:nK K t.C_GlassError [.type "ValueError",.type "Exception",.type "BaseException",.type "object"]
 x_GlassError:PySem.W.excIn K t.C_GlassError [.type "ValueError",.type "Exception",.type "BaseException",.type "object"] "ValueError.__new__" = true
 m_Fault:mg "Fault" = some (.ref t.C_Fault)
 e_Fault:nK K t.C_Fault [.ref t.C_GlassError,.type "ValueError",.type "Exception",.type "BaseException",.type "object"]
 F_Fault_init:Fun K "__init__" "Fault.__init__" gD t.f_Fault_init t.d_Fault_init
 b_Fault_init:Binds K t.d_Fault_init ["self","at"] []
 k_Fault:XMk K mg "Fault" t.C_Fault t.f_Fault_init [.ref t.C_GlassError,.type "ValueError",.type "Exception",.type "BaseException",.type "object"] "at"
 m_NoNode:mg "NoNode" = some (.ref t.C_NoNode)
 e_NoNode:nK K t.C_NoNode [.ref t.C_GlassError,.type "ValueError",.type "Exception",.type "BaseException",.type "object"]
 x_NoNode:PySem.W.excIn K t.C_NoNode [.type "ValueError",.type "Exception",.type "BaseException",.type "object"] "ValueError.__new__" = true
 m_FIRST_PAIRED:mg "FIRST_PAIRED" = some t.v_FIRST_PAIRED
 r_FIRST_PAIRED:RelV (.int 55296) t.v_FIRST_PAIRED
 m_LAST_PAIRED:mg "LAST_PAIRED" = some t.v_LAST_PAIRED
 r_LAST_PAIRED:RelV (.int 57343) t.v_LAST_PAIRED
 m_MARKS:mg "MARKS" = some (.ref t.v_MARKS)
 r_MARKS:RelV (.ref t.v_MARKS) (.ref t.v_MARKS)
 q_MARKS:∀ H,SqT K H t.v_MARKS [.int 0,.int 192,.int 224,.int 240]
 m_TAIL_MARK:mg "TAIL_MARK" = some t.v_TAIL_MARK
 r_TAIL_MARK:RelV (.int 128) t.v_TAIL_MARK
 m_TAIL:mg "TAIL" = some (.ref t.v_TAIL)
 r_TAIL:RelV (.ref t.v_TAIL) (.ref t.v_TAIL)
 q_TAIL:∀ H,SqT K H t.v_TAIL [.int 128,.int 191]
 m_BLANK:mg "BLANK" = some t.v_BLANK
 r_BLANK:RelV (.int 32) t.v_BLANK
 m_QUOTE:mg "QUOTE" = some t.v_QUOTE
 r_QUOTE:RelV (.int 34) t.v_QUOTE
 m_PLUS:mg "PLUS" = some t.v_PLUS
 r_PLUS:RelV (.int 43) t.v_PLUS
 m_COMMA:mg "COMMA" = some t.v_COMMA
 r_COMMA:RelV (.int 44) t.v_COMMA
 m_MINUS:mg "MINUS" = some t.v_MINUS
 r_MINUS:RelV (.int 45) t.v_MINUS
 m_POINT:mg "POINT" = some t.v_POINT
 r_POINT:RelV (.int 46) t.v_POINT
 m_NOUGHT:mg "NOUGHT" = some t.v_NOUGHT
 r_NOUGHT:RelV (.int 48) t.v_NOUGHT
 m_NINE:mg "NINE" = some t.v_NINE
 r_NINE:RelV (.int 57) t.v_NINE
 m_COLON:mg "COLON" = some t.v_COLON
 r_COLON:RelV (.int 58) t.v_COLON
 m_BIG_E:mg "BIG_E" = some t.v_BIG_E
 r_BIG_E:RelV (.int 69) t.v_BIG_E
 m_ROW_BEGIN:mg "ROW_BEGIN" = some t.v_ROW_BEGIN
 r_ROW_BEGIN:RelV (.int 91) t.v_ROW_BEGIN
 m_BACKSLASH:mg "BACKSLASH" = some t.v_BACKSLASH
 r_BACKSLASH:RelV (.int 92) t.v_BACKSLASH
 m_ROW_END:mg "ROW_END" = some t.v_ROW_END
 r_ROW_END:RelV (.int 93) t.v_ROW_END
 m_SMALL_E:mg "SMALL_E" = some t.v_SMALL_E
 r_SMALL_E:RelV (.int 101) t.v_SMALL_E
 m_SMALL_U:mg "SMALL_U" = some t.v_SMALL_U
 r_SMALL_U:RelV (.int 117) t.v_SMALL_U
 m_FIELDS_BEGIN:mg "FIELDS_BEGIN" = some t.v_FIELDS_BEGIN
 r_FIELDS_BEGIN:RelV (.int 123) t.v_FIELDS_BEGIN
 m_FIELDS_END:mg "FIELDS_END" = some t.v_FIELDS_END
 r_FIELDS_END:RelV (.int 125) t.v_FIELDS_END
 m_WHITE:mg "WHITE" = some (.ref t.v_WHITE)
 r_WHITE:RelV (.ref t.v_WHITE) (.ref t.v_WHITE)
 q_WHITE:∀ H,SqT K H t.v_WHITE [.int 9,.int 10,.int 13,.int 32]
 m_WORDS:mg "WORDS" = some (.ref t.v_WORDS)
 r_WORDS:RelV (.ref t.v_WORDS) (.ref t.v_WORDS)
 q_WORDS:DKP K t.v_WORDS [(110,.tup ([117,108,108].map .int)),(116,.tup ([114,117,101].map .int)),(102,.tup ([97,108,115,101].map .int))]
 m_SHORT_ESCAPES:mg "SHORT_ESCAPES" = some (.ref t.v_SHORT_ESCAPES)
 r_SHORT_ESCAPES:RelV (.ref t.v_SHORT_ESCAPES) (.ref t.v_SHORT_ESCAPES)
 q_SHORT_ESCAPES:DKP K t.v_SHORT_ESCAPES [(34,.int 34),(92,.int 92),(47,.int 47),(98,.int 8),(102,.int 12),(110,.int 10),(114,.int 13),(116,.int 9)]
 m_CODE_SIZE:mg "CODE_SIZE" = some t.v_CODE_SIZE
 r_CODE_SIZE:RelV (.int 6) t.v_CODE_SIZE
 m_MOST_BRACKETS:mg "MOST_BRACKETS" = some t.v_MOST_BRACKETS
 r_MOST_BRACKETS:RelV (.int 64) t.v_MOST_BRACKETS
 m_LOOSE:mg "LOOSE" = some (.ref t.v_LOOSE)
 r_LOOSE:RelV (.ref t.v_LOOSE) (.ref t.v_LOOSE)
 q_LOOSE:∀ H,SqT K H t.v_LOOSE [.str "white",.str "figures",.str "fraction",.str "exponent",.str "sign"]
 m_UNENDED:mg "UNENDED" = some (.ref t.v_UNENDED)
 r_UNENDED:RelV (.ref t.v_UNENDED) (.ref t.v_UNENDED)
 q_UNENDED:∀ H,SqT K H t.v_UNENDED [.str "row",.str "more row",.str "fields",.str "more fields"]
 m_KINDS:mg "KINDS" = some (.ref t.v_KINDS)
 r_KINDS:RelV (.ref t.v_KINDS) (.ref t.v_KINDS)
 q_KINDS:DKP K t.v_KINDS [(34,.str "text"),(91,.str "row"),(102,.str "false"),(110,.str "null"),(116,.str "true"),(123,.str "fields")]
noncomputable def bM (t:Adr) (c:String):Option Addr:=if c = "GlassError" then some t.C_GlassError else if c = "Fault" then some t.C_Fault else if c = "NoNode" then some t.C_NoNode else if c = "Walk" then some t.C_Walk else none
theorem oS {K:PySem.W.Frag} {mg:Str -> Option Value} {t:Adr} (T:Txt K mg t):∀ c C b,bM t c = some C -> iO c = some b -> uA K t.C_GlassError C b:=by
 intro c C b h1 h2
 unfold bM at h1
 unfold iO at h2
 by_cases e:c = "GlassError"
 . subst e; simp at h1 h2; subst h1; subst h2; exact takes T.e_GlassError T.e_GlassError (by simp)
 rw [if_neg e] at h1
 by_cases e:c = "Fault"
 . subst e; simp at h1 h2; subst h1; subst h2; exact takes T.e_Fault T.e_GlassError (by simp)
 rw [if_neg e] at h1
 by_cases e:c = "NoNode"
 . subst e; simp at h1 h2; subst h1; subst h2; exact takes T.e_NoNode T.e_GlassError (by simp)
 rw [if_neg e] at h1
 by_cases e:c = "Walk"
 . subst e; simp at h2
 rw [if_neg e] at h1
 cases h1
theorem yC {K:PySem.W.Frag} {mg:Str -> Option Value} {t:Adr} (T:Txt K mg t):∀ c C,bM t c = some C -> (c == "NoNode") = true -> ∃ bm,nK K C bm /\ ((∃ B bmB,(.ref t.C_NoNode:V) = .ref B /\ nK K B bmB /\ (Value.ref C ::bm).contains (.ref B) = true) \/ ((.ref t.C_NoNode:V) = .ty "ValueError" /\ bm.contains (.type "ValueError") = true)):=by
 intro c C h1 h2
 unfold bM at h1
 by_cases e:c = "GlassError"
 . subst e; simp at h2
 rw [if_neg e] at h1
 by_cases e:c = "Fault"
 . subst e; simp at h2
 rw [if_neg e] at h1
 by_cases e:c = "NoNode"
 . subst e; simp at h1; subst h1; exact ⟨_,T.e_NoNode,.inl ⟨_,_,rfl,T.e_NoNode,by simp⟩⟩
 rw [if_neg e] at h1
 by_cases e:c = "Walk"
 . subst e; simp at h2
 rw [if_neg e] at h1
 cases h1
theorem jw {K:PySem.W.Frag} {mg:Str -> Option Value} {t:Adr} (T:Txt K mg t):∀ c C,bM t c = some C -> nJ c = true -> Cls K C /\ lU K C "coming":=by
 intro c C h1 h2
 unfold bM at h1
 unfold nJ at h2
 by_cases e:c = "GlassError"
 . subst e; simp at h2
 rw [if_neg e] at h1
 by_cases e:c = "Fault"
 . subst e; simp at h2
 rw [if_neg e] at h1
 by_cases e:c = "NoNode"
 . subst e; simp at h2
 rw [if_neg e] at h1
 by_cases e:c = "Walk"
 . subst e; simp at h1; subst h1; exact ⟨T.c_Walk,T.na_Walk_coming⟩
 rw [if_neg e] at h1
 cases h1
theorem LV {K:PySem.W.Frag} {mg:Str -> Option Value} {t:Adr} (T:Txt K mg t):∀ c C,bM t c = some C -> (c == "Fault") = true -> zc K C "at":=by
 intro c C h1 h2
 unfold bM at h1
 by_cases e:c = "GlassError"
 . subst e; simp at h2
 rw [if_neg e] at h1
 by_cases e:c = "Fault"
 . subst e; simp at h1; subst h1; exact T.k_Fault.xc
 rw [if_neg e] at h1
 by_cases e:c = "NoNode"
 . subst e; simp at h2
 rw [if_neg e] at h1
 by_cases e:c = "Walk"
 . subst e; simp at h2
 rw [if_neg e] at h1
 cases h1
section
variable {P:Program} {w:World} {K:PySem.W.Frag} {mg:Str -> Option Value} {base:Heap} {t:Adr}
theorem lV (T:Txt K mg t):cb P w K mg base (CXE P w) 1 t.f_Fault_init t.d_Fault_init ["self","at"] (sH t.C_Fault "at"):=DL T.F_Fault_init ub T.k_Fault.xc fun _ _ _ _ _ _=>Bl (qv 0) (qv 1)
theorem wY (T:Txt K mg t):cb P w K mg base (CXE P w) 1 t.iC t.d_law_cell ["_law_script","_law_k"] (spP K (bM t) iC):=
 eR T.F_law_cell xo fun cdv A outer s H E hr=>⟨_,(ai (bj (fh (qv 0) (fun _=>rfl)) (aq (aA (dv dy (qv 0) (aV fU (qv 1) (cR cw rfl T.n_len L2.E.boot_len (aa (qv 0) ak))) (fun _ _=>rfl)))) aH)
   (aq (aA ao))),
  (ay (bp (gi ae) (aD (aw eT ae (aw fG ae (gc jh ae)))) aI)
    (aD ah))⟩
theorem jq (T:Txt K mg t):cb P w K mg base (CXE P w) 2 t.dW t.d_law_mix ["_law_script","_law_k"] (spP K (bM t) dW):=
 eR T.F_law_mix pQ fun cdv A outer s H E hr=>⟨_,(ai (aX (i:=2) pQ.nd rfl (by first | exact Or.inl rfl | exact Or.inr rfl) (aV fU (aV cp (aC ((wY T).mono (by decide)) hr rfl T.mJ T.F_law_cell.kp T.b_law_cell .nil aF (aa (qv 0) (aa (qv 1) ak))) (aV pA ao (aV cp (qv 1) ao))) ao))
   (ai (aX (i:=2) pQ.nd rfl (by first | exact Or.inl rfl | exact Or.inr rfl) (aV fU (aV pA (qv 2) ao) ao))
   (aq (aA (aV fU (aV cp (aV pA (aV lq (qv 2) ao) ao) (qv 2)) ao))))),
  (ay (aZ (aw fG (aw cq (aG (af ae (af ae ax))) (aw pD ah (aw cq ae ah))) ah))
    (ay (aZ (aw fG (aw pD ae ah) ah))
    (aD (aw fG (aw cq (aw pD (aw ll ae ah) ah) ae) ah))))⟩
theorem p7 (T:Txt K mg t):cb P w K mg base (CXE P w) 1 t.cU t.d_law_point ["_law_number"] (spP K (bM t) cU):=
 eR T.F_law_point mV fun cdv A outer s H E hr=>⟨_,(ai (aX (i:=1) mV.nd rfl (by first | exact Or.inl rfl | exact Or.inr rfl) (aV fU (qv 0) ao))
   (ai (aX (i:=2) mV.nd rfl (by first | exact Or.inl rfl | exact Or.inr rfl) (aV lq (qv 0) ao))
   (ai (bj (aB jO (qv 1) ao (aL _)) (aq (aA (aV cp ao (aV fU (qv 2) ao)))) aH)
   (ai (bj (aB jO (qv 1) ao (aL _)) (aq (aA (dv dy (bq (aa ao (aa ao (aa ao (aa ao (aa ao (aa ao (aa ao (aa ao (aa ao (aa ao (aa ao ak)))))))))))) (aV fU (qv 2) ao) (fun _ _=>rfl)))) aH)
   (ai (bj (aB ck (qv 1) ao (aL _)) (aq (aA (aV cp ao (aV fU (qv 2) ao)))) aH)
   (ai (bj (aB ck (qv 1) ao (aL _)) (aq (aA (aV cp ao (aV fU (qv 2) ao)))) aH)
   (ai (bj (aB ck (qv 1) ao (aL _)) (aq (aA (aV cp ao (aV fU (qv 2) ao)))) aH)
   (aq (aA (aV cp ao (aV fU (qv 2) ao))))))))))),
  (ay (aZ (aw fG ae ah))
    (ay (aZ (aw ll ae ah))
    (ay (bp (az (aw jP ae ah)) (aD (aw cq ah (aw fG ae ah))) aI)
    (ay (bp (az (aw jP ae ah)) (aD (aw eT (br (af ah (af ah (af ah (af ah (af ah (af ah (af ah (af ah (af ah (af ah (af ah ax)))))))))))) (aw fG ae ah))) aI)
    (ay (bp (az (aw cj ae ah)) (aD (aw cq ah (aw fG ae ah))) aI)
    (ay (bp (az (aw cj ae ah)) (aD (aw cq ah (aw fG ae ah))) aI)
    (ay (bp (az (aw cj ae ah)) (aD (aw cq ah (aw fG ae ah))) aI)
    (aD (aw cq ah (aw fG ae ah))))))))))⟩
theorem uj (T:Txt K mg t):cb P w K mg base (CXE P w) 3 t.eS t.d_law_points ["_law_script","_law_k"] (spP K (bM t) eS):=
 eR T.F_law_points ka fun cdv A outer s H E hr=>⟨_,(ai (aX (i:=2) ka.nd rfl (by first | exact Or.inl rfl | exact Or.inr rfl) (aC ((jq T).mono (by decide)) hr rfl T.gP T.F_law_mix.kp T.b_law_mix .nil aF (aa (qv 0) (aa (qv 1) ak))))
   (ai (aX (i:=3) ka.nd rfl (by first | exact Or.inl rfl | exact Or.inr rfl) (aV fU (qv 2) ao))
   (ai (bj (aB ck (aV fU (aV lq (qv 2) ao) ao) ao (aL _)) (aq (aX (i:=3) ka.nd rfl (by first | exact Or.inl rfl | exact Or.inr rfl) (aV fU (aV lq (qv 2) ao) ao))) aH)
   (aq (aA (p6 (M:=["_law_script","_law_k"]) (ι:=[0,1]) (x:="_law_j") ⟨rfl,rfl,rfl,rfl,rfl,rfl,rfl,rfl,rfl,rfl,rfl,by decide +kernel⟩ rfl (mf rfl T.n_range (aa (qv 3) ak)) fun _ _ _ _=>(aC ((p7 T).mono (by decide)) hr rfl T.eW T.F_law_point.kp T.b_law_point .nil qZ (aa (aC ((jq T).mono (by decide)) hr rfl T.gP T.F_law_mix.kp T.b_law_mix .nil qZ (aa (qv 0) (aa (aV cp (aV cp (qv 1) ao) (qv 2)) ak))) ak)))))))),
  (ay (aZ (aG (af ae (af ae ax))))
    (ay (aZ (aw fG ae ah))
    (ay (bp (az (aw cj (aw fG (aw ll ae ah) ah) ah)) (aZ (aw fG (aw ll ae ah) ah)) aI)
    (aD (sJ (by decide) ae (aG (af (aG (af ae (af (aw cq (aw cq ae ah) ae) ax))) ax)))))))⟩
theorem vb (T:Txt K mg t):cb P w K mg base (CXE P w) 1 t.ee t.d_law_eight ["_law_point_here"] (spP K (bM t) ee):=
 eR T.F_law_eight iJ fun cdv A outer s H E hr=>⟨_,(ai (bj (aB jO (qv 0) ao (aL _)) (aq (aA (bq (aa (qv 0) ak)))) aH)
   (ai (aX (i:=1) iJ.nd rfl (by first | exact Or.inl rfl | exact Or.inr rfl) (aV cp (aV cp ao (qI uL rfl T.n_int L2.E.boot_int (aa (iR zj (qv 0) ao (aL _)) ak))) (qI uL rfl T.n_int L2.E.boot_int (aa (iR zj (qv 0) ao (aL _)) ak))))
   (ai (aX (i:=2) iJ.nd rfl (by first | exact Or.inl rfl | exact Or.inr rfl) (bq ak))
   (ai (pE gV rfl (mf rfl T.n_range (aa (qv 1) ak)) (lM (i:=3) iJ.nd rfl (by first | exact Or.inl rfl | exact Or.inr rfl)) (ai (aX (i:=2) iJ.nd rfl (by first | exact Or.inl rfl | exact Or.inr rfl) (aV fB (bq (aa (aV cp ao (aV fU (qv 0) ao)) ak)) (qv 2)))
   (aq (aX (i:=0) iJ.nd rfl (by first | exact Or.inl rfl | exact Or.inr rfl) (aV lq (qv 0) ao)))))
   (aq (aA (aV fB (bq (aa (aV cp (dv dy (bq (aa ao (aa ao (aa ao ak)))) (aV ko (qv 1) ao) (fun _ _=>rfl)) (qv 0)) ak)) (qv 2)))))))),
  (ay (bp (az (aw jP ae ah)) (aD (br (af ae ax))) aI)
    (ay (aZ (aw cq (aw cq ah (gc zU (aw ze ae ah))) (gc zU (aw ze ae ah))))
    (ay (aZ (br ax))
    (ay (Ae ae (ay (aZ (aw iA (br (af (aw cq ah (aw fG ae ah)) ax)) ae))
    (aZ (aw ll ae ah))))
    (aD (aw iA (br (af (aw cq (aw eT (br (af ah (af ah (af ah ax)))) (aw km ae ah)) ae) ax)) ae))))))⟩
theorem pk (T:Txt K mg t):cb P w K mg base (CXE P w) 1 t.gQ t.d_law_hex ["_law_number","_law_big"] (spP K (bM t) gQ):=
 eR T.F_law_hex jf fun cdv A outer s H E hr=>⟨_,(ai (aX (i:=2) jf.nd rfl (by first | exact Or.inl rfl | exact Or.inr rfl) (bq ak))
   (ai (pE gV rfl (mf rfl T.n_range (aa ao ak)) (lM (i:=3) jf.nd rfl (by first | exact Or.inl rfl | exact Or.inr rfl)) (ai (aX (i:=4) jf.nd rfl (by first | exact Or.inl rfl | exact Or.inr rfl) (aV fU (qv 0) ao))
   (ai (bj (aB jO (qv 4) ao (aL _)) (aq (aX (i:=2) jf.nd rfl (by first | exact Or.inl rfl | exact Or.inr rfl) (aV fB (bq (aa (aV cp ao (qv 4)) ak)) (qv 2)))) (aq (aX (i:=2) jf.nd rfl (by first | exact Or.inl rfl | exact Or.inr rfl) (aV fB (bq (aa (aV cp (dR (by exact (fh (qv 1) (fun _=>rfl))) ao ao) (qv 4)) ak)) (qv 2)))))
   (aq (aX (i:=0) jf.nd rfl (by first | exact Or.inl rfl | exact Or.inr rfl) (aV lq (qv 0) ao))))))
   (aq (aA (aV fB (bq (aa ao (aa ao ak))) (qv 2)))))),
  (ay (aZ (br ax))
    (ay (Ae ah (ay (aZ (aw fG ae ah))
    (ay (bp (az (aw jP ae ah)) (aZ (aw iA (br (af (aw cq ah ae) ax)) ae)) (aZ (aw iA (br (af (aw cq (jQ (gi ae) ah ah) ae) ax)) ae)))
    (aZ (aw ll ae ah)))))
    (aD (aw iA (br (af ah (af ah ax))) ae))))⟩
theorem xN (T:Txt K mg t):cb P w K mg base (CXE P w) 2 t.iE t.d_law_sign ["_law_point_here","_law_number"] (spP K (bM t) iE):=
 eR T.F_law_sign lx fun cdv A outer s H E hr=>⟨_,(ai (aX (i:=2) lx.nd rfl (by first | exact Or.inl rfl | exact Or.inr rfl) (EH (kj ao ao (kj ao ao (kj ao ao (kj ao ao (kj ao ao (kj ao ao (kj ao ao (kj ao ao Ea))))))))))
   (ai (aX (i:=3) lx.nd rfl (by first | exact Or.inl rfl | exact Or.inr rfl) (aV fU (qv 1) ao))
   (ai (bj (pU (nZ (aB ck (qv 3) ao (aL _)) (qp (Iu (Fx hr) (qv 0) (qv 2))))) (aq (aA (bq (aa ao (aa (E2 (Fx hr) (qv 2) (qv 0) (fun _ _=>rfl)) ak))))) aH)
   (ai (bj (pU (nZ (aB JG (qv 3) ao (aL _)) (nZ (aB zj (qv 0) ao (aL _)) (nZ (aB sx (qv 0) ao (aL _)) (qp (aB sx (qv 0) ao (aL _))))))) (aq (aA (aC ((vb T).mono (by decide)) hr rfl T.iz T.F_law_eight.kp T.b_law_eight .nil aF (aa (qv 0) ak)))) aH)
   (ai (bj (aB jO (qv 0) ao (aL _)) (aq (aA (aC ((pk T).mono (by decide)) hr rfl T.kP T.F_law_hex.kp T.b_law_hex .nil aF (aa (qv 0) (aa (iR ck (qv 3) ao (aL _)) ak))))) aH)
   (ai (aX (i:=4) lx.nd rfl (by first | exact Or.inl rfl | exact Or.inr rfl) (aV ko (qv 0) ao))
   (aq (aA (aV fB (aC ((pk T).mono (by decide)) hr rfl T.kP T.F_law_hex.kp T.b_law_hex .nil aF (aa (aV cp ao (aV lq (qv 4) ao)) (aa (iR ck (qv 3) ao (aL _)) ak))) (aC ((pk T).mono (by decide)) hr rfl T.kP T.F_law_hex.kp T.b_law_hex .nil aF (aa (aV cp ao (aV fU (qv 4) ao)) (aa (iR ck (qv 3) ao (aL _)) ak)))))))))))),
  (ay (vA (Gi (kvs:=[(34,34),(92,92),(47,47),(8,98),(12,102),(10,110),(13,114),(9,116)]) (by decide) (by decide)))
    (ay (aZ (aw fG ae ah))
    (ay (bp (n8 (az (aw cj ae ah)) (az (EM ae jK))) (aD (br (af ah (af (Eb jK ae) ax)))) aI)
    (ay (bp (n8 (az (aw Js ae ah)) (n8 (az (aw ze ae ah)) (n8 (az (aw sO ae ah)) (az (aw sO ae ah))))) (aD (aG (af ae ax))) aI)
    (ay (bp (az (aw jP ae ah)) (aD (aG (af ae (af (aw cj ae ah) ax)))) aI)
    (ay (aZ (aw km ae ah))
    (aD (aw iA (aG (af (aw cq ah (aw ll ae ah)) (af (aw cj ae ah) ax))) (aG (af (aw cq ah (aw fG ae ah)) (af (aw cj ae ah) ax)))))))))))⟩
theorem rA (T:Txt K mg t):cb P w K mg base (CXE P w) 3 t.fP t.d_law_text ["_law_points_here","_law_number"] (spP K (bM t) fP):=
 eR T.F_law_text ju fun cdv A outer s H E hr=>⟨_,(ai (aX (i:=2) ju.nd rfl (by first | exact Or.inl rfl | exact Or.inr rfl) (bq (aa ao ak)))
   (ai (aX (i:=3) ju.nd rfl (by first | exact Or.inl rfl | exact Or.inr rfl) ao)
   (ai (pE gV rfl (mR (qv 0)) (lM (i:=4) ju.nd rfl (by first | exact Or.inl rfl | exact Or.inr rfl)) (ai (aX (i:=2) ju.nd rfl (by first | exact Or.inl rfl | exact Or.inr rfl) (aV fB (qv 2) (aC ((xN T).mono (by decide)) hr rfl T.mM T.F_law_sign.kp T.b_law_sign .nil aF (aa (qv 4) (aa (aV cp (aV lq (qv 1) (aV cp ao (aV fU (qv 3) ao))) (qv 3)) ak)))))
   (aq (aX (i:=3) ju.nd rfl (by first | exact Or.inl rfl | exact Or.inr rfl) (aV cp (qv 3) ao)))))
   (aq (aA (aV fB (qv 2) (bq (aa ao ak)))))))),
  (ay (aZ (br (af ah ax)))
    (ay (aZ ah)
    (ay (rZ ae (ay (aZ (aw iA ae (aG (af ae (af (aw cq (aw ll ae (aw cq ah (aw fG ae ah))) ae) ax)))))
    (aZ (aw cq ae ah))))
    (aD (aw iA ae (br (af ah ax)))))))⟩
theorem qz (T:Txt K mg t):cb P w K mg base (CXE P w) 1 t.cY t.d_Walk___init__ ["self"] (spI K (bM t) cY):=
 xx T.F_Walk___init__ qV fun cdv A outer s H E hr=>⟨_,(aq (GA (qv 0) (bq (aa aO (aa aO (aa aO ak)))))),
  (E7 jK (Ij (br (af aP (af aP (af aP ax))))) (jw T))⟩
theorem vN (T:Txt K mg t):cb P w K mg base (CXE P w) 1 t.eV t.d_word_rest ["byte"] (spP K (bM t) eV):=
 eR T.F_word_rest wq fun cdv A outer s H E hr=>⟨_,(aq (aA (xS (aK rfl T.m_WORDS T.r_WORDS) (qv 0)))),
  (aD (wQ T.q_WORDS ae))⟩
theorem mG (T:Txt K mg t):cb P w K mg base (CXE P w) 1 t.eY t.d_is_figure ["byte"] (spP K (bM t) eY):=
 eR T.F_is_figure vt fun cdv A outer s H E hr=>⟨_,(aq (aA (Dp kd kd (aK rfl T.m_NOUGHT T.r_NOUGHT) (qv 0) (aK rfl T.m_NINE T.r_NINE)))),
  (aD (i5 kf kf ah ae ah))⟩
theorem nO (T:Txt K mg t):cb P w K mg base (CXE P w) 2 t.dC t.d_behind_lead ["byte"] (spP K (bM t) dC):=
 eR T.F_behind_lead sP fun cdv A outer s H E hr=>⟨_,(ai (bj (aB ck (qv 0) (aK rfl T.m_NOUGHT T.r_NOUGHT) (aL _)) (aq (aA (bq (aa aO (aa aO ak))))) aH)
   (ai (bj (fh (aC ((mG T).mono (by decide)) hr rfl T.js T.F_is_figure.kp T.b_is_figure .nil aF (aa (qv 0) ak)) (fun _=>rfl)) (aq (aA (bq (aa aO (aa aO (aa aO ak)))))) aH)
   (aq (aA dq)))),
  (ay (bp (az (aw cj ae ah)) (aD (br (af aP (af aP ax)))) aI)
    (ay (bp (gi (aG (af ae ax))) (aD (br (af aP (af aP (af aP ax))))) aI)
    (aD dk)))⟩
theorem nz (T:Txt K mg t):cb P w K mg base (CXE P w) 3 t.bB t.d_behind_value ["byte"] (spP K (bM t) bB):=
 eR T.F_behind_value nC fun cdv A outer s H E hr=>⟨_,(ai (bj (aB ck (qv 0) (aK rfl T.m_ROW_BEGIN T.r_ROW_BEGIN) (aL _)) (aq (aA (bq (aa aO (aa aO ak))))) aH)
   (ai (bj (aB ck (qv 0) (aK rfl T.m_FIELDS_BEGIN T.r_FIELDS_BEGIN) (aL _)) (aq (aA (bq (aa aO (aa aO ak))))) aH)
   (ai (bj (aB ck (qv 0) (aK rfl T.m_QUOTE T.r_QUOTE) (aL _)) (aq (aA (bq (aa aO ak)))) aH)
   (ai (bj (aB ck (qv 0) (aK rfl T.m_MINUS T.r_MINUS) (aL _)) (aq (aA (bq (aa aO ak)))) aH)
   (ai (aX (i:=1) nC.nd rfl (by first | exact Or.inl rfl | exact Or.inr rfl) (aC ((vN T).mono (by decide)) hr rfl T.hZ T.F_word_rest.kp T.b_word_rest .nil aF (aa (qv 0) ak)))
   (ai (bj (aB vW (qv 1) dq (aL _)) (aq (aA (p6 (M:=[]) (ι:=[]) (x:="sign") ⟨rfl,rfl,rfl,rfl,rfl,rfl,rfl,rfl,rfl,rfl,rfl,by decide +kernel⟩ rfl (HA (qv 1)) fun _ _ _ _=>(eJ (aa (qv 0) (aa (qv 0) ak)))))) aH)
   (aq (aA (aC ((nO T).mono (by decide)) hr rfl T.gL T.F_behind_lead.kp T.b_behind_lead .nil aF (aa (qv 0) ak)))))))))),
  (ay (bp (az (aw cj ae ah)) (aD (br (af aP (af aP ax)))) aI)
    (ay (bp (az (aw cj ae ah)) (aD (br (af aP (af aP ax)))) aI)
    (ay (bp (az (aw cj ae ah)) (aD (br (af aP ax))) aI)
    (ay (bp (az (aw cj ae ah)) (aD (br (af aP ax))) aI)
    (ay (aZ (aG (af ae ax)))
    (ay (bp (az (aw u5 ae dk)) (aD (C5 (by decide) ae (eB (af ae (af ae ax))))) aI)
    (aD (aG (af ae ax)))))))))⟩
theorem oQ (T:Txt K mg t):cb P w K mg base (CXE P w) 3 t.aY t.d_behind_in_number ["item","byte"] (spP K (bM t) aY):=
 eR T.F_behind_in_number oK fun cdv A outer s H E hr=>⟨_,(ai (bj (aB ck (qv 0) aO (aL _)) (aq (aA (aC ((nO T).mono (by decide)) hr rfl T.gL T.F_behind_lead.kp T.b_behind_lead .nil aF (aa (qv 1) ak)))) aH)
   (ai (bj (aB ck (qv 0) aO (aL _)) (aq (aA (dR (by exact (fh (aC ((mG T).mono (by decide)) hr rfl T.js T.F_is_figure.kp T.b_is_figure .nil aF (aa (qv 1) ak)) (fun _=>rfl))) (bq (aa aO ak)) dq))) aH)
   (ai (bj (aB ck (qv 0) aO (aL _)) (aq (aA (dR (by exact (aB ck (qv 1) (aK rfl T.m_POINT T.r_POINT) (aL _))) (bq (aa (eJ (aa (aK rfl T.m_NOUGHT T.r_NOUGHT) (aa (aK rfl T.m_NINE T.r_NINE) ak))) (aa aO ak))) dq))) aH)
   (ai (bj (aB ck (qv 0) aO (aL _)) (aq (aA (dR (by exact (aB kn (qv 1) (eJ (aa (aK rfl T.m_SMALL_E T.r_SMALL_E) (aa (aK rfl T.m_BIG_E T.r_BIG_E) ak))) rfl)) (bq (aa aO (aa (eJ (aa (aK rfl T.m_NOUGHT T.r_NOUGHT) (aa (aK rfl T.m_NINE T.r_NINE) ak))) (aa aO ak)))) dq))) aH)
   (aq (aA (dR (by exact (aB kn (qv 1) (eJ (aa (aK rfl T.m_PLUS T.r_PLUS) (aa (aK rfl T.m_MINUS T.r_MINUS) ak))) rfl)) (bq ak) dq))))))),
  (ay (bp (az (aw cj ae aP)) (aD (aG (af ae ax))) aI)
    (ay (bp (az (aw cj ae aP)) (aD (jQ (gi (aG (af ae ax))) (br (af aP ax)) dk)) aI)
    (ay (bp (az (aw cj ae aP)) (aD (jQ (az (aw cj ae ah)) (br (af (eB (af ah (af ah ax))) (af aP ax))) dk)) aI)
    (ay (bp (az (aw cj ae aP)) (aD (jQ (az (aw (ny hr.units) ae (eB (af ah (af ah ax))))) (br (af aP (af (eB (af ah (af ah ax))) (af aP ax)))) dk)) aI)
    (aD (jQ (az (aw (ny hr.units) ae (eB (af ah (af ah ax))))) (br ax) dk))))))⟩
theorem m5 (T:Txt K mg t):cb P w K mg base (CXE P w) 2 t.er t.d_hex_worth ["byte"] (spP K (bM t) er):=
 eR T.F_hex_worth vI fun cdv A outer s H E hr=>⟨_,(ai (bj (fh (aC ((mG T).mono (by decide)) hr rfl T.js T.F_is_figure.kp T.b_is_figure .nil aF (aa (qv 0) ak)) (fun _=>rfl)) (aq (aA (aV ko (qv 0) (aK rfl T.m_NOUGHT T.r_NOUGHT)))) aH)
   (ai (bj (jL kd kd ao (qv 0) ao) (aq (aA (aV ko (qv 0) ao))) aH)
   (ai (bj (jL kd kd ao (qv 0) ao) (aq (aA (aV ko (qv 0) ao))) aH)
   (aq (aA dq))))),
  (ay (bp (gi (aG (af ae ax))) (aD (aw km ae ah)) aI)
    (ay (bp (az (i5 kf kf ah ae ah)) (aD (aw km ae ah)) aI)
    (ay (bp (az (i5 kf kf ah ae ah)) (aD (aw km ae ah)) aI)
    (aD dk))))⟩
theorem qL (T:Txt K mg t):cb P w K mg base (CXE P w) 1 t.da t.d_behind_code_d ["worth"] (spP K (bM t) da):=
 eR T.F_behind_code_d mj fun cdv A outer s H E hr=>⟨_,(ai (bj (aB jO (qv 0) ao (aL _)) (aq (aA (bq (aa aO (aa aO ak))))) aH)
   (ai (bj (aB jO (qv 0) ao (aL _)) (ai (aX (i:=1) mj.nd rfl (by first | exact Or.inl rfl | exact Or.inr rfl) (bq (aa (eJ (aa (aK rfl T.m_BACKSLASH T.r_BACKSLASH) (aa (aK rfl T.m_BACKSLASH T.r_BACKSLASH) ak))) (aa (eJ (aa (aK rfl T.m_SMALL_U T.r_SMALL_U) (aa (aK rfl T.m_SMALL_U T.r_SMALL_U) ak))) (aa aO (aa aO (aa aO (aa aO ak))))))))
   (aq (aA (aV fB (bq (aa aO (aa aO ak))) (qv 1))))) aH)
   (aq (aA dq)))),
  (ay (bp (az (aw jP ae ah)) (aD (br (af aP (af aP ax)))) aI)
    (ay (bp (az (aw jP ae ah)) (ay (aZ (br (af (eB (af ah (af ah ax))) (af (eB (af ah (af ah ax))) (af aP (af aP (af aP (af aP ax))))))))
    (aD (aw iA (br (af aP (af aP ax))) ae))) aI)
    (aD dk)))⟩
theorem pj (T:Txt K mg t):cb P w K mg base (CXE P w) 1 t.bJ t.d_second_of_three ["byte"] (spP K (bM t) bJ):=
 eR T.F_second_of_three pG fun cdv A outer s H E hr=>⟨_,(ai (bj (aB ck (qv 0) ao (aL _)) (aq (aA (eJ (aa ao (aa ao ak))))) aH)
   (ai (bj (aB ck (qv 0) ao (aL _)) (aq (aA (eJ (aa ao (aa ao ak))))) aH)
   (aq (aA (aK rfl T.m_TAIL T.r_TAIL))))),
  (ay (bp (az (aw cj ae ah)) (aD (eB (af ah (af ah ax)))) aI)
    (ay (bp (az (aw cj ae ah)) (aD (eB (af ah (af ah ax)))) aI)
    (aD (lP T.q_TAIL))))⟩
theorem qb (T:Txt K mg t):cb P w K mg base (CXE P w) 1 t.bN t.d_second_of_four ["byte"] (spP K (bM t) bN):=
 eR T.F_second_of_four p9 fun cdv A outer s H E hr=>⟨_,(ai (bj (aB ck (qv 0) ao (aL _)) (aq (aA (eJ (aa ao (aa ao ak))))) aH)
   (ai (bj (aB ck (qv 0) ao (aL _)) (aq (aA (eJ (aa ao (aa ao ak))))) aH)
   (aq (aA (aK rfl T.m_TAIL T.r_TAIL))))),
  (ay (bp (az (aw cj ae ah)) (aD (eB (af ah (af ah ax)))) aI)
    (ay (bp (az (aw cj ae ah)) (aD (eB (af ah (af ah ax)))) aI)
    (aD (lP T.q_TAIL))))⟩
theorem wH (T:Txt K mg t):cb P w K mg base (CXE P w) 2 t.eU t.d_tails ["byte"] (spP K (bM t) eU):=
 eR T.F_tails CL fun cdv A outer s H E hr=>⟨_,(ai (bj (jL kd jO ao (qv 0) ao) (aq (aA (bq ak))) aH)
   (ai (bj (jL kd jO ao (qv 0) ao) (aq (aA (bq (aa (aK rfl T.m_TAIL T.r_TAIL) ak)))) aH)
   (ai (bj (jL kd jO ao (qv 0) ao) (aq (aA (bq (aa (aC ((pj T).mono (by decide)) hr rfl T.dG T.F_second_of_three.kp T.b_second_of_three .nil aF (aa (qv 0) ak)) (aa (aK rfl T.m_TAIL T.r_TAIL) ak))))) aH)
   (ai (bj (jL kd jO ao (qv 0) ao) (aq (aA (bq (aa (aC ((qb T).mono (by decide)) hr rfl T.dU T.F_second_of_four.kp T.b_second_of_four .nil aF (aa (qv 0) ak)) (aa (aK rfl T.m_TAIL T.r_TAIL) (aa (aK rfl T.m_TAIL T.r_TAIL) ak)))))) aH)
   (aq (aA dq)))))),
  (ay (bp (az (i5 kf jP ah ae ah)) (aD (br ax)) aI)
    (ay (bp (az (i5 kf jP ah ae ah)) (aD (br (af (lP T.q_TAIL) ax))) aI)
    (ay (bp (az (i5 kf jP ah ae ah)) (aD (br (af (aG (af ae ax)) (af (lP T.q_TAIL) ax)))) aI)
    (ay (bp (az (i5 kf jP ah ae ah)) (aD (br (af (aG (af ae ax)) (af (lP T.q_TAIL) (af (lP T.q_TAIL) ax))))) aI)
    (aD dk)))))⟩
theorem oJ (T:Txt K mg t):cb P w K mg base (CXE P w) 3 t.bK t.d_behind_character ["byte"] (spP K (bM t) bK):=
 eR T.F_behind_character kE fun cdv A outer s H E hr=>⟨_,(ai (bj (aB ck (qv 0) (aK rfl T.m_QUOTE T.r_QUOTE) (aL _)) (aq (aA (bq ak))) aH)
   (ai (bj (aB ck (qv 0) (aK rfl T.m_BACKSLASH T.r_BACKSLASH) (aL _)) (aq (aA (bq (aa aO (aa aO ak))))) aH)
   (ai (aX (i:=1) kE.nd rfl (by first | exact Or.inl rfl | exact Or.inr rfl) (aC ((wH T).mono (by decide)) hr rfl T.gZ T.F_tails.kp T.b_tails .nil aF (aa (qv 0) ak)))
   (ai (bj (pU (zt (aB jO (qv 0) (aK rfl T.m_BLANK T.r_BLANK) (aL _)) (u3 (aB qU (qv 1) dq (aL _))))) (aq (aA dq)) aH)
   (aq (aA (aV fB (qv 1) (bq (aa aO ak))))))))),
  (ay (bp (az (aw cj ae ah)) (aD (br ax)) aI)
    (ay (bp (az (aw cj ae ah)) (aD (br (af aP (af aP ax)))) aI)
    (ay (aZ (aG (af ae ax)))
    (ay (bp (zL (az (aw jP ae ah)) (az (aw qT ae dk))) (aD dk) aI)
    (aD (aw iA ae (br (af aP ax))))))))⟩
theorem nj (T:Txt K mg t):cb P w K mg base (CXE P w) 1 t.bu t.d_short_escape ["byte"] (spP K (bM t) bu):=
 eR T.F_short_escape rK fun cdv A outer s H E hr=>⟨_,(aq (aA (xS (aK rfl T.m_SHORT_ESCAPES T.r_SHORT_ESCAPES) (qv 0)))),
  (aD (wQ T.q_SHORT_ESCAPES ae))⟩
theorem oV (T:Txt K mg t):cb P w K mg base (CXE P w) 2 t.cu t.d_behind_backslash ["byte"] (spP K (bM t) cu):=
 eR T.F_behind_backslash oP fun cdv A outer s H E hr=>⟨_,(ai (bj (aB ck (qv 0) (aK rfl T.m_SMALL_U T.r_SMALL_U) (aL _)) (aq (aA (bq (aa aO ak)))) aH)
   (aq (aA (dR (by exact (aB qU (aC ((nj T).mono (by decide)) hr rfl T.bO T.F_short_escape.kp T.b_short_escape .nil aF (aa (qv 0) ak)) dq (aL _))) dq (bq ak))))),
  (ay (bp (az (aw cj ae ah)) (aD (br (af aP ax))) aI)
    (aD (jQ (az (aw qT (aG (af ae ax)) dk)) dk (br ax))))⟩
theorem ql (T:Txt K mg t):cb P w K mg base (CXE P w) 4 t.bI t.d_behind_in_text ["item","byte"] (spP K (bM t) bI):=
 eR T.F_behind_in_text lO fun cdv A outer s H E hr=>⟨_,(ai (bj (aB ck (qv 0) aO (aL _)) (aq (aA (aC ((oJ T).mono (by decide)) hr rfl T.dc T.F_behind_character.kp T.b_behind_character .nil aF (aa (qv 1) ak)))) aH)
   (ai (bj (aB ck (qv 0) aO (aL _)) (aq (aA (aC ((oV T).mono (by decide)) hr rfl T.fq T.F_behind_backslash.kp T.b_behind_backslash .nil aF (aa (qv 1) ak)))) aH)
   (ai (aX (i:=2) lO.nd rfl (by first | exact Or.inl rfl | exact Or.inr rfl) (aC ((m5 T).mono (by decide)) hr rfl T.jx T.F_hex_worth.kp T.b_hex_worth .nil aF (aa (qv 1) ak)))
   (ai (bj (aB qU (qv 2) dq (aL _)) (aq (aA dq)) aH)
   (ai (bj (aB ck (qv 0) aO (aL _)) (aq (aA (dR (by exact (aB ck (qv 2) ao (aL _))) (bq (aa aO ak)) (bq (aa aO (aa aO (aa aO ak))))))) aH)
   (aq (aA (aC ((qL T).mono (by decide)) hr rfl T.gK T.F_behind_code_d.kp T.b_behind_code_d .nil aF (aa (qv 2) ak))))))))),
  (ay (bp (az (aw cj ae aP)) (aD (aG (af ae ax))) aI)
    (ay (bp (az (aw cj ae aP)) (aD (aG (af ae ax))) aI)
    (ay (aZ (aG (af ae ax)))
    (ay (bp (az (aw qT ae dk)) (aD dk) aI)
    (ay (bp (az (aw cj ae aP)) (aD (jQ (az (aw cj ae ah)) (br (af aP ax)) (br (af aP (af aP (af aP ax)))))) aI)
    (aD (aG (af ae ax))))))))⟩
theorem ue (T:Txt K mg t):cb P w K mg base (CXE P w) 3 t.dF t.d_behind_hex ["item","byte"] (spP K (bM t) dF):=
 eR T.F_behind_hex oY fun cdv A outer s H E hr=>⟨_,(ai (aX (i:=2) oY.nd rfl (by first | exact Or.inl rfl | exact Or.inr rfl) (aC ((m5 T).mono (by decide)) hr rfl T.jx T.F_hex_worth.kp T.b_hex_worth .nil aF (aa (qv 1) ak)))
   (ai (bj (aB qU (qv 2) dq (aL _)) (aq (aA dq)) aH)
   (ai (bj (aB ck (qv 0) aO (aL _)) (aq (aA (dR (by exact (aB ck (qv 2) ao (aL _))) (bq ak) dq))) aH)
   (ai (bj (aB ck (qv 0) aO (aL _)) (aq (aA (dR (by exact (aB zj (qv 2) ao (aL _))) (bq ak) dq))) aH)
   (aq (aA (bq ak))))))),
  (ay (aZ (aG (af ae ax)))
    (ay (bp (az (aw qT ae dk)) (aD dk) aI)
    (ay (bp (az (aw cj ae aP)) (aD (jQ (az (aw cj ae ah)) (br ax) dk)) aI)
    (ay (bp (az (aw cj ae aP)) (aD (jQ (az (aw ze ae ah)) (br ax) dk)) aI)
    (aD (br ax))))))⟩
theorem oN (T:Txt K mg t):cb P w K mg base (CXE P w) 4 t.b5 t.d_behind_row_begin ["byte"] (spP K (bM t) b5):=
 eR T.F_behind_row_begin kI fun cdv A outer s H E hr=>⟨_,(ai (bj (aB ck (qv 0) (aK rfl T.m_ROW_END T.r_ROW_END) (aL _)) (aq (aA (bq ak))) aH)
   (ai (aX (i:=1) kI.nd rfl (by first | exact Or.inl rfl | exact Or.inr rfl) (aC ((nz T).mono (by decide)) hr rfl T.cA T.F_behind_value.kp T.b_behind_value .nil aF (aa (qv 0) ak)))
   (aq (aA (dR (by exact (aB qU (qv 1) dq (aL _))) dq (aV fB (qv 1) (bq (aa aO (aa aO ak))))))))),
  (ay (bp (az (aw cj ae ah)) (aD (br ax)) aI)
    (ay (aZ (aG (af ae ax)))
    (aD (jQ (az (aw qT ae dk)) dk (aw iA ae (br (af aP (af aP ax))))))))⟩
theorem nT (T:Txt K mg t):cb P w K mg base (CXE P w) 1 t.d5 t.d_member_rest [] (spP K (bM t) d5):=
 eR T.F_member_rest tK fun cdv A outer s H E hr=>⟨_,(aq (aA (bq (aa aO (aa (eJ (aa (aK rfl T.m_COLON T.r_COLON) (aa (aK rfl T.m_COLON T.r_COLON) ak))) (aa aO (aa aO (aa aO (aa aO ak))))))))),
  (aD (br (af aP (af (eB (af ah (af ah ax))) (af aP (af aP (af aP (af aP ax))))))))⟩
theorem nh (T:Txt K mg t):cb P w K mg base (CXE P w) 2 t.bL t.d_behind_fields_begin ["byte"] (spP K (bM t) bL):=
 eR T.F_behind_fields_begin nc fun cdv A outer s H E hr=>⟨_,(ai (bj (aB ck (qv 0) (aK rfl T.m_FIELDS_END T.r_FIELDS_END) (aL _)) (aq (aA (bq ak))) aH)
   (aq (aA (dR (by exact (aB ck (qv 0) (aK rfl T.m_QUOTE T.r_QUOTE) (aL _))) (aV fB (bq (aa aO ak)) (uD ((nT T).mono (by decide)) hr rfl T.iY T.F_member_rest.kp T.b_member_rest aF)) dq)))),
  (ay (bp (az (aw cj ae ah)) (aD (br ax)) aI)
    (aD (jQ (az (aw cj ae ah)) (aw iA (br (af aP ax)) (aG ax)) dk)))⟩
theorem nI (T:Txt K mg t):cb P w K mg base (CXE P w) 5 t.bg t.d_behind_in_brackets ["item","byte"] (spP K (bM t) bg):=
 eR T.F_behind_in_brackets nG fun cdv A outer s H E hr=>⟨_,(ai (bj (aB ck (qv 0) aO (aL _)) (aq (aA (aC ((oN T).mono (by decide)) hr rfl T.dY T.F_behind_row_begin.kp T.b_behind_row_begin .nil aF (aa (qv 1) ak)))) aH)
   (ai (bj (aB ck (qv 0) aO (aL _)) (aq (aA (aC ((nh T).mono (by decide)) hr rfl T.dS T.F_behind_fields_begin.kp T.b_behind_fields_begin .nil aF (aa (qv 1) ak)))) aH)
   (ai (bj (aB ck (qv 0) aO (aL _)) (ai (bj (aB ck (qv 1) (aK rfl T.m_COMMA T.r_COMMA) (aL _)) (aq (aA (bq (aa aO (aa aO (aa aO (aa aO ak))))))) aH)
   (aq (aA (dR (by exact (aB ck (qv 1) (aK rfl T.m_ROW_END T.r_ROW_END) (aL _))) (bq ak) dq)))) aH)
   (ai (bj (aB ck (qv 1) (aK rfl T.m_COMMA T.r_COMMA) (aL _)) (aq (aA (aV fB (bq (aa aO (aa aO ak))) (uD ((nT T).mono (by decide)) hr rfl T.iY T.F_member_rest.kp T.b_member_rest aF)))) aH)
   (aq (aA (dR (by exact (aB ck (qv 1) (aK rfl T.m_FIELDS_END T.r_FIELDS_END) (aL _))) (bq ak) dq))))))),
  (ay (bp (az (aw cj ae aP)) (aD (aG (af ae ax))) aI)
    (ay (bp (az (aw cj ae aP)) (aD (aG (af ae ax))) aI)
    (ay (bp (az (aw cj ae aP)) (ay (bp (az (aw cj ae ah)) (aD (br (af aP (af aP (af aP (af aP ax)))))) aI)
    (aD (jQ (az (aw cj ae ah)) (br ax) dk))) aI)
    (ay (bp (az (aw cj ae ah)) (aD (aw iA (br (af aP (af aP ax))) (aG ax))) aI)
    (aD (jQ (az (aw cj ae ah)) (br ax) dk))))))⟩
theorem lL (T:Txt K mg t):cb P w K mg base (CXE P w) 1 t.ft t.d_is_white ["byte"] (spP K (bM t) ft):=
 eR T.F_is_white wM fun cdv A outer s H E hr=>⟨_,(aq (aA (iR kn (qv 0) (aK rfl T.m_WHITE T.r_WHITE) rfl))),
  (aD (aw (ny hr.units) ae (lP T.q_WHITE)))⟩
theorem AU (T:Txt K mg t):cb P w K mg base (CXE P w) 6 t.b9 t.d_behind ["item","byte"] (spP K (bM t) b9):=
 eR T.F_behind AL fun cdv A outer s H E hr=>⟨_,(ai (bj (fh (cR qa rfl T.n_isinstance L2.E.boot_isinstance (aa (qv 0) (aa (sf (v:=.ty _) rfl T.n_tuple L2.E.boot_tuple rfl) ak))) (fun _=>rfl)) (aq (aA (dR (by exact (jL kd kd (dv iU (qv 0) ao (fun _ _=>rfl)) (qv 1) (dv iU (qv 0) ao (fun _ _=>rfl)))) (bq ak) dq))) aH)
   (ai (bj (aB kn (qv 0) (eJ (aa aO (aa aO (aa aO (aa aO (aa aO ak)))))) rfl) (aq (aA (aC ((oQ T).mono (by decide)) hr rfl T.bA T.F_behind_in_number.kp T.b_behind_in_number .nil aF (aa (qv 0) (aa (qv 1) ak))))) aH)
   (ai (bj (aB kn (qv 0) (eJ (aa aO (aa aO (aa aO (aa aO ak))))) rfl) (aq (aA (aC ((ql T).mono (by decide)) hr rfl T.cQ T.F_behind_in_text.kp T.b_behind_in_text .nil aF (aa (qv 0) (aa (qv 1) ak))))) aH)
   (ai (bj (aB kn (qv 0) (eJ (aa aO (aa aO (aa aO ak)))) rfl) (aq (aA (aC ((ue T).mono (by decide)) hr rfl T.gG T.F_behind_hex.kp T.b_behind_hex .nil aF (aa (qv 0) (aa (qv 1) ak))))) aH)
   (ai (bj (aB kn (qv 0) (aK rfl T.m_UNENDED T.r_UNENDED) rfl) (aq (aA (aC ((nI T).mono (by decide)) hr rfl T.bQ T.F_behind_in_brackets.kp T.b_behind_in_brackets .nil aF (aa (qv 0) (aa (qv 1) ak))))) aH)
   (ai (bj (aB ck (qv 0) aO (aL _)) (aq (aA (dR (by exact (fh (aC ((lL T).mono (by decide)) hr rfl T.jk T.F_is_white.kp T.b_is_white .nil aF (aa (qv 1) ak)) (fun _=>rfl))) (bq (aa aO ak)) dq))) aH)
   (ai (bj (aB ck (qv 0) aO (aL _)) (aq (aA (dR (by exact (aB ck (qv 1) (aK rfl T.m_QUOTE T.r_QUOTE) (aL _))) (bq (aa aO ak)) dq))) aH)
   (aq (aA (aC ((nz T).mono (by decide)) hr rfl T.cA T.F_behind_value.kp T.b_behind_value .nil aF (aa (qv 1) ak))))))))))),
  (ay (bp (gi (vJ ae)) (aD (jQ (az (i5 kf kf (aw iW ae ah) ae (aw iW ae ah))) (br ax) dk)) aI)
    (ay (bp (az (aw (ny hr.units) ae (eB (af aP (af aP (af aP (af aP (af aP ax)))))))) (aD (aG (af ae (af ae ax)))) aI)
    (ay (bp (az (aw (ny hr.units) ae (eB (af aP (af aP (af aP (af aP ax))))))) (aD (aG (af ae (af ae ax)))) aI)
    (ay (bp (az (aw (ny hr.units) ae (eB (af aP (af aP (af aP ax)))))) (aD (aG (af ae (af ae ax)))) aI)
    (ay (bp (az (aw (ny hr.units) ae (vM fun S=>by unfold Rep; exact ⟨_,_,rfl,T.q_UNENDED S,(.cons (by unfold Rep; rfl) (.cons (by unfold Rep; rfl) (.cons (by unfold Rep; rfl) (.cons (by unfold Rep; rfl) .nil))))⟩))) (aD (aG (af ae (af ae ax)))) aI)
    (ay (bp (az (aw cj ae aP)) (aD (jQ (gi (aG (af ae ax))) (br (af aP ax)) dk)) aI)
    (ay (bp (az (aw cj ae aP)) (aD (jQ (az (aw cj ae ah)) (br (af aP ax)) dk)) aI)
    (aD (aG (af ae ax))))))))))⟩
theorem qB (T:Txt K mg t):cb P w K mg base (CXE P w) 1 t.cF t.d_Walk_brackets ["self"] (spI K (bM t) cF):=
 xx T.F_Walk_brackets qO fun cdv A outer s H E hr=>⟨_,(aq (aA (cR cw rfl T.n_len L2.E.boot_len (aa (AI (M:=[]) (ι:=[]) (x:="item") ⟨rfl,rfl,rfl,rfl,rfl,rfl,rfl,rfl,rfl,rfl,rfl,by decide +kernel⟩ rfl (mR (sL (qv 0))) (fun _ _ _ _=>(aB kn (qv 0) (aK rfl T.m_UNENDED T.r_UNENDED) rfl)) fun _ _ _ _=>(qv 0)) ak)))),
  (aD (gc jh (yE (by decide) (zC (wR jK (jw T))) (az (aw (ny hr.units) ae (vM fun S=>by unfold Rep; exact ⟨_,_,rfl,T.q_UNENDED S,(.cons (by unfold Rep; rfl) (.cons (by unfold Rep; rfl) (.cons (by unfold Rep; rfl) (.cons (by unfold Rep; rfl) .nil))))⟩))) ae)))⟩
theorem rS (T:Txt K mg t):cb P w K mg base (CXE P w) 7 t.eh t.d_Walk_goes_on ["self","byte"] (spI K (bM t) eh):=
 xx T.F_Walk_goes_on kr fun cdv A outer s H E hr=>⟨_,(ai (lb gV (fh (sL (qv 0)) (fun _=>rfl)) (ai (aX (i:=2) kr.nd rfl (by first | exact Or.inl rfl | exact Or.inr rfl) (BN PySem.F.plainAttrs_list PySem.F.slot_list_pop PySem.F.type_list_pop BU (sL (qv 0))))
   (ai (aX (i:=3) kr.nd rfl (by first | exact Or.inl rfl | exact Or.inr rfl) (aC ((AU T).mono (by decide)) hr rfl T.cE T.F_behind.kp T.b_behind .nil aF (aa (qv 2) (aa (qv 1) ak))))
   (ai (bj (aB vW (qv 3) dq (aL _)) (ai (lH (uU PySem.F.plainAttrs_list PySem.F.slot_list_extend PySem.F.type_list_extend Al (sL (qv 0)) (aa (GW (qv 3) (FW Cs ao)) ak)))
   (aq (aA (iR kd (uT (qv 0) T.c_Walk T.h_Walk_brackets ((qB T).mono (by decide)) hr T.b_Walk_brackets aF) (aK rfl T.m_MOST_BRACKETS T.r_MOST_BRACKETS) (aL _))))) aH)
   (aq (bj (aB qA (qv 2) (aK rfl T.m_LOOSE T.r_LOOSE) rfl) (aq (aA zw)) aH))))))
   (aq (aA zw))),
  (ay (kX (AF (wR jK (jw T))) (ay (vm (zA (wR jK (jw T))))
    (ay (aZ (aG (af ae (af ae ax))))
    (ay (bp (az (aw u5 ae dk)) (ay (y7 (wR jK (jw T)) (Gy ae (FI Bq ah)))
    (aD (aw kf (xK rfl rfl (FD jK) se) ah))) aI)
    (bp (az (aw (tU hr.units) ae (vM fun S=>by unfold Rep; exact ⟨_,_,rfl,T.q_LOOSE S,(.cons (by unfold Rep; rfl) (.cons (by unfold Rep; rfl) (.cons (by unfold Rep; rfl) (.cons (by unfold Rep; rfl) (.cons (by unfold Rep; rfl) .nil)))))⟩))) (aD Ah) aI)))))
    (aD Ah))⟩
theorem u9 (T:Txt K mg t):cb P w K mg base (CXE P w) 8 t.gp t.d_Walk_take ["self","row"] (spI K (bM t) gp):=
 xx T.F_Walk_take mO fun cdv A outer s H E hr=>⟨_,(ai (pE gV rfl (EA rfl T.n_enumerate (aa (qv 1) ak)) (HH rfl (xU (lM (i:=2) mO.nd rfl (by first | exact Or.inl rfl | exact Or.inr rfl)) (xU (lM (i:=3) mO.nd rfl (by first | exact Or.inl rfl | exact Or.inr rfl)) Dy))) (aq (bj (vD (fh (wJ (qv 0) T.c_Walk T.h_Walk_goes_on ((rS T).mono (by decide)) hr T.b_Walk_goes_on aF (aa (qv 3) ak)) (fun _=>rfl))) (aq (aA (qv 2))) aH)))
   (aq (aA (cR cw rfl T.n_len L2.E.boot_len (aa (qv 1) ak))))),
  (ay (DX ae (Ez (wB rfl rfl (Fi jK) (xr (Ff (W:=fun _ _ _ _=>False) ae) se)) gR aI))
    (aD (gc jh ae)))⟩
theorem qG (T:Txt K mg t):cb P w K mg base (CXE P w) 1 t.cZ t.d_Walk_is_whole ["self"] (spI K (bM t) cZ):=
 xx T.F_Walk_is_whole qY fun cdv A outer s H E hr=>⟨_,(aq (aA (cR ux rfl T.n_all L2.E.boot_all (aa (p6 (M:=[]) (ι:=[]) (x:="item") ⟨rfl,rfl,rfl,rfl,rfl,rfl,rfl,rfl,rfl,rfl,rfl,by decide +kernel⟩ rfl (mR (sL (qv 0))) fun _ _ _ _=>(iR kn (qv 0) (aK rfl T.m_LOOSE T.r_LOOSE) rfl)) ak)))),
  (aD (gc (Ca hr.hd) (wV (by decide) (zC (wR jK (jw T))) (aw (ny hr.units) ae (vM fun S=>by unfold Rep; exact ⟨_,_,rfl,T.q_LOOSE S,(.cons (by unfold Rep; rfl) (.cons (by unfold Rep; rfl) (.cons (by unfold Rep; rfl) (.cons (by unfold Rep; rfl) (.cons (by unfold Rep; rfl) .nil)))))⟩)))))⟩
theorem CN (T:Txt K mg t):cb P w K mg base (CXE P w) 9 t.lF t.d_fault ["row"] (spP K (bM t) lF):=
 eR T.F_fault sA fun cdv A outer s H E hr=>⟨_,(ai (aX (i:=1) sA.nd rfl (by first | exact Or.inl rfl | exact Or.inr rfl) (Ce T.k_Walk (qz T) (hr.mono (by decide)) rfl T.m_Walk T.b_Walk___init__))
   (ai (aX (i:=2) sA.nd rfl (by first | exact Or.inl rfl | exact Or.inr rfl) (wJ (qv 1) T.c_Walk T.h_Walk_take ((u9 T).mono (by decide)) hr T.b_Walk_take aF (aa (qv 0) ak)))
   (ai (bj (pU (nZ (aB ck (qv 2) (cR cw rfl T.n_len L2.E.boot_len (aa (qv 0) ak)) (aL _)) (qp (fh (uT (qv 1) T.c_Walk T.h_Walk_is_whole ((qG T).mono (by decide)) hr T.b_Walk_is_whole aF) (fun _=>rfl))))) (aq (aA dq)) aH)
   (aq (aA (qv 2)))))),
  (ay (vA (DI rfl))
    (ay (vm (wB rfl rfl (Fi jK) (xr (Ff (W:=fun _ _ _ _=>False) ae) se)))
    (ay (bp (n8 (az (aw cj ae (gc jh ae))) (gi (xK rfl rfl (FD jK) se))) (aD dk) aI)
    gR)))⟩
theorem rN (T:Txt K mg t):cb P w K mg base (CXE P w) 10 t.dH t.d_refuse_fault ["row"] (spP K (bM t) dH):=
 eR T.F_refuse_fault nA fun cdv A outer s H E hr=>⟨_,(ai (aX (i:=1) nA.nd rfl (by first | exact Or.inl rfl | exact Or.inr rfl) (aC ((CN T).mono (by decide)) hr rfl T.sj T.F_fault.kp T.b_fault .nil aF (aa (qv 0) ak)))
   (aq (bj (aB vW (qv 1) dq (aL _)) (aq (qJ T.k_Fault (lV T) T.b_Fault_init (hr.mono (by decide)) aF rfl (aa (qv 1) ak))) aH))),
  (ay (aZ (aG (af ae ax)))
    (bp (az (aw u5 ae dk)) (qE rfl (af ae ax)) aI))⟩
theorem sX (T:Txt K mg t):cb P w K mg base (CXE P w) 1 t.eX t.d_with_member ["tree","i"] (spP K (bM t) eX):=
 eR T.F_with_member n4 fun cdv A outer s H E hr=>⟨_,(ai (aX (i:=2) n4.nd rfl (by first | exact Or.inl rfl | exact Or.inr rfl) (dv dy (qv 0) (qv 1) (fun _ _=>rfl)))
   (ai (bj (aB sx (dv iU (qv 2) ao (fun _ _=>rfl)) aO (aL _)) (aq (aA (qv 2))) aH)
   (aq (aA (eJ (aa (dv iU (qv 2) ao (fun _ _=>rfl)) (aa (dv iU (qv 2) ao (fun _ _=>rfl)) (aa (dv iU (qv 2) ao (fun _ _=>rfl)) (aa (dv iU (dv dy (qv 0) (aV cp (qv 1) ao) (fun _ _=>rfl)) ao (fun _ _=>rfl)) ak))))))))),
  (ay (aZ (aw eT ae ae))
    (ay (bp (az (aw sO (aw iW ae ah) aP)) gR aI)
    (aD (eB (af (aw iW ae ah) (af (aw iW ae ah) (af (aw iW ae ah) (af (aw iW (aw eT ae (aw cq ae ah)) ah) ax))))))))⟩
theorem xW (T:Txt K mg t):cb P w K mg base (CXE P w) 1 t.iG t.d_text_end ["row","at"] (spP K (bM t) iG):=
 eR T.F_text_end nU fun cdv A outer s H E hr=>⟨_,(ai (aX (i:=2) nU.nd rfl (by first | exact Or.inl rfl | exact Or.inr rfl) (aV cp (qv 1) ao))
   (ai (lb gV (aB sx (dv dy (qv 0) (qv 2) (fun _ _=>rfl)) (aK rfl T.m_QUOTE T.r_QUOTE) (aL _)) (aq (n9 (i:=2) nU.nd rfl (Or.inl rfl) (dR (by exact (aB ck (dv dy (qv 0) (qv 2) (fun _ _=>rfl)) (aK rfl T.m_BACKSLASH T.r_BACKSLASH) (aL _))) ao ao) om)))
   (aq (aA (aV cp (qv 2) ao))))),
  (ay (aZ (aw cq ae ah))
    (ay (kX (az (aw sO (aw eT ae ae) ah)) (hJ (jQ (az (aw cj (aw eT ae ae) ah)) ah ah)))
    (aD (aw cq ae ah))))⟩
theorem vY (T:Txt K mg t):cb P w K mg base (CXE P w) 2 t.jv t.d_plain_end ["row","at"] (spP K (bM t) jv):=
 eR T.F_plain_end mK fun cdv A outer s H E hr=>⟨_,(ai (aX (i:=2) mK.nd rfl (by first | exact Or.inl rfl | exact Or.inr rfl) (qv 1))
   (ai (lb gV (pU (nZ (aB jO (qv 2) (cR cw rfl T.n_len L2.E.boot_len (aa (qv 0) ak)) (aL _)) (nZ (vD (fh (aC ((lL T).mono (by decide)) hr rfl T.jk T.F_is_white.kp T.b_is_white .nil aF (aa (dv dy (qv 0) (qv 2) (fun _ _=>rfl)) ak)) (fun _=>rfl))) (qp (aB qA (dv dy (qv 0) (qv 2) (fun _ _=>rfl)) (eJ (aa (aK rfl T.m_COMMA T.r_COMMA) (aa (aK rfl T.m_ROW_END T.r_ROW_END) (aa (aK rfl T.m_FIELDS_END T.r_FIELDS_END) ak)))) rfl))))) (aq (n9 (i:=2) mK.nd rfl (Or.inl rfl) ao om)))
   (aq (aA (qv 2))))),
  (ay (aZ ae)
    (ay (kX (n8 (az (aw jP ae (gc jh ae))) (n8 (yA (gi (aG (af (aw eT ae ae) ax)))) (az (aw (tU hr.units) (aw eT ae ae) (eB (af ah (af ah (af ah ax)))))))) (hJ ah))
    gR))⟩
theorem y8 (T:Txt K mg t):cb P w K mg base (CXE P w) 2 t.gd t.d_is_name ["row","end"] (spP K (bM t) gd):=
 eR T.F_is_name sE fun cdv A outer s H E hr=>⟨_,(ai (lb gV (pU (nZ (aB jO (qv 1) (cR cw rfl T.n_len L2.E.boot_len (aa (qv 0) ak)) (aL _)) (qp (fh (aC ((lL T).mono (by decide)) hr rfl T.jk T.F_is_white.kp T.b_is_white .nil aF (aa (dv dy (qv 0) (qv 1) (fun _ _=>rfl)) ak)) (fun _=>rfl))))) (aq (n9 (i:=1) sE.nd rfl (Or.inl rfl) ao om)))
   (aq (aA (pq (iR jO (qv 1) (cR cw rfl T.n_len L2.E.boot_len (aa (qv 0) ak)) (aL _)) (tm (iR ck (dv dy (qv 0) (qv 1) (fun _ _=>rfl)) (aK rfl T.m_COLON T.r_COLON) (aL _))))))),
  (ay (kX (n8 (az (aw jP ae (gc jh ae))) (gi (aG (af (aw eT ae ae) ax)))) (hJ ah))
    (aD (pK (aw jP ae (gc jh ae)) (aw cj (aw eT ae ae) ah))))⟩
theorem EC (T:Txt K mg t):cb P w K mg base (CXE P w) 3 t.mI t.d_leaf ["row","at","i"] (spP K (bM t) mI):=
 eR T.F_leaf vU fun cdv A outer s H E hr=>⟨_,(ai (aX (i:=3) vU.nd rfl (by first | exact Or.inl rfl | exact Or.inr rfl) (AG (aK rfl T.m_KINDS T.r_KINDS) (dv dy (qv 0) (qv 1) (fun _ _=>rfl)) aO))
   (ai (bj (aB sx (qv 3) aO (aL _)) (aq (aA (eJ (aa (qv 3) (aa (qv 1) (aa (aC ((vY T).mono (by decide)) hr rfl T.nP T.F_plain_end.kp T.b_plain_end .nil aF (aa (qv 0) (aa (qv 1) ak))) (aa (aV cp (qv 2) ao) ak))))))) aH)
   (ai (aX (i:=4) vU.nd rfl (by first | exact Or.inl rfl | exact Or.inr rfl) (aC ((xW T).mono (by decide)) hr rfl T.ni T.F_text_end.kp T.b_text_end .nil aF (aa (qv 0) (aa (qv 1) ak))))
   (aq (aA (eJ (aa (dR (by exact (fh (aC ((y8 T).mono (by decide)) hr rfl T.mw T.F_is_name.kp T.b_is_name .nil aF (aa (qv 0) (aa (qv 4) ak))) (fun _=>rfl))) aO aO) (aa (qv 1) (aa (qv 4) (aa (aV cp (qv 2) ao) ak)))))))))),
  (ay (aZ (AQ T.q_KINDS (aw eT ae ae) aP))
    (ay (bp (az (aw sO ae aP)) (aD (eB (af ae (af ae (af (aG (af ae (af ae ax))) (af (aw cq ae ah) ax)))))) aI)
    (ay (aZ (aG (af ae (af ae ax))))
    (aD (eB (af (jQ (gi (aG (af ae (af ae ax)))) aP aP) (af ae (af ae (af (aw cq ae ah) ax)))))))))⟩
theorem xE (T:Txt K mg t):cb P w K mg base (CXE P w) 11 t.iH t.d_nodes ["row"] (spP K (bM t) iH):=
 eR T.F_nodes ja fun cdv A outer s H E hr=>⟨_,(ai (lH (aC ((rN T).mono (by decide)) hr rfl T.ib T.F_refuse_fault.kp T.b_refuse_fault .nil aF (aa (qv 0) ak)))
   (ai (aX (i:=1) ja.nd rfl (by first | exact Or.inl rfl | exact Or.inr rfl) (bq ak))
   (ai (aX (i:=2) ja.nd rfl (by first | exact Or.inl rfl | exact Or.inr rfl) (bq ak))
   (ai (aX (i:=3) ja.nd rfl (by first | exact Or.inl rfl | exact Or.inr rfl) ao)
   (ai (lb gV (aB jO (qv 3) (cR cw rfl T.n_len L2.E.boot_len (aa (qv 0) ak)) (aL _)) (ai (aX (i:=4) ja.nd rfl (by first | exact Or.inl rfl | exact Or.inr rfl) (dv dy (qv 0) (qv 3) (fun _ _=>rfl)))
   (aq (bj (aB kn (qv 4) (eJ (aa (aK rfl T.m_ROW_BEGIN T.r_ROW_BEGIN) (aa (aK rfl T.m_FIELDS_BEGIN T.r_FIELDS_BEGIN) ak))) rfl) (ai (lH (uU PySem.F.plainAttrs_list PySem.F.slot_list_append PySem.F.type_list_append jy (qv 2) (aa (cR cw rfl T.n_len L2.E.boot_len (aa (qv 1) ak)) ak)))
   (ai (lH (uU PySem.F.plainAttrs_list PySem.F.slot_list_append PySem.F.type_list_append jy (qv 1) (aa (eJ (aa (dv Ji (aK rfl T.m_KINDS T.r_KINDS) (qv 4) (fun _ _=>rfl)) (aa (qv 3) ak))) ak)))
   (aq (n9 (i:=3) ja.nd rfl (Or.inl rfl) ao om)))) (aq (bj (aB kn (qv 4) (eJ (aa (aK rfl T.m_ROW_END T.r_ROW_END) (aa (aK rfl T.m_FIELDS_END T.r_FIELDS_END) ak))) rfl) (ai (n9 (i:=3) ja.nd rfl (Or.inl rfl) ao om)
   (ai (aX (i:=5) ja.nd rfl (by first | exact Or.inl rfl | exact Or.inr rfl) (BN PySem.F.plainAttrs_list PySem.F.slot_list_pop PySem.F.type_list_pop BU (qv 2)))
   (aq (HG (eJ (aa (dv iU (dv dy (qv 1) (qv 5) (fun _ _=>rfl)) ao (fun _ _=>rfl)) (aa (dv iU (dv dy (qv 1) (qv 5) (fun _ _=>rfl)) ao (fun _ _=>rfl)) (aa (qv 3) (aa (cR cw rfl T.n_len L2.E.boot_len (aa (qv 1) ak)) ak))))) (Hg (qv 1) (qv 5) set_list))))) (aq (bj (pU (zt (fh (aC ((lL T).mono (by decide)) hr rfl T.jk T.F_is_white.kp T.b_is_white .nil aF (aa (qv 4) ak)) (fun _=>rfl)) (u3 (aB kn (qv 4) (eJ (aa (aK rfl T.m_COMMA T.r_COMMA) (aa (aK rfl T.m_COLON T.r_COLON) ak))) rfl)))) (aq (n9 (i:=3) ja.nd rfl (Or.inl rfl) ao om)) (ai (lH (uU PySem.F.plainAttrs_list PySem.F.slot_list_append PySem.F.type_list_append jy (qv 1) (aa (aC ((EC T).mono (by decide)) hr rfl T.vq T.F_leaf.kp T.b_leaf .nil aF (aa (qv 0) (aa (qv 3) (aa (cR cw rfl T.n_len L2.E.boot_len (aa (qv 1) ak)) ak)))) ak)))
   (aq (aX (i:=3) ja.nd rfl (by first | exact Or.inl rfl | exact Or.inr rfl) (dv iU (dv dy (qv 1) (FW Cs ao) (fun _ _=>rfl)) ao (fun _ _=>rfl)))))))))))))
   (aq (aA (p6 (M:=["tree"]) (ι:=[1]) (x:="i") ⟨rfl,rfl,rfl,rfl,rfl,rfl,rfl,rfl,rfl,rfl,rfl,by decide +kernel⟩ rfl (mf rfl T.n_range (aa (cR cw rfl T.n_len L2.E.boot_len (aa (qv 1) ak)) ak)) fun _ _ _ _=>(aC ((sX T).mono (by decide)) hr rfl T.i0 T.F_with_member.kp T.b_with_member .nil qZ (aa (qv 0) (aa (qv 1) ak))))))))))),
  (ay (zB (aG (af ae ax)))
    (ay (aZ (br ax))
    (ay (vA (Ij (br ax)))
    (ay (aZ ah)
    (ay (kX (az (aw jP ae (gc jh ae))) (ay (aZ (aw eT ae ae))
    (bp (az (aw (ny hr.units) ae (eB (af ah (af ah ax))))) (ay (yk jK (Ij (gc jh ae)))
    (ay (oy (eB (af (EK T.q_KINDS ae) (af ae ax))))
    (hJ ah))) (bp (az (aw (ny hr.units) ae (eB (af ah (af ah ax))))) (ay (hJ ah)
    (ay (vm (zA jK))
    (Hj ae (eB (af (aw iW (aw eT ae ae) ah) (af (aw iW (aw eT ae ae) ah) (af ae (af (gc jh ae) ax)))))))) (bp (zL (gi (aG (af ae ax))) (az (aw (ny hr.units) ae (eB (af ah (af ah ax)))))) (hJ ah) (ay (oy (aG (af ae (af ae (af (gc jh ae) ax)))))
    (aZ (aw iW (aw eT ae (FI Bq ah)) ah))))))))
    (dw (i:=1) (aD (sJ (by decide) (gc jh ae) (aG (af ae (af ae ax)))))))))))⟩
theorem si (T:Txt K mg t):cb P w K mg base (CXE P w) 3 t.kZ t.d_code ["signs","at"] (spP K (bM t) kZ):=
 eR T.F_code rY fun cdv A outer s H E hr=>⟨_,(ai (aX (i:=2) rY.nd rfl (by first | exact Or.inl rfl | exact Or.inr rfl) ao)
   (ai (pE gV rfl (mR (sR vT (qv 0) (oH (aV cp (qv 1) ao)) (oH (aV cp (qv 1) (aK rfl T.m_CODE_SIZE T.r_CODE_SIZE))))) (lM (i:=3) rY.nd rfl (by first | exact Or.inl rfl | exact Or.inr rfl)) (aq (aX (i:=2) rY.nd rfl (by first | exact Or.inl rfl | exact Or.inr rfl) (aV cp (aV pA ao (qv 2)) (aC ((m5 T).mono (by decide)) hr rfl T.jx T.F_hex_worth.kp T.b_hex_worth .nil aF (aa (qv 3) ak))))))
   (aq (aA (qv 2))))),
  (ay (aZ ah)
    (ay (rZ (yl ae (oB (aw cq ae ah)) (oB (aw cq ae ah))) (aZ (aw cq (aw pD ah ae) (aG (af ae ax)))))
    gR))⟩
theorem vp (T:Txt K mg t):cb P w K mg base (CXE P w) 4 t.dO t.d_sign_size ["signs","at"] (spP K (bM t) dO):=
 eR T.F_sign_size vw fun cdv A outer s H E hr=>⟨_,(ai (bj (aB sx (dv dy (qv 0) (qv 1) (fun _ _=>rfl)) (aK rfl T.m_BACKSLASH T.r_BACKSLASH) (aL _)) (aq (aA ao)) aH)
   (ai (bj (aB sx (dv dy (qv 0) (aV cp (qv 1) ao) (fun _ _=>rfl)) (aK rfl T.m_SMALL_U T.r_SMALL_U) (aL _)) (aq (aA ao)) aH)
   (ai (bj (jL kd kd (aK rfl T.m_FIRST_PAIRED T.r_FIRST_PAIRED) (aC ((si T).mono (by decide)) hr rfl T.pN T.F_code.kp T.b_code .nil aF (aa (qv 0) (aa (qv 1) ak))) (aK rfl T.m_LAST_PAIRED T.r_LAST_PAIRED)) (aq (aA (aV pA ao (aK rfl T.m_CODE_SIZE T.r_CODE_SIZE)))) aH)
   (aq (aA (aK rfl T.m_CODE_SIZE T.r_CODE_SIZE)))))),
  (ay (bp (az (aw sO (aw eT ae ae) ah)) (aD ah) aI)
    (ay (bp (az (aw sO (aw eT ae (aw cq ae ah)) ah)) (aD ah) aI)
    (ay (bp (az (i5 kf kf ah (aG (af ae (af ae ax))) ah)) (aD (aw pD ah ah)) aI)
    (aD ah))))⟩
theorem uo (T:Txt K mg t):cb P w K mg base (CXE P w) 4 t.dM t.d_sign_meant ["signs","at","size"] (spP K (bM t) dM):=
 eR T.F_sign_meant ui fun cdv A outer s H E hr=>⟨_,(ai (bj (aB ck (qv 2) ao (aL _)) (aq (aA (dv dy (qv 0) (qv 1) (fun _ _=>rfl)))) aH)
   (ai (bj (aB ck (qv 2) ao (aL _)) (aq (aA (aC ((nj T).mono (by decide)) hr rfl T.bO T.F_short_escape.kp T.b_short_escape .nil aF (aa (dv dy (qv 0) (aV cp (qv 1) ao) (fun _ _=>rfl)) ak)))) aH)
   (ai (bj (aB ck (qv 2) (aK rfl T.m_CODE_SIZE T.r_CODE_SIZE) (aL _)) (aq (aA (aC ((si T).mono (by decide)) hr rfl T.pN T.F_code.kp T.b_code .nil aF (aa (qv 0) (aa (qv 1) ak))))) aH)
   (aq (aA (aV ko (aV cp (aV cp ao (aV pA ao (aV ko (aC ((si T).mono (by decide)) hr rfl T.pN T.F_code.kp T.b_code .nil aF (aa (qv 0) (aa (qv 1) ak))) ao))) (aC ((si T).mono (by decide)) hr rfl T.pN T.F_code.kp T.b_code .nil aF (aa (qv 0) (aa (aV cp (qv 1) (aK rfl T.m_CODE_SIZE T.r_CODE_SIZE)) ak)))) ao)))))),
  (ay (bp (az (aw cj ae ah)) (aD (aw eT ae ae)) aI)
    (ay (bp (az (aw cj ae ah)) (aD (aG (af (aw eT ae (aw cq ae ah)) ax))) aI)
    (ay (bp (az (aw cj ae ah)) (aD (aG (af ae (af ae ax)))) aI)
    (aD (aw km (aw cq (aw cq ah (aw pD ah (aw km (aG (af ae (af ae ax))) ah))) (aG (af ae (af (aw cq ae ah) ax)))) ah)))))⟩
theorem pL (T:Txt K mg t):cb P w K mg base (CXE P w) 5 t.cT t.d_without_escapes ["signs"] (spP K (bM t) cT):=
 eR T.F_without_escapes fk fun cdv A outer s H E hr=>⟨_,(ai (aX (i:=1) fk.nd rfl (by first | exact Or.inl rfl | exact Or.inr rfl) (bq ak))
   (ai (aX (i:=2) fk.nd rfl (by first | exact Or.inl rfl | exact Or.inr rfl) ao)
   (ai (lb gV (aB jO (qv 2) (cR cw rfl T.n_len L2.E.boot_len (aa (qv 0) ak)) (aL _)) (ai (aX (i:=3) fk.nd rfl (by first | exact Or.inl rfl | exact Or.inr rfl) (aC ((vp T).mono (by decide)) hr rfl T.gv T.F_sign_size.kp T.b_sign_size .nil aF (aa (qv 0) (aa (qv 2) ak))))
   (ai (lH (uU PySem.F.plainAttrs_list PySem.F.slot_list_append PySem.F.type_list_append jy (qv 1) (aa (aC ((uo T).mono (by decide)) hr rfl T.gz T.F_sign_meant.kp T.b_sign_meant .nil aF (aa (qv 0) (aa (qv 2) (aa (qv 3) ak)))) ak)))
   (aq (n9 (i:=2) fk.nd rfl (Or.inl rfl) (qv 3) om)))))
   (aq (aA (qv 1)))))),
  (ay (aZ (br ax))
    (ay (aZ ah)
    (ay (kX (az (aw jP ae (gc jh ae))) (ay (aZ (aG (af ae (af ae ax))))
    (ay (oy (aG (af ae (af ae (af ae ax)))))
    (hJ ae))))
    gR)))⟩
theorem q8 (T:Txt K mg t):cb P w K mg base (CXE P w) 3 t.cG t.d_character_end ["row","at"] (spP K (bM t) cG):=
 eR T.F_character_end gj fun cdv A outer s H E hr=>⟨_,(ai (aX (i:=2) gj.nd rfl (by first | exact Or.inl rfl | exact Or.inr rfl) (aC ((wH T).mono (by decide)) hr rfl T.gZ T.F_tails.kp T.b_tails .nil aF (aa (dv dy (qv 0) (qv 1) (fun _ _=>rfl)) ak)))
   (ai (bj (aB qU (qv 2) dq (aL _)) (aq (qJ T.k_Fault (lV T) T.b_Fault_init (hr.mono (by decide)) aF rfl (aa (qv 1) ak))) aH)
   (ai (aX (i:=3) gj.nd rfl (by first | exact Or.inl rfl | exact Or.inr rfl) (aV cp (qv 1) ao))
   (ai (pE gV rfl (mR (qv 2)) (lM (i:=4) gj.nd rfl (by first | exact Or.inl rfl | exact Or.inr rfl)) (ai (bj (pU (zt (aB ck (qv 3) (cR cw rfl T.n_len L2.E.boot_len (aa (qv 0) ak)) (aL _)) (u3 (vD (jL kd kd (dv iU (qv 4) ao (fun _ _=>rfl)) (dv dy (qv 0) (qv 3) (fun _ _=>rfl)) (dv iU (qv 4) ao (fun _ _=>rfl))))))) (aq (qJ T.k_Fault (lV T) T.b_Fault_init (hr.mono (by decide)) aF rfl (aa (qv 3) ak))) aH)
   (aq (n9 (i:=3) gj.nd rfl (Or.inl rfl) ao om))))
   (aq (aA (qv 3))))))),
  (ay (aZ (aG (af (aw eT ae ae) ax)))
    (ay (bp (az (aw qT ae dk)) (qE rfl (af ae ax)) aI)
    (ay (aZ (aw cq ae ah))
    (ay (dw (i:=2) (rZ ae (ay (bp (zL (az (aw cj ae (gc jh ae))) (yA (az (i5 kf kf (aw iW ae ah) (aw eT ae ae) (aw iW ae ah))))) (qE rfl (af ae ax)) aI)
    (hJ ah))))
    gR))))⟩
theorem vh (T:Txt K mg t):cb P w K mg base (CXE P w) 1 t.gw t.d_character ["row","at","end"] (spP K (bM t) gw):=
 eR T.F_character kK fun cdv A outer s H E hr=>⟨_,(ai (aX (i:=3) kK.nd rfl (by first | exact Or.inl rfl | exact Or.inr rfl) (aV ko (dv dy (qv 0) (qv 1) (fun _ _=>rfl)) (dv iU (aK rfl T.m_MARKS T.r_MARKS) (aV ko (aV ko (qv 2) (qv 1)) ao) (fun _ _=>rfl))))
   (ai (pE gV rfl (mR (sR vT (qv 0) (oH (aV cp (qv 1) ao)) (oH (qv 2)))) (lM (i:=4) kK.nd rfl (by first | exact Or.inl rfl | exact Or.inr rfl)) (aq (aX (i:=3) kK.nd rfl (by first | exact Or.inl rfl | exact Or.inr rfl) (aV ko (aV cp (aV pA (qv 3) ao) (qv 4)) (aK rfl T.m_TAIL_MARK T.r_TAIL_MARK)))))
   (aq (aA (qv 3))))),
  (ay (aZ (aw km (aw eT ae ae) (aw iW (lP T.q_MARKS) (aw km (aw km ae ae) ah))))
    (ay (rZ (yl ae (oB (aw cq ae ah)) (oB ae)) (aZ (aw km (aw cq (aw pD ae ah) ae) ah)))
    gR))⟩
theorem Bg (T:Txt K mg t):cb P w K mg base (CXE P w) 4 t.jb t.d_points ["row"] (spP K (bM t) jb):=
 eR T.F_points lX fun cdv A outer s H E hr=>⟨_,(ai (aX (i:=1) lX.nd rfl (by first | exact Or.inl rfl | exact Or.inr rfl) (bq ak))
   (ai (aX (i:=2) lX.nd rfl (by first | exact Or.inl rfl | exact Or.inr rfl) ao)
   (ai (lb gV (aB jO (qv 2) (cR cw rfl T.n_len L2.E.boot_len (aa (qv 0) ak)) (aL _)) (ai (aX (i:=3) lX.nd rfl (by first | exact Or.inl rfl | exact Or.inr rfl) (aC ((q8 T).mono (by decide)) hr rfl T.fw T.F_character_end.kp T.b_character_end .nil aF (aa (qv 0) (aa (qv 2) ak))))
   (ai (lH (uU PySem.F.plainAttrs_list PySem.F.slot_list_append PySem.F.type_list_append jy (qv 1) (aa (aC ((vh T).mono (by decide)) hr rfl T.lJ T.F_character.kp T.b_character .nil aF (aa (qv 0) (aa (qv 2) (aa (qv 3) ak)))) ak)))
   (aq (aX (i:=2) lX.nd rfl (by first | exact Or.inl rfl | exact Or.inr rfl) (qv 3))))))
   (aq (aA (qv 1)))))),
  (ay (aZ (br ax))
    (ay (aZ ah)
    (ay (kX (az (aw jP ae (gc jh ae))) (ay (aZ (aG (af ae (af ae ax))))
    (ay (oy (aG (af ae (af ae (af ae ax)))))
    (aZ ae))))
    gR)))⟩
theorem qh (T:Txt K mg t):cb P w K mg base (CXE P w) 6 t.fZ t.d_meant ["row","tree","i"] (spP K (bM t) fZ):=
 eR T.F_meant xM fun cdv A outer s H E hr=>⟨_,(ai (aX (i:=3) xM.nd rfl (by first | exact Or.inl rfl | exact Or.inr rfl) (dv dy (qv 1) (qv 2) (fun _ _=>rfl)))
   (ai (bj (aB qA (dv iU (qv 3) ao (fun _ _=>rfl)) (eJ (aa aO (aa aO ak))) rfl) (aq (B2 aF hr.hd PySem.F.excBase_ValueError rfl T.m_NoNode T.x_NoNode (aa aO ak))) aH)
   (aq (aA (aC ((pL T).mono (by decide)) hr rfl T.gW T.F_without_escapes.kp T.b_without_escapes .nil aF (aa (aC ((Bg T).mono (by decide)) hr rfl T.oh T.F_points.kp T.b_points .nil aF (aa (sR vT (qv 0) (oH (aV cp (dv iU (qv 3) ao (fun _ _=>rfl)) ao)) (oH (aV ko (dv iU (qv 3) ao (fun _ _=>rfl)) ao))) ak)) ak)))))),
  (ay (aZ (aw eT ae ae))
    (ay (bp (az (aw (tU hr.units) (aw iW ae ah) (eB (af aP (af aP ax))))) (Cu rfl (af aP ax)) aI)
    (aD (aG (af (aG (af (yl ae (oB (aw cq (aw iW ae ah) ah)) (oB (aw km (aw iW ae ah) ah))) ax)) ax)))))⟩
theorem wy (T:Txt K mg t):cb P w K mg base (CXE P w) 1 t.gy t.d_law_whole ["_law_found"] (spP K (bM t) gy):=
 eR T.F_law_whole wb fun cdv A outer s H E hr=>⟨_,(aq (aA (pq (cR qa rfl T.n_isinstance L2.E.boot_isinstance (aa (qv 0) (aa (sf (v:=.ty _) rfl T.n_int L2.E.boot_int rfl) ak))) (tm (Hs (cR qa rfl T.n_isinstance L2.E.boot_isinstance (aa (qv 0) (aa (sf (v:=.ty _) rfl T.n_bool L2.E.boot_bool rfl) ak)))))))),
  (aD (pK (vJ ae) (GZ (vJ ae))))⟩
theorem lQ (T:Txt K mg t):cb P w K mg base (CXE P w) 2 t.d6 t.d_law_wholes ["_law_found"] (spP K (bM t) d6):=
 eR T.F_law_wholes uu fun cdv A outer s H E hr=>⟨_,(aq (aA (pq (cR qa rfl T.n_isinstance L2.E.boot_isinstance (aa (qv 0) (aa (sf (v:=.ty _) rfl T.n_list L2.E.boot_list rfl) ak))) (tm (cR ux rfl T.n_all L2.E.boot_all (aa (p6 (M:=[]) (ι:=[]) (x:="_law_one") ⟨rfl,rfl,rfl,rfl,rfl,rfl,rfl,rfl,rfl,rfl,rfl,by decide +kernel⟩ rfl (mR (qv 0)) fun _ _ _ _=>(aC ((wy T).mono (by decide)) hr rfl T.lu T.F_law_whole.kp T.b_law_whole .nil qZ (aa (qv 0) ak))) ak)))))),
  (aD (pK (vJ ae) (gc (Ca hr.hd) (wV (by decide) ae (aG (af ae ax))))))⟩
theorem sT (T:Txt K mg t):cb P w K mg base (CXE P w) 7 t.eZ t.d_law_refused ["_law_row","_law_tree","_law_i"] (spP K (bM t) eZ):=
 eR T.F_law_refused jM fun cdv A outer s H E hr=>⟨_,(ai (aX (i:=3) jM.nd rfl (by first | exact Or.inl rfl | exact Or.inr rfl) zw)
   (ai (B9 (i:=4) ⟨rfl,rfl⟩ jM.nd rfl rfl (fun _ _ _ hW hO=>(aq (lH (aC ((qh T).mono (by decide)) hr rfl T.lA T.F_meant.kp T.b_meant .nil hW (aa (qv 0) (aa (qv 1) (aa (qv 2) ak))))))) rfl T.m_GlassError (fun _=>(aq (aX (i:=3) jM.nd rfl (by first | exact Or.inl rfl | exact Or.inr rfl) (cR C8 rfl T.n_isinstance L2.E.boot_isinstance (aa (qv 4) (aa (aK (v:=.ref _) rfl T.m_NoNode rfl) ak)))))) aF)
   (aq (aA (qv 3))))),
  (ay (aZ Ah)
    (ay (Cd (fun _=>(zB (aG (af ae (af ae (af ae ax)))))) (aZ (Gu (yC T))) (oS T))
    gR))⟩
theorem GF (T:Txt K mg t):cb P w K mg base (CXE P w) 12 t.tW t.d_law ["_law_script"] (spP K (bM t) tW):=
 eR T.F_law kU fun cdv A outer s H E hr=>⟨_,(ai (aX (i:=1) kU.nd rfl (by first | exact Or.inl rfl | exact Or.inr rfl) (aC ((uj T).mono (by decide)) hr rfl T.jE T.F_law_points.kp T.b_law_points .nil aF (aa (qv 0) (aa ao ak))))
   (ai (aX (i:=2) kU.nd rfl (by first | exact Or.inl rfl | exact Or.inr rfl) (aC ((rA T).mono (by decide)) hr rfl T.la T.F_law_text.kp T.b_law_text .nil aF (aa (qv 1) (aa (aC ((jq T).mono (by decide)) hr rfl T.gP T.F_law_mix.kp T.b_law_mix .nil aF (aa (qv 0) (aa ao ak))) ak))))
   (ai (bj (aB ck (aV fU (aC ((jq T).mono (by decide)) hr rfl T.gP T.F_law_mix.kp T.b_law_mix .nil aF (aa (qv 0) (aa ao ak))) ao) ao (aL _)) (ai (aX (i:=3) kU.nd rfl (by first | exact Or.inl rfl | exact Or.inr rfl) (aC ((xE T).mono (by decide)) hr rfl T.p0 T.F_nodes.kp T.b_nodes .nil aF (aa (qv 2) ak)))
   (ai (aX (i:=4) kU.nd rfl (by first | exact Or.inl rfl | exact Or.inr rfl) (aC ((qh T).mono (by decide)) hr rfl T.lA T.F_meant.kp T.b_meant .nil aF (aa (qv 2) (aa (qv 3) (aa ao ak)))))
   (aq (aA (pq (aC ((lQ T).mono (by decide)) hr rfl T.iM T.F_law_wholes.kp T.b_law_wholes .nil aF (aa (qv 4) ak)) (tm (iR yn (qv 4) (qv 1) (aL _)))))))) aH)
   (ai (El (i:=5) kU.nd rfl (by first | exact Or.inl rfl | exact Or.inr rfl) (M:=["_law_script"]) (ι:=[0]) (x:="_law_k") ⟨rfl,rfl,rfl,rfl,rfl,rfl,rfl,rfl,rfl,rfl,rfl,by decide +kernel⟩ rfl (mf rfl T.n_range (aa (aV fU (aC ((jq T).mono (by decide)) hr rfl T.gP T.F_law_mix.kp T.b_law_mix .nil aF (aa (qv 0) (aa ao ak))) ao) ak)) fun _ _ _ _=>(aC ((p7 T).mono (by decide)) hr rfl T.eW T.F_law_point.kp T.b_law_point .nil qZ (aa (aC ((jq T).mono (by decide)) hr rfl T.gP T.F_law_mix.kp T.b_law_mix .nil qZ (aa (qv 0) (aa (aV cp ao (qv 1)) ak))) ak)))
   (ai (aX (i:=2) kU.nd rfl (by first | exact Or.inl rfl | exact Or.inr rfl) (aV fB (aV fB (aV fB (aV fB (bq (aa ao ak)) (qv 2)) (bq (aa ao ak))) (aC ((rA T).mono (by decide)) hr rfl T.la T.F_law_text.kp T.b_law_text .nil aF (aa (qv 5) (aa (aC ((jq T).mono (by decide)) hr rfl T.gP T.F_law_mix.kp T.b_law_mix .nil aF (aa (qv 0) (aa ao ak))) ak)))) (bq (aa ao ak))))
   (ai (aX (i:=3) kU.nd rfl (by first | exact Or.inl rfl | exact Or.inr rfl) (aC ((xE T).mono (by decide)) hr rfl T.p0 T.F_nodes.kp T.b_nodes .nil aF (aa (qv 2) ak)))
   (ai (aX (i:=6) kU.nd rfl (by first | exact Or.inl rfl | exact Or.inr rfl) (qI wc rfl T.n_list L2.E.boot_list (aa (qv 2) ak)))
   (ai (aX (i:=7) kU.nd rfl (by first | exact Or.inl rfl | exact Or.inr rfl) (aC ((qh T).mono (by decide)) hr rfl T.lA T.F_meant.kp T.b_meant .nil aF (aa (qv 6) (aa (qv 3) (aa ao ak)))))
   (ai (aX (i:=8) kU.nd rfl (by first | exact Or.inl rfl | exact Or.inr rfl) (aC ((qh T).mono (by decide)) hr rfl T.lA T.F_meant.kp T.b_meant .nil aF (aa (qv 6) (aa (qv 3) (aa ao ak)))))
   (ai (bj (pU (zt (aB HK (qv 6) (qv 2) (aL _)) (u3 (vD (fh (aC ((sT T).mono (by decide)) hr rfl T.j7 T.F_law_refused.kp T.b_law_refused .nil aF (aa (qv 2) (aa (qv 3) (aa ao ak)))) (fun _=>rfl)))))) (aq (aA zw)) aH)
   (aq (aA (pq (aC ((lQ T).mono (by decide)) hr rfl T.iM T.F_law_wholes.kp T.b_law_wholes .nil aF (aa (qv 7) ak)) (pq (aC ((lQ T).mono (by decide)) hr rfl T.iM T.F_law_wholes.kp T.b_law_wholes .nil aF (aa (qv 8) ak)) (pq (iR yn (qv 7) (qv 1) (aL _)) (tm (iR yn (qv 8) (qv 5) (aL _)))))))))))))))))),
  (ay (aZ (aG (af ae (af ah ax))))
    (ay (dw (i:=1) (aZ (aG (af ae (af (aG (af ae (af ah ax))) ax)))))
    (ay (bp (az (aw cj (aw fG (aG (af ae (af ah ax))) ah) ah)) (ay (dw (i:=2) (aZ (aG (af ae ax))))
    (ay (dw (i:=3) (dw (i:=2) (aZ (aG (af ae (af ae (af ah ax)))))))
    (dw (i:=4) (aD (pK (aG (af ae ax)) (aw (yM hr.units) ae ae)))))) aI)
    (ay (aZ (sJ (by decide) (aw fG (aG (af ae (af ah ax))) ah) (aG (af (aG (af ae (af (aw cq ah ae) ax))) ax))))
    (ay (dw (i:=5) (aZ (aw iA (aw iA (aw iA (aw iA (br (af ah ax)) ae) (br (af ah ax))) (aG (af ae (af (aG (af ae (af ah ax))) ax)))) (br (af ah ax)))))
    (ay (dw (i:=2) (aZ (aG (af ae ax))))
    (ay (aZ (gc y4 ae))
    (ay (dw (i:=3) (dw (i:=6) (aZ (aG (af ae (af ae (af ah ax)))))))
    (ay (dw (i:=3) (dw (i:=6) (aZ (aG (af ae (af ae (af ah ax)))))))
    (ay (dw (i:=3) (dw (i:=2) (bp (zL (az (aw (Ga hr.units) ae ae)) (yA (gi (aG (af ae (af ae (af ah ax))))))) (aD Ah) aI)))
    (dw (i:=8) (dw (i:=7) (aD (pK (aG (af ae ax)) (pK (aG (af ae ax)) (pK (aw (yM hr.units) ae ae) (aw (yM hr.units) ae ae)))))))))))))))))⟩
end
open PySem.W in
theorem all_mk {l:PySem.W.OpenLaw} {w:World} {K:PySem.W.Frag} {h:Heap} {mg:Str -> Option Value} {fa:Addr} (X:K.In h) (G:h.Ns mainGlobals mg) (hfa:mg "law" = some (.ref fa))
  (a0:nsIn K mainGlobals "points" = some (some (.ref f0))) (l0:K.lookup f0 = some ⟨oc0,od0,.func (fnOf "points" "points" (aW kW) (aT kW) (av kW) .none kV0 dc0 pm0 an0 cd0 ct0),sl0⟩) (c0:codeIn K cd0 "points" = true) (k0:keepIn K (.ref f0) = true)
  (a1:nsIn K mainGlobals "character_end" = some (some (.ref f1))) (l1:K.lookup f1 = some ⟨oc1,od1,.func (fnOf "character_end" "character_end" (aW eD) (aT eD) (av eD) .none kV1 dc1 pm1 an1 cd1 ct1),sl1⟩) (c1:codeIn K cd1 "character_end" = true) (k1:keepIn K (.ref f1) = true)
  (a2:nsIn K mainGlobals "tails" = some (some (.ref f2))) (l2:K.lookup f2 = some ⟨oc2,od2,.func (fnOf "tails" "tails" (aW mE) (aT mE) (av mE) .none kV2 dc2 pm2 an2 cd2 ct2),sl2⟩) (c2:codeIn K cd2 "tails" = true) (k2:keepIn K (.ref f2) = true)
  (a3:nsIn K mainGlobals "second_of_three" = some (some (.ref f3))) (l3:K.lookup f3 = some ⟨oc3,od3,.func (fnOf "second_of_three" "second_of_three" (aW dI) (aT dI) (av dI) .none kV3 dc3 pm3 an3 cd3 ct3),sl3⟩) (c3:codeIn K cd3 "second_of_three" = true) (k3:keepIn K (.ref f3) = true)
  (a4:nsIn K mainGlobals "second_of_four" = some (some (.ref f4))) (l4:K.lookup f4 = some ⟨oc4,od4,.func (fnOf "second_of_four" "second_of_four" (aW dZ) (aT dZ) (av dZ) .none kV4 dc4 pm4 an4 cd4 ct4),sl4⟩) (c4:codeIn K cd4 "second_of_four" = true) (k4:keepIn K (.ref f4) = true)
  (a5:nsIn K mainGlobals "character" = some (some (.ref f5))) (l5:K.lookup f5 = some ⟨oc5,od5,.func (fnOf "character" "character" (aW iF) (aT iF) (av iF) .none kV5 dc5 pm5 an5 cd5 ct5),sl5⟩) (c5:codeIn K cd5 "character" = true) (k5:keepIn K (.ref f5) = true)
  (a6:nsIn K mainGlobals "is_white" = some (some (.ref f6))) (l6:K.lookup f6 = some ⟨oc6,od6,.func (fnOf "is_white" "is_white" (aW je) (aT je) (av je) .none kV6 dc6 pm6 an6 cd6 ct6),sl6⟩) (c6:codeIn K cd6 "is_white" = true) (k6:keepIn K (.ref f6) = true)
  (a7:nsIn K mainGlobals "is_figure" = some (some (.ref f7))) (l7:K.lookup f7 = some ⟨oc7,od7,.func (fnOf "is_figure" "is_figure" (aW iy) (aT iy) (av iy) .none kV7 dc7 pm7 an7 cd7 ct7),sl7⟩) (c7:codeIn K cd7 "is_figure" = true) (k7:keepIn K (.ref f7) = true)
  (a8:nsIn K mainGlobals "hex_worth" = some (some (.ref f8))) (l8:K.lookup f8 = some ⟨oc8,od8,.func (fnOf "hex_worth" "hex_worth" (aW ic) (aT ic) (av ic) .none kV8 dc8 pm8 an8 cd8 ct8),sl8⟩) (c8:codeIn K cd8 "hex_worth" = true) (k8:keepIn K (.ref f8) = true)
  (a9:nsIn K mainGlobals "word_rest" = some (some (.ref f9))) (l9:K.lookup f9 = some ⟨oc9,od9,.func (fnOf "word_rest" "word_rest" (aW ip) (aT ip) (av ip) .none kV9 dc9 pm9 an9 cd9 ct9),sl9⟩) (c9:codeIn K cd9 "word_rest" = true) (k9:keepIn K (.ref f9) = true)
  (a10:nsIn K mainGlobals "short_escape" = some (some (.ref f10))) (l10:K.lookup f10 = some ⟨oc10,od10,.func (fnOf "short_escape" "short_escape" (aW fb) (aT fb) (av fb) .none kV10 dc10 pm10 an10 cd10 ct10),sl10⟩) (c10:codeIn K cd10 "short_escape" = true) (k10:keepIn K (.ref f10) = true)
  (a11:nsIn K mainGlobals "meant" = some (some (.ref f11))) (l11:K.lookup f11 = some ⟨oc11,od11,.func (fnOf "meant" "meant" (aW m9) (aT m9) (av m9) .none kV11 dc11 pm11 an11 cd11 ct11),sl11⟩) (c11:codeIn K cd11 "meant" = true) (k11:keepIn K (.ref f11) = true)
  (a12:nsIn K mainGlobals "without_escapes" = some (some (.ref f12))) (l12:K.lookup f12 = some ⟨oc12,od12,.func (fnOf "without_escapes" "without_escapes" (aW dE) (aT dE) (av dE) .none kV12 dc12 pm12 an12 cd12 ct12),sl12⟩) (c12:codeIn K cd12 "without_escapes" = true) (k12:keepIn K (.ref f12) = true)
  (a13:nsIn K mainGlobals "sign_size" = some (some (.ref f13))) (l13:K.lookup f13 = some ⟨oc13,od13,.func (fnOf "sign_size" "sign_size" (aW ig) (aT ig) (av ig) .none kV13 dc13 pm13 an13 cd13 ct13),sl13⟩) (c13:codeIn K cd13 "sign_size" = true) (k13:keepIn K (.ref f13) = true)
  (a14:nsIn K mainGlobals "sign_meant" = some (some (.ref f14))) (l14:K.lookup f14 = some ⟨oc14,od14,.func (fnOf "sign_meant" "sign_meant" (aW gE) (aT gE) (av gE) .none kV14 dc14 pm14 an14 cd14 ct14),sl14⟩) (c14:codeIn K cd14 "sign_meant" = true) (k14:keepIn K (.ref f14) = true)
  (a15:nsIn K mainGlobals "code" = some (some (.ref f15))) (l15:K.lookup f15 = some ⟨oc15,od15,.func (fnOf "code" "code" (aW pC) (aT pC) (av pC) .none kV15 dc15 pm15 an15 cd15 ct15),sl15⟩) (c15:codeIn K cd15 "code" = true) (k15:keepIn K (.ref f15) = true)
  (a16:nsIn K mainGlobals "behind" = some (some (.ref f16))) (l16:K.lookup f16 = some ⟨oc16,od16,.func (fnOf "behind" "behind" (aW kT) (aT kT) (av kT) .none kV16 dc16 pm16 an16 cd16 ct16),sl16⟩) (c16:codeIn K cd16 "behind" = true) (k16:keepIn K (.ref f16) = true)
  (a17:nsIn K mainGlobals "behind_value" = some (some (.ref f17))) (l17:K.lookup f17 = some ⟨oc17,od17,.func (fnOf "behind_value" "behind_value" (aW fj) (aT fj) (av fj) .none kV17 dc17 pm17 an17 cd17 ct17),sl17⟩) (c17:codeIn K cd17 "behind_value" = true) (k17:keepIn K (.ref f17) = true)
  (a18:nsIn K mainGlobals "behind_lead" = some (some (.ref f18))) (l18:K.lookup f18 = some ⟨oc18,od18,.func (fnOf "behind_lead" "behind_lead" (aW fR) (aT fR) (av fR) .none kV18 dc18 pm18 an18 cd18 ct18),sl18⟩) (c18:codeIn K cd18 "behind_lead" = true) (k18:keepIn K (.ref f18) = true)
  (a19:nsIn K mainGlobals "behind_in_number" = some (some (.ref f19))) (l19:K.lookup f19 = some ⟨oc19,od19,.func (fnOf "behind_in_number" "behind_in_number" (aW dn) (aT dn) (av dn) .none kV19 dc19 pm19 an19 cd19 ct19),sl19⟩) (c19:codeIn K cd19 "behind_in_number" = true) (k19:keepIn K (.ref f19) = true)
  (a20:nsIn K mainGlobals "behind_in_text" = some (some (.ref f20))) (l20:K.lookup f20 = some ⟨oc20,od20,.func (fnOf "behind_in_text" "behind_in_text" (aW dX) (aT dX) (av dX) .none kV20 dc20 pm20 an20 cd20 ct20),sl20⟩) (c20:codeIn K cd20 "behind_in_text" = true) (k20:keepIn K (.ref f20) = true)
  (a21:nsIn K mainGlobals "behind_character" = some (some (.ref f21))) (l21:K.lookup f21 = some ⟨oc21,od21,.func (fnOf "behind_character" "behind_character" (aW du) (aT du) (av du) .none kV21 dc21 pm21 an21 cd21 ct21),sl21⟩) (c21:codeIn K cd21 "behind_character" = true) (k21:keepIn K (.ref f21) = true)
  (a22:nsIn K mainGlobals "behind_backslash" = some (some (.ref f22))) (l22:K.lookup f22 = some ⟨oc22,od22,.func (fnOf "behind_backslash" "behind_backslash" (aW dj) (aT dj) (av dj) .none kV22 dc22 pm22 an22 cd22 ct22),sl22⟩) (c22:codeIn K cd22 "behind_backslash" = true) (k22:keepIn K (.ref f22) = true)
  (a23:nsIn K mainGlobals "behind_code_d" = some (some (.ref f23))) (l23:K.lookup f23 = some ⟨oc23,od23,.func (fnOf "behind_code_d" "behind_code_d" (aW eC) (aT eC) (av eC) .none kV23 dc23 pm23 an23 cd23 ct23),sl23⟩) (c23:codeIn K cd23 "behind_code_d" = true) (k23:keepIn K (.ref f23) = true)
  (a24:nsIn K mainGlobals "behind_hex" = some (some (.ref f24))) (l24:K.lookup f24 = some ⟨oc24,od24,.func (fnOf "behind_hex" "behind_hex" (aW gC) (aT gC) (av gC) .none kV24 dc24 pm24 an24 cd24 ct24),sl24⟩) (c24:codeIn K cd24 "behind_hex" = true) (k24:keepIn K (.ref f24) = true)
  (a25:nsIn K mainGlobals "behind_in_brackets" = some (some (.ref f25))) (l25:K.lookup f25 = some ⟨oc25,od25,.func (fnOf "behind_in_brackets" "behind_in_brackets" (aW cD) (aT cD) (av cD) .none kV25 dc25 pm25 an25 cd25 ct25),sl25⟩) (c25:codeIn K cd25 "behind_in_brackets" = true) (k25:keepIn K (.ref f25) = true)
  (a26:nsIn K mainGlobals "behind_row_begin" = some (some (.ref f26))) (l26:K.lookup f26 = some ⟨oc26,od26,.func (fnOf "behind_row_begin" "behind_row_begin" (aW dg) (aT dg) (av dg) .none kV26 dc26 pm26 an26 cd26 ct26),sl26⟩) (c26:codeIn K cd26 "behind_row_begin" = true) (k26:keepIn K (.ref f26) = true)
  (a27:nsIn K mainGlobals "behind_fields_begin" = some (some (.ref f27))) (l27:K.lookup f27 = some ⟨oc27,od27,.func (fnOf "behind_fields_begin" "behind_fields_begin" (aW cC) (aT cC) (av cC) .none kV27 dc27 pm27 an27 cd27 ct27),sl27⟩) (c27:codeIn K cd27 "behind_fields_begin" = true) (k27:keepIn K (.ref f27) = true)
  (a28:nsIn K mainGlobals "member_rest" = some (some (.ref f28))) (l28:K.lookup f28 = some ⟨oc28,od28,.func (fnOf "member_rest" "member_rest" (aW fM) (aT fM) (av fM) .none kV28 dc28 pm28 an28 cd28 ct28),sl28⟩) (c28:codeIn K cd28 "member_rest" = true) (k28:keepIn K (.ref f28) = true)
  (a29:nsIn K mainGlobals "fault" = some (some (.ref f29))) (l29:K.lookup f29 = some ⟨oc29,od29,.func (fnOf "fault" "fault" (aW mS) (aT mS) (av mS) .none kV29 dc29 pm29 an29 cd29 ct29),sl29⟩) (c29:codeIn K cd29 "fault" = true) (k29:keepIn K (.ref f29) = true)
  (a30:nsIn K mainGlobals "refuse_fault" = some (some (.ref f30))) (l30:K.lookup f30 = some ⟨oc30,od30,.func (fnOf "refuse_fault" "refuse_fault" (aW fe) (aT fe) (av fe) .none kV30 dc30 pm30 an30 cd30 ct30),sl30⟩) (c30:codeIn K cd30 "refuse_fault" = true) (k30:keepIn K (.ref f30) = true)
  (a31:nsIn K mainGlobals "nodes" = some (some (.ref f31))) (l31:K.lookup f31 = some ⟨oc31,od31,.func (fnOf "nodes" "nodes" (aW mT) (aT mT) (av mT) .none kV31 dc31 pm31 an31 cd31 ct31),sl31⟩) (c31:codeIn K cd31 "nodes" = true) (k31:keepIn K (.ref f31) = true)
  (a32:nsIn K mainGlobals "leaf" = some (some (.ref f32))) (l32:K.lookup f32 = some ⟨oc32,od32,.func (fnOf "leaf" "leaf" (aW pB) (aT pB) (av pB) .none kV32 dc32 pm32 an32 cd32 ct32),sl32⟩) (c32:codeIn K cd32 "leaf" = true) (k32:keepIn K (.ref f32) = true)
  (a33:nsIn K mainGlobals "plain_end" = some (some (.ref f33))) (l33:K.lookup f33 = some ⟨oc33,od33,.func (fnOf "plain_end" "plain_end" (aW g8) (aT g8) (av g8) .none kV33 dc33 pm33 an33 cd33 ct33),sl33⟩) (c33:codeIn K cd33 "plain_end" = true) (k33:keepIn K (.ref f33) = true)
  (a34:nsIn K mainGlobals "text_end" = some (some (.ref f34))) (l34:K.lookup f34 = some ⟨oc34,od34,.func (fnOf "text_end" "text_end" (aW jo) (aT jo) (av jo) .none kV34 dc34 pm34 an34 cd34 ct34),sl34⟩) (c34:codeIn K cd34 "text_end" = true) (k34:keepIn K (.ref f34) = true)
  (a35:nsIn K mainGlobals "is_name" = some (some (.ref f35))) (l35:K.lookup f35 = some ⟨oc35,od35,.func (fnOf "is_name" "is_name" (aW jX) (aT jX) (av jX) .none kV35 dc35 pm35 an35 cd35 ct35),sl35⟩) (c35:codeIn K cd35 "is_name" = true) (k35:keepIn K (.ref f35) = true)
  (a36:nsIn K mainGlobals "with_member" = some (some (.ref f36))) (l36:K.lookup f36 = some ⟨oc36,od36,.func (fnOf "with_member" "with_member" (aW fW) (aT fW) (av fW) .none kV36 dc36 pm36 an36 cd36 ct36),sl36⟩) (c36:codeIn K cd36 "with_member" = true) (k36:keepIn K (.ref f36) = true)
  (a37:nsIn K mainGlobals "_law_cell" = some (some (.ref f37))) (l37:K.lookup f37 = some ⟨oc37,od37,.func (fnOf "_law_cell" "_law_cell" (aW jg) (aT jg) (av jg) .none kV37 dc37 pm37 an37 cd37 ct37),sl37⟩) (c37:codeIn K cd37 "_law_cell" = true) (k37:keepIn K (.ref f37) = true)
  (a38:nsIn K mainGlobals "_law_mix" = some (some (.ref f38))) (l38:K.lookup f38 = some ⟨oc38,od38,.func (fnOf "_law_mix" "_law_mix" (aW jY) (aT jY) (av jY) .none kV38 dc38 pm38 an38 cd38 ct38),sl38⟩) (c38:codeIn K cd38 "_law_mix" = true) (k38:keepIn K (.ref f38) = true)
  (a39:nsIn K mainGlobals "_law_whole" = some (some (.ref f39))) (l39:K.lookup f39 = some ⟨oc39,od39,.func (fnOf "_law_whole" "_law_whole" (aW ik) (aT ik) (av ik) .none kV39 dc39 pm39 an39 cd39 ct39),sl39⟩) (c39:codeIn K cd39 "_law_whole" = true) (k39:keepIn K (.ref f39) = true)
  (a40:nsIn K mainGlobals "_law_wholes" = some (some (.ref f40))) (l40:K.lookup f40 = some ⟨oc40,od40,.func (fnOf "_law_wholes" "_law_wholes" (aW gF) (aT gF) (av gF) .none kV40 dc40 pm40 an40 cd40 ct40),sl40⟩) (c40:codeIn K cd40 "_law_wholes" = true) (k40:keepIn K (.ref f40) = true)
  (a41:nsIn K mainGlobals "_law_point" = some (some (.ref f41))) (l41:K.lookup f41 = some ⟨oc41,od41,.func (fnOf "_law_point" "_law_point" (aW iD) (aT iD) (av iD) .none kV41 dc41 pm41 an41 cd41 ct41),sl41⟩) (c41:codeIn K cd41 "_law_point" = true) (k41:keepIn K (.ref f41) = true)
  (a42:nsIn K mainGlobals "_law_points" = some (some (.ref f42))) (l42:K.lookup f42 = some ⟨oc42,od42,.func (fnOf "_law_points" "_law_points" (aW gH) (aT gH) (av gH) .none kV42 dc42 pm42 an42 cd42 ct42),sl42⟩) (c42:codeIn K cd42 "_law_points" = true) (k42:keepIn K (.ref f42) = true)
  (a43:nsIn K mainGlobals "_law_eight" = some (some (.ref f43))) (l43:K.lookup f43 = some ⟨oc43,od43,.func (fnOf "_law_eight" "_law_eight" (aW iB) (aT iB) (av iB) .none kV43 dc43 pm43 an43 cd43 ct43),sl43⟩) (c43:codeIn K cd43 "_law_eight" = true) (k43:keepIn K (.ref f43) = true)
  (a44:nsIn K mainGlobals "_law_hex" = some (some (.ref f44))) (l44:K.lookup f44 = some ⟨oc44,od44,.func (fnOf "_law_hex" "_law_hex" (aW jW) (aT jW) (av jW) .none kV44 dc44 pm44 an44 cd44 ct44),sl44⟩) (c44:codeIn K cd44 "_law_hex" = true) (k44:keepIn K (.ref f44) = true)
  (a45:nsIn K mainGlobals "_law_sign" = some (some (.ref f45))) (l45:K.lookup f45 = some ⟨oc45,od45,.func (fnOf "_law_sign" "_law_sign" (aW jn) (aT jn) (av jn) .none kV45 dc45 pm45 an45 cd45 ct45),sl45⟩) (c45:codeIn K cd45 "_law_sign" = true) (k45:keepIn K (.ref f45) = true)
  (a46:nsIn K mainGlobals "_law_text" = some (some (.ref f46))) (l46:K.lookup f46 = some ⟨oc46,od46,.func (fnOf "_law_text" "_law_text" (aW ji) (aT ji) (av ji) .none kV46 dc46 pm46 an46 cd46 ct46),sl46⟩) (c46:codeIn K cd46 "_law_text" = true) (k46:keepIn K (.ref f46) = true)
  (a47:nsIn K mainGlobals "_law_refused" = some (some (.ref f47))) (l47:K.lookup f47 = some ⟨oc47,od47,.func (fnOf "_law_refused" "_law_refused" (aW fV) (aT fV) (av fV) .none kV47 dc47 pm47 an47 cd47 ct47),sl47⟩) (c47:codeIn K cd47 "_law_refused" = true) (k47:keepIn K (.ref f47) = true)
  (a48:nsIn K mainGlobals "law" = some (some (.ref f48))) (l48:K.lookup f48 = some ⟨oc48,od48,.func (fnOf "law" "law" (aW tJ) (aT tJ) (av tJ) .none kV48 dc48 pm48 an48 cd48 ct48),sl48⟩) (c48:codeIn K cd48 "law" = true) (k48:keepIn K (.ref f48) = true)
  (a49:findIn K (.ref C3) "__init__" = some (some (.ref f49))) (i49:isFn K (.ref f49) = true) (l49:K.lookup f49 = some ⟨oc49,od49,.func (fnOf "__init__" "Walk.__init__" (aW eE) (aT eE) (av eE) .none kV49 dc49 pm49 an49 cd49 ct49),sl49⟩) (c49:codeIn K cd49 "Walk.__init__" = true) (k49:keepIn K (.ref f49) = true)
  (a50:findIn K (.ref C3) "take" = some (some (.ref f50))) (i50:isFn K (.ref f50) = true) (l50:K.lookup f50 = some ⟨oc50,od50,.func (fnOf "take" "Walk.take" (aW ia) (aT ia) (av ia) .none kV50 dc50 pm50 an50 cd50 ct50),sl50⟩) (c50:codeIn K cd50 "Walk.take" = true) (k50:keepIn K (.ref f50) = true)
  (a51:findIn K (.ref C3) "goes_on" = some (some (.ref f51))) (i51:isFn K (.ref f51) = true) (l51:K.lookup f51 = some ⟨oc51,od51,.func (fnOf "goes_on" "Walk.goes_on" (aW fg) (aT fg) (av fg) .none kV51 dc51 pm51 an51 cd51 ct51),sl51⟩) (c51:codeIn K cd51 "Walk.goes_on" = true) (k51:keepIn K (.ref f51) = true)
  (a52:findIn K (.ref C3) "brackets" = some (some (.ref f52))) (i52:isFn K (.ref f52) = true) (l52:K.lookup f52 = some ⟨oc52,od52,.func (fnOf "brackets" "Walk.brackets" (aW eI) (aT eI) (av eI) .none kV52 dc52 pm52 an52 cd52 ct52),sl52⟩) (c52:codeIn K cd52 "Walk.brackets" = true) (k52:keepIn K (.ref f52) = true)
  (a53:findIn K (.ref C3) "is_whole" = some (some (.ref f53))) (i53:isFn K (.ref f53) = true) (l53:K.lookup f53 = some ⟨oc53,od53,.func (fnOf "is_whole" "Walk.is_whole" (aW eK) (aT eK) (av eK) .none kV53 dc53 pm53 an53 cd53 ct53),sl53⟩) (c53:codeIn K cd53 "Walk.is_whole" = true) (k53:keepIn K (.ref f53) = true)
  (z0:nsIn K mainGlobals "len" = some none)
  (z1:nsIn K mainGlobals "isinstance" = some none)
  (z2:nsIn K mainGlobals "tuple" = some none)
  (z3:nsIn K mainGlobals "range" = some none)
  (z4:nsIn K mainGlobals "int" = some none)
  (z5:nsIn K mainGlobals "bool" = some none)
  (z6:nsIn K mainGlobals "list" = some none)
  (z7:nsIn K mainGlobals "all" = some none)
  (z8:nsIn K mainGlobals "enumerate" = some none)
  (z9:nsIn K mainGlobals "ValueError" = some none)
  (ca3:nsIn K mainGlobals "Walk" = some (some (.ref C3))) (pg3:plainGet K C3 Str.empty = true) (hd3:hasDictIn K C3 = true) (po3:plainOver K C3 = true) (sa3:findIn K (.ref C3) "__setattr__" = some (some (.builtin "object.__setattr__"))) (mk3:makesIn K C3 = true) (kc3:keepIn K (.ref C3) = true)
  (na3_0:findIn K (.ref C3) "coming" = some none)
  (ca0:nsIn K mainGlobals "GlassError" = some (some (.ref C0))) (cl0:K.lookup C0 = some (excClassObj nm0 qn0 C0 N0 bs0 [.type "ValueError",.type "Exception",.type "BaseException",.type "object"] hd0 sn0 sub0 ab0 co0 dd0 p00 p10 p20 p30 p50 id0))
  (cx0:excIn K C0 [.type "ValueError",.type "Exception",.type "BaseException",.type "object"] "ValueError.__new__" = true)
  (ca1:nsIn K mainGlobals "Fault" = some (some (.ref C1))) (cl1:K.lookup C1 = some (excClassObj nm1 qn1 C1 N1 bs1 [.ref C0,.type "ValueError",.type "Exception",.type "BaseException",.type "object"] hd1 sn1 sub1 ab1 co1 dd1 p01 p11 p21 p31 p51 "ValueError.__new__"))
  (ii1:findIn K (.ref C1) "__init__" = some (some (.ref fi1))) (il1:K.lookup fi1 = some ⟨.type "function",oi1,.func (fnOf "__init__" "Fault.__init__" (aW gD) (aT gD) (av gD) .none kI1 dI1 pI1 ai1 cI1 tI1),si1⟩) (ic1:codeIn K cI1 "Fault.__init__" = true) (ik1:keepIn K (.ref fi1) = true)
  (xa1:hasDictIn K C1 = true) (xc1:findIn K (.ref C1) "__setattr__" = some (some (.builtin "object.__setattr__"))) (xd1:findIn K (.ref C1) "__getattribute__" = some (some (.builtin "BaseException.__getattribute__"))) (xe1:findIn K (.ref C1) "__getattr__" = some none) (xf1:findIn K (.ref C1) "at" = some none)
  (ca2:nsIn K mainGlobals "NoNode" = some (some (.ref C2))) (cl2:K.lookup C2 = some (excClassObj nm2 qn2 C2 N2 bs2 [.ref C0,.type "ValueError",.type "Exception",.type "BaseException",.type "object"] hd2 sn2 sub2 ab2 co2 dd2 p02 p12 p22 p32 p52 id2))
  (cx2:excIn K C2 [.type "ValueError",.type "Exception",.type "BaseException",.type "object"] "ValueError.__new__" = true)
  (va0:nsIn K mainGlobals "FIRST_PAIRED" = some (some (.int 55296 t0)))
  (va1:nsIn K mainGlobals "LAST_PAIRED" = some (some (.int 57343 t1)))
  (va2:nsIn K mainGlobals "MARKS" = some (some (.ref v2))) (vl2:K.lookup v2 = some ⟨.type "tuple",vd2,.seq #[.int 0 t2_0,.int 192 t2_1,.int 224 t2_2,.int 240 t2_3] vn2,vs2⟩)
  (va3:nsIn K mainGlobals "TAIL_MARK" = some (some (.int 128 t3)))
  (va4:nsIn K mainGlobals "TAIL" = some (some (.ref v4))) (vl4:K.lookup v4 = some ⟨.type "tuple",vd4,.seq #[.int 128 t4_0,.int 191 t4_1] vn4,vs4⟩)
  (va5:nsIn K mainGlobals "BLANK" = some (some (.int 32 t5)))
  (va6:nsIn K mainGlobals "QUOTE" = some (some (.int 34 t6)))
  (va7:nsIn K mainGlobals "PLUS" = some (some (.int 43 t7)))
  (va8:nsIn K mainGlobals "COMMA" = some (some (.int 44 t8)))
  (va9:nsIn K mainGlobals "MINUS" = some (some (.int 45 t9)))
  (va10:nsIn K mainGlobals "POINT" = some (some (.int 46 t10)))
  (va11:nsIn K mainGlobals "NOUGHT" = some (some (.int 48 t11)))
  (va12:nsIn K mainGlobals "NINE" = some (some (.int 57 t12)))
  (va13:nsIn K mainGlobals "COLON" = some (some (.int 58 t13)))
  (va14:nsIn K mainGlobals "BIG_E" = some (some (.int 69 t14)))
  (va15:nsIn K mainGlobals "ROW_BEGIN" = some (some (.int 91 t15)))
  (va16:nsIn K mainGlobals "BACKSLASH" = some (some (.int 92 t16)))
  (va17:nsIn K mainGlobals "ROW_END" = some (some (.int 93 t17)))
  (va18:nsIn K mainGlobals "SMALL_E" = some (some (.int 101 t18)))
  (va19:nsIn K mainGlobals "SMALL_U" = some (some (.int 117 t19)))
  (va20:nsIn K mainGlobals "FIELDS_BEGIN" = some (some (.int 123 t20)))
  (va21:nsIn K mainGlobals "FIELDS_END" = some (some (.int 125 t21)))
  (va22:nsIn K mainGlobals "WHITE" = some (some (.ref v22))) (vl22:K.lookup v22 = some ⟨.type "tuple",vd22,.seq #[.int 9 t22_0,.int 10 t22_1,.int 13 t22_2,.int 32 t22_3] vn22,vs22⟩)
  (va23:nsIn K mainGlobals "WORDS" = some (some (.ref v23))) (vl23:K.lookup v23 = some ⟨.type "dict",none,.dict #[⟨110,.int 110 tk23_0,.ref w23_0⟩,⟨116,.int 116 tk23_1,.ref w23_1⟩,⟨102,.int 102 tk23_2,.ref w23_2⟩] ep23,#[]⟩)
  (wl23_0:K.lookup w23_0 = some ⟨.type "tuple",wd23_0,.seq #[.int 117 tx23_0_0,.int 108 tx23_0_1,.int 108 tx23_0_2] wn23_0,ws23_0⟩)
  (wl23_1:K.lookup w23_1 = some ⟨.type "tuple",wd23_1,.seq #[.int 114 tx23_1_0,.int 117 tx23_1_1,.int 101 tx23_1_2] wn23_1,ws23_1⟩)
  (wl23_2:K.lookup w23_2 = some ⟨.type "tuple",wd23_2,.seq #[.int 97 tx23_2_0,.int 108 tx23_2_1,.int 115 tx23_2_2,.int 101 tx23_2_3] wn23_2,ws23_2⟩)
  (vm23:(v23 == sysModules) = false)
  (va24:nsIn K mainGlobals "SHORT_ESCAPES" = some (some (.ref v24))) (vl24:K.lookup v24 = some ⟨.type "dict",none,.dict #[⟨34,.int 34 tk24_0,(.int 34 tv24_0)⟩,⟨92,.int 92 tk24_1,(.int 92 tv24_1)⟩,⟨47,.int 47 tk24_2,(.int 47 tv24_2)⟩,⟨98,.int 98 tk24_3,(.int 8 tv24_3)⟩,⟨102,.int 102 tk24_4,(.int 12 tv24_4)⟩,⟨110,.int 110 tk24_5,(.int 10 tv24_5)⟩,⟨114,.int 114 tk24_6,(.int 13 tv24_6)⟩,⟨116,.int 116 tk24_7,(.int 9 tv24_7)⟩] ep24,#[]⟩)
  (vm24:(v24 == sysModules) = false)
  (va25:nsIn K mainGlobals "CODE_SIZE" = some (some (.int 6 t25)))
  (va26:nsIn K mainGlobals "MOST_BRACKETS" = some (some (.int 64 t26)))
  (va27:nsIn K mainGlobals "LOOSE" = some (some (.ref v27))) (vl27:K.lookup v27 = some ⟨.type "tuple",vd27,.seq #[.str "white" t27_0,.str "figures" t27_1,.str "fraction" t27_2,.str "exponent" t27_3,.str "sign" t27_4] vn27,vs27⟩)
  (va28:nsIn K mainGlobals "UNENDED" = some (some (.ref v28))) (vl28:K.lookup v28 = some ⟨.type "tuple",vd28,.seq #[.str "row" t28_0,.str "more row" t28_1,.str "fields" t28_2,.str "more fields" t28_3] vn28,vs28⟩)
  (va29:nsIn K mainGlobals "KINDS" = some (some (.ref v29))) (vl29:K.lookup v29 = some ⟨.type "dict",none,.dict #[⟨34,.int 34 tk29_0,(.str "text" tv29_0)⟩,⟨91,.int 91 tk29_1,(.str "row" tv29_1)⟩,⟨102,.int 102 tk29_2,(.str "false" tv29_2)⟩,⟨110,.int 110 tk29_3,(.str "null" tv29_3)⟩,⟨116,.int 116 tk29_4,(.str "true" tv29_4)⟩,⟨123,.int 123 tk29_5,(.str "fields" tv29_5)⟩] ep29,#[]⟩)
  (vm29:(v29 == sysModules) = false):
  ∃ fd:FuncData,(∀ (s:Shared) (v:Value),BindsTo s fd ⟨[v],[]⟩ [("_law_script",v)]) /\ ∀ base:Heap,K.In base -> base.Ns mainGlobals mg -> cb l.prog w K mg base (CXE l.prog w) 12 fa fd ["_law_script"] (vF K):=by
 have e:=hfa.symm.trans (PySem.W.mg_of X G a48)
 cases e
 have T:Txt K mg ⟨f0,_,f1,_,f2,_,f3,_,f4,_,f5,_,f6,_,f7,_,f8,_,f9,_,f10,_,f11,_,f12,_,f13,_,f14,_,f15,_,f16,_,f17,_,f18,_,f19,_,f20,_,f21,_,f22,_,f23,_,f24,_,f25,_,f26,_,f27,_,f28,_,f29,_,f30,_,f31,_,f32,_,f33,_,f34,_,f35,_,f36,_,f37,_,f38,_,f39,_,f40,_,f41,_,f42,_,f43,_,f44,_,f45,_,f46,_,f47,_,f48,_,f49,_,f50,_,f51,_,f52,_,f53,_,C0,C1,fi1,_,C2,C3,_,_,v2,_,v4,_,_,_,_,_,_,_,_,_,_,_,_,_,_,_,_,_,v22,v23,v24,_,_,v27,v28,v29⟩:=⟨aE (st:=kW) l0 c0 k0,PySem.W.mg_of X G a0,(aE (st:=kW) l0 c0 k0).binds (ps:=["row"]) fun _ _ _ _ _ _ us hl=>match us,hl with | [_],_=>rfl,
  aE (st:=eD) l1 c1 k1,PySem.W.mg_of X G a1,(aE (st:=eD) l1 c1 k1).binds (ps:=["row","at"]) fun _ _ _ _ _ _ us hl=>match us,hl with | [_,_],_=>rfl,
  aE (st:=mE) l2 c2 k2,PySem.W.mg_of X G a2,(aE (st:=mE) l2 c2 k2).binds (ps:=["byte"]) fun _ _ _ _ _ _ us hl=>match us,hl with | [_],_=>rfl,
  aE (st:=dI) l3 c3 k3,PySem.W.mg_of X G a3,(aE (st:=dI) l3 c3 k3).binds (ps:=["byte"]) fun _ _ _ _ _ _ us hl=>match us,hl with | [_],_=>rfl,
  aE (st:=dZ) l4 c4 k4,PySem.W.mg_of X G a4,(aE (st:=dZ) l4 c4 k4).binds (ps:=["byte"]) fun _ _ _ _ _ _ us hl=>match us,hl with | [_],_=>rfl,
  aE (st:=iF) l5 c5 k5,PySem.W.mg_of X G a5,(aE (st:=iF) l5 c5 k5).binds (ps:=["row","at","end"]) fun _ _ _ _ _ _ us hl=>match us,hl with | [_,_,_],_=>rfl,
  aE (st:=je) l6 c6 k6,PySem.W.mg_of X G a6,(aE (st:=je) l6 c6 k6).binds (ps:=["byte"]) fun _ _ _ _ _ _ us hl=>match us,hl with | [_],_=>rfl,
  aE (st:=iy) l7 c7 k7,PySem.W.mg_of X G a7,(aE (st:=iy) l7 c7 k7).binds (ps:=["byte"]) fun _ _ _ _ _ _ us hl=>match us,hl with | [_],_=>rfl,
  aE (st:=ic) l8 c8 k8,PySem.W.mg_of X G a8,(aE (st:=ic) l8 c8 k8).binds (ps:=["byte"]) fun _ _ _ _ _ _ us hl=>match us,hl with | [_],_=>rfl,
  aE (st:=ip) l9 c9 k9,PySem.W.mg_of X G a9,(aE (st:=ip) l9 c9 k9).binds (ps:=["byte"]) fun _ _ _ _ _ _ us hl=>match us,hl with | [_],_=>rfl,
  aE (st:=fb) l10 c10 k10,PySem.W.mg_of X G a10,(aE (st:=fb) l10 c10 k10).binds (ps:=["byte"]) fun _ _ _ _ _ _ us hl=>match us,hl with | [_],_=>rfl,
  aE (st:=m9) l11 c11 k11,PySem.W.mg_of X G a11,(aE (st:=m9) l11 c11 k11).binds (ps:=["row","tree","i"]) fun _ _ _ _ _ _ us hl=>match us,hl with | [_,_,_],_=>rfl,
  aE (st:=dE) l12 c12 k12,PySem.W.mg_of X G a12,(aE (st:=dE) l12 c12 k12).binds (ps:=["signs"]) fun _ _ _ _ _ _ us hl=>match us,hl with | [_],_=>rfl,
  aE (st:=ig) l13 c13 k13,PySem.W.mg_of X G a13,(aE (st:=ig) l13 c13 k13).binds (ps:=["signs","at"]) fun _ _ _ _ _ _ us hl=>match us,hl with | [_,_],_=>rfl,
  aE (st:=gE) l14 c14 k14,PySem.W.mg_of X G a14,(aE (st:=gE) l14 c14 k14).binds (ps:=["signs","at","size"]) fun _ _ _ _ _ _ us hl=>match us,hl with | [_,_,_],_=>rfl,
  aE (st:=pC) l15 c15 k15,PySem.W.mg_of X G a15,(aE (st:=pC) l15 c15 k15).binds (ps:=["signs","at"]) fun _ _ _ _ _ _ us hl=>match us,hl with | [_,_],_=>rfl,
  aE (st:=kT) l16 c16 k16,PySem.W.mg_of X G a16,(aE (st:=kT) l16 c16 k16).binds (ps:=["item","byte"]) fun _ _ _ _ _ _ us hl=>match us,hl with | [_,_],_=>rfl,
  aE (st:=fj) l17 c17 k17,PySem.W.mg_of X G a17,(aE (st:=fj) l17 c17 k17).binds (ps:=["byte"]) fun _ _ _ _ _ _ us hl=>match us,hl with | [_],_=>rfl,
  aE (st:=fR) l18 c18 k18,PySem.W.mg_of X G a18,(aE (st:=fR) l18 c18 k18).binds (ps:=["byte"]) fun _ _ _ _ _ _ us hl=>match us,hl with | [_],_=>rfl,
  aE (st:=dn) l19 c19 k19,PySem.W.mg_of X G a19,(aE (st:=dn) l19 c19 k19).binds (ps:=["item","byte"]) fun _ _ _ _ _ _ us hl=>match us,hl with | [_,_],_=>rfl,
  aE (st:=dX) l20 c20 k20,PySem.W.mg_of X G a20,(aE (st:=dX) l20 c20 k20).binds (ps:=["item","byte"]) fun _ _ _ _ _ _ us hl=>match us,hl with | [_,_],_=>rfl,
  aE (st:=du) l21 c21 k21,PySem.W.mg_of X G a21,(aE (st:=du) l21 c21 k21).binds (ps:=["byte"]) fun _ _ _ _ _ _ us hl=>match us,hl with | [_],_=>rfl,
  aE (st:=dj) l22 c22 k22,PySem.W.mg_of X G a22,(aE (st:=dj) l22 c22 k22).binds (ps:=["byte"]) fun _ _ _ _ _ _ us hl=>match us,hl with | [_],_=>rfl,
  aE (st:=eC) l23 c23 k23,PySem.W.mg_of X G a23,(aE (st:=eC) l23 c23 k23).binds (ps:=["worth"]) fun _ _ _ _ _ _ us hl=>match us,hl with | [_],_=>rfl,
  aE (st:=gC) l24 c24 k24,PySem.W.mg_of X G a24,(aE (st:=gC) l24 c24 k24).binds (ps:=["item","byte"]) fun _ _ _ _ _ _ us hl=>match us,hl with | [_,_],_=>rfl,
  aE (st:=cD) l25 c25 k25,PySem.W.mg_of X G a25,(aE (st:=cD) l25 c25 k25).binds (ps:=["item","byte"]) fun _ _ _ _ _ _ us hl=>match us,hl with | [_,_],_=>rfl,
  aE (st:=dg) l26 c26 k26,PySem.W.mg_of X G a26,(aE (st:=dg) l26 c26 k26).binds (ps:=["byte"]) fun _ _ _ _ _ _ us hl=>match us,hl with | [_],_=>rfl,
  aE (st:=cC) l27 c27 k27,PySem.W.mg_of X G a27,(aE (st:=cC) l27 c27 k27).binds (ps:=["byte"]) fun _ _ _ _ _ _ us hl=>match us,hl with | [_],_=>rfl,
  aE (st:=fM) l28 c28 k28,PySem.W.mg_of X G a28,(aE (st:=fM) l28 c28 k28).binds (ps:=[]) fun _ _ _ _ _ _ us hl=>match us,hl with | [],_=>rfl,
  aE (st:=mS) l29 c29 k29,PySem.W.mg_of X G a29,(aE (st:=mS) l29 c29 k29).binds (ps:=["row"]) fun _ _ _ _ _ _ us hl=>match us,hl with | [_],_=>rfl,
  aE (st:=fe) l30 c30 k30,PySem.W.mg_of X G a30,(aE (st:=fe) l30 c30 k30).binds (ps:=["row"]) fun _ _ _ _ _ _ us hl=>match us,hl with | [_],_=>rfl,
  aE (st:=mT) l31 c31 k31,PySem.W.mg_of X G a31,(aE (st:=mT) l31 c31 k31).binds (ps:=["row"]) fun _ _ _ _ _ _ us hl=>match us,hl with | [_],_=>rfl,
  aE (st:=pB) l32 c32 k32,PySem.W.mg_of X G a32,(aE (st:=pB) l32 c32 k32).binds (ps:=["row","at","i"]) fun _ _ _ _ _ _ us hl=>match us,hl with | [_,_,_],_=>rfl,
  aE (st:=g8) l33 c33 k33,PySem.W.mg_of X G a33,(aE (st:=g8) l33 c33 k33).binds (ps:=["row","at"]) fun _ _ _ _ _ _ us hl=>match us,hl with | [_,_],_=>rfl,
  aE (st:=jo) l34 c34 k34,PySem.W.mg_of X G a34,(aE (st:=jo) l34 c34 k34).binds (ps:=["row","at"]) fun _ _ _ _ _ _ us hl=>match us,hl with | [_,_],_=>rfl,
  aE (st:=jX) l35 c35 k35,PySem.W.mg_of X G a35,(aE (st:=jX) l35 c35 k35).binds (ps:=["row","end"]) fun _ _ _ _ _ _ us hl=>match us,hl with | [_,_],_=>rfl,
  aE (st:=fW) l36 c36 k36,PySem.W.mg_of X G a36,(aE (st:=fW) l36 c36 k36).binds (ps:=["tree","i"]) fun _ _ _ _ _ _ us hl=>match us,hl with | [_,_],_=>rfl,
  aE (st:=jg) l37 c37 k37,PySem.W.mg_of X G a37,(aE (st:=jg) l37 c37 k37).binds (ps:=["_law_script","_law_k"]) fun _ _ _ _ _ _ us hl=>match us,hl with | [_,_],_=>rfl,
  aE (st:=jY) l38 c38 k38,PySem.W.mg_of X G a38,(aE (st:=jY) l38 c38 k38).binds (ps:=["_law_script","_law_k"]) fun _ _ _ _ _ _ us hl=>match us,hl with | [_,_],_=>rfl,
  aE (st:=ik) l39 c39 k39,PySem.W.mg_of X G a39,(aE (st:=ik) l39 c39 k39).binds (ps:=["_law_found"]) fun _ _ _ _ _ _ us hl=>match us,hl with | [_],_=>rfl,
  aE (st:=gF) l40 c40 k40,PySem.W.mg_of X G a40,(aE (st:=gF) l40 c40 k40).binds (ps:=["_law_found"]) fun _ _ _ _ _ _ us hl=>match us,hl with | [_],_=>rfl,
  aE (st:=iD) l41 c41 k41,PySem.W.mg_of X G a41,(aE (st:=iD) l41 c41 k41).binds (ps:=["_law_number"]) fun _ _ _ _ _ _ us hl=>match us,hl with | [_],_=>rfl,
  aE (st:=gH) l42 c42 k42,PySem.W.mg_of X G a42,(aE (st:=gH) l42 c42 k42).binds (ps:=["_law_script","_law_k"]) fun _ _ _ _ _ _ us hl=>match us,hl with | [_,_],_=>rfl,
  aE (st:=iB) l43 c43 k43,PySem.W.mg_of X G a43,(aE (st:=iB) l43 c43 k43).binds (ps:=["_law_point_here"]) fun _ _ _ _ _ _ us hl=>match us,hl with | [_],_=>rfl,
  aE (st:=jW) l44 c44 k44,PySem.W.mg_of X G a44,(aE (st:=jW) l44 c44 k44).binds (ps:=["_law_number","_law_big"]) fun _ _ _ _ _ _ us hl=>match us,hl with | [_,_],_=>rfl,
  aE (st:=jn) l45 c45 k45,PySem.W.mg_of X G a45,(aE (st:=jn) l45 c45 k45).binds (ps:=["_law_point_here","_law_number"]) fun _ _ _ _ _ _ us hl=>match us,hl with | [_,_],_=>rfl,
  aE (st:=ji) l46 c46 k46,PySem.W.mg_of X G a46,(aE (st:=ji) l46 c46 k46).binds (ps:=["_law_points_here","_law_number"]) fun _ _ _ _ _ _ us hl=>match us,hl with | [_,_],_=>rfl,
  aE (st:=fV) l47 c47 k47,PySem.W.mg_of X G a47,(aE (st:=fV) l47 c47 k47).binds (ps:=["_law_row","_law_tree","_law_i"]) fun _ _ _ _ _ _ us hl=>match us,hl with | [_,_,_],_=>rfl,
  aE (st:=tJ) l48 c48 k48,PySem.W.mg_of X G a48,(aE (st:=tJ) l48 c48 k48).binds (ps:=["_law_script"]) fun _ _ _ _ _ _ us hl=>match us,hl with | [_],_=>rfl,
  aE (st:=eE) l49 c49 k49,(aE (st:=eE) l49 c49 k49).binds (ps:=["self"]) fun _ _ _ _ _ _ us hl=>match us,hl with | [_],_=>rfl,
  aE (st:=ia) l50 c50 k50,⟨a50,i50,k50⟩,(aE (st:=ia) l50 c50 k50).binds (ps:=["self","row"]) fun _ _ _ _ _ _ us hl=>match us,hl with | [_,_],_=>rfl,
  aE (st:=fg) l51 c51 k51,⟨a51,i51,k51⟩,(aE (st:=fg) l51 c51 k51).binds (ps:=["self","byte"]) fun _ _ _ _ _ _ us hl=>match us,hl with | [_,_],_=>rfl,
  aE (st:=eI) l52 c52 k52,⟨a52,i52,k52⟩,(aE (st:=eI) l52 c52 k52).binds (ps:=["self"]) fun _ _ _ _ _ _ us hl=>match us,hl with | [_],_=>rfl,
  aE (st:=eK) l53 c53 k53,⟨a53,i53,k53⟩,(aE (st:=eK) l53 c53 k53).binds (ps:=["self"]) fun _ _ _ _ _ _ us hl=>match us,hl with | [_],_=>rfl,
  PySem.W.mg_none_of X G z0,
  PySem.W.mg_none_of X G z1,
  PySem.W.mg_none_of X G z2,
  PySem.W.mg_none_of X G z3,
  PySem.W.mg_none_of X G z4,
  PySem.W.mg_none_of X G z5,
  PySem.W.mg_none_of X G z6,
  PySem.W.mg_none_of X G z7,
  PySem.W.mg_none_of X G z8,
  PySem.W.mg_none_of X G z9,
  PySem.W.mg_of X G ca3,⟨pg3,hd3,po3,sa3⟩,⟨mk3,a49,i49,kc3⟩,
  na3_0,
  PySem.W.mg_of X G ca0,⟨by simp,_,_,_,_,_,_,_,_,_,_,_,_,_,_,_,_,cl0⟩,
  cx0,
  PySem.W.mg_of X G ca1,⟨by simp,_,_,_,_,_,_,_,_,_,_,_,_,_,_,_,_,cl1⟩,
  aE (st:=gD) il1 ic1 ik1,(aE (st:=gD) il1 ic1 ik1).binds (ps:=["self","at"]) fun _ _ _ _ _ _ us hl=>match us,hl with | [_,_],_=>rfl,
  ⟨PySem.W.mg_of X G ca1,⟨_,_,_,_,_,_,_,_,_,_,_,_,_,_,_,cl1⟩,by simp,D7 ⟨by simp,_,_,_,_,_,_,_,_,_,_,_,_,_,_,_,_,cl0⟩ cx0,ii1,⟨_,il1,rfl⟩,⟨xa1,AH cl1 (by rw [my,my]; decide),xc1,xd1,xe1,xf1⟩⟩,
  PySem.W.mg_of X G ca2,⟨by simp,_,_,_,_,_,_,_,_,_,_,_,_,_,_,_,_,cl2⟩,
  cx2,
  PySem.W.mg_of X G va0,⟨t0,rfl⟩,
  PySem.W.mg_of X G va1,⟨t1,rfl⟩,
  PySem.W.mg_of X G va2,rfl,fun H=>.inr ⟨_,_,_,vl2,rfl,rfl,(by show 4 <= sizeLine; decide),.cons ⟨_,rfl⟩ (.cons ⟨_,rfl⟩ (.cons ⟨_,rfl⟩ (.cons ⟨_,rfl⟩ (.nil))))⟩,
  PySem.W.mg_of X G va3,⟨t3,rfl⟩,
  PySem.W.mg_of X G va4,rfl,fun H=>.inr ⟨_,_,_,vl4,rfl,rfl,(by show 2 <= sizeLine; decide),.cons ⟨_,rfl⟩ (.cons ⟨_,rfl⟩ (.nil))⟩,
  PySem.W.mg_of X G va5,⟨t5,rfl⟩,
  PySem.W.mg_of X G va6,⟨t6,rfl⟩,
  PySem.W.mg_of X G va7,⟨t7,rfl⟩,
  PySem.W.mg_of X G va8,⟨t8,rfl⟩,
  PySem.W.mg_of X G va9,⟨t9,rfl⟩,
  PySem.W.mg_of X G va10,⟨t10,rfl⟩,
  PySem.W.mg_of X G va11,⟨t11,rfl⟩,
  PySem.W.mg_of X G va12,⟨t12,rfl⟩,
  PySem.W.mg_of X G va13,⟨t13,rfl⟩,
  PySem.W.mg_of X G va14,⟨t14,rfl⟩,
  PySem.W.mg_of X G va15,⟨t15,rfl⟩,
  PySem.W.mg_of X G va16,⟨t16,rfl⟩,
  PySem.W.mg_of X G va17,⟨t17,rfl⟩,
  PySem.W.mg_of X G va18,⟨t18,rfl⟩,
  PySem.W.mg_of X G va19,⟨t19,rfl⟩,
  PySem.W.mg_of X G va20,⟨t20,rfl⟩,
  PySem.W.mg_of X G va21,⟨t21,rfl⟩,
  PySem.W.mg_of X G va22,rfl,fun H=>.inr ⟨_,_,_,vl22,rfl,rfl,(by show 4 <= sizeLine; decide),.cons ⟨_,rfl⟩ (.cons ⟨_,rfl⟩ (.cons ⟨_,rfl⟩ (.cons ⟨_,rfl⟩ (.nil))))⟩,
  PySem.W.mg_of X G va23,rfl,⟨[(110,.ref w23_0),(116,.ref w23_1),(102,.ref w23_2)],⟨vm23,by simp,_,_,vl23,.cons ⟨rfl,⟨_,rfl⟩,rfl⟩ (.cons ⟨rfl,⟨_,rfl⟩,rfl⟩ (.cons ⟨rfl,⟨_,rfl⟩,rfl⟩ (.nil)))⟩,.cons ⟨rfl,fun _=>by unfold Rep; exact ⟨_,[.int 117,.int 108,.int 108],rfl,.inr ⟨_,_,_,wl23_0,rfl,rfl,(by show 3 <= sizeLine; decide),.cons ⟨_,rfl⟩ (.cons ⟨_,rfl⟩ (.cons ⟨_,rfl⟩ (.nil)))⟩,bR.ints (ns:=[117,108,108])⟩⟩ (.cons ⟨rfl,fun _=>by unfold Rep; exact ⟨_,[.int 114,.int 117,.int 101],rfl,.inr ⟨_,_,_,wl23_1,rfl,rfl,(by show 3 <= sizeLine; decide),.cons ⟨_,rfl⟩ (.cons ⟨_,rfl⟩ (.cons ⟨_,rfl⟩ (.nil)))⟩,bR.ints (ns:=[114,117,101])⟩⟩ (.cons ⟨rfl,fun _=>by unfold Rep; exact ⟨_,[.int 97,.int 108,.int 115,.int 101],rfl,.inr ⟨_,_,_,wl23_2,rfl,rfl,(by show 4 <= sizeLine; decide),.cons ⟨_,rfl⟩ (.cons ⟨_,rfl⟩ (.cons ⟨_,rfl⟩ (.cons ⟨_,rfl⟩ (.nil))))⟩,bR.ints (ns:=[97,108,115,101])⟩⟩ (.nil)))⟩,
  PySem.W.mg_of X G va24,rfl,⟨[(34,.int 34),(92,.int 92),(47,.int 47),(98,.int 8),(102,.int 12),(110,.int 10),(114,.int 13),(116,.int 9)],⟨vm24,by simp,_,_,vl24,.cons ⟨rfl,⟨_,rfl⟩,⟨_,rfl⟩⟩ (.cons ⟨rfl,⟨_,rfl⟩,⟨_,rfl⟩⟩ (.cons ⟨rfl,⟨_,rfl⟩,⟨_,rfl⟩⟩ (.cons ⟨rfl,⟨_,rfl⟩,⟨_,rfl⟩⟩ (.cons ⟨rfl,⟨_,rfl⟩,⟨_,rfl⟩⟩ (.cons ⟨rfl,⟨_,rfl⟩,⟨_,rfl⟩⟩ (.cons ⟨rfl,⟨_,rfl⟩,⟨_,rfl⟩⟩ (.cons ⟨rfl,⟨_,rfl⟩,⟨_,rfl⟩⟩ (.nil))))))))⟩,.cons ⟨rfl,fun _=>by unfold Rep; rfl⟩ (.cons ⟨rfl,fun _=>by unfold Rep; rfl⟩ (.cons ⟨rfl,fun _=>by unfold Rep; rfl⟩ (.cons ⟨rfl,fun _=>by unfold Rep; rfl⟩ (.cons ⟨rfl,fun _=>by unfold Rep; rfl⟩ (.cons ⟨rfl,fun _=>by unfold Rep; rfl⟩ (.cons ⟨rfl,fun _=>by unfold Rep; rfl⟩ (.cons ⟨rfl,fun _=>by unfold Rep; rfl⟩ (.nil))))))))⟩,
  PySem.W.mg_of X G va25,⟨t25,rfl⟩,
  PySem.W.mg_of X G va26,⟨t26,rfl⟩,
  PySem.W.mg_of X G va27,rfl,fun H=>.inr ⟨_,_,_,vl27,rfl,rfl,(by show 5 <= sizeLine; decide),.cons ⟨_,rfl⟩ (.cons ⟨_,rfl⟩ (.cons ⟨_,rfl⟩ (.cons ⟨_,rfl⟩ (.cons ⟨_,rfl⟩ (.nil)))))⟩,
  PySem.W.mg_of X G va28,rfl,fun H=>.inr ⟨_,_,_,vl28,rfl,rfl,(by show 4 <= sizeLine; decide),.cons ⟨_,rfl⟩ (.cons ⟨_,rfl⟩ (.cons ⟨_,rfl⟩ (.cons ⟨_,rfl⟩ (.nil))))⟩,
  PySem.W.mg_of X G va29,rfl,⟨[(34,.str "text"),(91,.str "row"),(102,.str "false"),(110,.str "null"),(116,.str "true"),(123,.str "fields")],⟨vm29,by simp,_,_,vl29,.cons ⟨rfl,⟨_,rfl⟩,⟨_,rfl⟩⟩ (.cons ⟨rfl,⟨_,rfl⟩,⟨_,rfl⟩⟩ (.cons ⟨rfl,⟨_,rfl⟩,⟨_,rfl⟩⟩ (.cons ⟨rfl,⟨_,rfl⟩,⟨_,rfl⟩⟩ (.cons ⟨rfl,⟨_,rfl⟩,⟨_,rfl⟩⟩ (.cons ⟨rfl,⟨_,rfl⟩,⟨_,rfl⟩⟩ (.nil))))))⟩,.cons ⟨rfl,fun _=>by unfold Rep; rfl⟩ (.cons ⟨rfl,fun _=>by unfold Rep; rfl⟩ (.cons ⟨rfl,fun _=>by unfold Rep; rfl⟩ (.cons ⟨rfl,fun _=>by unfold Rep; rfl⟩ (.cons ⟨rfl,fun _=>by unfold Rep; rfl⟩ (.cons ⟨rfl,fun _=>by unfold Rep; rfl⟩ (.nil))))))⟩⟩
 exact ⟨_,fun s v=>.of_eq rfl,fun base _ _=>(GF T).imp (DR fun ns h=>IS ns h)⟩
theorem walk {l:PySem.W.OpenLaw} {q:Program} {loose:List Str} {XP:(Str -> Option Value) -> Heap -> Prop} {YP:World -> Heap -> Prop} {d:DefRec} {K:Params -> PySem.W.Frag} (hn:l.most = some 63) (hdf:d.params.defaults = [])
  (hY:∀ (w:World) (h:Heap),YP w h -> (K w.params).In h)
  (F:∀ (w:World) (mg:Str -> Option Value) (fa:Addr) (h:Heap),(K w.params).In h -> h.Ns mainGlobals mg -> mg d.name = some (.ref fa) ->
    ∃ fd:FuncData,(∀ (s:Shared) (u:Value),BindsTo s fd ⟨[u],[]⟩ [("_law_script",u)]) /\ ∀ base:Heap,(K w.params).In base -> base.Ns mainGlobals mg -> cb l.prog w (K w.params) mg base (CXE l.prog w) 12 fa fd ["_law_script"] (vF (K w.params))):
  PySem.W.WalkO q loose XP YP l.row.toRowW d [] (fun f vs=>PySem.call f vs):=
 L2.E6 (n:=63) (k:=12) (x:="_law_script") (CX:=fun w=>CXE l.prog w) (sp:=fun w=>vF (K w.params)) hn (by decide) hdf ⟨rfl,by decide,by decide⟩ hY F (fun _ _ a ns hl _ hS=>⟨a,ns,rfl,hS,hl,fun _=>rfl⟩) fun _ _ _ _ _ z=>let ⟨_,_,_,_,_,_,_,_,_,_,f⟩:=z; f
end L2.plainglass_k15_texts_meant
open PySem PySem.W PyProof.Rows
namespace PySem.W.Fast
def tw5377020164587578758:=0
def tw17795725856986880012:=0
def tw11119898722516932998:=0
def tw15391337083688646213:=0
def tw5943709846273233343:=0
def tw14180664371192169224:=0
def tw8621599725398452256:=0
def tw13706512092383567710:=0
def tw11495618032617213785:=0
def tw11246630130380519381:=0
def tw3015844146933505524:=0
def tw5077309988222816534:=0
def tw14278857144687321897:=0
def tw4271488485320277589:=0
def tw69094641928895188:=0
def tw1475654667442884419:=0
def tw7185732284925509254:=0
def tw15862261461548184153:=0
def tw10021084010312044105:=0
def tw1900604029040191857:=0
def tw10521002045499143062:=0
def tw5096188862993296616:=0
def tw93739879815073366:=0
def tw13211319524751531798:=0
def tw838749945439198638:=0
def tw4535262560450796021:=0
def tw6739404782686482401:=0
def tw13336731704578525498:=0
def tw5389004684331014788:=0
def tw18308697355748740632:=0
def tw10893650635266666522:=0
def tw3148917734148522496:=0
def tw15693581940192595078:=0
def tw11437217901613996218:=0
def tw6169787161032839320:=0
def tw384907449910998752:=0
def tw17448088683649389931:=0
def tw15023949179709991520:=0
def tw15055973700233754853:=0
def tw2354045686828248329:=0
def tw8911241387757484330:=0
def tw17982256980150564609:=0
def tw3284041775268524147:=0
def tw14319542106112438763:=0
def tw2223331165688007431:=0
def tw15766935048774478392:=0
def tw4354682344281969860:=0
def tw3054107710993651085:=0
def tw319839910378291921:=0
def tw475858515714473136:=0
def tw8261039397374425067:=0
def tw4813546767621365183:=0
def tw7587316151599783967:=0
def tw13155309595424259896:=0
def tw263145387581233212:=0
def tw16124362095095819914:=0
def tw2595494594347404263:=0
def tw17276157465994715297:=0
def tw548516106934662630:=0
def tw10835072791787677781:=0
def tw5411955353432334779:=0
def tw7836112566451101840:=0
def tw7935748415155182088:=0
def tw4682978887486084164:=0
def tw10041185510709098943:=0
def tw17854341425646841508:=0
def tw7617063715025841326:=0
def tw10010720097781463732:=0
def tw12028543283187090032:=0
def tw9824567871765846987:=0
def tw8656776067217024241:=0
def tw10291302711204209466:=0
def tw7476342810654773994:=0
def tw11457039758366382404:=0
def tw1353487373178641538:=0
def tw9491669648252224827:=0
def tw12520119833632017769:=0
def tw2673221912257683680:=0
def tw17639124374793767769:=0
def tw4019041135890228716:=0
def tw10154113593538846782:=0
def tw15826577959021354600:=0
def tw3171143669066436427:=0
def tw12286409313564840281:=0
def tw14240998295102142592:=0
def tw14595941123431046224:=0
def tw12466084901638482243:=0
def tw3491431468748112503:=0
def tw2641862645595222997:=0
def tw10070336154342595606:=0
def tw14163024751901406224:=0
def tw6076206769184490537:=0
def tw14595131091948077536:=0
def tw13765818381431288663:=0
def tw16532785796119540069:=0
def tw2256470491285764998:=0
def tw9098766414087752966:=0
def tw9365772777630910611:=0
def tw4838429358481996361:=0
def tw1336724786552533296:=0
def tw4504252346844263739:=0
def tw3465118577978295456:=0
def tw17070888358150688201:=0
def tw2613923718918712070:=0
def tw10245901177630190870:=0
def tw4845422966970946058:=0
def tw4778927128931257789:=0
def tw14509174000284970795:=0
def tw13847113179794493706:=0
def tw16904325755070569160:=0
def tw5449021835320216761:=0
def tw12534631104382567956:=0
def tw6122038158154299441:=0
def tw15455661629677679081:=0
def tw13834014754059623922:=0
def tw14546544827906339662:=0
def tw2562950626712312938:=0
def tw15240896418736739307:=0
def tw14839216873195982089:=0
def tw7084165490002363407:=0
def tw7524715091619119926:=0
end PySem.W.Fast
set_option maxRecDepth 100000 in
set_option maxHeartbeats 0 in
theorem PySem.Challenge.cw_plainglass_k15_texts_meant_holds : PySem.Challenge.rw_plainglass_k15_texts_meant.Holds := by
 w_on; o_law; k_head; (case hw=>w_witness2)
 k_fill
 refine L2.plainglass_k15_texts_meant.walk (l:=PySem.Challenge.rw_plainglass_k15_texts_meant) rfl rfl (fun w h Y=>PySem.W.kIn_of Y) ?F
 case F=>
  intro w mg fa h KX G hmg
  refine' L2.plainglass_k15_texts_meant.all_mk KX G hmg ?a0 ?l0 ?c0 ?k0 ?a1 ?l1 ?c1 ?k1 ?a2 ?l2 ?c2 ?k2 ?a3 ?l3 ?c3 ?k3 ?a4 ?l4 ?c4 ?k4 ?a5 ?l5 ?c5 ?k5 ?a6 ?l6 ?c6 ?k6 ?a7 ?l7 ?c7 ?k7 ?a8 ?l8 ?c8 ?k8 ?a9 ?l9 ?c9 ?k9 ?a10 ?l10 ?c10 ?k10 ?a11 ?l11 ?c11 ?k11 ?a12 ?l12 ?c12 ?k12 ?a13 ?l13 ?c13 ?k13 ?a14 ?l14 ?c14 ?k14 ?a15 ?l15 ?c15 ?k15 ?a16 ?l16 ?c16 ?k16 ?a17 ?l17 ?c17 ?k17 ?a18 ?l18 ?c18 ?k18 ?a19 ?l19 ?c19 ?k19 ?a20 ?l20 ?c20 ?k20 ?a21 ?l21 ?c21 ?k21 ?a22 ?l22 ?c22 ?k22 ?a23 ?l23 ?c23 ?k23 ?a24 ?l24 ?c24 ?k24 ?a25 ?l25 ?c25 ?k25 ?a26 ?l26 ?c26 ?k26 ?a27 ?l27 ?c27 ?k27 ?a28 ?l28 ?c28 ?k28 ?a29 ?l29 ?c29 ?k29 ?a30 ?l30 ?c30 ?k30 ?a31 ?l31 ?c31 ?k31 ?a32 ?l32 ?c32 ?k32 ?a33 ?l33 ?c33 ?k33 ?a34 ?l34 ?c34 ?k34 ?a35 ?l35 ?c35 ?k35 ?a36 ?l36 ?c36 ?k36 ?a37 ?l37 ?c37 ?k37 ?a38 ?l38 ?c38 ?k38 ?a39 ?l39 ?c39 ?k39 ?a40 ?l40 ?c40 ?k40 ?a41 ?l41 ?c41 ?k41 ?a42 ?l42 ?c42 ?k42 ?a43 ?l43 ?c43 ?k43 ?a44 ?l44 ?c44 ?k44 ?a45 ?l45 ?c45 ?k45 ?a46 ?l46 ?c46 ?k46 ?a47 ?l47 ?c47 ?k47 ?a48 ?l48 ?c48 ?k48 ?a49 ?i49 ?l49 ?c49 ?k49 ?a50 ?i50 ?l50 ?c50 ?k50 ?a51 ?i51 ?l51 ?c51 ?k51 ?a52 ?i52 ?l52 ?c52 ?k52 ?a53 ?i53 ?l53 ?c53 ?k53 ?z0 ?z1 ?z2 ?z3 ?z4 ?z5 ?z6 ?z7 ?z8 ?z9 ?ca3 ?pg3 ?hd3 ?po3 ?sa3 ?mk3 ?kc3 ?na3_0 ?ca0 ?cl0 ?cx0 ?ca1 ?cl1 ?ii1 ?il1 ?ic1 ?ik1 ?xa1 ?xc1 ?xd1 ?xe1 ?xf1 ?ca2 ?cl2 ?cx2 ?va0 ?va1 ?va2 ?vl2 ?va3 ?va4 ?vl4 ?va5 ?va6 ?va7 ?va8 ?va9 ?va10 ?va11 ?va12 ?va13 ?va14 ?va15 ?va16 ?va17 ?va18 ?va19 ?va20 ?va21 ?va22 ?vl22 ?va23 ?vl23 ?wl23_0 ?wl23_1 ?wl23_2 ?vm23 ?va24 ?vl24 ?vm24 ?va25 ?va26 ?va27 ?vl27 ?va28 ?vl28 ?va29 ?vl29 ?vm29
  (case ca3=>k_is)
  (case a0=>k_is)
  (case l0=>k_is)
  (case c0=>k_is)
  (case k0=>k_is)
  (case a1=>k_is)
  (case l1=>k_is)
  (case c1=>k_is)
  (case k1=>k_is)
  (case a2=>k_is)
  (case l2=>k_is)
  (case c2=>k_is)
  (case k2=>k_is)
  (case a3=>k_is)
  (case l3=>k_is)
  (case c3=>k_is)
  (case k3=>k_is)
  (case a4=>k_is)
  (case l4=>k_is)
  (case c4=>k_is)
  (case k4=>k_is)
  (case a5=>k_is)
  (case l5=>k_is)
  (case c5=>k_is)
  (case k5=>k_is)
  (case a6=>k_is)
  (case l6=>k_is)
  (case c6=>k_is)
  (case k6=>k_is)
  (case a7=>k_is)
  (case l7=>k_is)
  (case c7=>k_is)
  (case k7=>k_is)
  (case a8=>k_is)
  (case l8=>k_is)
  (case c8=>k_is)
  (case k8=>k_is)
  (case a9=>k_is)
  (case l9=>k_is)
  (case c9=>k_is)
  (case k9=>k_is)
  (case a10=>k_is)
  (case l10=>k_is)
  (case c10=>k_is)
  (case k10=>k_is)
  (case a11=>k_is)
  (case l11=>k_is)
  (case c11=>k_is)
  (case k11=>k_is)
  (case a12=>k_is)
  (case l12=>k_is)
  (case c12=>k_is)
  (case k12=>k_is)
  (case a13=>k_is)
  (case l13=>k_is)
  (case c13=>k_is)
  (case k13=>k_is)
  (case a14=>k_is)
  (case l14=>k_is)
  (case c14=>k_is)
  (case k14=>k_is)
  (case a15=>k_is)
  (case l15=>k_is)
  (case c15=>k_is)
  (case k15=>k_is)
  (case a16=>k_is)
  (case l16=>k_is)
  (case c16=>k_is)
  (case k16=>k_is)
  (case a17=>k_is)
  (case l17=>k_is)
  (case c17=>k_is)
  (case k17=>k_is)
  (case a18=>k_is)
  (case l18=>k_is)
  (case c18=>k_is)
  (case k18=>k_is)
  (case a19=>k_is)
  (case l19=>k_is)
  (case c19=>k_is)
  (case k19=>k_is)
  (case a20=>k_is)
  (case l20=>k_is)
  (case c20=>k_is)
  (case k20=>k_is)
  (case a21=>k_is)
  (case l21=>k_is)
  (case c21=>k_is)
  (case k21=>k_is)
  (case a22=>k_is)
  (case l22=>k_is)
  (case c22=>k_is)
  (case k22=>k_is)
  (case a23=>k_is)
  (case l23=>k_is)
  (case c23=>k_is)
  (case k23=>k_is)
  (case a24=>k_is)
  (case l24=>k_is)
  (case c24=>k_is)
  (case k24=>k_is)
  (case a25=>k_is)
  (case l25=>k_is)
  (case c25=>k_is)
  (case k25=>k_is)
  (case a26=>k_is)
  (case l26=>k_is)
  (case c26=>k_is)
  (case k26=>k_is)
  (case a27=>k_is)
  (case l27=>k_is)
  (case c27=>k_is)
  (case k27=>k_is)
  (case a28=>k_is)
  (case l28=>k_is)
  (case c28=>k_is)
  (case k28=>k_is)
  (case a29=>k_is)
  (case l29=>k_is)
  (case c29=>k_is)
  (case k29=>k_is)
  (case a30=>k_is)
  (case l30=>k_is)
  (case c30=>k_is)
  (case k30=>k_is)
  (case a31=>k_is)
  (case l31=>k_is)
  (case c31=>k_is)
  (case k31=>k_is)
  (case a32=>k_is)
  (case l32=>k_is)
  (case c32=>k_is)
  (case k32=>k_is)
  (case a33=>k_is)
  (case l33=>k_is)
  (case c33=>k_is)
  (case k33=>k_is)
  (case a34=>k_is)
  (case l34=>k_is)
  (case c34=>k_is)
  (case k34=>k_is)
  (case a35=>k_is)
  (case l35=>k_is)
  (case c35=>k_is)
  (case k35=>k_is)
  (case a36=>k_is)
  (case l36=>k_is)
  (case c36=>k_is)
  (case k36=>k_is)
  (case a37=>k_is)
  (case l37=>k_is)
  (case c37=>k_is)
  (case k37=>k_is)
  (case a38=>k_is)
  (case l38=>k_is)
  (case c38=>k_is)
  (case k38=>k_is)
  (case a39=>k_is)
  (case l39=>k_is)
  (case c39=>k_is)
  (case k39=>k_is)
  (case a40=>k_is)
  (case l40=>k_is)
  (case c40=>k_is)
  (case k40=>k_is)
  (case a41=>k_is)
  (case l41=>k_is)
  (case c41=>k_is)
  (case k41=>k_is)
  (case a42=>k_is)
  (case l42=>k_is)
  (case c42=>k_is)
  (case k42=>k_is)
  (case a43=>k_is)
  (case l43=>k_is)
  (case c43=>k_is)
  (case k43=>k_is)
  (case a44=>k_is)
  (case l44=>k_is)
  (case c44=>k_is)
  (case k44=>k_is)
  (case a45=>k_is)
  (case l45=>k_is)
  (case c45=>k_is)
  (case k45=>k_is)
  (case a46=>k_is)
  (case l46=>k_is)
  (case c46=>k_is)
  (case k46=>k_is)
  (case a47=>k_is)
  (case l47=>k_is)
  (case c47=>k_is)
  (case k47=>k_is)
  (case a48=>k_is)
  (case l48=>k_is)
  (case c48=>k_is)
  (case k48=>k_is)
  (case a49=>k_is)
  (case i49=>k_is)
  (case l49=>k_is)
  (case c49=>k_is)
  (case k49=>k_is)
  (case a50=>k_is)
  (case i50=>k_is)
  (case l50=>k_is)
  (case c50=>k_is)
  (case k50=>k_is)
  (case a51=>k_is)
  (case i51=>k_is)
  (case l51=>k_is)
  (case c51=>k_is)
  (case k51=>k_is)
  (case a52=>k_is)
  (case i52=>k_is)
  (case l52=>k_is)
  (case c52=>k_is)
  (case k52=>k_is)
  (case a53=>k_is)
  (case i53=>k_is)
  (case l53=>k_is)
  (case c53=>k_is)
  (case k53=>k_is)
  (case z0=>k_is)
  (case z1=>k_is)
  (case z2=>k_is)
  (case z3=>k_is)
  (case z4=>k_is)
  (case z5=>k_is)
  (case z6=>k_is)
  (case z7=>k_is)
  (case z8=>k_is)
  (case z9=>k_is)
  (case pg3=>k_is)
  (case hd3=>k_is)
  (case po3=>k_is)
  (case sa3=>k_is)
  (case mk3=>k_is)
  (case kc3=>k_is)
  (case na3_0=>k_is)
  (case ca0=>k_is)
  (case cl0=>k_is)
  (case cx0=>k_exc)
  (case ca1=>k_is)
  (case cl1=>k_is)
  (case ii1=>k_is)
  (case il1=>k_is)
  (case ic1=>k_is)
  (case ik1=>k_is)
  (case xa1=>k_is)
  (case xc1=>k_is)
  (case xd1=>k_is)
  (case xe1=>k_is)
  (case xf1=>k_is)
  (case ca2=>k_is)
  (case cl2=>k_is)
  (case cx2=>k_exc)
  (case va0=>k_is)
  (case va1=>k_is)
  (case va2=>k_is)
  (case vl2=>k_is)
  (case va3=>k_is)
  (case va4=>k_is)
  (case vl4=>k_is)
  (case va5=>k_is)
  (case va6=>k_is)
  (case va7=>k_is)
  (case va8=>k_is)
  (case va9=>k_is)
  (case va10=>k_is)
  (case va11=>k_is)
  (case va12=>k_is)
  (case va13=>k_is)
  (case va14=>k_is)
  (case va15=>k_is)
  (case va16=>k_is)
  (case va17=>k_is)
  (case va18=>k_is)
  (case va19=>k_is)
  (case va20=>k_is)
  (case va21=>k_is)
  (case va22=>k_is)
  (case vl22=>k_is)
  (case va23=>k_is)
  (case vl23=>k_is)
  (case wl23_0=>k_is)
  (case wl23_1=>k_is)
  (case wl23_2=>k_is)
  (case vm23=>first | decide | rfl)
  (case va24=>k_is)
  (case vl24=>k_is)
  (case vm24=>first | decide | rfl)
  (case va25=>k_is)
  (case va26=>k_is)
  (case va27=>k_is)
  (case vl27=>k_is)
  (case va28=>k_is)
  (case vl28=>k_is)
  (case va29=>k_is)
  (case vl29=>k_is)
  (case vm29=>first | decide | rfl)
