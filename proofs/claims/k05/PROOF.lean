import PyProof.Rows.All
import Wide.All
import OpenK.AllK
import Wide.FinOn
import Lean
import PyProof.EqAt
import PyProof.EqKinds
import PyProof.TupleCall
import PySem.Challenge.RW_plainglass_k05_texts_taken
set_option Elab.async false
set_option linter.all false
set_option maxRecDepth 100000
namespace L2
open PySem PySem.Spec PyProof.Rows
abbrev Key:=Sum Int Str
noncomputable def uZ:Key -> Value -> Bool
 | .inl k,v=>Value.isInt k v
 | .inr x,v=>Value.isStrOf x v
noncomputable def LQ (w:World):Key -> Int
 | .inl k=>hashInt k
 | .inr x=>hashStr w x
theorem eT:∀ {k:Key} {v:Value},uZ k v = true -> (∃ i t,k = Sum.inl i /\ v = Value.int i t) \/ (∃ x t,k = Sum.inr x /\ v = Value.str x t)
 | .inl i,v,h=>by
   obtain ⟨t,e⟩:=Value.isInt_shape (k:=i) (v:=v) h
   exact .inl ⟨i,t,rfl,e⟩
 | .inr x,v,h=>by
   obtain ⟨t,e⟩:=Value.isStrOf_shape (x:=x) (v:=v) h
   exact .inr ⟨x,t,rfl,e⟩
theorem A4 (i:Int) (t:Tok):uZ (.inl i) (.int i t) = true:=by simp [uZ,Value.isInt]
theorem AJ (x:Str) (t:Tok):uZ (.inr x) (.str x t) = true:=by simp [uZ,Value.isStrOf]
theorem GS (a b:Int):decide ((Sum.inl a:Key) = Sum.inl b) = (a == b):=by
 by_cases e:a = b
 . subst e; simp
 . have h:¬ (Sum.inl a:Key) = Sum.inl b:=fun q=>e (Sum.inl.inj q)
   rw [decide_eq_false h]
   exact (beq_eq_false_iff_ne.mpr e).symm
theorem G6 (a b:Str):decide ((Sum.inr a:Key) = Sum.inr b) = decide (a = b):=by
 by_cases e:a = b
 . subst e; simp
 . have h:¬ (Sum.inr a:Key) = Sum.inr b:=fun q=>e (Sum.inr.inj q)
   rw [decide_eq_false h,decide_eq_false e]
theorem GJ (a:Int) (b:Str):decide ((Sum.inl a:Key) = Sum.inr b) = false:=decide_eq_false (fun q=>nomatch q)
theorem GH (a:Str) (b:Int):decide ((Sum.inr a:Key) = Sum.inl b) = false:=decide_eq_false (fun q=>nomatch q)
noncomputable def fX (prog:Program) (w:World):PySem.KeyKind prog w Key where
 is:=uZ
 hash:=LQ w
 inj:=fun v a b ha hb=>by
  rcases eT ha with ⟨i,t,rfl,rfl⟩ | ⟨x,t,rfl,rfl⟩
  . rcases eT hb with ⟨j,u,rfl,e⟩ | ⟨y,u,rfl,e⟩
    . injection e with e1 _; rw [e1]
    . exact nomatch e
  . rcases eT hb with ⟨j,u,rfl,e⟩ | ⟨y,u,rfl,e⟩
    . exact nomatch e
    . injection e with e1 _; rw [e1]
 byValue:=fun k v h=>by
  rcases eT h with ⟨i,t,rfl,rfl⟩ | ⟨x,t,rfl,rfl⟩ <;> rfl
 pyHash:=fun hv h=>by
  rcases eT hv with ⟨i,t,rfl,rfl⟩ | ⟨x,t,rfl,rfl⟩
  . exact wpAny_pyHash_int h
  . exact wpAny_pyHash_str h
 eqBool:=fun hu hv h=>by
  rcases eT hu with ⟨i,t,rfl,rfl⟩ | ⟨x,t,rfl,rfl⟩
  . rcases eT hv with ⟨j,u,rfl,rfl⟩ | ⟨y,u,rfl,rfl⟩
    . rw [GS] at h; exact wpAny_eqBool_int h
    . rw [GJ] at h; exact SeqAt.EqAt.int_str i t y u _ _ _ _ h
  . rcases eT hv with ⟨j,u,rfl,rfl⟩ | ⟨y,u,rfl,rfl⟩
    . rw [GH] at h; exact SeqAt.EqAt.str_int x t j u _ _ _ _ h
    . rw [G6] at h; exact wpAny_eqBool_str h
 «strs»:=fun k x t v h=>by
  rcases eT h with ⟨i,u,rfl,e⟩ | ⟨y,u,rfl,e⟩
  . exact nomatch e
  . injection e with e1 _
    subst e1
    cases v <;> rfl
theorem xF (prog:Program) (w:World) (i:Int) (t:Tok):(fX prog w).is (.inl i) (.int i t) = true:=A4 i t
theorem yr (prog:Program) (w:World) (x:Str) (t:Tok):(fX prog w).is (.inr x) (.str x t) = true:=AJ x t
end L2
namespace L2
open PySem PySem.Spec PyProof.Rows
inductive V where
 | non | bl (b:Bool) | int (i:Int) | str (x:Str) | byt (b:Array UInt8) | flt (b:UInt64) | ref (a:Addr) | ty (n:String)
 deriving DecidableEq
noncomputable def RelV:V -> Value -> Prop
 | .non,u=>u = Value.none
 | .bl b,u=>u = Value.bool b
 | .int i,u=>∃ t,u = Value.int i t
 | .str x,u=>∃ t,u = Value.str x t
 | .byt b,u=>∃ t,u = Value.bytes b t
 | .flt b,u=>∃ t,u = Value.float b t
 | .ref a,u=>u = Value.ref a
 | .ty n,u=>u = Value.type n
abbrev Vals:List V -> List Value -> Prop:=Paired RelV
theorem Vals.length {xs:List V} {us:List Value} (r:Vals xs us):xs.length = us.length:=Paired.length r
theorem Vals.get:∀ {xs:List V} {us:List Value} {i:Nat} {x:V},Vals xs us -> xs[i]? = some x -> ∃ u,us[i]? = some u /\ RelV x u
 | _,_,_,_,.nil,e=>by simp at e
 | _,_,0,_,.cons r _,e=>by simp at e; subst e; exact ⟨_,rfl,r⟩
 | _,_,i + 1,x,.cons _ t,e=>by
   obtain ⟨u,h1,h2⟩:=Vals.get (i:=i) (x:=x) t (by simpa using e)
   exact ⟨u,by simpa using h1,h2⟩
theorem Vals.set {x:V} {u:Value} (r:RelV x u):∀ {xs:List V} {us:List Value} (i:Nat),Vals xs us -> Vals (xs.set i x) (us.set i u)
 | _,_,_,.nil=>.nil
 | _,_,0,.cons _ t=>.cons r t
 | _,_,i + 1,.cons q t=>.cons q (Vals.set r i t)
theorem Vals.append:∀ {xs ys:List V} {us ws:List Value},Vals xs us -> Vals ys ws -> Vals (xs ++ ys) (us ++ ws)
 | _,_,_,_,.nil,s=>s
 | _,_,_,_,.cons r t,s=>.cons r (Vals.append t s)
theorem Vals.take:∀ {xs:List V} {us:List Value} (n:Nat),Vals xs us -> Vals (xs.take n) (us.take n)
 | _,_,0,_=>.nil
 | _,_,_ + 1,.nil=>.nil
 | _,_,n + 1,.cons r t=>.cons r (Vals.take n t)
theorem Vals.drop:∀ {xs:List V} {us:List Value} (n:Nat),Vals xs us -> Vals (xs.drop n) (us.drop n)
 | _,_,0,r=>r
 | _,_,_ + 1,.nil=>.nil
 | _,_,n + 1,.cons _ t=>Vals.drop n t
noncomputable def br:Option V -> Option Value -> Prop
 | some v,some u=>RelV v u
 | none,none=>True
 | _,_=>False
noncomputable def KV {κ:Type}:List (κ × V) -> List (κ × Value) -> Prop:=Paired fun (p:κ × V) (q:κ × Value)=>p.1 = q.1 /\ RelV p.2 q.2
noncomputable def kV:Key -> V
 | .inl i=>.int i
 | .inr x=>.str x
inductive HO where
  | lst (xs:List V)
  | tup (xs:List V)
  | dK (kvs:List (Key × V)) | dT (kvs:List (List Key × V))
  | set (S:Int -> Bool) (n:Nat)
  | ins (C dx:Addr) (fs:List (Str × V))
  | own (x:Addr)
  | xd (fs:List (Str × V))
  | met (f x:Addr)
  | rng (lo hi:Int)
  | frz (o:Obj) (u:HO)
  | tbl (ps:Array Value)
  | ext (φ:Heap -> Prop)
abbrev Hp:=Addr -> Option HO
noncomputable def upd (H:Hp) (a:Addr) (o:HO):Hp:=fun b=>if b = a then some o else H b
theorem bD {H:Hp} {a:Addr} {o:HO}:upd H a o a = some o:=by unfold upd; rw [if_pos rfl]
theorem bJ {H:Hp} {a b:Addr} {o:HO} (h:b ≠ a):upd H a o b = H b:=by unfold upd; rw [if_neg h]
theorem E0 {H:Hp} {a:Addr} {o u:HO}:upd (upd H a o) a u = upd H a u:=by
 funext b; unfold upd; split <;> rfl
theorem eK {H:Hp} {a b:Addr} {o:HO} (h:H a = some o) (h':H b = none):a ≠ b:=by
 intro e; subst e; rw [h] at h'; cases h'
section
variable (P:Program) (w:World)
noncomputable def gc (H:Hp) (h:Heap) (a:Addr):HO -> Prop
 | .lst xs=>xs.length <= sizeLine /\ ∃ (its:List Value) (n:Nat),Vals xs its /\ h.get? a = some { cls:=.type "list",data:=.seq its.toArray n }
 | .tup xs=>xs.length <= sizeLine /\ ∃ its:List Value,Vals xs its /\ IsTup h a its.toArray
 | .dK kvs=>kvs.length <= sizeLine /\ (a == sysModules) = false /\ ∃ vs,KV kvs vs /\ h.DictOf (fX P w) a vs
 | .dT kvs=>kvs.length <= sizeLine /\ (a == sysModules) = false /\ ∃ xs:List (List Key × Addr × Value),
    Paired (fun (p:List Key × V) (q:List Key × Addr × Value)=>p.1 = q.1 /\ H q.2.1 = some (.tup (p.1.map kV)) /\ RelV p.2 q.2.2) kvs xs /\
    ∃ o es ep,h.get? a = some o /\ o.ExactDict /\ o.data = .dict es ep /\ es.toList = xs.map (entryOfKey (tupleKind (fX P w))) /\ (xs.map (·.1)).Nodup
 | .set S n=>h.SetOf (intKind P w) a S n
 | .ins C dx fs=>H dx = some (.own a) /\ fs.length <= 1000 /\ dx ≠ a /\ h.get? a = some (PySem.W.instObj C dx) /\
    ∃ mA,h.Ns1 dx mA /\ (∀ f,br (fs.lookup f) (mA f)) /\ PySem.Within mA (fs.map (·.1))
 | .own _=>∃ o,h.get? a = some o
 | .xd fs=>∃ mA,h.Ns1 a mA /\ ∀ f,br (fs.lookup f) (mA f)
 | .rng lo hi=>∃ t u v,h.get? a = some { cls:=.type "range",data:=.fields #[.int lo t,.int hi u,.int 1 v] }
 | .frz o u=>h.get? a = some o /\ gc H h a u
 | .tbl ps=>h.get? a = some { cls:=.none,data:=.fields ps }
 | .met f x=>h.get? a = some (PySem.W.methodObj (.ref f) (.ref x))
 | .ext φ=>φ h /\ (∃ o,h.get? a = some o) /\ ∀ h1 h2:Heap,φ h1 -> (∀ o,h1.get? a = some o -> h2.get? a = some o) -> φ h2
noncomputable def HOk (H:Hp) (h:Heap):Prop:=∀ a o,H a = some o -> gc P w H h a o
end
section
variable {P:Program} {w:World} {H H':Hp} {h h':Heap} {a:Addr} {o:HO}
theorem gc.lt (x:gc P w H h a o):a < h.objs.size:=by
 cases o with
 | lst xs=>obtain ⟨_,_,_,_,e⟩:=x; exact Heap.lt_size e
 | tup xs=>obtain ⟨_,_,_,p⟩:=x; exact p.lt
 | dK kvs=>obtain ⟨_,_,_,_,o,_,_,e,_⟩:=x; exact Heap.lt_size e
 | dT kvs=>obtain ⟨_,_,_,_,o,_,_,e,_⟩:=x; exact Heap.lt_size e
 | set S n=>obtain ⟨o,_,_,_,e,_⟩:=x; exact Heap.lt_size e
 | ins C dx fs=>obtain ⟨_,_,_,e,_⟩:=x; exact Heap.lt_size e
 | own y=>obtain ⟨_,e⟩:=x; exact Heap.lt_size e
 | xd fs=>obtain ⟨_,⟨_,_,_,e,_⟩,_⟩:=x; exact Heap.lt_size e
 | rng lo hi=>obtain ⟨_,_,_,e⟩:=x; exact Heap.lt_size e
 | frz ob u=>obtain ⟨e,_⟩:=x; exact Heap.lt_size e
 | tbl ps=>exact Heap.lt_size (show h.get? a = some _ from x)
 | met f y=>exact Heap.lt_size (show h.get? a = some _ from x)
 | ext φ=>obtain ⟨_,⟨_,e⟩,_⟩:=x; exact Heap.lt_size e
theorem Paired.Gm {α β:Type} {F G:α -> β -> Prop}:∀ {l₁:List α} {l₂:List β},Paired F l₁ l₂ -> (∀ a b,F a b -> G a b) -> Paired G l₁ l₂
 | _,_,.nil,_=>.nil
 | _,_,.cons r t,f=>.cons (f _ _ r) (Paired.Gm t f)
theorem gc.sG (x:gc P w H h a o) (k:∀ b u,(b = a \/ H b = some (.own a)) -> h.get? b = some u -> h'.get? b = some u)
  (ho:∀ b,H b = some (.own a) -> H' b = some (.own a)) (ht:∀ b xs,H b = some (.tup xs) -> H' b = some (.tup xs)):gc P w H' h' a o:=by
 induction o with
 | lst xs=>obtain ⟨z,its,n,r,e⟩:=x; exact ⟨z,its,n,r,k _ _ (.inl rfl) e⟩
 | tup xs=>obtain ⟨z,its,r,ob,e,c⟩:=x; exact ⟨z,its,r,ob,k _ _ (.inl rfl) e,c⟩
 | dK kvs=>obtain ⟨z,y,vs,r,ob,es,ep,e,c⟩:=x; exact ⟨z,y,vs,r,ob,es,ep,k _ _ (.inl rfl) e,c⟩
 | dT kvs=>
   obtain ⟨z,y,xs,r,ob,es,ep,e,c⟩:=x
   exact ⟨z,y,xs,Paired.Gm r fun p q z=>⟨z.1,ht _ _ z.2.1,z.2.2⟩,ob,es,ep,k _ _ (.inl rfl) e,c⟩
 | set S n=>obtain ⟨ob,es,ep,t,e,c⟩:=x; exact ⟨ob,es,ep,t,k _ _ (.inl rfl) e,c⟩
 | ins C dx fs=>
   obtain ⟨d,z,ne,e,mA,⟨od,es,ep,e2,c⟩,r⟩:=x
   exact ⟨ho _ d,z,ne,k _ _ (.inl rfl) e,mA,⟨od,es,ep,k _ _ (.inr d) e2,c⟩,r⟩
 | own y=>obtain ⟨ob,e⟩:=x; exact ⟨ob,k _ _ (.inl rfl) e⟩
 | xd fs=>obtain ⟨mA,⟨od,es,ep,e,c⟩,r⟩:=x; exact ⟨mA,⟨od,es,ep,k _ _ (.inl rfl) e,c⟩,r⟩
 | rng lo hi=>obtain ⟨t,u,v,e⟩:=x; exact ⟨t,u,v,k _ _ (.inl rfl) e⟩
 | frz ob u ih=>obtain ⟨e,q⟩:=x; exact ⟨k _ _ (.inl rfl) e,ih q⟩
 | tbl ps=>
   have e:h.get? a = some { cls:=.none,data:=.fields ps }:=x
   show h'.get? a = some { cls:=.none,data:=.fields ps }
   exact k a _ (.inl rfl) e
 | met f y=>
   have e:h.get? a = some (PySem.W.methodObj (.ref f) (.ref y)):=x
   show h'.get? a = some (PySem.W.methodObj (.ref f) (.ref y))
   exact k a _ (.inl rfl) e
 | ext φ=>obtain ⟨p,⟨o,e⟩,st⟩:=x; exact ⟨st _ _ p fun o q=>k _ _ (.inl rfl) q,⟨o,k _ _ (.inl rfl) e⟩,st⟩
theorem HOk.lt (x:HOk P w H h) (e:H a = some o):a < h.objs.size:=(x a o e).lt
theorem HOk.fresh (x:HOk P w H h) (e:h.objs.size <= a):H a = none:=by
 cases q:H a with
 | none=>rfl
 | some u=>exact absurd (Nat.lt_of_lt_of_le (x.lt q) e) (Nat.lt_irrefl _)
theorem HOk.kept (x:HOk P w H h) (k:∀ b u,h.get? b = some u -> h'.get? b = some u):HOk P w H h':=fun a o e=>
 (x a o e).sG (fun b u _ q=>k b u q) (fun _ q=>q) fun _ _ q=>q
theorem HOk.laid (x:HOk P w H h) (k:∀ b u,h.get? b = some u -> h'.get? b = some u) (hp:h.objs.size <= a) (new:gc P w (upd H a o) h' a o):HOk P w (upd H a o) h':=fun b u e=>by
 have hn:=x.fresh hp
 by_cases hb:b = a
 . subst hb; rw [bD] at e; cases e; exact new
 . rw [bJ hb] at e
   exact (x b u e).sG (fun c v _ q=>k c v q) (fun c q=>by rw [bJ (eK q hn)]; exact q) fun c xs q=>by rw [bJ (eK q hn)]; exact q
end
noncomputable def Rd (H:Hp) (a:Addr) (u:HO):Prop:=H a = some u \/ ∃ o,H a = some (.frz o u)
theorem Rd.ok {P:Program} {w:World} {H:Hp} {h:Heap} {a:Addr} {u:HO} (r:Rd H a u) (x:HOk P w H h):gc P w H h a u:=by
 rcases r with r | ⟨o,r⟩
 . exact x a u r
 . obtain ⟨_,q⟩:=x a _ r
   exact q
noncomputable def Mut:Option HO -> Prop
 | some (.lst _)=>True
 | some (.dK _)=>True
 | some (.dT _)=>True
 | some (.set _ _)=>True
 | some (.ins _ _ _)=>True
 | some (.ext _)=>True
 | _=>False
section
variable {P:Program} {w:World} {H:Hp} {h h':Heap} {x e:Addr} {o':HO}
theorem HOk.write (ok:HOk P w H h) (mu:Mut (H x)) (he:e = x \/ H e = some (.own x)) (k:∀ b u,b ≠ e -> h.get? b = some u -> h'.get? b = some u) (heo:∃ u,h'.get? e = some u)
  (new:gc P w (upd H x o') h' x o'):HOk P w (upd H x o') h':=fun b u q=>by
 have nown:∀ c y,H c = some (.own y) -> c ≠ x:=fun c y r z=>by subst z; rw [r] at mu; exact mu
 have ntup:∀ c xs,H c = some (.tup xs) -> c ≠ x:=fun c xs r z=>by subst z; rw [r] at mu; exact mu
 by_cases hb:b = x
 . subst hb; rw [bD] at q; cases q; exact new
 . rw [bJ hb] at q
   by_cases hbe:b = e
   . have q':H b = some (.own x):=by
      rcases he with z | z
      . exact absurd (hbe.trans z) hb
      . rw [hbe]; exact z
     rw [q] at q'; cases q'
     obtain ⟨v,hv⟩:=heo
     exact ⟨v,by rw [hbe]; exact hv⟩
   . refine (ok b u q).sG (fun c v hc r=>k c v ?_ r) (fun c r=>by rw [bJ (nown c b r)]; exact r) fun c xs r=>by rw [bJ (ntup c xs r)]; exact r
     rcases hc with rfl | hc
     . exact hbe
     . rintro rfl
       rcases he with z | z
       . exact nown c b hc z
       . rw [hc] at z; cases z; exact hb rfl
end
structure Un (fs ex:List Addr) (H H':Hp) (h h':Heap):Prop where
 keep:∀ b o,h.get? b = some o -> H b = none -> b ∉ fs -> b ∉ ex -> h'.get? b = some o
 slot:∀ b o,h.get? b = some o -> H b = none -> b ∈ fs -> b ∉ ex -> ∃ sl,h'.get? b = some { o with slots:=sl }
 free:∀ b o,h.get? b = some o -> H b = none -> b ∉ ex -> H' b = none
 there:∀ b o,h.get? b = some o -> b ∉ ex -> ∃ o',h'.get? b = some o'
 tups:∀ b xs,H b = some (.tup xs) -> H' b = some (.tup xs)
 frzs:∀ b o u,H b = some (.frz o u) -> H' b = some (.frz o u)
 tbls:∀ b ps,H b = some (.tbl ps) -> ∃ more,H' b = some (.tbl (ps ++ more))
section
variable {fs fs' ex ex':List Addr} {H H1 H2:Hp} {h h1 h2 h':Heap} {a x e:Addr} {o:HO}
theorem Un.any (u:Un fs ex H H1 h h1) {b:Addr} {ob:Obj} (q:h.get? b = some ob) (n:H b = none) (hx:b ∉ ex):∃ sl,h1.get? b = some { ob with slots:=sl }:=by
 by_cases hb:b ∈ fs
 . exact u.slot b ob q n hb hx
 . exact ⟨ob.slots,u.keep b ob q n hb hx⟩
theorem Un.kept (k:∀ b u,h.get? b = some u -> h'.get? b = some u):Un fs ex H H h h':=
 ⟨fun b ob q _ _ _=>k b ob q,fun b ob q _ _ _=>⟨ob.slots,k b ob q⟩,fun _ _ _ n _=>n,fun b ob q _=>⟨ob,k b ob q⟩,fun _ _ q=>q,fun _ _ _ q=>q,fun _ ps q=>⟨#[],by rw [q]; simp⟩⟩
theorem Un.refl:Un fs ex H H h h:=Un.kept fun _ _ q=>q
theorem Un.laid (k:∀ b u,h.get? b = some u -> h'.get? b = some u) (hp:h.objs.size <= a) (hn:H a = none):Un fs ex H (upd H a o) h h' where
 keep:=fun b u q _ _ _=>k b u q
 slot:=fun b u q _ _ _=>⟨u.slots,k b u q⟩
 free:=fun b u q n _=>by rw [bJ (Nat.ne_of_lt (Nat.lt_of_lt_of_le (Heap.lt_size q) hp))]; exact n
 there:=fun b u q _=>⟨u,k b u q⟩
 tups:=fun b xs q=>by rw [bJ (eK q hn)]; exact q
 frzs:=fun b u xs q=>by rw [bJ (eK q hn)]; exact q
 tbls:=fun b ps q=>⟨#[],by rw [bJ (eK q hn),q]; simp⟩
theorem Un.write (mu:Mut (H x)) (he:e = x \/ H e = some (.own x)) (k:∀ b u,b ≠ e -> h.get? b = some u -> h'.get? b = some u) (heo:∃ u,h'.get? e = some u):Un fs ex H (upd H x o) h h':=by
 have hx:∀ b,H b = none -> b ≠ x:=fun b n z=>by subst z; rw [n] at mu; exact mu
 have hb:∀ b,H b = none -> b ≠ e:=fun b n z=>by
  subst z
  rcases he with r | r
  . exact hx b n r
  . rw [n] at r; cases r
 have hm:∀ b u,H b = some u -> ¬ Mut (some u) -> b ≠ x:=fun b u q nm z=>by subst z; rw [q] at mu; exact nm mu
 refine ⟨fun b u q n _ _=>k b u (hb b n) q,fun b u q n _ _=>⟨u.slots,k b u (hb b n) q⟩,fun b u q n _=>by rw [bJ (hx b n)]; exact n,fun b u q _=>?_,
  fun b xs q=>by rw [bJ (hm b _ q fun z=>z)]; exact q,fun b u xs q=>by rw [bJ (hm b _ q fun z=>z)]; exact q,fun b ps q=>⟨#[],by rw [bJ (hm b _ q fun z=>z),q]; simp⟩⟩
 by_cases hbe:b = e
 . subst hbe; exact heo
 . exact ⟨u,k b u hbe q⟩
end
noncomputable def trk (h:Heap) (H:Hp):List Addr:=(List.range h.objs.size).filter fun a=>(H a).isSome
noncomputable def wH (h:Heap) (H:Hp):Heap:=PySem.W.hideAll h (trk h H)
theorem Be (h:Heap) (H:Hp):(wH h H).objs.size = h.objs.size:=PySem.W.hideAll_size _ _
theorem B4 {h:Heap} {H:Hp} {b:Addr} {o:Obj} (e:h.get? b = some o) (n:H b = none):(wH h H).get? b = some o:=
 PySem.W.hideAll_get _ e fun hm=>by
  have q:(H b).isSome = true:=(List.mem_filter.mp hm).2
  rw [n] at q; simp at q
theorem D2 {h:Heap} {H:Hp} {b:Addr} {o:Obj} (e:(wH h H).get? b = some o):h.get? b = some o /\ H b = none:=by
 have e':h.get? b = some o:=PySem.W.of_hideAll (trk h H) e
 refine ⟨e',?_⟩
 cases q:H b with
 | none=>rfl
 | some x=>
   have hm:b ∈ trk h H:=List.mem_filter.mpr ⟨List.mem_range.mpr (Heap.lt_size e'),by simp [q]⟩
   have z:(wH h H).get? b = none:=PySem.W.hideAll_none (trk h H) hm
   rw [z] at e; cases e
noncomputable def Fx (g h:Heap) (L:Addr):List (Addr × Obj):=(List.range h.objs.size).filterMap fun a=>if a = L \/ (g.get? a).isSome = true then none else (h.get? a).map fun o=>(a,o)
noncomputable def rest (g h:Heap) (L d:Addr):List (Addr × Obj):=(Fx g h L).filter fun p=>decide (p.1 ≠ d)
end L2
namespace L2
open PySem PySem.Spec PyProof.Rows
structure Mod (K:PySem.W.Frag) (mg:Str -> Option Value) (base:Heap):Prop where
 kin:K.In base
 glob:base.Ns mainGlobals mg
 blt:∃ mb,base.Ns builtinsNs mb /\ ∀ x:Str,x ≠ "__name__" -> mb x = bootBuiltins x
 nolimit:base.NoLimit
structure Cx where
 prog:Program
 w:World
 K:PySem.W.Frag
 mg:Str -> Option Value
 base:Heap
 A:Around
 N:List Str
 s₀:Shared
 H₀:Hp
 env:Env
 outer:List Env
 stack:List Env
 ex:List Addr
 fn:Str -> Bool
 calm:Bool
 pn:List (Addr × Obj)
 xe:Value -> Shared -> Prop
noncomputable def frs (l:List Env):List Addr:=l.filterMap (·.frame)
noncomputable abbrev Cx.fs (X:Cx):List Addr:=frs X.outer
noncomputable def Vis (sc:Scope) (x:Str):Prop:=sc.names.lookup x = some .local \/ sc.names.lookup x = some .cell \/ sc.names.lookup x = some .free
noncomputable def Loc (sc:Scope) (x:Str):Prop:=sc.names.lookup x = some .local \/ sc.names.lookup x = some .cell
noncomputable def Look (env:Env) (h:Heap) (m:Str -> Option Value) (x:Str) (u:Value):Prop:=
 (env.kindOf x = some .local /\ m x = some u) \/ ((env.kindOf x = some .cell \/ env.kindOf x = some .free) /\ ∃ c,env.cells.lookup x = some c /\ h.IsCell c (some u))
structure Cx.Ok (X:Cx):Prop where
 mod:Mod X.K X.mg X.base
 kind:X.env.scope.kind = .function
 glob:X.env.globals = mainGlobals
 blt:X.env.builtins = builtinsNs
 above:X.s₀.heap.objs.size <= X.env.locals
 inj:∀ x y c,X.env.cells.lookup x = some c -> X.env.cells.lookup y = some c -> x = y
 has:∀ x,(X.env.kindOf x = some .cell \/ X.env.kindOf x = some .free) -> ∃ c,X.env.cells.lookup x = some c
 cab:∀ x c,X.fn x = true -> X.env.cells.lookup x = some c -> X.s₀.heap.objs.size <= c
 hd:X.calm = true -> X.A.handled = none
 frames:X.A.frames = some X.stack
 stk:X.stack = X.outer \/ (X.stack = X.env ::X.outer /\ X.env.frame = some X.env.locals)
 exf:∀ b ∈ X.ex,b ≠ X.env.locals /\ ∀ x c,X.env.cells.lookup x = some c -> c ≠ b
 bs:∀ b o,X.base.get? b = some o -> X.s₀.heap.get? b = some o /\ X.H₀ b = none
 bsz:X.base.objs.size <= X.s₀.heap.objs.size
 noex:∀ b o,X.base.get? b = some o -> b ∉ X.ex
 exfs:∀ b ∈ X.ex,b ∉ X.fs
 uK:X.s₀.heap.FunFrames X.base X.outer
 frf:∀ b ∈ X.fs,X.H₀ b = none
structure Inv (X:Cx) (pins:List (Addr × Obj)) (σ:List (Option V)) (H:Hp) (s:Shared):Prop where
 ok:X.Ok
 os:s.os = X.s₀.os
 bare:AllBare s.gens
 base:Un X.fs X.ex X.H₀ H X.s₀.heap s.heap
 loc:∃ m,s.heap.Ns X.env.locals m /\ ∀ (i:Nat) (x:Str) (v:V),X.N[i]? = some x -> σ[i]? = some (some v) -> Vis X.env.scope x -> ∃ u,RelV v u /\ Look X.env s.heap m x u
 cell:∀ x c,X.env.cells.lookup x = some c -> ∃ v,s.heap.IsCell c v
 free:H X.env.locals = none
 freeC:∀ x c,X.env.cells.lookup x = some c -> H c = none
 pin:∀ p ∈ X.pn ++ pins,s.heap.get? p.1 = some p.2 /\ H p.1 = none /\ p.1 ≠ X.env.locals /\ p.1 ∉ X.fs /\ ∀ v,p.2.data ≠ .cell v
 hok:HOk X.prog X.w H s.heap
 len:σ.length = X.N.length
section
variable {X:Cx} {pins:List (Addr × Obj)} {σ:List (Option V)} {H H':Hp} {s:Shared} {h':Heap}
theorem Cx.Ok.Lv (ok:X.Ok) {b:Addr} {o:Obj} (e:X.base.get? b = some o):b ∉ X.fs:=fun hb=>by
 have:=(ok.uK.mem hb).1
 rw [e] at this; cases this
theorem Inv.bs (I:Inv X pins σ H s):∀ b o,X.base.get? b = some o -> s.heap.get? b = some o /\ H b = none:=fun b o e=>
 ⟨I.base.keep b o (I.ok.bs b o e).1 (I.ok.bs b o e).2 (I.ok.Lv e) (I.ok.noex b o e),I.base.free b o (I.ok.bs b o e).1 (I.ok.bs b o e).2 (I.ok.noex b o e)⟩
theorem Inv.bk (I:Inv X pins σ H s):∀ b o,X.base.get? b = some o -> s.heap.get? b = some o:=fun b o e=>(I.bs b o e).1
theorem Inv.mod (I:Inv X pins σ H s):Mod X.K X.mg X.base:=I.ok.mod
theorem Inv.kIn (I:Inv X pins σ H s):X.K.In s.heap:=I.ok.mod.kin.keeps I.bk
theorem Inv.nolimit (I:Inv X pins σ H s):s.heap.NoLimit:=I.ok.mod.nolimit.keeps I.bk
theorem Inv.lt (I:Inv X pins σ H s):X.env.locals < s.heap.objs.size:=let ⟨_,hn,_⟩:=I.loc; hn.lt
theorem Inv.sz (I:Inv X pins σ H s):X.s₀.heap.objs.size <= s.heap.objs.size:=Nat.le_trans I.ok.above (Nat.le_of_lt I.lt)
theorem Inv.Lu (I:Inv X pins σ H s) {a:Addr} (h:s.heap.objs.size <= a):a ∉ X.fs:=fun hb=>by
 obtain ⟨_,o,ho,_⟩:=I.ok.uK.mem hb
 exact absurd (Nat.lt_of_lt_of_le (Heap.lt_size ho) (Nat.le_trans I.sz h)) (Nat.lt_irrefl _)
theorem Inv.cne (I:Inv X pins σ H s):∀ x c,X.env.cells.lookup x = some c -> c ≠ X.env.locals:=fun x c e z=>by
 obtain ⟨v,o,ho,hd⟩:=I.cell x c e
 obtain ⟨m,⟨o',es,ep,ho',hd',_⟩,_⟩:=I.loc
 rw [z,ho'] at ho; cases ho; rw [hd'] at hd; cases hd
theorem Inv.uK (I:Inv X pins σ H s):s.heap.FunFrames X.base X.outer:=by
 have all:∀ (l:List Env),(∀ b ∈ frs l,b ∈ X.fs) -> X.s₀.heap.FunFrames X.base l -> s.heap.FunFrames X.base l:=by
  intro l
  induction l with
  | nil=>intro _ _; trivial
  | cons env r ih=>
    intro hs hl
    obtain ⟨hk,⟨L,o,hf,hn,ho,hd⟩,hr⟩:=hl
    have hL:L ∈ X.fs:=hs L (by unfold frs; rw [List.filterMap_cons,hf]; exact List.mem_cons_self)
    obtain ⟨sl,e⟩:=I.base.slot L o ho (I.ok.frf L hL) hL fun z=>I.ok.exfs L z hL
    exact ⟨hk,⟨L,_,hf,hn,e,hd⟩,ih (fun b hb=>hs b (by unfold frs; rw [List.filterMap_cons,hf]; exact List.mem_cons_of_mem _ hb)) hr⟩
 exact all X.outer (fun _ hb=>hb) I.ok.uK
theorem Inv.stack (I:Inv X pins σ H s):s.heap.FunFrames X.base X.stack:=by
 rcases I.ok.stk with e | ⟨e,hf⟩
 . rw [e]; exact I.uK
 . rw [e]
   obtain ⟨m,hn,_⟩:=I.loc
   refine .cons (by rw [I.ok.kind]; decide) hf hn ?_ I.uK
   exact Heap.get?_none_of_le (Nat.le_trans I.ok.bsz I.ok.above)
theorem Inv.zi (I:Inv X pins σ H s):∀ b ∈ frs X.stack,b ∈ X.env.locals ::X.fs:=fun b hb=>by
 rcases I.ok.stk with e | ⟨e,hf⟩
 . rw [e] at hb; exact List.mem_cons_of_mem _ hb
 . rw [e] at hb
   unfold frs at hb
   rw [List.filterMap_cons,hf] at hb
   exact hb
theorem Inv.wF (I:Inv X pins σ H s):∀ b ∈ frs X.stack,H b = none:=fun b hb=>by
 rcases List.mem_cons.mp (I.zi b hb) with e | hb
 . rw [e]; exact I.free
 . obtain ⟨_,o,ho,_⟩:=I.ok.uK.mem hb
   exact I.base.free b o ho (I.ok.frf b hb) fun z=>I.ok.exfs b z hb
theorem Inv.step {g':Array GenState} {t':Nat} {d':Drawn} {ch:List Addr} (I:Inv X pins σ H s)
  (hch:∀ b ∈ ch,(b ∈ X.ex \/ X.s₀.heap.objs.size <= b) /\ b ≠ X.env.locals /\ (∀ x c,X.env.cells.lookup x = some c -> c ≠ b) /\ ∀ p ∈ X.pn ++ pins,p.1 ≠ b)
  (keep:∀ b o,b ≠ X.env.locals -> b ∉ X.fs -> b ∉ ch -> s.heap.get? b = some o -> H b = none -> h'.get? b = some o)
  (slot:∀ b o,b ≠ X.env.locals -> b ∈ X.fs -> b ∉ ch -> s.heap.get? b = some o -> H b = none -> ∃ sl,h'.get? b = some { o with slots:=sl }) (free:∀ b o,b ∉ ch -> s.heap.get? b = some o -> H b = none -> H' b = none)
  (there:∀ b o,b ∉ ch -> s.heap.get? b = some o -> ∃ o',h'.get? b = some o')
  (tups:∀ b xs,H b = some (.tup xs) -> H' b = some (.tup xs)) (frzs:∀ b o u,H b = some (.frz o u) -> H' b = some (.frz o u)) (tbls:∀ b ps,H b = some (.tbl ps) -> ∃ more,H' b = some (.tbl (ps ++ more)))
  (ns:∀ m,s.heap.Ns X.env.locals m -> h'.Ns X.env.locals m) (hok:HOk X.prog X.w H' h') (hg:AllBare g'):
  Inv X pins σ H' { s with heap:=h',gens:=g',drawn:=d',toks:=t' }:=by
 have neL:∀ b o,X.s₀.heap.get? b = some o -> b ≠ X.env.locals:=fun b o e=>Nat.ne_of_lt (Nat.lt_of_lt_of_le (Heap.lt_size e) I.ok.above)
 have neC:∀ b o,X.s₀.heap.get? b = some o -> b ∉ X.ex -> b ∉ ch:=fun b o e hx hb=>by
  rcases (hch b hb).1 with z | z
  . exact hx z
  . exact absurd (Nat.lt_of_lt_of_le (Heap.lt_size e) z) (Nat.lt_irrefl _)
 have cellK:∀ x c,X.env.cells.lookup x = some c -> ∀ v,s.heap.IsCell c v -> h'.IsCell c v:=fun x c e v ⟨o,ho,hd⟩=>by
  have nch:c ∉ ch:=fun z=>(hch c z).2.2.1 x c e rfl
  by_cases hc:c ∈ X.fs
  . obtain ⟨sl,q⟩:=slot c o (I.cne x c e) hc nch ho (I.freeC x c e)
    exact ⟨_,q,hd⟩
  . exact ⟨o,keep c o (I.cne x c e) hc nch ho (I.freeC x c e),hd⟩
 refine ⟨I.ok,I.os,hg,⟨fun b o e n hb hx=>?_,fun b o e n hb hx=>?_,fun b o e n hx=>?_,fun b o e hx=>?_,fun b xs e=>tups b xs (I.base.tups b xs e),fun b o xs e=>frzs b o xs (I.base.frzs b o xs e),fun b ps e=>?_⟩,?_,fun x c e=>?_,?_,fun x c e=>?_,fun p hp=>?_,hok,I.len⟩
 . exact keep b o (neL b o e) hb (neC b o e hx) (I.base.keep b o e n hb hx) (I.base.free b o e n hx)
 . obtain ⟨sl,e1⟩:=I.base.slot b o e n hb hx
   obtain ⟨sl',e2⟩:=slot b _ (neL b o e) hb (neC b o e hx) e1 (I.base.free b o e n hx)
   exact ⟨sl',e2⟩
 . obtain ⟨o',e1⟩:=I.base.there b o e hx
   exact free b o' (neC b o e hx) e1 (I.base.free b o e n hx)
 . obtain ⟨o',e1⟩:=I.base.there b o e hx
   exact there b o' (neC b o e hx) e1
 . obtain ⟨m1,e1⟩:=I.base.tbls b ps e
   obtain ⟨m2,e2⟩:=tbls b _ e1
   exact ⟨m1 ++ m2,by rw [e2,Array.append_assoc]⟩
 . obtain ⟨m,hn,hl⟩:=I.loc
   refine ⟨m,ns m hn,fun i x v e1 e2 e3=>?_⟩
   obtain ⟨u,r,l⟩:=hl i x v e1 e2 e3
   refine ⟨u,r,?_⟩
   rcases l with l | ⟨k,c,e,z⟩
   . exact .inl l
   . exact .inr ⟨k,c,e,cellK x c e _ z⟩
 . obtain ⟨v,z⟩:=I.cell x c e
   exact ⟨v,cellK x c e v z⟩
 . obtain ⟨m,⟨o,_,_,ho,_⟩,_⟩:=I.loc
   exact free _ o (fun z=>(hch _ z).2.1 rfl) ho I.free
 . obtain ⟨v,o,ho,hd⟩:=I.cell x c e
   exact free c o (fun z=>(hch c z).2.2.1 x c e rfl) ho (I.freeC x c e)
 . obtain ⟨e,n,ne,nf,d⟩:=I.pin p hp
   have nch:p.1 ∉ ch:=fun z=>(hch p.1 z).2.2.2 p hp rfl
   exact ⟨keep p.1 p.2 ne nf nch e n,free p.1 p.2 nch e n,ne,nf,d⟩
theorem Inv.un {t':Nat} (I:Inv X pins σ H s) (u:Un X.fs [] H H' s.heap h') (hok:HOk X.prog X.w H' h'):Inv X pins σ H' { s with heap:=h',toks:=t' }:=by
 obtain ⟨m,⟨o,es,ep,ho,r⟩,_⟩:=id I.loc
 obtain ⟨sl,hL⟩:=u.any ho I.free (by simp)
 exact I.step (g':=s.gens) (d':=s.drawn) (ch:=[]) (fun _ z=>nomatch z) (fun b o _ hb _ e n=>u.keep b o e n hb (by simp)) (fun b o _ hb _ e n=>u.slot b o e n hb (by simp)) (fun b o _ e n=>u.free b o e n (by simp)) (fun b o _ e=>u.there b o e (by simp)) u.tups u.frzs u.tbls (fun m' hm=>by
  obtain ⟨o',es',ep',ho',r'⟩:=hm
  rw [ho] at ho'; cases ho'
  exact ⟨_,es',ep',hL,r'⟩) hok I.bare
theorem Inv.call {g':Array GenState} {t':Nat} {d':Drawn} {ch:List Addr} (I:Inv X pins σ H s) (u:Un (frs X.stack) ch H H' s.heap h') (hok:HOk X.prog X.w H' h') (hg:AllBare g')
  (hch:∀ b ∈ ch,(b ∈ X.ex \/ X.s₀.heap.objs.size <= b) /\ b ≠ X.env.locals /\ (∀ x c,X.env.cells.lookup x = some c -> c ≠ b) /\ ∀ p ∈ X.pn ++ pins,p.1 ≠ b):
  Inv X pins σ H' { s with heap:=h',gens:=g',drawn:=d',toks:=t' }:=by
 obtain ⟨m,⟨o,es,ep,ho,r⟩,_⟩:=id I.loc
 obtain ⟨sl,hL⟩:=u.any ho I.free fun z=>(hch _ z).2.1 rfl
 exact I.step (ch:=ch) hch (fun b o hL hb hc e n=>u.keep b o e n (fun z=>(List.mem_cons.mp (I.zi b z)).elim hL hb) hc) (fun b o _ _ hc e n=>u.any e n hc) (fun b o hc e n=>u.free b o e n hc) (fun b o hc e=>u.there b o e hc) u.tups u.frzs u.tbls (fun m' hm=>by
  obtain ⟨o',es',ep',ho',r'⟩:=hm
  rw [ho] at ho'; cases ho'
  exact ⟨_,es',ep',hL,r'⟩) hok hg
theorem Inv.turned {t':Nat} {it:Addr} (I:Inv X pins σ H s) (k:∀ b o,b ≠ it -> s.heap.get? b = some o -> h'.get? b = some o) (hn:H it = none) (hL:it ≠ X.env.locals)
  (h1:it ∈ X.ex \/ X.s₀.heap.objs.size <= it) (h2:∀ x c,X.env.cells.lookup x = some c -> c ≠ it) (h3:∀ p ∈ X.pn ++ pins,p.1 ≠ it):Inv X pins σ H { s with heap:=h',toks:=t' }:=by
 have nit:∀ b u,H b = some u -> b ≠ it:=fun b u e z=>by rw [z,hn] at e; cases e
 refine I.step (g':=s.gens) (d':=s.drawn) (ch:=[it]) (fun b hb=>?_) (fun b o _ _ hc e _=>k b o (fun z=>hc (by simp [z])) e) (fun b o _ _ hc e _=>⟨o.slots,k b o (fun z=>hc (by simp [z])) e⟩) (fun _ _ _ _ n=>n)
  (fun b o hc e=>⟨o,k b o (fun z=>hc (by simp [z])) e⟩) (fun _ _ e=>e) (fun _ _ _ e=>e) (fun b ps e=>⟨#[],by rw [e]; simp⟩) (fun m hm=>?_) (fun b u e=>?_) I.bare
 . have e:b = it:=by simpa using hb
   subst e
   exact ⟨h1,hL,h2,h3⟩
 . obtain ⟨o,es,ep,ho,r⟩:=hm
   exact ⟨o,es,ep,k _ o (Ne.symm hL) ho,r⟩
 . refine (I.hok b u e).sG (fun c v hc q=>k c v ?_ q) (fun _ q=>q) fun _ _ q=>q
   rcases hc with z | z
   . rw [z]; exact nit b u e
   . exact nit c _ z
theorem Inv.tok (I:Inv X pins σ H s) (t:Nat):Inv X pins σ H { s with toks:=t }:=I.un (h':=s.heap) (t':=t) Un.refl I.hok
theorem Inv.kept {t':Nat} (I:Inv X pins σ H s) (k:∀ b u,s.heap.get? b = some u -> h'.get? b = some u):Inv X pins σ H { s with heap:=h',toks:=t' }:=I.un (Un.kept k) (I.hok.kept k)
theorem Inv.laid {a:Addr} {o:HO} {t':Nat} (I:Inv X pins σ H s) (k:∀ b u,s.heap.get? b = some u -> h'.get? b = some u) (hp:s.heap.objs.size <= a) (new:gc X.prog X.w (upd H a o) h' a o):
  Inv X pins σ (upd H a o) { s with heap:=h',toks:=t' }:=I.un (Un.laid k hp (I.hok.fresh hp)) (I.hok.laid k hp new)
theorem Inv.write {x e:Addr} {o:HO} {t':Nat} (I:Inv X pins σ H s) (mu:Mut (H x)) (he:e = x \/ H e = some (.own x)) (k:∀ b u,b ≠ e -> s.heap.get? b = some u -> h'.get? b = some u) (heo:∃ u,h'.get? e = some u)
  (new:gc X.prog X.w (upd H x o) h' x o):Inv X pins σ (upd H x o) { s with heap:=h',toks:=t' }:=I.un (Un.write mu he k heo) (I.hok.write mu he k heo new)
theorem Inv.Ao {pins':List (Addr × Obj)} (I:Inv X pins σ H s) (h:∀ p ∈ pins',s.heap.get? p.1 = some p.2 /\ H p.1 = none /\ p.1 ≠ X.env.locals /\ p.1 ∉ X.fs /\ ∀ v,p.2.data ≠ .cell v):Inv X pins' σ H s:=
 ⟨I.ok,I.os,I.bare,I.base,I.loc,I.cell,I.free,I.freeC,fun p hp=>(List.mem_append.mp hp).elim (fun z=>I.pin p (List.mem_append_left _ z)) (h p),I.hok,I.len⟩
theorem xT {N:List Str} (hN:N.Nodup) {i j:Nat} {x:Str} (a:N[i]? = some x) (b:N[j]? = some x):i = j:=by
 obtain ⟨h1,e1⟩:=List.getElem?_eq_some_iff.mp a
 obtain ⟨h2,e2⟩:=List.getElem?_eq_some_iff.mp b
 exact (List.getElem_inj hN).mp (e1.trans e2.symm)
theorem Bt {M:Model} {A:Around} {E:Value -> Shared -> Prop} {i:Nat} {x:Str} {v:V} {u:Value} {Q:Unit -> Shared -> Prop} (I:Inv X pins σ H s) (hN:X.N.Nodup) (hi:X.N[i]? = some x) (hx:Loc X.env.scope x) (r:RelV v u)
  (h:∀ s',Inv X pins (σ.set i (some v)) H s' -> (∃ a,Heap.SameBut a s.heap s'.heap /\ (a = X.env.locals \/ X.env.cells.lookup x = some a)) -> Q () s') (hf:X.fn x = true \/ X.env.scope.names.lookup x = some .local:=by first | exact .inl rfl | exact .inr rfl | assumption):wpAny M A (storeName X.env x u) Q E s:=by
 obtain ⟨m,hn,hl⟩:=id I.loc
 have hcls:(X.env.scope.kind == .class || (X.env.scope.kind == .module && X.env.locals != X.env.globals)) = false:=by rw [I.ok.kind]; rfl
 have hiσ:i < σ.length:=by rw [I.len]; exact (List.getElem?_eq_some_iff.mp hi).1
 have cne:=I.cne
 have tracked:∀ {a:Addr} {h':Heap},(∃ o,s.heap.get? a = some o /\ H a = none) -> Heap.SameBut a s.heap h' -> HOk X.prog X.w H h':=fun {a h'} ha hs b ob e=>by
  obtain ⟨_,_,hfree⟩:=ha
  refine (I.hok b ob e).sG (fun c w' hc q=>(hs.2 c ?_).trans q) (fun _ q=>q) fun _ _ q=>q
  rintro rfl
  rcases hc with rfl | hc
  . rw [hfree] at e; cases e
  . rw [hfree] at hc; cases hc
 rcases hx with hk | hk
 . refine wpAny_storeName_local hk hn (fun h' hn' hs=>?_) hcls
   obtain ⟨oL,_,_,hoL,_⟩:=id hn
   refine h _ ⟨I.ok,I.os,I.bare,⟨fun b o e n hb hx=>?_,fun b o e n hb hx=>?_,I.base.free,fun b o e hx=>?_,I.base.tups,I.base.frzs,I.base.tbls⟩,⟨_,hn',fun j y v' e1 e2 e3=>?_⟩,fun y c e=>?_,I.free,I.freeC,fun p hp=>?_,tracked ⟨oL,hoL,I.free⟩ hs,by simpa using I.len⟩ ⟨_,hs,.inl rfl⟩
   . exact (hs.2 b (Nat.ne_of_lt (Nat.lt_of_lt_of_le (Heap.lt_size e) I.ok.above))).trans (I.base.keep b o e n hb hx)
   . obtain ⟨sl,e1⟩:=I.base.slot b o e n hb hx
     exact ⟨sl,(hs.2 b (Nat.ne_of_lt (Nat.lt_of_lt_of_le (Heap.lt_size e) I.ok.above))).trans e1⟩
   . obtain ⟨o',e1⟩:=I.base.there b o e hx
     exact ⟨o',(hs.2 b (Nat.ne_of_lt (Nat.lt_of_lt_of_le (Heap.lt_size e) I.ok.above))).trans e1⟩
   . by_cases hj:j = i
     . subst hj
       rw [hi] at e1; cases e1
       rw [List.getElem?_set_self hiσ] at e2
       cases e2
       exact ⟨u,r,.inl ⟨hk,by simp⟩⟩
     . rw [List.getElem?_set_ne (Ne.symm hj)] at e2
       obtain ⟨u',r',q⟩:=hl j y v' e1 e2 e3
       refine ⟨u',r',?_⟩
       rcases q with ⟨k,e⟩ | ⟨k,c,e,z⟩
       . refine .inl ⟨k,?_⟩
         have:y ≠ x:=fun e=>hj (xT hN e1 (e ▸ hi))
         simp [this,e]
       . exact .inr ⟨k,c,e,z.sameBut hs (cne y c e)⟩
   . obtain ⟨w',z⟩:=I.cell y c e
     exact ⟨w',z.sameBut hs (cne y c e)⟩
   . obtain ⟨e,n,ne,nf,d⟩:=I.pin p hp
     exact ⟨(hs.2 p.1 ne).trans e,n,ne,nf,d⟩
 . have hfn:X.fn x = true:=by
    rcases hf with z | z
    . exact z
    . rw [z] at hk; cases hk
   obtain ⟨c,hc⟩:=I.ok.has x (.inl hk)
   obtain ⟨w',z⟩:=I.cell x c hc
   refine wpAny_storeName_cell I.ok.kind hk hc z (fun h' hc' hs=>?_)
   obtain ⟨oc,hoc,hocd⟩:=id z
   refine h { s with heap:=h' } ⟨I.ok,I.os,I.bare,⟨fun b o e n hb hx=>?_,fun b o e n hb hx=>?_,I.base.free,fun b o e hx=>?_,I.base.tups,I.base.frzs,I.base.tbls⟩,⟨m,hn.sameBut hs (Ne.symm (cne x c hc)),fun j y v' e1 e2 e3=>?_⟩,fun y c' e=>?_,I.free,I.freeC,fun p hp=>?_,tracked ⟨oc,hoc,I.freeC x c hc⟩ hs,by simpa using I.len⟩ ⟨c,hs,.inr hc⟩
   . exact (hs.2 b (Nat.ne_of_lt (Nat.lt_of_lt_of_le (Heap.lt_size e) (I.ok.cab x c hfn hc)))).trans (I.base.keep b o e n hb hx)
   . obtain ⟨sl,e1⟩:=I.base.slot b o e n hb hx
     exact ⟨sl,(hs.2 b (Nat.ne_of_lt (Nat.lt_of_lt_of_le (Heap.lt_size e) (I.ok.cab x c hfn hc)))).trans e1⟩
   . obtain ⟨o',e1⟩:=I.base.there b o e hx
     exact ⟨o',(hs.2 b (Nat.ne_of_lt (Nat.lt_of_lt_of_le (Heap.lt_size e) (I.ok.cab x c hfn hc)))).trans e1⟩
   . by_cases hj:j = i
     . subst hj
       rw [hi] at e1; cases e1
       rw [List.getElem?_set_self hiσ] at e2
       cases e2
       exact ⟨u,r,.inr ⟨.inl hk,c,hc,hc'⟩⟩
     . rw [List.getElem?_set_ne (Ne.symm hj)] at e2
       obtain ⟨u',r',q⟩:=hl j y v' e1 e2 e3
       refine ⟨u',r',?_⟩
       rcases q with q | ⟨k,c',e,z'⟩
       . exact .inl q
       . refine .inr ⟨k,c',e,z'.sameBut hs ?_⟩
         rintro rfl
         exact hj (xT hN e1 (I.ok.inj _ _ _ e hc ▸ hi))
   . by_cases hcc:c' = c
     . subst hcc; exact ⟨_,hc'⟩
     . obtain ⟨w2,z2⟩:=I.cell y c' e
       exact ⟨w2,z2.sameBut hs hcc⟩
   . obtain ⟨e,n,ne,nf,d⟩:=I.pin p hp
     refine ⟨(hs.2 p.1 ?_).trans e,n,ne,nf,d⟩
     intro q
     rw [q,hoc] at e
     have q':oc = p.2:=Option.some.inj e
     exact d w' (by rw [<- q']; exact hocd)
theorem mH {M:Model} {A:Around} {E:Value -> Shared -> Prop} {i:Nat} {x:Str} {v:V} {u:Value} {Q:Unit -> Shared -> Prop} (I:Inv X pins σ H s) (hN:X.N.Nodup) (hi:X.N[i]? = some x) (hx:Loc X.env.scope x) (r:RelV v u)
  (h:∀ s',Inv X pins (σ.set i (some v)) H s' -> Q () s') (hf:X.fn x = true \/ X.env.scope.names.lookup x = some .local:=by first | exact .inl rfl | exact .inr rfl | assumption):wpAny M A (storeName X.env x u) Q E s:=
 Bt I hN hi hx r (fun s' I' _=>h s' I') hf
theorem Inv.FN {s':Shared} {ch:List Addr} (I:Inv X pins σ H s) (ho:s'.os = s.os) (u:Un (frs X.stack) ch H H' s.heap s'.heap) (hok:HOk X.prog X.w H' s'.heap) (hg:AllBare s'.gens)
  (hch:∀ b ∈ ch,(b ∈ X.ex \/ X.s₀.heap.objs.size <= b) /\ b ≠ X.env.locals /\ (∀ x c,X.env.cells.lookup x = some c -> c ≠ b) /\ ∀ p ∈ X.pn ++ pins,p.1 ≠ b):Inv X pins σ H' s':=by
 obtain ⟨h',g',d',t',o'⟩:=s'
 have e:o' = s.os:=ho
 subst e
 exact I.call (g':=g') (t':=t') (d':=d') u hok hg hch
end
abbrev XK:=Value -> Option Addr -> Hp -> Prop
abbrev St:=List (Option V)
abbrev VK:=V -> Hp -> Prop
abbrev TE:=St -> Hp -> VK -> Prop
abbrev TT:=St -> Hp -> (Bool -> Hp -> Prop) -> Prop
abbrev TA:=St -> Hp -> (List V -> Hp -> Prop) -> Prop
structure Ends where
 nx:St -> Hp -> Prop
 rt:VK
 bk:St -> Hp -> Prop:=fun _ _=>False
 ct:St -> Hp -> Prop:=fun _ _=>False
abbrev TS:=Ends -> St -> Hp -> Prop
noncomputable def EP (X:Cx) (pins:List (Addr × Obj)) (σ:St) (Q:VK) (u:Value) (s':Shared):Prop:=∃ v H',Inv X pins σ H' s' /\ RelV v u /\ Q v H'
noncomputable def TP (X:Cx) (pins:List (Addr × Obj)) (σ:St) (Q:Bool -> Hp -> Prop) (b:Bool) (s':Shared):Prop:=∃ H',Inv X pins σ H' s' /\ Q b H'
noncomputable def AP (X:Cx) (pins:List (Addr × Obj)) (σ:St) (Q:List V -> Hp -> Prop) (us:List Value) (s':Shared):Prop:=∃ vs H',Inv X pins σ H' s' /\ Vals vs us /\ Q vs H'
noncomputable def SP (X:Cx) (pins:List (Addr × Obj)) (D:Ends) (f:Flow) (s':Shared):Prop:=
 match f with
 | .next=>∃ σ' H',Inv X pins σ' H' s' /\ D.nx σ' H'
 | .brk=>∃ σ' H',Inv X pins σ' H' s' /\ D.bk σ' H'
 | .cont=>∃ σ' H',Inv X pins σ' H' s' /\ D.ct σ' H'
 | .ret u=>∃ v σ' H',Inv X pins σ' H' s' /\ RelV v u /\ D.rt v H'
noncomputable def PE (X:Cx) (e:Expr) (t:TE):Prop:=
 ∀ (pins:List (Addr × Obj)) (s:Shared) (σ:St) (H:Hp) (Q:VK),Inv X pins σ H s -> t σ H Q -> wpAny (model X.prog X.w) X.A (eval e X.env) (EP X pins σ Q) X.xe s
noncomputable def PT (X:Cx) (e:Expr) (t:TT):Prop:=
 ∀ (pins:List (Addr × Obj)) (s:Shared) (σ:St) (H:Hp) (Q:Bool -> Hp -> Prop),Inv X pins σ H s -> t σ H Q -> wpAny (model X.prog X.w) X.A (isTrue e X.env (eval e X.env)) (TP X pins σ Q) X.xe s
noncomputable def PW (X:Cx) (e:Expr) (t:TT):Prop:=
 ∀ (whole:Sem Value) (pins:List (Addr × Obj)) (s:Shared) (σ:St) (H:Hp) (Q:Bool -> Hp -> Prop),Inv X pins σ H s -> t σ H Q -> wpAny (model X.prog X.w) X.A (isTrue e X.env whole) (TP X pins σ Q) X.xe s
theorem PW.pt {X:Cx} {e:Expr} {t:TT} (h:PW X e t):PT X e t:=h _
noncomputable def PA (X:Cx) (es:List Expr) (t:TA):Prop:=
 ∀ (pos:Pos) (pins:List (Addr × Obj)) (s:Shared) (σ:St) (H:Hp) (Q:List V -> Hp -> Prop),Inv X pins σ H s -> t σ H Q -> wpAny (model X.prog X.w) X.A (spliced (backTo pos (starEach es X.env))) (AP X pins σ Q) X.xe s
noncomputable def PS (X:Cx) (st:Stmt) (t:TS):Prop:=
 ∀ (pins:List (Addr × Obj)) (s:Shared) (σ:St) (H:Hp) (D:Ends),Inv X pins σ H s -> t D σ H -> wpAny (model X.prog X.w) X.A (exec st X.env) (SP X pins D) X.xe s
noncomputable def PSs (X:Cx) (st:List Stmt) (t:TS):Prop:=
 ∀ (pins:List (Addr × Obj)) (s:Shared) (σ:St) (H:Hp) (D:Ends),Inv X pins σ H s -> t D σ H -> wpAny (model X.prog X.w) X.A (execs st X.env) (SP X pins D) X.xe s
theorem thn {α:Type} {t:Sem α} {Q Q':α -> Shared -> Prop} {M:Model} {A:Around} {E:Value -> Shared -> Prop} {s:Shared} (h:wpAny M A t Q E s) (hQ:∀ a s,Q a s -> Q' a s):wpAny M A t Q' E s:=wpAny_mono h hQ fun _ _ x=>x
end L2
namespace L2
open PySem PySem.Spec PyProof.Rows
section
variable {X:Cx}
theorem bin {a b:Expr} {ta tb:TE} (ha:PE X a ta) (hb:PE X b tb) {pins:List (Addr × Obj)} {s:Shared} {σ:St} {H:Hp} {R:V -> V -> Hp -> Prop} (I:Inv X pins σ H s) (h:ta σ H fun x H1=>tb σ H1 fun y H2=>R x y H2)
  {α:Type} {Q:α -> Shared -> Prop} {f:Value -> Value -> Sem α}
  (hf:∀ v u s2 x y H2,Inv X pins σ H2 s2 -> RelV x v -> RelV y u -> R x y H2 -> wpAny (model X.prog X.w) X.A (f v u) Q X.xe s2):
  wpAny (model X.prog X.w) X.A (eval a X.env) (fun v s₁=>wpAny (model X.prog X.w) X.A (eval b X.env) (fun u s₂=>wpAny (model X.prog X.w) X.A (f v u) Q X.xe s₂) X.xe s₁) X.xe s:=by
 refine thn (ha pins s σ H _ I h) fun v s1 ⟨x,H1,I1,r1,q1⟩=>?_
 refine thn (hb pins s1 σ H1 _ I1 q1) fun u s2 ⟨y,H2,I2,r2,q2⟩=>?_
 exact hf v u s2 x y H2 I2 r1 r2 q2
noncomputable def yM (i:Nat):TE:=fun σ H Q=>∃ v,σ[i]? = some (some v) /\ Q v H
noncomputable def tC (v:V):TE:=fun _ H Q=>Q v H
theorem HX {i:Nat} {x:Str} {pos:Pos} (hN:X.N[i]? = some x) (hv:Vis X.env.scope x) (hd:(x == ("__debug__":Str)) = false:=by decide) (hcd:(x == ("__classdict__":Str)) = false:=by decide):PE X (.Name x pos) (yM i):=by
 intro pins s σ H Q I h
 obtain ⟨v,e,h⟩:=h
 obtain ⟨m,hn,hl⟩:=I.loc
 obtain ⟨u,r,l⟩:=hl i x v hN e hv
 have fin:EP X pins σ Q u s:=⟨v,H,I,r,h⟩
 rcases l with ⟨hk,hm⟩ | ⟨hk,c,hc,hcell⟩
 . exact wpAny_Name (wpAny_loadName_local I.ok.kind hk hn hm fin) hd
 . rcases hk with hk | hk
   . exact wpAny_Name (wpAny_loadName_cell I.ok.kind hk hc hcell fin) hd
   . exact wpAny_Name (wpAny_loadName_free I.ok.kind hk hc hcell fin hcd) hd
theorem Gn {i j pos}:PE X (.Constant (.int i) j pos) (tC (.int i)):=fun _ _ _ H _ I h=>wpAny_Constant_int ⟨.int i,H,I.tok _,⟨_,rfl⟩,h⟩
theorem Jy {b j pos}:PE X (.Constant (.bool b) j pos) (tC (.bl b)):=fun _ _ _ H _ I h=>Constant_bool ⟨.bl b,H,I,rfl,h⟩
theorem Hu {j pos}:PE X (.Constant .none j pos) (tC .non):=fun _ _ _ H _ I h=>Constant_none ⟨.non,H,I,rfl,h⟩
theorem HZ {x j pos}:PE X (.Constant (.str x) j pos) (tC (.str x)):=fun _ _ _ H _ I h=>Calls.Constant_str ⟨.str x,H,I.tok _,⟨_,rfl⟩,h⟩
noncomputable def Gl (X:Cx) (x:Str):Prop:=X.env.kindOf x = some .globalImplicit
theorem tq {E:Value -> Shared -> Prop} {pins:List (Addr × Obj)} {s:Shared} {σ:St} {H:Hp} {x:Str} {u:Value} {pos:Pos} {Q:Value -> Shared -> Prop} (I:Inv X pins σ H s) (hg:Gl X x) (hm:X.mg x = some u) (h:Q u s)
  (hd:(x == ("__debug__":Str)) = false:=by decide):wpAny (model X.prog X.w) X.A (eval (.Name x pos) X.env) Q E s:=
 Calls.Name_function_global I.ok.kind hg (Calls.loadGlobal_global (by rw [I.ok.glob]; exact I.mod.glob.keeps I.bk) hm h) hd
theorem tX {E:Value -> Shared -> Prop} {pins:List (Addr × Obj)} {s:Shared} {σ:St} {H:Hp} {x:Str} {u:Value} {pos:Pos} {Q:Value -> Shared -> Prop} (I:Inv X pins σ H s) (hg:Gl X x) (hm:X.mg x = none) (hv:bootBuiltins x = some u) (h:Q u s)
  (hn:x ≠ "__name__":=by decide) (hd:(x == ("__debug__":Str)) = false:=by decide):wpAny (model X.prog X.w) X.A (eval (.Name x pos) X.env) Q E s:=by
 obtain ⟨mb,h1,h2⟩:=I.mod.blt
 exact Calls.Name_function_global I.ok.kind hg (Calls.loadGlobal_builtin (by rw [I.ok.glob]; exact I.mod.glob.keeps I.bk) hm (by rw [I.ok.blt]; exact h1.keeps I.bk) ((h2 x hn).trans hv) h) hd
theorem Ef {x:Str} {v:V} {u:Value} {pos:Pos} (hg:Gl X x) (hm:X.mg x = some u) (r:RelV v u) (hd:(x == ("__debug__":Str)) = false:=by decide):PE X (.Name x pos) (tC v):=
 fun _ _ _ H _ I h=>tq I hg hm ⟨v,H,I,r,h⟩ hd
theorem DJ {x:Str} {v:V} {u:Value} {pos:Pos} (hg:Gl X x) (hm:X.mg x = none) (hv:bootBuiltins x = some u) (r:RelV v u) (hn:x ≠ "__name__":=by decide) (hd:(x == ("__debug__":Str)) = false:=by decide):PE X (.Name x pos) (tC v):=
 fun _ _ _ H _ I h=>tX I hg hm hv ⟨v,H,I,r,h⟩ hn hd
variable {a b:Expr} {ta tb:TE} {pos:Pos}
noncomputable def PC (X:Cx) (op:CmpOp) (a b:Expr) (t:TE):Prop:=
 ∀ (pins:List (Addr × Obj)) (s:Shared) (σ:St) (H:Hp) (Q:VK),Inv X pins σ H s -> t σ H Q ->
   wpAny (model X.prog X.w) X.A (eval a X.env) (fun v s₁=>wpAny (model X.prog X.w) X.A (eval b X.env) (fun u s₂=>wpAny (model X.prog X.w) X.A (compareOp op v u) (EP X pins σ Q) X.xe s₂) X.xe s₁) X.xe s
theorem xm (b:Expr) {op:CmpOp} (h:op ≠ .In) (h2:op ≠ .NotIn):behindInMarks op b = false:=by
 have e1:(op == CmpOp.In) = false:=by cases op <;> first | rfl | exact absurd rfl h
 have e2:(op == CmpOp.NotIn) = false:=by cases op <;> first | rfl | exact absurd rfl h2
 cases b <;> simp [behindInMarks,e1,e2]
noncomputable def tB (t:TE):TT:=fun σ H Q=>t σ H fun x H1=>∃ c,x = .bl c /\ Q c H1
theorem Hb {op:CmpOp} {t:TE} (h:PC X op a b t) (h1:behindInMarks op b = false:=by first | exact xm _ (by decide) (by decide) | rfl):PT X (.Compare a [op] [b] pos) (tB t):=by
 intro pins s σ H Q I hw
 refine wpAny_isTrue_Compare1 (thn (h pins s σ H _ I hw) fun v s1 h1=>thn h1 fun u s2 h2=>thn h2 fun c s3 ⟨x,H1,I1,r1,q1⟩=>?_) h1
 obtain ⟨d,rfl,q⟩:=q1
 cases r1
 exact wpAny_truthy_bool ⟨H1,I1,q⟩
variable {tA tB':TT} {rest:List Expr}
noncomputable def GN (t u:TT):TT:=fun σ H Q=>t σ H fun c H1=>if c = true then u σ H1 Q else Q false H1
noncomputable def tOr (t u:TT):TT:=fun σ H Q=>t σ H fun c H1=>if c = true then Q true H1 else u σ H1 Q
noncomputable def Gy (t:TT):TT:=fun σ H Q=>t σ H fun c H1=>Q (!c) H1
theorem E8 (ha:PT X a tA):PW X (.BoolOp .And [a] pos) tA:=by
 intro wh pins s σ H Q I h
 refine isTrue_and (thn (ha pins s σ H Q I h) fun c s1 e=>?_)
 cases c with
 | true=>exact isTrue_and_nil e
 | false=>exact e
theorem Gz (ha:PT X a tA):PW X (.BoolOp .Or [a] pos) tA:=by
 intro wh pins s σ H Q I h
 refine isTrue_or (thn (ha pins s σ H Q I h) fun c s1 e=>?_)
 cases c with
 | false=>exact isTrue_or_nil e
 | true=>exact e
theorem Iu (ha:PT X a tA) (hb:PW X (.BoolOp .And (b ::rest) pos) tB'):PW X (.BoolOp .And (a ::b ::rest) pos) (GN tA tB'):=by
 intro wh pins s σ H Q I h
 refine isTrue_and (thn (ha pins s σ H _ I h) fun c s1 ⟨H1,I1,q1⟩=>?_)
 cases c with
 | true=>exact hb wh pins s1 σ H1 Q I1 q1
 | false=>exact ⟨H1,I1,q1⟩
theorem Ki (ha:PT X a tA) (hb:PW X (.BoolOp .Or (b ::rest) pos) tB'):PW X (.BoolOp .Or (a ::b ::rest) pos) (tOr tA tB'):=by
 intro wh pins s σ H Q I h
 refine isTrue_or (thn (ha pins s σ H _ I h) fun c s1 ⟨H1,I1,q1⟩=>?_)
 cases c with
 | true=>exact ⟨H1,I1,q1⟩
 | false=>exact hb wh pins s1 σ H1 Q I1 q1
theorem IS (ha:PT X a tA):PT X (.UnaryOp .Not a pos) (Gy tA):=by
 intro pins s σ H Q I h
 exact isTrue_not (ha pins s σ H (fun c H1=>Q (!c) H1) I h)
noncomputable def CI (ta tb:TE):TE:=fun σ H Q=>ta σ H fun x H1=>∃ c,x = .bl c /\ if c = true then tb σ H1 Q else Q (.bl false) H1
noncomputable def Il (ta tb:TE):TE:=fun σ H Q=>ta σ H fun x H1=>∃ c,x = .bl c /\ if c = true then Q (.bl true) H1 else tb σ H1 Q
noncomputable def CV (ta:TE):TE:=fun σ H Q=>ta σ H fun x H1=>∃ c,x = .bl c /\ Q (.bl (!c)) H1
theorem GY {op} {t:TE} (h:PE X a t):PE X (.BoolOp op [a] pos) t:=fun pins s σ H Q I hw=>BoolOp_one (h pins s σ H Q I hw)
theorem HV (ha:PE X a ta) (hb:PE X (.BoolOp .And (b ::rest) pos) tb):PE X (.BoolOp .And (a ::b ::rest) pos) (CI ta tb):=by
 intro pins s σ H Q I h
 refine BoolOp_and (thn (ha pins s σ H _ I h) fun v s1 ⟨x,H1,I1,r1,q1⟩=>?_)
 obtain ⟨c,rfl,q1⟩:=q1
 cases r1
 refine wpAny_truthy_bool ?_
 cases c with
 | true=>exact hb pins s1 σ H1 Q I1 q1
 | false=>exact ⟨.bl false,H1,I1,rfl,q1⟩
theorem Ke (ha:PE X a ta) (hb:PE X (.BoolOp .Or (b ::rest) pos) tb):PE X (.BoolOp .Or (a ::b ::rest) pos) (Il ta tb):=by
 intro pins s σ H Q I h
 refine BoolOp_or (thn (ha pins s σ H _ I h) fun v s1 ⟨x,H1,I1,r1,q1⟩=>?_)
 obtain ⟨c,rfl,q1⟩:=q1
 cases r1
 refine wpAny_truthy_bool ?_
 cases c with
 | false=>exact hb pins s1 σ H1 Q I1 q1
 | true=>exact ⟨.bl true,H1,I1,rfl,q1⟩
theorem Hn (ha:PE X a ta):PE X (.UnaryOp .Not a pos) (CV ta):=by
 intro pins s σ H Q I h
 refine UnaryOp_ (thn (ha pins s σ H _ I h) fun v s1 ⟨x,H1,I1,r1,q1⟩=>?_)
 obtain ⟨c,rfl,q1⟩:=q1
 cases r1
 exact not_of (wpAny_truthy_bool ⟨.bl (!c),H1,I1,rfl,q1⟩)
noncomputable def tIf (t:TT) (ta tb:TE):TE:=fun σ H Q=>t σ H fun c H1=>if c = true then ta σ H1 Q else tb σ H1 Q
theorem Cb {c:Expr} (hc:PT X c tA) (ha:PE X a ta) (hb:PE X b tb):PE X (.IfExp c a b pos) (tIf tA ta tb):=by
 intro pins s σ H Q I h
 refine wpAny_IfExp (thn (hc pins s σ H _ I h) fun d s1 ⟨H1,I1,q1⟩=>?_)
 cases d with
 | true=>exact ha pins s1 σ H1 Q I1 q1
 | false=>exact hb pins s1 σ H1 Q I1 q1
end
end L2
namespace L2
open PySem PySem.Spec PyProof.Rows
noncomputable def SqL (K:PySem.W.Frag) (H:Hp) (a:Addr) (xs:List V):Prop:=
 Rd H a (.lst xs) \/
  ∃ (o:Obj) (its:Array Value) (n:Nat),K.lookup a = some o /\ o.cls = .type "list" /\ o.dict = none /\ o.data = .seq its n /\ its.size <= sizeLine /\ Vals xs its.toList
noncomputable def SqT (K:PySem.W.Frag) (H:Hp) (a:Addr) (xs:List V):Prop:=
 Rd H a (.tup xs) \/
  ∃ (o:Obj) (its:Array Value) (n:Nat),K.lookup a = some o /\ o.cls = .type "tuple" /\ o.data = .seq its n /\ its.size <= sizeLine /\ Vals xs its.toList
noncomputable def L7:Value -> Option V
 | .none=>some .non
 | .bool b=>some (.bl b)
 | .int i _=>some (.int i)
 | .str x _=>some (.str x)
 | .bytes b _=>some (.byt b)
 | .float b _=>some (.flt b)
 | .ref a=>some (.ref a)
 | .type n=>some (.ty n)
 | _=>none
theorem RelV.abs {x:V} {u:Value} (r:RelV x u):L7 u = some x:=by
 cases x with
 | non=>cases r; rfl
 | bl _=>cases r; rfl
 | int _=>obtain ⟨t,rfl⟩:=r; rfl
 | str _=>obtain ⟨t,rfl⟩:=r; rfl
 | byt _=>obtain ⟨t,rfl⟩:=r; rfl
 | flt _=>obtain ⟨t,rfl⟩:=r; rfl
 | ref _=>cases r; rfl
 | ty _=>cases r; rfl
theorem RelV.inj {x y:V} {u:Value} (r:RelV x u) (q:RelV y u):x = y:=Option.some.inj (r.abs.symm.trans q.abs)
theorem Vals.inj:∀ {xs ys:List V} {us:List Value},Vals xs us -> Vals ys us -> xs = ys
 | _,_,_,.nil,.nil=>rfl
 | _,_,_,.cons r t,.cons r' t'=>by rw [r.inj r',Vals.inj t t']
section
variable {X:Cx} {pins:List (Addr × Obj)} {σ:St} {H:Hp} {s:Shared} {a:Addr} {xs ys:List V}
theorem Inv.list (I:Inv X pins σ H s) (h:SqL X.K H a xs):∃ its:List Value,Vals xs its /\ PlainL s.heap a its.toArray /\ xs.length <= sizeLine:=by
 rcases h with h | ⟨o,its,n,hk,hc,hd,hs,hz,r⟩
 . obtain ⟨z,its,n,r,e⟩:=h.ok I.hok
   exact ⟨its,r,⟨_,n,e,rfl,rfl,rfl⟩,z⟩
 . refine ⟨its.toList,r,⟨o,n,I.kIn a o hk,hc,hd,by simpa using hs⟩,?_⟩
   have e:=r.length
   simp only [Array.length_toList] at e
   omega
theorem Inv.tuple (I:Inv X pins σ H s) (h:SqT X.K H a xs):∃ its:List Value,Vals xs its /\ IsTup s.heap a its.toArray /\ xs.length <= sizeLine:=by
 rcases h with h | ⟨o,its,n,hk,hc,hs,hz,r⟩
 . obtain ⟨z,its,r,p⟩:=h.ok I.hok
   exact ⟨its,r,p,z⟩
 . refine ⟨its.toList,r,⟨o,I.kIn a o hk,hc,n,by simpa using hs⟩,?_⟩
   have e:=r.length
   simp only [Array.length_toList] at e
   omega
theorem Inv.xW (I:Inv X pins σ H s) (h:SqL X.K H a xs) (h':SqL X.K H a ys):xs = ys:=by
 obtain ⟨its,r,⟨o,n,e,_,_,d⟩,_⟩:=I.list h
 obtain ⟨its',r',⟨o',n',e',_,_,d'⟩,_⟩:=I.list h'
 rw [e] at e'; cases e'
 rw [d] at d'
 injection d' with d1 _
 have:its = its':=by simpa using congrArg Array.toList d1
 subst this
 exact r.inj r'
theorem Inv.AG (I:Inv X pins σ H s) (h:SqT X.K H a xs) (h':SqT X.K H a ys):xs = ys:=by
 obtain ⟨its,r,⟨o,e,_,n,d⟩,_⟩:=I.tuple h
 obtain ⟨its',r',⟨o',e',_,n',d'⟩,_⟩:=I.tuple h'
 rw [e] at e'; cases e'
 rw [d] at d'
 injection d' with d1 _
 have:its = its':=by simpa using congrArg Array.toList d1
 subst this
 exact r.inj r'
end
section
variable {X:Cx} {st:Stmt} {rest:List Stmt} {t u:TS} {e:Expr} {te:TE} {pos:Pos}
noncomputable def Cd:TS:=fun D σ H=>D.nx σ H
noncomputable def Ib (t u:TS):TS:=fun D σ H=>t { D with nx:=u D } σ H
theorem Eg:PSs X [] Cd:=fun _ _ σ H _ I h=>wpAny_execs_nil ⟨σ,H,I,h⟩
theorem DC (h1:PS X st t) (h2:PSs X rest u):PSs X (st ::rest) (Ib t u):=by
 intro pins s σ H D I h
 refine wpAny_execs_cons (thn (h1 pins s σ H { D with nx:=u D } I h) fun f s1 q=>?_)
 cases f with
 | next=>
   obtain ⟨σ',H',I',q⟩:=q
   exact h2 pins s1 σ' H' D I' q
 | ret v=>exact q
 | brk=>exact q
 | cont=>exact q
theorem E3 (h1:PS X st t):PSs X [st] t:=by
 intro pins s σ H D I h
 refine wpAny_execs_cons (thn (h1 pins s σ H D I h) fun f s1 q=>?_)
 cases f with
 | next=>exact wpAny_execs_nil q
 | ret v=>exact q
 | brk=>exact q
 | cont=>exact q
theorem Inv.quiet {pins:List (Addr × Obj)} {σ:St} {H:Hp} {s:Shared} (I:Inv X pins σ H s):interactive X.env = false:=by simp [interactive,I.ok.kind]
noncomputable def tw (te:TE):TS:=fun D σ H=>te σ H fun _ H1=>D.nx σ H1
theorem ET (he:PE X e te) (hs:swapsWith e none pos.line X.env = pure false:=by rfl):PS X (.Expr e pos) (tw te):=by
 intro pins s σ H D I h
 exact wpAny_Expr_any (thn (he pins s σ H _ I h) fun v s1 ⟨x,H1,I1,r1,q1⟩=>⟨σ,H1,I1,q1⟩) I.quiet hs
noncomputable def E4 (te:TE):TS:=fun D σ H=>te σ H D.rt
theorem Hc (he:PE X e te):PS X (.Return (some e) pos) (E4 te):=by
 intro pins s σ H D I h
 exact wpAny_Return_some (thn (he pins s σ H _ I h) fun v s1 ⟨x,H1,I1,r1,q1⟩=>⟨x,σ,H1,I1,r1,q1⟩)
noncomputable def DP (c:TT) (t u:TS):TS:=fun D σ H=>c σ H fun b H1=>if b = true then t D σ H1 else u D σ H1
theorem Jv {c:Expr} {a b:List Stmt} {tc:TT} (hc:PT X c tc) (ha:PSs X a t) (hb:PSs X b u):PS X (.If c a b pos) (DP tc t u):=by
 intro pins s σ H D I h
 refine wpAny_If (thn (hc pins s σ H _ I h) fun d s1 ⟨H1,I1,q1⟩=>?_)
 cases d with
 | true=>exact ha pins s1 σ H1 D I1 q1
 | false=>exact hb pins s1 σ H1 D I1 q1
end
abbrev TG:=V -> St -> Hp -> (St -> Hp -> Prop) -> Prop
abbrev TGs:=List V -> St -> Hp -> (St -> Hp -> Prop) -> Prop
noncomputable def PG (X:Cx) (target:Expr) (t:TG):Prop:=
 ∀ (pins:List (Addr × Obj)) (s:Shared) (σ:St) (H:Hp) (v:V) (u:Value) (Q:St -> Hp -> Prop),Inv X pins σ H s -> RelV v u -> t v σ H Q ->
   wpAny (model X.prog X.w) X.A (assign target X.env u) (fun _ s'=>∃ σ' H',Inv X pins σ' H' s' /\ Q σ' H') X.xe s
noncomputable def PGs (X:Cx) (ts:List Expr) (t:TGs):Prop:=
 ∀ (pins:List (Addr × Obj)) (s:Shared) (σ:St) (H:Hp) (vs:List V) (us:List Value) (Q:St -> Hp -> Prop),Inv X pins σ H s -> Vals vs us -> t vs σ H Q ->
   wpAny (model X.prog X.w) X.A (assignInOrder ((assignEach ts X.env).map (·.2)) us) (fun _ s'=>∃ σ' H',Inv X pins σ' H' s' /\ Q σ' H') X.xe s
abbrev D6:=V -> V -> V -> Hp -> (Hp -> Prop) -> Prop
noncomputable def IC (X:Cx) (t:D6):Prop:=
 ∀ (pins:List (Addr × Obj)) (s:Shared) (σ:St) (H:Hp) (o i v:V) (ov iv u:Value) (Q:Hp -> Prop),Inv X pins σ H s -> RelV o ov -> RelV i iv -> RelV v u -> t o i v H Q ->
   wpAny (model X.prog X.w) X.A (setItem ov iv u) (fun _ s'=>∃ H',Inv X pins σ H' s' /\ Q H') X.xe s
section
variable {X:Cx} {pos:Pos}
noncomputable def kE (i:Nat):TG:=fun v σ H Q=>Q (σ.set i (some v)) H
theorem EN {i:Nat} {x:Str} (hN:X.N.Nodup) (hi:X.N[i]? = some x) (hx:Loc X.env.scope x) (hf:X.fn x = true \/ X.env.scope.names.lookup x = some .local:=by first | exact .inl rfl | exact .inr rfl | assumption):PG X (.Name x pos) (kE i):=by
 intro pins s σ H v u Q I r h
 exact wpAny_assign_Name (mH I hN hi hx r (fun s' I'=>⟨_,H,I',h⟩) hf)
noncomputable def Gk:TGs:=fun vs σ H Q=>vs = [] /\ Q σ H
noncomputable def zY (t:TG) (u:TGs):TGs:=fun vs σ H Q=>∃ v r,vs = v ::r /\ t v σ H fun σ' H'=>u r σ' H' Q
theorem EM:PGs X [] Gk:=by
 intro pins s σ H vs us Q I r h
 obtain ⟨e,h⟩:=h
 subst e
 cases r
 exact assignInOrder_nil ⟨σ,H,I,h⟩
theorem Cq {e:Expr} {es:List Expr} {t:TG} {u:TGs} (h1:PG X e t) (h2:PGs X es u)
  (hs:(assignEach (e ::es) X.env).map (·.2) = assign e X.env ::(assignEach es X.env).map (·.2):=by rfl):PGs X (e ::es) (zY t u):=by
 intro pins s σ H vs us Q I r h
 obtain ⟨v,vr,e1,h⟩:=h
 subst e1
 cases r with
 | cons r rr=>
   rw [hs]
   refine assignInOrder_cons (thn (h1 pins s σ H _ _ _ I r h) fun _ s1 ⟨σ1,H1,I1,q1⟩=>?_)
   exact h2 pins s1 σ1 H1 _ _ Q I1 rr q1
noncomputable def Iy (K:PySem.W.Frag) (n:Nat) (t:TGs):TG:=fun v σ H Q=>∃ a xs,v = .ref a /\ SqT K H a xs /\ xs.length = n /\ t xs σ H Q
theorem G1 {es:List Expr} {k:Nat} {t:TGs} {n:Nat} (hc:X.calm = true) (h:PGs X es t)
  (hn:(assignEach es X.env).length = n:=by rfl) (hst:(assignEach es X.env).findIdx? (·.1) = none:=by rfl):PG X (.Tuple es k pos) (Iy X.K n t):=by
 intro pins s σ H v u Q I r hw
 obtain ⟨a,xs,e1,hq,hl,hw⟩:=hw
 subst e1
 cases r
 obtain ⟨its,rv,ht,hz⟩:=I.tuple hq
 refine assign_Tuple_tuple (I.ok.hd hc) ht (by simp [hn,<- hl,rv.length]) hst fun h' hx=>?_
 have I1:Inv X pins σ H { s with heap:=h' }:=I.kept (t':=s.toks) fun b o e=>hx b o (Nat.ne_of_lt (Heap.lt_size e)) e
 exact h pins _ σ H xs _ Q I1 (by simpa using rv) hw
noncomputable def IG (to ti:TE) (t:D6):TG:=fun v σ H Q=>to σ H fun o H1=>ti σ H1 fun i H2=>t o i v H2 fun H3=>Q σ H3
theorem GA {o i:Expr} {to ti:TE} {t:D6} (ho:PE X o to) (hi:PE X i ti) (hs:IC X t)
  (ha:∀ v,assign (.Subscript o i pos) X.env v = (do
    let ov <- holding [v] (eval o X.env)
    let iv <- holding [v,ov] (eval i X.env)
    standAt pos
    holding [v,ov,iv] (setItem ov iv v)
    release [v,ov,iv] []):=by intro _; rfl):PG X (.Subscript o i pos) (IG to ti t):=by
 intro pins s σ H v u Q I r h
 rw [ha]
 refine wpAny_bind (wpAny_holding (thn (ho pins s σ H _ I h) fun ov s1 ⟨x,H1,I1,r1,q1⟩=>?_))
 refine wpAny_bind (wpAny_holding (thn (hi pins s1 σ H1 _ I1 q1) fun iv s2 ⟨y,H2,I2,r2,q2⟩=>?_))
 refine wpAny_bind (wpAny_standAt (wpAny_bind (wpAny_holding (thn (hs pins s2 σ H2 x y v ov iv u _ I2 r1 r2 r q2) fun _ s3 ⟨H3,I3,q3⟩=>?_))))
 exact wpAny_release ⟨σ,H3,I3,q3⟩
noncomputable def ub (te:TE) (g:TG):TS:=fun D σ H=>te σ H fun x H1=>g x σ H1 D.nx
theorem HD {tg e:Expr} {te:TE} {g:TG} (he:PE X e te) (hg:PG X tg g) (hs:swapsWithSole [tg] e pos.line X.env = pure false:=by rfl) (hw:swappedStores [tg] e X.env = pure none:=by rfl)
  (h1:(assignEach [tg] X.env).map (·.2) = [assign tg X.env]:=by rfl):PS X (.Assign [tg] e pos) (ub te g):=by
 intro pins s σ H D I h
 refine wpAny_Assign_stores (thn (he pins s σ H _ I h) fun v s1 ⟨x,H1,I1,r1,q1⟩=>?_) hs hw
 rw [h1]
 exact thn (hg pins s1 σ H1 x v _ I1 r1 q1) fun _ s2 q=>q
theorem Hr {i:Nat} {x:Str} {e:Expr} {te:TE} {pos':Pos} (hN:X.N.Nodup) (hi:X.N[i]? = some x) (hx:Loc X.env.scope x) (he:PE X e te) (hs:swapsWith e (some (.Name x pos')) pos.line X.env = pure false:=by rfl) (hf:X.fn x = true \/ X.env.scope.names.lookup x = some .local:=by first | exact .inl rfl | exact .inr rfl | assumption):
  PS X (.Assign [.Name x pos'] e pos) (ub te (kE i)):=by
 intro pins s σ H D I h
 refine wpAny_Assign_Name (thn (he pins s σ H _ I h) fun v s1 ⟨y,H1,I1,r1,q1⟩=>?_) hs
 exact mH I1 hN hi hx r1 (fun s2 I2=>⟨_,H1,I2,q1⟩) hf
end
section
variable {X:Cx} {pos:Pos}
noncomputable def zo (c:TT) (tb:TS):TS:=fun D σ H=>∃ W:Nat -> St -> Hp -> Prop,(∃ m,W m σ H) /\ ∀ m σ H,W m σ H ->
 c σ H fun b H1=>if b = true then ∃ N:St -> Hp -> Prop,(∀ σ' H',N σ' H' -> ∃ m',m' < m /\ W m' σ' H') /\ tb { D with nx:=N,ct:=N,bk:=D.nx } σ H1 else D.nx σ H1
theorem BR {c:Expr} {body:List Stmt} {tc:TT} {tb:TS} (hp:PassesOwn (model X.prog X.w) X.A X.env X.xe) (hc:PT X c tc) (hb:PSs X body tb):PS X (.While c body [] pos) (zo tc tb):=by
 intro pins s σ H D I h
 obtain ⟨W,⟨m0,w0⟩,turn⟩:=h
 refine wpAny_While (codeAny_whileLoop (fun n s'=>∃ σ' H',Inv X pins σ' H' s' /\ W n σ' H') ?_ m0 ⟨σ,H,I,w0⟩)
 rintro n s1 ⟨σ1,H1,I1,w1⟩
 refine wpAny_passesOwn hp (thn (hc pins s1 σ1 H1 _ I1 (turn n σ1 H1 w1)) fun b s2 ⟨H2,I2,q2⟩=>?_)
 cases b with
 | true=>
   obtain ⟨N,hN,q2⟩:=q2
   rw [if_pos rfl]
   refine wpAny_passesOwn hp (thn (hb pins s2 σ1 H2 _ I2 q2) fun f s3 q3=>?_)
   cases f with
   | next=>
     obtain ⟨σ3,H3,I3,n3⟩:=q3
     obtain ⟨m',hm,w3⟩:=hN σ3 H3 n3
     exact ⟨m',hm,σ3,H3,I3,w3⟩
   | cont=>
     obtain ⟨σ3,H3,I3,n3⟩:=q3
     obtain ⟨m',hm,w3⟩:=hN σ3 H3 n3
     exact ⟨m',hm,σ3,H3,I3,w3⟩
   | brk=>exact q3
   | ret v=>exact q3
 | false=>
   rw [if_neg Bool.false_ne_true]
   exact wpAny_execs_nil ⟨σ1,H2,I2,q2⟩
end
structure It where
 go:Nat -> Hp -> Prop
 yld:Nat -> Hp -> V -> Hp -> Prop
 stop:Nat -> Hp -> Prop
noncomputable def oU (X:Cx) (pins:List (Addr × Obj)) (H:Hp) (b:Addr):Prop:=
 H b = none /\ b ≠ X.env.locals /\ b ∉ X.fs /\ (b ∈ X.ex \/ X.s₀.heap.objs.size <= b) /\ (∀ x c,X.env.cells.lookup x = some c -> c ≠ b) /\ ∀ p ∈ X.pn ++ pins,p.1 ≠ b
theorem Inv.AM {X:Cx} {pins:List (Addr × Obj)} {σ:St} {H H':Hp} {s:Shared} {b:Addr} (I:Inv X pins σ H s) (hb:s.heap.objs.size <= b) (hn:H' b = none):oU X pins H' b:=by
 refine ⟨hn,Nat.ne_of_gt (Nat.lt_of_lt_of_le I.lt hb),I.Lu hb,.inr (Nat.le_trans I.sz hb),fun x c e z=>?_,fun p hp z=>?_⟩
 . obtain ⟨v,q⟩:=I.cell x c e
   exact absurd (Nat.lt_of_lt_of_le q.lt (by rw [z]; exact hb)) (Nat.lt_irrefl _)
 . exact absurd (Nat.lt_of_lt_of_le (Heap.lt_size (I.pin p hp).1) (by rw [z]; exact hb)) (Nat.lt_irrefl _)
structure Turn (P:Program) (w:World) (K:PySem.W.Frag) (tg:Expr) (J:It) (fp:List Addr) (it:Addr) (tn:Nat -> Heap -> Prop):Prop where
 mem:it ∈ fp
 obj:∀ i h,tn i h -> ∀ b ∈ fp,∃ o,h.get? b = some o /\ ∀ v,o.data ≠ .cell v
 keep:∀ i h h',tn i h -> (∀ b ∈ fp,∀ o,h.get? b = some o -> h'.get? b = some o) -> tn i h'
 item:∀ (X:Cx),X.prog = P -> X.w = w -> X.K = K -> X.calm = true -> ∀ (i:Nat) (pins:List (Addr × Obj)) (s:Shared) (σ:St) (H:Hp) (E:Value -> Shared -> Prop),Inv X pins σ H s -> (∀ b ∈ fp,oU X pins H b) -> tn i s.heap -> J.go i H ->
  wpAny (model P w) X.A (pyNext (.ref it)) (fun r s1=>∃ u,r = some u /\
   wpAny (model P w) X.A (letOwnedTupleGo tg (.ref it) u) (fun _ s2=>∃ x H',Inv X pins σ H' s2 /\ RelV x u /\ J.yld i H x H' /\ tn (i + 1) s2.heap /\ ∀ b ∈ fp,H' b = none) E s1) E s
 done:∀ (X:Cx),X.prog = P -> X.w = w -> X.K = K -> X.calm = true -> ∀ (i:Nat) (pins:List (Addr × Obj)) (s:Shared) (σ:St) (H:Hp) (E:Value -> Shared -> Prop),Inv X pins σ H s -> (∀ b ∈ fp,oU X pins H b) -> tn i s.heap -> J.stop i H ->
  wpAny (model P w) X.A (pyNext (.ref it)) (fun r s1=>r = none /\ Inv X pins σ H s1) E s
 self:∀ (A:Around) (i:Nat) (s:Shared) (Q:Value -> Shared -> Prop) (E:Value -> Shared -> Prop),tn i s.heap -> Q (.ref it) s -> wpAny (model P w) A (pyIter (.ref it)) Q E s
abbrev TI:=St -> Hp -> (It -> Hp -> Prop) -> Prop
noncomputable def PIE (X:Cx) (pins:List (Addr × Obj)) (σ:St) (tg:Expr) (R:It -> Hp -> Prop) (itv:Value) (s2:Shared):Prop:=
 ∃ (it:Addr) (fp:List Addr) (tn:Nat -> Heap -> Prop) (J:It) (H':Hp),itv = .ref it /\ Inv X pins σ H' s2 /\ Turn X.prog X.w X.K tg J fp it tn /\ tn 0 s2.heap /\ (∀ b ∈ fp,oU X pins H' b) /\ R J H'
noncomputable def PI (X:Cx) (tg iter:Expr) (wi:TI):Prop:=
 ∀ (pins:List (Addr × Obj)) (s:Shared) (σ:St) (H:Hp) (R:It -> Hp -> Prop),Inv X pins σ H s -> wi σ H R ->
   wpAny (model X.prog X.w) X.A (eval iter X.env) (fun v s1=>wpAny (model X.prog X.w) X.A (pyIter v) (PIE X pins σ tg R) X.xe s1) X.xe s
theorem zO {M:Model} {A:Around} {E:Value -> Shared -> Prop} {s:Shared} {tg:Expr} {it:Addr} {u:Value} {o:Obj} {n:String} {vs:Array Value} {Q:Unit -> Shared -> Prop} (ho:s.heap.get? it = some o) (hc:o.cls = .type n) (hd:o.data = .fields vs)
  (hn:["enumerate","zip","dict_itemiterator","dict_reverseitemiterator","odict_iterator","itertools.zip_longest","itertools.pairwise"].contains n = false) (hQ:Q () s):wpAny M A (letOwnedTupleGo tg (.ref it) u) Q E s:=by
 unfold letOwnedTupleGo
 cases tg <;> first
  | exact wpAny_pure hQ
  | (cases u <;> first
      | exact wpAny_pure hQ
      | (refine wpAny_bind (wpAny_load ho ?_)
         rw [hc,hd]
         show wpAny M A (if (["enumerate","zip","dict_itemiterator","dict_reverseitemiterator","odict_iterator","itertools.zip_longest","itertools.pairwise"].contains n && vs[0]? == some (rawInt _)) = true then _ else _) Q E s
         rw [if_neg (by intro h; rw [hn,Bool.false_and] at h; cases h)]
         exact wpAny_pure hQ))
noncomputable def Itl (K:PySem.W.Frag) (a:Addr):It:=
 ⟨fun i H=>∃ xs x,SqL K H a xs /\ xs[i]? = some x,fun i H x H'=>H' = H /\ ∀ xs,SqL K H a xs -> xs[i]? = some x,fun i H=>∃ xs,SqL K H a xs /\ xs.length <= i⟩
noncomputable def Itt (K:PySem.W.Frag) (a:Addr):It:=
 ⟨fun i H=>∃ xs x,SqT K H a xs /\ xs[i]? = some x,fun i H x H'=>H' = H /\ ∀ xs,SqT K H a xs -> xs[i]? = some x,fun i H=>∃ xs,SqT K H a xs /\ xs.length <= i⟩
noncomputable def Itr (lo:Int) (n:Nat):It:=⟨fun i _=>i < n,fun i H x H'=>H' = H /\ x = .int (lo + i),fun i _=>n <= i⟩
theorem A5 {P:Program} {w:World} {K:PySem.W.Frag} {tg:Expr} (a it:Addr):Turn P w K tg (Itl K a) [it] it (fun i h=>h.IsListIter it a i) where
 mem:=by simp
 obj:=fun i h st b hb=>by
  have e:b = it:=by simpa using hb
  subst e
  obtain ⟨o,e,c,d⟩:=st
  exact ⟨o,e,fun v z=>by rw [d] at z; cases z⟩
 keep:=fun i h h' st k=>st.at fun o e=>k it (by simp) o e
 item:=by
  intro X hP hw hK hc i pins s σ H E I hf st hg
  subst hP hw hK
  obtain ⟨xs,x,hq,hx⟩:=hg
  obtain ⟨its,rv,p,hz⟩:=I.list hq
  obtain ⟨u,hu,ru⟩:=rv.get hx
  obtain ⟨f0,f1,f2,f3,f4,f5⟩:=hf it (by simp)
  refine wpAny_pyNext_list_item st p.isList (x:=u) (by simpa using hu) fun h' st' sb=>?_
  have I1:Inv X pins σ H { s with heap:=h' }:=I.turned (t':=s.toks) (fun b o hb e=>(sb.2 b hb).trans e) f0 f1 f3 f4 f5
  obtain ⟨o,e,c,d⟩:=id st'
  exact ⟨u,rfl,zO (s:={ s with heap:=h' }) e c d (by decide) ⟨x,H,I1,ru,⟨rfl,fun ys hy=>by rw [I.xW hy hq]; exact hx⟩,st',fun b hb=>(hf b hb).1⟩⟩
 done:=by
  intro X hP hw hK hc i pins s σ H E I hf st hg
  subst hP hw hK
  obtain ⟨xs,hq,hx⟩:=hg
  obtain ⟨its,rv,p,hz⟩:=I.list hq
  obtain ⟨f0,f1,f2,f3,f4,f5⟩:=hf it (by simp)
  have hl:=rv.length
  exact wpAny_pyNext_list_end (I.ok.hd hc) st p.isList (by simp; omega) fun h' eb=>⟨rfl,I.turned (t':=s.toks) (fun b o hb e=>eb b o hb e) f0 f1 f3 f4 f5⟩
 self:=fun _ _ _ _ _ st h=>wpAny_pyIter_listiter st h
theorem zg {P:Program} {w:World} {K:PySem.W.Frag} {tg:Expr} (a it:Addr):Turn P w K tg (Itt K a) [it] it (fun i h=>h.IsTupleIter it a i) where
 mem:=by simp
 obj:=fun i h st b hb=>by
  have e:b = it:=by simpa using hb
  subst e
  obtain ⟨o,e,c,d⟩:=st
  exact ⟨o,e,fun v z=>by rw [d] at z; cases z⟩
 keep:=fun i h h' st k=>st.at fun o e=>k it (by simp) o e
 item:=by
  intro X hP hw hK hc i pins s σ H E I hf st hg
  subst hP hw hK
  obtain ⟨xs,x,hq,hx⟩:=hg
  obtain ⟨its,rv,p,hz⟩:=I.tuple hq
  obtain ⟨u,hu,ru⟩:=rv.get hx
  obtain ⟨f0,f1,f2,f3,f4,f5⟩:=hf it (by simp)
  refine wpAny_pyNext_tuple_item st (show s.heap.IsTuple a its.toArray from p) (x:=u) (by simpa using hu) fun h' st' sb=>?_
  have I1:Inv X pins σ H { s with heap:=h' }:=I.turned (t':=s.toks) (fun b o hb e=>(sb.2 b hb).trans e) f0 f1 f3 f4 f5
  obtain ⟨o,e,c,d⟩:=id st'
  exact ⟨u,rfl,zO (s:={ s with heap:=h' }) e c d (by decide) ⟨x,H,I1,ru,⟨rfl,fun ys hy=>by rw [I.AG hy hq]; exact hx⟩,st',fun b hb=>(hf b hb).1⟩⟩
 done:=by
  intro X hP hw hK hc i pins s σ H E I hf st hg
  subst hP hw hK
  obtain ⟨xs,hq,hx⟩:=hg
  obtain ⟨its,rv,p,hz⟩:=I.tuple hq
  obtain ⟨f0,f1,f2,f3,f4,f5⟩:=hf it (by simp)
  have hl:=rv.length
  exact wpAny_pyNext_tuple_end (I.ok.hd hc) st (show s.heap.IsTuple a its.toArray from p) (by simp; omega) fun h' eb=>⟨rfl,I.turned (t':=s.toks) (fun b o hb e=>eb b o hb e) f0 f1 f3 f4 f5⟩
 self:=fun _ _ _ _ _ st h=>wpAny_pyIter_tupleiter st h
theorem yG {P:Program} {w:World} {K:PySem.W.Frag} {tg:Expr} (it:Addr) (lo:Int) (n:Nat):Turn P w K tg (Itr lo n) [it] it (fun i h=>IsRangeIter h it (lo + (i:Nat) * 1) ((n:Int) - (i:Nat)) 1) where
 mem:=by simp
 obj:=fun i h st b hb=>by
  have e:b = it:=by simpa using hb
  subst e
  exact ⟨_,st,fun v z=>by
   have z':Data.fields _ = Data.cell v:=z
   cases z'⟩
 keep:=fun i h h' st k=>k it (by simp) _ st
 item:=by
  intro X hP hw hK hc i pins s σ H E I hf st hg
  subst hP hw hK
  obtain ⟨f0,f1,f2,f3,f4,f5⟩:=hf it (by simp)
  have W:=Walks.range (prog:=X.prog) (w:=X.w) (I.ok.hd hc) it lo 1 n
  refine W.item i s _ _ hg st fun v h' tk hv st' kk=>?_
  obtain ⟨t,rfl⟩:=hv
  have I1:Inv X pins σ H { s with heap:=h',toks:=tk }:=I.turned (fun b o hb e=>kk b o (by simpa using hb) e) f0 f1 f3 f4 f5
  refine ⟨_,rfl,zO (s:={ s with heap:=h',toks:=tk }) (n:="range_iterator") st' rfl rfl (by decide) ⟨.int (lo + i),H,I1,⟨t,?_⟩,⟨rfl,rfl⟩,st',fun b hb=>(hf b hb).1⟩⟩
  rw [Int.mul_one]
 done:=by
  intro X hP hw hK hc i pins s σ H E I hf st hg
  subst hP hw hK
  obtain ⟨f0,f1,f2,f3,f4,f5⟩:=hf it (by simp)
  exact wpAny_pyNext_range_end (I.ok.hd hc) st (by have:n <= i:=hg; omega) fun h' eb=>⟨rfl,I.turned (t':=s.toks) (fun b o hb e=>eb b o hb e) f0 f1 f3 f4 f5⟩
 self:=fun _ _ _ _ _ st h=>wpAny_pyIter_rangeiter st h
end L2
namespace L2
open PySem PySem.Spec PyProof.Rows
section
variable {X:Cx} {tg:Expr}
noncomputable def wZ (K:PySem.W.Frag) (tl:TE):TI:=fun σ H R=>tl σ H fun x H1=>∃ a,x = .ref a /\ (∃ xs,SqL K H1 a xs) /\ R (Itl K a) H1
noncomputable def Im (K:PySem.W.Frag) (tl:TE):TI:=fun σ H R=>tl σ H fun x H1=>∃ a,x = .ref a /\ (∃ xs,SqT K H1 a xs) /\ R (Itt K a) H1
theorem EZ {l:Expr} {tl:TE} (hl:PE X l tl):PI X tg l (wZ X.K tl):=by
 intro pins s σ H R I h
 refine thn (hl pins s σ H _ I h) fun v s1 ⟨x,H1,I1,r1,q1⟩=>?_
 obtain ⟨a,e,⟨xs,hq⟩,q⟩:=q1
 subst e
 cases r1
 obtain ⟨its,rv,p,hz⟩:=I1.list hq
 refine wpAny_pyIter_list p.isList ?_
 refine ⟨s1.heap.objs.size,[s1.heap.objs.size],_,_,H1,rfl,I1.kept (t':=s1.toks) fun b o e=>Heap.get?_push_of_some _ e,A5 a _,⟨_,Heap.get?_push_size _ rfl,rfl,rfl⟩,fun b hb=>?_,q⟩
 have e:b = s1.heap.objs.size:=by simpa using hb
 subst e
 exact I1.AM (Nat.le_refl _) (I1.hok.fresh (Nat.le_refl _))
theorem Ir {l:Expr} {tl:TE} (hl:PE X l tl):PI X tg l (Im X.K tl):=by
 intro pins s σ H R I h
 refine thn (hl pins s σ H _ I h) fun v s1 ⟨x,H1,I1,r1,q1⟩=>?_
 obtain ⟨a,e,⟨xs,hq⟩,q⟩:=q1
 subst e
 cases r1
 obtain ⟨its,rv,p,hz⟩:=I1.tuple hq
 refine wpAny_pyIter_tuple (show s1.heap.IsTuple a its.toArray from p) ?_
 refine ⟨s1.heap.objs.size,[s1.heap.objs.size],_,_,H1,rfl,I1.kept (t':=s1.toks) fun b o e=>Heap.get?_push_of_some _ e,zg a _,⟨_,Heap.get?_push_size _ rfl,rfl,rfl⟩,fun b hb=>?_,q⟩
 have e:b = s1.heap.objs.size:=by simpa using hb
 subst e
 exact I1.AM (Nat.le_refl _) (I1.hok.fresh (Nat.le_refl _))
theorem Df {pins:List (Addr × Obj)} {σ:St} {H:Hp} {s:Shared} {R:It -> Hp -> Prop} {E:Value -> Shared -> Prop} {lo hi:Int} {t u v:Tok} {tk:Nat} (I:Inv X pins σ H s) (h1:-(2 ^ 62) <= lo) (h2:lo < 2 ^ 62) (h3:-(2 ^ 62) <= hi) (h4:hi < 2 ^ 62)
  (q:R (Itr lo (hi - lo).toNat) H):wpAny (model X.prog X.w) X.A (pyIter (.ref s.heap.objs.size)) (PIE X pins σ tg R) E { s with heap:=s.heap.push { cls:=.type "range",data:=.fields #[.int lo t,.int hi u,.int 1 v] },toks:=tk }:=by
 refine wpAny_pyIter_range (IsRange.new ..) (small_one h1 h2 h3 h4) ?_
 have I1:Inv X pins σ H { s with heap:=s.heap.push { cls:=.type "range",data:=.fields #[.int lo t,.int hi u,.int 1 v] },toks:=tk }:=I.kept fun b o e=>Heap.get?_push_of_some _ e
 refine ⟨(s.heap.push { cls:=.type "range",data:=.fields #[.int lo t,.int hi u,.int 1 v] }).objs.size,[(s.heap.push { cls:=.type "range",data:=.fields #[.int lo t,.int hi u,.int 1 v] }).objs.size],_,_,H,rfl,
  I1.kept (t':=tk) fun b o e=>Heap.get?_push_of_some _ e,yG _ lo (hi - lo).toNat,?_,fun b hb=>?_,q⟩
 . have e1:lo + ((0:Nat):Int) * 1 = lo:=by simp
   have e2:(((hi - lo).toNat:Nat):Int) - ((0:Nat):Int) = Builtin.Range.rangeSize lo hi 1:=by rw [rangeSize_one]; split <;> omega
   show IsRangeIter _ _ (lo + ((0:Nat):Int) * 1) ((((hi - lo).toNat:Nat):Int) - ((0:Nat):Int)) 1
   rw [e1,e2]
   exact Heap.get?_push_size _ rfl
 . have e:b = (s.heap.push { cls:=.type "range",data:=.fields #[.int lo t,.int hi u,.int 1 v] }).objs.size:=by simpa using hb
   subst e
   exact I1.AM (Nat.le_refl _) (I1.hok.fresh (Nat.le_refl _))
noncomputable def Aw (ta:TA):TI:=fun σ H R=>ta σ H fun vs H1=>∃ j:Int,vs = [.int j] /\ -(2 ^ 62) <= j /\ j < 2 ^ 62 /\ R (Itr 0 j.toNat) H1
theorem A3 {a:Expr} {ta:TA} {p pos:Pos} (hg:Gl X "range") (hm:X.mg "range" = none) (ha:PA X [a] ta) (hs:starEach [a] X.env = [(false,eval a X.env)]:=by rfl):PI X tg (.Call (.Name "range" p) [a] [] pos) (Aw ta):=by
 intro pins s σ H R I h
 refine Call_ (tX I hg hm boot_range (PyProof.Rows.callWith_type1 (thn (ha pos pins s σ H _ I h) fun us s1 ⟨vs,H1,I1,r1,q1⟩=>?_) hs rfl))
 obtain ⟨j,e,q1,q2,q⟩:=q1
 subst e
 cases r1 with
 | cons r rr=>
   cases rr
   obtain ⟨t,rfl⟩:=r
   exact call_range_1 (Df I1 (by omega) (by omega) q1 q2 (by simpa using q))
noncomputable def BL (wi:TI) (g:TG) (tb:TS):TS:=fun D σ H=>wi σ H fun J H1=>∃ W:Nat -> Nat -> St -> Hp -> Prop,(∃ m,W 0 m σ H1) /\ ∀ i m σ H,W i m σ H ->
 (J.stop i H /\ D.nx σ H) \/ (J.go i H /\ ∃ N:St -> Hp -> Prop,(∀ σ' H',N σ' H' -> ∃ m',m' < m /\ W (i + 1) m' σ' H') /\ ∀ x H',J.yld i H x H' -> g x σ H' fun σ2 H2=>tb { D with nx:=N,ct:=N,bk:=D.nx } σ2 H2)
noncomputable def wQ (fp:List Addr) (h:Heap):List (Addr × Obj):=fp.filterMap fun b=>(h.get? b).map fun o=>(b,o)
theorem eI {fp:List Addr} {h:Heap} {b:Addr} {o:Obj} (hb:b ∈ fp) (e:h.get? b = some o):(b,o) ∈ wQ fp h:=List.mem_filterMap.mpr ⟨b,hb,by rw [e]; rfl⟩
theorem Bl {fp:List Addr} {h:Heap} {p:Addr × Obj} (hp:p ∈ wQ fp h):p.1 ∈ fp /\ h.get? p.1 = some p.2:=by
 obtain ⟨b,hb,e⟩:=List.mem_filterMap.mp hp
 cases q:h.get? b with
 | none=>rw [q] at e; cases e
 | some o=>
   rw [q] at e
   have e':(b,o) = p:=Option.some.inj e
   subst e'
   exact ⟨hb,q⟩
theorem Inv.pinned {pins:List (Addr × Obj)} {σ:St} {H:Hp} {s:Shared} {fp:List Addr} (I:Inv X pins σ H s) (hf:∀ b ∈ fp,oU X pins H b) (ho:∀ b ∈ fp,∃ o,s.heap.get? b = some o /\ ∀ v,o.data ≠ .cell v):Inv X (pins ++ wQ fp s.heap) σ H s:=
 I.Ao fun p hp=>(List.mem_append.mp hp).elim (fun z=>I.pin p (List.mem_append_right _ z)) fun z=>by
  obtain ⟨hb,e⟩:=Bl z
  obtain ⟨f0,f1,f2,_⟩:=hf p.1 hb
  obtain ⟨o,e',d⟩:=ho p.1 hb
  rw [e] at e'; cases e'
  exact ⟨e,f0,f1,f2,d⟩
theorem Inv.jT {pins pl:List (Addr × Obj)} {σ:St} {H:Hp} {s:Shared} (I:Inv X (pins ++ pl) σ H s):Inv X pins σ H s:=I.Ao fun p hp=>I.pin p (List.mem_append_right _ (List.mem_append_left _ hp))
theorem GV {iter:Expr} {body:List Stmt} {wi:TI} {g:TG} {tb:TS} {pos:Pos} (hp:PassesOwn (model X.prog X.w) X.A X.env X.xe) (hc:X.calm = true) (hi:PI X tg iter wi) (hg:PG X tg g) (hb:PSs X body tb)
  (hs:∀ x,foldedSetIterable iter X.env x = pure x:=by intro _; rfl):PS X (.For tg iter body [] pos) (BL wi g tb):=by
 intro pins s σ H D I h
 refine wpAny_For (thn (hi pins s σ H _ I h) fun v s1 h1=>thn h1 fun itv s2 h2=>?_) hs
 obtain ⟨it,fp,tn,J,H2,e,I2,T,st2,f2,W,⟨m0,w0⟩,turn⟩:=h2
 subst e
 have stat:∀ {H':Hp},(∀ b ∈ fp,H' b = none) -> ∀ b ∈ fp,oU X pins H' b:=fun hn b hb=>⟨hn b hb,(f2 b hb).2⟩
 refine codeAny_forLoop_any (fun n s'=>∃ i σ' H',Inv X pins σ' H' s' /\ tn i s'.heap /\ (∀ b ∈ fp,H' b = none) /\ W i n σ' H') ?_ m0 ⟨0,σ,H2,I2,st2,fun b hb=>(f2 b hb).1,w0⟩
 rintro n s3 ⟨i,σ3,H3,I3,st3,fr3,w3⟩
 rcases turn i n σ3 H3 w3 with ⟨stop,qn⟩ | ⟨go,N,hN,step⟩
 . refine wpAny_passesOwn hp (thn (T.done X rfl rfl rfl hc i pins s3 σ3 H3 X.xe I3 (stat fr3) st3 stop) fun r s4 ⟨hr,I4⟩=>?_)
   subst hr
   exact wpAny_execs_nil ⟨σ3,H3,I4,qn⟩
 . refine wpAny_passesOwn hp (thn (T.item X rfl rfl rfl hc i pins s3 σ3 H3 X.xe I3 (stat fr3) st3 go) fun r s4 ⟨u,hr,h4⟩=>?_)
   subst hr
   refine wpAny_passesOwn hp (thn h4 fun _ s5 ⟨x,H5,I5,r5,y5,st5,fr5⟩=>?_)
   have I5':=I5.pinned (stat fr5) (T.obj _ _ st5)
   refine wpAny_passesOwn hp (thn (hg _ s5 σ3 H5 x u _ I5' r5 (step x H5 y5)) fun _ s6 ⟨σ6,H6,I6,q6⟩=>?_)
   refine wpAny_passesOwn hp (thn (hb _ s6 σ6 H6 _ I6 q6) fun f s7 q7=>?_)
   have again:∀ {σ7:St} {H7:Hp},Inv X (pins ++ wQ fp s5.heap) σ7 H7 s7 -> N σ7 H7 -> ∃ m,m < n /\ ∃ i σ' H',Inv X pins σ' H' s7 /\ tn i s7.heap /\ (∀ b ∈ fp,H' b = none) /\ W i m σ' H':=fun {σ7 H7} I7 n7=>by
    obtain ⟨m',hm,w7⟩:=hN σ7 H7 n7
    refine ⟨m',hm,i + 1,σ7,H7,I7.jT,T.keep _ _ _ st5 fun b hb o e=>(I7.pin (b,o) (List.mem_append_right _ (List.mem_append_right _ (eI hb e)))).1,fun b hb=>?_,w7⟩
    obtain ⟨o,e,d⟩:=T.obj _ _ st5 b hb
    exact (I7.pin (b,o) (List.mem_append_right _ (List.mem_append_right _ (eI hb e)))).2.1
   cases f with
   | next=>obtain ⟨σ7,H7,I7,n7⟩:=q7; exact again I7 n7
   | cont=>obtain ⟨σ7,H7,I7,n7⟩:=q7; exact again I7 n7
   | brk=>obtain ⟨σ7,H7,I7,q7⟩:=q7; exact ⟨σ7,H7,I7.jT,q7⟩
   | ret v=>obtain ⟨x7,σ7,H7,I7,r7,q7⟩:=q7; exact ⟨x7,σ7,H7,I7.jT,r7,q7⟩
end
theorem Cc {K:PySem.W.Frag} {a:Addr} {xs:List V} {g:TG} {tb:TS} {D:Ends} {σ:St} {H:Hp} (Pv:Nat -> St -> Hp -> Prop) (h0:Pv 0 σ H) (hl:∀ i σ H,i <= xs.length -> Pv i σ H -> SqL K H a xs)
  (hs:∀ i x σ H,xs[i]? = some x -> Pv i σ H -> g x σ H fun σ2 H2=>tb { D with nx:=Pv (i + 1),ct:=Pv (i + 1),bk:=D.nx } σ2 H2) (hd:∀ σ H,Pv xs.length σ H -> D.nx σ H):
  ∃ W:Nat -> Nat -> St -> Hp -> Prop,(∃ m,W 0 m σ H) /\ ∀ i m σ H,W i m σ H ->
    ((Itl K a).stop i H /\ D.nx σ H) \/ ((Itl K a).go i H /\ ∃ N:St -> Hp -> Prop,(∀ σ' H',N σ' H' -> ∃ m',m' < m /\ W (i + 1) m' σ' H') /\ ∀ x H',(Itl K a).yld i H x H' -> g x σ H' fun σ2 H2=>tb { D with nx:=N,ct:=N,bk:=D.nx } σ2 H2):=by
 refine ⟨fun i m σ H=>m = xs.length - i /\ i <= xs.length /\ Pv i σ H,⟨xs.length,by simp,Nat.zero_le _,h0⟩,?_⟩
 rintro i m σ H ⟨rfl,hi,p⟩
 have q:=hl i σ H hi p
 by_cases hlt:i < xs.length
 . refine .inr ⟨⟨xs,xs[i],q,by simp [hlt]⟩,Pv (i + 1),fun σ' H' p'=>⟨xs.length - (i + 1),by omega,rfl,hlt,p'⟩,fun x H' y=>?_⟩
   obtain ⟨e,y⟩:=y
   subst e
   exact hs i x σ _ (y xs q) p
 . have e:i = xs.length:=by omega
   subst e
   exact .inl ⟨⟨xs,q,Nat.le_refl _⟩,hd σ H p⟩
theorem Bq {lo:Int} {n:Nat} {g:TG} {tb:TS} {D:Ends} {σ:St} {H:Hp} (Pv:Nat -> St -> Hp -> Prop) (h0:Pv 0 σ H)
  (hs:∀ i σ H,i < n -> Pv i σ H -> g (.int (lo + i)) σ H fun σ2 H2=>tb { D with nx:=Pv (i + 1),ct:=Pv (i + 1),bk:=D.nx } σ2 H2) (hd:∀ σ H,Pv n σ H -> D.nx σ H):
  ∃ W:Nat -> Nat -> St -> Hp -> Prop,(∃ m,W 0 m σ H) /\ ∀ i m σ H,W i m σ H ->
    ((Itr lo n).stop i H /\ D.nx σ H) \/ ((Itr lo n).go i H /\ ∃ N:St -> Hp -> Prop,(∀ σ' H',N σ' H' -> ∃ m',m' < m /\ W (i + 1) m' σ' H') /\ ∀ x H',(Itr lo n).yld i H x H' -> g x σ H' fun σ2 H2=>tb { D with nx:=N,ct:=N,bk:=D.nx } σ2 H2):=by
 refine ⟨fun i m σ H=>m = n - i /\ i <= n /\ Pv i σ H,⟨n,by simp,Nat.zero_le _,h0⟩,?_⟩
 rintro i m σ H ⟨rfl,hi,p⟩
 by_cases hlt:i < n
 . refine .inr ⟨hlt,Pv (i + 1),fun σ' H' p'=>⟨n - (i + 1),by omega,rfl,hlt,p'⟩,fun x H' y=>?_⟩
   obtain ⟨e,y⟩:=y
   subst e y
   exact hs i σ _ hlt p
 . have e:i = n:=by omega
   subst e
   exact .inl ⟨Nat.le_refl _,hd σ H p⟩
end L2
namespace L2
open PySem PySem.Spec PyProof.Rows
abbrev R2:=V -> V -> Hp -> VK -> Prop
noncomputable def OpR (X:Cx) (f:Value -> Value -> Sem Value) (r:R2):Prop:=
 ∀ (pins:List (Addr × Obj)) (s:Shared) (σ:St) (H:Hp) (x y:V) (v u:Value) (Q:VK),Inv X pins σ H s -> RelV x v -> RelV y u -> r x y H Q ->
   wpAny (model X.prog X.w) X.A (f v u) (EP X pins σ Q) X.xe s
noncomputable def UnR (X:Cx) (f:Value -> Sem Value) (r:V -> Hp -> VK -> Prop):Prop:=
 ∀ (pins:List (Addr × Obj)) (s:Shared) (σ:St) (H:Hp) (x:V) (v:Value) (Q:VK),Inv X pins σ H s -> RelV x v -> r x H Q ->
   wpAny (model X.prog X.w) X.A (f v) (EP X pins σ Q) X.xe s
noncomputable def mx (X:Cx) (f:Value) (r:List V -> Hp -> VK -> Prop):Prop:=
 ∀ (pins:List (Addr × Obj)) (s:Shared) (σ:St) (H:Hp) (xs:List V) (us:List Value) (Q:VK),Inv X pins σ H s -> Vals xs us -> r xs H Q ->
   wpAny (model X.prog X.w) X.A (call f us) (EP X pins σ Q) X.xe s
noncomputable def Lc (X:Cx) (r:V -> Hp -> (Bool -> Hp -> Prop) -> Prop):Prop:=
 ∀ (pins:List (Addr × Obj)) (s:Shared) (σ:St) (H:Hp) (x:V) (v:Value) (Q:Bool -> Hp -> Prop),Inv X pins σ H s -> RelV x v -> r x H Q ->
   wpAny (model X.prog X.w) X.A (truthy v) (TP X pins σ Q) X.xe s
noncomputable def tOp (r:R2) (ta tb:TE):TE:=fun σ H Q=>ta σ H fun x H1=>tb σ H1 fun y H2=>r x y H2 Q
noncomputable def tUn (r:V -> Hp -> VK -> Prop) (ta:TE):TE:=fun σ H Q=>ta σ H fun x H1=>r x H1 Q
noncomputable def rI (C:Int -> Int -> Prop) (g:Int -> Int -> V):R2:=fun x y H Q=>∃ i j,x = .int i /\ y = .int j /\ C i j /\ Q (g i j) H
noncomputable def rI0 (g:Int -> Int -> V):R2:=fun x y H Q=>∃ i j,x = .int i /\ y = .int j /\ Q (g i j) H
noncomputable def rU (g:Int -> V):V -> Hp -> VK -> Prop:=fun x H Q=>∃ i,x = .int i /\ Q (g i) H
section
variable {X:Cx} {a b c:Expr} {ta tb tc:TE} {pos:Pos}
theorem Ih (ha:PE X a ta) (hb:PE X b tb) {pins:List (Addr × Obj)} {s:Shared} {σ:St} {H:Hp} {R:V -> V -> Hp -> Prop} (I:Inv X pins σ H s)
  (h:ta σ H fun x H1=>tb σ H1 fun y H2=>R x y H2) {Q:Value -> Shared -> Prop} {f:Value -> Value -> Sem Value}
  (hf:∀ v u s2 x y H2,Inv X pins σ H2 s2 -> RelV x v -> RelV y u -> R x y H2 -> wpAny (model X.prog X.w) X.A (f v u) Q X.xe s2):
  wpAny (model X.prog X.w) X.A (eval a X.env) (fun v s₁=>wpAny (model X.prog X.w) X.A (eval b X.env) (fun u s₂=>wpAny (model X.prog X.w) X.A (f v u) Q X.xe s₂) X.xe s₁) X.xe s:=by
 refine thn (ha pins s σ H _ I h) fun v s1 ⟨x,H1,I1,r1,q1⟩=>?_
 refine thn (hb pins s1 σ H1 _ I1 q1) fun u s2 ⟨y,H2,I2,r2,q2⟩=>?_
 exact hf v u s2 x y H2 I2 r1 r2 q2
theorem JH {op:Operator} {r:R2} (ho:OpR X (binaryOp op) r) (ha:PE X a ta) (hb:PE X b tb):PE X (.BinOp a op b pos) (tOp r ta tb):=by
 intro pins s σ H Q I h
 exact wpAny_BinOp (Ih ha hb I h fun v u s2 x y H2 I2 rx ry q=>ho pins s2 σ H2 x y v u Q I2 rx ry q)
theorem Kd {op:UnaryOp} {r:V -> Hp -> VK -> Prop} (ho:UnR X (unaryOp op) r) (ha:PE X a ta):PE X (.UnaryOp op a pos) (tUn r ta):=by
 intro pins s σ H Q I h
 exact UnaryOp_ (thn (ha pins s σ H _ I h) fun v s1 ⟨x,H1,I1,r1,q1⟩=>ho pins s1 σ H1 x v Q I1 r1 q1)
theorem opI {f:Value -> Value -> Sem Value} {C:Int -> Int -> Prop} {g:Int -> Int -> Int}
  (rule:∀ (i j:Int) (t u:Tok) (s:Shared) (Q:Value -> Shared -> Prop) (E:Value -> Shared -> Prop),C i j -> Q (.int (g i j) s.toks) { s with toks:=s.toks + 1 } -> wpAny (model X.prog X.w) X.A (f (.int i t) (.int j u)) Q E s):
  OpR X f (rI C fun i j=>.int (g i j)):=by
 intro pins s σ H x y v u Q I rx ry h
 obtain ⟨i,j,rfl,rfl,hc,q⟩:=h
 obtain ⟨t,rfl⟩:=rx
 obtain ⟨t',rfl⟩:=ry
 exact rule i j t t' s _ _ hc ⟨.int (g i j),H,I.tok _,⟨_,rfl⟩,q⟩
theorem Jx {f:Value -> Value -> Sem Value} {g:Int -> Int -> Int}
  (rule:∀ (i j:Int) (t u:Tok) (s:Shared) (Q:Value -> Shared -> Prop) (E:Value -> Shared -> Prop),Q (.int (g i j) s.toks) { s with toks:=s.toks + 1 } -> wpAny (model X.prog X.w) X.A (f (.int i t) (.int j u)) Q E s):
  OpR X f (rI0 fun i j=>.int (g i j)):=by
 intro pins s σ H x y v u Q I rx ry h
 obtain ⟨i,j,rfl,rfl,q⟩:=h
 obtain ⟨t,rfl⟩:=rx
 obtain ⟨t',rfl⟩:=ry
 exact rule i j t t' s _ _ ⟨.int (g i j),H,I.tok _,⟨_,rfl⟩,q⟩
theorem EW {f:Value -> Value -> Sem Value} {g:Int -> Int -> Bool}
  (rule:∀ (i j:Int) (t u:Tok) (s:Shared) (Q:Value -> Shared -> Prop) (E:Value -> Shared -> Prop),Q (.bool (g i j)) s -> wpAny (model X.prog X.w) X.A (f (.int i t) (.int j u)) Q E s):
  OpR X f (rI0 fun i j=>.bl (g i j)):=by
 intro pins s σ H x y v u Q I rx ry h
 obtain ⟨i,j,rfl,rfl,q⟩:=h
 obtain ⟨t,rfl⟩:=rx
 obtain ⟨t',rfl⟩:=ry
 exact rule i j t t' s _ _ ⟨.bl (g i j),H,I,rfl,q⟩
noncomputable def GW (i j:Int):Prop:=0 < j /\ j < 1073741824
noncomputable def Ci (i j:Int):Prop:=(-(2 ^ 64) < i /\ i < 2 ^ 64) \/ (-(2 ^ 64) < j /\ j < 2 ^ 64)
theorem Ci.ok {i j:Int} (h:Ci i j):IntMulOk i j:=by
 rcases h with ⟨h1,h2⟩ | ⟨h1,h2⟩
 . exact .of_left (intBits_le_64 h1 h2)
 . exact .of_right (intBits_le_64 h1 h2)
theorem cx:OpR X (binaryOp .Add) (rI0 fun i j=>.int (i + j)):=Jx fun _ _ _ _ _ _ _ q=>add_int q
theorem qd:OpR X (binaryOp .Sub) (rI0 fun i j=>.int (i - j)):=Jx fun _ _ _ _ _ _ _ q=>sub_int q
theorem rW:OpR X (binaryOp .Mult) (rI Ci fun i j=>.int (i * j)):=opI fun _ _ _ _ _ _ _ hc q=>mul_int q hc.ok
theorem bO:OpR X (binaryOp .FloorDiv) (rI GW fun i j=>.int (i / j)):=opI fun i j _ _ _ _ _ hc q=>by
 have h1:(0:Int) < j:=hc.1
 have h2:j < 1073741824:=hc.2
 exact floordiv_int (by omega) (by rw [Int.fdiv_eq_ediv_of_nonneg i (by omega)]; exact q) (.inl (PyProof.noPylong_small (by omega)))
theorem bN:OpR X (binaryOp .Mod) (rI (fun _ j=>0 < j) fun i j=>.int (i % j)):=opI fun i j _ _ _ _ _ hc q=>by
 have h1:(0:Int) < j:=hc
 exact mod_int' (by omega) (by rw [Int.fmod_eq_emod_of_nonneg i (by omega)]; exact q)
theorem unI {f:Value -> Sem Value} {g:Int -> Int}
  (rule:∀ (i:Int) (t:Tok) (s:Shared) (Q:Value -> Shared -> Prop) (E:Value -> Shared -> Prop),Q (.int (g i) s.toks) { s with toks:=s.toks + 1 } -> wpAny (model X.prog X.w) X.A (f (.int i t)) Q E s):
  UnR X f (rU fun i=>.int (g i)):=by
 intro pins s σ H x v Q I rx h
 obtain ⟨i,rfl,q⟩:=h
 obtain ⟨t,rfl⟩:=rx
 exact rule i t s _ _ ⟨.int (g i),H,I.tok _,⟨_,rfl⟩,q⟩
theorem kd:UnR X (unaryOp .USub) (rU fun i=>.int (-i)):=unI fun _ _ _ _ _ q=>neg_int q
end
noncomputable def IM:V -> V -> Bool
 | .non,.non=>true | .non,.int _=>true | .int _,.non=>true | .non,.bl _=>true | .bl _,.non=>true | .non,.str _=>true | .str _,.non=>true
 | .int _,.int _=>true | .bl _,.bl _=>true | .str _,.str _=>true | .byt _,.byt _=>true
 | .int _,.str _=>true | .str _,.int _=>true | .bl _,.str _=>true | .str _,.bl _=>true
 | _,_=>false
noncomputable def rEq:R2:=fun x y H Q=>IM x y = true /\ Q (.bl (decide (x = y))) H
noncomputable def rNe:R2:=fun x y H Q=>IM x y = true /\ Q (.bl (!decide (x = y))) H
theorem Ae {i j:Int}:decide (V.int i = V.int j) = (i == j):=by
 rw [Bool.eq_iff_iff]
 simp
theorem Cu {i j:Bool}:decide (V.bl i = V.bl j) = (i == j):=by
 rw [Bool.eq_iff_iff]
 simp
theorem zD {i j:Str}:decide (V.str i = V.str j) = (i == j):=by
 rw [Bool.eq_iff_iff]
 simp
theorem Aq {i j:Array UInt8}:decide (V.byt i = V.byt j) = (i.toList == j.toList):=by
 rw [Bool.eq_iff_iff]
 cases i
 cases j
 simp
section
variable {X:Cx} {a b c:Expr} {ta tb tc:TE} {pos:Pos}
theorem cZ {pins:List (Addr × Obj)} {σ:St} {H:Hp} {s:Shared} {Q:VK} {k k':Bool} (I:Inv X pins σ H s) (q:Q (.bl k) H) (e:k = k'):EP X pins σ Q (.bool k') s:=by
 subst e
 exact ⟨.bl k,H,I,rfl,q⟩
theorem bg:OpR X (compareOp .Eq) rEq:=by
 intro pins s σ H x y v u Q I rx ry h
 obtain ⟨hs,q⟩:=h
 cases x with
 | non=>
   cases rx
   cases y with
   | non=>cases ry; exact PySem.EqNone.eq_none_none (cZ I q (by simp))
   | bl j=>cases ry; exact PySem.EqNone.eq_none_bool (cZ I q (by simp))
   | int j=>obtain ⟨t',rfl⟩:=ry; exact PySem.EqNone.eq_none_int (cZ I q (by simp))
   | str j=>obtain ⟨t',rfl⟩:=ry; exact PySem.EqNone.eq_none_str (cZ I q (by simp))
   | _=>exact absurd (show false = true from hs) Bool.false_ne_true
 | bl i=>
   cases rx
   cases y with
   | non=>cases ry; exact PySem.EqNone.eq_bool_none (cZ I q (by simp))
   | bl j=>cases ry; exact eq_bool (cZ I q Cu)
   | str j=>obtain ⟨t',rfl⟩:=ry; exact PySem.EqMixed.eq_bool_str (cZ I q (by simp))
   | _=>exact absurd (show false = true from hs) Bool.false_ne_true
 | int i=>
   obtain ⟨t,rfl⟩:=rx
   cases y with
   | non=>cases ry; exact PySem.EqNone.eq_int_none (cZ I q (by simp))
   | int j=>obtain ⟨t',rfl⟩:=ry; exact eq_int (cZ I q Ae)
   | str j=>obtain ⟨t',rfl⟩:=ry; exact PySem.EqMixed.eq_int_str (cZ I q (by simp))
   | _=>exact absurd (show false = true from hs) Bool.false_ne_true
 | str i=>
   obtain ⟨t,rfl⟩:=rx
   cases y with
   | non=>cases ry; exact PySem.EqNone.eq_str_none (cZ I q (by simp))
   | bl j=>cases ry; exact PySem.EqMixed.eq_str_bool (cZ I q (by simp))
   | int j=>obtain ⟨t',rfl⟩:=ry; exact PySem.EqMixed.eq_str_int (cZ I q (by simp))
   | str j=>obtain ⟨t',rfl⟩:=ry; exact eq_str (cZ I q zD)
   | _=>exact absurd (show false = true from hs) Bool.false_ne_true
 | byt i=>
   obtain ⟨t,rfl⟩:=rx
   cases y with
   | byt j=>obtain ⟨t',rfl⟩:=ry; exact PySem.W.eq_bytes (cZ I q Aq)
   | _=>exact absurd (show false = true from hs) Bool.false_ne_true
 | _=>cases y <;> exact absurd (show false = true from hs) Bool.false_ne_true
theorem Gf:OpR X (compareOp .NotEq) rNe:=by
 intro pins s σ H x y v u Q I rx ry h
 obtain ⟨hs,q⟩:=h
 cases x with
 | non=>
   cases rx
   cases y with
   | non=>cases ry; exact PySem.EqNone.ne_none_none (cZ I q (by simp))
   | bl j=>cases ry; exact PySem.EqNone.ne_none_bool (cZ I q (by simp))
   | int j=>obtain ⟨t',rfl⟩:=ry; exact PySem.EqNone.ne_none_int (cZ I q (by simp))
   | str j=>obtain ⟨t',rfl⟩:=ry; exact PySem.EqNone.ne_none_str (cZ I q (by simp))
   | _=>exact absurd (show false = true from hs) Bool.false_ne_true
 | bl i=>
   cases rx
   cases y with
   | non=>cases ry; exact PySem.EqNone.ne_bool_none (cZ I q (by simp))
   | bl j=>cases ry; exact ne_bool (cZ I q (congrArg not Cu))
   | str j=>obtain ⟨t',rfl⟩:=ry; exact PySem.EqMixed.ne_bool_str (cZ I q (by simp))
   | _=>exact absurd (show false = true from hs) Bool.false_ne_true
 | int i=>
   obtain ⟨t,rfl⟩:=rx
   cases y with
   | non=>cases ry; exact PySem.EqNone.ne_int_none (cZ I q (by simp))
   | int j=>obtain ⟨t',rfl⟩:=ry; exact ne_int (cZ I q (congrArg not Ae))
   | str j=>obtain ⟨t',rfl⟩:=ry; exact PySem.EqMixed.ne_int_str (cZ I q (by simp))
   | _=>exact absurd (show false = true from hs) Bool.false_ne_true
 | str i=>
   obtain ⟨t,rfl⟩:=rx
   cases y with
   | non=>cases ry; exact PySem.EqNone.ne_str_none (cZ I q (by simp))
   | bl j=>cases ry; exact PySem.EqMixed.ne_str_bool (cZ I q (by simp))
   | int j=>obtain ⟨t',rfl⟩:=ry; exact PySem.EqMixed.ne_str_int (cZ I q (by simp))
   | str j=>obtain ⟨t',rfl⟩:=ry; exact ne_str (cZ I q (congrArg not zD))
   | _=>exact absurd (show false = true from hs) Bool.false_ne_true
 | byt i=>
   obtain ⟨t,rfl⟩:=rx
   cases y with
   | byt j=>obtain ⟨t',rfl⟩:=ry; exact PySem.W.ne_bytes (cZ I q (congrArg not Aq))
   | _=>exact absurd (show false = true from hs) Bool.false_ne_true
 | _=>cases y <;> exact absurd (show false = true from hs) Bool.false_ne_true
theorem nV:OpR X (compareOp .Lt) (rI0 fun i j=>.bl (decide (i < j))):=EW fun _ _ _ _ _ _ _ q=>lt_int q
theorem mJ:OpR X (compareOp .LtE) (rI0 fun i j=>.bl (decide (i <= j))):=EW fun _ _ _ _ _ _ _ q=>le_int q
theorem xl:OpR X (compareOp .Gt) (rI0 fun i j=>.bl (decide (j < i))):=EW fun _ _ _ _ _ _ _ q=>gt_int q
theorem xb:OpR X (compareOp .GtE) (rI0 fun i j=>.bl (decide (j <= i))):=EW fun _ _ _ _ _ _ _ q=>ge_int q
theorem rE:OpR X (compareOp .Is) (fun x y H Q=>y = .non /\ Q (.bl (decide (x = .non))) H):=by
 intro pins s σ H x y v u Q I rx ry h
 obtain ⟨rfl,q⟩:=h
 cases ry
 refine is_none_gen (cZ I q ?_)
 cases x <;> first
  | (cases rx; rfl)
  | (obtain ⟨t,rfl⟩:=rx; rfl)
theorem vT:OpR X (compareOp .IsNot) (fun x y H Q=>y = .non /\ Q (.bl (!decide (x = .non))) H):=by
 intro pins s σ H x y v u Q I rx ry h
 obtain ⟨rfl,q⟩:=h
 cases ry
 refine isnot_none_gen (cZ I q ?_)
 cases x <;> first
  | (cases rx; rfl)
  | (obtain ⟨t,rfl⟩:=rx; rfl)
theorem jB (b:Expr) {op:CmpOp} (h:op ≠ .In:=by decide) (h2:op ≠ .NotIn:=by decide):behindInMarks op b = false:=by
 have e1:(op == CmpOp.In) = false:=by cases op <;> first | rfl | exact absurd rfl h
 have e2:(op == CmpOp.NotIn) = false:=by cases op <;> first | rfl | exact absurd rfl h2
 cases b <;> simp [behindInMarks,e1,e2]
theorem DG {op:CmpOp} {r:R2} (ho:OpR X (compareOp op) r) (ha:PE X a ta) (hb:PE X b tb) (hm:behindInMarks op b = false):PE X (.Compare a [op] [b] pos) (tOp r ta tb):=by
 intro pins s σ H Q I h
 exact wpAny_Compare1 (Ih ha hb I h fun v u s2 x y H2 I2 rx ry q=>ho pins s2 σ H2 x y v u Q I2 rx ry q) hm
noncomputable def uQ (t:TE):TT:=fun σ H Q=>t σ H fun x H'=>∃ k,x = .bl k /\ Q k H'
theorem Eb {op:CmpOp} {r:R2} (ho:OpR X (compareOp op) r) (ha:PE X a ta) (hb:PE X b tb) (hm:behindInMarks op b = false):PT X (.Compare a [op] [b] pos) (uQ (tOp r ta tb)):=by
 intro pins s σ H Q I h
 refine wpAny_isTrue_Compare1 (thn (ha pins s σ H _ I h) fun v s1 ⟨x,H1,I1,r1,q1⟩=>thn (hb pins s1 σ H1 _ I1 q1) fun u s2 ⟨y,H2,I2,r2,q2⟩=>
  thn (ho pins s2 σ H2 x y v u _ I2 r1 r2 q2) fun c s3 ⟨z,H3,I3,r3,k,e,q3⟩=>?_) hm
 subst e
 cases r3
 exact wpAny_truthy_bool ⟨H3,I3,q3⟩
noncomputable def uG (r r':R2) (ta tb tc:TE):TE:=fun σ H Q=>ta σ H fun x H1=>tb σ H1 fun y H2=>r x y H2 fun z H3=>∃ k,z = .bl k /\
 (if k = true then tc σ H3 fun w' H4=>r' y w' H4 Q else Q (.bl false) H3)
theorem B3 {op op':CmpOp} {r r':R2} (ho:OpR X (compareOp op) r) (ho':OpR X (compareOp op') r') (ha:PE X a ta) (hb:PE X b tb) (hc:PE X c tc)
  (hm:lastMarks [op,op'] [b,c] = false:=by with_unfolding_all rfl):PE X (.Compare a [op,op'] [b,c] pos) (uG r r' ta tb tc):=by
 intro pins s σ H Q I h
 refine Compare_chain (thn (ha pins s σ H _ I h) fun v s1 ⟨x,H1,I1,r1,q1⟩=>chain_link (thn (hb pins s1 σ H1 _ I1 q1) fun u s2 ⟨y,H2,I2,r2,q2⟩=>
  thn (ho pins s2 σ H2 x y v u _ I2 r1 r2 q2) fun d s3 ⟨z,H3,I3,r3,k,e,q3⟩=>?_)) hm
 subst e
 cases r3
 refine wpAny_truthy_bool ?_
 cases k with
 | false=>exact ite_ff ⟨.bl false,H3,I3,rfl,q3⟩
 | true=>exact ite_tt (chain_last (thn (hc pins s3 σ H3 _ I3 q3) fun w' s4 ⟨z',H4,I4,r4,q4⟩=>ho' pins s4 σ H4 y z' u w' Q I4 r2 r4 q4))
theorem C3 {op op':CmpOp} {r r':R2} (ho:OpR X (compareOp op) r) (ho':OpR X (compareOp op') r') (ha:PE X a ta) (hb:PE X b tb) (hc:PE X c tc)
  (hm:lastMarks [op,op'] [b,c] = false:=by with_unfolding_all rfl):PT X (.Compare a [op,op'] [b,c] pos) (uQ (uG r r' ta tb tc)):=by
 intro pins s σ H Q I h
 refine isTrue_chain (thn (ha pins s σ H _ I h) fun v s1 ⟨x,H1,I1,r1,q1⟩=>test_link (thn (hb pins s1 σ H1 _ I1 q1) fun u s2 ⟨y,H2,I2,r2,q2⟩=>
  thn (ho pins s2 σ H2 x y v u _ I2 r1 r2 q2) fun d s3 ⟨z,H3,I3,r3,k,e,q3⟩=>?_)) hm
 subst e
 cases r3
 refine wpAny_truthy_bool ?_
 cases k with
 | false=>
   obtain ⟨k',e',q'⟩:=q3
   cases e'
   exact ite_ff ⟨H3,I3,q'⟩
 | true=>
   refine ite_tt (test_last (thn (hc pins s3 σ H3 _ I3 q3) fun w' s4 ⟨z',H4,I4,r4,q4⟩=>thn (ho' pins s4 σ H4 y z' u w' _ I4 r2 r4 q4) fun d' s5 ⟨z2,H5,I5,r5,k2,e2,q5⟩=>?_))
   subst e2
   cases r5
   exact wpAny_truthy_bool ⟨H5,I5,q5⟩
noncomputable def y6 (K:PySem.W.Frag) (x:V) (H:Hp) (k:Bool):Prop:=
 match x with
 | .non=>k = false
 | .bl b=>k = b
 | .int i=>k = (i != 0)
 | .str y=>y.length <= sizeLine /\ k = ((y.length:Int) != 0)
 | .byt y=>y.size <= sizeLine /\ k = ((y.size:Int) != 0)
 | .ref p=>(∃ xs,SqL K H p xs /\ k = !xs.isEmpty) \/ (∃ xs,SqT K H p xs /\ k = !xs.isEmpty) \/ ∃ kvs,H p = some (.dK kvs) /\ k = !kvs.isEmpty
 | _=>False
theorem yC {κ:Type} {kvs:List (κ × V)} {vs:List (κ × Value)} (r:KV kvs vs):(!vs.isEmpty) = !kvs.isEmpty:=by
 cases r <;> rfl
theorem uA {xs:List V} {its:List Value} (r:Vals xs its):(!its.toArray.isEmpty) = !xs.isEmpty:=by
 cases r <;> simp
theorem uf:(sizeLine:Nat) < 2 ^ 63:=by rw [sizeLine_eq]; decide
theorem HB:Lc X (fun x H Q=>∃ k,y6 X.K x H k /\ Q k H):=by
 intro pins s σ H x v Q I rx h
 obtain ⟨k,e,q⟩:=h
 have hl:=uf
 have hs:sizeLine = 16777216:=sizeLine_eq
 cases x with
 | non=>
   cases rx
   have e':k = false:=e
   subst e'
   exact truthy_none ⟨H,I,q⟩
 | bl b=>
   cases rx
   have e':k = b:=e
   subst e'
   exact wpAny_truthy_bool ⟨H,I,q⟩
 | int i=>
   obtain ⟨t,rfl⟩:=rx
   have e':k = (i != 0):=e
   subst e'
   exact PySem.P.truthy_int ⟨H,I,q⟩
 | str y=>
   obtain ⟨t,rfl⟩:=rx
   obtain ⟨hy,e'⟩:y.length <= sizeLine /\ k = ((y.length:Int) != 0):=e
   subst e'
   exact PySem.P.truthy_str (by omega) ⟨H,I.tok _,q⟩
 | byt y=>
   obtain ⟨t,rfl⟩:=rx
   obtain ⟨hy,e'⟩:y.size <= sizeLine /\ k = ((y.size:Int) != 0):=e
   subst e'
   exact PySem.W.truthy_bytes (by omega) ⟨H,I.tok _,q⟩
 | ref p=>
   cases rx
   have e':(∃ xs,SqL X.K H p xs /\ k = !xs.isEmpty) \/ (∃ xs,SqT X.K H p xs /\ k = !xs.isEmpty) \/ ∃ kvs,H p = some (.dK kvs) /\ k = !kvs.isEmpty:=e
   rcases e' with ⟨xs,hx,e'⟩ | ⟨xs,hx,e'⟩ | ⟨kvs,hx,e'⟩
   . subst e'
     obtain ⟨its,r,pl,hz⟩:=I.list hx
     have hlen:=r.length
     exact wpAny_truthy_list pl.isList (by simp only [List.size_toArray]; omega) ⟨H,I.tok _,by rw [uA r]; exact q⟩
   . subst e'
     obtain ⟨its,r,pl,hz⟩:=I.tuple hx
     have hlen:=r.length
     exact truthy_tuple pl (by simp only [List.size_toArray]; omega) ⟨H,I.tok _,by rw [uA r]; exact q⟩
   . subst e'
     obtain ⟨hz,hS,vs,r,m⟩:kvs.length <= sizeLine /\ (p == sysModules) = false /\ ∃ vs,KV kvs vs /\ s.heap.DictOf (fX X.prog X.w) p vs:=I.hok p _ hx
     have hlen:kvs.length = vs.length:=Paired.length r
     exact wpAny_truthy_dict hS m (by omega) ⟨H,I.tok _,by rw [yC r]; exact q⟩
 | _=>exact (show False from e).elim
theorem BH (ha:PE X a ta) (he:∀ whole,isTrue a X.env whole = (do let v <- whole; standAt a.pos; holding [v] (truthy v))):
  PT X a (fun σ H Q=>ta σ H fun x H'=>∃ k,y6 X.K x H' k /\ Q k H'):=by
 intro pins s σ H Q I h
 exact isTrue_plain (thn (ha pins s σ H _ I h) fun v s1 ⟨x,H1,I1,r1,q1⟩=>HB pins s1 σ H1 x v Q I1 r1 q1) (he _)
theorem vals1 {x:V} {us:List Value} (r:Vals [x] us):∃ u,us = [u] /\ RelV x u:=by
 cases r with
 | cons r1 r2=>cases r2; exact ⟨_,rfl,r1⟩
theorem uX:mx X (.type "int") (fun xs H Q=>(∃ i,xs = [.int i] /\ Q (.int i) H) \/ ∃ k,xs = [.bl k] /\ Q (.int (if k then 1 else 0)) H):=by
 intro pins s σ H xs us Q I r h
 rcases h with ⟨i,rfl,q⟩ | ⟨k,rfl,q⟩
 . obtain ⟨u,rfl,t,rfl⟩:=vals1 r
   exact call_int_int ⟨.int i,H,I,⟨_,rfl⟩,q⟩
 . obtain ⟨u,rfl,r1⟩:=vals1 r
   cases r1
   exact call_int_bool ⟨.int (if k then 1 else 0),H,I.tok _,⟨_,rfl⟩,q⟩
theorem qE:mx X (.type "str") (fun xs H Q=>∃ i,xs = [.int i] /\ i.natAbs.log2 < 1920 /\ Q (.str (toString i)) H):=by
 intro pins s σ H xs us Q I r h
 obtain ⟨i,rfl,hz,q⟩:=h
 obtain ⟨u,rfl,t,rfl⟩:=vals1 r
 exact PySem.P.str_of_int hz ⟨.str _,H,I.tok _,⟨_,rfl⟩,q⟩
theorem Cm:mx X (.builtin "ord") (fun xs H Q=>∃ x,xs = [.str x] /\ x.length = 1 /\ Q (.int (x.cps.getD 0 0:Nat)) H):=by
 intro pins s σ H xs us Q I r h
 obtain ⟨x,rfl,hz,q⟩:=h
 obtain ⟨u,rfl,t,rfl⟩:=vals1 r
 exact ord_of_one hz ⟨.int _,H,I.tok _,⟨_,rfl⟩,q⟩
end
end L2
namespace L2
open PySem PySem.Spec PyProof.Rows
structure yT (h:Heap) (x dx C:Addr) (mA:Str -> Option Value):Prop where
 obj:h.get? x = some (PySem.W.instObj C dx)
 ns:h.Ns1 dx mA
 ne:dx ≠ x
theorem AU {h:Heap} {dx:Addr} {mA:Str -> Option Value} (n:h.Ns1 dx mA):∃ od,h.get? dx = some od /\ ∀ name,PySem.W.lookIn name od = some (mA name):=by
 obtain ⟨o,es,ep,ho,hd,hk,_,hm⟩:=n
 refine ⟨o,ho,fun name=>?_⟩
 have e:=hm name
 unfold nsFind findBy at e
 rw [<- Array.find?_toList] at e
 unfold PySem.W.lookIn
 rw [hd]
 dsimp only
 split
 . rename_i y q
   rw [q] at e
   exact congrArg some e
 . rename_i q
   rw [q] at e
   have a:es.toList.any (·.refKey) = false:=by
    rw [List.any_eq_false]
    intro y hy
    obtain ⟨z,t,hkey⟩:=hk y (Array.mem_toList_iff.mp hy)
    simp [DictEntry.refKey,hkey]
   have a':¬ es.toList.any (·.refKey) = true:=by rw [a]; exact Bool.false_ne_true
   rw [if_neg a']
   exact congrArg some e
theorem yT.look {h:Heap} {x dx C:Addr} {mA:Str -> Option Value} (I:yT h x dx C mA):∃ od,PySem.W.InstAt h x (PySem.W.instObj C dx) C (some od) /\ ∀ name,PySem.W.lookIn name od = some (mA name):=
 let ⟨od,ho,hl⟩:=AU I.ns
 ⟨od,⟨I.obj,rfl,rfl,ho⟩,hl⟩
section
variable {prog:Program} {w:World} {A:Around} {E:Value -> Shared -> Prop} {s:Shared} {K:PySem.W.Frag} {x dx C f:Addr} {mA:Str -> Option Value} {name:Str} {v:Value}
theorem get_map {expr:Bool} {Q:Value -> Shared -> Prop} (X:K.In s.heap) (I:yT s.heap x dx C mA) (hg:PySem.W.plainGet K C name = true) (hh:PySem.W.hasDictIn K C = true)
  (ha:PySem.W.findIn K (.ref C) name = some none) (hv:mA name = some v) (hv':PySem.W.handedIn v = true) (h:Q v { s with toks:=s.toks + 1 }):
  wpAny (model prog w) A (getAttr (.ref x) name expr) Q E s:=by
 obtain ⟨od,J,hl⟩:=I.look
 exact PySem.W.get_value X J (PySem.W.plainGet_of hg).1 (PySem.W.findObj_own hh ha rfl (by rw [hl,hv])) hv' h
theorem DF {pl:Sem Bool} {Q:Value × List Value -> Shared -> Prop} (X:K.In s.heap) (I:yT s.heap x dx C mA) (hg:PySem.W.plainGet K C name = true)
  (hf:PySem.W.findIn K (.ref C) name = some (some (.ref f))) (ht:PySem.W.isFn K (.ref f) = true) (hv:mA name = none) (h:Q (.ref f,[.ref x]) s):
  wpAny (model prog w) A (getMethod (.ref x) name pl) Q E s:=by
 obtain ⟨od,J,hl⟩:=I.look
 exact PySem.W.method_fn X J (PySem.W.plainGet_of hg).1 (PySem.W.plainGet_of hg).2 hf (beq_iff_eq.mp ht) (by show (PySem.W.lookIn name od).map (·.isSome) = some false; rw [hl,hv]; rfl) h
theorem EK {ns:List Str} {Q:Unit -> Shared -> Prop} (X:K.In s.heap) (I:yT s.heap x dx C mA)
  (hs:PySem.W.findIn K (.ref C) "__setattr__" = some (some (.builtin "object.__setattr__"))) (hp:PySem.W.plainOver K C = true) (ht:PySem.W.takerIn K C name = some none) (hh:PySem.W.hasDictIn K C = true)
  (hw:PySem.Within mA ns) (hsz:ns.length <= sizeLine)
  (h:∀ h',yT h' x dx C (fun y=>if y = name then some v else mA y) -> Heap.SameBut dx s.heap h' -> Q () { s with heap:=h',toks:=s.toks + 2 }):
  wpAny (model prog w) A (setAttr (.ref x) name v) Q E s:=by
 obtain ⟨od,J,hl⟩:=I.look
 refine PySem.W.set_plain X J hs (PySem.W.osa_open (s:={ s with toks:=s.toks + 1 }) (r:=none) X J hp ht fun b=>?_)
 obtain ⟨cd,hc,hd'⟩:=PySem.W.any_some hh
 have hx:s.heap.get? x = some ⟨.ref C,some dx,.plain,#[]⟩:=I.obj
 refine wpAny_bind (wpAny_pure (wpAny_bind (wpAny_bind (wpAny_loadPart hx (wpAny_bind (PySem.W.Looks.here (s:={ s with toks:=s.toks + 1 }) (PySem.W.looks_clsIn X hc) ?_))))))
 rw [hd']
 refine wpAny_pure (a:=some dx) (wpAny_bind (wpAny_pure (wpAny_bind ?_)))
 refine wpAny_nsSet1 (s:={ s with toks:=s.toks + 1 }) I.ns fun h' hn2 hs2=>?_
 obtain ⟨oD,esD,epD,hoD,hdD,hcD⟩:=hn2.count (PySem.Within.cons name v hw)
 refine wpAny_bind (wpAny_lookBehind hoD (by rw [hdD]; exact pastItsLine_dict (Nat.le_trans hcD (by rw [List.length_cons]; omega))) ?_)
 exact wpAny_pure (h _ ⟨(hs2.2 _ (Ne.symm I.ne)).trans I.obj,hn2,I.ne⟩ hs2)
theorem BZ {R:Result -> Shared -> Prop} {vs:List Value} {kw:List (Str × Value)} (X:K.In s.heap) (hm:PySem.W.makesIn K C = true)
  (hi:PySem.W.findIn K (.ref C) "__init__" = some (some (.ref f))) (hf:PySem.W.typeIn K (.ref f) = some (.type "function"))
  (h:codeAny (model prog w) (A.under (.builtin "type.__call__" ⟨.ref C ::vs,kw⟩)) (.call (.ref f) ⟨.ref (s.heap.objs.size + 1) ::vs,kw⟩) (PySem.W.InitBack (s.heap.objs.size + 1) R)
    { s with heap:=(s.heap.push PySem.W.emptyDict).push (PySem.W.instObj C s.heap.objs.size) }):
  codeAny (model prog w) A (.call (.ref C) ⟨vs,kw⟩) R s:=by
 obtain ⟨hh,g,d,t,os⟩:=s
 exact PySem.W.make_core (PySem.W.makes_of X hm) (PySem.W.looks_findIn X hi) (fun self=>PySem.W.bind_fn X self hf) (.inl rfl) h
end
noncomputable def j6 (f:Str) (v:V):List (Str × V) -> List (Str × V)
 | []=>[(f,v)]
 | (g,x) ::r=>if g = f then (g,v) ::r else (g,x) ::j6 f v r
theorem sf (f g:Str) (v:V):∀ fs:List (Str × V),(j6 f v fs).lookup g = if g = f then some v else fs.lookup g
 | []=>by
   show List.lookup g [(f,v)] = _
   by_cases h:g = f
   . have hb:(g == f) = true:=beq_iff_eq.mpr h
     simp only [List.lookup,hb,if_pos h]
   . have hb:(g == f) = false:=beq_eq_false_iff_ne.mpr h
     simp only [List.lookup,hb,if_neg h]
 | (k,x) ::r=>by
   have ih:=sf f g v r
   rw [show j6 f v ((k,x) ::r) = (if k = f then (k,v) ::r else (k,x) ::j6 f v r) from rfl]
   by_cases hk:k = f
   . rw [if_pos hk]
     by_cases h:g = k
     . have hb:(g == k) = true:=beq_iff_eq.mpr h
       simp only [List.lookup,hb,if_pos (h.trans hk)]
     . have hb:(g == k) = false:=beq_eq_false_iff_ne.mpr h
       simp only [List.lookup,hb,if_neg (fun e:g = f=>h (e.trans hk.symm))]
   . rw [if_neg hk]
     by_cases h:g = k
     . have hb:(g == k) = true:=beq_iff_eq.mpr h
       simp only [List.lookup,hb,if_neg (fun e:g = f=>hk (h.symm.trans e))]
     . have hb:(g == k) = false:=beq_eq_false_iff_ne.mpr h
       simp only [List.lookup,hb]
       exact ih
theorem rO (f:Str) (v:V):∀ fs:List (Str × V),f ∈ (j6 f v fs).map (·.1) /\ ∀ g,g ∈ fs.map (·.1) -> g ∈ (j6 f v fs).map (·.1)
 | []=>⟨by simp [j6],fun g h=>by simp at h⟩
 | (k,x) ::r=>by
   obtain ⟨i1,i2⟩:=rO f v r
   rw [show j6 f v ((k,x) ::r) = (if k = f then (k,v) ::r else (k,x) ::j6 f v r) from rfl]
   by_cases hk:k = f
   . rw [if_pos hk]
     subst hk
     exact ⟨by simp,fun g h=>by simpa using h⟩
   . rw [if_neg hk]
     refine ⟨?_,fun g h=>?_⟩
     . rw [List.map_cons]
       exact List.mem_cons_of_mem _ i1
     . rw [List.map_cons] at h ⊢
       rcases List.mem_cons.mp h with e | e
       . exact List.mem_cons.mpr (.inl e)
       . exact List.mem_cons_of_mem _ (i2 g e)
theorem sk (f:Str) (v:V):∀ fs:List (Str × V),(j6 f v fs).length <= fs.length + 1
 | []=>by simp [j6]
 | (k,x) ::r=>by
   have ih:=sk f v r
   rw [show j6 f v ((k,x) ::r) = (if k = f then (k,v) ::r else (k,x) ::j6 f v r) from rfl]
   by_cases hk:k = f
   . rw [if_pos hk,List.length_cons,List.length_cons]; omega
   . rw [if_neg hk,List.length_cons,List.length_cons]; omega
theorem br.some_of {v:V} {o:Option Value} (r:br (some v) o):∃ u,o = some u /\ RelV v u:=by
 cases o with
 | none=>exact (show False from r).elim
 | some u=>exact ⟨u,rfl,r⟩
theorem br.none_of {o:Option Value} (r:br none o):o = none:=by
 cases o with
 | none=>rfl
 | some u=>exact (show False from r).elim
theorem AK {v:V} {u:Value} (r:RelV v u):PySem.W.handedIn u = true:=by
 cases v with
 | non=>cases (show u = Value.none from r); rfl
 | bl b=>cases (show u = Value.bool b from r); rfl
 | int i=>obtain ⟨t,e⟩:=(show ∃ t,u = Value.int i t from r); cases e; rfl
 | str x=>obtain ⟨t,e⟩:=(show ∃ t,u = Value.str x t from r); cases e; rfl
 | byt b=>obtain ⟨t,e⟩:=(show ∃ t,u = Value.bytes b t from r); cases e; rfl
 | flt b=>obtain ⟨t,e⟩:=(show ∃ t,u = Value.float b t from r); cases e; rfl
 | ref a=>cases (show u = Value.ref a from r); rfl
 | ty n=>cases (show u = Value.type n from r); rfl
section
variable {P:Program} {w:World} {H H':Hp} {h h':Heap} {a C dx:Addr} {fs fs':List (Str × V)}
theorem vB (hok:HOk P w H h) (e:H a = some (.ins C dx fs)):∃ mA,yT h a dx C mA /\ (∀ f,br (fs.lookup f) (mA f)) /\ PySem.Within mA (fs.map (·.1)) /\ fs.length <= 1000 /\ H dx = some (.own a):=by
 obtain ⟨d,z,ne,ob,mA,n,r,q⟩:=(show gc P w H h a (.ins C dx fs) from hok a _ e)
 exact ⟨mA,⟨ob,n,ne⟩,r,q,z,d⟩
end
structure Cls (K:PySem.W.Frag) (C:Addr):Prop where
 pg:PySem.W.plainGet K C Str.empty = true
 hd:PySem.W.hasDictIn K C = true
 po:PySem.W.plainOver K C = true
 sa:PySem.W.findIn K (.ref C) "__setattr__" = some (some (.builtin "object.__setattr__"))
theorem Cls.get {K:PySem.W.Frag} {C:Addr} (c:Cls K C) (f:Str):PySem.W.plainGet K C f = true:=c.pg
noncomputable def lY (K:PySem.W.Frag) (C:Addr) (f:Str):Prop:=PySem.W.findIn K (.ref C) f = some none
theorem lY.JM {K:PySem.W.Frag} {C:Addr} {f:Str} (n:lY K C f):PySem.W.takerIn K C f = some none:=by
 unfold PySem.W.takerIn
 rw [show PySem.W.findIn K (.ref C) f = some none from n]
 rfl
structure Meth (K:PySem.W.Frag) (C:Addr) (m:Str) (f:Addr):Prop where
 at_:PySem.W.findIn K (.ref C) m = some (some (.ref f))
 fn:PySem.W.isFn K (.ref f) = true
 kp:PySem.W.keepIn K (.ref f) = true
section
variable {X:Cx} {pins:List (Addr × Obj)} {σ:St} {H:Hp} {s:Shared} {a C dx:Addr} {fs:List (Str × V)} {f:Str} {v:V} {A:Around} {E:Value -> Shared -> Prop}
theorem yX {b:Bool} {Q:Value -> Shared -> Prop} (I:Inv X pins σ H s) (e:H a = some (.ins C dx fs)) (c:Cls X.K C) (n:lY X.K C f) (l:fs.lookup f = some v)
  (h:∀ u s',Inv X pins σ H s' -> RelV v u -> Q u s'):wpAny (model X.prog X.w) A (getAttr (.ref a) f b) Q E s:=by
 obtain ⟨mA,O,r,_,_,_⟩:=vB I.hok e
 obtain ⟨u,hu,ru⟩:=br.some_of (v:=v) (o:=mA f) (by rw [<- l]; exact r f)
 exact get_map I.kIn O (c.get f) c.hd n hu (AK ru) (h u _ (I.tok _) ru)
theorem uH {m:Str} {g:Addr} {pl:Sem Bool} {Q:Value × List Value -> Shared -> Prop} (I:Inv X pins σ H s) (e:H a = some (.ins C dx fs)) (c:Cls X.K C) (k:Meth X.K C m g) (l:fs.lookup m = none)
  (h:Q (.ref g,[.ref a]) s):wpAny (model X.prog X.w) A (getMethod (.ref a) m pl) Q E s:=by
 obtain ⟨mA,O,r,_,_,_⟩:=vB I.hok e
 have hn:mA m = none:=br.none_of (by rw [<- l]; exact r m)
 exact DF I.kIn O (c.get m) k.at_ k.fn hn h
theorem zh {y:V} {u:Value} {Q:Unit -> Shared -> Prop} (I:Inv X pins σ H s) (e:H a = some (.ins C dx fs)) (c:Cls X.K C) (n:lY X.K C f) (hl:fs.length < 1000) (ry:RelV y u)
  (h:∀ s',Inv X pins σ (upd H a (.ins C dx (j6 f y fs))) s' -> Q () s'):wpAny (model X.prog X.w) A (setAttr (.ref a) f u) Q E s:=by
 obtain ⟨mA,O,r,wi,_,ho⟩:=vB I.hok e
 have hz:(fs.map (·.1)).length <= sizeLine:=by rw [List.length_map,sizeLine_eq]; omega
 refine EK I.kIn O c.sa c.po n.JM c.hd wi hz fun h' O' sb=>h _ ?_
 have hd:∃ o,h'.get? dx = some o:=let ⟨o,_,_,e',_⟩:=O'.ns; ⟨o,e'⟩
 refine I.write (x:=a) (e:=dx) (by rw [e]; exact True.intro) (.inr ho) (fun b q hb z=>(sb.2 b hb).trans z) hd ?_
 refine ⟨by rw [bJ O.ne]; exact ho,?_,O.ne,O'.obj,_,O'.ns,fun g=>?_,fun g hg=>?_⟩
 . have:=sk f y fs; omega
 . show br ((j6 f y fs).lookup g) (if g = f then some u else mA g)
   rw [sf]
   by_cases q:g = f
   . rw [if_pos q,if_pos q]; exact ry
   . rw [if_neg q,if_neg q]; exact r g
 . by_cases q:g = f
   . rw [q]; exact (rO f y fs).1
   . refine (rO f y fs).2 g (wi g fun z=>hg ?_)
     show (if g = f then some u else mA g) = none
     rw [if_neg q]; exact z
theorem Inv.made (I:Inv X pins σ H s):Inv X pins σ (upd (upd H s.heap.objs.size (.own (s.heap.objs.size + 1))) (s.heap.objs.size + 1) (.ins C s.heap.objs.size []))
  { s with heap:=(s.heap.push PySem.W.emptyDict).push (PySem.W.instObj C s.heap.objs.size) }:=by
 have e1:(s.heap.push PySem.W.emptyDict).get? s.heap.objs.size = some PySem.W.emptyDict:=Heap.get?_push_size s.heap rfl
 have e2:((s.heap.push PySem.W.emptyDict).push (PySem.W.instObj C s.heap.objs.size)).get? (s.heap.objs.size + 1) = some (PySem.W.instObj C s.heap.objs.size):=by
  have:=Heap.get?_push_size (s.heap.push PySem.W.emptyDict) (o:=PySem.W.instObj C s.heap.objs.size) rfl
  rwa [Heap.size_push] at this
 have e3:(s.heap.push PySem.W.emptyDict).Ns s.heap.objs.size (fun _=>none):=⟨PySem.W.emptyDict,#[],_,e1,rfl,(fun e he=>absurd he (by simp)),fun _=>rfl⟩
 have I1:=I.laid (a:=s.heap.objs.size) (o:=.own (s.heap.objs.size + 1)) (h':=s.heap.push PySem.W.emptyDict) (t':=s.toks) (fun b u q=>Heap.get?_push_of_some _ q) (Nat.le_refl _) ⟨_,e1⟩
 refine I1.laid (a:=s.heap.objs.size + 1) (o:=.ins C s.heap.objs.size []) (t':=s.toks) (fun b u q=>Heap.get?_push_of_some _ q) (Nat.le_of_eq (Heap.size_push _ _)) ?_
 have ne:s.heap.objs.size ≠ s.heap.objs.size + 1:=Nat.ne_of_lt (Nat.lt_succ_self _)
 refine ⟨by rw [bJ ne,bD],Nat.zero_le _,ne,e2,fun _=>none,(Heap.Ns1.of_empty e3).at fun o q=>Heap.get?_push_of_some _ q,fun _=>True.intro,fun y hy=>absurd rfl hy⟩
theorem ES {prog:Program} {w:World} {env:Env} {e:Expr} {f:Str} {pos:Pos} {s:Shared} {Q:Value -> Shared -> Prop} (hb:attributeBase e f env (eval e env) = eval e env)
  (h:wpAny (model prog w) A (eval e env) (fun o s₁=>wpAny (model prog w) A (getAttr o f true) Q E s₁) E s):wpAny (model prog w) A (eval (.Attribute e f pos) env) Q E s:=
 Attribute_any_ h (by rw [arm_eval_Attribute,hb])
end
noncomputable def Hk (K:PySem.W.Frag) (ta:TE) (f:Str):TE:=fun σ H Q=>ta σ H fun x H1=>∃ a C dx fs v,x = .ref a /\ H1 a = some (.ins C dx fs) /\ Cls K C /\ lY K C f /\ fs.lookup f = some v /\ Q v H1
noncomputable def GU (K:PySem.W.Frag) (ta tv:TE) (f:Str):TS:=fun D σ H=>tv σ H fun y H1=>ta σ H1 fun x H2=>∃ a C dx fs,x = .ref a /\ H2 a = some (.ins C dx fs) /\ Cls K C /\ lY K C f /\ fs.length < 1000 /\
 D.nx σ (upd H2 a (.ins C dx (j6 f y fs)))
section
variable {X:Cx} {o e value:Expr} {f:Str} {pos pos' tpos:Pos} {ta tv:TE}
theorem IE (he:PE X e ta) (hb:attributeBase e f X.env (eval e X.env) = eval e X.env):PE X (.Attribute e f pos) (Hk X.K ta f):=by
 intro pins s σ H Q I h
 refine ES hb (thn (he pins s σ H _ I h) fun u s1 ⟨x,H1,I1,rx,a,C,dx,fs,v,ex,ea,c,n,l,q⟩=>?_)
 subst ex
 obtain rfl:u = Value.ref a:=rx
 exact yX I1 ea c n l fun u' s2 I2 ru=>⟨v,H1,I2,ru,q⟩
theorem IP (ha:PE X o ta) (hv:PE X value tv) (hs:swapsWith value (some (.Attribute o f pos')) pos.line X.env = pure false):PS X (.Assign [.Attribute o f pos'] value pos) (GU X.K ta tv f):=by
 intro pins s σ H D I h
 refine plainObj_wpAny_Assign_Attribute (thn (hv pins s σ H _ I h) fun u s1 ⟨y,H1,I1,ry,q⟩=>thn (ha pins s1 σ H1 _ I1 q) fun ov s2 ⟨x,H2,I2,rx,a,C,dx,fs,ex,ea,c,n,l,q2⟩=>?_) hs
 subst ex
 obtain rfl:ov = Value.ref a:=rx
 exact zh I2 ea c n l ry fun s3 I3=>⟨σ,_,I3,q2⟩
end
end L2
namespace L2
open PySem PySem.Spec PyProof.Rows
structure ie (k:Nat) (A:Around):Prop where
 hd:A.handled = none
 dp:A.depth + 3 * k + 5 < recursionLimit
 un:A.units + 16 * k + 200 < cLine
theorem ie.mono {j k:Nat} {A:Around} (r:ie k A) (h:j <= k):ie j A:=⟨r.hd,by have:=r.dp; omega,by have:=r.un; omega⟩
theorem ie.deeper {k:Nat} {A:Around} (r:ie (k + 1) A) (env:Env):ie k (A.deeper env):=
 ⟨r.hd,by have:=r.dp; show A.depth + 1 + 3 * k + 5 < _; omega,by have:=r.un; show A.units + 3 + 16 * k + 200 < _; omega⟩
theorem yF {A:Around} {C:Addr} {us:List Value} {kw:List (Str × Value)}:(A.under (.builtin "type.__call__" ⟨.ref C ::us,kw⟩)).depth = A.depth + 1:=by
 first | rfl | simp [Around.under,Code.weight,Code.isCreation,Code.isGuard,Code.isCaller,Code.frames,Code.isFrame,guardIds]
theorem y2 {A:Around} {C:Addr} {us:List Value} {kw:List (Str × Value)}:(A.under (.builtin "type.__call__" ⟨.ref C ::us,kw⟩)).units = A.units + 1:=by
 first | rfl | simp [Around.under,Code.cUnits,Code.frames,Code.isFrame]
theorem ie.make {k:Nat} {A:Around} (r:ie (k + 1) A) (C:Addr) (us:List Value) (kw:List (Str × Value)):ie k (A.under (.builtin "type.__call__" ⟨.ref C ::us,kw⟩)):=
 ⟨r.hd,by have:=r.dp; rw [yF]; omega,by have:=r.un; rw [y2]; omega⟩
theorem ie.depth {k:Nat} {A:Around} (r:ie k A):A.depth < recursionLimit:=by have:=r.dp; omega
theorem ie.units {k:Nat} {A:Around} (r:ie k A):A.units + 64 < cLine:=by have:=r.un; omega
noncomputable def kD:TA:=fun _ H Q=>Q [] H
noncomputable def jd (ta:TE) (tr:TA):TA:=fun σ H Q=>ta σ H fun x H1=>tr σ H1 fun xs H2=>Q (x ::xs) H2
section
variable {X:Cx} {e:Expr} {es:List Expr} {te:TE} {t:TA} {pos:Pos}
theorem Hf:PA X [] kD:=fun _ _ _ _ H Q I h=>Calls.spliced_nil ⟨[],H,I,.nil,h⟩
theorem E2 (ha:PE X e te) (hr:PA X es t) (hs:starEach (e ::es) X.env = (false,eval e X.env) ::starEach es X.env:=by rfl):PA X (e ::es) (jd te t):=by
 intro pos pins s σ H Q I h
 rw [hs]
 show wpAny _ _ (spliced ((false,eval e X.env) ::backTo pos (starEach es X.env))) _ _ s
 refine Calls.spliced_cons (thn (ha pins s σ H _ I h) fun u s1 ⟨x,H1,I1,r1,q1⟩=>?_)
 exact thn (hr pos pins s1 σ H1 _ I1 q1) fun us s2 ⟨xs,H2,I2,r2,q2⟩=>⟨x ::xs,H2,I2,.cons r1 r2,q2⟩
noncomputable def Ie (t:TA):TE:=fun σ H Q=>t σ H fun xs H1=>xs.length <= sizeLine /\ ∀ p,H1 p = none -> Q (.ref p) (upd H1 p (.tup xs))
noncomputable def Eo (t:TA):TE:=fun σ H Q=>t σ H fun xs H1=>xs.length <= sizeLine /\ ∀ p,H1 p = none -> Q (.ref p) (upd H1 p (.lst xs))
theorem GL {x1} (h:PA X es t):PE X (.Tuple es x1 pos) (Ie t):=by
 intro pins s σ H Q I hq
 refine wpAny_Tuple_spliced (thn (h pos pins s σ H _ I hq) fun us s1 ⟨xs,H1,I1,r,z,q⟩=>⟨by rw [<- r.length]; exact z,?_⟩)
 have hf:H1 s1.heap.objs.size = none:=I1.hok.fresh (Nat.le_refl _)
 refine ⟨.ref s1.heap.objs.size,upd H1 s1.heap.objs.size (.tup xs),I1.laid (t':=s1.toks) (fun b u e=>Heap.get?_push_of_some _ e) (Nat.le_refl _) ?_,rfl,q _ hf⟩
 exact ⟨z,us,r,⟨_,Heap.get?_push_size _ rfl,rfl,_,rfl⟩⟩
theorem GX (h:PA X es t):PE X (.List es pos) (Eo t):=by
 intro pins s σ H Q I hq
 refine wpAny_List_spliced (thn (h pos pins s σ H _ I hq) fun us s1 ⟨xs,H1,I1,r,z,q⟩=>⟨by rw [<- r.length]; exact z,?_⟩)
 have hf:H1 s1.heap.objs.size = none:=I1.hok.fresh (Nat.le_refl _)
 refine ⟨.ref s1.heap.objs.size,upd H1 s1.heap.objs.size (.lst xs),I1.laid (t':=s1.toks) (fun b u e=>Heap.get?_push_of_some _ e) (Nat.le_refl _) ?_,rfl,q _ hf⟩
 exact ⟨z,us,0,r,Heap.get?_push_size _ rfl⟩
end
abbrev Sp:=List V -> Hp -> VK -> XK -> Prop
abbrev CXT:=List Env -> Hp -> Shared -> XK -> Value -> Shared -> Prop
structure yz (P:Program) (w:World) (K:PySem.W.Frag) (mg:Str -> Option Value) (base:Heap) (A:Around) (outer:List Env) (s:Shared) (H:Hp):Prop where
 frames:A.frames = some outer
 mod:Mod K mg base
 bs:∀ b o,base.get? b = some o -> s.heap.get? b = some o /\ H b = none
 bsz:base.objs.size <= s.heap.objs.size
 uK:s.heap.FunFrames base outer
 frf:∀ b ∈ frs outer,H b = none
 hok:HOk P w H s.heap
 bare:AllBare s.gens
noncomputable def CE (outer:List Env) (P:Program) (w:World) (H:Hp) (s:Shared) (Q:VK) (u:Value) (s':Shared):Prop:=
 ∃ v H',s'.os = s.os /\ AllBare s'.gens /\ Un (frs outer) [] H H' s.heap s'.heap /\ HOk P w H' s'.heap /\ RelV v u /\ Q v H'
noncomputable def CR (CX:CXT) (outer:List Env) (P:Program) (w:World) (H:Hp) (s:Shared) (Q:VK) (E:XK) (r:Result) (s':Shared):Prop:=
 match r with
 | .ok (.ret u)=>CE outer P w H s Q u s'
 | .ok _=>False
 | .error e=>CX outer H s E e s'
structure cB (P:Program) (w:World) (K:PySem.W.Frag) (mg:Str -> Option Value) (base:Heap) (CX:CXT) (k:Nat) (f:Addr) (fd:FuncData) (ps:List Str) (sp:Sp):Prop where
 len:∀ vs H Q E,sp vs H Q E -> vs.length = ps.length
 run:∀ (A:Around) (outer:List Env) (s:Shared) (H:Hp) (args:Args) (us:List Value) (vs:List V) (Q:VK) (E:XK),ie k A -> yz P w K mg base A outer s H -> BindsTo s fd args (ps.zip us) -> Vals vs us -> sp vs H Q E ->
  codeAny (model P w) A (.call (.ref f) args) (CR CX outer P w H s Q E) s
theorem cB.mono {P:Program} {w:World} {K:PySem.W.Frag} {mg:Str -> Option Value} {base:Heap} {CX:CXT} {j k:Nat} {f:Addr} {fd:FuncData} {ps:List Str} {sp:Sp} (F:cB P w K mg base CX j f fd ps sp) (h:j <= k):
  cB P w K mg base CX k f fd ps sp:=⟨F.len,fun A outer s H args us vs Q E hr=>F.run A outer s H args us vs Q E (hr.mono h)⟩
theorem cB.imp {P:Program} {w:World} {K:PySem.W.Frag} {mg:Str -> Option Value} {base:Heap} {CX:CXT} {k:Nat} {f:Addr} {fd:FuncData} {ps:List Str} {sp sp':Sp} (F:cB P w K mg base CX k f fd ps sp)
  (h:∀ vs H Q E,sp' vs H Q E -> sp vs H Q E):cB P w K mg base CX k f fd ps sp':=
 ⟨fun vs H Q E q=>F.len vs H Q E (h _ _ _ _ q),fun A outer s H args us vs Q E hr he hb hv hs=>F.run A outer s H args us vs Q E hr he hb hv (h _ _ _ _ hs)⟩
theorem yz.make {P:Program} {w:World} {K:PySem.W.Frag} {mg:Str -> Option Value} {base:Heap} {A:Around} {outer:List Env} {s:Shared} {H:Hp} (e:yz P w K mg base A outer s H) (C:Addr) (us:List Value) (kw:List (Str × Value)):
  yz P w K mg base (A.under (.builtin "type.__call__" ⟨.ref C ::us,kw⟩)) outer s H:=⟨by first | exact e.frames | (simpa [Around.under,Code.envs,Code.isFrame,pushEnvs] using e.frames),e.mod,e.bs,e.bsz,e.uK,e.frf,e.hok,e.bare⟩
section
variable {X:Cx} {pins:List (Addr × Obj)} {σ:St} {H:Hp} {s s':Shared}
theorem Inv.Kn (I:Inv X pins σ H s):yz X.prog X.w X.K X.mg X.base X.A X.stack s H:=
 ⟨I.ok.frames,I.ok.mod,I.bs,Nat.le_trans I.ok.bsz I.sz,I.stack,I.wF,I.hok,I.bare⟩
theorem Inv.after {Q:VK} {u:Value} (I:Inv X pins σ H s) (h:CE X.stack X.prog X.w H s Q u s'):EP X pins σ Q u s':=by
 obtain ⟨v,H',os,bare,un,hok,r,q⟩:=h
 obtain ⟨hh,g,d,t,os'⟩:=s'
 obtain rfl:os' = s.os:=os
 exact ⟨v,H',I.call (h':=hh) (g':=g) (d':=d) (t':=t) (ch:=[]) un hok bare (fun b z=>absurd z (by simp)),r,q⟩
end
noncomputable def Ce (C:Addr) (sp:Sp) (dvs:List V) (E:XK) (t:TA):TE:=fun σ H Q=>t σ H fun vs H1=>∀ x dx,H1 x = none -> H1 dx = none -> dx ≠ x ->
 sp (.ref x ::(vs ++ dvs)) (upd (upd H1 dx (.own x)) x (.ins C dx [])) (fun v H2=>v = .non /\ Q (.ref x) H2) E
noncomputable def Binds (K:PySem.W.Frag) (fd:FuncData) (ps:List Str) (ds:List Value):Prop:=
 ∀ (s:Shared) (us:List Value),K.In s.heap -> (us ++ ds).length = ps.length -> BindsTo s fd ⟨us,[]⟩ (ps.zip (us ++ ds))
theorem Binds.all {K:PySem.W.Frag} {fd:FuncData} {ps:List Str} (h:∀ us:List Value,us.length = ps.length -> bindArgs fd ⟨us,[]⟩ = pure (ps.zip us)):Binds K fd ps []:=fun s us _ hl=>by
 rw [List.append_nil] at hl ⊢
 exact .of_eq (h us hl)
noncomputable def Passes (CX:CXT) (X:Cx) (E:XK):Prop:=∀ (pins:List (Addr × Obj)) (σ:St) (H:Hp) (s:Shared) (e:Value) (s':Shared),Inv X pins σ H s -> CX X.stack H s E e s' -> X.xe e s'
section
variable {X:Cx} {CX:CXT} {k:Nat} {f C:Addr} {fd:FuncData} {ps:List Str} {sp:Sp} {dvs:List V} {ds:List Value} {E:XK} {x m:Str} {p pos apos:Pos} {e o:Expr} {es:List Expr} {ta:TE} {t:TA}
structure Mk (K:PySem.W.Frag) (C f:Addr):Prop where
 makes:PySem.W.makesIn K C = true
 init:PySem.W.findIn K (.ref C) "__init__" = some (some (.ref f))
 fn:PySem.W.isFn K (.ref f) = true
 kp:PySem.W.keepIn K (.ref C) = true
theorem C5 {pins:List (Addr × Obj)} {σ:St} {H:Hp} {s:Shared} {Q:VK} {us:List Value} {vs:List V} (M:Mk X.K C f) (F:cB X.prog X.w X.K X.mg X.base CX k f fd ps sp) (hr:ie (k + 1) X.A) (hb:Binds X.K fd ps ds) (hd:Vals dvs ds)
  (hx:Passes CX X E) (I:Inv X pins σ H s) (r:Vals vs us)
  (h:∀ x dx,H x = none -> H dx = none -> dx ≠ x -> sp (.ref x ::(vs ++ dvs)) (upd (upd H dx (.own x)) x (.ins C dx [])) (fun v H2=>v = .non /\ Q (.ref x) H2) E):
  wpAny (model X.prog X.w) X.A (call (.ref C) us) (EP X pins σ Q) X.xe s:=by
 have hq:=h (s.heap.objs.size + 1) s.heap.objs.size (I.hok.fresh (Nat.le_succ _)) (I.hok.fresh (Nat.le_refl _)) (Nat.ne_of_lt (Nat.lt_succ_self _))
 have I2:=Inv.made (C:=C) I
 have r2:Vals (V.ref (s.heap.objs.size + 1) ::(vs ++ dvs)) (Value.ref (s.heap.objs.size + 1) ::(us ++ ds)):=.cons rfl (r.append hd)
 have hl:(Value.ref (s.heap.objs.size + 1) ::us ++ ds).length = ps.length:=by
  have e:=r2.length
  rw [F.len _ _ _ _ hq] at e
  exact e.symm
 refine wpAny_call (BZ (f:=f) I.kIn M.makes M.init (beq_iff_eq.mp M.fn) (codeAny_mono (F.run _ X.stack _ _ ⟨Value.ref (s.heap.objs.size + 1) ::us,[]⟩ (Value.ref (s.heap.objs.size + 1) ::(us ++ ds)) _ _ E (hr.make C us [])
  (I2.Kn.make C us []) (hb _ (Value.ref (s.heap.objs.size + 1) ::us) I2.kIn hl) r2 hq) fun r s' hq'=>?_))
 cases r with
 | error e=>exact hx pins σ _ _ e s' I2 hq'
 | ok fl=>
   cases fl with
   | ret u=>
     obtain ⟨v,H',I3,rv,ev,q3⟩:=I2.after hq'
     subst ev
     exact ⟨rv,⟨V.ref (s.heap.objs.size + 1),H',I3,rfl,q3⟩⟩
   | next=>exact False.elim hq'
   | brk=>exact False.elim hq'
   | cont=>exact False.elim hq'
theorem C7 (M:Mk X.K C f) (F:cB X.prog X.w X.K X.mg X.base CX k f fd ps sp) (hr:ie (k + 1) X.A) (hg:Gl X x) (hm:X.mg x = some (.ref C)) (hb:Binds X.K fd ps ds) (hd:Vals dvs ds) (hx:Passes CX X E)
  (hdb:(x == ("__debug__":Str)) = false:=by decide):PE X (.Call (.Name x p) [] [] pos) (Ce C sp dvs E kD):=by
 intro pins s σ H Q I h
 refine wpAny_Call_Name_kw (tq I hg hm ?_ hdb)
 exact PySem.W.callWith_K0 I.kIn M.kp (C5 (us:=[]) M F hr hb hd hx I .nil h)
end
structure aV (N P:List Str) (sc:Scope):Prop where
 kind:sc.kind = .function
 co:sc.isCoroutine = false
 gen:sc.isGenerator = false
 nd:N.Nodup
 pre:N.take P.length = P
 par:∀ x ∈ P,sc.names.lookup x = some .local \/ sc.names.lookup x = some .cell
 nofree:∀ y ∈ sc.names,y.2 ≠ .free
theorem u9 {kindOf:Str -> Option NameKind} {x:Str}:∀ {binds:List (Str × Value)} {m:Str -> Option Value},(∀ v,(x,v) ∉ binds) -> bindL kindOf binds m x = m x
 | [],_,_=>rfl
 | (n,v) ::r,m,h=>by
   unfold bindL
   rw [u9 fun w hw=>h w (List.mem_cons_of_mem _ hw)]
   split
   . have:x ≠ n:=by rintro rfl; exact h v List.mem_cons_self
     simp [this]
   . rfl
theorem vo {kindOf:Str -> Option NameKind} {x:Str}:∀ {binds:List (Str × Value)} {m:Str -> Option Value},(∀ v,(x,v) ∉ binds) -> bindC kindOf binds m x = m x
 | [],_,_=>rfl
 | (n,v) ::r,m,h=>by
   unfold bindC
   rw [vo fun w hw=>h w (List.mem_cons_of_mem _ hw)]
   split
   . rfl
   . have:x ≠ n:=by rintro rfl; exact h v List.mem_cons_self
     simp [this]
theorem uR {kindOf:Str -> Option NameKind} {x:Str} {v:Value}:∀ {P:List Str} {vs:List Value} {i:Nat} {m:Str -> Option Value},P.Nodup -> P[i]? = some x -> vs[i]? = some v -> kindOf x = some .local ->
  bindL kindOf (P.zip vs) m x = some v
 | [],_,_,_,_,h,_,_=>by simp at h
 | _ ::_,[],_,_,_,_,h,_=>by simp at h
 | p ::P,w ::vs,0,m,nd,h1,h2,hk=>by
   simp at h1 h2; subst h1; subst h2
   show bindL kindOf ((p,w) ::P.zip vs) m p = _
   unfold bindL
   rw [u9 fun v hv=>(List.nodup_cons.mp nd).1 (List.of_mem_zip hv).1,if_pos hk]
   simp
 | p ::P,w ::vs,i + 1,m,nd,h1,h2,hk=>by
   show bindL kindOf ((p,w) ::P.zip vs) m x = _
   unfold bindL
   exact uR (i:=i) (List.nodup_cons.mp nd).2 (by simpa using h1) (by simpa using h2) hk
theorem vh {kindOf:Str -> Option NameKind} {x:Str} {v:Value}:∀ {P:List Str} {vs:List Value} {i:Nat} {m:Str -> Option Value},P.Nodup -> P[i]? = some x -> vs[i]? = some v -> kindOf x ≠ some .local ->
  bindC kindOf (P.zip vs) m x = some v
 | [],_,_,_,_,h,_,_=>by simp at h
 | _ ::_,[],_,_,_,_,h,_=>by simp at h
 | p ::P,w ::vs,0,m,nd,h1,h2,hk=>by
   simp at h1 h2; subst h1; subst h2
   show bindC kindOf ((p,w) ::P.zip vs) m p = _
   unfold bindC
   rw [vo fun v hv=>(List.nodup_cons.mp nd).1 (List.of_mem_zip hv).1,if_neg hk]
   simp
 | p ::P,w ::vs,i + 1,m,nd,h1,h2,hk=>by
   show bindC kindOf ((p,w) ::P.zip vs) m x = _
   unfold bindC
   exact vh (i:=i) (List.nodup_cons.mp nd).2 (by simpa using h1) (by simpa using h2) hk
noncomputable def start (N:List Str) (vs:List V):St:=vs.map some ++ List.replicate (N.length - vs.length) none
noncomputable def rA (CX:CXT) (P:Program) (w:World) (K:PySem.W.Frag) (mg:Str -> Option Value) (base:Heap) (N:List Str) (qual:Str) (scope:Scope) (f:Addr) (cd:Value) (A:Around) (outer:List Env) (s:Shared) (H:Hp) (E:XK):Cx where
 prog:=P
 w:=w
 K:=K
 mg:=mg
 base:=base
 A:=A.deeper (envOfC qual scope s.heap.objs.size f cd)
 N:=N
 s₀:=s
 H₀:=H
 env:=envOfC qual scope s.heap.objs.size f cd
 outer:=outer
 stack:=envOfC qual scope s.heap.objs.size f cd ::outer
 ex:=[]
 calm:=true
 fn:=fun _=>true
 pn:=[]
 xe:=fun e s'=>wpAny (model P w) (A.deeper (envOfC qual scope s.heap.objs.size f cd)) (leaving (envOfC qual scope s.heap.objs.size f cd) e) (fun _ s''=>CX outer H s E e s'') (fun e' s''=>CX outer H s E e' s'') s'
theorem yp {sc:Scope} {n:Nat} {x:Str} (h:sc.names.lookup x = some .cell):∃ c,(cellsFrom n sc.names []).lookup x = some c:=by
 have q:=PySem.W.cellsFrom_some sc.names n [] (.inl h)
 exact Option.isSome_iff_exists.mp q
theorem AR {CX:CXT} {P:Program} {w:World} {K:PySem.W.Frag} {mg:Str -> Option Value} {base:Heap} {N ps:List Str} {qual:Str} {scope:Scope} {f:Addr} {cd:Value} {A:Around} {outer:List Env} {s s1:Shared} {H:Hp} {E:XK} {us:List Value} {vs:List V}
  (S:aV N ps scope) (hd:A.handled = none) (e0:yz P w K mg base A outer s H) (hl:vs.length = ps.length) (r:Vals vs us)
  (x:InCallC s s.heap.objs.size (bindL (envOfC qual scope s.heap.objs.size f cd).kindOf (ps.zip us) fun _=>none) (cellsFrom (s.heap.objs.size + 1) scope.names []) (bindC (envOfC qual scope s.heap.objs.size f cd).kindOf (ps.zip us) fun _=>none) s1):
  Inv (rA CX P w K mg base N qual scope f cd A outer s H E) [] (start N vs) H s1:=by
 have hpl:ps.length <= N.length:=by have:=congrArg List.length S.pre; rw [List.length_take] at this; omega
 obtain ⟨h1,tk,rfl,hk⟩:=x.done
 have noA:∀ b:Addr,b ∉ (rA CX P w K mg base N qual scope f cd A outer s H E).ex:=fun b z=>absurd (show b ∈ ([]:List Addr) from z) (by simp)
 refine ⟨⟨e0.mod,S.kind,rfl,rfl,Nat.le_refl _,fun y z c h1 h2=>?_,fun y hy=>?_,fun y c _ h=>?_,fun _=>hd,Around.frames_deeper e0.frames,.inr ⟨rfl,rfl⟩,fun b z=>absurd z (noA b),e0.bs,e0.bsz,fun b _ _=>noA b,fun b z=>absurd z (noA b),e0.uK,e0.frf⟩,
  rfl,e0.bare,Un.kept hk,⟨_,x.toInCall.ns,fun i y v h1 h2 h3=>?_⟩,fun y c h=>⟨_,x.cell y c h⟩,e0.hok.fresh (Nat.le_refl _),fun y c h=>?_,fun p hp=>absurd (show p ∈ ([]:List (Addr × Obj)) from hp) (by simp),e0.hok.kept hk,?_⟩
 . exact name_of_addr x.apart (PySem.mem_of_lookup h1) (PySem.mem_of_lookup h2)
 . have hy:scope.names.lookup y = some .cell \/ scope.names.lookup y = some .free:=hy
   rcases hy with hy | hy
   . exact yp hy
   . exact absurd rfl (S.nofree _ (PySem.mem_of_lookup hy))
 . exact Nat.le_of_lt (x.above y c (PySem.mem_of_lookup h))
 . have hi:i < vs.length:=by
    unfold start at h2
    by_cases hi:i < vs.length
    . exact hi
    . rw [List.getElem?_append_right (by simpa using hi)] at h2
      rw [List.getElem?_replicate] at h2
      split at h2 <;> cases h2
   have ha:vs[i]? = some v:=by
    unfold start at h2
    rw [List.getElem?_append_left (by simpa using hi),List.getElem?_map] at h2
    cases e:vs[i]? with
    | none=>rw [e] at h2; cases h2
    | some a=>rw [e] at h2; cases h2; rfl
   obtain ⟨u,hu,rv⟩:=r.get ha
   have hp:ps[i]? = some y:=by
    rw [<- S.pre,List.getElem?_take_of_lt (by omega)]; exact h1
   have ndP:ps.Nodup:=by rw [<- S.pre]; exact S.nd.sublist (List.take_sublist _ _)
   refine ⟨u,rv,?_⟩
   rcases S.par y (List.mem_of_getElem? hp) with k | k
   . exact .inl ⟨k,uR ndP hp hu k⟩
   . obtain ⟨c,e⟩:=yp (n:=s.heap.objs.size + 1) k
     refine .inr ⟨.inl k,c,e,?_⟩
     have q:=x.cell y c e
     rw [vh ndP hp hu (by show scope.names.lookup y ≠ _; rw [k]; decide)] at q
     exact q
 . exact e0.hok.fresh (Nat.le_of_lt (x.above y c (PySem.mem_of_lookup h)))
 . unfold start
   show _ = N.length
   rw [List.length_append,List.length_map,List.length_replicate]
   omega
theorem Ka {CX:CXT} {P:Program} {w:World} {K:PySem.W.Frag} {mg:Str -> Option Value} {base:Heap} {k:Nat} {f:Addr} {name qual:Str} {params:Arguments} {body:List Stmt} {scope:Scope} {dV kV doc pm cdv ct oc:Value} {an od:Option Addr}
  {osl:Array (Option Value)} {N ps:List Str} {sp:Sp} (lk:K.lookup f = some ⟨oc,od,.func (PySem.W.fnOf name qual params body scope dV kV doc pm an cdv ct),osl⟩) (hcd:PySem.W.codeIn K cdv qual = true) (S:aV N ps scope)
  (len:∀ vs H Q E,sp vs H Q E -> vs.length = ps.length)
  (hbody:∀ (A:Around) (outer:List Env) (s:Shared) (H:Hp) (vs:List V) (Q:VK) (E:XK),ie k (A.deeper (envOfC qual scope s.heap.objs.size f cdv)) -> sp vs H Q E ->
    ∃ t,PSs (rA CX P w K mg base N qual scope f cdv A outer s H E) body t /\ t { nx:=fun _ H'=>Q .non H',rt:=Q } (start N vs) H):
  cB P w K mg base CX (k + 1) f (PySem.W.fnOf name qual params body scope dV kV doc pm an cdv ct) ps sp:=by
 refine ⟨len,fun A outer s H args us vs Q E hr e0 hb r hsp=>?_⟩
 have hl:=len _ _ _ _ hsp
 have KX:K.In s.heap:=e0.mod.kin.keeps fun b o e=>(e0.bs b o e).1
 have lim:s.heap.NoLimit:=e0.mod.nolimit.keeps fun b o e=>(e0.bs b o e).1
 have hkind:∀ y ∈ ps.zip us,scope.names.lookup y.1 = some .local \/ (scope.names.lookup y.1 = some .cell /\ ((cellsFrom (s.heap.objs.size + 1) scope.names []).lookup y.1).isSome = true):=fun ⟨n,v⟩ hy=>by
  rcases S.par n (List.of_mem_zip hy).1 with q | q
  . exact .inl q
  . exact .inr ⟨q,PySem.W.cellsFrom_some _ _ _ (.inl q)⟩
 refine codeAny_call_function hr.depth (KX _ _ lk) rfl S.co S.gen rfl (PySem.W.codeRec_of KX hcd) (hb _ _ _ _ ?_)
 refine wpAny_newFunctionEnv_cells S.kind hkind fun env he s1 x=>?_
 subst he
 refine ⟨lim.keeps x.toInCall.keep,codeAny_func ?_⟩
 obtain ⟨t,ht,hq⟩:=hbody A outer s H vs Q E (hr.deeper _) hsp
 have I:Inv (rA CX P w K mg base N qual scope f cdv A outer s H E) [] (start N vs) H s1:=AR S hr.hd e0 hl r x
 refine wpAny_mono (ht [] s1 (start N vs) H _ I hq) (fun fl s' hs=>?_) fun e s' hs=>hs
 have fin:∀ {σ':St} {H':Hp} {v:V} {u:Value},Inv (rA CX P w K mg base N qual scope f cdv A outer s H E) [] σ' H' s' -> RelV v u -> Q v H' -> CE outer P w H s Q u s':=
  fun {σ' H' v u} J rv q=>⟨v,H',J.os,J.bare,J.base,J.hok,rv,q⟩
 cases fl with
 | ret u=>
   obtain ⟨v,σ',H',J,rv,q⟩:=hs
   exact fin J rv q
 | next=>
   obtain ⟨σ',H',J,q⟩:=hs
   exact fin (v:=V.non) (u:=Value.none) J rfl q
 | brk=>
   obtain ⟨_,_,_,q⟩:=hs
   exact False.elim q
 | cont=>
   obtain ⟨_,_,_,q⟩:=hs
   exact False.elim q
end L2
namespace L2
open PySem PySem.Spec PyProof.Rows
section
variable {X:Cx} {x:Str} {p pos:Pos} {e:Expr} {es:List Expr} {t:TA} {id T:String} {r:List V -> Hp -> VK -> Prop}
noncomputable def tCB (r:List V -> Hp -> VK -> Prop) (t:TA):TE:=fun σ H Q=>t σ H fun vs H1=>r vs H1 Q
theorem Dc (hc:mx X (.builtin id) r) (hg:Gl X x) (hm:X.mg x = none) (hv:bootBuiltins x = some (.builtin id)) (ha:PA X (e ::es) t) (hn:x ≠ "__name__":=by decide) (hdb:(x == ("__debug__":Str)) = false:=by decide)
  (he:starEach (e ::es) X.env = (false,eval e X.env) ::starEach es X.env:=by rfl) (hpl:(backTo pos (starEach es X.env)).any (·.1) = false:=by rfl):PE X (.Call (.Name x p) (e ::es) [] pos) (tCB r t):=by
 intro pins s σ H Q I h
 refine wpAny_Call_Name_kw (tX I hg hm hv ?_ hn hdb)
 exact PyProof.Rows.callWith_builtin1 (thn (ha pos pins s σ H _ I h) fun us s1 ⟨vs,H1,I1,r1,q1⟩=>hc pins s1 σ H1 vs us Q I1 r1 q1) he hpl
theorem Bs (hc:mx X (.type T) r) (hg:Gl X x) (hm:X.mg x = none) (hv:bootBuiltins x = some (.type T)) (ha:PA X (e ::es) t) (hn:x ≠ "__name__":=by decide) (hdb:(x == ("__debug__":Str)) = false:=by decide)
  (he:starEach (e ::es) X.env = (false,eval e X.env) ::starEach es X.env:=by rfl) (hpl:(backTo pos (starEach es X.env)).any (·.1) = false:=by rfl):PE X (.Call (.Name x p) (e ::es) [] pos) (tCB r t):=by
 intro pins s σ H Q I h
 refine wpAny_Call_Name_kw (tX I hg hm hv ?_ hn hdb)
 exact PyProof.Rows.callWith_type1 (thn (ha pos pins s σ H _ I h) fun us s1 ⟨vs,H1,I1,r1,q1⟩=>hc pins s1 σ H1 vs us Q I1 r1 q1) he hpl
end
end L2
namespace HT
open PySem PyProof.Rows
section
open PySem.SeqAt
open PySem.AutoSeq1 (wpAny_loadPart')
open PySem.MeetsSeq PySem.MeetsSeq2 PySem.MeetsSeq3
end
section
variable {prog:Program} {w:World} {A:Around} {E:Value -> Shared -> Prop} {s:Shared}
noncomputable def sIx (n d:Nat):Option Int -> Nat
 | none=>d
 | some v=>if v < 0 then (v + (n:Int)).toNat else min v.toNat n
end
end HT
namespace L2
open PySem PySem.Spec PyProof.Rows
abbrev TO:=St -> Hp -> (Option Int -> Hp -> Prop) -> Prop
noncomputable def PO (X:Cx) (e:Option Expr) (t:TO):Prop:=
 ∀ (pins:List (Addr × Obj)) (s:Shared) (σ:St) (H:Hp) (Q:Option Int -> Hp -> Prop),Inv X pins σ H s -> t σ H Q ->
   wpAny (model X.prog X.w) X.A (evalPart e X.env) (fun u s'=>∃ o H',Inv X pins σ H' s' /\ IsPart u o /\ Q o H') X.xe s
noncomputable def wA:TO:=fun _ H Q=>Q none H
noncomputable def Dl (t:TE):TO:=fun σ H Q=>t σ H fun x H1=>∃ i,x = .int i /\ Q (some i) H1
section
variable {X:Cx} {e:Expr} {te:TE} {lo hi:Option Expr} {tl th:TO} {pos p2:Pos}
theorem EL:PO X none wA:=by
 intro pins s σ H Q I h
 rw [evalPart_none]
 exact wpAny_pure ⟨none,H,I,.none,h⟩
theorem EV (h:PE X e te):PO X (some e) (Dl te):=by
 intro pins s σ H Q I hw
 rw [evalPart_some]
 refine thn (h pins s σ H _ I hw) fun u s1 ⟨x,H1,I1,r1,q1⟩=>?_
 obtain ⟨i,rfl,q⟩:=q1
 obtain ⟨t,rfl⟩:=r1
 exact ⟨some i,H1,I1,.int i t,q⟩
noncomputable def SlR (X:Cx) (r:V -> Option Int -> Option Int -> Hp -> VK -> Prop):Prop:=
 ∀ (pins:List (Addr × Obj)) (s:Shared) (σ:St) (H:Hp) (x:V) (v vl vu:Value) (lo hi:Option Int) (sl:Addr) (Q:VK),Inv X pins σ H s -> RelV x v -> s.heap.IsSliceOf sl vl vu .none -> IsPart vl lo -> IsPart vu hi -> r x lo hi H Q ->
   ∃ T id,typeLookup (.type T) "__getitem__" = pure (some (.builtin id)) /\ s.TypeIs v T /\ wpAny (model X.prog X.w) X.A (getItem v (.ref sl)) (EP X pins σ Q) X.xe s
noncomputable def tSl (r:V -> Option Int -> Option Int -> Hp -> VK -> Prop) (te:TE) (tl th:TO):TE:=fun σ H Q=>te σ H fun x H1=>tl σ H1 fun l H2=>th σ H2 fun u H3=>r x l u H3 Q
theorem Cr {r:V -> Option Int -> Option Int -> Hp -> VK -> Prop} (hr:SlR X r) (he:PE X e te) (hl:PO X lo tl) (hu:PO X hi th):PE X (.Subscript e (.Slice lo hi none p2) pos) (tSl r te tl th):=by
 intro pins s σ H Q I h
 refine Subscript_ (thn (he pins s σ H _ I h) fun v s1 ⟨x,H1,I1,r1,q1⟩=>?_)
 refine wpAny_Slice (thn (hl pins s1 σ H1 _ I1 q1) fun vl s2 ⟨l,H2,I2,pl,q2⟩=>thn (hu pins s2 σ H2 _ I2 q2) fun vu s3 ⟨u,H3,I3,pu,q3⟩=>?_)
 rw [evalPart_none]
 refine wpAny_pure ?_
 have I4:Inv X pins σ H3 { s3 with heap:=s3.heap.push { cls:=.type "slice",data:=.fields #[vl,vu,.none] } }:=I3.kept (t':=s3.toks) fun b ob q=>Heap.get?_push_of_some _ q
 obtain ⟨T,id,hT,ht,hg⟩:=hr pins { s3 with heap:=s3.heap.push { cls:=.type "slice",data:=.fields #[vl,vu,.none] } } σ H3 x v vl vu l u s3.heap.objs.size Q I4 r1 (Heap.IsSliceOf.new ..) pl pu q3
 show wpAny (model X.prog X.w) X.A (subscriptTail e (.Slice lo hi none p2) v (.ref s3.heap.objs.size)) (EP X pins σ Q) X.xe { s3 with heap:=s3.heap.push { cls:=.type "slice",data:=.fields #[vl,vu,.none] } }
 exact tail_any (ops:=[.ref s3.heap.objs.size,v]) ht hT hg (by with_unfolding_all rfl)
noncomputable def BB (xs:List V) (lo hi:Option Int):List V:=(xs.drop (HT.sIx xs.length 0 lo)).take (HT.sIx xs.length xs.length hi - HT.sIx xs.length 0 lo)
theorem yu (xs:List V) (lo hi:Option Int):(BB xs lo hi).length <= xs.length:=by
 unfold BB
 rw [List.length_take,List.length_drop]
 omega
end
end L2
namespace L2
open PySem PySem.Spec PyProof.Rows
noncomputable def ixN (n:Nat) (i:Int):Option Nat:=if 0 <= i then (if i < n then some i.toNat else none) else if -(n:Int) <= i then some (i + n).toNat else none
noncomputable def atI {α:Type} (xs:List α) (i:Int):Option α:=(ixN xs.length i).bind fun j=>xs[j]?
theorem zV {n:Nat} {i:Int} {j:Nat} (h:ixN n i = some j):seqIndex? i n = some j /\ j < n /\ -(n:Int) <= i /\ i < n:=by
 unfold ixN at h
 by_cases h0:0 <= i
 . rw [if_pos h0] at h
   by_cases h1:i < n
   . rw [if_pos h1] at h
     have e:i.toNat = j:=Option.some.inj h
     exact ⟨by rw [seqIndex_of h0 h1,e],by omega,by omega,h1⟩
   . rw [if_neg h1] at h; cases h
 . rw [if_neg h0] at h
   by_cases h1:-(n:Int) <= i
   . rw [if_pos h1] at h
     have e:(i + n).toNat = j:=Option.some.inj h
     exact ⟨by rw [seqIndex_neg (by omega) h1,e],by omega,h1,by omega⟩
   . rw [if_neg h1] at h; cases h
theorem zv {α:Type} {xs:List α} {i:Int} {v:α} (h:atI xs i = some v):∃ j,seqIndex? i xs.length = some j /\ xs[j]? = some v /\ j < xs.length /\ -(xs.length:Int) <= i /\ i < xs.length:=by
 unfold atI at h
 cases e:ixN xs.length i with
 | none=>rw [e] at h; cases h
 | some j=>
   rw [e] at h
   obtain ⟨h1,h2,h3,h4⟩:=zV e
   exact ⟨j,h1,h,h2,h3,h4⟩
noncomputable def wj (b:Expr):Prop:=∀ o i,subscripted b false o i = operate [o,i] (getItem o i)
noncomputable def IxR (X:Cx) (r:R2):Prop:=
 ∀ (value slice:Expr) (pins:List (Addr × Obj)) (s:Shared) (σ:St) (H:Hp) (x y:V) (v u:Value) (Q:VK),Inv X pins σ H s -> RelV x v -> RelV y u -> r x y H Q ->
   subscripted slice false v u = operate [v,u] (getItem v u) -> wpAny (model X.prog X.w) X.A (subscriptTail value slice v u) (EP X pins σ Q) X.xe s
noncomputable def MtR (X:Cx) (id:String) (r:V -> List V -> Hp -> VK -> Prop):Prop:=
 ∀ (pins:List (Addr × Obj)) (s:Shared) (σ:St) (H:Hp) (x:V) (xs:List V) (v:Value) (us:List Value) (Q:VK),Inv X pins σ H s -> RelV x v -> Vals xs us -> r x xs H Q ->
   wpAny (model X.prog X.w) X.A (call (.builtin id) (v ::us)) (EP X pins σ Q) X.xe s
section
variable {X:Cx} {a b:Expr} {ta tb:TE} {pos:Pos}
theorem Kp {r:R2} (hr:IxR X r) (ha:PE X a ta) (hb:PE X b tb) (hs:wj b):PE X (.Subscript a b pos) (tOp r ta tb):=by
 intro pins s σ H Q I h
 exact Subscript_ (Ih ha hb I h fun v u s2 x y H2 I2 rx ry q=>hr a b pins s2 σ H2 x y v u Q I2 rx ry q (hs _ _))
noncomputable def Fh (K:PySem.W.Frag):R2:=fun x y H Q=>∃ p xs i v,x = .ref p /\ y = .int i /\ SqL K H p xs /\ atI xs i = some v /\ Q v H
noncomputable def JN (K:PySem.W.Frag):R2:=fun x y H Q=>∃ p xs i v,x = .ref p /\ y = .int i /\ SqT K H p xs /\ atI xs i = some v /\ Q v H
theorem bQ:IxR X (Fh X.K):=by
 intro value slice pins s σ H x y v u Q I rx ry h hs
 obtain ⟨p,xs,i,z,rfl,rfl,hq,he,q⟩:=h
 cases rx
 obtain ⟨t,rfl⟩:=ry
 obtain ⟨its,r,pl,hz⟩:=I.list hq
 obtain ⟨j,h1,h2,h3,h4,h5⟩:=zv he
 obtain ⟨w,ew,rw'⟩:=r.get h2
 have hl:=r.length
 have hn:=uf
 have fin:EP X pins σ Q w s:=⟨z,H,I,rw',q⟩
 by_cases h0:0 <= i
 . have hj:i.toNat = j:=by
    rw [seqIndex_of h0 h5] at h1
    exact Option.some.inj h1
   exact item_listR pl.isList h0 (by omega) (by rw [hj]; simpa using ew) fin hs
 . have hj:(i + (its.toArray.size:Int)).toNat = j:=by
    rw [seqIndex_neg (by omega) h4] at h1
    rw [List.size_toArray,<- hl]
    exact Option.some.inj h1
   exact subscriptTail_builtinR (x:=w) pl.isList.typeIs slot_list_getitem.lookup
    (wpAny_getItem_list_neg (Q:=fun r s'=>r = w /\ EP X pins σ Q r s') pl.isList (by omega) (by rw [List.size_toArray] <;> omega) (by omega) (by rw [hj]; simpa using ew) ⟨rfl,fin⟩) hs
theorem gL:IxR X (JN X.K):=by
 intro value slice pins s σ H x y v u Q I rx ry h hs
 obtain ⟨p,xs,i,z,rfl,rfl,hq,he,q⟩:=h
 cases rx
 obtain ⟨t,rfl⟩:=ry
 obtain ⟨its,r,pl,hz⟩:=I.tuple hq
 obtain ⟨j,h1,h2,h3,h4,h5⟩:=zv he
 obtain ⟨w,ew,rw'⟩:=r.get h2
 have hl:=r.length
 have hn:=uf
 have fin:EP X pins σ Q w s:=⟨z,H,I,rw',q⟩
 exact subscriptTail_builtinR (x:=w) pl.typeIs slot_tuple_getitem.lookup
  (getItem_tuple (j:=j) (Q:=fun r s'=>r = w /\ EP X pins σ Q r s') pl (by omega) (by omega) (by rw [List.size_toArray,<- hl]; exact h1) (by simpa using ew) ⟨rfl,fin⟩) hs
theorem y8 (its:List Value) (n j:Nat) (u:Value):Obj.mapSeq (·.setIfInBounds j u) { cls:=.type "list",data:=.seq its.toArray n } = { cls:=.type "list",data:=.seq (its.set j u).toArray n }:=by
 simp [Obj.mapSeq]
theorem Inv.lst {pins:List (Addr × Obj)} {σ:St} {H:Hp} {s:Shared} {p:Addr} {xs:List V} (I:Inv X pins σ H s) (h:H p = some (.lst xs)):
  ∃ (its:List Value) (n:Nat),Vals xs its /\ s.heap.get? p = some { cls:=.type "list",data:=.seq its.toArray n } /\ xs.length <= sizeLine:=by
 obtain ⟨z,its,n,r,e⟩:=I.hok p _ h
 exact ⟨its,n,r,e,z⟩
theorem Inv.HI {pins:List (Addr × Obj)} {σ:St} {H:Hp} {s:Shared} {p:Addr} {xs ys:List V} {its its':List Value} {n n':Nat} {f:Obj -> Obj} (I:Inv X pins σ H s) (h:H p = some (.lst xs))
  (ho:s.heap.get? p = some { cls:=.type "list",data:=.seq its.toArray n }) (hf:f { cls:=.type "list",data:=.seq its.toArray n } = { cls:=.type "list",data:=.seq its'.toArray n' }) (r:Vals ys its') (hz:ys.length <= sizeLine) (t:Nat):
  Inv X pins σ (upd H p (.lst ys)) { s with heap:=s.heap.update p f,toks:=t }:=by
 have e:(s.heap.update p f).get? p = some { cls:=.type "list",data:=.seq its'.toArray n' }:=by
  rw [Heap.get?_update_self f ho (by rw [hf] <;> rfl),hf]
 refine I.write (x:=p) (e:=p) (by rw [h]; trivial) (.inl rfl) (fun b u hb q=>(Heap.get?_update_other _ _ (Ne.symm hb)).trans q) ⟨_,e⟩ ?_
 exact ⟨hz,its',n',r,e⟩
noncomputable def FQ:V -> V -> V -> Hp -> (Hp -> Prop) -> Prop:=fun o i v H Q=>∃ p xs k j,o = .ref p /\ i = .int k /\ H p = some (.lst xs) /\ ixN xs.length k = some j /\ Q (upd H p (.lst (xs.set j v)))
theorem set_list:IC X FQ:=by
 intro pins s σ H o i v ov iv u Q I ro ri rv h
 obtain ⟨p,xs,k,j,rfl,rfl,hp,hj,q⟩:=h
 cases ro
 obtain ⟨t,rfl⟩:=ri
 obtain ⟨its,n,r,ho,hz⟩:=I.lst hp
 obtain ⟨h1,h2,h3,h4⟩:=zV hj
 have hl:=r.length
 have hn:=uf
 have I':Inv X pins σ (upd H p (.lst (xs.set j v))) { s with heap:=s.heap.update p (Obj.mapSeq (·.setIfInBounds j u)) }:=
  I.HI hp ho (y8 its n j u) (r.set rv j) (by rw [List.length_set]; exact hz) s.toks
 by_cases h0:0 <= k
 . have hk:k.toNat = j:=by
    rw [seqIndex_of h0 h4] at h1
    exact Option.some.inj h1
   exact PySem.W.ki_setAt ho h0 (by omega) (by rw [List.size_toArray,<- hl]; exact h4) (by rw [hk]; exact ⟨_,I',q⟩)
 . have hk:(k + (its.toArray.size:Int)).toNat = j:=by
    rw [seqIndex_neg (by omega) h3] at h1
    rw [List.size_toArray,<- hl]
    exact Option.some.inj h1
   exact PySem.W.ki_setBack ho (by omega) (by rw [List.size_toArray,<- hl]; exact h3) (by omega) (by rw [hk]; exact ⟨_,I',q⟩)
theorem vM (lo hi:Option Int) (n:Nat):(sliceBounds lo hi none n).1 = ((HT.sIx n 0 lo:Nat):Int) /\ (sliceBounds lo hi none n).2.1 = ((HT.sIx n n hi:Nat):Int) /\ (sliceBounds lo hi none n).2.2 = 1:=by
 refine ⟨?_,?_,rfl⟩
 . cases lo with
   | none=>simp [sliceBounds,HT.sIx]
   | some i=>
     simp only [sliceBounds,HT.sIx,Option.getD_none,show (1:Int) > 0 by decide,if_true]
     by_cases h:i < 0
     . simp only [h,if_true] <;> omega
     . simp only [h,if_false] <;> omega
 . cases hi with
   | none=>simp [sliceBounds,HT.sIx]
   | some i=>
     simp only [sliceBounds,HT.sIx,Option.getD_none,show (1:Int) > 0 by decide,if_true]
     by_cases h:i < 0
     . simp only [h,if_true] <;> omega
     . simp only [h,if_false] <;> omega
theorem uJ (its:List Value) (lo hi:Option Int):slicePick its.toArray lo hi none = ((its.drop (HT.sIx its.length 0 lo)).take (HT.sIx its.length its.length hi - HT.sIx its.length 0 lo)).toArray:=by
 obtain ⟨h1,h2,h3⟩:=vM lo hi its.toArray.size
 unfold slicePick
 rw [h1,h2,h3]
 simp only [sliceRange_one,pick_run,List.size_toArray] <;> rfl
noncomputable def Jt (K:PySem.W.Frag):V -> Option Int -> Option Int -> Hp -> VK -> Prop:=fun x lo hi H Q=>∃ a xs,x = .ref a /\ SqL K H a xs /\ ∀ p,H p = none -> Q (.ref p) (upd H p (.lst (BB xs lo hi)))
theorem zZ:SlR X (Jt X.K):=by
 intro pins s σ H x v vl vu lo hi sl Q I rx hs pl pu h
 obtain ⟨a,xs,rfl,hx,q⟩:=h
 cases rx
 obtain ⟨its,r,ht,hz⟩:=I.list hx
 have hlen:=r.length
 refine ⟨"list",_,slot_list_getitem.lookup,ht.isList.typeIs,?_⟩
 refine wpAny_getItem_list_slice ht.isList hs pl pu .none (by simp) ?_ (by rw [List.size_toArray] <;> omega)
 rw [uJ,<- hlen]
 refine ⟨.ref s.heap.objs.size,_,I.laid (t':=s.toks) (o:=.lst (BB xs lo hi)) (fun b ob q=>Heap.get?_push_of_some _ q) (Nat.le_refl _) ?_,rfl,q _ (I.hok.fresh (Nat.le_refl _))⟩
 exact ⟨Nat.le_trans (yu xs lo hi) hz,_,0,(r.drop (HT.sIx xs.length 0 lo)).take (HT.sIx xs.length xs.length hi - HT.sIx xs.length 0 lo),Heap.get?_push_size _ rfl⟩
noncomputable def pR:V -> Bool
 | .non=>true
 | .bl _=>true
 | .int _=>true
 | .str _=>true
 | _=>false
noncomputable def eqV:V -> V -> Bool
 | .non,.non=>true
 | .bl a,.bl b=>a == b
 | .bl a,.int b=>(if a then 1 else 0) == b
 | .int a,.bl b=>a == (if b then 1 else 0)
 | .int a,.int b=>a == b
 | .str a,.str b=>a == b
 | _,_=>false
theorem Hl {A:Around} {s:Shared} {y x:V} {u v:Value} (ry:RelV y u) (rx:RelV x v) (fy:pR y = true) (fx:pR x = true):SeqAt.EqAt A s u v (eqV y x):=by
 cases y with
 | non=>
   cases ry
   cases x with
   | non=>cases rx; exact SeqAt.EqAt.same _
   | bl b=>cases rx; exact SeqAt.EqAt.none_bool b
   | int b=>obtain ⟨t,rfl⟩:=rx; exact SeqAt.EqAt.none_int b t
   | str b=>obtain ⟨t,rfl⟩:=rx; exact SeqAt.EqAt.none_str b t
   | _=>exact absurd (show false = true from fx) Bool.false_ne_true
 | bl a=>
   cases ry
   cases x with
   | non=>cases rx; exact SeqAt.EqAt.bool_none a
   | bl b=>cases rx; exact SeqAt.EqAt.bool_bool a b
   | int b=>obtain ⟨t,rfl⟩:=rx; exact SeqAt.EqAt.bool_int a b t
   | str b=>obtain ⟨t,rfl⟩:=rx; exact SeqAt.EqAt.bool_str a b t
   | _=>exact absurd (show false = true from fx) Bool.false_ne_true
 | int a=>
   obtain ⟨t',rfl⟩:=ry
   cases x with
   | non=>cases rx; exact SeqAt.EqAt.int_none a t'
   | bl b=>cases rx; exact SeqAt.EqAt.int_bool a t' b
   | int b=>obtain ⟨t,rfl⟩:=rx; exact SeqAt.EqAt.int_int a t' b t
   | str b=>obtain ⟨t,rfl⟩:=rx; exact SeqAt.EqAt.int_str a t' b t
   | _=>exact absurd (show false = true from fx) Bool.false_ne_true
 | str a=>
   obtain ⟨t',rfl⟩:=ry
   cases x with
   | non=>cases rx; exact SeqAt.EqAt.str_none a t'
   | bl b=>cases rx; exact SeqAt.EqAt.str_bool a t' b
   | int b=>obtain ⟨t,rfl⟩:=rx; exact SeqAt.EqAt.str_int a t' b t
   | str b=>obtain ⟨t,rfl⟩:=rx; exact SeqAt.EqAt.str_str a t' b t
   | _=>exact absurd (show false = true from fx) Bool.false_ne_true
 | _=>exact absurd (show false = true from fy) Bool.false_ne_true
noncomputable def eqU (x:V) (u:Value):Bool:=match u with
 | .none=>eqV .non x
 | .bool b=>eqV (.bl b) x
 | .int i _=>eqV (.int i) x
 | .str z _=>eqV (.str z) x
 | _=>false
theorem CA {x y:V} {u:Value} (r:RelV y u) (f:pR y = true):eqU x u = eqV y x:=by
 cases y with
 | non=>cases r; rfl
 | bl b=>cases r; rfl
 | int i=>obtain ⟨t,rfl⟩:=r; rfl
 | str z=>obtain ⟨t,rfl⟩:=r; rfl
 | _=>exact absurd (show false = true from f) Bool.false_ne_true
theorem rh {x:V}:∀ {xs:List V} {us:List Value},Vals xs us -> xs.all pR = true -> us.any (eqU x) = xs.any fun y=>eqV y x
 | _,_,.nil,_=>rfl
 | y ::xs,u ::us,.cons r t,f=>by
   rw [List.all_cons,Bool.and_eq_true] at f
   rw [List.any_cons,List.any_cons,CA r f.1,rh t f.2]
theorem o1 {A:Around} {s:Shared} {x:V} {v:Value} (rx:RelV x v) (fx:pR x = true):∀ {xs:List V} {us:List Value},Vals xs us -> xs.all pR = true -> ∀ u ∈ us,SeqAt.EqAt A s u v (eqU x u)
 | _,_,.nil,_=>fun u hu=>by cases hu
 | y ::xs,u ::us,.cons r t,f=>fun u' hu=>by
   rw [List.all_cons,Bool.and_eq_true] at f
   rcases List.mem_cons.mp hu with rfl | hu
   . rw [CA r f.1]; exact Hl r rx f.1 fx
   . exact o1 rx fx t f.2 u' hu
noncomputable def inV (x:V) (xs:List V):Bool:=xs.any fun y=>eqV y x
noncomputable def rIn (K:PySem.W.Frag) (neg:Bool):R2:=fun x y H Q=>∃ p xs,y = .ref p /\ (SqL K H p xs \/ SqT K H p xs) /\ pR x = true /\ xs.all pR = true /\ Q (.bl (if neg then !inV x xs else inV x xs)) H
theorem Bx:OpR X (compareOp .In) (rIn X.K false):=by
 intro pins s σ H x y v u Q I rx ry h
 obtain ⟨p,xs,rfl,hq,fx,fs,q⟩:=h
 cases ry
 rcases hq with hq | hq
 . obtain ⟨its,r,pl,hz⟩:=I.list hq
   refine SeqAt.in_listAt (eqU x) pl.isList (fun w hw=>o1 rx fx r fs w (by simpa using hw)) ⟨.bl _,H,I,rfl,?_⟩
   rw [show its.toArray.any (eqU x) = its.any (eqU x) by simp,rh r fs]
   exact q
 . obtain ⟨its,r,pl,hz⟩:=I.tuple hq
   refine SeqAt.in_tupleAt (eqU x) pl (fun w hw=>o1 rx fx r fs w (by simpa using hw)) ⟨.bl _,H,I,rfl,?_⟩
   rw [show its.toArray.any (eqU x) = its.any (eqU x) by simp,rh r fs]
   exact q
theorem v9:OpR X (compareOp .NotIn) (rIn X.K true):=by
 intro pins s σ H x y v u Q I rx ry h
 obtain ⟨p,xs,rfl,hq,fx,fs,q⟩:=h
 cases ry
 rcases hq with hq | hq
 . obtain ⟨its,r,pl,hz⟩:=I.list hq
   refine SeqAt.notIn_listAt (eqU x) pl.isList (fun w hw=>o1 rx fx r fs w (by simpa using hw)) ⟨.bl _,H,I,rfl,?_⟩
   rw [show its.toArray.any (eqU x) = its.any (eqU x) by simp,rh r fs]
   exact q
 . obtain ⟨its,r,pl,hz⟩:=I.tuple hq
   refine SeqAt.notIn_tupleAt (eqU x) pl (fun w hw=>o1 rx fx r fs w (by simpa using hw)) ⟨.bl _,H,I,rfl,?_⟩
   rw [show its.toArray.any (eqU x) = its.any (eqU x) by simp,rh r fs]
   exact q
theorem wC:mx X (.builtin "len") (fun xs H Q=>∃ p ys,xs = [.ref p] /\ (SqL X.K H p ys \/ SqT X.K H p ys) /\ Q (.int ys.length) H):=by
 intro pins s σ H xs us Q I r h
 obtain ⟨p,ys,rfl,hq,q⟩:=h
 obtain ⟨u,rfl,rx⟩:=vals1 r
 cases rx
 have hn:=uf
 rcases hq with hq | hq
 . obtain ⟨its,r',pl,hz⟩:=I.list hq
   have hlen:=r'.length
   exact Calls.call_len_list pl.isList (by simp only [List.size_toArray] <;> omega) ⟨.int ys.length,H,I.tok _,⟨s.toks + 1,by rw [List.size_toArray,hlen]⟩,q⟩
 . obtain ⟨its,r',pl,hz⟩:=I.tuple hq
   have hlen:=r'.length
   exact len_tuple pl (by simp only [List.size_toArray] <;> omega) ⟨.int ys.length,H,I.tok _,⟨s.toks + 1,by rw [List.size_toArray,hlen]⟩,q⟩
theorem vR:mx X (.type "list") (fun xs H Q=>∃ p ys,xs = [.ref p] /\ (SqL X.K H p ys \/ SqT X.K H p ys) /\ ∀ l,H l = none -> Q (.ref l) (upd H l (.lst ys))):=by
 intro pins s σ H xs us Q I r h
 obtain ⟨p,ys,rfl,hq,q⟩:=h
 obtain ⟨u,rfl,rx⟩:=vals1 r
 cases rx
 have fin:∀ (its:List Value),Vals ys its -> ys.length <= sizeLine -> ∀ (h':Heap) (c':Nat),(∀ b o',s.heap.get? b = some o' -> h'.get? b = some o') ->
   h'.get? s.heap.objs.size = some { cls:=.type "list",dict:=none,data:=.seq its.toArray c',slots:=#[] } -> EP X pins σ Q (.ref s.heap.objs.size) { s with heap:=h' }:=fun its r' hz h' c' kp e=>
  ⟨.ref s.heap.objs.size,_,I.laid (t':=s.toks) kp (Nat.le_refl _) (show gc X.prog X.w _ h' _ (.lst ys) from ⟨hz,its,c',r',e⟩),rfl,q _ (I.hok.fresh (Nat.le_refl _))⟩
 rcases hq with hq | hq
 . obtain ⟨its,r',pl,hz⟩:=I.list hq
   have hlen:=r'.length
   obtain ⟨o,ho,hc,n,hd⟩:=pl.isList
   exact call_list_seq p (.inl rfl) ho hc hd (fun h' c' kp e=>fin its r' hz h' c' kp e) (by simp only [List.size_toArray] <;> omega)
 . obtain ⟨its,r',pl,hz⟩:=I.tuple hq
   have hlen:=r'.length
   obtain ⟨o,ho,hc,n,hd⟩:=pl
   exact call_list_seq p (.inr rfl) ho hc hd (fun h' c' kp e=>fin its r' hz h' c' kp e) (by simp only [List.size_toArray] <;> omega)
theorem jO:mx X (.type "tuple") (fun xs H Q=>∃ p ys,xs = [.ref p] /\ ((SqL X.K H p ys /\ ∀ l,H l = none -> Q (.ref l) (upd H l (.tup ys))) \/ (SqT X.K H p ys /\ Q (.ref p) H))):=by
 intro pins s σ H xs us Q I r h
 obtain ⟨p,ys,rfl,h⟩:=h
 obtain ⟨u,rfl,rx⟩:=vals1 r
 cases rx
 rcases h with ⟨hq,q⟩ | ⟨hq,q⟩
 . obtain ⟨its,r',pl,hz⟩:=I.list hq
   have hlen:=r'.length
   refine call_tuple_list pl.isList (fun h' kp=>?_) (by simp only [List.size_toArray] <;> omega)
   have I1:Inv X pins σ H { s with heap:=h' }:=I.kept (t':=s.toks) kp
   have I2:Inv X pins σ (upd H h'.objs.size (.tup ys)) { s with heap:=h'.push { cls:=.type "tuple",data:=.seq its.toArray } }:=
    I1.laid (t':=s.toks) (fun b o e=>Heap.get?_push_of_some _ e) (Nat.le_refl _) (show gc X.prog X.w _ _ _ (.tup ys) from ⟨hz,its,r',IsTup.new _ _⟩)
   exact ⟨.ref h'.objs.size,_,I2,rfl,q _ (I1.hok.fresh (Nat.le_refl _))⟩
 . obtain ⟨its,r',pl,hz⟩:=I.tuple hq
   exact call_tuple_same pl ⟨.ref p,H,I,rfl,q⟩
noncomputable def tyV (K:PySem.W.Frag) (T:String) (x:V) (H:Hp):Prop:=match x with
 | .str _=>T = "str"
 | .int _=>T = "int"
 | .ref p=>(T = "list" /\ ∃ xs,SqL K H p xs) \/ (T = "tuple" /\ ∃ o,K.lookup p = some o /\ o.cls = .type "tuple" /\ o.dict = none) \/
    (T = "dict" /\ ((∃ kvs,H p = some (.dK kvs)) \/ ∃ kvs,H p = some (.dT kvs))) \/ (T = "set" /\ ∃ S n,H p = some (.set S n))
 | _=>False
theorem B7 {pins:List (Addr × Obj)} {σ:St} {H:Hp} {s:Shared} {T:String} {x:V} {v:Value} (I:Inv X pins σ H s) (r:RelV x v) (ty:tyV X.K T x H):
  s.TypeIs v T /\ ∀ a,v = .ref a -> ∃ ob,s.heap.get? a = some ob /\ ob.dict = none:=by
 cases x with
 | str z=>
   obtain ⟨t,rfl⟩:=r
   cases (show T = "str" from ty)
   exact ⟨typeIs_str s z t,fun _ e=>nomatch e⟩
 | int i=>
   obtain ⟨t,rfl⟩:=r
   cases (show T = "int" from ty)
   exact ⟨typeIs_int s i t,fun _ e=>nomatch e⟩
 | ref p=>
   cases r
   rcases ty with ⟨rfl,xs,hq⟩ | ⟨rfl,o,hk,hc,hd⟩ | ⟨rfl,hk⟩ | ⟨rfl,S,n,hk⟩
   . obtain ⟨its,_,pl,_⟩:=I.list hq
     refine ⟨pl.isList.typeIs,fun a e=>?_⟩
     cases e
     obtain ⟨o,n,e,c,hd,_⟩:=pl
     exact ⟨o,e,hd⟩
   . refine ⟨⟨o,I.kIn p o hk,hc⟩,fun a e=>?_⟩
     cases e
     exact ⟨o,I.kIn _ o hk,hd⟩
   . have z:∃ o,s.heap.get? p = some o /\ o.ExactDict:=by
      rcases hk with ⟨kvs,hk⟩ | ⟨kvs,hk⟩
      . obtain ⟨_,_,_,_,o,_,_,e,ex,_⟩:=I.hok p _ hk
        exact ⟨o,e,ex⟩
      . obtain ⟨_,_,_,_,o,_,_,e,ex,_⟩:=I.hok p _ hk
        exact ⟨o,e,ex⟩
     obtain ⟨o,e,ex⟩:=z
     refine ⟨⟨o,e,ex.1⟩,fun a e2=>?_⟩
     cases e2
     exact ⟨o,e,ex.2.1⟩
   . obtain ⟨o,_,_,_,e,ex,_⟩:=I.hok p _ hk
     refine ⟨⟨o,e,ex.1⟩,fun a e2=>?_⟩
     cases e2
     exact ⟨o,e,ex.2.1⟩
 | _=>exact False.elim ty
noncomputable def IT (K:PySem.W.Frag) (T:String) (r:V -> List V -> Hp -> VK -> Prop) (to:TE):TE:=fun σ H Q=>to σ H fun x H1=>tyV K T x H1 /\ r x [] H1 Q
noncomputable def tBM (K:PySem.W.Frag) (T:String) (r:V -> List V -> Hp -> VK -> Prop) (to:TE) (t:TA):TE:=fun σ H Q=>to σ H fun x H1=>tyV K T x H1 /\ t σ H1 fun xs H2=>r x xs H2 Q
variable {o e:Expr} {es:List Expr} {to:TE} {t:TA} {name:Str} {apos cpos:Pos} {T id:String} {r:V -> List V -> Hp -> VK -> Prop}
theorem Gx (pa:PlainAttrs T) (slot:Slot T name id) (hty:typeOf (.builtin id) = pure (.type "method_descriptor")) (hm:MtR X id r) (ho:PE X o to)
  (hbase:attributeBase o name X.env (eval o X.env) = eval o X.env:=by rfl) (hline:(apos.endLine == cpos.line) = true:=by rfl):PE X (.Call (.Attribute o name apos) [] [] cpos) (IT X.K T r to):=by
 intro pins s σ H Q I h
 refine wpAny_Call_method0_late hbase hline (thn (ho pins s σ H _ I h) fun v s1 ⟨x,H1,I1,r1,ty,q1⟩=>?_)
 obtain ⟨h1,h2⟩:=B7 I1 r1 ty
 exact ⟨T,id,pa,slot,hty,h1,h2,Calls.callWith_builtin rfl (PySem.evalArgs_none (hm pins s1 σ H1 x [] v [] Q I1 r1 .nil q1))⟩
theorem Jj (pa:PlainAttrs T) (slot:Slot T name id) (hty:typeOf (.builtin id) = pure (.type "method_descriptor")) (hm:MtR X id r) (ho:PE X o to) (ha:PA X (e ::es) t)
  (hbase:attributeBase o name X.env (eval o X.env) = eval o X.env:=by rfl)
  (hfew:((backTo cpos (starEach (e ::es) X.env)).all (fun x=>!x.1) && (backToKw cpos (keywordEach [] X.env)).all (fun x=>x.1.isSome)
    && decide ((e ::es).length + ([]:List Keyword).length + (if ([]:List Keyword).isEmpty then 0 else 1) < 30)) = true:=by rfl)
  (hline:(apos.endLine == cpos.line) = true:=by rfl) (hs:starEach (e ::es) X.env = (false,eval e X.env) ::starEach es X.env:=by rfl) (hplain:(backTo cpos (starEach es X.env)).any (·.1) = false:=by rfl):
  PE X (.Call (.Attribute o name apos) (e ::es) [] cpos) (tBM X.K T r to t):=by
 intro pins s σ H Q I h
 refine wpAny_Call_method_late hbase hfew hline rfl (thn (ho pins s σ H _ I h) fun v s1 ⟨x,H1,I1,r1,ty,q1⟩=>?_)
 obtain ⟨h1,h2⟩:=B7 I1 r1 ty
 refine ⟨T,id,pa,slot,hty,h1,h2,?_⟩
 have hA:=ha cpos pins s1 σ H1 _ I1 q1
 rw [hs] at hA ⊢
 refine Calls.callWith_builtin (by show (false || (backTo cpos (starEach es X.env)).any (·.1)) = false; rw [hplain] <;> rfl) (Calls.evalArgs_plain ?_)
 exact thn hA fun us s2 ⟨vs,H2,I2,r2,q2⟩=>hm pins s2 σ H2 x vs v us Q I2 r1 r2 q2
end
end L2
namespace L2
open PySem PySem.Spec PyProof.Rows
noncomputable def MtM (X:Cx) (id:String) (r:V -> List V -> Hp -> VK -> Prop):Prop:=
 ∀ (pins:List (Addr × Obj)) (s:Shared) (σ:St) (H:Hp) (x:V) (xs:List V) (v:Value) (us:List Value) (Q:VK),Inv X pins σ H s -> RelV x v -> Vals xs us -> r x xs H Q ->
   wpAny (model X.prog X.w) X.A (call (.builtin id) (v ::us)) (EP X pins σ Q) X.xe s
theorem Vals.one:∀ {x:V} {us:List Value},Vals [x] us -> ∃ u,us = [u] /\ RelV x u
 | _,_,.cons r .nil=>⟨_,rfl,r⟩
theorem Vals.two:∀ {x y:V} {us:List Value},Vals [x,y] us -> ∃ u v,us = [u,v] /\ RelV x u /\ RelV y v
 | _,_,_,.cons r (.cons q .nil)=>⟨_,_,rfl,r,q⟩
theorem Vals.zero:∀ {us:List Value},Vals [] us -> us = []
 | _,.nil=>rfl
theorem Vals.dropLast {xs:List V} {us:List Value} (h:Vals xs us):Vals xs.dropLast us.dropLast:=by
 induction h with
 | nil=>exact .nil
 | cons r t ih=>
   cases t with
   | nil=>exact .nil
   | cons q t'=>exact .cons r ih
theorem Vals.eraseIdx:∀ {xs:List V} {us:List Value} (i:Nat),Vals xs us -> Vals (xs.eraseIdx i) (us.eraseIdx i)
 | _,_,_,.nil=>.nil
 | _,_,0,.cons _ t=>t
 | _,_,i + 1,.cons r t=>.cons r (Vals.eraseIdx i t)
theorem zq {α:Type} (l:List α):l.eraseIdx (l.length - 1) = l.dropLast:=by
 induction l with
 | nil=>rfl
 | cons a r ih=>
   cases r with
   | nil=>rfl
   | cons b r=>
     have e:(a ::b ::r).length - 1 = ((b ::r).length - 1) + 1:=by
      have h1:(a ::b ::r).length = r.length + 2:=rfl
      have h2:(b ::r).length = r.length + 1:=rfl
      omega
     rw [e,List.eraseIdx_cons_succ,ih]
     all_goals rfl
section
variable {X:Cx} {pins:List (Addr × Obj)} {σ:St} {H:Hp} {s:Shared} {l b:Addr} {xs ys zs:List V}
theorem Inv.Hi {its its':List Value} {n:Nat} {f:Array Value -> Array Value} {t':Nat} (I:Inv X pins σ H s) (hH:H l = some (.lst xs))
  (e:s.heap.get? l = some { cls:=.type "list",data:=.seq its.toArray n }) (hf:f its.toArray = its'.toArray) (hv:Vals ys its') (hz:ys.length <= sizeLine):
  Inv X pins σ (upd H l (.lst ys)) { s with heap:=s.heap.update l (Obj.mapSeq f),toks:=t' }:=by
 have q:=PySem.IsL.update e f
 rw [hf] at q
 refine I.write (x:=l) (e:=l) (by rw [hH]; exact trivial) (.inl rfl) (fun b' u hb hu=>(Heap.get?_update_other s.heap (Obj.mapSeq f) (Ne.symm hb)).trans hu) ⟨_,q⟩ ?_
 exact ⟨hz,its',_,hv,q⟩
theorem Inv.Eu {its:List Value} {t':Nat} (I:Inv X pins σ H s) (hv:Vals ys its) (hz:ys.length <= sizeLine):
  Inv X pins σ (upd H s.heap.objs.size (.lst ys)) { s with heap:=s.heap.push { cls:=.type "list",data:=.seq its.toArray },toks:=t' }:=
 I.laid (fun _ _ q=>Heap.get?_push_of_some _ q) (Nat.le_refl _) ⟨hz,its,0,hv,Heap.get?_push_size _ rfl⟩
theorem Inv.fresh (I:Inv X pins σ H s):H s.heap.objs.size = none:=I.hok.fresh (Nat.le_refl _)
theorem Inv.Hq (I:Inv X pins σ H s) (hH:H l = some (.lst xs)):xs.length <= sizeLine /\ ∃ (its:List Value) (n:Nat),Vals xs its /\ xs.length = its.length /\ s.heap.get? l = some { cls:=.type "list",data:=.seq its.toArray n }:=by
 obtain ⟨z,its,n,r,e⟩:=I.hok l _ hH
 exact ⟨z,its,n,r,r.length,e⟩
theorem Cz {n:Nat} (h:n <= sizeLine):Builtin.List.listTooLong n = false:=by
 unfold Builtin.List.listTooLong
 exact decide_eq_false (by omega)
end
section
variable {X:Cx}
noncomputable def vL:V -> List V -> Hp -> VK -> Prop:=fun x vs H Q=>∃ l xs y,x = .ref l /\ vs = [y] /\ H l = some (.lst xs) /\ xs.length < sizeLine /\ Q .non (upd H l (.lst (xs ++ [y])))
theorem cz:MtM X "list.append" vL:=by
 intro pins s σ H x vs v us Q I rx rv h
 obtain ⟨l,xs,y,rfl,rfl,hH,hz,q⟩:=h
 cases rx
 obtain ⟨u,rfl,ru⟩:=rv.one
 obtain ⟨z,its,n,r,hl,e⟩:=I.Hq hH
 refine call_meets F.slot_list_append ⟨_,e,rfl⟩ F.entry_list_append (F.args_list_append_2 _ _) (PySem.list_append l its.toArray n u (by rw [List.size_toArray]; omega)) ⟨e,?_⟩
 refine ⟨.non,_,I.Hi (its':=its ++ [u]) hH e (by simp) (r.append (.cons ru .nil)) ?_,rfl,q⟩
 rw [List.length_append,List.length_singleton]
 omega
noncomputable def Jw:V -> List V -> Hp -> VK -> Prop:=fun x vs H Q=>∃ l xs y,x = .ref l /\ vs = [] /\ H l = some (.lst xs) /\ xs[xs.length - 1]? = some y /\ Q y (upd H l (.lst xs.dropLast))
theorem B9:MtM X "list.pop" Jw:=by
 intro pins s σ H x vs v us Q I rx rv h
 obtain ⟨l,xs,y,rfl,rfl,hH,hy,q⟩:=h
 cases rx
 have hus:=rv.zero
 subst hus
 obtain ⟨z,its,n,r,hl,e⟩:=I.Hq hH
 obtain ⟨u,hu,ru⟩:=r.get hy
 have hy':its.toArray[its.toArray.size - 1]? = some u:=by
  show its.toArray[its.length - 1]? = some u
  rw [<- Array.getElem?_toList,<- hl]
  exact hu
 refine call_meets F.slot_list_pop ⟨_,e,rfl⟩ F.entry_list_pop (F.args_list_pop_1 _) (MeetsSeq.list_pop_last l its.toArray n u hy' (by rw [List.size_toArray]; omega)) ⟨e,?_⟩
 refine ⟨y,_,I.Hi (its':=its.dropLast) hH e ?_ r.dropLast ?_,ru,q⟩
 . show its.toArray.eraseIdxIfInBounds (its.toArray.size - 1) = its.dropLast.toArray
   rw [List.size_toArray,List.eraseIdxIfInBounds_toArray,zq]
 . rw [List.length_dropLast]
   omega
end
section
variable {prog:Program} {w:World} {A:Around} {E:Value -> Shared -> Prop} {s:Shared}
set_option maxRecDepth 100000 in
end
end L2
namespace Att
open PySem PySem.W PySem.Calls PyProof.Rows
theorem sQ {P:Params} {h:Heap}:∀ (ns:List Int) (vs:List Value),WellAll P h vs (ns.map WData.int) -> IntsAre vs ns:=by
 intro ns
 induction ns with
 | nil=>
   intro vs w
   rw [List.map_nil] at w
   cases w
   exact .nil
 | cons n ns ih=>
   intro vs w
   rw [List.map_cons] at w
   cases w with
   | cons a b=>
     cases a
     exact .cons _ _ (ih _ b)
theorem Bc {l:OpenLaw} {n:Nat} (hn:l.most = some n) {P:Params} {h:Heap} {args:List WData} {vals:List Value}
  (hpre:l.row.toRowW.claim.pre args = true) (hwl:WellAll P h vals args):
  ∃ a vs ns,vals = [Value.ref a] /\ args = [WData.list (ns.map WData.int)] /\ h.get? a = some { cls:=.type "list",data:=.seq vs.toArray } /\ IntsAre vs ns /\ ns.length <= n:=by
 have hsh:WShape.hasAll [] args [.list .int] = true:=(pre_splitW hpre).1
 have hc:l.pre.holds [] { args:=args } = true:=(pre_splitW hpre).2
 obtain ⟨d,r,rfl,h1,h2⟩:=hasAllW_cons hsh
 obtain rfl:=hasAllW_nil h2
 obtain ⟨xs,rfl,h3⟩:=hasW_list h1
 obtain ⟨ns,rfl⟩:=items_int h3
 have hlen:ns.length <= n:=by
  unfold OpenLaw.pre at hc
  have h4:(WTm.not (.lt (.lit (.int (n:Int))) (.len (.arg 0)))).holds [] { args:=[.list (ns.map .int)] } = true:=by
   have h4:=(holds_andW hc).1
   rw [hn] at h4
   exact h4
  have h5:=condW_of h4 (w_not (w_lt w_lit (w_len_list (w_arg rfl))))
  rw [List.length_map] at h5
  refine Nat.le_of_not_lt fun q=>?_
  have q':(n:Int) < ((ns.length:Nat):Int):=by omega
  first
   | (rw [decide_eq_true q'] at h5; exact absurd h5 (by decide))
   | (simp at h5; omega)
 cases hwl with
 | cons w1 w2=>
   cases w2
   cases w1 with
   | list ho hall=>exact ⟨_,_,ns,rfl,rfl,ho,sQ ns _ hall,hlen⟩
theorem A8 (l:OpenLaw) (args:List WData):l.row.toRowW.claim.post args (.bool true) args = true:=
 postW_of (r:=l.row.toRowW) (X:=(true == true))
  (show WShape.has [] (.bool true) .bool = true by first | rfl | decide | simp [WShape.has,WShape.arms,WShape.armsAll])
  (show (WTm.eq .res (.lit (.bool true))).value [] { args:=args,res:=some (.bool true),after:=args } = some (.bool (true == true)) from w_eq_bool (w_res rfl) w_lit) rfl
theorem xn {l:OpenLaw} {n:Nat} {q:Program} {loose:List Str} {XP:(Str -> Option Value) -> Heap -> Prop} {YP:World -> Heap -> Prop} {d:DefRec}
  (hn:l.most = some n) (hdf:d.params.defaults = [])
  (call:∀ (w:World) (s₀ s₁:Shared) (mg mb:Str -> Option Value) (fa:Addr) (o:Obj) (pm cd doc:Value) (a:Addr) (vs:List Value) (ns:List Int),
    Ground q loose [] XP w s₀ mg mb s₁.heap -> YP w s₁.heap ->
    s₁.heap.get? fa = some o -> o.data = .func (docDef d.name d.params d.body d.scope pm cd doc) -> s₁.heap.CodeRec cd d.name -> mg d.name = some (.ref fa) ->
    s₁.heap.get? a = some { cls:=.type "list",data:=.seq vs.toArray } -> IntsAre vs ns -> ns.length <= n -> s₁.gens = #[] ->
    codeAny (model l.prog w) callerA (.call (.ref fa) ⟨[.ref a],[]⟩) (fun r s'=>r = .ok (.ret (.bool true)) /\ OldK s₁.heap s'.heap /\ s'.os = s₁.os /\ AllBare s'.gens) s₁):
  WalkO q loose XP YP l.row.toRowW d [] (fun f vs=>PySem.call f vs):=by
 intro w s₀ s₁ mg mb G Y fa o pm cd doc dV kV ho hd hcd hD hmg hg args vals as hpre hlay hrd hwl hlo
 obtain rfl:dV = .none:=Dflts.none hD hdf
 obtain rfl:kV = .none:=Dflts.noKw hD
 obtain ⟨a,vs,ns,rfl,rfl,hobj,hints,hlen⟩:=Bc hn hpre hwl
 refine enter_call (codeAny_mono (call w s₀ s₁ mg mb fa o pm cd doc a vs ns G Y ho (fd_plain hd) hcd hmg hobj hints hlen hg) fun r s' hq=>?_)
 obtain ⟨rfl,h2,h3,h4⟩:=hq
 exact ⟨.inl ⟨.bool true,.bool true,[],rfl,fun _=>rfl,.bool true,A8 l _,fun _=>⟨List.Pairwise.nil,fun _ hm=>(nomatch hm)⟩⟩,h2,h3,h4⟩
end Att
namespace L2
open PySem PySem.Spec PyProof.Rows
theorem uW:∀ {vs:List Value} {ns:List Int},IntsAre vs ns -> Vals (ns.map V.int) vs
 | _,_,.nil=>.nil
 | _,_,.cons n t h=>.cons ⟨t,rfl⟩ (uW h)
noncomputable def GO (H:Hp):Prop:=∀ b,H b = none \/ ∃ o xs,H b = some (.frz o (.lst xs))
theorem DE {P:Program} {w:World} {K:PySem.W.Frag} {mg mb:Str -> Option Value} {CX:CXT} {k:Nat} {fa a:Addr} {fd:FuncData} {x:Str} {sp:Sp} {s₁:Shared} {vs:List Value} {ns:List Int}
  (KX:K.In s₁.heap) (hns:s₁.heap.Ns mainGlobals mg) (hb:s₁.heap.Ns builtinsNs mb) (hbb:∀ x:Str,x ≠ "__name__" -> mb x = bootBuiltins x) (hlim:s₁.heap.NoLimit) (hg:s₁.gens = #[])
  (ha:s₁.heap.get? a = some { cls:=.type "list",data:=.seq vs.toArray }) (hi:IntsAre vs ns) (hl:ns.length <= sizeLine) (hr:ie k callerA)
  (F:∀ base:Heap,K.In base -> base.Ns mainGlobals mg -> cB P w K mg base CX k fa fd [x] sp) (hbind:∀ (s:Shared) (u:Value),BindsTo s fd ⟨[u],[]⟩ [(x,u)])
  (hsp:∀ H:Hp,GO H -> SqL K H a (ns.map V.int) -> sp [.ref a] H (fun v _=>v = .bl true) fun _ _ _=>False)
  (hCX:∀ H e s',CX [] H s₁ (fun _ _ _=>False) e s' -> False):
  codeAny (model P w) callerA (.call (.ref fa) ⟨[.ref a],[]⟩) (fun r s'=>r = .ok (.ret (.bool true)) /\ OldK s₁.heap s'.heap /\ s'.os = s₁.os /\ AllBare s'.gens) s₁:=by
 have rv:=uW hi
 have lenV:=hi.length
 have core:∀ H:Hp,GO H -> SqL K H a (ns.map V.int) -> HOk P w H s₁.heap -> (∀ b,H b ≠ none -> b = a) -> (H a ≠ none -> K.lookup a = none) ->
   codeAny (model P w) callerA (.call (.ref fa) ⟨[.ref a],[]⟩) (fun r s'=>r = .ok (.ret (.bool true)) /\ OldK s₁.heap s'.heap /\ s'.os = s₁.os /\ AllBare s'.gens) s₁:=by
  intro H hO hS hok hA hK
  have base_of:∀ {b:Addr} {o:Obj},s₁.heap.get? b = some o -> H b = none -> (wH s₁.heap H).get? b = some o:=fun e n=>B4 e n
  have noA:∀ {b:Addr} {o:Obj} {es:Array DictEntry} {ep:Nat},s₁.heap.get? b = some o -> o.data = .dict es ep -> H b = none:=fun {b o es ep} e d=>by
   cases q:H b with
   | none=>rfl
   | some u=>
     have e':b = a:=hA b (by rw [q]; simp)
     subst e'
     rw [ha] at e; cases e
     have d':Data.seq vs.toArray _ = Data.dict es ep:=d
     cases d'
  have nsK:∀ {b:Addr} {m:Str -> Option Value},s₁.heap.Ns b m -> (wH s₁.heap H).Ns b m:=fun {b m} ⟨o,es,ep,e,d,r⟩=>⟨o,es,ep,base_of e (noA e d),d,r⟩
  have hKb:K.In (wH s₁.heap H):=fun b o e=>base_of (KX b o e) (by
   cases q:H b with
   | none=>rfl
   | some u=>
     have e':b = a:=hA b (by rw [q]; simp)
     subst e'
     rw [hK (by rw [q]; simp)] at e; cases e)
  have hM:Mod K mg (wH s₁.heap H):=⟨hKb,nsK hns,⟨mb,nsK hb,hbb⟩,let ⟨mc,h1,h2⟩:=hlim; ⟨mc,nsK h1,h2⟩⟩
  have e0:yz P w K mg (wH s₁.heap H) callerA [] s₁ H:=⟨rfl,hM,fun b o e=>D2 e,Nat.le_of_eq (Be _ _),trivial,fun b hb=>absurd (show b ∈ ([]:List Addr) from hb) (by simp),hok,.of_eq hg⟩
  refine codeAny_mono ((F _ hKb (nsK hns)).run callerA [] s₁ H ⟨[.ref a],[]⟩ [.ref a] [.ref a] _ _ hr e0 (hbind s₁ (.ref a)) (.cons rfl .nil) (hsp H hO hS)) fun r s' h=>?_
  cases r with
  | error e=>exact (hCX H e s' h).elim
  | ok fl=>
    cases fl with
    | next=>exact False.elim h
    | brk=>exact False.elim h
    | cont=>exact False.elim h
    | ret u=>
      obtain ⟨v,H',os,bare,un,hok',r',q⟩:=h
      have q':v = .bl true:=q
      subst q'
      obtain rfl:u = Value.bool true:=r'
      refine ⟨rfl,OldK.of_keep fun b o e=>?_,os,bare⟩
      cases q:H b with
      | none=>exact un.keep b o e q (by intro z; exact absurd (show b ∈ ([]:List Addr) from z) (by simp)) (by simp)
      | some u=>
        rcases hO b with z | ⟨ob,xs,z⟩
        . rw [q] at z; cases z
        . have z2:=un.frzs b ob _ z
          obtain ⟨e1,_⟩:=hok b _ z
          obtain ⟨e2,_⟩:=hok' b _ z2
          rw [e] at e1; cases e1
          exact e2
 cases hk:K.lookup a with
 | some o=>
   have e:=KX a o hk
   rw [ha] at e
   cases e
   refine core (fun _=>none) (fun _=>.inl rfl) (.inr ⟨_,vs.toArray,_,hk,rfl,rfl,rfl,by rw [List.size_toArray,lenV]; exact hl,by simpa using rv⟩) (fun b u z=>by have z':(none:Option HO) = some u:=z; cases z') (fun b z=>absurd rfl z) fun z=>absurd rfl z
 | none=>
   refine core (fun b=>if b = a then some (.frz { cls:=.type "list",data:=.seq vs.toArray } (.lst (ns.map V.int))) else none) (fun b=>?_) (.inl (.inr ⟨{ cls:=.type "list",data:=.seq vs.toArray },if_pos rfl⟩)) (fun b u z=>?_) (fun b z=>?_) fun _=>hk
   . by_cases hb:b = a
     . exact .inr ⟨_,_,if_pos hb⟩
     . exact .inl (if_neg hb)
   . by_cases hb:b = a
     . have z':=(if_pos hb).symm.trans z
       cases z'
       subst hb
       exact ⟨ha,by rw [List.length_map]; exact hl,vs,_,rv,ha⟩
     . have z':=(if_neg hb).symm.trans z
       cases z'
   . by_cases hb:b = a
     . exact hb
     . exact absurd (if_neg hb) z
end L2
namespace L2
open PySem PySem.Spec PyProof.Rows
abbrev KOf {K:PySem.W.Frag} {h:Heap} (_:K.In h):PySem.W.Frag:=K
theorem Fe {l:PySem.W.OpenLaw} {n k:Nat} {q:Program} {loose:List Str} {XP:(Str -> Option Value) -> Heap -> Prop} {YP:World -> Heap -> Prop} {d:DefRec} {K:Params -> PySem.W.Frag} {CX:World -> CXT} {sp:World -> Sp} {x:Str}
  (hn:l.most = some n) (hn2:n <= sizeLine) (hdf:d.params.defaults = []) (hr:ie k callerA)
  (hY:∀ (w:World) (h:Heap),YP w h -> (K w.params).In h)
  (F:∀ (w:World) (mg:Str -> Option Value) (fa:Addr) (h:Heap),(K w.params).In h -> h.Ns mainGlobals mg -> mg d.name = some (.ref fa) ->
    ∃ fd:FuncData,(∀ (s:Shared) (u:Value),BindsTo s fd ⟨[u],[]⟩ [(x,u)]) /\
      ∀ base:Heap,(K w.params).In base -> base.Ns mainGlobals mg -> cB l.prog w (K w.params) mg base (CX w) k fa fd [x] (sp w))
  (hsp:∀ (w:World) (H:Hp) (a:Addr) (ns:List Int),ns.length <= n -> GO H -> SqL (K w.params) H a (ns.map V.int) -> sp w [.ref a] H (fun v _=>v = .bl true) fun _ _ _=>False)
  (hCX:∀ (w:World) (H:Hp) (s:Shared) (e:Value) (s':Shared),CX w [] H s (fun _ _ _=>False) e s' -> False):
  PySem.W.WalkO q loose XP YP l.row.toRowW d [] (fun f vs=>PySem.call f vs):=by
 refine Att.xn hn hdf fun w s₀ s₁ mg mb fa o pm cd doc a vs ns G Y ho hd hcd hmg hobj hints hlen hg=>?_
 have KX:=hY w _ Y
 obtain ⟨fd,hb,hF⟩:=F w mg fa _ KX G.T.g hmg
 exact DE KX G.T.g G.T.b G.T.builtins G.T.nolimit hg hobj hints (Nat.le_trans hlen hn2) hr hF hb (fun H hO hS=>hsp w H a ns hlen hO hS) fun H e s'=>hCX w H s₁ e s'
end L2
namespace L2
open PySem PySem.Spec PyProof.Rows
def inClass (s:Stmt) (j:Nat):Stmt:=match s with
 | .ClassDef _ _ _ body _ _ _ _ _ _ _=>body.getD j (.Pass ⟨0,0,0,0⟩)
 | _=>.Pass ⟨0,0,0,0⟩
noncomputable def eO (s:Stmt):Arguments:=match s with
 | .FunctionDef _ a _ _ _ _ _ _ _ _=>a
 | _=>{ posonlyargs:=[],args:=[],vararg:=none,kwonlyargs:=[],kw_defaults:=[],kwarg:=none,defaults:=[] }
noncomputable def dJ (s:Stmt):List Stmt:=match s with
 | .FunctionDef _ _ b _ _ _ _ _ _ _=>b
 | _=>[]
noncomputable def aA (s:Stmt):Scope:=match s with
 | .FunctionDef _ _ _ _ _ _ sc _ _ _=>sc
 | _=>{ kind:=.function,names:=[],isGenerator:=false,isCoroutine:=false }
structure Fun (K:PySem.W.Frag) (x qual:Str) (st:Stmt) (f:Addr) (fd:FuncData):Prop where
 ex:∃ (oc:Value) (od:Option Addr) (kV doc pm:Value) (an:Option Addr) (cdv ct:Value) (osl:Array (Option Value)),
  fd = PySem.W.fnOf x qual (eO st) (dJ st) (aA st) .none kV doc pm an cdv ct /\ K.lookup f = some ⟨oc,od,.func fd,osl⟩ /\ PySem.W.codeIn K cdv qual = true
 kp:PySem.W.keepIn K (.ref f) = true
section
variable {P:Program} {w:World} {K:PySem.W.Frag} {mg:Str -> Option Value} {base:Heap}
theorem Fun.binds {x qual:Str} {st:Stmt} {f:Addr} {fd:FuncData} {ps:List Str} (F:Fun K x qual st f fd)
  (h:∀ (kV doc pm:Value) (an:Option Addr) (cdv ct:Value) (us:List Value),us.length = ps.length -> bindArgs (PySem.W.fnOf x qual (eO st) (dJ st) (aA st) .none kV doc pm an cdv ct) ⟨us,[]⟩ = pure (ps.zip us)):Binds K fd ps []:=by
 obtain ⟨oc,od,kV,doc,pm,an,cdv,ct,osl,rfl,lk,hcd⟩:=F.ex
 exact .all (h kV doc pm an cdv ct)
theorem kM {x qual:Str} {st:Stmt} {f:Addr} {oc:Value} {od an:Option Addr} {osl:Array (Option Value)} {kV doc pm cdv ct:Value} (l:K.lookup f = some ⟨oc,od,.func (PySem.W.fnOf x qual (eO st) (dJ st) (aA st) .none kV doc pm an cdv ct),osl⟩)
  (c:PySem.W.codeIn K cdv qual = true) (k:PySem.W.keepIn K (.ref f) = true):Fun K x qual st f (PySem.W.fnOf x qual (eO st) (dJ st) (aA st) .none kV doc pm an cdv ct):=⟨⟨oc,od,kV,doc,pm,an,cdv,ct,osl,rfl,l,c⟩,k⟩
end
theorem FF {A:Around} {k:Nat} (hr:ie k A):A.units + 1 < cLine:=Nat.lt_of_le_of_lt (Nat.add_le_add_left (by decide:1 <= 64) _) hr.units
section
variable {X:Cx}
theorem pv (i:Nat) {x:Str} {pos:Pos} (hN:X.N[i]? = some x:=by rfl) (hv:Vis X.env.scope x:=by first | exact Or.inl rfl | exact Or.inr (Or.inl rfl) | exact Or.inr (Or.inr rfl)) (hd:(x == ("__debug__":Str)) = false:=by decide)
  (hcd:(x == ("__classdict__":Str)) = false:=by decide):PE X (.Name x pos) (yM i):=HX hN hv hd hcd
end
theorem wa {A B:Prop} (h:B):if false = true then A else B:=by
 rw [if_neg Bool.false_ne_true]
 exact h
theorem wK {A B:Prop} (h:A):if true = true then A else B:=by
 rw [if_pos rfl]
 exact h
noncomputable def aI (H H':Hp):Prop:=∀ b o,H b = some o -> H' b = some o
theorem aI.refl (H:Hp):aI H H:=fun _ _ h=>h
theorem aI.trans {H H1 H2:Hp} (a:aI H H1) (b:aI H1 H2):aI H H2:=fun c o h=>b c o (a c o h)
theorem aI.free {H H':Hp} (e:aI H H') {l:Addr} (h:H' l = Option.none):H l = Option.none:=by
 cases q:H l with
 | none=>rfl
 | some o=>
   rw [e l o q] at h
   cases h
theorem aI.seq {K:PySem.W.Frag} {H H':Hp} {a:Addr} {xs:List V} (e:aI H H') (h:SqL K H a xs):SqL K H' a xs:=by
 rcases h with (h | ⟨o,h⟩) | h
 . exact .inl (.inl (e _ _ h))
 . exact .inl (.inr ⟨o,e _ _ h⟩)
 . exact .inr h
end L2
namespace L2
open PySem PySem.Spec PyProof.Rows
section
variable {κ:Type} [DecidableEq κ]
noncomputable def lG (kvs:List (κ × V)) (k:κ):Option V:=(kvs.find? fun kv=>decide (kv.1 = k)).map (·.2)
noncomputable def putK (kvs:List (κ × V)) (k:κ) (v:V):List (κ × V):=
 if (kvs.any fun kv=>decide (kv.1 = k)) = true then kvs.map (fun kv=>if kv.1 = k then (kv.1,v) else kv) else kvs ++ [(k,v)]
theorem ux {p:κ × V} {r:List (κ × V)} {k:κ} (e:p.1 = k):lG (p ::r) k = some p.2:=by simp [lG,List.find?_cons,e]
theorem uE {p:κ × V} {r:List (κ × V)} {k:κ} (e:¬ p.1 = k):lG (p ::r) k = lG r k:=by simp [lG,List.find?_cons,e]
theorem xX (k:κ):∀ kvs:List (κ × V),(kvs.any fun kv=>decide (kv.1 = k)) = (lG kvs k).isSome
 | []=>rfl
 | p ::r=>by
   rw [List.any_cons]
   by_cases e:p.1 = k
   . simp only [ux e,decide_eq_true e,Bool.true_or,Option.isSome_some]
   . rw [uE e,decide_eq_false e,Bool.false_or]; exact xX k r
theorem xi (kvs:List (κ × V)) (k:κ) (v:V):(putK kvs k v).length <= kvs.length + 1:=by
 unfold putK
 split
 . rw [List.length_map]; omega
 . rw [List.length_append,List.length_cons,List.length_nil]; omega
theorem BP {kvs:List (κ × V)} {k:κ} (v:V) (h:lG kvs k = none):putK kvs k v = kvs ++ [(k,v)]:=by
 unfold putK
 rw [xX,h]
 exact if_neg (by decide)
theorem br.vi {o:Option V} {u:Option Value} (r:br o u):o.isSome = u.isSome:=by
 cases o with
 | none=>cases u with
   | none=>rfl
   | some _=>exact (show False from r).elim
 | some _=>cases u with
   | none=>exact (show False from r).elim
   | some _=>rfl
theorem br.getD {o:Option V} {u:Option Value} {d:V} {d':Value} (r:br o u) (rd:RelV d d'):RelV (o.getD d) (u.getD d'):=by
 cases o with
 | none=>cases u with
   | none=>exact rd
   | some _=>exact (show False from r).elim
 | some _=>cases u with
   | none=>exact (show False from r).elim
   | some _=>exact r
theorem KV.val {kvs:List (κ × V)} {vs:List (κ × Value)} (r:KV kvs vs) (k:κ):br (lG kvs k) (valueAt vs k):=by
 unfold KV at r
 induction r with
 | nil=>exact True.intro
 | @cons p q ps qs h t ih=>
   obtain ⟨h1,h2⟩:=h
   by_cases e:p.1 = k
   . have e':q.1 = k:=h1.symm.trans e
     have b:valueAt (q ::qs) k = some q.2:=by simp [valueAt,List.find?_cons,e']
     rw [ux e,b]; exact h2
   . have e':¬ q.1 = k:=fun z=>e (h1.trans z)
     have b:valueAt (q ::qs) k = valueAt qs k:=by simp [valueAt,List.find?_cons,e']
     rw [uE e,b]; exact ih
theorem KV.any {kvs:List (κ × V)} {vs:List (κ × Value)} (r:KV kvs vs) (k:κ):(kvs.any fun kv=>decide (kv.1 = k)) = vs.any fun kv=>decide (kv.1 = k):=by
 unfold KV at r
 induction r with
 | nil=>rfl
 | cons h t ih=>rw [List.any_cons,List.any_cons,ih,h.1]
theorem KV.Ld {kvs:List (κ × V)} {vs:List (κ × Value)} (r:KV kvs vs) (k:κ) {y:V} {u:Value} (ry:RelV y u):
  KV (kvs.map fun kv=>if kv.1 = k then (kv.1,y) else kv) (vs.map fun kv=>if kv.1 = k then (kv.1,u) else kv):=by
 unfold KV at r ⊢
 induction r with
 | nil=>exact .nil
 | @cons p q ps qs h t ih=>
   rw [List.map_cons,List.map_cons]
   refine .cons ?_ ih
   obtain ⟨h1,h2⟩:=h
   by_cases e:p.1 = k
   . rw [if_pos e,if_pos (h1.symm.trans e)]; exact ⟨h1,ry⟩
   . rw [if_neg e,if_neg (fun z=>e (h1.trans z))]; exact ⟨h1,h2⟩
theorem KV.put {kvs:List (κ × V)} {vs:List (κ × Value)} (r:KV kvs vs) (k:κ) {y:V} {u:Value} (ry:RelV y u):KV (putK kvs k y) (stored vs k u):=by
 unfold putK stored
 rw [r.any k]
 by_cases e:(vs.any fun kv=>decide (kv.1 = k)) = true
 . rw [if_pos e,if_pos e]; exact r.Ld k ry
 . rw [if_neg e,if_neg e]; exact Paired.snoc r ⟨rfl,ry⟩
theorem KV.keys {kvs:List (κ × V)} {vs:List (κ × Value)} (r:KV kvs vs):kvs.map (·.1) = vs.map (·.1):=by
 unfold KV at r
 induction r with
 | nil=>rfl
 | cons h t ih=>rw [List.map_cons,List.map_cons,ih,h.1]
end
theorem zN {P:Program} {w:World} {k:Key} {u:Value} (r:RelV (kV k) u):(fX P w).is k u = true:=by
 cases k with
 | inl i=>obtain ⟨t,e⟩:=(show ∃ t,u = Value.int i t from r); subst e; exact xF P w i t
 | inr x=>obtain ⟨t,e⟩:=(show ∃ t,u = Value.str x t from r); subst e; exact yr P w x t
theorem vf {P:Program} {w:World}:∀ {ks:List Key} {us:List Value},Vals (ks.map kV) us -> ItemsAre (fX P w) ks us
 | [],_,r=>by rw [List.map_nil] at r; cases r; exact .nil
 | k ::ks,_,r=>by
   rw [List.map_cons] at r
   cases r with
   | cons h t=>exact .cons (zN h) (vf t)
abbrev KT (H:Hp):List (List Key × V) -> List (List Key × Addr × Value) -> Prop:=Paired fun p q=>p.1 = q.1 /\ H q.2.1 = some (.tup (p.1.map kV)) /\ RelV p.2 q.2.2
theorem KT.val {H:Hp} {kvs:List (List Key × V)} {xs:List (List Key × Addr × Value)} (r:KT H kvs xs) (k:List Key):br (lG kvs k) ((atKey xs k).map (·.2)):=by
 induction r with
 | nil=>exact True.intro
 | @cons p q ps qs h t ih=>
   obtain ⟨h1,_,h2⟩:=h
   by_cases e:p.1 = k
   . have e':q.1 = k:=h1.symm.trans e
     have b:atKey (q ::qs) k = some q.2:=by simp [atKey,List.find?_cons,e']
     rw [ux e,b]; exact h2
   . have e':¬ q.1 = k:=fun z=>e (h1.trans z)
     have b:atKey (q ::qs) k = atKey qs k:=by simp [atKey,List.find?_cons,e']
     rw [uE e,b]; exact ih
theorem KT.keeps {H H':Hp} {kvs:List (List Key × V)} {xs:List (List Key × Addr × Value)} (r:KT H kvs xs) (ht:∀ b ys,H b = some (.tup ys) -> H' b = some (.tup ys)):KT H' kvs xs:=
 Paired.Gm r fun _ _ z=>⟨z.1,ht _ _ z.2.1,z.2.2⟩
section
variable {P:Program} {w:World} {H:Hp} {h:Heap} {a:Addr}
theorem FI {u:HO} (ok:HOk P w H h) (e:Rd H a u):gc P w H h a u:=e.ok ok
theorem Am {kvs:List (Key × V)} (ok:HOk P w H h) (e:Rd H a (.dK kvs)):kvs.length <= sizeLine /\ (a == sysModules) = false /\ ∃ vs,KV kvs vs /\ h.DictOf (fX P w) a vs:=
 show gc P w H h a (.dK kvs) from FI ok e
theorem Kr {kvs:List (Key × V)} (ok:HOk P w H h) (e:H a = some (.dK kvs)):kvs.length <= sizeLine /\ (a == sysModules) = false /\ ∃ vs,KV kvs vs /\ h.DictOf (fX P w) a vs:=Am ok (.inl e)
theorem ze {ks:List Key} (ok:HOk P w H h) (e:H a = some (.tup (ks.map kV))):(tupleKind (fX P w)).is h ks a:=by
 obtain ⟨_,its,r,o,h1,h2,n,h3⟩:=(show gc P w H h a (.tup (ks.map kV)) from ok a _ e)
 exact ⟨o,its.toArray,n,h1,h2,h3,by simpa using vf r⟩
theorem Co {kvs:List (List Key × V)} (ok:HOk P w H h) (e:Rd H a (.dT kvs)):kvs.length <= sizeLine /\ (a == sysModules) = false /\
  ∃ xs,KT H kvs xs /\ h.DictOfH (tupleKind (fX P w)) a xs:=by
 obtain ⟨z,y,xs,r,o,es,ep,h1,h2,h3,h4,h5⟩:=(show gc P w H h a (.dT kvs) from FI ok e)
 refine ⟨z,y,xs,r,o,es,ep,h1,h2,h3,h4,fun x hx=>?_,h5⟩
 have all:∀ {l:List (List Key × V)} {m:List (List Key × Addr × Value)},KT H l m -> ∀ x ∈ m,(tupleKind (fX P w)).is h x.1 x.2.1:=by
  intro l m q
  induction q with
  | nil=>intro x hx; exact nomatch hx
  | @cons p q ps qs hq t ih=>
    intro x hx
    rcases List.mem_cons.mp hx with e | hx
    . subst e
      exact ze ok (by rw [<- hq.1]; exact hq.2.1)
    . exact ih x hx
 exact all r x hx
end
noncomputable def v5 (H:Hp) (a:Addr) (y:V) (r:Option V):Prop:=
 (∃ kvs k,Rd H a (.dK kvs) /\ y = kV k /\ r = lG kvs k) \/ ∃ kvs k b,Rd H a (.dT kvs) /\ y = .ref b /\ H b = some (.tup (k.map kV)) /\ r = lG kvs k
theorem v5.k {H:Hp} {a:Addr} {kvs:List (Key × V)} {k:Key} (e:H a = some (.dK kvs)):v5 H a (kV k) (lG kvs k):=.inl ⟨kvs,k,.inl e,rfl,rfl⟩
section
variable {X:Cx} {pins:List (Addr × Obj)} {σ:St} {H:Hp} {s:Shared} {a:Addr} {y v:V} {u r:Value} {o:Option V} {A:Around} {E:Value -> Shared -> Prop}
theorem Inv.big (I:Inv X pins σ H s):sysModules < s.heap.objs.size:=by
 have h:mainGlobals < s.heap.objs.size:=(I.mod.glob.keeps I.bk).lt
 exact Nat.lt_trans (by decide) h
theorem Bp {Q:Value -> Shared -> Prop} (hu:A.units + 1 < cLine) (I:Inv X pins σ H s) (g:v5 H a y (some v)) (ry:RelV y u) (h:∀ w' s',Inv X pins σ H s' -> RelV v w' -> Q w' s'):
  wpAny (model X.prog X.w) A (getItem (.ref a) u) Q E s:=by
 rcases g with ⟨kvs,k,e,ey,l⟩ | ⟨kvs,k,b,e,ey,eb,l⟩
 . subst ey
   obtain ⟨z,hd,vs,rel,dd⟩:=Am I.hok e
   obtain ⟨w',hw,rw'⟩:=br.some_of (v:=v) (o:=valueAt vs k) (by rw [l]; exact rel.val k)
   exact wpAny_getItem_of (zN ry) dd.mapOf hw (h w' _ (I.tok _) rw')
 . subst ey
   cases (show u = Value.ref b from ry)
   obtain ⟨z,hd,xs,rel,dd⟩:=Co I.hok e
   obtain ⟨w',hw,rw'⟩:=br.some_of (v:=v) (o:=(atKey xs k).map (·.2)) (by rw [l]; exact rel.val k)
   obtain ⟨p,hp,hp2⟩:=Option.map_eq_some_iff.mp hw
   refine wpAny_getItem_heap (tupleKind_room_in1 hu) (ze I.hok eb) dd hp ?_
   rw [hp2]
   exact h w' _ (I.tok _) rw'
theorem L9 {Q:Value -> Shared -> Prop} (hu:A.units + 1 < cLine) (I:Inv X pins σ H s) (g:v5 H a y o) (ry:RelV y u) (h:∀ s',Inv X pins σ H s' -> Q (.bool o.isSome) s'):
  wpAny (model X.prog X.w) A (compareOp .In u (.ref a)) Q E s:=by
 rcases g with ⟨kvs,k,e,ey,l⟩ | ⟨kvs,k,b,e,ey,eb,l⟩
 . subst ey
   obtain ⟨z,hd,vs,rel,dd⟩:=Am I.hok e
   refine wpAny_in_of (zN ry) hd dd.mapOf ?_
   rw [<- (rel.val k).vi,<- l]
   exact h _ (I.tok _)
 . subst ey
   cases (show u = Value.ref b from ry)
   obtain ⟨z,hd,xs,rel,dd⟩:=Co I.hok e
   refine wpAny_in_heap (tupleKind_room_in1 hu) (ze I.hok eb) hd dd ?_
   have q:=(rel.val k).vi
   rw [Option.isSome_map] at q
   rw [<- q,<- l]
   exact h _ (I.tok _)
theorem Fq {h':Heap} {t':Nat} {ob:HO} (I:Inv X pins σ H s) (mu:Mut (H a)) (hs:Heap.SameBut a s.heap h') (he:∃ q,h'.get? a = some q) (new:gc X.prog X.w (upd H a ob) h' a ob):
  Inv X pins σ (upd H a ob) { s with heap:=h',toks:=t' }:=
 I.write (x:=a) (e:=a) mu (.inl rfl) (fun b q hb z=>(hs.2 b hb).trans z) he new
theorem Iq {P:Program} {w:World} {H':Hp} {h':Heap} {kvs:List (Key × V)} {vs:List (Key × Value)} (z:kvs.length <= sizeLine) (hd:(a == sysModules) = false) (rel:KV kvs vs) (dd:h'.DictOf (fX P w) a vs):
  gc P w H' h' a (.dK kvs):=⟨z,hd,vs,rel,dd⟩
end
noncomputable def IQ (i:Expr):Prop:=∀ ov iv,subscripted i false ov iv = operate [ov,iv] (getItem ov iv)
theorem EU {prog:Program} {w:World} {A:Around} {E:Value -> Shared -> Prop} {s:Shared} {env:Env} {value slice:Expr} {pos:Pos} {T id:String} {Q:Value -> Shared -> Prop}
  (hl:typeLookup (.type T) "__getitem__" = pure (some (.builtin id))) (hs:IQ slice)
  (h:wpAny (model prog w) A (eval value env) (fun o s₁=>wpAny (model prog w) A (eval slice env) (fun i s₂=>s₂.TypeIs o T /\ wpAny (model prog w) A (getItem o i) Q E s₂) E s₁) E s):
  wpAny (model prog w) A (eval (.Subscript value slice pos) env) Q E s:=by
 refine Subscript_ (wpAny_mono h (fun o s₁ h₁=>wpAny_mono h₁ (fun i s₂ h₂=>?_) fun _ _ x=>x) fun _ _ x=>x)
 obtain ⟨hT,h₂⟩:=h₂
 unfold subscriptTail
 refine wpAny_bind ?_
 rw [getitemInPython_of_ne hT.not_modules]
 refine wpAny_bind (wpAny_specialOf hT hl ?_)
 have fin:wpAny (model prog w) A (subscripted slice false o i) (fun r s₃=>wpAny (model prog w) A (letTemporaryGo value o r >>= fun _=>pure r) Q E s₃) E s₂:=by
  rw [hs o i]
  exact wpAny_operating (wpAny_mono h₂ (fun r s₃ h₃=>wpAny_bind (wpAny_letTemporaryGo (wpAny_pure h₃))) fun _ _ x=>x)
 first
  | exact wpAny_pure (wpAny_bind fin)
  | exact wpAny_bind (wpAny_pure (wpAny_bind fin))
  | exact wpAny_bind fin
theorem xA {X:Cx} {pins:List (Addr × Obj)} {σ:St} {H:Hp} {s:Shared} {a:Addr} {y:V} {o:Option V} (I:Inv X pins σ H s) (g:v5 H a y o):s.TypeIs (.ref a) "dict":=by
 rcases g with ⟨kvs,k,e,_,_⟩ | ⟨kvs,k,b,e,_,_,_⟩
 . obtain ⟨_,_,vs,_,dd⟩:=Am I.hok e
   exact dd.typeIs
 . obtain ⟨_,_,xs,_,dd⟩:=Co I.hok e
   exact dd.typeIs
noncomputable def BQ (td ty:TE):TE:=fun σ H Q=>td σ H fun x H1=>ty σ H1 fun y H2=>∃ a v,x = .ref a /\ v5 H2 a y (some v) /\ Q v H2
noncomputable def Ht (ty td:TE):TE:=fun σ H Q=>ty σ H fun y H1=>td σ H1 fun x H2=>∃ a o,x = .ref a /\ v5 H2 a y o /\ Q (.bl o.isSome) H2
section
variable {X:Cx} {o i e value:Expr} {pos pos' tpos:Pos} {td ty tv:TE}
theorem Ej (hu:X.A.units + 1 < cLine) (ho:PE X o td) (hi:PE X i ty) (hs:IQ i):PE X (.Subscript o i pos) (BQ td ty):=by
 intro pins s σ H Q I h
 refine EU PySem.F.slot_dict_getitem.lookup hs (thn (ho pins s σ H _ I h) fun u s1 ⟨x,H1,I1,rx,q1⟩=>thn (hi pins s1 σ H1 _ I1 q1) fun iv s2 ⟨y,H2,I2,ry,a,v,ex,g,q2⟩=>?_)
 subst ex
 obtain rfl:u = Value.ref a:=rx
 exact ⟨xA I2 g,Bp hu I2 g ry fun w' s3 I3 rw'=>⟨v,H2,I3,rw',q2⟩⟩
theorem HM (hu:X.A.units + 1 < cLine) (hi:PE X i ty) (ho:PE X o td):PC X .In i o (Ht ty td):=by
 intro pins s σ H Q I h
 refine thn (hi pins s σ H _ I h) fun iv s1 ⟨y,H1,I1,ry,q1⟩=>thn (ho pins s1 σ H1 _ I1 q1) fun u s2 ⟨x,H2,I2,rx,a,ov,ex,g,q2⟩=>?_
 subst ex
 obtain rfl:u = Value.ref a:=rx
 exact L9 hu I2 g ry fun s3 I3=>⟨.bl ov.isSome,H2,I3,rfl,q2⟩
end
theorem CT {P:Program} {w:World} {H:Hp} (h:Heap) (hb:sysModules < h.objs.size):gc P w H (h.push { cls:=.type "dict",data:=.dict #[] }) h.objs.size (.dK []):=
 ⟨Nat.zero_le _,beq_eq_false_iff_ne.mpr (Ne.symm (Nat.ne_of_lt hb)),[],.nil,Heap.DictOf.new h⟩
noncomputable def vw:List (TE × TE) -> St -> Hp -> (List (V × V) -> Hp -> Prop) -> Prop
 | [],_,H,Q=>Q [] H
 | (tk,tv) ::r,σ,H,Q=>tk σ H fun x H1=>tv σ H1 fun y H2=>vw r σ H2 fun ps H3=>Q ((x,y) ::ps) H3
abbrev VV:List (V × V) -> List (Value × Value) -> Prop:=Paired fun p q=>RelV p.1 q.1 /\ RelV p.2 q.2
noncomputable def PPs (X:Cx) (pos:Pos) (keys:List (Option Expr)) (values:List Expr) (trs:List (TE × TE)):Prop:=
 ∀ (pins:List (Addr × Obj)) (s:Shared) (σ:St) (H:Hp) (Q:List (V × V) -> Hp -> Prop),Inv X pins σ H s -> vw trs σ H Q ->
   wpAny (model X.prog X.w) X.A (evalPairs (pairTrees keys values X.env pos)) (fun vs s'=>∃ ps H',Inv X pins σ H' s' /\ VV ps vs /\ Q ps H') X.xe s
theorem Fm {X:Cx} {pos:Pos}:PPs X pos [] [] []:=fun pins s σ H Q I h=>pairTrees_nil_walk ⟨[],H,I,.nil,h⟩
theorem CC {X:Cx} {pos:Pos} {k v:Expr} {ks:List (Option Expr)} {vs:List Expr} {tk tv:TE} {trs:List (TE × TE)} (hk:PE X k tk) (hv:PE X v tv) (hr:PPs X pos ks vs trs):
  PPs X pos (some k ::ks) (v ::vs) ((tk,tv) ::trs):=fun pins s σ H Q I h=>
 pairTrees_cons_walk (thn (hk pins s σ H _ I h) fun u s1 ⟨x,H1,I1,rx,q1⟩=>thn (hv pins s1 σ H1 _ I1 q1) fun w2 s2 ⟨y,H2,I2,ry,q2⟩=>
  thn (hr pins s2 σ H2 _ I2 q2) fun ws s3 ⟨ps,H3,I3,rel,q3⟩=>⟨(x,y) ::ps,H3,I3,.cons ⟨rx,ry⟩ rel,q3⟩)
noncomputable def oW (kvs more:List (Key × V)):List (Key × V):=more.foldl (fun acc kv=>putK acc kv.1 kv.2) kvs
theorem KV.merge:∀ {more:List (Key × V)} {rs:List (Key × Value)} {kvs:List (Key × V)} {vs:List (Key × Value)},KV more rs -> KV kvs vs -> KV (oW kvs more) (merged vs rs):=by
 intro more rs kvs vs r
 unfold KV at r
 induction r generalizing kvs vs with
 | nil=>intro q; exact q
 | @cons p q ps qs h t ih=>
   intro r0
   have e:KV (putK kvs p.1 p.2) (stored vs q.1 q.2):=by
    have:=r0.put p.1 h.2
    rw [<- h.1]; exact this
   exact ih e
theorem p7:∀ (more kvs:List (Key × V)),(oW kvs more).length <= kvs.length + more.length
 | [],kvs=>by show kvs.length <= kvs.length + 0; omega
 | p ::r,kvs=>by
   have h1:=p7 r (putK kvs p.1 p.2)
   have h2:=xi kvs p.1 p.2
   show (oW (putK kvs p.1 p.2) r).length <= _
   rw [List.length_cons]; omega
theorem uc {P:Program} {w:World}:∀ {kvs:List (Key × V)} {ws:List (Value × Value)},VV (kvs.map fun kv=>(kV kv.1,kv.2)) ws -> ∃ rs,Carries (fX P w) ws rs /\ KV kvs rs
 | [],_,r=>by rw [List.map_nil] at r; cases r; exact ⟨[],True.intro,.nil⟩
 | p ::kvs,_,r=>by
   rw [List.map_cons] at r
   cases r with
   | @cons a b as bs h t=>
     obtain ⟨rs,c,q⟩:=uc (P:=P) (w:=w) t
     obtain ⟨b1,b2⟩:=b
     exact ⟨(p.1,b2) ::rs,⟨zN h.1,rfl,c⟩,.cons ⟨rfl,h.2⟩ q⟩
noncomputable def BS (trs:List (TE × TE)):TE:=fun σ H Q=>∀ p,H p = none -> vw trs σ (upd H p (.dK [])) fun ps H2=>H2 p = some (.dK []) /\ ∃ kvs:List (Key × V),ps = kvs.map (fun kv=>(kV kv.1,kv.2)) /\ kvs.length <= 15 /\ Q (.ref p) (upd H2 p (.dK (oW [] kvs)))
theorem D8 {X:Cx} {pos:Pos} {keys:List (Option Expr)} {values:List Expr} {trs:List (TE × TE)} (h:PPs X pos keys values trs) (hall:keys.all (·.isSome) = true) (hl:keys.length = values.length) (h0:keys ≠ [])
  (h15:keys.length <= 15):PE X (.Dict keys values pos) (BS trs):=by
 intro pins s σ H Q I q
 have hn:=I.hok.fresh (Nat.le_refl s.heap.objs.size)
 have I1:=I.laid (a:=s.heap.objs.size) (o:=.dK []) (h':=s.heap.push { cls:=.type "dict",data:=.dict #[] }) (t':=s.toks) (fun _ _ q=>Heap.get?_push_of_some _ q) (Nat.le_refl _) (CT s.heap I.big)
 refine wpAny_Dict_walk (knd:=fX X.prog X.w) hall hl h0 h15 (thn (h pins _ σ _ _ I1 (q _ hn)) fun ws s2 ⟨ps,H2,I2,rel,e,kvs,ep,lk,q2⟩=>?_)
 subst ep
 obtain ⟨rs,c,rk⟩:=uc (P:=X.prog) (w:=X.w) rel
 obtain ⟨z,hd,vs0,r0,dd⟩:=Kr I2.hok e
 cases r0
 refine ⟨rs,c,dd,fun h' dd' hs=>⟨.ref s.heap.objs.size,_,?_,rfl,q2⟩⟩
 have hz:(oW [] kvs).length <= sizeLine:=by
  have h1:=p7 kvs []
  rw [List.length_nil] at h1
  rw [sizeLine_eq]; omega
 have he:∃ q,h'.get? s.heap.objs.size = some q:=let ⟨q,_,_,hq,_⟩:=dd'; ⟨q,hq⟩
 exact Fq I2 (by rw [e]; exact True.intro) hs he (Iq hz hd (rk.merge .nil) dd')
end L2
namespace L2
open PySem PySem.Spec PyProof.Rows
end L2
set_option maxHeartbeats 4000000
namespace L2.E
open PySem PySem.Spec PyProof.Rows
noncomputable def HS (a C:Addr) (dx:Option Addr) (h:Heap):Prop:=∃ o vs,h.get? a = some o /\ o.cls = .ref C /\ o.dict = dx /\ o.data = .fields vs /\ vs.size = 6
noncomputable def TbO (T:Addr) (h:Heap):Prop:=∃ o ts,h.get? T = some o /\ o.data = .fields ts /\ 3 < ts.size
noncomputable abbrev w9 (a C:Addr) (dx:Option Addr):HO:=.ext (HS a C dx)
noncomputable abbrev oTb (T:Addr):HO:=.ext (TbO T)
theorem Ho {P:Program} {w:World} {H:Hp} {h:Heap} {a C:Addr} {dx:Option Addr} (x:HS a C dx h):gc P w H h a (w9 a C dx):=by
 refine ⟨x,let ⟨o,_,e,_⟩:=x; ⟨o,e⟩,fun h1 h2 p k=>?_⟩
 obtain ⟨o,vs,e,r⟩:=p
 exact ⟨o,vs,k o e,r⟩
theorem FC {P:Program} {w:World} {H:Hp} {h:Heap} {T:Addr} (x:TbO T h):gc P w H h T (oTb T):=by
 refine ⟨x,let ⟨o,_,e,_⟩:=x; ⟨o,e⟩,fun h1 h2 p k=>?_⟩
 obtain ⟨o,vs,e,r⟩:=p
 exact ⟨o,vs,k o e,r⟩
theorem C1 {H:Hp} {a:Addr} {o:HO} (h:H a = some o):upd H a o = H:=by
 funext b
 unfold upd
 split
 . rename_i e
   rw [e,h]
 . rfl
structure Fly (H:Hp) (h:Heap) (a C:Addr) (dx:Option Addr):Prop where
 exc:H a = some (w9 a C dx)
 tb:∃ o vs,h.get? a = some o /\ o.data = .fields vs /\ (vs[1]? = some Value.none \/ ∃ T,vs[1]? = some (.ref T) /\ H T = some (oTb T) /\ T ≠ a)
structure Ba (H:Hp) (h:Heap) (a C:Addr) (dx:Option Addr):Prop where
 exc:H a = some (w9 a C dx)
 tb:∃ o vs T,h.get? a = some o /\ o.data = .fields vs /\ vs[1]? = some (.ref T) /\ H T = some (oTb T) /\ T ≠ a
theorem Ba.fly {H:Hp} {h:Heap} {a C:Addr} {dx:Option Addr} (F:Ba H h a C dx):Fly H h a C dx:=
 let ⟨o,vs,T,e1,e2,e3,e4,e5⟩:=F.tb
 ⟨F.exc,o,vs,e1,e2,.inr ⟨T,e3,e4,e5⟩⟩
section
variable {X:Cx} {pins:List (Addr × Obj)} {σ:St} {H:Hp} {s:Shared} {a C:Addr} {dx:Option Addr}
theorem Cj {h₁:Heap} (I:Inv X pins σ H s) (k:Heap.SlotsOnly (frs X.stack) s.heap h₁):Un (frs X.stack) [] H H s.heap h₁ where
 keep:=fun b o e _ hb _=>(k.2.1 b hb).trans e
 slot:=fun b o e _ _ _=>k.2.2 b o e
 free:=fun _ _ _ n _=>n
 there:=fun b o e _=>let ⟨_,q⟩:=k.2.2 b o e; ⟨_,q⟩
 tups:=fun _ _ q=>q
 frzs:=fun _ _ _ q=>q
 tbls:=fun _ ps q=>⟨#[],by rw [q]; simp⟩
theorem By {h₁:Heap} (I:Inv X pins σ H s) (k:Heap.SlotsOnly (frs X.stack) s.heap h₁):HOk X.prog X.w H h₁:=fun b o e=>by
 have nf:∀ c u,H c = some u -> c ∉ frs X.stack:=fun c u q z=>by rw [I.wF c z] at q; cases q
 refine (I.hok b o e).sG (fun c v hc q=>(k.2.1 c ?_).trans q) (fun _ q=>q) fun _ _ q=>q
 rcases hc with z | z
 . rw [z]; exact nf b o e
 . exact nf c _ z
theorem E5 {i:Nat} {v:Value} (I:Inv X pins σ H s) (e:H a = some (w9 a C dx)):
  Inv X pins σ H { s with heap:=s.heap.update a (Obj.mapFields (·.setIfInBounds i v)) }:=by
 obtain ⟨⟨o,vs,ho,hc,hd,hf,hz⟩,_,_⟩:=I.hok a _ e
 have hs:=Heap.get?_update_self (Obj.mapFields (·.setIfInBounds i v)) ho (Obj.isFreed_of_fields (Obj.data_mapFields hf _))
 have q:=I.write (x:=a) (e:=a) (o:=w9 a C dx) (t':=s.toks) (h':=s.heap.update a (Obj.mapFields (·.setIfInBounds i v))) (by rw [e]; trivial) (.inl rfl)
  (fun b u hb q=>(Heap.get?_update_other _ _ (Ne.symm hb)).trans q) ⟨_,hs⟩ (Ho ⟨_,_,hs,by rw [Obj.cls_mapFields]; exact hc,by obtain ⟨c,d,dt,sl⟩:=o; cases dt <;> exact hd,Obj.data_mapFields hf _,by simpa using hz⟩)
 rw [C1 e] at q
 exact q
theorem Cv {T:Addr} {i:Nat} {v:Value} (I:Inv X pins σ H s) (e:H T = some (oTb T)):
  Inv X pins σ H { s with heap:=s.heap.update T (Obj.mapFields (·.setIfInBounds i v)) }:=by
 obtain ⟨⟨o,vs,ho,hf,hz⟩,_,_⟩:=I.hok T _ e
 have hs:=Heap.get?_update_self (Obj.mapFields (·.setIfInBounds i v)) ho (Obj.isFreed_of_fields (Obj.data_mapFields hf _))
 have q:=I.write (x:=T) (e:=T) (o:=oTb T) (t':=s.toks) (h':=s.heap.update T (Obj.mapFields (·.setIfInBounds i v))) (by rw [e]; trivial) (.inl rfl)
  (fun b u hb q=>(Heap.get?_update_other _ _ (Ne.symm hb)).trans q) ⟨_,hs⟩ (FC ⟨_,_,hs,Obj.data_mapFields hf _,by simpa using hz⟩)
 rw [C1 e] at q
 exact q
theorem xr {L:Addr} {head:Value} {had:Bool} {Q:Unit -> Shared -> Prop} {E:Value -> Shared -> Prop} (I:Inv X pins σ H s) (hst:X.stack = X.env ::X.outer) (hf:X.env.frame = some L) (e:H a = some (w9 a C dx))
  (h:∀ s' H',Inv X pins σ H' s' -> aI H H' -> Ba H' s'.heap a C dx -> Q () s'):
  wpAny (model X.prog X.w) X.A (do let fr <- frameOf X.env; let pl <- entryPlaceOf L had; let b <- EntryCells.newEntry head fr .none (rawInt L) .none pl; setField (.ref a) 1 b) Q E s:=by
 have hfr:X.A.frames = some (X.env ::X.outer):=by rw [<- hst]; exact I.ok.frames
 have hl:s.heap.FunFrames X.base (X.env ::X.outer):=by rw [<- hst]; exact I.stack
 refine wpAny_bind (wpAny_frameOf_fun hfr hl hf fun h₁ k₁=>?_)
 have k₁':Heap.SlotsOnly (frs X.stack) s.heap h₁:=by rw [hst]; exact k₁
 have I₁:=I.call (g':=s.gens) (t':=s.toks) (d':=s.drawn) (ch:=[]) (Cj I k₁') (By I k₁') I.bare (fun b z=>absurd z (by simp))
 refine wpAny_bind (wpAny_entryPlaceOf fun pl hpl=>?_)
 unfold EntryCells.newEntry newFields
 refine wpAny_bind (wpAny_newObj_type ?_ (hpl.sizeOk5 _ _ _ _ _))
 have big:3 < ([head,.ref L,.none,rawInt L,.none] ++ (if pl.isEmpty then List.replicate 6 Value.none else pl)).toArray.size:=by
  rw [List.size_toArray,List.length_append]
  show 3 < 5 + _
  omega
 have new:=Heap.get?_push_size h₁ (o:={ cls:=.type "traceback",dict:=none,data:=.fields ([head,.ref L,.none,rawInt L,.none] ++ (if pl.isEmpty then List.replicate 6 Value.none else pl)).toArray }) rfl
 have fr:H h₁.objs.size = none:=I₁.hok.fresh (Nat.le_refl _)
 have ne:h₁.objs.size ≠ a:=fun z=>by rw [z,e] at fr; cases fr
 have I₂:=I₁.laid (a:=h₁.objs.size) (o:=oTb h₁.objs.size) (t':=s.toks) (fun b u q=>Heap.get?_push_of_some _ q) (Nat.le_refl _) (FC ⟨_,_,new,rfl,big⟩)
 have g:aI H (upd H h₁.objs.size (oTb h₁.objs.size)):=fun b u q=>by rw [bJ (eK q fr)]; exact q
 obtain ⟨⟨o,vs,ho,hc,hd,hv,hz⟩,_,_⟩:=I₂.hok a _ (g _ _ e)
 refine wpAny_setField ho hv (by omega) ?_
 refine h _ _ (E5 I₂ (g _ _ e)) g ⟨g _ _ e,_,_,h₁.objs.size,Heap.get?_update_self _ ho (Obj.isFreed_of_fields (Obj.data_mapFields hv _)),Obj.data_mapFields hv _,by simp [hz],bD,ne⟩
theorem Ee {Q:Unit -> Shared -> Prop} {E:Value -> Shared -> Prop} (I:Inv X pins σ H s) (hst:X.stack = X.env ::X.outer /\ X.env.frame = some X.env.locals) (F:Fly H s.heap a C dx)
  (h:∀ s' H',Inv X pins σ H' s' -> aI H H' -> Ba H' s'.heap a C dx -> Q () s'):wpAny (model X.prog X.w) X.A (noteFrame (.ref a) X.env) Q E s:=by
 obtain ⟨o,vs,ho,hv,hw⟩:=F.tb
 unfold noteFrame
 simp only [hst.2]
 rcases hw with h1 | ⟨T,h1,hT,ne⟩
 . refine wpAny_bind (wpAny_field ho hv h1 ?_)
   rw [if_neg (by decide)]
   exact xr I hst.1 hst.2 F.exc h
 . obtain ⟨⟨oT,ts,hoT,hdT,hz⟩,_,_⟩:=I.hok T _ hT
   refine wpAny_bind (wpAny_field ho hv h1 ?_)
   rw [if_pos (show (Value.ref T != Value.none) = true from by simp)]
   have h3:ts[3]? = some ts[3]:=by simp [hz]
   refine wpAny_bind (wpAny_field hoT hdT h3 ?_)
   by_cases c:(ts[3] == rawInt X.env.locals) = true
   . rw [if_pos c]
     exact wpAny_pure (h s H I (aI.refl H) ⟨F.exc,o,vs,T,ho,hv,h1,hT,ne⟩)
   . rw [if_neg c]
     refine wpAny_bind (wpAny_setField hoT hdT hz ?_)
     exact xr (Cv I hT) hst.1 hst.2 F.exc h
theorem Bz {x:Option Addr} {Q:Unit -> Shared -> Prop} {E:Value -> Shared -> Prop} (I:Inv X pins σ H s) (F:Ba H s.heap a C dx)
  (h:∀ s',Inv X pins σ H s' -> Ba H s'.heap a C dx -> Q () s'):wpAny (model X.prog X.w) X.A (setFlight (.ref a) x) Q E s:=by
 obtain ⟨o,vs,T,ho,hv,h1,hT,ne⟩:=F.tb
 unfold setFlight
 obtain ⟨⟨oT,ts,hoT,hdT,hz⟩,_,_⟩:=I.hok T _ hT
 refine wpAny_bind (wpAny_field ho hv h1 ?_)
 rw [if_pos (show (Value.ref T != Value.none) = true from by simp)]
 refine wpAny_setField hoT hdT hz ?_
 exact h _ (Cv I hT) ⟨F.exc,o,vs,T,(Heap.get?_update_other _ _ ne).trans ho,hv,h1,hT,ne⟩
end
noncomputable def CXE (P:Program) (w:World):CXT:=fun outer H s E e s'=>∃ a C dx H',e = .ref a /\ s'.os = s.os /\ AllBare s'.gens /\ Un (frs outer) [] H H' s.heap s'.heap /\ HOk P w H' s'.heap /\ Fly H' s'.heap a C dx /\ E (.ref C) (some a) H'
abbrev XW:=Value -> Option Addr -> St -> Hp -> Prop
noncomputable def Thr (X:Cx) (W:XW):Prop:=∀ (pins:List (Addr × Obj)) (σ:St) (H:Hp) (s:Shared) (a C:Addr) (dx:Option Addr),Inv X pins σ H s -> Fly H s.heap a C dx -> W (.ref C) (some a) σ H -> X.xe (.ref a) s
section
variable {CX:CXT} {P:Program} {w:World} {K:PySem.W.Frag} {mg:Str -> Option Value} {base:Heap} {N:List Str} {qual:Str} {scope:Scope} {f:Addr} {cd:Value} {A:Around} {outer:List Env} {s₀:Shared} {H₀:Hp} {E:XK}
theorem aN:Thr (rA (CXE P w) P w K mg base N qual scope f cd A outer s₀ H₀ E) (fun C a _ H=>∀ H',aI H H' -> E C a H'):=by
 intro pins σ H s a C dx I F hw
 show wpAny _ _ (leaving _ _) _ _ s
 unfold leaving
 refine wpAny_bind (Ee I ⟨rfl,rfl⟩ F fun s1 H1 I1 g1 F1=>?_)
 refine Bz I1 F1 fun s2 I2 F2=>?_
 exact ⟨a,C,dx,H1,rfl,I2.os,I2.bare,I2.base,I2.hok,F2.fly,hw H1 g1⟩
theorem jI:PassesOwn (model P w) (rA (CXE P w) P w K mg base N qual scope f cd A outer s₀ H₀ E).A (rA (CXE P w) P w K mg base N qual scope f cd A outer s₀ H₀ E).env (rA (CXE P w) P w K mg base N qual scope f cd A outer s₀ H₀ E).xe:=by
 show PassesOwn (model P w) (A.deeper (envOfC qual scope s₀.heap.objs.size f cd)) (envOfC qual scope s₀.heap.objs.size f cd) (fun e s'=>wpAny (model P w) (A.deeper (envOfC qual scope s₀.heap.objs.size f cd)) (leaving (envOfC qual scope s₀.heap.objs.size f cd) e) (fun _ s''=>CXE P w outer H₀ s₀ E e s'') (fun e' s''=>CXE P w outer H₀ s₀ E e' s'') s')
 passes_own
end
section
variable {X:Cx} {k:Nat} {f:Addr} {fd:FuncData} {ps:List Str} {sp:Sp} {dvs:List V} {ds:List Value} {W:XW} {x m:Str} {p pos apos:Pos} {e o:Expr} {es:List Expr} {ta:TE} {t:TA}
noncomputable def qk (sp:Sp) (dvs:List V) (W:XW) (t:TA):TE:=fun σ H Q=>t σ H fun vs H1=>sp (vs ++ dvs) H1 Q fun C a H'=>W C a σ H'
theorem sY {pins:List (Addr × Obj)} {σ:St} {H:Hp} {s:Shared} {Q:VK} {us:List Value} {vs:List V} (F:cB X.prog X.w X.K X.mg X.base (CXE X.prog X.w) k f fd ps sp) (hr:ie k X.A) (hb:Binds X.K fd ps ds) (hd:Vals dvs ds) (hx:Thr X W)
  (I:Inv X pins σ H s) (r:Vals vs us) (h:sp (vs ++ dvs) H Q fun C a H'=>W C a σ H'):wpAny (model X.prog X.w) X.A (call (.ref f) us) (EP X pins σ Q) X.xe s:=by
 have r2:Vals (vs ++ dvs) (us ++ ds):=r.append hd
 have hl:(us ++ ds).length = ps.length:=by rw [<- r2.length]; exact F.len _ _ _ _ h
 refine wpAny_call (codeAny_mono (F.run X.A X.stack s H ⟨us,[]⟩ (us ++ ds) (vs ++ dvs) Q _ hr I.Kn (hb s us I.kIn hl) r2 h) fun r s' hq=>?_)
 cases r with
 | error e=>
   obtain ⟨a,C,dx,H',rfl,ho,bare,un,hok,fl,hw⟩:=hq
   exact hx pins σ H' s' a C dx (I.FN ho un hok bare fun b z=>absurd z (by simp)) fl hw
 | ok fl=>
   cases fl with
   | ret u=>exact I.after hq
   | next=>exact False.elim hq
   | brk=>exact False.elim hq
   | cont=>exact False.elim hq
theorem Cy (F:cB X.prog X.w X.K X.mg X.base (CXE X.prog X.w) k f fd ps sp) (hr:ie k X.A) (hg:Gl X x) (hm:X.mg x = some (.ref f)) (hk:PySem.W.keepIn X.K (.ref f) = true) (hb:Binds X.K fd ps ds) (hd:Vals dvs ds) (hx:Thr X W)
  (ha:PA X (e ::es) t) (hdb:(x == ("__debug__":Str)) = false:=by decide) (he:starEach (e ::es) X.env = (false,eval e X.env) ::starEach es X.env:=by rfl) (hpl:(backTo pos (starEach es X.env)).any (·.1) = false:=by rfl):
  PE X (.Call (.Name x p) (e ::es) [] pos) (qk sp dvs W t):=by
 intro pins s σ H Q I h
 refine wpAny_Call_Name_kw (tq I hg hm ?_ hdb)
 refine PySem.W.callWith_K (h₀:=X.base) I.ok.mod.kin hk (thn (ha pos pins s σ H _ I h) fun us s1 ⟨vs,H1,I1,r,q⟩=>⟨I1.kIn,?_⟩) he hpl
 exact sY F hr hb hd hx I1 r q
theorem BG (F:cB X.prog X.w X.K X.mg X.base (CXE X.prog X.w) k f fd ps sp) (hr:ie k X.A) (hg:Gl X x) (hm:X.mg x = some (.ref f)) (hk:PySem.W.keepIn X.K (.ref f) = true) (hb:Binds X.K fd ps ds) (hd:Vals dvs ds) (hx:Thr X W)
  (hdb:(x == ("__debug__":Str)) = false:=by decide):PE X (.Call (.Name x p) [] [] pos) (qk sp dvs W kD):=by
 intro pins s σ H Q I h
 refine wpAny_Call_Name_kw (tq I hg hm ?_ hdb)
 exact PySem.W.callWith_K0 I.kIn hk (sY (us:=[]) F hr hb hd hx I .nil h)
end
end L2.E
namespace L2.E
open PySem PySem.Spec PyProof.Rows
noncomputable def Ea (K:PySem.W.Frag) (C:Addr) (bm:List Value):Prop:=bm.contains (.type "BaseException") = true /\ ∃ nm q N bs hdct sn sub ab col dd k0 k1 k2 k3 k5 newId,K.lookup C = some (excClassObj nm q C N bs bm hdct sn sub ab col dd k0 k1 k2 k3 k5 newId)
noncomputable def Kb (K:PySem.W.Frag) (T C:Addr) (b:Bool):Prop:=∃ bmC bmT,Ea K C bmC /\ Ea K T bmT /\ (Value.ref C ::bmC).contains (.ref T) = b
end L2.E
namespace L2.E
open PySem PySem.Spec PyProof.Rows
end L2.E
namespace L2.E
open PySem PySem.Spec PyProof.Rows
noncomputable abbrev blk (X:Cx) (scope:Scope) (cl:List (Str × Addr)) (N:List Str) (C:Addr) (s₀:Shared) (H₀:Hp) (ex:List Addr):Cx:=
 { prog:=X.prog,w:=X.w,K:=X.K,mg:=X.mg,base:=X.base,A:=X.A,N:=N,s₀:=s₀,H₀:=H₀,env:=compEnvC scope cl C X.env,outer:=X.stack,stack:=X.stack,ex:=ex,fn:=fun _=>false,calm:=X.calm,pn:=[],xe:=fun _ _=>False }
theorem Cn {X:Cx}:Thr X (fun _ _ _ _=>False):=fun _ _ _ _ _ _ _ _ _ h=>h.elim
structure nv (X:Cx) (scope:Scope) (cl:List (Str × Addr)) (M:List Str) (ι:List Nat) (x:Str):Prop where
 clos:closureFor scope X.env = pure cl
 kind:scope.kind = .function
 nocell:(scope.names.all fun p=>p.2 != .cell) = true
 locs:(scope.names.all fun p=>p.2 != .local || scope.names.lookup p.1 == some .local) = true
 var:scope.names.lookup x = some .local
 names:M.map some = ι.map fun i=>X.N[i]?
 cells:M.map (fun y=>scope.names.lookup y) = M.map fun _=>some .free
 kinds:M.map X.env.kindOf = M.map fun _=>some .cell
 same:M.map (fun y=>cl.lookup y) = M.map fun y=>X.env.cells.lookup y
 sub:cl.map (fun p=>X.env.cells.lookup p.1) = cl.map fun p=>some p.2
 all:(scope.names.all fun p=>!(p.2 == .free) || (cl.lookup p.1).isSome) = true
 nd:(M ++ [x]).Nodup
theorem vJ {α β:Type} {f g:α -> β} {l:List α} (h:l.map f = l.map g) {a:α} (ha:a ∈ l):f a = g a:=by
 induction l with
 | nil=>cases ha
 | cons b r ih=>
   rw [List.map_cons,List.map_cons] at h
   injection h with h1 h2
   rcases List.mem_cons.mp ha with z | z
   . rw [z]; exact h1
   . exact ih h2 z
theorem we {scope:Scope} {env:Env} {y:Str} (h:scope.names.lookup y = some .free):(relabel scope env).names.lookup y = some .cell \/ (relabel scope env).names.lookup y = some .free:=by
 unfold relabel
 dsimp only
 generalize scope.names = l at h
 induction l with
 | nil=>cases h
 | cons p r ih=>
   obtain ⟨n,k⟩:=p
   rw [List.lookup_cons] at h
   rw [List.map_cons]
   by_cases e:(y == n) = true
   . rw [e] at h
     have hk:k = .free:=Option.some.inj h
     subst hk
     dsimp only
     split
     . rw [List.lookup_cons,e]; exact .inl rfl
     . rw [List.lookup_cons,e]; exact .inr rfl
   . have e':(y == n) = false:=by simpa using e
     rw [e'] at h
     dsimp only
     split
     . rw [List.lookup_cons,e']; exact ih h
     . rw [List.lookup_cons,e']; exact ih h
theorem wR {scope:Scope} {env:Env} {y:Str} (hc:(scope.names.all fun p=>p.2 != .cell) = true) (h:(relabel scope env).names.lookup y = some .cell \/ (relabel scope env).names.lookup y = some .free):∃ p ∈ scope.names,p.1 = y /\ p.2 = .free:=by
 unfold relabel at h
 dsimp only at h
 generalize scope.names = l at h hc
 induction l with
 | nil=>rcases h with h | h <;> cases h
 | cons p r ih=>
   obtain ⟨n,k⟩:=p
   rw [List.all_cons,Bool.and_eq_true] at hc
   rw [List.map_cons] at h
   by_cases e:(y == n) = true
   . refine ⟨(n,k),List.mem_cons_self,(beq_iff_eq.mp e).symm,?_⟩
     dsimp only at h ⊢
     split at h
     . rename_i c
       simp only [Bool.and_eq_true,beq_iff_eq] at c
       exact c.1.1
     . rw [List.lookup_cons,e] at h
       have hk:(k != NameKind.cell) = true:=hc.1
       rcases h with h | h
       . have:k = .cell:=Option.some.inj h
         subst this
         exact absurd hk (by decide)
       . exact Option.some.inj h
   . have e':(y == n) = false:=by simpa using e
     have h':(List.map (fun x=>match x with | (n,k)=>if (k == NameKind.free && env.scope.kind == ScopeKind.function && env.kindOf n == some NameKind.cell) = true then (n,NameKind.cell) else (n,k)) r).lookup y = some .cell \/
       (List.map (fun x=>match x with | (n,k)=>if (k == NameKind.free && env.scope.kind == ScopeKind.function && env.kindOf n == some NameKind.cell) = true then (n,NameKind.cell) else (n,k)) r).lookup y = some .free:=by
      dsimp only at h
      split at h
      . rw [List.lookup_cons,e'] at h; exact h
      . rw [List.lookup_cons,e'] at h; exact h
     obtain ⟨q,hq,z⟩:=ih h' hc.2
     exact ⟨q,List.mem_cons_of_mem _ hq,z⟩
noncomputable def pick (ι:List Nat) (σ:St):St:=ι.map fun i=>(σ[i]?).join
noncomputable def sF (wi:TI) (ι:List Nat) (te:TE):TE:=fun σ H Q=>wi σ H fun J H1=>∀ D,H1 D = none -> ∃ W:Nat -> Nat -> List V -> Hp -> Prop,(∃ m,W 0 m [] (upd H1 D (.lst []))) /\ ∀ i m ys H,W i m ys H ->
 H D = some (.lst ys) /\ ((J.stop i H /\ Q (.ref D) H) \/ (J.go i H /\ ∀ x H',J.yld i H x H' -> te (pick ι σ ++ [some x]) H' fun y H2=>H2 D = some (.lst ys) /\ ys.length < sizeLine /\ ∃ m',m' < m /\ W (i + 1) m' (ys ++ [y]) (upd H2 D (.lst (ys ++ [y])))))
section
variable {X:Cx} {scope:Scope} {cl:List (Str × Addr)} {M:List Str} {ι:List Nat} {x:Str}
theorem nv.ua (S:nv X scope cl M ι x) {y:Str} {c:Addr} (h:cl.lookup y = some c):X.env.cells.lookup y = some c:=vJ S.sub (PySem.mem_of_lookup h)
theorem zr {pins:List (Addr × Obj)} {σ:St} {H:Hp} {s:Shared} {h₁:Heap} {t':Nat} {ex:List Addr} (S:nv X scope cl M ι x) (I:Inv X pins σ H s) (hex:∀ b ∈ ex,oU X pins H b /\ b < s.heap.objs.size) (hn:h₁.Ns s.heap.objs.size (fun _=>none))
  (hk:∀ b o,s.heap.get? b = some o -> h₁.get? b = some o):Inv (blk X scope cl (M ++ [x]) s.heap.objs.size s H ex) [] (pick ι σ ++ [none]) H { s with heap:=h₁,toks:=t' }:=by
 have noM:∀ b:Addr,b ∈ ex -> b ≠ s.heap.objs.size:=fun b hb=>Nat.ne_of_lt (hex b hb).2
 have fsx:∀ b ∈ ex,b ∉ frs X.stack:=fun b hb z=>by
  obtain ⟨⟨_,f1,f2,_⟩,_⟩:=hex b hb
  rcases List.mem_cons.mp (I.zi b z) with e | e
  . exact f1 e
  . exact f2 e
 have base0:∀ b o,X.base.get? b = some o -> b ∉ ex:=fun b o e z=>by
  obtain ⟨⟨_,_,_,f3,_⟩,_⟩:=hex b z
  rcases f3 with f | f
  . exact I.ok.noex b o e f
  . exact absurd (Nat.lt_of_lt_of_le (Heap.lt_size e) (Nat.le_trans I.ok.bsz f)) (Nat.lt_irrefl _)
 refine ⟨⟨I.ok.mod,S.kind,I.ok.glob,I.ok.blt,Nat.le_refl _,fun y z c h1 h2=>I.ok.inj y z c (S.ua h1) (S.ua h2),fun y hy=>?_,fun y c z=>absurd z Bool.false_ne_true,I.ok.hd,I.ok.frames,.inl rfl,
  fun b hb=>⟨noM b hb,fun y c h z=>(hex b hb).1.2.2.2.2.1 y c (S.ua h) z⟩,I.bs,Nat.le_trans I.ok.bsz I.sz,base0,fsx,I.stack,I.wF⟩,
  rfl,I.bare,Un.kept hk,⟨_,hn,fun i y v e1 e2 e3=>?_⟩,fun y c h=>?_,I.fresh,fun y c h=>?_,fun p hp=>absurd (show p ∈ ([]:List (Addr × Obj)) from hp) (by simp),I.hok.kept hk,?_⟩
 . obtain ⟨p,hp,rfl,hpf⟩:=wR S.nocell hy
   have q:=List.all_eq_true.mp S.all p hp
   rw [hpf] at q
   have q':(cl.lookup p.1).isSome = true:=by
    cases e:(cl.lookup p.1).isSome with
    | true=>rfl
    | false=>rw [e] at q; exact absurd q (by decide)
   exact Option.isSome_iff_exists.mp q'
 . have hiM:i < M.length:=by
    by_cases hlt:i < M.length
    . exact hlt
    . exfalso
      have hl:(pick ι σ).length = M.length:=by
       have q:=congrArg List.length S.names
       rw [List.length_map,List.length_map] at q
       unfold pick
       rw [List.length_map,q]
      rw [List.getElem?_append_right (by omega),hl] at e2
      have:i - M.length = 0 \/ 1 <= i - M.length:=by omega
      rcases this with z | z
      . rw [z] at e2; cases e2
      . rw [List.getElem?_eq_none (by simpa using z)] at e2; cases e2
   have hl:ι.length = M.length:=by
    have q:=congrArg List.length S.names
    rw [List.length_map,List.length_map] at q
    exact q.symm
   rw [List.getElem?_append_left hiM] at e1
   have hyM:y ∈ M:=List.mem_of_getElem? e1
   have e2':((σ[ι[i]]?).join) = some v:=by
    rw [List.getElem?_append_left (by unfold pick; rw [List.length_map]; omega)] at e2
    unfold pick at e2
    rw [List.getElem?_map,List.getElem?_eq_getElem (by omega)] at e2
    exact Option.some.inj e2
   have e4:σ[ι[i]]? = some (some v):=by
    cases q:σ[ι[i]]? with
    | none=>rw [q] at e2'; cases e2'
    | some w=>rw [q] at e2'; exact congrArg some e2'
   have e5:X.N[ι[i]]? = some y:=by
    have q:=congrArg (fun l=>l[i]?) S.names
    rw [List.getElem?_map,List.getElem?_map,e1,List.getElem?_eq_getElem (by omega)] at q
    exact (Option.some.inj q).symm
   have kc:X.env.kindOf y = some .cell:=vJ S.kinds hyM
   obtain ⟨m,hm,hl⟩:=I.loc
   obtain ⟨u,r,q⟩:=hl _ y v e5 e4 (.inr (.inl kc))
   refine ⟨u,r,.inr ⟨?_,?_⟩⟩
   . exact we (vJ S.cells hyM)
   . rcases q with ⟨k,_⟩ | ⟨_,c,e,o,ho,hd⟩
     . rw [kc] at k; cases k
     . exact ⟨c,(vJ S.same hyM).trans e,o,hk _ _ ho,hd⟩
 . obtain ⟨v,o,ho,hd⟩:=I.cell y c (S.ua h)
   exact ⟨v,o,hk _ _ ho,hd⟩
 . exact I.freeC y c (S.ua h)
 . have q:=congrArg List.length S.names
   rw [List.length_map,List.length_map] at q
   show (pick ι σ ++ [none]).length = (M ++ [x]).length
   unfold pick
   rw [List.length_append,List.length_append,List.length_map,q]
   rfl
theorem vG {pins:List (Addr × Obj)} {σ σ':St} {H H':Hp} {s s':Shared} {h':Heap} {ex:List Addr} {C:Addr} (I:Inv X pins σ H s) (hC:C = s.heap.objs.size) (hex:∀ b ∈ ex,oU X pins H b) {N:List Str} (J:Inv (blk X scope cl N C s H ex) [] σ' H' s')
  (hs:Heap.SameBut C s'.heap h'):Inv X pins σ H' { s' with heap:=h' }:=by
 subst hC
 have K:Inv X pins σ H' s':=I.FN (ch:=ex) J.os J.base J.hok J.bare fun b hb=>by
  obtain ⟨_,f1,_,f3,f4,f5⟩:=hex b hb
  exact ⟨f3,f1,f4,f5⟩
 refine K.turned (t':=s'.toks) (it:=s.heap.objs.size) (fun b o hb e=>(hs.2 b hb).trans e) J.free (Nat.ne_of_gt I.lt) (.inr I.sz) (fun y c e z=>?_) (fun p hp z=>?_)
 . obtain ⟨v,q⟩:=I.cell y c e
   exact absurd (z ▸ q.lt) (Nat.lt_irrefl _)
 . exact absurd (z ▸ Heap.lt_size (I.pin p hp).1) (Nat.lt_irrefl _)
theorem vd (elt target iter:Expr) (scope:Scope) (pos:Pos) (it acc:Value) (env:Env):
  compTurn (.ListComp elt [⟨target,iter,[],0⟩] scope pos) 0 it acc env = (do
   standAt iter.pos
   match <- pyNext it with
   | none=>pure (.done .next)
   | some v=>do
     letOwnedTupleGo target it v
     assign target env v
     (do let x <- eval elt env; let _ <- call (.builtin "list.append") [acc,x]; pure ())
     again (.compLoop (.ListComp elt [⟨target,iter,[],0⟩] scope pos) 0 it acc env)):=by rfl
theorem EO {elt iter:Expr} {px pos:Pos} {wi:TI} {te:TE} (S:nv X scope cl M ι x) (hc:X.calm = true) (hi:PI X (.Name x px) iter wi) (he:∀ C s₀ H₀ ex,PE (blk X scope cl (M ++ [x]) C s₀ H₀ ex) elt te)
  (hs:∀ v,foldedSetIterable iter X.env v = pure v:=by intro _; rfl):PE X (.ListComp elt [⟨.Name x px,iter,[],0⟩] scope pos) (sF wi ι te):=by
 intro pins s σ H Q I h
 rw [eval_ListComp]
 refine wpAny_comprehension_free (use:=none) rfl hs S.clos S.kind (fun y hy hl=>?_) (wpAny_mono (hi pins s σ H _ I h) (fun v s1 h1=>wpAny_mono h1 (fun itv s2 h2=>?_) fun _ _ z=>z) fun _ _ z=>z)
 . have q:=List.all_eq_true.mp S.locs y hy
   rw [hl] at q
   simpa using q
 obtain ⟨it,fp,tn,J,H2,rfl,I2,T,st2,f2,hW⟩:=h2
 have I3:=I2.Eu (ys:=[]) (its:=[]) (t':=s2.toks) .nil (Nat.zero_le _)
 obtain ⟨W,⟨m0,w0⟩,turn⟩:=hW s2.heap.objs.size I2.fresh
 have fpo:∀ b ∈ fp,b < s2.heap.objs.size:=fun b hb=>let ⟨_,e,_⟩:=T.obj _ _ st2 b hb; Heap.lt_size e
 have f3:∀ b ∈ fp,oU X pins (upd H2 s2.heap.objs.size (.lst [])) b:=fun b hb=>by
  obtain ⟨q0,q⟩:=f2 b hb
  exact ⟨by rw [bJ (Nat.ne_of_lt (fpo b hb))]; exact q0,q⟩
 show wpAny _ _ (newObj (.type "list") _ none) _ _ s2
 refine wpAny_newObj_type (wpAny_newFunctionEnv (fun y hy=>?_) (by intro y hy; simp at hy) (fun h₁ hn₁ sb₁=>?_) S.kind)
 . have q:=List.all_eq_true.mp S.nocell y hy
   simpa using q
 have hsz:(s2.heap.push { cls:=.type "list",dict:=none,data:=.seq ([]:List Value).toArray }).objs.size = s2.heap.objs.size + 1:=Heap.size_push ..
 have hk₁:∀ b o,(s2.heap.push { cls:=.type "list",dict:=none,data:=.seq ([]:List Value).toArray }).get? b = some o -> h₁.get? b = some o:=fun b o e=>
  (sb₁.2 b (Nat.ne_of_lt (Heap.lt_size e))).trans (Heap.get?_push_of_some _ e)
 have J0:=zr (t':=s2.toks + ([]:List (Str × Value)).length) S I3 (ex:=fp) (fun b hb=>⟨f3 b hb,Nat.lt_of_lt_of_le (fpo b hb) (by rw [hsz]; exact Nat.le_succ _)⟩) hn₁ hk₁
 have old:∀ b ∈ fp,∀ o,s2.heap.get? b = some o -> h₁.get? b = some o:=fun b _ o e=>hk₁ b o (Heap.get?_push_of_some _ e)
 have st₁:tn 0 h₁:=T.keep _ _ _ st2 old
 have loop:codeAny (model X.prog X.w) X.A (.compLoop (.ListComp elt [⟨.Name x px,iter,[],0⟩] scope pos) 0 (.ref it) (.ref s2.heap.objs.size) (compEnvC scope cl (s2.heap.objs.size + 1) X.env))
   (compPost (model X.prog X.w) X.A X.xe none (EP X pins σ Q) (.ref s2.heap.objs.size) (s2.heap.objs.size + 1)) { s2 with heap:=h₁,toks:=s2.toks + ([]:List (Str × Value)).length }:=by
  rw [hsz] at J0
  refine codeAny_loop rfl (fun n s'=>∃ i H' ys v,Inv (blk X scope cl (M ++ [x]) (s2.heap.objs.size + 1) { s2 with heap:=s2.heap.push { cls:=.type "list",data:=.seq ([]:List Value).toArray },toks:=s2.toks } (upd H2 s2.heap.objs.size (.lst [])) fp) [] (pick ι σ ++ [v]) H' s' /\ tn i s'.heap /\ (∀ b ∈ fp,H' b = none) /\ W i n ys H')
   (fun n s' hI=>?_) m0 ⟨0,_,[],none,J0,st₁,fun b hb=>(f3 b hb).1,w0⟩
  obtain ⟨i,H',ys,v,J',st',fr',w'⟩:=hI
  obtain ⟨hD,alt⟩:=turn i n ys H' w'
  have fpY:∀ {G:Hp},(∀ b ∈ fp,G b = none) -> ∀ b ∈ fp,oU (blk X scope cl (M ++ [x]) (s2.heap.objs.size + 1) { s2 with heap:=s2.heap.push { cls:=.type "list",data:=.seq ([]:List Value).toArray },toks:=s2.toks } (upd H2 s2.heap.objs.size (.lst [])) fp) [] G b:=fun hG b hb=>
   ⟨hG b hb,(J'.ok.exf b hb).1,J'.ok.exfs b hb,.inl hb,(J'.ok.exf b hb).2,fun p hp=>absurd (show p ∈ ([]:List (Addr × Obj)) from hp) (by simp)⟩
  show wpAny _ _ ((compTurn _ 0 (.ref it) (.ref s2.heap.objs.size) (compEnvC scope cl (s2.heap.objs.size + 1) X.env)).onRaise _) _ _ s'
  refine wpAny_noted (wpAny_noRaise ?_)
  rw [vd]
  refine wpAny_bind (wpAny_standAt (wpAny_bind ?_))
  rcases alt with ⟨stop,qn⟩ | ⟨go,step⟩
  . refine thn (T.done (blk X scope cl (M ++ [x]) (s2.heap.objs.size + 1) _ _ fp) rfl rfl rfl hc i [] s' _ H' _ J' (fpY fr') st' stop) fun r s4 ⟨hr,J4⟩=>?_
    subst hr
    refine wpAny_pure ?_
    obtain ⟨m,hm,_⟩:=id J4.loc
    refine ⟨m,hm,fun h' sb=>⟨.ref s2.heap.objs.size,H',vG I3 hsz.symm f3 J4 sb,rfl,qn⟩⟩
  . refine thn (T.item (blk X scope cl (M ++ [x]) (s2.heap.objs.size + 1) _ _ fp) rfl rfl rfl hc i [] s' _ H' _ J' (fpY fr') st' go) fun r s4 ⟨u,hr,h4⟩=>?_
    subst hr
    refine wpAny_bind (thn h4 fun _ s5 ⟨z,H5,J5,r5,y5,st5,fr5⟩=>?_)
    have J5':=J5.pinned (fpY fr5) (T.obj _ _ st5)
    have hxN:(M ++ [x])[M.length]? = some x:=by simp
    refine wpAny_bind ?_
    refine wpAny_assign_Name ?_
    refine mH (X:=blk X scope cl (M ++ [x]) (s2.heap.objs.size + 1) _ _ fp) (i:=M.length) (v:=z) J5' S.nd hxN (.inl (lookup_relabel_local S.var)) r5 (fun s6 J6=>?_) (.inr (lookup_relabel_local S.var))
    have hlp:(pick ι σ).length = M.length:=by
     have q:=congrArg List.length S.names
     rw [List.length_map,List.length_map] at q
     unfold pick
     rw [List.length_map,q]
    have hset:(pick ι σ ++ [v]).set M.length (some z) = pick ι σ ++ [some z]:=by
     rw [<- hlp,List.set_append_right _ _ (Nat.le_refl _),Nat.sub_self]
     rfl
    rw [hset] at J6
    refine wpAny_bind (wpAny_bind (thn (he _ _ _ _ _ s6 _ H5 _ J6 (step z H5 y5)) fun yv s7 ⟨y,H7,J7,r7,hD7,hz7,m',hm',w7⟩=>?_))
    refine wpAny_bind (thn (cz (X:=blk X scope cl (M ++ [x]) (s2.heap.objs.size + 1) _ _ fp) _ s7 _ H7 (.ref s2.heap.objs.size) [y] (.ref s2.heap.objs.size) [yv] (fun _ G=>G = upd H7 s2.heap.objs.size (.lst (ys ++ [y]))) J7 rfl (.cons r7 .nil) ⟨_,_,y,rfl,rfl,hD7,hz7,rfl⟩) fun _ s8 ⟨_,H8,J8,_,e8⟩=>?_)
    subst e8
    refine wpAny_pure (wpAny_pure ⟨rfl,m',hm',i + 1,_,_,some z,J8.jT,?_,fun b hb=>?_,w7⟩)
    . exact T.keep _ _ _ st5 fun b hb o e=>(J8.pin (b,o) (List.mem_append_right _ (List.mem_append_right _ (eI hb e)))).1
    . obtain ⟨o,e,d⟩:=T.obj _ _ st5 b hb
      exact (J8.pin (b,o) (List.mem_append_right _ (List.mem_append_right _ (eI hb e)))).2.1
 rw [hsz] at *
 exact codeAny_compStart_list loop (T.self X.A 0 _ _ _ st₁ loop)
end
end L2.E
namespace L2.E
open PySem PySem.Spec PyProof.Rows
section
variable {X:Cx}
noncomputable def IsV (K:PySem.W.Frag) (T:String) (x:V) (H:Hp) (b:Bool):Prop:=match x with
 | .int _=>(T = "int" /\ b = true) \/ (T = "bool" /\ b = false) \/ (T = "list" /\ b = false) \/ (T = "tuple" /\ b = false) \/ (T = "str" /\ b = false)
 | .bl _=>(T = "int" /\ b = true) \/ (T = "bool" /\ b = true) \/ (T = "list" /\ b = false) \/ (T = "tuple" /\ b = false) \/ (T = "str" /\ b = false)
 | .non=>(T = "int" /\ b = false) \/ (T = "bool" /\ b = false) \/ (T = "list" /\ b = false) \/ (T = "tuple" /\ b = false) \/ (T = "str" /\ b = false)
 | .str _=>(T = "int" /\ b = false) \/ (T = "bool" /\ b = false) \/ (T = "list" /\ b = false) \/ (T = "tuple" /\ b = false) \/ (T = "str" /\ b = true)
 | .ref p=>((∃ xs,SqL K H p xs) /\ ((T = "int" /\ b = false) \/ (T = "bool" /\ b = false) \/ (T = "list" /\ b = true) \/ (T = "tuple" /\ b = false) \/ (T = "str" /\ b = false))) \/
    ((∃ xs,SqT K H p xs) /\ ((T = "int" /\ b = false) \/ (T = "bool" /\ b = false) \/ (T = "list" /\ b = false) \/ (T = "tuple" /\ b = true) \/ (T = "str" /\ b = false)))
 | _=>False
theorem uI:mx X (.builtin "isinstance") (fun xs H Q=>∃ x T b,xs = [x,.ty T] /\ IsV X.K T x H b /\ Q (.bl b) H):=by
 intro pins s σ H vs us Q I rv h
 obtain ⟨x,T,b,rfl,hv,q⟩:=h
 obtain ⟨u,v,rfl,ru,rT⟩:=rv.two
 cases rT
 cases x with
 | int i=>
   obtain ⟨t,rfl⟩:=ru
   rcases hv with ⟨rfl,rfl⟩ | ⟨rfl,rfl⟩ | ⟨rfl,rfl⟩ | ⟨rfl,rfl⟩ | ⟨rfl,rfl⟩
   . exact IsiPair.int_int ⟨.bl _,H,I,rfl,q⟩
   . exact IsiPair.int_bool ⟨.bl _,H,I.tok _,rfl,q⟩
   . exact IsiPair.int_list ⟨.bl _,H,I.tok _,rfl,q⟩
   . exact IsiPair.int_tuple ⟨.bl _,H,I.tok _,rfl,q⟩
   . exact IsiPair.int_str ⟨.bl _,H,I.tok _,rfl,q⟩
 | bl i=>
   cases ru
   rcases hv with ⟨rfl,rfl⟩ | ⟨rfl,rfl⟩ | ⟨rfl,rfl⟩ | ⟨rfl,rfl⟩ | ⟨rfl,rfl⟩
   . exact IsiPair.bool_int ⟨.bl _,H,I,rfl,q⟩
   . exact IsiPair.bool_bool ⟨.bl _,H,I,rfl,q⟩
   . exact IsiPair.bool_list ⟨.bl _,H,I.tok _,rfl,q⟩
   . exact IsiPair.bool_tuple ⟨.bl _,H,I.tok _,rfl,q⟩
   . exact IsiPair.bool_str ⟨.bl _,H,I.tok _,rfl,q⟩
 | non=>
   cases ru
   rcases hv with ⟨rfl,rfl⟩ | ⟨rfl,rfl⟩ | ⟨rfl,rfl⟩ | ⟨rfl,rfl⟩ | ⟨rfl,rfl⟩
   . exact IsiPair.NoneType_int ⟨.bl _,H,I.tok _,rfl,q⟩
   . exact IsiPair.NoneType_bool ⟨.bl _,H,I.tok _,rfl,q⟩
   . exact IsiPair.NoneType_list ⟨.bl _,H,I.tok _,rfl,q⟩
   . exact IsiPair.NoneType_tuple ⟨.bl _,H,I.tok _,rfl,q⟩
   . exact IsiPair.NoneType_str ⟨.bl _,H,I.tok _,rfl,q⟩
 | str i=>
   obtain ⟨t,rfl⟩:=ru
   rcases hv with ⟨rfl,rfl⟩ | ⟨rfl,rfl⟩ | ⟨rfl,rfl⟩ | ⟨rfl,rfl⟩ | ⟨rfl,rfl⟩
   . exact IsiPair.str_int ⟨.bl _,H,I.tok _,rfl,q⟩
   . exact IsiPair.str_bool ⟨.bl _,H,I.tok _,rfl,q⟩
   . exact IsiPair.str_list ⟨.bl _,H,I.tok _,rfl,q⟩
   . exact IsiPair.str_tuple ⟨.bl _,H,I.tok _,rfl,q⟩
   . exact IsiPair.str_str ⟨.bl _,H,I,rfl,q⟩
 | ref p=>
   cases ru
   rcases hv with ⟨⟨xs,hS⟩,hv⟩ | ⟨⟨xs,hS⟩,hv⟩
   . obtain ⟨its,r,pl,hz⟩:=I.list hS
     obtain ⟨o,e,c,_⟩:=pl.isList
     rcases hv with ⟨rfl,rfl⟩ | ⟨rfl,rfl⟩ | ⟨rfl,rfl⟩ | ⟨rfl,rfl⟩ | ⟨rfl,rfl⟩
     . exact IsiPair.list_int e c ⟨.bl _,H,I.tok _,rfl,q⟩
     . exact IsiPair.list_bool e c ⟨.bl _,H,I.tok _,rfl,q⟩
     . exact IsiPair.list_list e c ⟨.bl _,H,I,rfl,q⟩
     . exact IsiPair.list_tuple e c ⟨.bl _,H,I.tok _,rfl,q⟩
     . exact IsiPair.list_str e c ⟨.bl _,H,I.tok _,rfl,q⟩
   . obtain ⟨its,r,pl,hz⟩:=I.tuple hS
     obtain ⟨o,e,c,_⟩:=pl
     rcases hv with ⟨rfl,rfl⟩ | ⟨rfl,rfl⟩ | ⟨rfl,rfl⟩ | ⟨rfl,rfl⟩ | ⟨rfl,rfl⟩
     . exact IsiPair.tuple_int e c ⟨.bl _,H,I.tok _,rfl,q⟩
     . exact IsiPair.tuple_bool e c ⟨.bl _,H,I.tok _,rfl,q⟩
     . exact IsiPair.tuple_list e c ⟨.bl _,H,I.tok _,rfl,q⟩
     . exact IsiPair.tuple_tuple e c ⟨.bl _,H,I,rfl,q⟩
     . exact IsiPair.tuple_str e c ⟨.bl _,H,I.tok _,rfl,q⟩
 | _=>exact hv.elim
theorem boot_bool:bootBuiltins "bool" = some (.type "bool"):=by decide +kernel
theorem boot_isinstance:bootBuiltins "isinstance" = some (.builtin "isinstance"):=by decide +kernel
theorem boot_all:bootBuiltins "all" = some (.builtin "all"):=by decide +kernel
theorem boot_tuple:bootBuiltins "tuple" = some (.type "tuple"):=by decide +kernel
theorem boot_list:bootBuiltins "list" = some (.type "list"):=by decide +kernel
theorem boot_int:bootBuiltins "int" = some (.type "int"):=by decide +kernel
theorem boot_str:bootBuiltins "str" = some (.type "str"):=by decide +kernel
theorem boot_len:bootBuiltins "len" = some (.builtin "len"):=by decide +kernel
theorem v7:∀ {ns:List Int} {its:List Value},Vals (ns.map V.int) its -> IntsAre its ns
 | [],_,.nil=>.nil
 | n ::_,_,.cons ⟨t,e⟩ r=>by subst e; exact .cons n t (v7 r)
noncomputable def JC (K:PySem.W.Frag) (A:Around) (neg:Bool):R2:=fun x y H Q=>∃ (p q:Addr) (ns ms:List Int),x = .ref p /\ y = .ref q /\ SqL K H p (ns.map V.int) /\ SqL K H q (ms.map V.int) /\ A.units + 64 < cLine /\ Q (.bl (if neg then !decide (ns = ms) else decide (ns = ms))) H
theorem GD:OpR X (compareOp .NotEq) (JC X.K X.A true):=by
 intro pins s σ H x y v u Q I rx ry h
 obtain ⟨p,q,ns,ms,rfl,rfl,h1,h2,hu,hq⟩:=h
 cases rx; cases ry
 obtain ⟨its,r,pl,hz⟩:=I.list h1
 obtain ⟨its',r',pl',hz'⟩:=I.list h2
 exact PySem.W.ne_intsK pl.isList (v7 r) pl'.isList (v7 r') hu ⟨.bl _,H,I,rfl,hq⟩
end
section
variable {P:Program} {w:World} {K:PySem.W.Frag} {mg:Str -> Option Value} {base:Heap}
theorem okX {x qual:Str} {st:Stmt} {f:Addr} {fd:FuncData} {N ps:List Str} {k:Nat} {sp:Sp} (F:Fun K x qual st f fd) (S:aV N ps (aA st)) (len:∀ vs H Q E,sp vs H Q E -> vs.length = ps.length)
  (hbody:∀ (cdv:Value) (A:Around) (outer:List Env) (s:Shared) (H:Hp) (vs:List V) (Q:VK) (E:XK),ie k (A.deeper (envOfC qual (aA st) s.heap.objs.size f cdv)) -> sp vs H Q E ->
    ∃ t,PSs (rA (CXE P w) P w K mg base N qual (aA st) f cdv A outer s H E) (dJ st) t /\ t { nx:=fun _ H'=>Q .non H',rt:=Q } (start N vs) H):cB P w K mg base (CXE P w) (k + 1) f fd ps sp:=by
 obtain ⟨oc,od,kV,doc,pm,an,cdv,ct,osl,rfl,lk,hcd⟩:=F.ex
 exact Ka lk hcd S len fun A outer s H vs Q E hr hsp=>hbody cdv A outer s H vs Q E hr hsp
end
end L2.E
namespace L2.E
open PySem PySem.Spec PyProof.Rows
theorem SqL.new {K:PySem.W.Frag} {H:Hp} {p:Addr} {xs:List V} (h:H p = some (.lst xs)):SqL K H p xs:=.inl (.inl h)
theorem SqT.new {K:PySem.W.Frag} {H:Hp} {p:Addr} {xs:List V} (h:H p = some (.tup xs)):SqT K H p xs:=.inl (.inl h)
theorem Ep {H:Hp} {p q:Addr} {o:HO} (h:H q = some o) (n:H p = none):q ≠ p:=fun z=>by rw [z,n] at h; cases h
theorem _root_.L2.aI.upd {H H':Hp} {p:Addr} {o:HO} (e:aI H H') (n:H p = none):aI H (upd H' p o):=fun b u h=>by
 rw [bJ (Ep h n)]; exact e b u h
theorem _root_.L2.aI.new {H:Hp} {p:Addr} {o:HO} (n:H p = none):aI H (L2.upd H p o):=(aI.refl H).upd n
abbrev Goes (H:Hp) (E:XK) (C:Addr) (dx:Option Addr):Prop:=∀ H' a,aI H H' -> H' a = some (w9 a C dx) -> E (.ref C) (some a) H'
end L2.E
namespace L2.E
open PySem PySem.Spec PyProof.Rows
theorem takes {K:PySem.W.Frag} {T C:Addr} {b:Bool} {bmC bmT:List Value} (h1:Ea K C bmC) (h2:Ea K T bmT) (h:(Value.ref C ::bmC).contains (.ref T) = b):Kb K T C b:=⟨bmC,bmT,h1,h2,h⟩
end L2.E
namespace L2.E
open PySem PySem.Spec PyProof.Rows
section
variable {X:Cx}
noncomputable def Gh (K:PySem.W.Frag):R2:=fun x y H Q=>∃ l b xs zs,x = .ref l /\ y = .ref b /\ SqL K H l xs /\ SqL K H b zs /\ xs.length + zs.length <= sizeLine /\ ∀ p,H p = none -> Q (.ref p) (upd H p (.lst (xs ++ zs)))
theorem fM:OpR X (binaryOp .Add) (Gh X.K):=by
 intro pins s σ H x y v u Q I rx ry h
 obtain ⟨l,b,xs,zs,rfl,rfl,hH,hB,hz,q⟩:=h
 cases rx
 cases ry
 obtain ⟨its,r,pl,_⟩:=I.list hH
 obtain ⟨its2,r2,pl2,_⟩:=I.list hB
 obtain ⟨⟨cls,dd,data,sl⟩,ho,hc,n,hd⟩:=pl.isList
 obtain ⟨⟨cls2,dd2,data2,sl2⟩,ho2,hc2,n2,hd2⟩:=pl2.isList
 simp only at hc hd hc2 hd2
 subst hc hd hc2 hd2
 have hsz:its.toArray.size + its2.toArray.size <= sizeLine:=by rw [List.size_toArray,List.size_toArray,<- r.length,<- r2.length]; exact hz
 refine concat_meets ⟨_,ho,rfl⟩ ⟨_,ho2,rfl⟩ noFill_list_add seq_list_add PySem.F.slot_list_add PySem.F.entry_list_add (PySem.F.args_list_add_2 _ _) (list_addW l b its.toArray its2.toArray n n2 dd dd2 sl sl2 hsz) ⟨ho,ho2,?_⟩
 have ea:its.toArray ++ its2.toArray = (its ++ its2).toArray:=by simp
 rw [ea]
 exact ⟨.ref _,_,I.Eu (t':=s.toks) (r.append r2) (by rw [List.length_append]; exact hz),rfl,q _ I.fresh⟩
theorem AN:mx X (.builtin "all") (fun xs H Q=>∃ (p:Addr) (bs:List Bool),xs = [.ref p] /\ SqL X.K H p (bs.map V.bl) /\ X.A.handled = none /\ Q (.bl (bs.all id)) H):=by
 intro pins s σ H vs us Q I rv h
 obtain ⟨p,bs,rfl,hp,hh,q⟩:=h
 obtain ⟨u,rfl,ru⟩:=rv.one
 cases ru
 obtain ⟨its,r,pl,_⟩:=I.list hp
 have hl:=r.length
 have isl:s.heap.IsList p its.toArray:=pl.isList
 obtain ⟨o,e,_⟩:=id isl
 refine call_all_walk (wpAny_pyIter_list isl ?_)
 have ne:p ≠ s.heap.objs.size:=Nat.ne_of_lt (Heap.lt_size e)
 have tv:∀ (i:Nat) (v:Value),its.toArray[i]? = some v -> ∃ b,bs[i]? = some b /\ v = Value.bool b:=fun i v hv=>by
  have hv':its[i]? = some v:=by simpa using hv
  have hi:i < its.length:=(List.getElem?_eq_some_iff.mp hv').1
  rw [<- hl,List.length_map] at hi
  have hx:(bs.map V.bl)[i]? = some (V.bl bs[i]):=by simp [hi]
  obtain ⟨u,hu,ru⟩:=r.get hx
  rw [hv'] at hu; cases hu
  exact ⟨bs[i],by simp [hi],ru⟩
 refine ⟨s.heap.objs.size,_,_,_,_,_,(fun i=>(bs[i]?).getD false),rfl,Walks.list (A:=X.A.in1) hh s.heap.objs.size p ne its.toArray,⟨⟨_,Heap.get?_push_size _ rfl,rfl,rfl⟩,isl.at fun o e=>Heap.get?_push_of_some _ e⟩,fun i v s' Q' E' hP hQ=>?_,fun h' tk hk=>?_⟩
 . obtain ⟨b,hb,rfl⟩:=tv i v hP
   have hQ':Q' ((bs[i]?).getD false) s':=hQ
   rw [hb] at hQ'
   exact wpAny_truthy_bool hQ'
 . have en:its.toArray.size = bs.length:=by rw [List.size_toArray,<- hl,List.length_map]
   have eb:(List.range its.toArray.size).all (fun i=>(bs[i]?).getD false) = bs.all id:=by
    rw [en]
    rw [Bool.eq_iff_iff,List.all_eq_true,List.all_eq_true]
    constructor
    . intro hA b hb
      obtain ⟨i,hi,rfl⟩:=List.mem_iff_getElem.mp hb
      have:=hA i (by simpa using hi)
      simpa [hi] using this
    . intro hA i hi
      have hi':i < bs.length:=by simpa using hi
      have:=hA bs[i] (List.getElem_mem hi')
      simpa [hi'] using this
   rw [eb]
   refine ⟨.bl _,H,I.kept (h':=h') (t':=tk) fun b o e'=>hk b o ?_ (Heap.get?_push_of_some _ e'),rfl,q⟩
   have lt:=Heap.lt_size e'
   intro z
   have z':b = s.heap.objs.size:=by simpa using z
   exact absurd (z' ▸ lt) (Nat.lt_irrefl _)
end
end L2.E
namespace L2.E
open PySem PySem.Spec PyProof.Rows
noncomputable def isStar:Expr -> Bool
 | .Starred ..=>true
 | _=>false
theorem Bi {e:Expr} {es:List Expr} {env:Env} (h:isStar e = false):starEach (e ::es) env = (false,eval e env) ::starEach es env:=by
 cases e <;> first | rfl | cases h
theorem CJ {X:Cx} {e:Expr} {es:List Expr} {te:TE} {t:TA} (ha:PE X e te) (hr:PA X es t) (hs:isStar e = false:=by rfl):PA X (e ::es) (jd te t):=E2 ha hr (Bi hs)
end L2.E
namespace L2.P
open PySem
noncomputable def ixP (n:Nat) (i:Int):Option Nat:=if 0 <= i then (if i < n then some i.toNat else none) else if -(n:Int) <= i then some (i + n).toNat else none
noncomputable def atP {α:Type} (xs:List α) (i:Int):Option α:=(ixP xs.length i).bind fun j=>xs[j]?
noncomputable def uP (n d:Nat):Option Int -> Nat
 | none=>d
 | some v=>if v < 0 then (v + (n:Int)).toNat else min v.toNat n
inductive PV where
 | non | bl (b:Bool) | int (i:Int) | str (s:Str) | lst (xs:List PV) | tup (xs:List PV)
inductive OV where
 | sh (x:PV) | ol (ts:List OV) | ob (c:String) (ks:List Str) (ts:List OV)
   | di (kvs:List (Int × PV)) | dt (kvs:List (List Int × PV))
inductive Sl where
 | sh (x:PV) | ow (xs:List PV) | ex (c:String) (fs:List (Str × PV))
   | tr (io:Bool) (t:OV) | bo (t:OV)
abbrev ae:=List (Option Sl)
inductive RV where
 | sh (x:PV) | fr (xs:List PV) | al (xs:List PV)
noncomputable def RV.pv:RV -> PV
 | .sh x=>x
 | .fr xs=>.lst xs
 | .al xs=>.lst xs
abbrev XF:=List (Str × PV)
inductive OE where
 | ok (r:RV) | exc (c:String) (fs:XF) | bad
inductive OT where
 | ok (b:Bool) | exc (c:String) (fs:XF) | bad
inductive OA where
 | ok (xs:List PV) | exc (c:String) (fs:XF) | bad
inductive OS where
 | nx (ρ:ae) | rt (ρ:ae) (r:RV) | bk (ρ:ae) | ct (ρ:ae) | exc (ρ:ae) (c:String) (fs:XF) | bad
noncomputable def OE.bind:OE -> (RV -> OE) -> OE
 | .ok r,f=>f r
 | .exc c fs,_=>.exc c fs
 | .bad,_=>.bad
noncomputable def OE.gf:OE -> (RV -> OT) -> OT
 | .ok r,f=>f r
 | .exc c fs,_=>.exc c fs
 | .bad,_=>.bad
noncomputable def OE.fJ:OE -> (RV -> OA) -> OA
 | .ok r,f=>f r
 | .exc c fs,_=>.exc c fs
 | .bad,_=>.bad
noncomputable def OE.bT (ρ:ae):OE -> (RV -> OS) -> OS
 | .ok r,f=>f r
 | .exc c fs,_=>.exc ρ c fs
 | .bad,_=>.bad
noncomputable def OT.bind:OT -> (Bool -> OE) -> OE
 | .ok r,f=>f r
 | .exc c fs,_=>.exc c fs
 | .bad,_=>.bad
noncomputable def OT.gf:OT -> (Bool -> OT) -> OT
 | .ok r,f=>f r
 | .exc c fs,_=>.exc c fs
 | .bad,_=>.bad
noncomputable def OT.bT (ρ:ae):OT -> (Bool -> OS) -> OS
 | .ok r,f=>f r
 | .exc c fs,_=>.exc ρ c fs
 | .bad,_=>.bad
noncomputable def OA.bind:OA -> (List PV -> OE) -> OE
 | .ok r,f=>f r
 | .exc c fs,_=>.exc c fs
 | .bad,_=>.bad
noncomputable def OA.fJ:OA -> (List PV -> OA) -> OA
 | .ok r,f=>f r
 | .exc c fs,_=>.exc c fs
 | .bad,_=>.bad
noncomputable def OA.bT (ρ:ae):OA -> (List PV -> OS) -> OS
 | .ok r,f=>f r
 | .exc c fs,_=>.exc ρ c fs
 | .bad,_=>.bad
noncomputable def aq (i:Nat):ae -> OE:=fun ρ=>match ρ[i]? with
 | some (some (.sh x))=>.ok (.sh x)
 | some (some (.ow xs))=>.ok (.al xs)
 | _=>.bad
noncomputable def mC (x:PV):ae -> OE:=fun _=>.ok (.sh x)
noncomputable def oE:Option RV -> OE
 | some r=>.ok r
 | none=>.bad
noncomputable def mOp (g:PV -> PV -> Option RV) (ma mb:ae -> OE):ae -> OE:=fun ρ=>(ma ρ).bind fun a=>(mb ρ).bind fun b=>oE (g a.pv b.pv)
noncomputable def gI (C:Int -> Int -> Bool) (f:Int -> Int -> PV):PV -> PV -> Option RV
 | .int i,.int j=>if C i j then some (.sh (f i j)) else none
 | _,_=>none
noncomputable def fo:=gI (fun _ _=>true) fun i j=>.int (i + j)
noncomputable def uM:=gI (fun _ _=>true) fun i j=>.int (i - j)
noncomputable def yi:=gI (fun i j=>(decide (-(2 ^ 64) < i) && decide (i < 2 ^ 64)) || (decide (-(2 ^ 64) < j) && decide (j < 2 ^ 64))) fun i j=>.int (i * j)
noncomputable def dE:=gI (fun _ j=>decide (0 < j) && decide (j < 1073741824)) fun i j=>.int (i / j)
noncomputable def cA:=gI (fun _ j=>decide (0 < j)) fun i j=>.int (i % j)
noncomputable def LD:=gI (fun i j=>decide (0 <= j) && (decide (j <= 1000000) && decide (i.natAbs < 2 ^ 64))) fun i j=>.int (i ^ j.toNat)
noncomputable def gLt:=gI (fun _ _=>true) fun i j=>.bl (decide (i < j))
noncomputable def gLe:=gI (fun _ _=>true) fun i j=>.bl (decide (i <= j))
noncomputable def gGt:=gI (fun _ _=>true) fun i j=>.bl (decide (j < i))
noncomputable def gGe:=gI (fun _ _=>true) fun i j=>.bl (decide (j <= i))
noncomputable def eqS:PV -> PV -> Option Bool
 | .non,.non=>some true | .non,.int _=>some false | .int _,.non=>some false | .non,.bl _=>some false | .bl _,.non=>some false | .non,.str _=>some false | .str _,.non=>some false
 | .int a,.int b=>some (decide (a = b)) | .bl a,.bl b=>some (decide (a = b)) | .str a,.str b=>some (decide (a = b))
 | .int _,.str _=>some false | .str _,.int _=>some false | .bl _,.str _=>some false | .str _,.bl _=>some false
 | _,_=>none
noncomputable def gEq:PV -> PV -> Option RV:=fun x y=>(eqS x y).map fun b=>.sh (.bl b)
noncomputable def gNe:PV -> PV -> Option RV:=fun x y=>(eqS x y).map fun b=>.sh (.bl (!b))
noncomputable def lS:RV -> Option PV
 | .sh x=>some x
 | .fr xs=>some (.lst xs)
 | .al _=>none
noncomputable def aM:ae -> OA:=fun _=>.ok []
noncomputable def ak (me:ae -> OE) (mr:ae -> OA):ae -> OA:=fun ρ=>(me ρ).fJ fun r=>match lS r with
 | some x=>(mr ρ).fJ fun xs=>.ok (x ::xs)
 | none=>.bad
noncomputable def lim:Nat:=16777216
noncomputable def cf (ma:ae -> OA):ae -> OE:=fun ρ=>(ma ρ).bind fun xs=>if xs.length <= lim then .ok (.fr xs) else .bad
noncomputable def gm (ma:ae -> OA):ae -> OE:=fun ρ=>(ma ρ).bind fun xs=>if xs.length <= lim then .ok (.sh (.tup xs)) else .bad
noncomputable def bI (f:List PV -> OE) (ma:ae -> OA):ae -> OE:=fun ρ=>(ma ρ).bind f
noncomputable def mUn (g:PV -> Option RV) (ma:ae -> OE):ae -> OE:=fun ρ=>(ma ρ).bind fun a=>oE (g a.pv)
noncomputable def gU:PV -> Option RV
 | .int i=>some (.sh (.int (-i)))
 | _=>none
noncomputable def ym:PV -> Option RV
 | .lst xs=>some (.sh (.int xs.length))
 | .tup xs=>some (.sh (.int xs.length))
 | _=>none
noncomputable def yx:PV -> Option RV
 | .int i=>some (.sh (.int i))
 | .bl b=>some (.sh (.int (if b then 1 else 0)))
 | _=>none
noncomputable def qV:PV -> Option RV
 | .lst xs=>some (.fr xs)
 | .tup xs=>some (.fr xs)
 | _=>none
noncomputable def mI:PV -> PV -> Option RV
 | .lst xs,.int i=>(atP xs i).map .sh
 | _,_=>none
noncomputable def ik:PV -> PV -> Option RV
 | .tup xs,.int i=>(atP xs i).map .sh
 | _,_=>none
noncomputable def lQ:PV -> PV -> Option RV
 | .lst xs,.lst ys=>if xs.length + ys.length <= lim then some (.fr (xs ++ ys)) else none
 | _,_=>none
noncomputable def rV:List PV -> Option (List Int)
 | []=>some []
 | .int i ::r=>(rV r).map (i ::·)
 | _ ::_=>none
noncomputable def Fj:PV -> PV -> Option Bool
 | .lst xs,.lst ys=>match rV xs,rV ys with
   | some a,some b=>some (decide (a = b))
   | _,_=>none
 | _,_=>none
noncomputable def HK:PV -> PV -> Option RV:=fun x y=>(Fj x y).map fun b=>.sh (.bl (!b))
noncomputable def rb:List PV -> Option (List Bool)
 | []=>some []
 | .bl i ::r=>(rb r).map (i ::·)
 | _ ::_=>none
noncomputable def EX:PV -> Option RV
 | .lst xs=>(rb xs).map fun bs=>.sh (.bl (bs.all id))
 | _=>none
noncomputable def isP (T:String):PV -> Option Bool
 | .int _=>if T = "int" then some true else if T = "bool" \/ T = "list" \/ T = "tuple" \/ T = "str" then some false else none
 | .bl _=>if T = "int" \/ T = "bool" then some true else if T = "list" \/ T = "tuple" \/ T = "str" then some false else none
 | .non=>if T = "int" \/ T = "bool" \/ T = "list" \/ T = "tuple" \/ T = "str" then some false else none
 | .str _=>if T = "str" then some true else if T = "int" \/ T = "bool" \/ T = "list" \/ T = "tuple" then some false else none
 | .lst _=>if T = "list" then some true else if T = "int" \/ T = "bool" \/ T = "tuple" \/ T = "str" then some false else none
 | .tup _=>if T = "tuple" then some true else if T = "int" \/ T = "bool" \/ T = "list" \/ T = "str" then some false else none
noncomputable def mIs (T:String) (ma:ae -> OE):ae -> OE:=mUn (fun x=>(isP T x).map fun b=>.sh (.bl b)) ma
noncomputable def sJ:PV -> Option Bool
 | .non=>some false
 | .bl b=>some b
 | .int i=>some (i != 0)
 | .lst xs=>some (!xs.isEmpty)
 | .tup xs=>some (!xs.isEmpty)
 | .str _=>none
noncomputable def oT:Option Bool -> OT
 | some b=>.ok b
 | none=>.bad
noncomputable def eH (ma:ae -> OE):ae -> OT:=fun ρ=>(ma ρ).gf fun r=>oT (sJ r.pv)
noncomputable def aD (ma:ae -> OE):ae -> OT:=fun ρ=>(ma ρ).gf fun r=>match r.pv with
 | .bl b=>.ok b
 | _=>.bad
noncomputable def JJ (m:ae -> OT):ae -> OT:=fun ρ=>(m ρ).gf fun b=>.ok (!b)
noncomputable def fF (m n:ae -> OT):ae -> OT:=fun ρ=>(m ρ).gf fun b=>if b = true then n ρ else .ok false
noncomputable def rB (m n:ae -> OT):ae -> OT:=fun ρ=>(m ρ).gf fun b=>if b = true then .ok true else n ρ
noncomputable def uy (m n:ae -> OE):ae -> OE:=fun ρ=>(m ρ).bind fun r=>match r.pv with
 | .bl b=>if b = true then n ρ else .ok (.sh (.bl false))
 | _=>.bad
noncomputable def Ca (m n:ae -> OE):ae -> OE:=fun ρ=>(m ρ).bind fun r=>match r.pv with
 | .bl b=>if b = true then .ok (.sh (.bl true)) else n ρ
 | _=>.bad
noncomputable def CN (m:ae -> OE):ae -> OE:=fun ρ=>(m ρ).bind fun r=>match r.pv with
 | .bl b=>.ok (.sh (.bl (!b)))
 | _=>.bad
noncomputable def gV (c:ae -> OT) (m n:ae -> OE):ae -> OE:=fun ρ=>(c ρ).bind fun b=>if b = true then m ρ else n ρ
noncomputable def lJ (g g':PV -> PV -> Option RV) (ma mb mc:ae -> OE):ae -> OE:=fun ρ=>(ma ρ).bind fun a=>(mb ρ).bind fun b=>(oE (g a.pv b.pv)).bind fun r=>match r.pv with
 | .bl k=>if k = true then (mc ρ).bind fun c=>oE (g' b.pv c.pv) else .ok (.sh (.bl false))
 | _=>.bad
noncomputable def OS.andThen:OS -> (ae -> OS) -> OS
 | .nx ρ,k=>k ρ
 | o,_=>o
noncomputable def OS.turn:OS -> (ae -> OS) -> OS
 | .nx ρ,k=>k ρ
 | .ct ρ,k=>k ρ
 | .bk ρ,_=>.nx ρ
 | o,_=>o
noncomputable def aJ (a b:ae -> OS):ae -> OS:=fun ρ=>(a ρ).andThen b
noncomputable def aR:ae -> OS:=fun ρ=>.nx ρ
noncomputable def G9:ae -> OS:=fun ρ=>.bk ρ
noncomputable def JQ:ae -> OS:=fun ρ=>.ct ρ
noncomputable def BU:RV -> Option Sl
 | .sh x=>some (.sh x)
 | .fr xs=>some (.ow xs)
 | .al _=>none
noncomputable def bp (i:Nat) (me:ae -> OE):ae -> OS:=fun ρ=>(me ρ).bT ρ fun r=>match BU r with
 | some s=>.nx (ρ.set i (some s))
 | none=>.bad
noncomputable def bb (c:ae -> OT) (m n:ae -> OS):ae -> OS:=fun ρ=>(c ρ).bT ρ fun b=>if b = true then m ρ else n ρ
noncomputable def bc (me:ae -> OE):ae -> OS:=fun ρ=>(me ρ).bT ρ fun r=>match r with
 | .al _=>.bad
 | r=>.rt ρ r
noncomputable def iD (i:Nat):ae -> OS:=fun ρ=>match ρ[i]? with
 | some (some (.sh x))=>.rt ρ (.sh x)
 | some (some (.ow xs))=>.rt (ρ.set i none) (.fr xs)
 | _=>.bad
noncomputable def Jg:ae -> OS:=fun ρ=>.rt ρ (.sh .non)
noncomputable def JF (me:ae -> OE):ae -> OS:=fun ρ=>(me ρ).bT ρ fun _=>.nx ρ
noncomputable def lx (i:Nat) (ρ:ae):ae:=match ρ[i]? with
 | some (some (.ow xs))=>ρ.set i (some (.sh (.lst xs)))
 | _=>ρ
noncomputable def eN (i:Nat) (me:ae -> OE):ae -> OS:=fun ρ=>match ρ[i]? with
 | some (some (.ow xs))=>(me ρ).bT ρ fun r=>match lS r with
   | some y=>if xs.length < lim then .nx (ρ.set i (some (.ow (xs ++ [y])))) else .bad
   | none=>.bad
 | _=>.bad
noncomputable def Em (i:Nat) (me:ae -> OE):ae -> OS:=fun ρ=>match ρ[i]? with
 | some (some (.ow xs))=>(me ρ).bT ρ fun r=>match r with
   | .fr ys=>if xs.length + ys.length <= lim then .nx (ρ.set i (some (.ow (xs ++ ys)))) else .bad
   | _=>.bad
 | _=>.bad
noncomputable def jq (i:Nat) (mb:ae -> OS):List PV -> ae -> OS
 | [],ρ=>.nx ρ
 | x ::xs,ρ=>(mb (ρ.set i (some (.sh x)))).turn (jq i mb xs)
noncomputable def yQ:RV -> Option (List PV)
 | .sh (.lst xs)=>some xs
 | .fr xs=>some xs
 | _=>none
noncomputable def sq (i:Nat) (ml:ae -> OE) (mb:ae -> OS):ae -> OS:=fun ρ=>(ml ρ).bT ρ fun r=>match yQ r with
 | some xs=>jq i mb xs ρ
 | none=>.bad
noncomputable def dI (n:Nat):List PV:=(List.range n).map fun k:Nat=>PV.int (k:Int)
noncomputable def so (i:Nat) (me:ae -> OE) (mb:ae -> OS):ae -> OS:=fun ρ=>(me ρ).bT ρ fun r=>match r.pv with
 | .int j=>if -(2 ^ 62) <= j /\ j < 2 ^ 62 then jq i mb (dI j.toNat) ρ else .bad
 | _=>.bad
noncomputable def fS (mc:ae -> OT) (mb:ae -> OS):Nat -> ae -> OS
 | 0,_=>.bad
 | n + 1,ρ=>(mc ρ).bT ρ fun b=>if b = true then (mb ρ).turn (fS mc mb n) else .nx ρ
noncomputable def tM:PV -> Option Int
 | .int i=>some i
 | _=>none
noncomputable def u4 (m:ae -> OE):ae -> OE:=fun ρ=>(m ρ).bind fun r=>match r.pv with
 | .int i=>.ok (.sh (.int i))
 | _=>.bad
noncomputable def yN (xs:List PV) (lo hi:Option Int):List PV:=(xs.drop (uP xs.length 0 lo)).take (uP xs.length xs.length hi - uP xs.length 0 lo)
noncomputable def Ez (x:PV) (lo hi:Option Int):Option RV:=match x with
 | .lst xs=>some (.fr (yN xs lo hi))
 | _=>none
noncomputable def A2 (ma ml mh:ae -> OE):ae -> OE:=fun ρ=>(ma ρ).bind fun a=>(ml ρ).bind fun l=>(mh ρ).bind fun h=>oE (Ez a.pv (tM l.pv) (tM h.pv))
noncomputable def dv (ι:List Nat) (ρ:ae):ae:=ι.map fun i=>(ρ[i]?).join
noncomputable def du (me:ae -> OE) (ρ:ae):List PV -> OA
 | []=>.ok []
 | x ::xs=>(me (ρ ++ [some (.sh x)])).fJ fun r=>match lS r with
   | some y=>(du me ρ xs).fJ fun ys=>.ok (y ::ys)
   | none=>.bad
noncomputable def noX:OA -> OE
 | .ok xs=>if xs.length <= lim then .ok (.fr xs) else .bad
 | _=>.bad
noncomputable def rj (ml:ae -> OE) (ι:List Nat) (me:ae -> OE):ae -> OE:=fun ρ=>(ml ρ).bind fun r=>match r.pv with
 | .lst xs=>noX (du me (dv ι ρ) xs)
 | _=>.bad
noncomputable def wm (mn:ae -> OE) (ι:List Nat) (me:ae -> OE):ae -> OE:=fun ρ=>(mn ρ).bind fun r=>match r.pv with
 | .int j=>if -(2 ^ 62) <= j /\ j < 2 ^ 62 then noX (du me (dv ι ρ) (dI j.toNat)) else .bad
 | _=>.bad
noncomputable def HQ (c:String) (ma:ae -> OA):ae -> OS:=fun ρ=>(ma ρ).bT ρ fun xs=>if xs.length <= lim then .exc ρ c [] else .bad
noncomputable def zI:OS -> OS
 | .exc _ _ _=>.bad
 | o=>o
noncomputable def LB (mb:ae -> OS) (takes:String -> Option Bool) (ms:ae -> OS):ae -> OS:=fun ρ=>match mb ρ with
 | .exc ρ' c fs=>(match takes c with
   | some true=>zI (ms ρ')
   | some false=>.exc ρ' c fs
   | none=>.bad)
 | o=>o
noncomputable def Kq (i:Nat):OS -> OS
 | .nx ρ=>.nx (ρ.set i none)
 | .bk ρ=>.bk (ρ.set i none)
 | .ct ρ=>.ct (ρ.set i none)
 | o=>o
noncomputable def G3 (i:Nat) (mb:ae -> OS) (takes:String -> Option Bool) (ms:ae -> OS):ae -> OS:=fun ρ=>match mb ρ with
 | .exc ρ' c fs=>(match takes c with
   | some true=>Kq i (zI (ms (ρ'.set i (some (.ex c fs)))))
   | some false=>.exc ρ' c fs
   | none=>.bad)
 | o=>o
noncomputable def Lj (i:Nat) (under:String -> Bool):ae -> OE:=fun ρ=>match ρ[i]? with
 | some (some (.ex c _))=>if under c = true then .ok (.sh (.bl true)) else .bad
 | _=>.bad
noncomputable def fin:OS -> OE
 | .nx _=>.ok (.sh .non)
 | .rt _ (.al _)=>.bad
 | .rt _ r=>.ok r
 | .exc _ c fs=>.exc c fs
 | _=>.bad
noncomputable def mi (n:Nat) (xs:List PV):ae:=xs.map (fun x=>some (.sh x)) ++ List.replicate (n - xs.length) none
noncomputable def fnP (np n:Nat) (m:ae -> OS):List PV -> OE:=fun xs=>if xs.length = np then fin (m (mi n xs)) else .bad
noncomputable def fuel:Nat:=100000
noncomputable def i9 (i:Nat) (m:ae -> OS):ae -> OS:=fun ρ=>m (lx i ρ)
noncomputable def LP (i:Nat) (g:PV -> PV -> Option RV) (me:ae -> OE):ae -> OS:=fun ρ=>match ρ[i]? with
 | some (some (.sh x))=>(me ρ).bT ρ fun r=>match g x r.pv with
   | some (.sh z)=>.nx (ρ.set i (some (.sh z)))
   | _=>.bad
 | _=>.bad
noncomputable def cu:PV -> Bool
 | .non=>true
 | _=>false
noncomputable def sO:PV -> PV -> Option RV
 | x,.non=>some (.sh (.bl (cu x)))
 | _,_=>none
noncomputable def tJ:PV -> PV -> Option RV
 | x,.non=>some (.sh (.bl (!cu x)))
 | _,_=>none
noncomputable def JG (xs:List PV) (i:Int) (y:PV):List PV:=xs.take (if i < 0 then (i + (xs.length:Int)).toNat else min i.toNat xs.length) ++ y ::xs.drop (if i < 0 then (i + (xs.length:Int)).toNat else min i.toNat xs.length)
noncomputable def DL (i:Nat) (mk me:ae -> OE):ae -> OS:=fun ρ=>match ρ[i]? with
 | some (some (.ow xs))=>(ak mk (ak me aM) ρ).bT ρ fun ys=>match ys with
   | [.int k,y]=>if (-(2 ^ 63) <= k /\ k < 2 ^ 63) /\ xs.length < lim then .nx (ρ.set i (some (.ow (JG xs k y)))) else .bad
   | _=>.bad
 | _=>.bad
@[simp] theorem yP (i:Nat) (ρ:ae):aq i ρ = (match ρ[i]? with
  | some (some (.sh x))=>.ok (.sh x)
  | some (some (.ow xs))=>.ok (.al xs)
  | _=>.bad):=rfl
@[simp] theorem Gd (g:PV -> PV -> Option RV) (ma mb:ae -> OE) (ρ:ae):mOp g ma mb ρ = ((ma ρ).bind fun a=>(mb ρ).bind fun b=>oE (g a.pv b.pv)):=rfl
@[simp] theorem KD (me:ae -> OE) (mr:ae -> OA) (ρ:ae):ak me mr ρ = ((me ρ).fJ fun r=>match lS r with
  | some x=>(mr ρ).fJ fun xs=>.ok (x ::xs)
  | none=>.bad):=rfl
@[simp] theorem Lw (ma:ae -> OA) (ρ:ae):cf ma ρ = ((ma ρ).bind fun xs=>if xs.length <= lim then .ok (.fr xs) else .bad):=rfl
@[simp] theorem Md (ma:ae -> OA) (ρ:ae):gm ma ρ = ((ma ρ).bind fun xs=>if xs.length <= lim then .ok (.sh (.tup xs)) else .bad):=rfl
@[simp] theorem KU (f:List PV -> OE) (ma:ae -> OA) (ρ:ae):bI f ma ρ = ((ma ρ).bind f):=rfl
@[simp] theorem BO (g:PV -> Option RV) (ma:ae -> OE) (ρ:ae):mUn g ma ρ = ((ma ρ).bind fun a=>oE (g a.pv)):=rfl
@[simp] theorem Du (ma:ae -> OE) (ρ:ae):eH ma ρ = ((ma ρ).gf fun r=>oT (sJ r.pv)):=rfl
@[simp] theorem DR (ma:ae -> OE) (ρ:ae):aD ma ρ = ((ma ρ).gf fun r=>match r.pv with
  | .bl b=>.ok b
  | _=>.bad):=rfl
@[simp] theorem K3 (m:ae -> OT) (ρ:ae):JJ m ρ = ((m ρ).gf fun b=>.ok (!b)):=rfl
@[simp] theorem Fl (m n:ae -> OT) (ρ:ae):fF m n ρ = ((m ρ).gf fun b=>if b = true then n ρ else .ok false):=rfl
@[simp] theorem LO (m n:ae -> OT) (ρ:ae):rB m n ρ = ((m ρ).gf fun b=>if b = true then .ok true else n ρ):=rfl
@[simp] theorem KN (m n:ae -> OE) (ρ:ae):uy m n ρ = ((m ρ).bind fun r=>match r.pv with
  | .bl b=>if b = true then n ρ else .ok (.sh (.bl false))
  | _=>.bad):=rfl
@[simp] theorem Lg (m n:ae -> OE) (ρ:ae):Ca m n ρ = ((m ρ).bind fun r=>match r.pv with
  | .bl b=>if b = true then .ok (.sh (.bl true)) else n ρ
  | _=>.bad):=rfl
@[simp] theorem KG (m:ae -> OE) (ρ:ae):CN m ρ = ((m ρ).bind fun r=>match r.pv with
  | .bl b=>.ok (.sh (.bl (!b)))
  | _=>.bad):=rfl
@[simp] theorem LV (c:ae -> OT) (m n:ae -> OE) (ρ:ae):gV c m n ρ = ((c ρ).bind fun b=>if b = true then m ρ else n ρ):=rfl
@[simp] theorem JB (g g':PV -> PV -> Option RV) (ma mb mc:ae -> OE) (ρ:ae):lJ g g' ma mb mc ρ = ((ma ρ).bind fun a=>(mb ρ).bind fun b=>(oE (g a.pv b.pv)).bind fun r=>match r.pv with
  | .bl k=>if k = true then (mc ρ).bind fun c=>oE (g' b.pv c.pv) else .ok (.sh (.bl false))
  | _=>.bad):=rfl
@[simp] theorem oi (a b:ae -> OS) (ρ:ae):aJ a b ρ = ((a ρ).andThen b):=rfl
@[simp] theorem DT (ρ:ae):aR  ρ = (.nx ρ):=rfl
@[simp] theorem Kg (ρ:ae):G9  ρ = (.bk ρ):=rfl
@[simp] theorem KQ (ρ:ae):JQ  ρ = (.ct ρ):=rfl
@[simp] theorem BK (i:Nat) (me:ae -> OE) (ρ:ae):bp i me ρ = ((me ρ).bT ρ fun r=>match BU r with
  | some s=>.nx (ρ.set i (some s))
  | none=>.bad):=rfl
@[simp] theorem yZ (c:ae -> OT) (m n:ae -> OS) (ρ:ae):bb c m n ρ = ((c ρ).bT ρ fun b=>if b = true then m ρ else n ρ):=rfl
@[simp] theorem DB (me:ae -> OE) (ρ:ae):bc me ρ = ((me ρ).bT ρ fun r=>match r with
  | .al _=>.bad
  | r=>.rt ρ r):=rfl
@[simp] theorem Jc (i:Nat) (ρ:ae):iD i ρ = (match ρ[i]? with
  | some (some (.sh x))=>.rt ρ (.sh x)
  | some (some (.ow xs))=>.rt (ρ.set i none) (.fr xs)
  | _=>.bad):=rfl
@[simp] theorem KS (me:ae -> OE) (ρ:ae):JF me ρ = ((me ρ).bT ρ fun _=>.nx ρ):=rfl
@[simp] theorem Jf (i:Nat) (me:ae -> OE) (ρ:ae):eN i me ρ = (match ρ[i]? with
  | some (some (.ow xs))=>(me ρ).bT ρ fun r=>match lS r with
    | some y=>if xs.length < lim then .nx (ρ.set i (some (.ow (xs ++ [y])))) else .bad
    | none=>.bad
  | _=>.bad):=rfl
@[simp] theorem I8 (i:Nat) (me:ae -> OE) (ρ:ae):Em i me ρ = (match ρ[i]? with
  | some (some (.ow xs))=>(me ρ).bT ρ fun r=>match r with
    | .fr ys=>if xs.length + ys.length <= lim then .nx (ρ.set i (some (.ow (xs ++ ys)))) else .bad
    | _=>.bad
  | _=>.bad):=rfl
@[simp] theorem Ky (i:Nat) (ml:ae -> OE) (mb:ae -> OS) (ρ:ae):sq i ml mb ρ = ((ml ρ).bT ρ fun r=>match yQ r with
  | some xs=>jq i mb xs ρ
  | none=>.bad):=rfl
@[simp] theorem K5 (i:Nat) (me:ae -> OE) (mb:ae -> OS) (ρ:ae):so i me mb ρ = ((me ρ).bT ρ fun r=>match r.pv with
  | .int j=>if -(2 ^ 62) <= j /\ j < 2 ^ 62 then jq i mb (dI j.toNat) ρ else .bad
  | _=>.bad):=rfl
@[simp] theorem K9 (m:ae -> OE) (ρ:ae):u4 m ρ = ((m ρ).bind fun r=>match r.pv with
  | .int i=>.ok (.sh (.int i))
  | _=>.bad):=rfl
@[simp] theorem LC (ma ml mh:ae -> OE) (ρ:ae):A2 ma ml mh ρ = ((ma ρ).bind fun a=>(ml ρ).bind fun l=>(mh ρ).bind fun h=>oE (Ez a.pv (tM l.pv) (tM h.pv))):=rfl
@[simp] theorem CL (ml:ae -> OE) (ι:List Nat) (me:ae -> OE) (ρ:ae):rj ml ι me ρ = ((ml ρ).bind fun r=>match r.pv with
  | .lst xs=>noX (du me (dv ι ρ) xs)
  | _=>.bad):=rfl
@[simp] theorem JI (mn:ae -> OE) (ι:List Nat) (me:ae -> OE) (ρ:ae):wm mn ι me ρ = ((mn ρ).bind fun r=>match r.pv with
  | .int j=>if -(2 ^ 62) <= j /\ j < 2 ^ 62 then noX (du me (dv ι ρ) (dI j.toNat)) else .bad
  | _=>.bad):=rfl
@[simp] theorem Jo (c:String) (ma:ae -> OA) (ρ:ae):HQ c ma ρ = ((ma ρ).bT ρ fun xs=>if xs.length <= lim then .exc ρ c [] else .bad):=rfl
@[simp] theorem Lp (mb:ae -> OS) (takes:String -> Option Bool) (ms:ae -> OS) (ρ:ae):LB mb takes ms ρ = (match mb ρ with
  | .exc ρ' c fs=>(match takes c with
    | some true=>zI (ms ρ')
    | some false=>.exc ρ' c fs
    | none=>.bad)
  | o=>o):=rfl
@[simp] theorem Jl (i:Nat) (mb:ae -> OS) (takes:String -> Option Bool) (ms:ae -> OS) (ρ:ae):G3 i mb takes ms ρ = (match mb ρ with
  | .exc ρ' c fs=>(match takes c with
    | some true=>Kq i (zI (ms (ρ'.set i (some (.ex c fs)))))
    | some false=>.exc ρ' c fs
    | none=>.bad)
  | o=>o):=rfl
@[simp] theorem L1 (i:Nat) (under:String -> Bool) (ρ:ae):Lj i under ρ = (match ρ[i]? with
  | some (some (.ex c _))=>if under c = true then .ok (.sh (.bl true)) else .bad
  | _=>.bad):=rfl
@[simp] theorem I9 (i:Nat) (m:ae -> OS) (ρ:ae):i9 i m ρ = (m (lx i ρ)):=rfl
@[simp] theorem L6 (i:Nat) (g:PV -> PV -> Option RV) (me:ae -> OE) (ρ:ae):LP i g me ρ = (match ρ[i]? with
  | some (some (.sh x))=>(me ρ).bT ρ fun r=>match g x r.pv with
    | some (.sh z)=>.nx (ρ.set i (some (.sh z)))
    | _=>.bad
  | _=>.bad):=rfl
@[simp] theorem Je (i:Nat) (mk me:ae -> OE) (ρ:ae):DL i mk me ρ = (match ρ[i]? with
  | some (some (.ow xs))=>(ak mk (ak me aM) ρ).bT ρ fun ys=>match ys with
    | [.int k,y]=>if (-(2 ^ 63) <= k /\ k < 2 ^ 63) /\ xs.length < lim then .nx (ρ.set i (some (.ow (JG xs k y)))) else .bad
    | _=>.bad
  | _=>.bad):=rfl
@[simp] theorem MG (x:PV) (ρ:ae):mC x ρ = .ok (.sh x):=rfl
@[simp] theorem Ma (ρ:ae):aM ρ = .ok []:=rfl
@[simp] theorem KL (ρ:ae):Jg ρ = .rt ρ (.sh .non):=rfl
@[simp] theorem pw (r:RV) (f:RV -> OE):OE.bind (.ok r) f = f r:=rfl
@[simp] theorem HL (c:String) (fs:XF) (f:RV -> OE):OE.bind (.exc c fs) f = .exc c fs:=rfl
@[simp] theorem Ia {p:Prop} [Decidable p] (x y:OE) (f:RV -> OE):OE.bind (if p then x else y) f = if p then OE.bind x f else OE.bind y f:=by split <;> rfl
@[simp] theorem HJ (r:RV) (f:RV -> OT):OE.gf (.ok r) f = f r:=rfl
@[simp] theorem FZ (c:String) (fs:XF) (f:RV -> OT):OE.gf (.exc c fs) f = .exc c fs:=rfl
@[simp] theorem Gg {p:Prop} [Decidable p] (x y:OE) (f:RV -> OT):OE.gf (if p then x else y) f = if p then OE.gf x f else OE.gf y f:=by split <;> rfl
@[simp] theorem GZ (r:RV) (f:RV -> OA):OE.fJ (.ok r) f = f r:=rfl
@[simp] theorem FR (c:String) (fs:XF) (f:RV -> OA):OE.fJ (.exc c fs) f = .exc c fs:=rfl
@[simp] theorem FK {p:Prop} [Decidable p] (x y:OE) (f:RV -> OA):OE.fJ (if p then x else y) f = if p then OE.fJ x f else OE.fJ y f:=by split <;> rfl
@[simp] theorem IX (r:Bool) (f:Bool -> OE):OT.bind (.ok r) f = f r:=rfl
@[simp] theorem Gr (c:String) (fs:XF) (f:Bool -> OE):OT.bind (.exc c fs) f = .exc c fs:=rfl
@[simp] theorem GB {p:Prop} [Decidable p] (x y:OT) (f:Bool -> OE):OT.bind (if p then x else y) f = if p then OT.bind x f else OT.bind y f:=by split <;> rfl
@[simp] theorem Io (r:Bool) (f:Bool -> OT):OT.gf (.ok r) f = f r:=rfl
@[simp] theorem Ga (c:String) (fs:XF) (f:Bool -> OT):OT.gf (.exc c fs) f = .exc c fs:=rfl
@[simp] theorem FP {p:Prop} [Decidable p] (x y:OT) (f:Bool -> OT):OT.gf (if p then x else y) f = if p then OT.gf x f else OT.gf y f:=by split <;> rfl
@[simp] theorem IY (r:List PV) (f:List PV -> OE):OA.bind (.ok r) f = f r:=rfl
@[simp] theorem G4 (c:String) (fs:XF) (f:List PV -> OE):OA.bind (.exc c fs) f = .exc c fs:=rfl
@[simp] theorem HA {p:Prop} [Decidable p] (x y:OA) (f:List PV -> OE):OA.bind (if p then x else y) f = if p then OA.bind x f else OA.bind y f:=by split <;> rfl
@[simp] theorem Hv (r:List PV) (f:List PV -> OA):OA.fJ (.ok r) f = f r:=rfl
@[simp] theorem FU (c:String) (fs:XF) (f:List PV -> OA):OA.fJ (.exc c fs) f = .exc c fs:=rfl
@[simp] theorem F7 {p:Prop} [Decidable p] (x y:OA) (f:List PV -> OA):OA.fJ (if p then x else y) f = if p then OA.fJ x f else OA.fJ y f:=by split <;> rfl
@[simp] theorem iL (ρ:ae) (r:RV) (f:RV -> OS):OE.bT ρ (.ok r) f = f r:=rfl
@[simp] theorem F9 (ρ:ae) (c:String) (fs:XF) (f:RV -> OS):OE.bT ρ (.exc c fs) f = .exc ρ c fs:=rfl
@[simp] theorem Gb {p:Prop} [Decidable p] (ρ:ae) (x y:OE) (f:RV -> OS):OE.bT ρ (if p then x else y) f = if p then OE.bT ρ x f else OE.bT ρ y f:=by split <;> rfl
@[simp] theorem kT (ρ:ae) (r:Bool) (f:Bool -> OS):OT.bT ρ (.ok r) f = f r:=rfl
@[simp] theorem Gi (ρ:ae) (c:String) (fs:XF) (f:Bool -> OS):OT.bT ρ (.exc c fs) f = .exc ρ c fs:=rfl
@[simp] theorem FV {p:Prop} [Decidable p] (ρ:ae) (x y:OT) (f:Bool -> OS):OT.bT ρ (if p then x else y) f = if p then OT.bT ρ x f else OT.bT ρ y f:=by split <;> rfl
@[simp] theorem Ic (ρ:ae) (r:List PV) (f:List PV -> OS):OA.bT ρ (.ok r) f = f r:=rfl
@[simp] theorem FA (ρ:ae) (c:String) (fs:XF) (f:List PV -> OS):OA.bT ρ (.exc c fs) f = .exc ρ c fs:=rfl
@[simp] theorem FD {p:Prop} [Decidable p] (ρ:ae) (x y:OA) (f:List PV -> OS):OA.bT ρ (if p then x else y) f = if p then OA.bT ρ x f else OA.bT ρ y f:=by split <;> rfl
@[simp] theorem jv (ρ:ae) (k:ae -> OS):(OS.nx ρ).andThen k = k ρ:=rfl
@[simp] theorem m4 (ρ:ae) (k:ae -> OS):(OS.nx ρ).turn k = k ρ:=rfl
@[simp] theorem Ii (ρ:ae) (k:ae -> OS):(OS.bk ρ).andThen k = OS.bk ρ:=rfl
@[simp] theorem KO (ρ:ae) (k:ae -> OS):(OS.bk ρ).turn k = .nx ρ:=rfl
@[simp] theorem Gw (ρ:ae) (k:ae -> OS):(OS.ct ρ).andThen k = OS.ct ρ:=rfl
@[simp] theorem KI (ρ:ae) (k:ae -> OS):(OS.ct ρ).turn k = k ρ:=rfl
@[simp] theorem tT (ρ:ae) (r:RV) (k:ae -> OS):(OS.rt ρ r).andThen k = OS.rt ρ r:=rfl
@[simp] theorem Ap (ρ:ae) (r:RV) (k:ae -> OS):(OS.rt ρ r).turn k = OS.rt ρ r:=rfl
@[simp] theorem FG (ρ:ae) (c:String) (fs:XF) (k:ae -> OS):(OS.exc ρ c fs).andThen k = OS.exc ρ c fs:=rfl
@[simp] theorem JW (ρ:ae) (c:String) (fs:XF) (k:ae -> OS):(OS.exc ρ c fs).turn k = OS.exc ρ c fs:=rfl
@[simp] theorem FY {p:Prop} [Decidable p] (x y:OS) (k:ae -> OS):OS.andThen (if p then x else y) k = if p then x.andThen k else y.andThen k:=by split <;> rfl
@[simp] theorem Jp {p:Prop} [Decidable p] (x y:OS) (k:ae -> OS):OS.turn (if p then x else y) k = if p then x.turn k else y.turn k:=by split <;> rfl
@[simp] theorem Ly (ρ:ae):fin (.nx ρ) = .ok (.sh .non):=rfl
@[simp] theorem LU (ρ:ae) (x:PV):fin (.rt ρ (.sh x)) = .ok (.sh x):=rfl
@[simp] theorem Ls (ρ:ae) (x:List PV):fin (.rt ρ (.fr x)) = .ok (.fr x):=rfl
@[simp] theorem KJ (ρ:ae) (c:String) (fs:XF):fin (.exc ρ c fs) = .exc c fs:=rfl
@[simp] theorem KR {p:Prop} [Decidable p] (x y:OS):fin (if p then x else y) = if p then fin x else fin y:=by split <;> rfl
@[simp] theorem Ml (x:PV):RV.pv (.sh x) = x:=rfl
@[simp] theorem B0 (x:List PV):RV.pv (.fr x) = .lst x:=rfl
@[simp] theorem B6 (x:List PV):RV.pv (.al x) = .lst x:=rfl
@[simp] theorem wJ (r:RV):oE (some r) = .ok r:=rfl
@[simp] theorem K8 (r:Bool):oT (some r) = .ok r:=rfl
@[simp] theorem Ja (i:Nat) (mb:ae -> OS) (ρ:ae):jq i mb [] ρ = .nx ρ:=rfl
@[simp] theorem kF (i:Nat) (mb:ae -> OS) (x:PV) (xs:List PV) (ρ:ae):jq i mb (x ::xs) ρ = (mb (ρ.set i (some (.sh x)))).turn (jq i mb xs):=rfl
@[simp] theorem LA (i j:Int):fo (.int i) (.int j) = some (.sh (.int (i + j))):=rfl
@[simp] theorem LM (i j:Int):uM (.int i) (.int j) = some (.sh (.int (i - j))):=rfl
@[simp] theorem LZ (i j:Int):yi (.int i) (.int j) = if ((decide (-(2 ^ 64) < i) && decide (i < 2 ^ 64)) || (decide (-(2 ^ 64) < j) && decide (j < 2 ^ 64))) = true then some (.sh (.int (i * j))) else none:=rfl
@[simp] theorem Mg (i j:Int):dE (.int i) (.int j) = if (decide (0 < j) && decide (j < 1073741824)) = true then some (.sh (.int (i / j))) else none:=rfl
@[simp] theorem LG (i j:Int):cA (.int i) (.int j) = if decide (0 < j) = true then some (.sh (.int (i % j))) else none:=rfl
@[simp] theorem Ll (i j:Int):LD (.int i) (.int j) = if (decide (0 <= j) && (decide (j <= 1000000) && decide (i.natAbs < 2 ^ 64))) = true then some (.sh (.int (i ^ j.toNat))) else none:=rfl
@[simp] theorem MD (i j:Int):gLt (.int i) (.int j) = some (.sh (.bl (decide (i < j)))):=rfl
@[simp] theorem ME (i j:Int):gLe (.int i) (.int j) = some (.sh (.bl (decide (i <= j)))):=rfl
@[simp] theorem Mn (i j:Int):gGt (.int i) (.int j) = some (.sh (.bl (decide (j < i)))):=rfl
@[simp] theorem Mv (i j:Int):gGe (.int i) (.int j) = some (.sh (.bl (decide (j <= i)))):=rfl
@[simp] theorem Mz (i j:Int):gEq (.int i) (.int j) = some (.sh (.bl (decide (i = j)))):=rfl
@[simp] theorem Mj (i j:Int):gNe (.int i) (.int j) = some (.sh (.bl (!decide (i = j)))):=rfl
@[simp] theorem My (i j:Bool):gEq (.bl i) (.bl j) = some (.sh (.bl (decide (i = j)))):=rfl
@[simp] theorem Mp (i j:Bool):gNe (.bl i) (.bl j) = some (.sh (.bl (!decide (i = j)))):=rfl
@[simp] theorem Iv (xs:List PV):ym (.lst xs) = some (.sh (.int xs.length)):=rfl
@[simp] theorem Lz (xs:List PV):ym (.tup xs) = some (.sh (.int xs.length)):=rfl
@[simp] theorem L4 (xs:List PV) (i:Int):mI (.lst xs) (.int i) = (atP xs i).map .sh:=rfl
@[simp] theorem Mh (xs:List PV) (i:Int):ik (.tup xs) (.int i) = (atP xs i).map .sh:=rfl
@[simp] theorem Iw (xs ys:List PV):lQ (.lst xs) (.lst ys) = if xs.length + ys.length <= lim then some (.fr (xs ++ ys)) else none:=rfl
@[simp] theorem LF {p:Prop} [Decidable p] (x y:Option RV):oE (if p then x else y) = if p then oE x else oE y:=by split <;> rfl
@[simp] theorem L5 (b:Bool):sJ (.bl b) = some b:=rfl
@[simp] theorem Ln (i:Int):sJ (.int i) = some (i != 0):=rfl
@[simp] theorem Lh (xs:List PV):sJ (.lst xs) = some (!xs.isEmpty):=rfl
@[simp] theorem LR (xs:List PV):sJ (.tup xs) = some (!xs.isEmpty):=rfl
@[simp] theorem LN:sJ .non = some false:=rfl
@[simp] theorem IV (i:Int):isP "int" (.int i) = some true:=rfl
@[simp] theorem HF (i:Int):isP "bool" (.int i) = some false:=rfl
@[simp] theorem HY (i:Bool):isP "bool" (.bl i) = some true:=rfl
@[simp] theorem GR (xs:List PV):isP "list" (.lst xs) = some true:=rfl
@[simp] theorem IW (xs:List PV):qV (.lst xs) = some (.fr xs):=rfl
@[simp] theorem Jb (xs:List PV):qV (.tup xs) = some (.fr xs):=rfl
@[simp] theorem Le (xs:List PV) (lo hi:Option Int):Ez (.lst xs) lo hi = some (.fr (yN xs lo hi)):=rfl
@[simp] theorem K0:tM .non = none:=rfl
@[simp] theorem KY (i:Int):tM (.int i) = some i:=rfl
@[simp] theorem LH (i:Int):gU (.int i) = some (.sh (.int (-i))):=rfl
@[simp] theorem KA (i:Int):yx (.int i) = some (.sh (.int i)):=rfl
@[simp] theorem KZ (i:Bool):yx (.bl i) = some (.sh (.int (if i then 1 else 0))):=rfl
@[simp] theorem La (x:PV):lS (.sh x) = some x:=rfl
@[simp] theorem KP (x:List PV):lS (.fr x) = some (.lst x):=rfl
@[simp] theorem Kx (x:PV):BU (.sh x) = some (.sh x):=rfl
@[simp] theorem EG (x:List PV):BU (.fr x) = some (.ow x):=rfl
@[simp] theorem Ak (np n:Nat) (m:ae -> OS) (xs:List PV):fnP np n m xs = if xs.length = np then fin (m (mi n xs)) else .bad:=rfl
@[simp] theorem q9 (n:Nat) (xs:List PV):mi n xs = xs.map (fun x=>some (.sh x)) ++ List.replicate (n - xs.length) none:=rfl
@[simp] theorem Gj (xs:List PV):yQ (.sh (.lst xs)) = some xs:=rfl
@[simp] theorem K4 (xs:List PV):yQ (.fr xs) = some xs:=rfl
@[simp] theorem Mb (x:PV):sO x .non = some (.sh (.bl (cu x))):=rfl
@[simp] theorem Kz (x:PV):tJ x .non = some (.sh (.bl (!cu x))):=rfl
@[simp] theorem Dj (xs:List PV):noX (.ok xs) = if xs.length <= lim then .ok (.fr xs) else .bad:=rfl
@[simp] theorem Hy (me:ae -> OE) (ρ:ae):du me ρ [] = .ok []:=rfl
@[simp] theorem GG (f:RV -> OE):OE.bind .bad f = .bad:=rfl
@[simp] theorem F6 (f:RV -> OT):OE.gf .bad f = .bad:=rfl
@[simp] theorem FL (f:RV -> OA):OE.fJ .bad f = .bad:=rfl
@[simp] theorem GQ (f:Bool -> OE):OT.bind .bad f = .bad:=rfl
@[simp] theorem Ge (f:Bool -> OT):OT.gf .bad f = .bad:=rfl
@[simp] theorem G2 (f:List PV -> OE):OA.bind .bad f = .bad:=rfl
@[simp] theorem F3 (f:List PV -> OA):OA.fJ .bad f = .bad:=rfl
@[simp] theorem F8 (ρ:ae) (f:RV -> OS):OE.bT ρ .bad f = .bad:=rfl
@[simp] theorem FT (ρ:ae) (f:Bool -> OS):OT.bT ρ .bad f = .bad:=rfl
@[simp] theorem FW (ρ:ae) (f:List PV -> OS):OA.bT ρ .bad f = .bad:=rfl
@[simp] theorem FX (k:ae -> OS):OS.bad.andThen k = .bad:=rfl
@[simp] theorem Kv (k:ae -> OS):OS.bad.turn k = .bad:=rfl
@[simp] theorem K7:fin .bad = .bad:=rfl
@[simp] theorem K2:oE none = .bad:=rfl
@[simp] theorem Kw:oT none = .bad:=rfl
@[simp] theorem KW (x:List PV):lS (.al x) = none:=rfl
@[simp] theorem KH (x:List PV):BU (.al x) = none:=rfl
@[simp] theorem MF:(0 <= lim) = True:=by simp [lim]
@[simp] theorem Mt:(1 <= lim) = True:=by simp [lim]
@[simp] theorem Mq:(2 <= lim) = True:=by simp [lim]
@[simp] theorem MB:(3 <= lim) = True:=by simp [lim]
@[simp] theorem Mu:(4 <= lim) = True:=by simp [lim]
@[simp] theorem Mm:(5 <= lim) = True:=by simp [lim]
@[simp] theorem MA:(6 <= lim) = True:=by simp [lim]
@[simp] theorem MC:(7 <= lim) = True:=by simp [lim]
@[simp] theorem Mr:(8 <= lim) = True:=by simp [lim]
@[simp] theorem Mw:(9 <= lim) = True:=by simp [lim]
@[simp] theorem L8:(10 <= lim) = True:=by simp [lim]
@[simp] theorem Lb:(11 <= lim) = True:=by simp [lim]
@[simp] theorem LY:(12 <= lim) = True:=by simp [lim]
@[simp] theorem LX:(13 <= lim) = True:=by simp [lim]
@[simp] theorem LW:(14 <= lim) = True:=by simp [lim]
@[simp] theorem LI:(15 <= lim) = True:=by simp [lim]
@[simp] theorem Lq:(16 <= lim) = True:=by simp [lim]
theorem fh {n:Nat} (h:n <= 1000000):n <= lim:=by unfold lim; omega
theorem rQ {n:Nat} (h:n <= 1000000):n < lim:=by unfold lim; omega
theorem tu {α:Type} (xs:List α) (k:Nat):atP xs (k:Int) = xs[k]?:=by
 unfold atP ixP
 by_cases h:k < xs.length
 . simp [h]
 . simp [h]
@[simp] theorem Mx {α:Type} (xs:List α):atP xs 0 = xs[0]?:=tu xs 0
@[simp] theorem Ms {α:Type} (xs:List α):atP xs 1 = xs[1]?:=tu xs 1
@[simp] theorem K1 {α:Type} (xs:List α) (n:Nat):atP xs (no_index (OfNat.ofNat n:Int)) = xs[n]?:=tu xs n
theorem B5 {α:Type} (xs:List α) (i:Int) (h:0 <= i):atP xs i = xs[i.toNat]?:=by
 have:=tu xs i.toNat
 rwa [Int.toNat_of_nonneg h] at this
@[simp] theorem Mi (T:String) (ma:ae -> OE) (ρ:ae):mIs T ma ρ = (ma ρ).bind fun a=>oE ((isP T a.pv).map fun b=>.sh (.bl b)):=rfl
@[simp] theorem IA (ns:List Int):rV (ns.map .int) = some ns:=by
  induction ns with
  | nil=>rfl
  | cons n ns ih=>show (rV (ns.map .int)).map (n ::·) = _; rw [ih]; rfl
@[simp] theorem xM (ns:List Bool):rb (ns.map .bl) = some ns:=by
  induction ns with
  | nil=>rfl
  | cons n ns ih=>show (rb (ns.map .bl)).map (n ::·) = _; rw [ih]; rfl
@[simp] theorem IK (n:Nat):(dI n).length = n:=by simp [dI]
theorem kx {me:ae -> OE} {ρ:ae} {α:Type} {g:α -> PV} {f:α -> PV} (l:List α) (h:∀ a ∈ l,me (ρ ++ [some (.sh (g a))]) = .ok (.sh (f a))):du me ρ (l.map g) = .ok (l.map f):=by
 induction l with
 | nil=>rfl
 | cons a l ih=>
   have h1:=h a (List.mem_cons_self)
   have h2:=ih fun b hb=>h b (List.mem_cons_of_mem _ hb)
   simp [du,h1,h2]
noncomputable def C6 (b:Bool):PV -> Bool
 | .bl c=>decide (c = b)
 | _=>false
noncomputable def LJ:PV -> PV -> Option RV
 | x,.bl b=>some (.sh (.bl (C6 b x)))
 | _,_=>none
noncomputable def DZ:PV -> PV -> Option RV
 | x,.bl b=>some (.sh (.bl (!C6 b x)))
 | _,_=>none
@[simp] theorem LS (x:PV) (b:Bool):LJ x (.bl b) = some (.sh (.bl (C6 b x))):=rfl
@[simp] theorem IZ (x:PV) (b:Bool):DZ x (.bl b) = some (.sh (.bl (!C6 b x))):=rfl
@[simp] theorem LL (b c:Bool):C6 b (.bl c) = decide (c = b):=rfl
noncomputable def Ek (c:String) (f:Str) (ma:ae -> OA):ae -> OS:=fun ρ=>(ma ρ).bT ρ fun xs=>match xs with
 | [x]=>.exc ρ c [(f,x)]
 | _=>.bad
@[simp] theorem I0 (c:String) (f:Str) (ma:ae -> OA) (ρ:ae):Ek c f ma ρ = (ma ρ).bT ρ fun xs=>match xs with
  | [x]=>.exc ρ c [(f,x)]
  | _=>.bad:=rfl
noncomputable def JV (i:Nat) (f:Str) (under:String -> Bool):ae -> OE:=fun ρ=>match ρ[i]? with
 | some (some (.ex c fs))=>if under c = true then (match fs.lookup f with
   | some x=>.ok (.sh x)
   | none=>.bad) else .bad
 | _=>.bad
@[simp] theorem K6 (i:Nat) (f:Str) (under:String -> Bool) (ρ:ae):JV i f under ρ = match ρ[i]? with
  | some (some (.ex c fs))=>if under c = true then (match fs.lookup f with
    | some x=>.ok (.sh x)
    | none=>.bad) else .bad
  | _=>.bad:=rfl
noncomputable def Lk (ma mb:ae -> OE):ae -> OE:=fun ρ=>(ma ρ).bind fun a=>(mb ρ).bind fun b=>match a,b.pv with
 | .fr xs,.int k=>if (-(2 ^ 63) <= k /\ k < 2 ^ 63) /\ xs.length * k.toNat <= lim then .ok (.fr (List.replicate k.toNat xs).flatten) else .bad
 | _,_=>.bad
@[simp] theorem Lm (ma mb:ae -> OE) (ρ:ae):Lk ma mb ρ = (ma ρ).bind fun a=>(mb ρ).bind fun b=>match a,b.pv with
  | .fr xs,.int k=>if (-(2 ^ 63) <= k /\ k < 2 ^ 63) /\ xs.length * k.toNat <= lim then .ok (.fr (List.replicate k.toNat xs).flatten) else .bad
  | _,_=>.bad:=rfl
noncomputable def Me (i:Nat) (mk mv:ae -> OE):ae -> OS:=fun ρ=>match ρ[i]? with
 | some (some (.ow xs))=>(mv ρ).bT ρ fun r=>match lS r with
   | some y=>(mk ρ).bT ρ fun kk=>match kk.pv with
     | .int k=>match ixP xs.length k with
       | some j=>.nx (ρ.set i (some (.ow (xs.set j y))))
       | none=>.bad
     | _=>.bad
   | none=>.bad
 | _=>.bad
@[simp] theorem Lr (i:Nat) (mk mv:ae -> OE) (ρ:ae):Me i mk mv ρ = match ρ[i]? with
  | some (some (.ow xs))=>(mv ρ).bT ρ fun r=>match lS r with
    | some y=>(mk ρ).bT ρ fun kk=>match kk.pv with
      | .int k=>match ixP xs.length k with
        | some j=>.nx (ρ.set i (some (.ow (xs.set j y))))
        | none=>.bad
      | _=>.bad
    | none=>.bad
  | _=>.bad:=rfl
end L2.P
namespace L2.P
open PySem PySem.Spec PyProof.Rows L2 L2.E
mutual
noncomputable def Rep (K:PySem.W.Frag) (S:Hp):PV -> V -> Prop
 | .non,v=>v = .non
 | .bl b,v=>v = .bl b
 | .int i,v=>v = .int i
 | .str s,v=>v = .str s
 | .lst xs,v=>∃ p vs,v = .ref p /\ SqL K S p vs /\ b8 K S xs vs
 | .tup xs,v=>∃ p vs,v = .ref p /\ SqT K S p vs /\ b8 K S xs vs
noncomputable def b8 (K:PySem.W.Frag) (S:Hp):List PV -> List V -> Prop
 | [],vs=>vs = []
 | x ::xs,vs=>∃ v r,vs = v ::r /\ Rep K S x v /\ b8 K S xs r
end
theorem _root_.L2.aI.tup {K:PySem.W.Frag} {H H':Hp} {a:Addr} {xs:List V} (e:aI H H') (h:SqT K H a xs):SqT K H' a xs:=by
 rcases h with (h | ⟨o,h⟩) | h
 . exact .inl (.inl (e _ _ h))
 . exact .inl (.inr ⟨o,e _ _ h⟩)
 . exact .inr h
section
variable {K:PySem.W.Frag} {S S':Hp}
mutual
theorem Rep.mono (s:aI S S'):∀ {x:PV} {v:V},Rep K S x v -> Rep K S' x v
 | .non,_,h=>by unfold Rep at h ⊢; exact h
 | .bl _,_,h=>by unfold Rep at h ⊢; exact h
 | .int _,_,h=>by unfold Rep at h ⊢; exact h
 | .str _,_,h=>by unfold Rep at h ⊢; exact h
 | .lst _,_,h=>by
   unfold Rep at h ⊢
   obtain ⟨p,vs,e,q,r⟩:=h
   exact ⟨p,vs,e,aI.seq s q,b8.mono s r⟩
 | .tup _,_,h=>by
   unfold Rep at h ⊢
   obtain ⟨p,vs,e,q,r⟩:=h
   exact ⟨p,vs,e,aI.tup s q,b8.mono s r⟩
theorem b8.mono (s:aI S S'):∀ {xs:List PV} {vs:List V},b8 K S xs vs -> b8 K S' xs vs
 | [],_,h=>by unfold b8 at h ⊢; exact h
 | _ ::_,_,h=>by
   unfold b8 at h ⊢
   obtain ⟨v,r,e,q,t⟩:=h
   exact ⟨v,r,e,Rep.mono s q,b8.mono s t⟩
end
theorem b8.nil:b8 K S [] []:=by unfold b8; rfl
theorem b8.cons {x:PV} {xs:List PV} {v:V} {vs:List V} (h:Rep K S x v) (t:b8 K S xs vs):b8 K S (x ::xs) (v ::vs):=by unfold b8; exact ⟨v,vs,rfl,h,t⟩
theorem b8.nil_inv {vs:List V} (h:b8 K S [] vs):vs = []:=by unfold b8 at h; exact h
theorem b8.cons_inv {x:PV} {xs:List PV} {vs:List V} (h:b8 K S (x ::xs) vs):∃ v r,vs = v ::r /\ Rep K S x v /\ b8 K S xs r:=by unfold b8 at h; exact h
theorem b8.append {xs ys:List PV} {vs us:List V} (h:b8 K S xs vs) (t:b8 K S ys us):b8 K S (xs ++ ys) (vs ++ us):=by
 induction xs generalizing vs with
 | nil=>rw [h.nil_inv]; exact t
 | cons x xs ih=>
   obtain ⟨v,r,rfl,q,h'⟩:=h.cons_inv
   exact .cons q (ih h')
theorem b8.length {xs:List PV} {vs:List V} (h:b8 K S xs vs):vs.length = xs.length:=by
 induction xs generalizing vs with
 | nil=>rw [h.nil_inv]; rfl
 | cons x xs ih=>
   obtain ⟨v,r,rfl,q,h'⟩:=h.cons_inv
   simp [ih h']
theorem b8.get {xs:List PV} {vs:List V} (h:b8 K S xs vs):∀ {i:Nat} {x:PV},xs[i]? = some x -> ∃ v,vs[i]? = some v /\ Rep K S x v:=by
 induction xs generalizing vs with
 | nil=>intro i x e; simp at e
 | cons y xs ih=>
   obtain ⟨v,r,rfl,q,h'⟩:=h.cons_inv
   intro i x e
   cases i with
   | zero=>simp at e; subst e; exact ⟨v,rfl,q⟩
   | succ i=>simp at e; obtain ⟨u,e1,e2⟩:=ih h' e; exact ⟨u,by simpa using e1,e2⟩
theorem b8.JK {xs:List PV} {vs:List V} (h:b8 K S xs vs) {i:Nat} {v:V} (e:vs[i]? = some v):∃ x,xs[i]? = some x /\ Rep K S x v:=by
 have hi:i < xs.length:=by rw [<- h.length]; exact (List.getElem?_eq_some_iff.mp e).1
 obtain ⟨u,e1,e2⟩:=h.get (i:=i) (x:=xs[i]) (by simp [hi])
 rw [e] at e1; cases e1
 exact ⟨_,by simp [hi],e2⟩
theorem b8.take {xs:List PV} {vs:List V} (h:b8 K S xs vs):∀ n,b8 K S (xs.take n) (vs.take n):=by
 induction xs generalizing vs with
 | nil=>intro n; rw [h.nil_inv]; simpa using b8.nil
 | cons y xs ih=>
   obtain ⟨v,r,rfl,q,h'⟩:=h.cons_inv
   intro n
   cases n with
   | zero=>exact .nil
   | succ n=>exact .cons q (ih h' n)
theorem b8.drop {xs:List PV} {vs:List V} (h:b8 K S xs vs):∀ n,b8 K S (xs.drop n) (vs.drop n):=by
 induction xs generalizing vs with
 | nil=>intro n; rw [h.nil_inv]; simpa using b8.nil
 | cons y xs ih=>
   obtain ⟨v,r,rfl,q,h'⟩:=h.cons_inv
   intro n
   cases n with
   | zero=>exact .cons q h'
   | succ n=>exact ih h' n
theorem b8.ints {ns:List Int}:b8 K S (ns.map .int) (ns.map V.int):=by
 induction ns with
 | nil=>exact .nil
 | cons n ns ih=>exact .cons (by unfold Rep; rfl) ih
theorem b8.yb {ns:List Int} {vs:List V} (h:b8 K S (ns.map .int) vs):vs = ns.map V.int:=by
 induction ns generalizing vs with
 | nil=>exact h.nil_inv
 | cons n ns ih=>
   obtain ⟨v,r,rfl,q,h'⟩:=h.cons_inv
   unfold Rep at q
   rw [ih h',q]; rfl
end
end L2.P
namespace L2.P
open PySem PySem.Spec PyProof.Rows L2 L2.E
noncomputable def oI (K:PySem.W.Frag) (cls:String -> Option Addr) (S H:Hp) (c:String) (fs:XF) (a C:Addr):Prop:=
 cls c = some C /\ ∃ dx,H a = some (w9 a C dx) /\ (fs = [] \/ ∃ d us,dx = some d /\ H d = some (.xd us) /\ fs.map (·.1) = us.map (·.1) /\ b8 K S (fs.map (·.2)) (us.map (·.2)))
noncomputable def isX:HO -> Bool
 | .ext _=>true
 | .xd _=>true
 | _=>false
noncomputable def vq (K:PySem.W.Frag) (S:Hp) (kvs:List (Int × PV)) (us:List (Key × V)):Prop:=Paired (fun (p:Int × PV) (q:Key × V)=>q.1 = Sum.inl p.1 /\ Rep K S p.2 q.2) kvs us
noncomputable def xE (K:PySem.W.Frag) (S:Hp) (kvs:List (List Int × PV)) (us:List (List Key × V)):Prop:=Paired (fun (p:List Int × PV) (q:List Key × V)=>q.1 = p.1.map Sum.inl /\ Rep K S p.2 q.2) kvs us
theorem vq.mono {K:PySem.W.Frag} {S S':Hp} (s:aI S S'):∀ {kvs:List (Int × PV)} {us:List (Key × V)},vq K S kvs us -> vq K S' kvs us
 | _,_,.nil=>.nil
 | _,_,.cons h t=>.cons ⟨h.1,Rep.mono s h.2⟩ (vq.mono s t)
theorem xE.mono {K:PySem.W.Frag} {S S':Hp} (s:aI S S'):∀ {kvs:List (List Int × PV)} {us:List (List Key × V)},xE K S kvs us -> xE K S' kvs us
 | _,_,.nil=>.nil
 | _,_,.cons h t=>.cons ⟨h.1,Rep.mono s h.2⟩ (xE.mono s t)
mutual
noncomputable def br (K:PySem.W.Frag) (cls:String -> Option Addr) (S H:Hp):OV -> V -> List Addr -> Prop
 | .sh x,v,fp=>fp = [] /\ Rep K S x v
 | .ol ts,v,fp=>∃ p vs f,v = .ref p /\ H p = some (.lst vs) /\ fp = p ::f /\ bz K cls S H ts vs f
 | .ob c ks ts,v,fp=>∃ p C dx us f,v = .ref p /\ cls c = some C /\ H p = some (.ins C dx us) /\ H dx = some (.own p) /\ us.map (·.1) = ks /\ fp = p ::dx ::f /\ bz K cls S H ts (us.map (·.2)) f
 | .di kvs,v,fp=>∃ p us,v = .ref p /\ H p = some (.dK us) /\ fp = [p] /\ vq K S kvs us
 | .dt kvs,v,fp=>∃ p us,v = .ref p /\ H p = some (.dT us) /\ fp = [p] /\ xE K S kvs us
noncomputable def bz (K:PySem.W.Frag) (cls:String -> Option Addr) (S H:Hp):List OV -> List V -> List Addr -> Prop
 | [],vs,fp=>vs = [] /\ fp = []
 | t ::ts,vs,fp=>∃ v r f1 f2,vs = v ::r /\ fp = f1 ++ f2 /\ br K cls S H t v f1 /\ bz K cls S H ts r f2
end
noncomputable def sM (K:PySem.W.Frag) (cls:String -> Option Addr) (Av G S H:Hp) (i:Nat):Sl -> V -> List Addr -> Prop
 | .sh x,v,fp=>fp = [] /\ Rep K S x v
 | .ow xs,v,fp=>∃ p vs,v = .ref p /\ fp = [p] /\ G p = none /\ S p = none /\ H p = some (.lst vs) /\ b8 K S xs vs
 | .ex c fs,v,fp=>fp = [] /\ ∃ a C,v = .ref a /\ oI K cls S H c fs a C
 | .tr io t,v,fp=>br K cls S H t v fp /\ fp.Nodup /\ (∀ a ∈ fp,G a = none /\ S a = none) /\ (io = true -> Av i = some (.lst [v]))
 | .bo t,v,fp=>fp = [] /\ ∃ f,br K cls S G t v f
noncomputable def FJ (K:PySem.W.Frag) (cls:String -> Option Addr) (G S H:Hp):Sl -> V -> Prop
 | .sh x,v=>Rep K S x v
 | .ow xs,v=>∃ p vs,v = .ref p /\ G p = none /\ S p = none /\ H p = some (.lst vs) /\ b8 K S xs vs
 | .ex c fs,v=>∃ a C,v = .ref a /\ oI K cls S H c fs a C
 | _,_=>True
noncomputable def mw (K:PySem.W.Frag) (B S H:Hp):RV -> V -> Prop
 | .sh x,v=>Rep K S x v
 | .fr xs,v=>∃ p vs,v = .ref p /\ B p = none /\ S p = none /\ H p = some (.lst vs) /\ b8 K S xs vs
 | .al xs,v=>∃ p vs,v = .ref p /\ SqL K H p vs /\ b8 K S xs vs
noncomputable def RdV (K:PySem.W.Frag) (S H:Hp):PV -> V -> Prop
 | .lst xs,v=>∃ p vs,v = .ref p /\ SqL K H p vs /\ b8 K S xs vs
 | x,v=>Rep K S x v
structure SRF (K:PySem.W.Frag) (cls:String -> Option Addr) (Av G S₀:Hp) (ρ:ae) (σ:St) (S H:Hp) (F:Nat -> List Addr):Prop where
 gh:aI G H
 s0:aI S₀ S
 sh:aI S H
 new:∀ b,S b ≠ none -> S₀ b ≠ none \/ G b = none
 own:∀ (i:Nat) (s:Sl),ρ[i]? = some (some s) -> ∃ v,σ[i]? = some (some v) /\ sM K cls Av G S H i s v (F i)
 apart:∀ i j a,a ∈ F i -> a ∈ F j -> i = j
 live:∀ i a,a ∈ F i -> (∃ o,H a = some o /\ isX o = false) /\ G a = none /\ S a = none
 len:ρ.length = σ.length
noncomputable def SR (K:PySem.W.Frag) (cls:String -> Option Addr) (Av G S₀:Hp) (ρ:ae) (σ:St) (S H:Hp):Prop:=∃ F,SRF K cls Av G S₀ ρ σ S H F
section
variable {K:PySem.W.Frag} {cls:String -> Option Addr} {Av G S₀ S S' H H' B:Hp} {ρ:ae} {σ:St} {F:Nat -> List Addr}
theorem SR.gh (I:SR K cls Av G S₀ ρ σ S H):aI G H:=let ⟨_,J⟩:=I; J.gh
theorem SR.s0 (I:SR K cls Av G S₀ ρ σ S H):aI S₀ S:=let ⟨_,J⟩:=I; J.s0
theorem SR.sh (I:SR K cls Av G S₀ ρ σ S H):aI S H:=let ⟨_,J⟩:=I; J.sh
theorem SR.new (I:SR K cls Av G S₀ ρ σ S H):∀ b,S b ≠ none -> S₀ b ≠ none \/ G b = none:=let ⟨_,J⟩:=I; J.new
theorem SR.len (I:SR K cls Av G S₀ ρ σ S H):ρ.length = σ.length:=let ⟨_,J⟩:=I; J.len
theorem sM.one {i:Nat} {s:Sl} {v:V} {fp:List Addr} (h:sM K cls Av G S H i s v fp):FJ K cls G S H s v:=by
 cases s with
 | sh x=>exact h.2
 | ow xs=>obtain ⟨p,vs,e,_,r⟩:=h; exact ⟨p,vs,e,r⟩
 | ex c fs=>exact h.2
 | tr io t=>trivial
 | bo t=>trivial
theorem SR.good (I:SR K cls Av G S₀ ρ σ S H) (i:Nat) (s:Sl) (e:ρ[i]? = some (some s)):∃ v,σ[i]? = some (some v) /\ FJ K cls G S H s v:=by
 obtain ⟨F,J⟩:=I
 obtain ⟨v,e1,r⟩:=J.own i s e
 exact ⟨v,e1,r.one⟩
theorem oI.mono {c:String} {fs:XF} {a C:Addr} (h:oI K cls S H c fs a C) (s:aI S S') (g:aI H H'):oI K cls S' H' c fs a C:=by
 obtain ⟨h1,dx,h2,h3⟩:=h
 refine ⟨h1,dx,g _ _ h2,?_⟩
 rcases h3 with h3 | ⟨d,us,e1,e2,e3,e4⟩
 . exact .inl h3
 . exact .inr ⟨d,us,e1,g _ _ e2,e3,e4.mono s⟩
theorem oI.Kl {c:String} {fs:XF} {a C:Addr} (h:oI K cls S H c fs a C) (s:aI S S') (g:∀ b o,isX o = true -> H b = some o -> H' b = some o):oI K cls S' H' c fs a C:=by
 obtain ⟨h1,dx,h2,h3⟩:=h
 refine ⟨h1,dx,g _ _ rfl h2,?_⟩
 rcases h3 with h3 | ⟨d,us,e1,e2,e3,e4⟩
 . exact .inl h3
 . exact .inr ⟨d,us,e1,g _ _ rfl e2,e3,e4.mono s⟩
mutual
theorem br.mono (s:aI S S'):∀ {t:OV} {v:V} {fp:List Addr},br K cls S H t v fp -> (∀ a ∈ fp,∀ o,H a = some o -> H' a = some o) -> br K cls S' H' t v fp
 | .sh _,_,_,h,_=>by unfold br at h ⊢; exact ⟨h.1,Rep.mono s h.2⟩
 | .ol _,_,_,h,g=>by
   unfold br at h ⊢
   obtain ⟨p,vs,f,e,q,e2,r⟩:=h
   subst e2
   exact ⟨p,vs,f,e,g p (by simp) _ q,rfl,bz.mono s r fun a ha=>g a (by simp [ha])⟩
 | .ob _ _ _,_,_,h,g=>by
   unfold br at h ⊢
   obtain ⟨p,C,dx,us,f,e,c,q,q2,k,e2,r⟩:=h
   subst e2
   exact ⟨p,C,dx,us,f,e,c,g p (by simp) _ q,g dx (by simp) _ q2,k,rfl,bz.mono s r fun a ha=>g a (by simp [ha])⟩
 | .di _,_,_,h,g=>by
   unfold br at h ⊢
   obtain ⟨p,us,e,q,e2,r⟩:=h
   subst e2
   exact ⟨p,us,e,g p (by simp) _ q,rfl,r.mono s⟩
 | .dt _,_,_,h,g=>by
   unfold br at h ⊢
   obtain ⟨p,us,e,q,e2,r⟩:=h
   subst e2
   exact ⟨p,us,e,g p (by simp) _ q,rfl,r.mono s⟩
theorem bz.mono (s:aI S S'):∀ {ts:List OV} {vs:List V} {fp:List Addr},bz K cls S H ts vs fp -> (∀ a ∈ fp,∀ o,H a = some o -> H' a = some o) -> bz K cls S' H' ts vs fp
 | [],_,_,h,_=>by unfold bz at h ⊢; exact h
 | _ ::_,_,_,h,g=>by
   unfold bz at h ⊢
   obtain ⟨v,r,f1,f2,e,e2,q,t⟩:=h
   subst e2
   exact ⟨v,r,f1,f2,e,rfl,br.mono s q fun a ha=>g a (List.mem_append_left _ ha),bz.mono s t fun a ha=>g a (List.mem_append_right _ ha)⟩
end
mutual
theorem br.live:∀ {t:OV} {v:V} {fp:List Addr},br K cls S H t v fp -> ∀ a ∈ fp,∃ o,H a = some o /\ isX o = false
 | .sh _,_,_,h,a,ha=>by unfold br at h; rw [h.1] at ha; cases ha
 | .ol _,_,_,h,a,ha=>by
   unfold br at h
   obtain ⟨p,vs,f,e,q,e2,r⟩:=h
   subst e2
   rcases List.mem_cons.mp ha with z | z
   . subst z; exact ⟨_,q,rfl⟩
   . exact bz.live r a z
 | .ob _ _ _,_,_,h,a,ha=>by
   unfold br at h
   obtain ⟨p,C,dx,us,f,e,c,q,q2,k,e2,r⟩:=h
   subst e2
   rcases List.mem_cons.mp ha with z | z
   . subst z; exact ⟨_,q,rfl⟩
   . rcases List.mem_cons.mp z with z | z
     . subst z; exact ⟨_,q2,rfl⟩
     . exact bz.live r a z
 | .di _,_,_,h,a,ha=>by
   unfold br at h
   obtain ⟨p,us,e,q,e2,r⟩:=h
   subst e2
   have z:a = p:=by simpa using ha
   subst z
   exact ⟨_,q,rfl⟩
 | .dt _,_,_,h,a,ha=>by
   unfold br at h
   obtain ⟨p,us,e,q,e2,r⟩:=h
   subst e2
   have z:a = p:=by simpa using ha
   subst z
   exact ⟨_,q,rfl⟩
theorem bz.live:∀ {ts:List OV} {vs:List V} {fp:List Addr},bz K cls S H ts vs fp -> ∀ a ∈ fp,∃ o,H a = some o /\ isX o = false
 | [],_,_,h,a,ha=>by unfold bz at h; rw [h.2] at ha; cases ha
 | _ ::_,_,_,h,a,ha=>by
   unfold bz at h
   obtain ⟨v,r,f1,f2,e,e2,q,t⟩:=h
   subst e2
   rcases List.mem_append.mp ha with z | z
   . exact br.live q a z
   . exact bz.live t a z
end
theorem sM.mono {i:Nat} {sl:Sl} {v:V} {fp:List Addr} (h:sM K cls Av G S H i sl v fp) (s:aI S S') (g:∀ a ∈ fp,∀ o,H a = some o -> H' a = some o) (x:∀ b o,isX o = true -> H b = some o -> H' b = some o) (n:∀ a ∈ fp,S' a = none):sM K cls Av G S' H' i sl v fp:=by
 cases sl with
 | sh y=>exact ⟨h.1,Rep.mono s h.2⟩
 | ow xs=>
   obtain ⟨p,vs,e,e2,h1,h2,h3,h4⟩:=h
   subst e2
   exact ⟨p,vs,e,rfl,h1,n p (by simp),g p (by simp) _ h3,h4.mono s⟩
 | ex c fs=>obtain ⟨e,a,C,e2,q⟩:=h; exact ⟨e,a,C,e2,q.Kl s x⟩
 | tr io t=>exact ⟨h.1.mono s g,h.2.1,fun a ha=>⟨(h.2.2.1 a ha).1,n a ha⟩,h.2.2.2⟩
 | bo t=>obtain ⟨e,f,r⟩:=h; exact ⟨e,f,r.mono s fun _ _ _ z=>z⟩
theorem RdV.mono {x:PV} {v:V} (h:RdV K S H x v) (s:aI S S') (g:aI H H'):RdV K S' H' x v:=by
 cases x with
 | lst xs=>obtain ⟨p,vs,e,q,r⟩:=h; exact ⟨p,vs,e,aI.seq g q,r.mono s⟩
 | non=>exact Rep.mono s h
 | bl b=>exact Rep.mono s h
 | int i=>exact Rep.mono s h
 | str x=>exact Rep.mono s h
 | tup xs=>exact Rep.mono s h
theorem Rep.rd {x:PV} {v:V} (h:Rep K S x v) (g:aI S H):RdV K S H x v:=by
 cases x with
 | lst xs=>unfold Rep at h; obtain ⟨p,vs,e,q,r⟩:=h; exact ⟨p,vs,e,aI.seq g q,r⟩
 | non=>exact h
 | bl b=>exact h
 | int i=>exact h
 | str x=>exact h
 | tup xs=>exact h
theorem mw.rd {r:RV} {v:V} (h:mw K B S H r v) (g:aI S H):RdV K S H r.pv v:=by
 cases r with
 | sh x=>exact Rep.rd h g
 | fr xs=>obtain ⟨p,vs,e,_,_,q,r⟩:=h; exact ⟨p,vs,e,SqL.new q,r⟩
 | al xs=>exact h
theorem SRF.change (I:SRF K cls Av G S₀ ρ σ S H F) (gh:aI G H') (s:aI S S') (sh:aI S' H') (new:∀ b,S' b ≠ none -> S₀ b ≠ none \/ G b = none)
  (g:∀ i a,a ∈ F i -> ∀ o,H a = some o -> H' a = some o) (x:∀ b o,isX o = true -> H b = some o -> H' b = some o) (n:∀ i a,a ∈ F i -> S' a = none):SRF K cls Av G S₀ ρ σ S' H' F where
 gh:=gh
 s0:=I.s0.trans s
 sh:=sh
 new:=new
 own:=fun i t e=>by
  obtain ⟨v,e1,r⟩:=I.own i t e
  exact ⟨v,e1,r.mono s (fun a ha=>g i a ha) x fun a ha=>n i a ha⟩
 apart:=I.apart
 live:=fun i a ha=>by
  obtain ⟨⟨o,h1,h2⟩,h3,_⟩:=I.live i a ha
  exact ⟨⟨o,g i a ha o h1,h2⟩,h3,n i a ha⟩
 len:=I.len
theorem SRF.same (I:SRF K cls Av G S₀ ρ σ S H F) (g:aI H H'):SRF K cls Av G S₀ ρ σ S H' F:=
 I.change (I.gh.trans g) (aI.refl _) (I.sh.trans g) I.new (fun _ _ _ o e=>g _ _ e) (fun _ _ _ e=>g _ _ e) fun i a ha=>(I.live i a ha).2.2
theorem SR.same (I:SR K cls Av G S₀ ρ σ S H) (g:aI H H'):SR K cls Av G S₀ ρ σ S H':=let ⟨F,J⟩:=I; ⟨F,J.same g⟩
theorem set_inv {α:Type} {l:List (Option α)} {i j:Nat} {x:Option α} {s:α} (h:(l.set i x)[j]? = some (some s)):(j = i /\ x = some s /\ i < l.length) \/ (j ≠ i /\ l[j]? = some (some s)):=by
 by_cases e:j = i
 . subst e
   rw [List.getElem?_set] at h
   simp only [if_true] at h
   split at h
   . rename_i hl
     exact .inl ⟨rfl,Option.some.inj h,hl⟩
   . cases h
 . rw [List.getElem?_set_ne (Ne.symm e)] at h
   exact .inr ⟨e,h⟩
theorem He {α:Type} {l:List (Option α)} {i:Nat} {x:Option α} (h:i < l.length):(l.set i x)[i]? = some x:=by
 rw [List.getElem?_set]; simp [h]
noncomputable def n4 (F:Nat -> List Addr) (i:Nat) (fp:List Addr):Nat -> List Addr:=fun j=>if j = i then fp else F j
theorem i3 {i:Nat} {fp:List Addr}:n4 F i fp i = fp:=by unfold n4; rw [if_pos rfl]
theorem fw {i j:Nat} {fp:List Addr} (h:j ≠ i):n4 F i fp j = F j:=by unfold n4; rw [if_neg h]
theorem SRF.put {i:Nat} {s:Option Sl} {u:Option V} {fp:List Addr} (I:SRF K cls Av G S₀ ρ σ S H F) (h:∀ t,s = some t -> ∃ v,u = some v /\ sM K cls Av G S H i t v fp)
  (hl:∀ a ∈ fp,(∃ o,H a = some o /\ isX o = false) /\ G a = none /\ S a = none) (ap:∀ j a,j ≠ i -> a ∈ fp -> a ∉ F j):SRF K cls Av G S₀ (ρ.set i s) (σ.set i u) S H (n4 F i fp) where
 gh:=I.gh
 s0:=I.s0
 sh:=I.sh
 new:=I.new
 own:=fun j t e=>by
  rcases set_inv e with ⟨rfl,e1,hl⟩ | ⟨ne,e1⟩
  . obtain ⟨v,e2,r⟩:=h t e1
    exact ⟨v,by rw [He (by rw [<- I.len]; exact hl),e2],by rw [i3]; exact r⟩
  . rw [List.getElem?_set_ne (Ne.symm ne),fw ne]
    exact I.own j t e1
 apart:=fun j k a h1 h2=>by
  by_cases ej:j = i
  . by_cases ek:k = i
    . rw [ej,ek]
    . subst ej; rw [i3] at h1; rw [fw ek] at h2; exact absurd h2 (ap k a ek h1)
  . by_cases ek:k = i
    . subst ek; rw [i3] at h2; rw [fw ej] at h1; exact absurd h1 (ap j a ej h2)
    . rw [fw ej] at h1; rw [fw ek] at h2; exact I.apart j k a h1 h2
 live:=fun j a ha=>by
  by_cases ej:j = i
  . subst ej; rw [i3] at ha; exact hl a ha
  . rw [fw ej] at ha; exact I.live j a ha
 len:=by simp [I.len]
theorem SR.zC {i:Nat} {x:PV} {v:V} (I:SR K cls Av G S₀ ρ σ S H) (h:Rep K S x v):SR K cls Av G S₀ (ρ.set i (some (.sh x))) (σ.set i (some v)) S H:=by
 obtain ⟨F,J⟩:=I
 exact ⟨_,J.put (fp:=[]) (fun t e=>by cases e; exact ⟨v,rfl,rfl,h⟩) (fun a ha=>nomatch ha) fun j a _ ha=>nomatch ha⟩
theorem SR.Ks {i:Nat} {v:Option V} (I:SR K cls Av G S₀ ρ σ S H):SR K cls Av G S₀ (ρ.set i none) (σ.set i v) S H:=by
 obtain ⟨F,J⟩:=I
 exact ⟨_,J.put (fp:=[]) (fun t e=>nomatch e) (fun a ha=>nomatch ha) fun j a _ ha=>nomatch ha⟩
theorem kI {α:Type} {l:List α} {i:Nat} {x:α} (h:l[i]? = some x):l.set i x = l:=by
 apply List.ext_getElem?
 intro j
 by_cases e:i = j
 . subst e; rw [List.getElem?_set,if_pos rfl,if_pos (List.getElem?_eq_some_iff.mp h).1,h]
 . rw [List.getElem?_set_ne e]
theorem SR.drop {i:Nat} (I:SR K cls Av G S₀ ρ σ S H):SR K cls Av G S₀ (ρ.set i none) σ S H:=by
 cases e:σ[i]? with
 | some v=>have:=I.Ks (i:=i) (v:=v); rwa [kI e] at this
 | none=>
   have h1:σ.length <= i:=List.getElem?_eq_none_iff.mp e
   rw [List.set_eq_of_length_le (by rw [I.len]; exact h1)]
   exact I
theorem SR.mut {i:Nat} {xs ys:List PV} {p:Addr} {us:List V} (I:SR K cls Av G S₀ ρ σ S H) (hi:ρ[i]? = some (some (.ow xs))) (hv:σ[i]? = some (some (.ref p))) (hr:b8 K S ys us):SR K cls Av G S₀ (ρ.set i (some (.ow ys))) σ S (upd H p (.lst us)):=by
 obtain ⟨F,J⟩:=I
 obtain ⟨v,e1,q,vs,e2,e3,hG,hS,hH,_⟩:=J.own i _ hi
 rw [hv] at e1
 cases e1
 cases e2
 have J1:SRF K cls Av G S₀ (ρ.set i none) (σ.set i none) S H (n4 F i []):=J.put (fun t e=>nomatch e) (fun a ha=>nomatch ha) fun j a _ ha=>nomatch ha
 have off:∀ j a,a ∈ n4 F i [] j -> a ≠ p:=fun j a ha z=>by
  by_cases ej:j = i
  . subst ej; rw [i3] at ha; cases ha
  . rw [fw ej] at ha
    exact ej (J.apart j i a ha (by rw [e3,z]; simp))
 have J2:=J1.change (H':=upd H p (.lst us)) (J.gh.upd hG) (aI.refl _) (J.sh.upd hS) J.new (fun j a ha o h=>by rw [bJ (off j a ha)]; exact h)
  (fun b o hx h=>by
    rw [bJ]
    . exact h
    . intro z; rw [z,hH] at h; cases h; cases hx)
  fun j a ha=>(J1.live j a ha).2.2
 have J3:=J2.put (i:=i) (s:=some (.ow ys)) (u:=some (.ref p)) (fp:=[p]) (fun t e=>by cases e; exact ⟨_,rfl,p,us,rfl,rfl,hG,hS,bD,hr⟩) (fun a ha=>by
  have z:a = p:=by simpa using ha
  subst z
  exact ⟨⟨_,bD,rfl⟩,hG,hS⟩) fun j a hj ha hz=>by
   have z:a = p:=by simpa using ha
   exact off j a hz z
 rw [List.set_set,List.set_set,kI hv] at J3
 exact ⟨_,J3⟩
theorem SR.Ju {i:Nat} {xs:List PV} (I:SR K cls Av G S₀ ρ σ S H) (hi:ρ[i]? = some (some (.ow xs))):∃ S',aI S S' /\ SR K cls Av G S₀ (ρ.set i (some (.sh (.lst xs)))) σ S' H:=by
 obtain ⟨F,J⟩:=I
 obtain ⟨v,hv,p,vs,e2,e3,hG,hS,hH,hr⟩:=J.own i _ hi
 subst e2
 have J1:SRF K cls Av G S₀ (ρ.set i none) (σ.set i none) S H (n4 F i []):=J.put (fun t e=>nomatch e) (fun a ha=>nomatch ha) fun j a _ ha=>nomatch ha
 have off:∀ j a,a ∈ n4 F i [] j -> a ≠ p:=fun j a ha z=>by
  by_cases ej:j = i
  . subst ej; rw [i3] at ha; cases ha
  . rw [fw ej] at ha
    exact ej (J.apart j i a ha (by rw [e3,z]; simp))
 have J2:=J1.change (S':=upd S p (.lst vs)) (H':=H) J.gh (aI.new hS) (fun b u h=>by
   by_cases e:b = p
   . subst e; rw [bD] at h; cases h; exact hH
   . rw [bJ e] at h; exact J.sh b u h) (fun b h=>by
   by_cases e:b = p
   . subst e; exact .inr hG
   . rw [bJ e] at h; exact J.new b h) (fun _ _ _ _ h=>h) (fun _ _ _ h=>h) fun j a ha=>by
     rw [bJ (off j a ha)]; exact (J1.live j a ha).2.2
 have J3:=J2.put (i:=i) (s:=some (.sh (.lst xs))) (u:=some (.ref p)) (fp:=[]) (fun t e=>by
  cases e
  refine ⟨_,rfl,rfl,?_⟩
  unfold Rep
  exact ⟨p,vs,rfl,SqL.new bD,hr.mono (aI.new hS)⟩) (fun a ha=>nomatch ha) fun j a _ ha=>nomatch ha
 rw [List.set_set,List.set_set,kI hv] at J3
 exact ⟨_,aI.new hS,_,J3⟩
end
end L2.P
namespace L2.P
open PySem PySem.Spec PyProof.Rows L2 L2.E
structure bf (S H S' H':Hp):Prop where
 s:aI S S'
 g:aI H H'
 sh:aI S' H'
 new:∀ b,S' b ≠ none -> S b ≠ none \/ H b = none
theorem bf.refl {S H:Hp} (h:aI S H):bf S H S H:=⟨aI.refl _,aI.refl _,h,fun _ z=>.inl z⟩
theorem bf.trans {S H S1 H1 S2 H2:Hp} (a:bf S H S1 H1) (b:bf S1 H1 S2 H2):bf S H S2 H2:=
 ⟨a.s.trans b.s,a.g.trans b.g,b.sh,fun x h=>by
   rcases b.new x h with z | z
   . exact a.new x z
   . exact .inr (a.g.free z)⟩
theorem SRF.grow {K:PySem.W.Frag} {cls:String -> Option Addr} {Av G S₀ S S' H H':Hp} {ρ:ae} {σ:St} {F:Nat -> List Addr} (I:SRF K cls Av G S₀ ρ σ S H F) (w:bf S H S' H'):SRF K cls Av G S₀ ρ σ S' H' F:=
 I.change (I.gh.trans w.g) w.s w.sh (fun b h=>by
  rcases w.new b h with z | z
  . exact I.new b z
  . exact .inr (I.gh.free z)) (fun i a _ o h=>w.g _ _ h) (fun b o _ h=>w.g _ _ h) fun i a ha=>by
    obtain ⟨⟨o,h1,_⟩,_,h3⟩:=I.live i a ha
    cases q:S' a with
    | none=>rfl
    | some o=>
      rcases w.new a (by rw [q]; simp) with z | z
      . exact absurd h3 z
      . rw [h1] at z; cases z
theorem SR.grow {K:PySem.W.Frag} {cls:String -> Option Addr} {Av G S₀ S S' H H':Hp} {ρ:ae} {σ:St} (I:SR K cls Av G S₀ ρ σ S H) (w:bf S H S' H'):SR K cls Av G S₀ ρ σ S' H':=let ⟨F,J⟩:=I; ⟨F,J.grow w⟩
theorem SR.Kt {K:PySem.W.Frag} {cls:String -> Option Addr} {Av G S₀ S S' H H':Hp} {ρ:ae} {σ:St} {i:Nat} {xs:List PV} {v:V} (I:SR K cls Av G S₀ ρ σ S H) (w:bf S H S' H') (h:mw K H S' H' (.fr xs) v):SR K cls Av G S₀ (ρ.set i (some (.ow xs))) (σ.set i (some v)) S' H':=by
 obtain ⟨F,J⟩:=I
 obtain ⟨p,vs,rfl,hB,hS,hH,hr⟩:=h
 have hG:=J.gh.free hB
 refine ⟨_,(J.grow w).put (fp:=[p]) (fun t e=>by cases e; exact ⟨_,rfl,p,vs,rfl,rfl,hG,hS,hH,hr⟩) (fun a ha=>?_) fun j a _ ha hz=>?_⟩
 . have z:a = p:=by simpa using ha
   subst z
   exact ⟨⟨_,hH,rfl⟩,hG,hS⟩
 . have z:a = p:=by simpa using ha
   subst z
   obtain ⟨⟨o,h1,_⟩,_⟩:=J.live j a hz
   rw [hB] at h1; cases h1
theorem bf.heap {S H:Hp} {p:Addr} {o:HO} (h:aI S H) (hp:H p = none):bf S H S (upd H p o):=⟨aI.refl _,aI.new hp,h.trans (aI.new hp),fun _ z=>.inl z⟩
theorem bf.both {S H:Hp} {p:Addr} {o:HO} (h:aI S H) (hp:H p = none):bf S H (upd S p o) (upd H p o):=by
 have hS:=h.free hp
 refine ⟨aI.new hS,aI.new hp,fun b u z=>?_,fun b z=>?_⟩
 . by_cases e:b = p
   . subst e; rw [bD] at z ⊢; exact z
   . rw [bJ e] at z ⊢; exact h b u z
 . by_cases e:b = p
   . subst e; exact .inr hp
   . rw [bJ e] at z; exact .inl z
section
variable (K:PySem.W.Frag) (cls:String -> Option Addr) (W:XW)
noncomputable def kZ (σ:St) (S H:Hp) (Q:VK):OE -> Prop
 | .ok r=>∀ v S' H',bf S H S' H' -> mw K H S' H' r v -> Q v H'
 | .exc c fs=>∀ a C S' H',bf S H S' H' -> oI K cls S' H' c fs a C -> W (.ref C) (some a) σ H'
 | .bad=>False
noncomputable def r6 (σ:St) (S H:Hp) (Q:Bool -> Hp -> Prop):OT -> Prop
 | .ok b=>∀ S' H',bf S H S' H' -> Q b H'
 | .exc c fs=>∀ a C S' H',bf S H S' H' -> oI K cls S' H' c fs a C -> W (.ref C) (some a) σ H'
 | .bad=>False
noncomputable def va (σ:St) (S H:Hp) (Q:List V -> Hp -> Prop):OA -> Prop
 | .ok xs=>∀ vs S' H',bf S H S' H' -> b8 K S' xs vs -> Q vs H'
 | .exc c fs=>∀ a C S' H',bf S H S' H' -> oI K cls S' H' c fs a C -> W (.ref C) (some a) σ H'
 | .bad=>False
noncomputable def jm (Av G S₀:Hp) (S:Hp) (D:Ends):OS -> Prop
 | .nx ρ=>∀ σ' S' H',SR K cls Av G S₀ ρ σ' S' H' -> aI S S' -> D.nx σ' H'
 | .bk ρ=>∀ σ' S' H',SR K cls Av G S₀ ρ σ' S' H' -> aI S S' -> D.bk σ' H'
 | .ct ρ=>∀ σ' S' H',SR K cls Av G S₀ ρ σ' S' H' -> aI S S' -> D.ct σ' H'
 | .rt ρ r=>∀ v σ' S' H',SR K cls Av G S₀ ρ σ' S' H' -> aI S S' -> mw K G S' H' r v -> D.rt v H'
 | .exc ρ c fs=>∀ a C σ' S' H',SR K cls Av G S₀ ρ σ' S' H' -> aI S S' -> oI K cls S' H' c fs a C -> W (.ref C) (some a) σ' H'
 | .bad=>False
noncomputable def JE (te:TE) (m:ae -> OE):Prop:=∀ Av G S₀ ρ σ S H Q,SR K cls Av G S₀ ρ σ S H -> kZ K cls W σ S H Q (m ρ) -> te σ H Q
noncomputable def JT (te:TT) (m:ae -> OT):Prop:=∀ Av G S₀ ρ σ S H Q,SR K cls Av G S₀ ρ σ S H -> r6 K cls W σ S H Q (m ρ) -> te σ H Q
noncomputable def JA (te:TA) (m:ae -> OA):Prop:=∀ Av G S₀ ρ σ S H Q,SR K cls Av G S₀ ρ σ S H -> va K cls W σ S H Q (m ρ) -> te σ H Q
noncomputable def JS (ts:TS) (m:ae -> OS):Prop:=∀ Av G S₀ ρ σ S H D,SR K cls Av G S₀ ρ σ S H -> jm K cls W Av G S₀ S D (m ρ) -> ts D σ H
end
section
variable {K:PySem.W.Frag} {cls:String -> Option Addr} {W:XW} {Av G S₀ S S' H H' B B':Hp} {ρ:ae} {σ:St} {Q:VK}
theorem mw.back {r:RV} {v:V} (h:mw K B' S H r v) (g:aI B B'):mw K B S H r v:=by
 cases r with
 | sh x=>exact h
 | fr xs=>obtain ⟨p,vs,e,h1,h2⟩:=h; exact ⟨p,vs,e,g.free h1,h2⟩
 | al xs=>exact h
theorem kZ.back {o:OE} {S1 H1:Hp} (w:bf S H S1 H1) (h:kZ K cls W σ S H Q o):kZ K cls W σ S1 H1 Q o:=by
 cases o with
 | ok r=>exact fun v S' H' w' r=>h v S' H' (w.trans w') (r.back w.g)
 | exc c fs=>exact fun a C S' H' w' r=>h a C S' H' (w.trans w') r
 | bad=>exact h
theorem r6.back {o:OT} {Q:Bool -> Hp -> Prop} {S1 H1:Hp} (w:bf S H S1 H1) (h:r6 K cls W σ S H Q o):r6 K cls W σ S1 H1 Q o:=by
 cases o with
 | ok r=>exact fun S' H' w'=>h S' H' (w.trans w')
 | exc c fs=>exact fun a C S' H' w' r=>h a C S' H' (w.trans w') r
 | bad=>exact h
theorem va.back {o:OA} {Q:List V -> Hp -> Prop} {S1 H1:Hp} (w:bf S H S1 H1) (h:va K cls W σ S H Q o):va K cls W σ S1 H1 Q o:=by
 cases o with
 | ok r=>exact fun v S' H' w' r=>h v S' H' (w.trans w') r
 | exc c fs=>exact fun a C S' H' w' r=>h a C S' H' (w.trans w') r
 | bad=>exact h
theorem jm.back {o:OS} {D:Ends} {S1:Hp} (s:aI S S1) (h:jm K cls W Av G S₀ S D o):jm K cls W Av G S₀ S1 D o:=by
 cases o with
 | nx ρ=>exact fun σ' S' H' I s'=>h σ' S' H' I (s.trans s')
 | bk ρ=>exact fun σ' S' H' I s'=>h σ' S' H' I (s.trans s')
 | ct ρ=>exact fun σ' S' H' I s'=>h σ' S' H' I (s.trans s')
 | rt ρ r=>exact fun v σ' S' H' I s'=>h v σ' S' H' I (s.trans s')
 | exc ρ c fs=>exact fun a C σ' S' H' I s'=>h a C σ' S' H' I (s.trans s')
 | bad=>exact h
theorem JE.go {te:TE} {m:ae -> OE} {f:RV -> OE} {Q':VK} (h:JE K cls W te m) (I:SR K cls Av G S₀ ρ σ S H) (p:kZ K cls W σ S H Q ((m ρ).bind f))
  (k:∀ r v S1 H1,SR K cls Av G S₀ ρ σ S1 H1 -> bf S H S1 H1 -> mw K H S1 H1 r v -> kZ K cls W σ S1 H1 Q (f r) -> Q' v H1):te σ H Q':=by
 refine h Av G S₀ ρ σ S H Q' I ?_
 cases e:m ρ with
 | ok r=>rw [e] at p; exact fun v S1 H1 w r1=>k r v S1 H1 (I.grow w) w r1 (p.back w)
 | exc c fs=>rw [e] at p; exact p
 | bad=>rw [e] at p; exact p
theorem JE.goT {te:TE} {m:ae -> OE} {f:RV -> OT} {Q':VK} {Q:Bool -> Hp -> Prop} (h:JE K cls W te m) (I:SR K cls Av G S₀ ρ σ S H) (p:r6 K cls W σ S H Q ((m ρ).gf f))
  (k:∀ r v S1 H1,SR K cls Av G S₀ ρ σ S1 H1 -> bf S H S1 H1 -> mw K H S1 H1 r v -> r6 K cls W σ S1 H1 Q (f r) -> Q' v H1):te σ H Q':=by
 refine h Av G S₀ ρ σ S H Q' I ?_
 cases e:m ρ with
 | ok r=>rw [e] at p; exact fun v S1 H1 w r1=>k r v S1 H1 (I.grow w) w r1 (p.back w)
 | exc c fs=>rw [e] at p; exact p
 | bad=>rw [e] at p; exact p
theorem JE.goS {te:TE} {m:ae -> OE} {f:RV -> OS} {Q':VK} {D:Ends} (h:JE K cls W te m) (I:SR K cls Av G S₀ ρ σ S H) (p:jm K cls W Av G S₀ S D ((m ρ).bT ρ f))
  (k:∀ r v S1 H1,SR K cls Av G S₀ ρ σ S1 H1 -> bf S H S1 H1 -> mw K H S1 H1 r v -> jm K cls W Av G S₀ S1 D (f r) -> Q' v H1):te σ H Q':=by
 refine h Av G S₀ ρ σ S H Q' I ?_
 cases e:m ρ with
 | ok r=>rw [e] at p; exact fun v S1 H1 w r1=>k r v S1 H1 (I.grow w) w r1 (p.back w.s)
 | exc c fs=>rw [e] at p; exact fun a C S' H' w x=>p a C σ S' H' (I.grow w) w.s x
 | bad=>rw [e] at p; exact p
theorem JT.go {te:TT} {m:ae -> OT} {f:Bool -> OE} {Q':Bool -> Hp -> Prop} (h:JT K cls W te m) (I:SR K cls Av G S₀ ρ σ S H) (p:kZ K cls W σ S H Q ((m ρ).bind f))
  (k:∀ b S1 H1,SR K cls Av G S₀ ρ σ S1 H1 -> bf S H S1 H1 -> kZ K cls W σ S1 H1 Q (f b) -> Q' b H1):te σ H Q':=by
 refine h Av G S₀ ρ σ S H Q' I ?_
 cases e:m ρ with
 | ok r=>rw [e] at p; exact fun S1 H1 w=>k r S1 H1 (I.grow w) w (p.back w)
 | exc c fs=>rw [e] at p; exact p
 | bad=>rw [e] at p; exact p
theorem JT.goT {te:TT} {m:ae -> OT} {f:Bool -> OT} {Q Q':Bool -> Hp -> Prop} (h:JT K cls W te m) (I:SR K cls Av G S₀ ρ σ S H) (p:r6 K cls W σ S H Q ((m ρ).gf f))
  (k:∀ b S1 H1,SR K cls Av G S₀ ρ σ S1 H1 -> bf S H S1 H1 -> r6 K cls W σ S1 H1 Q (f b) -> Q' b H1):te σ H Q':=by
 refine h Av G S₀ ρ σ S H Q' I ?_
 cases e:m ρ with
 | ok r=>rw [e] at p; exact fun S1 H1 w=>k r S1 H1 (I.grow w) w (p.back w)
 | exc c fs=>rw [e] at p; exact p
 | bad=>rw [e] at p; exact p
theorem JT.goS {te:TT} {m:ae -> OT} {f:Bool -> OS} {Q':Bool -> Hp -> Prop} {D:Ends} (h:JT K cls W te m) (I:SR K cls Av G S₀ ρ σ S H) (p:jm K cls W Av G S₀ S D ((m ρ).bT ρ f))
  (k:∀ b S1 H1,SR K cls Av G S₀ ρ σ S1 H1 -> bf S H S1 H1 -> jm K cls W Av G S₀ S1 D (f b) -> Q' b H1):te σ H Q':=by
 refine h Av G S₀ ρ σ S H Q' I ?_
 cases e:m ρ with
 | ok r=>rw [e] at p; exact fun S1 H1 w=>k r S1 H1 (I.grow w) w (p.back w.s)
 | exc c fs=>rw [e] at p; exact fun a C S' H' w x=>p a C σ S' H' (I.grow w) w.s x
 | bad=>rw [e] at p; exact p
theorem JA.go {te:TA} {m:ae -> OA} {f:List PV -> OE} {Q':List V -> Hp -> Prop} (h:JA K cls W te m) (I:SR K cls Av G S₀ ρ σ S H) (p:kZ K cls W σ S H Q ((m ρ).bind f))
  (k:∀ xs vs S1 H1,SR K cls Av G S₀ ρ σ S1 H1 -> bf S H S1 H1 -> b8 K S1 xs vs -> kZ K cls W σ S1 H1 Q (f xs) -> Q' vs H1):te σ H Q':=by
 refine h Av G S₀ ρ σ S H Q' I ?_
 cases e:m ρ with
 | ok r=>rw [e] at p; exact fun v S1 H1 w r1=>k r v S1 H1 (I.grow w) w r1 (p.back w)
 | exc c fs=>rw [e] at p; exact p
 | bad=>rw [e] at p; exact p
theorem JA.goA {te:TA} {m:ae -> OA} {f:List PV -> OA} {Q Q':List V -> Hp -> Prop} (h:JA K cls W te m) (I:SR K cls Av G S₀ ρ σ S H) (p:va K cls W σ S H Q ((m ρ).fJ f))
  (k:∀ xs vs S1 H1,SR K cls Av G S₀ ρ σ S1 H1 -> bf S H S1 H1 -> b8 K S1 xs vs -> va K cls W σ S1 H1 Q (f xs) -> Q' vs H1):te σ H Q':=by
 refine h Av G S₀ ρ σ S H Q' I ?_
 cases e:m ρ with
 | ok r=>rw [e] at p; exact fun v S1 H1 w r1=>k r v S1 H1 (I.grow w) w r1 (p.back w)
 | exc c fs=>rw [e] at p; exact p
 | bad=>rw [e] at p; exact p
theorem ah {i:Nat}:JE K cls W (yM i) (aq i):=by
 intro Av G S₀ ρ σ S H Q I p
 unfold aq at p
 split at p
 . rename_i x e
   obtain ⟨v,e1,r⟩:=I.good i _ e
   exact ⟨v,e1,p v S H (bf.refl I.sh) r⟩
 . rename_i xs e
   obtain ⟨v,e1,a,vs,e2,_,_,h3,h4⟩:=I.good i _ e
   exact ⟨v,e1,p v S H (bf.refl I.sh) ⟨a,vs,e2,SqL.new h3,h4⟩⟩
 . exact p.elim
theorem vH {x:PV} {v:V} (h:∀ S,Rep K S x v):JE K cls W (tC v) (mC x):=fun Av G S₀ ρ σ S H Q I p=>p v S H (bf.refl I.sh) (h S)
theorem ag {n:Int}:JE K cls W (tC (.int n)) (mC (.int n)):=vH fun _=>by unfold Rep; rfl
theorem xQ {n:Bool}:JE K cls W (tC (.bl n)) (mC (.bl n)):=vH fun _=>by unfold Rep; rfl
theorem cR:JE K cls W (tC .non) (mC .non):=vH fun _=>by unfold Rep; rfl
theorem aK {n:Str}:JE K cls W (tC (.str n)) (mC (.str n)):=vH fun _=>by unfold Rep; rfl
theorem m8 {p:Addr} {ns:List Int} (h:∀ S,SqT K S p (ns.map V.int)):JE K cls W (tC (.ref p)) (mC (.tup (ns.map .int))):=vH fun S=>by unfold Rep; exact ⟨p,_,rfl,h S,b8.ints⟩
noncomputable def JR (K:PySem.W.Frag) (r:R2) (g:PV -> PV -> Option RV):Prop:=∀ S H x y v u rr Q,aI S H -> RdV K S H x v -> RdV K S H y u -> g x y = some rr ->
 (∀ z S' H',bf S H S' H' -> mw K H S' H' rr z -> Q z H') -> r v u H Q
theorem ao {r:R2} {g:PV -> PV -> Option RV} {ta tb:TE} {ma mb:ae -> OE} (hr:JR K r g) (ha:JE K cls W ta ma) (hb:JE K cls W tb mb):JE K cls W (tOp r ta tb) (mOp g ma mb):=by
 intro Av G S₀ ρ σ S H Q I p
 refine ha.go I p fun a v S1 H1 I1 w1 r1 p1=>hb.go I1 p1 fun b u S2 H2 I2 w2 r2 p2=>?_
 cases e:g a.pv b.pv with
 | none=>rw [e] at p2; exact p2.elim
 | some rr=>
   rw [e] at p2
   exact hr S2 H2 a.pv b.pv v u rr Q I2.sh ((r1.rd I1.sh).mono w2.s w2.g) (r2.rd I2.sh) e p2
noncomputable def sv:PV -> V
 | .non=>.non
 | .bl b=>.bl b
 | .int i=>.int i
 | .str s=>.str s
 | _=>.non
theorem dH {i:Int} {v:V} (h:RdV K S H (.int i) v):v = .int i:=by unfold RdV Rep at h; exact h
theorem nQ {i:Bool} {v:V} (h:RdV K S H (.bl i) v):v = .bl i:=by unfold RdV Rep at h; exact h
theorem jG {i:Str} {v:V} (h:RdV K S H (.str i) v):v = .str i:=by unfold RdV Rep at h; exact h
theorem jh {v:V} (h:RdV K S H .non v):v = .non:=by unfold RdV Rep at h; exact h
theorem gp {xs:List PV} {v:V} (h:RdV K S H (.lst xs) v):∃ p vs,v = .ref p /\ SqL K H p vs /\ b8 K S xs vs:=h
theorem mf {xs:List PV} {v:V} (h:RdV K S H (.tup xs) v):∃ p vs,v = .ref p /\ SqT K S p vs /\ b8 K S xs vs:=by unfold RdV Rep at h; exact h
theorem BM {C:Int -> Int -> Prop} {c:Int -> Int -> Bool} {f:Int -> Int -> PV} {fv:Int -> Int -> V} (hc:∀ i j,c i j = true -> C i j) (hf:∀ S i j,Rep K S (f i j) (fv i j)):JR K (rI C fv) (gI c f):=by
 intro S H x y v u rr Q I hx hy e k
 unfold gI at e
 split at e
 . rename_i i j
   split at e
   . rename_i hcc
     cases e
     exact ⟨i,j,dH hx,dH hy,hc i j hcc,k _ S H (bf.refl I) (hf S i j)⟩
   . cases e
 . cases e
theorem rq {f:Int -> Int -> PV} {fv:Int -> Int -> V} (hf:∀ S i j,Rep K S (f i j) (fv i j)):JR K (rI0 fv) (gI (fun _ _=>true) f):=by
 intro S H x y v u rr Q I hx hy e k
 unfold gI at e
 split at e
 . rename_i i j
   simp only [if_true] at e
   cases e
   exact ⟨i,j,dH hx,dH hy,k _ S H (bf.refl I) (hf S i j)⟩
 . cases e
theorem cy:JR K (rI0 fun i j=>.int (i + j)) fo:=rq fun _ _ _=>by unfold Rep; rfl
theorem qm:JR K (rI0 fun i j=>.int (i - j)) uM:=rq fun _ _ _=>by unfold Rep; rfl
theorem rK:JR K (rI Ci fun i j=>.int (i * j)) yi:=BM (fun i j h=>by simpa [Ci,Bool.or_eq_true,Bool.and_eq_true,decide_eq_true_eq] using h) fun _ _ _=>by unfold Rep; rfl
theorem bP:JR K (rI GW fun i j=>.int (i / j)) dE:=BM (fun i j h=>by simpa [GW,Bool.and_eq_true,decide_eq_true_eq] using h) fun _ _ _=>by unfold Rep; rfl
theorem bM:JR K (rI (fun _ j=>0 < j) fun i j=>.int (i % j)) cA:=BM (fun i j h=>by simpa using h) fun _ _ _=>by unfold Rep; rfl
theorem nO:JR K (rI0 fun i j=>.bl (decide (i < j))) gLt:=rq fun _ _ _=>by unfold Rep; rfl
theorem mB:JR K (rI0 fun i j=>.bl (decide (i <= j))) gLe:=rq fun _ _ _=>by unfold Rep; rfl
theorem xk:JR K (rI0 fun i j=>.bl (decide (j < i))) gGt:=rq fun _ _ _=>by unfold Rep; rfl
theorem xN:JR K (rI0 fun i j=>.bl (decide (j <= i))) gGe:=rq fun _ _ _=>by unfold Rep; rfl
theorem Ds {x y:PV} {v u:V} {b:Bool} (hx:RdV K S H x v) (hy:RdV K S H y u) (e:eqS x y = some b):IM v u = true /\ decide (v = u) = b:=by
 unfold eqS at e
 split at e
 all_goals first
  | (have h1:=jh hx; subst h1; have h2:=jh hy; subst h2; cases e; exact ⟨rfl,by simp⟩)
  | (have h1:=jh hx; subst h1; have h2:=dH hy; subst h2; cases e; exact ⟨rfl,by simp⟩)
  | (have h1:=dH hx; subst h1; have h2:=jh hy; subst h2; cases e; exact ⟨rfl,by simp⟩)
  | (have h1:=jh hx; subst h1; have h2:=nQ hy; subst h2; cases e; exact ⟨rfl,by simp⟩)
  | (have h1:=nQ hx; subst h1; have h2:=jh hy; subst h2; cases e; exact ⟨rfl,by simp⟩)
  | (have h1:=jh hx; subst h1; have h2:=jG hy; subst h2; cases e; exact ⟨rfl,by simp⟩)
  | (have h1:=jG hx; subst h1; have h2:=jh hy; subst h2; cases e; exact ⟨rfl,by simp⟩)
  | (have h1:=dH hx; subst h1; have h2:=dH hy; subst h2; cases e; exact ⟨rfl,by simp⟩)
  | (have h1:=nQ hx; subst h1; have h2:=nQ hy; subst h2; cases e; exact ⟨rfl,by simp⟩)
  | (have h1:=jG hx; subst h1; have h2:=jG hy; subst h2; cases e; exact ⟨rfl,by simp⟩)
  | (have h1:=dH hx; subst h1; have h2:=jG hy; subst h2; cases e; exact ⟨rfl,by simp⟩)
  | (have h1:=jG hx; subst h1; have h2:=dH hy; subst h2; cases e; exact ⟨rfl,by simp⟩)
  | (have h1:=nQ hx; subst h1; have h2:=jG hy; subst h2; cases e; exact ⟨rfl,by simp⟩)
  | (have h1:=jG hx; subst h1; have h2:=nQ hy; subst h2; cases e; exact ⟨rfl,by simp⟩)
  | cases e
theorem bj:JR K rEq gEq:=by
 intro S H x y v u rr Q I hx hy e k
 obtain ⟨b,e1,e2⟩:=Option.map_eq_some_iff.mp e
 obtain ⟨h1,h2⟩:=Ds hx hy e1
 refine ⟨h1,k _ S H (bf.refl I) ?_⟩
 subst e2
 show Rep K S _ _
 unfold Rep; rw [h2]
theorem Fz:JR K rNe gNe:=by
 intro S H x y v u rr Q I hx hy e k
 obtain ⟨b,e1,e2⟩:=Option.map_eq_some_iff.mp e
 obtain ⟨h1,h2⟩:=Ds hx hy e1
 refine ⟨h1,k _ S H (bf.refl I) ?_⟩
 subst e2
 show Rep K S _ _
 unfold Rep; rw [h2]
end
end L2.P
namespace L2.P
open PySem PySem.Spec PyProof.Rows L2 L2.E
section
variable {K:PySem.W.Frag} {cls:String -> Option Addr} {W:XW} {Av G S₀ S S' H H' B B':Hp} {ρ:ae} {σ:St} {Q:VK}
theorem mw.share {S1 H1:Hp} {r:RV} {v:V} {x:PV} (h:mw K H S1 H1 r v) (w:bf S H S1 H1) (e:lS r = some x):∃ S2,bf S H S2 H1 /\ aI S1 S2 /\ Rep K S2 x v:=by
 cases r with
 | sh y=>cases e; exact ⟨S1,w,aI.refl _,h⟩
 | al xs=>cases e
 | fr xs=>
   cases e
   obtain ⟨p,vs,rfl,hB,hS,hH,hr⟩:=h
   refine ⟨upd S1 p (.lst vs),⟨w.s.trans (aI.new hS),w.g,fun b u z=>?_,fun b z=>?_⟩,aI.new hS,?_⟩
   . by_cases e:b = p
     . subst e; rw [bD] at z; cases z; exact hH
     . rw [bJ e] at z; exact w.sh b u z
   . by_cases e:b = p
     . subst e; exact .inr hB
     . rw [bJ e] at z; exact w.new b z
   . unfold Rep
     exact ⟨p,vs,rfl,SqL.new bD,hr.mono (aI.new hS)⟩
theorem ax:JA K cls W kD aM:=fun Av G S₀ ρ σ S H Q I p=>p [] S H (bf.refl I.sh) .nil
theorem af {te:TE} {t:TA} {me:ae -> OE} {mr:ae -> OA} (he:JE K cls W te me) (ht:JA K cls W t mr):JA K cls W (jd te t) (ak me mr):=by
 intro Av G S₀ ρ σ S H Q I p
 refine he Av G S₀ ρ σ S H _ I ?_
 unfold ak at p
 cases e:me ρ with
 | exc c fs=>rw [e] at p; exact p
 | bad=>rw [e] at p; exact p
 | ok r=>
   rw [e] at p
   intro v S1 H1 w1 r1
   simp only [OE.fJ] at p
   cases es:lS r with
   | none=>rw [es] at p; exact p.elim
   | some x=>
     rw [es] at p
     obtain ⟨S2,w2,s2,rx⟩:=r1.share w1 es
     refine ht.goA (I.grow w2) (p.back w2) fun xs vs S3 H3 I3 w3 r3 p3=>?_
     exact p3 (v ::vs) S3 H3 (bf.refl I3.sh) (.cons (Rep.mono w3.s rx) r3)
theorem CU:lim = sizeLine:=by decide
theorem aS {t:TA} {ma:ae -> OA} (h:JA K cls W t ma):JE K cls W (Eo t) (cf ma):=by
 intro Av G S₀ ρ σ S H Q I p
 refine h.go I p fun xs vs S1 H1 I1 w1 r1 p1=>?_
 split at p1
 . rename_i hl
   refine ⟨by rw [r1.length]; exact hl,fun q hq=>p1 (.ref q) S1 _ (bf.heap I1.sh hq) ⟨q,vs,rfl,hq,I1.sh.free hq,bD,r1⟩⟩
 . exact p1.elim
theorem dn {t:TA} {ma:ae -> OA} (h:JA K cls W t ma):JE K cls W (Ie t) (gm ma):=by
 intro Av G S₀ ρ σ S H Q I p
 refine h.go I p fun xs vs S1 H1 I1 w1 r1 p1=>?_
 split at p1
 . rename_i hl
   refine ⟨by rw [r1.length]; exact hl,fun q hq=>p1 (.ref q) _ _ (bf.both I1.sh hq) ?_⟩
   show Rep K _ _ _
   unfold Rep
   exact ⟨q,vs,rfl,SqT.new bD,r1.mono (bf.both (o:=.tup vs) I1.sh hq).s⟩
 . exact p1.elim
noncomputable def Jm (K:PySem.W.Frag) (cls:String -> Option Addr) (S H:Hp) (Q:VK) (E:XK):OE -> Prop
 | .ok r=>∀ v S' H',bf S H S' H' -> mw K H S' H' r v -> Q v H'
 | .exc c fs=>∀ a C S' H',bf S H S' H' -> oI K cls S' H' c fs a C -> E (.ref C) (some a) H'
 | .bad=>False
noncomputable def spP (K:PySem.W.Frag) (cls:String -> Option Addr) (f:List PV -> OE):Sp:=fun vs H Q E=>∃ S xs,aI S H /\ b8 K S xs vs /\ Jm K cls S H Q E (f xs)
theorem aP {t:TA} {ma:ae -> OA} {f:List PV -> OE} (h:JA K cls W t ma):JE K cls W (qk (spP K cls f) [] W t) (bI f ma):=by
 intro Av G S₀ ρ σ S H Q I p
 refine h.go I p fun xs vs S1 H1 I1 w1 r1 p1=>?_
 show spP K cls f (vs ++ []) H1 Q _
 rw [List.append_nil]
 refine ⟨S1,xs,I1.sh,r1,?_⟩
 cases e:f xs with
 | ok r=>rw [e] at p1; exact p1
 | exc c fs=>rw [e] at p1; exact p1
 | bad=>rw [e] at p1; exact p1
noncomputable def JU (K:PySem.W.Frag) (r:List V -> Hp -> VK -> Prop) (g:PV -> Option RV):Prop:=∀ S H x v rr Q,aI S H -> RdV K S H x v -> g x = some rr ->
 (∀ z S' H',bf S H S' H' -> mw K H S' H' rr z -> Q z H') -> r [v] H Q
theorem gN {r:List V -> Hp -> VK -> Prop} {g:PV -> Option RV} {ta:TE} {ma:ae -> OE} (hr:JU K r g) (ha:JE K cls W ta ma):JE K cls W (tCB r (jd ta kD)) (mUn g ma):=by
 intro Av G S₀ ρ σ S H Q I p
 refine ha.go I p fun a v S1 H1 I1 w1 r1 p1=>?_
 show r [v] H1 Q
 cases e:g a.pv with
 | none=>rw [e] at p1; exact p1.elim
 | some rr=>rw [e] at p1; exact hr S1 H1 a.pv v rr Q I1.sh (r1.rd I1.sh) e p1
theorem nX {r:V -> Hp -> VK -> Prop} {g:PV -> Option RV} {ta:TE} {ma:ae -> OE} (hr:JU K (fun vs H Q=>∃ v,vs = [v] /\ r v H Q) g) (ha:JE K cls W ta ma):JE K cls W (tUn r ta) (mUn g ma):=by
 intro Av G S₀ ρ σ S H Q I p
 refine ha.go I p fun a v S1 H1 I1 w1 r1 p1=>?_
 cases e:g a.pv with
 | none=>rw [e] at p1; exact p1.elim
 | some rr=>
   rw [e] at p1
   obtain ⟨u,e1,h⟩:=hr S1 H1 a.pv v rr Q I1.sh (r1.rd I1.sh) e p1
   cases e1
   exact h
theorem ke:JU K (fun vs H Q=>∃ v,vs = [v] /\ rU (fun i=>.int (-i)) v H Q) gU:=by
 intro S H x v rr Q I hx e k
 cases x with
 | int i=>cases e; exact ⟨v,rfl,i,dH hx,k _ S H (bf.refl I) (by show Rep K S _ _; unfold Rep; rfl)⟩
 | _=>cases e
theorem uw:JU K (fun xs H Q=>∃ p ys,xs = [.ref p] /\ (SqL K H p ys \/ SqT K H p ys) /\ Q (.int ys.length) H) ym:=by
 intro S H x v rr Q I hx e k
 cases x with
 | lst xs=>
   cases e
   obtain ⟨p,vs,rfl,hq,r⟩:=gp hx
   exact ⟨p,vs,rfl,.inl hq,k _ S H (bf.refl I) (by show Rep K S _ _; unfold Rep; rw [r.length])⟩
 | tup xs=>
   cases e
   obtain ⟨p,vs,rfl,hq,r⟩:=mf hx
   exact ⟨p,vs,rfl,.inr (aI.tup I hq),k _ S H (bf.refl I) (by show Rep K S _ _; unfold Rep; rw [r.length])⟩
 | _=>cases e
theorem zG:JU K (fun xs H Q=>(∃ i,xs = [.int i] /\ Q (.int i) H) \/ ∃ k,xs = [.bl k] /\ Q (.int (if k then 1 else 0)) H) yx:=by
 intro S H x v rr Q I hx e k
 cases x with
 | int i=>cases e; exact .inl ⟨i,by rw [dH hx],k _ S H (bf.refl I) (by show Rep K S _ _; unfold Rep; rfl)⟩
 | bl b=>cases e; exact .inr ⟨b,by rw [nQ hx],k _ S H (bf.refl I) (by show Rep K S _ _; unfold Rep; rfl)⟩
 | _=>cases e
theorem zj:JU K (fun xs H Q=>∃ p ys,xs = [.ref p] /\ (SqL K H p ys \/ SqT K H p ys) /\ ∀ l,H l = none -> Q (.ref l) (upd H l (.lst ys))) qV:=by
 intro S H x v rr Q I hx e k
 cases x with
 | lst xs=>
   cases e
   obtain ⟨p,vs,rfl,hq,r⟩:=gp hx
   exact ⟨p,vs,rfl,.inl hq,fun l hl=>k _ S _ (bf.heap I hl) ⟨l,vs,rfl,hl,I.free hl,bD,r⟩⟩
 | tup xs=>
   cases e
   obtain ⟨p,vs,rfl,hq,r⟩:=mf hx
   exact ⟨p,vs,rfl,.inr (aI.tup I hq),fun l hl=>k _ S _ (bf.heap I hl) ⟨l,vs,rfl,hl,I.free hl,bD,r⟩⟩
 | _=>cases e
theorem HE {α:Type} (xs:List α) (i:Int):atP xs i = L2.atI xs i:=rfl
theorem b8.atI {xs:List PV} {vs:List V} {i:Int} {x:PV} (h:b8 K S xs vs) (e:atP xs i = some x):∃ v,L2.atI vs i = some v /\ Rep K S x v:=by
 rw [HE] at e
 unfold L2.atI at e ⊢
 rw [h.length]
 cases q:ixN xs.length i with
 | none=>rw [q] at e; cases e
 | some j=>rw [q] at e; exact h.get e
theorem nc:JR K (Fh K) mI:=by
 intro S H x y v u rr Q I hx hy e k
 unfold mI at e
 split at e
 . rename_i xs i
   obtain ⟨z,e1,e2⟩:=Option.map_eq_some_iff.mp e
   obtain ⟨p,vs,rfl,hq,r⟩:=gp hx
   obtain ⟨w,e3,rw'⟩:=r.atI e1
   subst e2
   exact ⟨p,vs,i,w,rfl,dH hy,hq,e3,k _ S H (bf.refl I) rw'⟩
 . cases e
theorem gP:JR K (JN K) ik:=by
 intro S H x y v u rr Q I hx hy e k
 unfold ik at e
 split at e
 . rename_i xs i
   obtain ⟨z,e1,e2⟩:=Option.map_eq_some_iff.mp e
   obtain ⟨p,vs,rfl,hq,r⟩:=mf hx
   obtain ⟨w,e3,rw'⟩:=r.atI e1
   subst e2
   exact ⟨p,vs,i,w,rfl,dH hy,aI.tup I hq,e3,k _ S H (bf.refl I) rw'⟩
 . cases e
end
end L2.P
namespace L2.P
open PySem PySem.Spec PyProof.Rows L2 L2.E
section
variable {K:PySem.W.Frag} {cls:String -> Option Addr} {W:XW} {Av G S₀ S S' H H' B B':Hp} {ρ:ae} {σ:St} {Q:VK}
theorem iP:JR K (Gh K) lQ:=by
 intro S H x y v u rr Q I hx hy e k
 unfold lQ at e
 split at e
 . rename_i xs ys
   split at e
   . rename_i hl
     cases e
     obtain ⟨p,vs,rfl,hq,r⟩:=gp hx
     obtain ⟨p2,vs2,rfl,hq2,r2⟩:=gp hy
     exact ⟨p,p2,vs,vs2,rfl,rfl,hq,hq2,by rw [r.length,r2.length]; exact hl,fun l hn=>k _ S _ (bf.heap I hn) ⟨l,_,rfl,hn,I.free hn,bD,r.append r2⟩⟩
   . cases e
 . cases e
theorem u1 {xs:List PV} {ns:List Int} (h:rV xs = some ns):xs = ns.map .int:=by
 induction xs generalizing ns with
 | nil=>cases h; rfl
 | cons x xs ih=>
   cases x with
   | int i=>
     obtain ⟨ms,e1,e2⟩:=Option.map_eq_some_iff.mp h
     subst e2
     rw [ih e1]; rfl
   | _=>cases h
theorem Fp {x y:PV} {v u:V} {b:Bool} (hx:RdV K S H x v) (hy:RdV K S H y u) (e:Fj x y = some b):
  ∃ (p q:Addr) (ns ms:List Int),v = .ref p /\ u = .ref q /\ SqL K H p (ns.map V.int) /\ SqL K H q (ms.map V.int) /\ b = decide (ns = ms):=by
 unfold Fj at e
 split at e
 . rename_i xs ys
   split at e
   . rename_i a b' e1 e2
     cases e
     obtain ⟨p,vs,rfl,hq,r⟩:=gp hx
     obtain ⟨p2,vs2,rfl,hq2,r2⟩:=gp hy
     rw [u1 e1] at r
     rw [u1 e2] at r2
     rw [r.yb] at hq
     rw [r2.yb] at hq2
     exact ⟨p,p2,a,b',rfl,rfl,hq,hq2,rfl⟩
   . cases e
 . cases e
theorem Hj {A:Around} (hu:A.units + 64 < cLine):JR K (JC K A true) HK:=by
 intro S H x y v u rr Q I hx hy e k
 obtain ⟨b,e1,e2⟩:=Option.map_eq_some_iff.mp e
 obtain ⟨p,q,ns,ms,rfl,rfl,h1,h2,rfl⟩:=Fp hx hy e1
 subst e2
 exact ⟨p,q,ns,ms,rfl,rfl,h1,h2,hu,k _ S H (bf.refl I) (by show Rep K S _ _; unfold Rep; simp)⟩
theorem yy {xs:List PV} {vs:List V} {bs:List Bool} (h:rb xs = some bs) (r:b8 K S xs vs):vs = bs.map V.bl:=by
 induction xs generalizing bs vs with
 | nil=>cases h; exact r.nil_inv
 | cons x xs ih=>
   cases x with
   | bl i=>
     obtain ⟨ms,e1,e2⟩:=Option.map_eq_some_iff.mp h
     subst e2
     obtain ⟨v,t,rfl,h1,h2⟩:=r.cons_inv
     unfold Rep at h1
     rw [ih e1 h2,h1]; rfl
   | _=>cases h
theorem G7 {A:Around} (hh:A.handled = none):JU K (fun xs H Q=>∃ (p:Addr) (bs:List Bool),xs = [.ref p] /\ SqL K H p (bs.map V.bl) /\ A.handled = none /\ Q (.bl (bs.all id)) H) EX:=by
 intro S H x v rr Q I hx e k
 cases x with
 | lst xs=>
   obtain ⟨bs,e1,e2⟩:=Option.map_eq_some_iff.mp e
   obtain ⟨p,vs,rfl,hq,r⟩:=gp hx
   rw [yy e1 r] at hq
   subst e2
   exact ⟨p,bs,rfl,hq,hh,k _ S H (bf.refl I) (by show Rep K S _ _; unfold Rep; rfl)⟩
 | _=>cases e
theorem Ij {T:String} {x:PV} {v:V} {b:Bool} (s:aI S H) (hx:RdV K S H x v) (e:isP T x = some b):IsV K T v H b:=by
 cases x with
 | int i=>
   have:=dH hx; subst this
   simp only [isP] at e
   split at e
   . cases e; exact .inl ⟨by assumption,rfl⟩
   . split at e
     . rename_i h; cases e; rcases h with h | h | h | h
       . exact .inr (.inl ⟨h,rfl⟩)
       . exact .inr (.inr (.inl ⟨h,rfl⟩))
       . exact .inr (.inr (.inr (.inl ⟨h,rfl⟩)))
       . exact .inr (.inr (.inr (.inr ⟨h,rfl⟩)))
     . cases e
 | bl i=>
   have:=nQ hx; subst this
   simp only [isP] at e
   split at e
   . rename_i h; cases e; rcases h with h | h
     . exact .inl ⟨h,rfl⟩
     . exact .inr (.inl ⟨h,rfl⟩)
   . split at e
     . rename_i h; cases e; rcases h with h | h | h
       . exact .inr (.inr (.inl ⟨h,rfl⟩))
       . exact .inr (.inr (.inr (.inl ⟨h,rfl⟩)))
       . exact .inr (.inr (.inr (.inr ⟨h,rfl⟩)))
     . cases e
 | non=>
   have:=jh hx; subst this
   simp only [isP] at e
   split at e
   . rename_i h; cases e; rcases h with h | h | h | h | h
     . exact .inl ⟨h,rfl⟩
     . exact .inr (.inl ⟨h,rfl⟩)
     . exact .inr (.inr (.inl ⟨h,rfl⟩))
     . exact .inr (.inr (.inr (.inl ⟨h,rfl⟩)))
     . exact .inr (.inr (.inr (.inr ⟨h,rfl⟩)))
   . cases e
 | str i=>
   have:=jG hx; subst this
   simp only [isP] at e
   split at e
   . cases e; exact .inr (.inr (.inr (.inr ⟨by assumption,rfl⟩)))
   . split at e
     . rename_i h; cases e; rcases h with h | h | h | h
       . exact .inl ⟨h,rfl⟩
       . exact .inr (.inl ⟨h,rfl⟩)
       . exact .inr (.inr (.inl ⟨h,rfl⟩))
       . exact .inr (.inr (.inr (.inl ⟨h,rfl⟩)))
     . cases e
 | lst xs=>
   obtain ⟨p,vs,rfl,hq,r⟩:=gp hx
   refine .inl ⟨⟨vs,hq⟩,?_⟩
   simp only [isP] at e
   split at e
   . cases e; exact .inr (.inr (.inl ⟨by assumption,rfl⟩))
   . split at e
     . rename_i h; cases e; rcases h with h | h | h | h
       . exact .inl ⟨h,rfl⟩
       . exact .inr (.inl ⟨h,rfl⟩)
       . exact .inr (.inr (.inr (.inl ⟨h,rfl⟩)))
       . exact .inr (.inr (.inr (.inr ⟨h,rfl⟩)))
     . cases e
 | tup xs=>
   obtain ⟨p,vs,rfl,hq,r⟩:=mf hx
   refine .inr ⟨⟨vs,aI.tup s hq⟩,?_⟩
   simp only [isP] at e
   split at e
   . cases e; exact .inr (.inr (.inr (.inl ⟨by assumption,rfl⟩)))
   . split at e
     . rename_i h; cases e; rcases h with h | h | h | h
       . exact .inl ⟨h,rfl⟩
       . exact .inr (.inl ⟨h,rfl⟩)
       . exact .inr (.inr (.inl ⟨h,rfl⟩))
       . exact .inr (.inr (.inr (.inr ⟨h,rfl⟩)))
     . cases e
theorem yL {T:String} {ta:TE} {ma:ae -> OE} (ha:JE K cls W ta ma):
  JE K cls W (tCB (fun xs H Q=>∃ x T b,xs = [x,.ty T] /\ IsV K T x H b /\ Q (.bl b) H) (jd ta (jd (tC (.ty T)) kD))) (mIs T ma):=by
 intro Av G S₀ ρ σ S H Q I p
 refine ha.go I p fun a v S1 H1 I1 w1 r1 p1=>?_
 show ∃ x T' b,[v,V.ty T] = [x,V.ty T'] /\ _
 dsimp only at p1
 cases e:isP T a.pv with
 | none=>rw [e] at p1; exact p1.elim
 | some b=>
   rw [e] at p1
   exact ⟨v,T,b,rfl,Ij I1.sh (r1.rd I1.sh) e,p1 _ S1 H1 (bf.refl I1.sh) (by show Rep K S1 _ _; unfold Rep; rfl)⟩
end
end L2.P
namespace L2.P
open PySem PySem.Spec PyProof.Rows L2 L2.E
section
variable {K:PySem.W.Frag} {cls:String -> Option Addr} {W:XW} {Av G S₀ S S' H H' B B':Hp} {ρ:ae} {σ:St} {Q:VK}
theorem qQ {xs:List PV} {vs:List V} (h:b8 K S xs vs):vs.isEmpty = xs.isEmpty:=by
 cases xs with
 | nil=>rw [h.nil_inv]; rfl
 | cons x xs=>obtain ⟨v,r,rfl,_⟩:=h.cons_inv; rfl
theorem zP {x:PV} {v:V} {b:Bool} (s:aI S H) (hx:RdV K S H x v) (e:sJ x = some b):y6 K v H b:=by
 cases x with
 | non=>have:=jh hx; subst this; cases e; rfl
 | bl c=>have:=nQ hx; subst this; cases e; rfl
 | int i=>have:=dH hx; subst this; cases e; rfl
 | str z=>cases e
 | lst xs=>
   obtain ⟨p,vs,rfl,hq,r⟩:=gp hx
   cases e
   exact .inl ⟨vs,hq,by rw [qQ r]⟩
 | tup xs=>
   obtain ⟨p,vs,rfl,hq,r⟩:=mf hx
   cases e
   exact .inr (.inl ⟨vs,aI.tup s hq,by rw [qQ r]⟩)
theorem fE {ta:TE} {ma:ae -> OE} (ha:JE K cls W ta ma):JT K cls W (fun σ H Q=>ta σ H fun x H'=>∃ k,y6 K x H' k /\ Q k H') (eH ma):=by
 intro Av G S₀ ρ σ S H Q I p
 refine ha.goT I p fun r v S1 H1 I1 w1 r1 p1=>?_
 cases e:sJ r.pv with
 | none=>rw [e] at p1; exact p1.elim
 | some b=>rw [e] at p1; exact ⟨b,zP I1.sh (r1.rd I1.sh) e,p1 S1 H1 (bf.refl I1.sh)⟩
theorem uh {r:RV} {b:Bool} {v:V} {S1 H1:Hp} (h:r.pv = .bl b) (r1:mw K H S1 H1 r v) (s:aI S1 H1):v = .bl b:=by
 have:=r1.rd s
 rw [h] at this
 exact nQ this
theorem ay {ta:TE} {ma:ae -> OE} (ha:JE K cls W ta ma):JT K cls W (uQ ta) (aD ma):=by
 intro Av G S₀ ρ σ S H Q I p
 refine ha.goT I p fun r v S1 H1 I1 w1 r1 p1=>?_
 cases e:r.pv with
 | bl b=>rw [e] at p1; exact ⟨b,uh e r1 I1.sh,p1 S1 H1 (bf.refl I1.sh)⟩
 | _=>rw [e] at p1; exact p1.elim
theorem lH {ta tb:TT} {ma mb:ae -> OT} (ha:JT K cls W ta ma) (hb:JT K cls W tb mb):JT K cls W (GN ta tb) (fF ma mb):=by
 intro Av G S₀ ρ σ S H Q I p
 refine ha.goT I p fun b S1 H1 I1 w1 p1=>?_
 cases b with
 | true=>exact wK (hb Av G S₀ ρ σ S1 H1 Q I1 p1)
 | false=>exact wa (p1 S1 H1 (bf.refl I1.sh))
theorem Aj {ta tb:TT} {ma mb:ae -> OT} (ha:JT K cls W ta ma) (hb:JT K cls W tb mb):JT K cls W (tOr ta tb) (rB ma mb):=by
 intro Av G S₀ ρ σ S H Q I p
 refine ha.goT I p fun b S1 H1 I1 w1 p1=>?_
 cases b with
 | false=>exact wa (hb Av G S₀ ρ σ S1 H1 Q I1 p1)
 | true=>exact wK (p1 S1 H1 (bf.refl I1.sh))
theorem mU {b:Bool}:mw K B S H (.sh (.bl b)) (.bl b):=by show Rep K S _ _; unfold Rep; rfl
theorem yA {ta tb:TE} {ma mb:ae -> OE} (ha:JE K cls W ta ma) (hb:JE K cls W tb mb):JE K cls W (CI ta tb) (uy ma mb):=by
 intro Av G S₀ ρ σ S H Q I p
 refine ha.go I p fun r v S1 H1 I1 w1 r1 p1=>?_
 cases e:r.pv with
 | bl b=>
   rw [e] at p1
   refine ⟨b,uh e r1 I1.sh,?_⟩
   cases b with
   | true=>exact wK (hb Av G S₀ ρ σ S1 H1 Q I1 p1)
   | false=>exact wa (p1 _ S1 H1 (bf.refl I1.sh) mU)
 | _=>rw [e] at p1; exact p1.elim
theorem Kk {ta tb:TE} {ma mb:ae -> OE} (ha:JE K cls W ta ma) (hb:JE K cls W tb mb):JE K cls W (Il ta tb) (Ca ma mb):=by
 intro Av G S₀ ρ σ S H Q I p
 refine ha.go I p fun r v S1 H1 I1 w1 r1 p1=>?_
 cases e:r.pv with
 | bl b=>
   rw [e] at p1
   refine ⟨b,uh e r1 I1.sh,?_⟩
   cases b with
   | false=>exact wa (hb Av G S₀ ρ σ S1 H1 Q I1 p1)
   | true=>exact wK (p1 _ S1 H1 (bf.refl I1.sh) mU)
 | _=>rw [e] at p1; exact p1.elim
theorem H0 {ta:TE} {ma:ae -> OE} (ha:JE K cls W ta ma):JE K cls W (CV ta) (CN ma):=by
 intro Av G S₀ ρ σ S H Q I p
 refine ha.go I p fun r v S1 H1 I1 w1 r1 p1=>?_
 cases e:r.pv with
 | bl b=>rw [e] at p1; exact ⟨b,uh e r1 I1.sh,p1 _ S1 H1 (bf.refl I1.sh) mU⟩
 | _=>rw [e] at p1; exact p1.elim
theorem iy {tc:TT} {ta tb:TE} {mc:ae -> OT} {ma mb:ae -> OE} (hc:JT K cls W tc mc) (ha:JE K cls W ta ma) (hb:JE K cls W tb mb):JE K cls W (tIf tc ta tb) (gV mc ma mb):=by
 intro Av G S₀ ρ σ S H Q I p
 refine hc.go I p fun b S1 H1 I1 w1 p1=>?_
 cases b with
 | true=>exact wK (ha Av G S₀ ρ σ S1 H1 Q I1 p1)
 | false=>exact wa (hb Av G S₀ ρ σ S1 H1 Q I1 p1)
theorem jW {r r':R2} {g g':PV -> PV -> Option RV} {ta tb tc:TE} {ma mb mc:ae -> OE} (hr:JR K r g) (hr':JR K r' g') (ha:JE K cls W ta ma) (hb:JE K cls W tb mb) (hc:JE K cls W tc mc):
  JE K cls W (uG r r' ta tb tc) (lJ g g' ma mb mc):=by
 intro Av G S₀ ρ σ S H Q I p
 refine ha.go I p fun a v S1 H1 I1 w1 r1 p1=>hb.go I1 p1 fun b u S2 H2 I2 w2 r2 p2=>?_
 cases e:g a.pv b.pv with
 | none=>rw [e] at p2; exact p2.elim
 | some rr=>
   rw [e] at p2
   refine hr S2 H2 a.pv b.pv v u rr _ I2.sh ((r1.rd I1.sh).mono w2.s w2.g) (r2.rd I2.sh) e fun z S3 H3 w3 r3=>?_
   have I3:=I2.grow w3
   simp only [oE,OE.bind] at p2
   cases e3:rr.pv with
   | bl k=>
     rw [e3] at p2
     have hz:=uh e3 r3 I3.sh
     refine ⟨k,hz,?_⟩
     cases k with
     | false=>exact wa (p2 _ S3 H3 w3 mU)
     | true=>
       refine wK (hc.go I3 (p2.back w3) fun c y S4 H4 I4 w4 r4 p4=>?_)
       cases e4:g' b.pv c.pv with
       | none=>rw [e4] at p4; exact p4.elim
       | some r'=>rw [e4] at p4; exact hr' S4 H4 b.pv c.pv u y r' Q I4.sh (((r2.rd I2.sh).mono w3.s w3.g).mono w4.s w4.g) (r4.rd I4.sh) e4 p4
   | _=>rw [e3] at p2; exact p2.elim
theorem aw {ta tb:TS} {ma mb:ae -> OS} (ha:JS K cls W ta ma) (hb:JS K cls W tb mb):JS K cls W (Ib ta tb) (aJ ma mb):=by
 intro Av G S₀ ρ σ S H D I p
 refine ha Av G S₀ ρ σ S H _ I ?_
 unfold aJ at p
 cases e:ma ρ with
 | nx ρ'=>rw [e] at p; exact fun σ' S' H' I' s'=>hb Av G S₀ ρ' σ' S' H' D I' (p.back s')
 | bk ρ'=>rw [e] at p; exact p
 | ct ρ'=>rw [e] at p; exact p
 | rt ρ' r=>rw [e] at p; exact p
 | exc ρ' c fs=>rw [e] at p; exact p
 | bad=>rw [e] at p; exact p
theorem aE:JS K cls W Cd aR:=fun Av G S₀ ρ σ S H D I p=>p σ S H I (aI.refl _)
theorem aW {i:Nat} {te:TE} {me:ae -> OE} (he:JE K cls W te me):JS K cls W (ub te (kE i)) (bp i me):=by
 intro Av G S₀ ρ σ S H D I p
 refine he.goS I p fun r v S1 H1 I1 w1 r1 p1=>?_
 show D.nx (σ.set i (some v)) H1
 cases r with
 | sh x=>exact p1 _ S1 H1 (I1.zC r1) (aI.refl _)
 | fr xs=>exact p1 _ S1 H1 (I.Kt w1 r1) (aI.refl _)
 | al xs=>exact p1.elim
theorem aU {tc:TT} {ta tb:TS} {mc:ae -> OT} {ma mb:ae -> OS} (hc:JT K cls W tc mc) (ha:JS K cls W ta ma) (hb:JS K cls W tb mb):JS K cls W (DP tc ta tb) (bb mc ma mb):=by
 intro Av G S₀ ρ σ S H D I p
 refine hc.goS I p fun b S1 H1 I1 w1 p1=>?_
 cases b with
 | true=>exact wK (ha Av G S₀ ρ σ S1 H1 D I1 p1)
 | false=>exact wa (hb Av G S₀ ρ σ S1 H1 D I1 p1)
theorem aB {te:TE} {me:ae -> OE} (he:JE K cls W te me):JS K cls W (E4 te) (bc me):=by
 intro Av G S₀ ρ σ S H D I p
 refine he.goS I p fun r v S1 H1 I1 w1 r1 p1=>?_
 cases r with
 | sh x=>exact p1 v σ S1 H1 I1 (aI.refl _) r1
 | fr xs=>exact p1 v σ S1 H1 I1 (aI.refl _) (r1.back I.gh)
 | al xs=>exact p1.elim
theorem pq {i:Nat}:JS K cls W (E4 (yM i)) (iD i):=by
 intro Av G S₀ ρ σ S H D I p
 unfold iD at p
 split at p
 . rename_i x e
   obtain ⟨v,e1,r⟩:=I.good i _ e
   exact ⟨v,e1,p v σ S H I (aI.refl _) r⟩
 . rename_i xs e
   obtain ⟨v,e1,a,vs,e2,h1,h2,h3,h4⟩:=I.good i _ e
   exact ⟨v,e1,p v σ S H I.drop (aI.refl _) ⟨a,vs,e2,h1,h2,h3,h4⟩⟩
 . exact p.elim
theorem mz {i:Nat} {ts:TS} {m:ae -> OS} (h:JS K cls W ts m):JS K cls W ts (i9 i m):=by
 intro Av G S₀ ρ σ S H D I p
 unfold i9 lx at p
 split at p
 . rename_i xs e
   obtain ⟨S',s,J⟩:=I.Ju e
   exact h Av G S₀ _ σ S' H D J (p.back s)
 . exact h Av G S₀ ρ σ S H D I p
theorem kz {i:Nat} {te:TE} {me:ae -> OE} (he:JE K cls W te me):JS K cls W (tw (tBM K "list" vL (yM i) (jd te kD))) (eN i me):=by
 intro Av G S₀ ρ σ S H D I p
 unfold eN at p
 split at p
 . rename_i xs e
   obtain ⟨v,e1,a,vs,rfl,h1,h2,h3,h4⟩:=I.good i _ e
   refine ⟨_,e1,.inl ⟨rfl,_,SqL.new h3⟩,?_⟩
   refine he Av G S₀ ρ σ S H _ I ?_
   cases em:me ρ with
   | exc c fs=>rw [em] at p; exact fun a C S' H' w x=>p a C σ S' H' (I.grow w) w.s x
   | bad=>rw [em] at p; exact p
   | ok r=>
     rw [em] at p
     intro u S1 H1 w1 r1
     simp only [OE.bT] at p
     cases es:lS r with
     | none=>rw [es] at p; exact p.elim
     | some y=>
       rw [es] at p
       dsimp only at p
       split at p
       . rename_i hl
         obtain ⟨S2,w2,s2,rx⟩:=r1.share w1 es
         have I2:=I.grow w2
         refine ⟨a,vs,u,rfl,rfl,w2.g _ _ h3,by rw [h4.length]; exact hl,?_⟩
         exact p σ S2 _ (I2.mut e e1 ((h4.mono w2.s).append (.cons rx .nil))) w2.s
       . exact p.elim
 . exact p.elim
theorem vb {i:Nat} {tb:TS} {mb:ae -> OS} {D:Ends} {x:PV} {xs:List PV} {v:V} {N:St -> Hp -> Prop} (hb:JS K cls W tb mb) (I:SR K cls Av G S₀ ρ σ S H) (hx:Rep K S x v)
  (p:jm K cls W Av G S₀ S D (jq i mb (x ::xs) ρ)) (hN:∀ ρ' σ' S' H',SR K cls Av G S₀ ρ' σ' S' H' -> aI S S' -> jm K cls W Av G S₀ S' D (jq i mb xs ρ') -> N σ' H'):
  kE i v σ H fun σ2 H2=>tb { D with nx:=N,ct:=N,bk:=D.nx } σ2 H2:=by
 refine hb Av G S₀ _ _ S H _ (I.zC hx) ?_
 rw [kF] at p
 cases e:mb (ρ.set i (some (.sh x))) with
 | nx ρ'=>rw [e] at p; exact fun σ' S' H' I' s'=>hN ρ' σ' S' H' I' s' (p.back s')
 | ct ρ'=>rw [e] at p; exact fun σ' S' H' I' s'=>hN ρ' σ' S' H' I' s' (p.back s')
 | bk ρ'=>rw [e] at p; exact p
 | rt ρ' r=>rw [e] at p; exact p
 | exc ρ' c fs=>rw [e] at p; exact p
 | bad=>rw [e] at p; exact p
theorem vX {i:Nat} {tl:TE} {tb:TS} {ml:ae -> OE} {mb:ae -> OS} (hl:JE K cls W tl ml) (hb:JS K cls W tb mb):JS K cls W (BL (wZ K tl) (kE i) tb) (sq i ml mb):=by
 intro Av G S₀ ρ σ S H D I p
 refine hl Av G S₀ ρ σ S H _ I ?_
 unfold sq at p
 cases em:ml ρ with
 | exc c fs=>rw [em] at p; exact fun a C S' H' w x=>p a C σ S' H' (I.grow w) w.s x
 | bad=>rw [em] at p; exact p
 | ok r=>
   rw [em] at p
   intro v S1 H1 w1 r1
   simp only [OE.bT] at p
   cases ei:yQ r with
   | none=>rw [ei] at p; exact p.elim
   | some xs=>
     rw [ei] at p
     have es:lS r = some (.lst xs):=by
      cases r with
      | sh y=>cases y <;> cases ei <;> rfl
      | fr ys=>cases ei; rfl
      | al ys=>cases ei
     obtain ⟨S2,w2,s2,rx⟩:=r1.share w1 es
     have I2:=I.grow w2
     unfold Rep at rx
     obtain ⟨a,vs,rfl,hq,hr⟩:=rx
     refine ⟨a,rfl,⟨vs,aI.seq I2.sh hq⟩,?_⟩
     refine Cc (xs:=vs) (fun k σ' H'=>∃ ρ' S',SR K cls Av G S₀ ρ' σ' S' H' /\ aI S2 S' /\ jm K cls W Av G S₀ S' D (jq i mb (xs.drop k) ρ'))
      ⟨ρ,S2,I2,aI.refl _,p.back w2.s⟩ ?_ ?_ ?_
     . rintro k σ' H' _ ⟨ρ',S',I',s',_⟩
       exact aI.seq (s'.trans I'.sh) hq
     . rintro k x σ' H' hx ⟨ρ',S',I',s',p'⟩
       obtain ⟨y,hy,ry⟩:=hr.JK hx
       have hd:xs.drop k = y ::xs.drop (k + 1):=by
        have hk:k < xs.length:=(List.getElem?_eq_some_iff.mp hy).1
        rw [List.drop_eq_getElem_cons hk]
        congr 1
        have:=List.getElem?_eq_getElem hk
        rw [hy] at this
        exact (Option.some.inj this).symm
       rw [hd] at p'
       exact vb hb I' (Rep.mono s' ry) p' fun ρ2 σ2 S3 H3 I3 s3 p3=>⟨ρ2,S3,I3,s'.trans s3,p3⟩
     . rintro σ' H' ⟨ρ',S',I',s',p'⟩
       rw [List.drop_of_length_le (by rw [hr.length]; exact Nat.le_refl _)] at p'
       exact p' σ' S' H' I' (aI.refl _)
theorem wU {n k:Nat} (h:k < n):(dI n).drop k = .int (k:Int) ::(dI n).drop (k + 1):=by
 have hk:k < (dI n).length:=by unfold dI; simpa using h
 rw [List.drop_eq_getElem_cons hk]
 congr 1
 simp [dI]
theorem vV {i:Nat} {te:TE} {tb:TS} {me:ae -> OE} {mb:ae -> OS} (he:JE K cls W te me) (hb:JS K cls W tb mb):JS K cls W (BL (Aw (jd te kD)) (kE i) tb) (so i me mb):=by
 intro Av G S₀ ρ σ S H D I p
 refine he.goS I p fun r v S1 H1 I1 w1 r1 p1=>?_
 cases e:r.pv with
 | int j=>
   rw [e] at p1
   have hv:v = .int j:=by have:=r1.rd I1.sh; rw [e] at this; exact dH this
   subst hv
   dsimp only at p1
   split at p1
   . rename_i hj
     refine ⟨j,rfl,hj.1,hj.2,?_⟩
     refine Bq (n:=j.toNat) (fun k σ' H'=>∃ ρ' S',SR K cls Av G S₀ ρ' σ' S' H' /\ aI S1 S' /\ jm K cls W Av G S₀ S' D (jq i mb ((dI j.toNat).drop k) ρ'))
      ⟨ρ,S1,I1,aI.refl _,p1⟩ ?_ ?_
     . rintro k σ' H' hk ⟨ρ',S',I',s',p'⟩
       rw [wU hk] at p'
       refine vb hb I' ?_ p' fun ρ2 σ2 S3 H3 I3 s3 p3=>⟨ρ2,S3,I3,s'.trans s3,p3⟩
       unfold Rep
       rw [Int.zero_add]
     . rintro σ' H' ⟨ρ',S',I',s',p'⟩
       rw [List.drop_of_length_le (by unfold dI; simp)] at p'
       exact p' σ' S' H' I' (aI.refl _)
   . exact p1.elim
 | _=>rw [e] at p1; exact p1.elim
theorem tS {tc:TT} {tb:TS} {mc:ae -> OT} {mb:ae -> OS} {n:Nat} (hc:JT K cls W tc mc) (hb:JS K cls W tb mb):JS K cls W (zo tc tb) (fS mc mb n):=by
 intro Av G S₀ ρ σ S H D I p
 refine ⟨fun m σ' H'=>∃ ρ' S',SR K cls Av G S₀ ρ' σ' S' H' /\ aI S S' /\ jm K cls W Av G S₀ S' D (fS mc mb m ρ'),⟨n,ρ,S,I,aI.refl _,p⟩,?_⟩
 rintro m σ1 H1 ⟨ρ1,S1,I1,s1,p1⟩
 cases m with
 | zero=>exact p1.elim
 | succ m=>
   unfold fS at p1
   refine hc.goS I1 p1 fun b S2 H2 I2 w2 p2=>?_
   cases b with
   | false=>exact wa (p2 σ1 S2 H2 I2 (aI.refl _))
   | true=>
     refine wK ⟨fun σ' H'=>∃ ρ' S',SR K cls Av G S₀ ρ' σ' S' H' /\ aI S S' /\ jm K cls W Av G S₀ S' D (fS mc mb m ρ'),fun σ' H' h=>⟨m,Nat.lt_succ_self m,h⟩,?_⟩
     refine hb Av G S₀ ρ1 σ1 S2 H2 _ I2 ?_
     simp only [if_true] at p2
     cases e:mb ρ1 with
     | nx ρ'=>rw [e] at p2; exact fun σ' S' H' I' s'=>⟨ρ',S',I',(s1.trans w2.s).trans s',p2.back s'⟩
     | ct ρ'=>rw [e] at p2; exact fun σ' S' H' I' s'=>⟨ρ',S',I',(s1.trans w2.s).trans s',p2.back s'⟩
     | bk ρ'=>rw [e] at p2; exact p2
     | rt r=>rw [e] at p2; exact p2
     | exc ρ' c fs=>rw [e] at p2; exact p2
     | bad=>rw [e] at p2; exact p2
end
end L2.P
namespace L2.P
open PySem PySem.Spec PyProof.Rows L2 L2.E
section
variable {K:PySem.W.Frag} {cls:String -> Option Addr} {W:XW} {Av G S₀ S S' H H' B B':Hp} {ρ:ae} {σ:St} {Q:VK}
noncomputable def Dg:V -> Option Int
 | .int i=>some i
 | _=>none
noncomputable def JO (K:PySem.W.Frag) (cls:String -> Option Addr) (W:XW) (to:TO) (m:ae -> OE):Prop:=∀ Av G S₀ ρ σ S H (Q:Option Int -> Hp -> Prop),SR K cls Av G S₀ ρ σ S H ->
 kZ K cls W σ S H (fun v H'=>Q (Dg v) H') (m ρ) -> to σ H Q
theorem zX:JO K cls W wA (mC .non):=fun Av G S₀ ρ σ S H Q I p=>p .non S H (bf.refl I.sh) (by show Rep K S _ _; unfold Rep; rfl)
theorem Al {te:TE} {m:ae -> OE} (h:JE K cls W te m):JO K cls W (Dl te) (u4 m):=by
 intro Av G S₀ ρ σ S H Q I p
 refine h.go I p fun r v S1 H1 I1 w1 r1 p1=>?_
 cases e:r.pv with
 | int i=>
   rw [e] at p1
   have hv:v = .int i:=by have:=r1.rd I1.sh; rw [e] at this; exact dH this
   exact ⟨i,hv,p1 (.int i) S1 H1 (bf.refl I1.sh) (by show Rep K S1 _ _; unfold Rep; rfl)⟩
 | _=>rw [e] at p1; exact p1.elim
theorem JO.go {to:TO} {m:ae -> OE} {f:RV -> OE} {Q':Option Int -> Hp -> Prop} (h:JO K cls W to m) (I:SR K cls Av G S₀ ρ σ S H) (p:kZ K cls W σ S H Q ((m ρ).bind f))
  (k:∀ r v S1 H1,SR K cls Av G S₀ ρ σ S1 H1 -> bf S H S1 H1 -> mw K H S1 H1 r v -> kZ K cls W σ S1 H1 Q (f r) -> Q' (Dg v) H1):to σ H Q':=by
 refine h Av G S₀ ρ σ S H Q' I ?_
 cases e:m ρ with
 | ok r=>rw [e] at p; exact fun v S1 H1 w r1=>k r v S1 H1 (I.grow w) w r1 (p.back w)
 | exc c fs=>rw [e] at p; exact p
 | bad=>rw [e] at p; exact p
theorem part_of {x:PV} {v:V} (h:RdV K S H x v):Dg v = tM x:=by
 cases x with
 | int i=>rw [dH h]; rfl
 | non=>rw [jh h]; rfl
 | bl b=>rw [nQ h]; rfl
 | str b=>rw [jG h]; rfl
 | lst xs=>obtain ⟨p,vs,rfl,_⟩:=gp h; rfl
 | tup xs=>obtain ⟨p,vs,rfl,_⟩:=mf h; rfl
theorem b8.cut {xs:List PV} {vs:List V} (h:b8 K S xs vs) (lo hi:Option Int):b8 K S (yN xs lo hi) (BB vs lo hi):=by
 have es:∀ n d o,uP n d o = HT.sIx n d o:=fun n d o=>by cases o <;> rfl
 unfold yN BB
 simp only [es]
 rw [h.length]
 exact (h.drop _).take _
theorem Dy {te:TE} {tl th:TO} {ma ml mh:ae -> OE} (ha:JE K cls W te ma) (hl:JO K cls W tl ml) (hh:JO K cls W th mh):JE K cls W (tSl (Jt K) te tl th) (A2 ma ml mh):=by
 intro Av G S₀ ρ σ S H Q I p
 refine ha.go I p fun a v S1 H1 I1 w1 r1 p1=>hl.go I1 p1 fun l u S2 H2 I2 w2 r2 p2=>hh.go I2 p2 fun h z S3 H3 I3 w3 r3 p3=>?_
 rw [part_of (r2.rd I2.sh),part_of (r3.rd I3.sh)]
 have ra:=((r1.rd I1.sh).mono w2.s w2.g).mono w3.s w3.g
 cases e:a.pv with
 | lst xs=>
   rw [e] at p3 ra
   obtain ⟨q,vs,rfl,hq,hr⟩:=gp ra
   exact ⟨q,vs,rfl,hq,fun b hb=>p3 _ S3 _ (bf.heap I3.sh hb) ⟨b,_,rfl,hb,I3.sh.free hb,bD,hr.cut _ _⟩⟩
 | _=>rw [e] at p3; exact p3.elim
theorem join_some {α:Type} {o:Option (Option α)} {s:α} (h:o.join = some s):o = some (some s):=by
 cases o with
 | none=>cases h
 | some x=>cases x with
   | none=>cases h
   | some y=>rw [show y = s from Option.some.inj h]
theorem EJ {α:Type} {l:List (Option α)} {ι:List Nat} {j:Nat} {s:α} (h:(ι.map fun i=>(l[i]?).join)[j]? = some (some s)):∃ i,ι[j]? = some i /\ l[i]? = some (some s):=by
 rw [List.getElem?_map] at h
 cases e:ι[j]? with
 | none=>rw [e] at h; cases h
 | some i=>rw [e] at h; exact ⟨i,rfl,join_some (Option.some.inj h)⟩
noncomputable def F5 (ι:List Nat) (Av:Hp):Hp:=fun j=>match ι[j]? with
 | some i=>Av i
 | none=>none
noncomputable def yc (ι:List Nat) (F:Nat -> List Addr):Nat -> List Addr:=fun j=>match ι[j]? with
 | some i=>F i
 | none=>[]
theorem sM.at {i j:Nat} {Av':Hp} {s:Sl} {v:V} {fp:List Addr} (h:sM K cls Av G S H i s v fp) (e:Av' j = Av i):sM K cls Av' G S H j s v fp:=by
 cases s with
 | sh x=>exact h
 | ow xs=>exact h
 | ex c fs=>exact h
 | tr io t=>exact ⟨h.1,h.2.1,h.2.2.1,fun z=>by rw [e]; exact h.2.2.2 z⟩
 | bo t=>exact h
theorem SR.pick {ι:List Nat} {x:PV} {v:V} (I:SR K cls Av G S₀ ρ σ S H) (hι:ι.Nodup) (hx:Rep K S x v):SR K cls (F5 ι Av) G S₀ (dv ι ρ ++ [some (.sh x)]) (L2.E.pick ι σ ++ [some v]) S H:=by
 obtain ⟨F,J⟩:=I
 have hl:(dv ι ρ).length = (L2.E.pick ι σ).length:=by unfold dv L2.E.pick; simp
 have hp:(dv ι ρ).length = ι.length:=by unfold dv; simp
 refine ⟨yc ι F,J.gh,J.s0,J.sh,J.new,fun j s e=>?_,fun j k a h1 h2=>?_,fun j a h=>?_,by unfold dv L2.E.pick; simp⟩
 . by_cases hj:j < (dv ι ρ).length
   . rw [List.getElem?_append_left hj] at e
     obtain ⟨i,e1,e2⟩:=EJ e
     obtain ⟨u,e3,r⟩:=J.own i s e2
     refine ⟨u,?_,?_⟩
     . rw [List.getElem?_append_left (by rw [<- hl]; exact hj)]
       unfold L2.E.pick
       rw [List.getElem?_map,e1]
       show some (σ[i]?).join = _
       rw [e3]; rfl
     . unfold yc
       rw [e1]
       exact r.at (by unfold F5; rw [e1])
   . have hj':(dv ι ρ).length <= j:=Nat.le_of_not_lt hj
     rw [List.getElem?_append_right hj'] at e
     have h0:j - (dv ι ρ).length = 0:=by
      by_cases h:j - (dv ι ρ).length = 0
      . exact h
      . rw [List.getElem?_eq_none (by simp; omega)] at e; cases e
     rw [h0] at e
     cases e
     refine ⟨v,?_,?_,hx⟩
     . rw [List.getElem?_append_right (by rw [<- hl]; exact hj'),<- hl,h0]; rfl
     . unfold yc
       rw [List.getElem?_eq_none (by rw [<- hp]; exact hj')]
 . unfold yc at h1 h2
   cases e1:ι[j]? with
   | none=>rw [e1] at h1; cases h1
   | some i=>
     cases e2:ι[k]? with
     | none=>rw [e2] at h2; cases h2
     | some i'=>
       rw [e1] at h1
       rw [e2] at h2
       have z:=J.apart i i' a h1 h2
       subst z
       obtain ⟨ha,ea⟩:=List.getElem?_eq_some_iff.mp e1
       obtain ⟨hb,eb⟩:=List.getElem?_eq_some_iff.mp e2
       exact (List.getElem_inj hι).mp (ea.trans eb.symm)
 . unfold yc at h
   cases e1:ι[j]? with
   | none=>rw [e1] at h; cases h
   | some i=>rw [e1] at h; exact J.live i a h
theorem CG {me:ae -> OE} {x:PV} {xs ys:List PV} (h:du me ρ (x ::xs) = .ok ys):∃ r y zs,me (ρ ++ [some (.sh x)]) = .ok r /\ lS r = some y /\ du me ρ xs = .ok zs /\ ys = y ::zs:=by
 unfold du at h
 cases e:me (ρ ++ [some (.sh x)]) with
 | ok r=>
   rw [e] at h
   simp only [OE.fJ] at h
   cases e2:lS r with
   | none=>rw [e2] at h; cases h
   | some y=>
     rw [e2] at h
     dsimp only at h
     cases e3:du me ρ xs with
     | ok zs=>rw [e3] at h; cases h; exact ⟨r,y,zs,rfl,e2,rfl,rfl⟩
     | exc c fs=>rw [e3] at h; cases h
     | bad=>rw [e3] at h; cases h
 | exc c fs=>rw [e] at h; cases h
 | bad=>rw [e] at h; cases h
theorem pe {J:It} {ι:List Nat} {te:TE} {me:ae -> OE} {xs ys:List PV} (hι:ι.Nodup) (he:JE K cls (fun _ _ _ _=>False) te me) (I:SR K cls Av G S₀ ρ σ S H) (hy:du me (dv ι ρ) xs = .ok ys) (hl:ys.length <= lim)
  (go:∀ k H' x,aI H H' -> xs[k]? = some x -> J.go k H' /\ ∀ v H2,J.yld k H' v H2 -> H2 = H' /\ Rep K S x v) (stop:∀ H',aI H H' -> J.stop xs.length H')
  (hQ:∀ D S' H',bf S H S' H' -> H D = none -> S' D = none -> (∃ us,H' D = some (.lst us) /\ b8 K S' ys us) -> Q (.ref D) H'):
  ∀ D,H D = none -> ∃ W:Nat -> Nat -> List V -> Hp -> Prop,(∃ m,W 0 m [] (upd H D (.lst []))) /\ ∀ i m us H',W i m us H' ->
    H' D = some (.lst us) /\ ((J.stop i H' /\ Q (.ref D) H') \/ (J.go i H' /\ ∀ x H2,J.yld i H' x H2 -> te (L2.E.pick ι σ ++ [some x]) H2 fun y H3=>H3 D = some (.lst us) /\ us.length < sizeLine /\ ∃ m',m' < m /\ W (i + 1) m' (us ++ [y]) (upd H3 D (.lst (us ++ [y]))))):=by
 intro D nD
 refine ⟨fun k m us H'=>m + k = xs.length /\ H' D = some (.lst us) /\ ∃ S' zs ws,aI S S' /\ aI H H' /\ aI S' H' /\ (∀ b,S' b ≠ none -> S b ≠ none \/ (H b = none /\ b ≠ D)) /\ b8 K S' zs us /\ du me (dv ι ρ) (xs.drop k) = .ok ws /\ ys = zs ++ ws,
  ⟨xs.length,rfl,bD,S,[],ys,aI.refl _,aI.new nD,I.sh.trans (aI.new nD),fun b z=>.inl z,.nil,hy,rfl⟩,?_⟩
 rintro k m us H' ⟨hm,hD,S',zs,ws,s1,g1,sh1,n1,r1,e1,rfl⟩
 refine ⟨hD,?_⟩
 have hSD:S' D = none:=by
  cases q:S' D with
  | none=>rfl
  | some o=>
    rcases n1 D (by rw [q]; simp) with z | ⟨_,z⟩
    . exact absurd (I.sh.free nD) z
    . exact absurd rfl z
 by_cases hk:k < xs.length
 . refine .inr ?_
   have hx:xs[k]? = some xs[k]:=by simp [hk]
   obtain ⟨hgo,hyld⟩:=go k H' xs[k] g1 hx
   refine ⟨hgo,fun v H2 hv=>?_⟩
   obtain ⟨rfl,rv⟩:=hyld v H2 hv
   rw [List.drop_eq_getElem_cons hk] at e1
   obtain ⟨r,y,zs',em,es,e2,rfl⟩:=CG e1
   have I1:SR K cls Av G S₀ ρ σ S' H2:=I.grow ⟨s1,g1,sh1,fun b z=>by
    rcases n1 b z with z | ⟨z,_⟩
    . exact .inl z
    . exact .inr z⟩
   refine he _ G S₀ _ _ S' H2 _ (I1.pick hι (Rep.mono s1 rv)) ?_
   rw [em]
   intro u S2 H3 w2 r2
   obtain ⟨S3,w3,s3,ru⟩:=r2.share w2 es
   have hl2:(zs ++ y ::zs').length <= lim:=hl
   have hSD3:S3 D = none:=by
    cases q:S3 D with
    | none=>rfl
    | some o=>
      rcases w3.new D (by rw [q]; simp) with z | z
      . exact absurd hSD z
      . rw [hD] at z; cases z
   refine ⟨w3.g _ _ hD,?_,m - 1,by omega,by omega,bD,S3,zs ++ [y],zs',s1.trans w3.s,(g1.trans w3.g).upd nD,w3.sh.upd hSD3,fun b z=>?_,(r1.mono w3.s).append (.cons ru .nil),e2,by simp⟩
   . rw [r1.length,<- CU]
     rw [List.length_append,List.length_cons] at hl2
     omega
   . rcases w3.new b z with z | z
     . exact n1 b z
     . refine .inr ⟨g1.free z,fun e=>?_⟩
       rw [e,hD] at z; cases z
 . have hk':k = xs.length:=by omega
   subst hk'
   refine .inl ⟨stop H' g1,?_⟩
   rw [List.drop_length] at e1
   cases e1
   exact hQ D S' H' ⟨s1,g1,sh1,fun b z=>by
    rcases n1 b z with z | ⟨z,_⟩
    . exact .inl z
    . exact .inr z⟩ nD hSD ⟨us,hD,by rw [List.append_nil]; exact r1⟩
theorem tV {tl te:TE} {ml me:ae -> OE} {ι:List Nat} (hι:ι.Nodup) (hl:JE K cls W tl ml) (he:JE K cls (fun _ _ _ _=>False) te me):JE K cls W (sF (wZ K tl) ι te) (rj ml ι me):=by
 intro Av G S₀ ρ σ S H Q I p
 refine hl.go I p fun r v S1 H1 I1 w1 r1 p1=>?_
 have ra:=r1.rd I1.sh
 cases e:r.pv with
 | lst xs=>
   rw [e] at p1 ra
   obtain ⟨a,vs,rfl,hq,hr⟩:=gp ra
   refine ⟨a,rfl,⟨vs,hq⟩,?_⟩
   dsimp only at p1
   cases em:du me (dv ι ρ) xs with
   | exc c fs=>rw [em] at p1; exact p1.elim
   | bad=>rw [em] at p1; exact p1.elim
   | ok ys=>
     rw [em] at p1
     simp only [noX] at p1
     split at p1
     . rename_i hlen
       refine pe hι he I1 em hlen (fun k H' x g hx=>?_) (fun H' g=>⟨vs,aI.seq g hq,by rw [hr.length]; exact Nat.le_refl _⟩) fun D S' H' w nD sD ⟨us,hD,rr⟩=>p1 (.ref D) S' H' w ⟨D,us,rfl,nD,sD,hD,rr⟩
       obtain ⟨u,hu,ru⟩:=hr.get hx
       refine ⟨⟨vs,u,aI.seq g hq,hu⟩,?_⟩
       rintro v' H2 ⟨rfl,hv⟩
       have:=hv vs (aI.seq g hq)
       rw [hu] at this
       cases this
       exact ⟨rfl,ru⟩
     . exact p1.elim
 | _=>rw [e] at p1; exact p1.elim
theorem xD {tn te:TE} {mn me:ae -> OE} {ι:List Nat} (hι:ι.Nodup) (hn:JE K cls W tn mn) (he:JE K cls (fun _ _ _ _=>False) te me):JE K cls W (sF (Aw (jd tn kD)) ι te) (wm mn ι me):=by
 intro Av G S₀ ρ σ S H Q I p
 refine hn.go I p fun r v S1 H1 I1 w1 r1 p1=>?_
 have ra:=r1.rd I1.sh
 cases e:r.pv with
 | int j=>
   rw [e] at p1 ra
   have hv:=dH ra
   subst hv
   dsimp only at p1
   split at p1
   . rename_i hj
     refine ⟨j,rfl,hj.1,hj.2,?_⟩
     cases em:du me (dv ι ρ) (dI j.toNat) with
     | exc c fs=>rw [em] at p1; exact p1.elim
     | bad=>rw [em] at p1; exact p1.elim
     | ok ys=>
       rw [em] at p1
       simp only [noX] at p1
       split at p1
       . rename_i hlen
         have hln:(dI j.toNat).length = j.toNat:=by unfold dI; simp
         refine pe hι he I1 em hlen (fun k H' x g hx=>?_) (fun H' g=>by rw [hln]; exact Nat.le_refl _) fun D S' H' w nD sD ⟨us,hD,rr⟩=>p1 (.ref D) S' H' w ⟨D,us,rfl,nD,sD,hD,rr⟩
         have hk:k < j.toNat:=by rw [<- hln]; exact (List.getElem?_eq_some_iff.mp hx).1
         refine ⟨hk,?_⟩
         rintro v' H2 ⟨rfl,rfl⟩
         refine ⟨rfl,?_⟩
         have:x = .int (k:Int):=by
          unfold dI at hx
          rw [List.getElem?_map,List.getElem?_range hk] at hx
          exact (Option.some.inj hx).symm
         subst this
         unfold Rep
         rw [Int.zero_add]
       . exact p1.elim
   . exact p1.elim
 | _=>rw [e] at p1; exact p1.elim
theorem b8.begin {xs:List PV} {vs:List V} (h:b8 K S xs vs) (N:List Str) (i:Nat) (s:Sl) (e:(mi N.length xs)[i]? = some (some s)):∃ x v,s = .sh x /\ (L2.start N vs)[i]? = some (some v) /\ Rep K S x v:=by
 unfold mi at e
 by_cases hi:i < xs.length
 . rw [List.getElem?_append_left (by simpa using hi),List.getElem?_map] at e
   have hx:xs[i]? = some xs[i]:=by simp [hi]
   rw [hx] at e
   cases e
   obtain ⟨v,hv,r⟩:=h.get hx
   refine ⟨_,v,rfl,?_,r⟩
   unfold L2.start
   rw [List.getElem?_append_left (by rw [List.length_map,h.length]; exact hi),List.getElem?_map,hv]; rfl
 . rw [List.getElem?_append_right (by simpa using hi)] at e
   rw [List.getElem?_replicate] at e
   split at e <;> cases e
theorem L3 {P:Program} {w:World} {mg:Str -> Option Value} {base:Heap} {x qual:Str} {st:Stmt} {f:Addr} {fd:FuncData} {N ps:List Str} {k:Nat} {m:ae -> OS} (F:Fun K x qual st f fd) (Sc:aV N ps (aA st))
  (hbody:∀ (cdv:Value) (A:Around) (outer:List Env) (s:Shared) (H:Hp) (E:XK),ie k (A.deeper (envOfC qual (aA st) s.heap.objs.size f cdv)) ->
    ∃ t,PSs (rA (CXE P w) P w K mg base N qual (aA st) f cdv A outer s H E) (dJ st) t /\ JS K cls (fun C a _ H=>∀ H',aI H H' -> E C a H') t m):cB P w K mg base (CXE P w) (k + 1) f fd ps (spP K cls (fnP ps.length N.length m)):=by
 refine okX F Sc (fun vs H Q E h=>?_) fun cdv A outer s H vs Q E hr h=>?_
 . obtain ⟨S,xs,_,r,q⟩:=h
   unfold fnP at q
   split at q
   . rw [r.length]; assumption
   . exact q.elim
 . obtain ⟨S,xs,sS,r,q⟩:=h
   unfold fnP at q
   split at q
   . rename_i hl
     obtain ⟨t,ht,J⟩:=hbody cdv A outer s H E hr
     refine ⟨t,ht,?_⟩
     refine J (fun _=>none) H S (mi N.length xs) (start N vs) S H _ ⟨fun _=>[],aI.refl _,aI.refl _,sS,fun _ z=>.inl z,fun i s e=>?_,fun i j a h=>(nomatch h),fun i a h=>(nomatch h),?_⟩ ?_
     . obtain ⟨x,v,rfl,e1,rx⟩:=r.begin N i s e
       exact ⟨v,e1,rfl,rx⟩
     . unfold mi L2.start
       simp [r.length]
     . cases e:m (mi N.length xs) with
       | nx ρ'=>rw [e] at q; exact fun σ' S' H' I' s'=>q .non S' H' ⟨I'.s0,I'.gh,I'.sh,I'.new⟩ (by show Rep K S' _ _; unfold Rep; rfl)
       | bk ρ'=>rw [e] at q; exact q.elim
       | ct ρ'=>rw [e] at q; exact q.elim
       | bad=>rw [e] at q; exact q.elim
       | rt ρ' r=>
         rw [e] at q
         cases r with
         | al ys=>exact q.elim
         | sh y=>exact fun v σ' S' H' b' s' rr=>q v S' H' ⟨b'.s0,b'.gh,b'.sh,b'.new⟩ rr
         | fr ys=>exact fun v σ' S' H' b' s' rr=>q v S' H' ⟨b'.s0,b'.gh,b'.sh,b'.new⟩ rr
       | exc ρ' c fs=>
         rw [e] at q
         exact fun a C σ' S' H' I' s' x H2 g2=>q a C S' H2 ⟨I'.s0,I'.gh.trans g2,I'.sh.trans g2,I'.new⟩ (x.mono (aI.refl _) g2)
   . exact q.elim
noncomputable def wx (K:PySem.W.Frag):Sp:=fun vs H Q _=>∃ (a:Addr) (ns:List Int),vs = [.ref a] /\ SqL K H a (ns.map V.int) /\ ns.length <= 63 /\ ∀ H',Q (.bl true) H'
theorem DI {f:List PV -> OE} (h:∀ ns:List Int,ns.length <= 63 -> f [.lst (ns.map .int)] = .ok (.sh (.bl true))) (vs:List V) (H:Hp) (Q:VK) (E:XK) (q:wx K vs H Q E):spP K cls f vs H Q E:=by
 obtain ⟨a,ns,rfl,hS,hl,q⟩:=q
 refine ⟨H,[.lst (ns.map .int)],aI.refl _,.cons (by unfold Rep; exact ⟨a,_,rfl,hS,b8.ints⟩) .nil,?_⟩
 rw [h ns hl]
 intro v S' H' w r
 have:v = .bl true:=by have r':Rep K S' (.bl true) v:=r; unfold Rep at r'; exact r'
 subst this
 exact q H'
end
end L2.P
namespace L2.P
open PySem PySem.Spec PyProof.Rows L2 L2.E
section
variable {K:PySem.W.Frag} {cls:String -> Option Addr} {W:XW} {Av G S₀ S S' H H' B B':Hp} {ρ:ae} {σ:St} {Q:VK}
theorem u3 {x:PV} {v:V} (h:RdV K S H x v):decide (v = .non) = cu x:=by
 cases x with
 | non=>rw [jh h]; rfl
 | bl b=>rw [nQ h]; rfl
 | int b=>rw [dH h]; rfl
 | str b=>rw [jG h]; rfl
 | lst xs=>obtain ⟨p,vs,rfl,_⟩:=gp h; rfl
 | tup xs=>obtain ⟨p,vs,rfl,_⟩:=mf h; rfl
theorem rJ:JR K (fun x y H Q=>y = .non /\ Q (.bl (decide (x = .non))) H) sO:=by
 intro S H x y v u rr Q I hx hy e k
 unfold sO at e
 split at e
 . cases e
   exact ⟨jh hy,k _ S H (bf.refl I) (by rw [u3 hx]; exact mU)⟩
 . cases e
theorem wB:JR K (fun x y H Q=>y = .non /\ Q (.bl (!decide (x = .non))) H) tJ:=by
 intro S H x y v u rr Q I hx hy e k
 unfold tJ at e
 split at e
 . cases e
   exact ⟨jh hy,k _ S H (bf.refl I) (by rw [u3 hx]; exact mU)⟩
 . cases e
end
end L2.P
namespace L2
open PySem PySem.Spec PyProof.Rows
structure QE (X:Cx) (e:Expr) (t:TE):Prop where
 out:PE X e t
structure QA (X:Cx) (es:List Expr) (t:TA):Prop where
 out:PA X es t
structure QS (X:Cx) (st:Stmt) (t:TS):Prop where
 out:PS X st t
structure QSs (X:Cx) (st:List Stmt) (t:TS):Prop where
 out:PSs X st t
structure QT (X:Cx) (e:Expr) (t:TT):Prop where
 out:PT X e t
structure QW (X:Cx) (e:Expr) (t:TT):Prop where
 out:PW X e t
structure QI (X:Cx) (tg e:Expr) (t:TI):Prop where
 out:PI X tg e t
structure QG (X:Cx) (e:Expr) (t:TG):Prop where
 out:PG X e t
structure QO (X:Cx) (e:Option Expr) (t:TO):Prop where
 out:PO X e t
end L2
namespace L2
theorem qau (h:True:=by first | rfl | decide | exact .inl rfl | exact .inr rfl | exact .inr (.inl rfl) | exact .inr (.inr rfl) | assumption | (intro _; rfl) | with_unfolding_all rfl):True:=h
end L2
namespace L2.E
open PySem PySem.Spec PyProof.Rows L2
theorem xj {X:L2.Cx} {b:Bool} {j:Nat} {pos:PySem.Pos}:L2.QE X (PySem.Expr.Constant (PySem.Const.bool b) j pos) (L2.tC (L2.V.bl b)):=⟨L2.Jy ⟩
theorem ai {X:L2.Cx} {i:Int} {j:Nat} {pos:PySem.Pos}:L2.QE X (PySem.Expr.Constant (PySem.Const.int i) j pos) (L2.tC (L2.V.int i)):=⟨L2.Gn ⟩
theorem aL {X:L2.Cx} {x:PySem.Str} {j:Nat} {pos:PySem.Pos}:L2.QE X (PySem.Expr.Constant (PySem.Const.str x) j pos) (L2.tC (L2.V.str x)):=⟨L2.HZ ⟩
theorem cS {X:L2.Cx} {j:Nat} {pos:PySem.Pos}:L2.QE X (PySem.Expr.Constant PySem.Const.none j pos) (L2.tC L2.V.non):=⟨L2.Hu ⟩
theorem qv {X:L2.Cx} (h1:Nat) {x:PySem.Str} {pos:PySem.Pos} (h4:autoParam (X.N[h1]? = Option.some x) L2.qau._auto_1) (h5:autoParam (L2.Vis X.env.scope x) L2.qau._auto_1) (h6:autoParam ((x == PySem.Str.ofString "__debug__") = Bool.false) L2.qau._auto_1) (h7:autoParam ((x == PySem.Str.ofString "__classdict__") = Bool.false) L2.qau._auto_1):L2.QE X (PySem.Expr.Name x pos) (L2.yM h1):=⟨L2.pv h1 h4 h5 h6 h7⟩
theorem aZ {X:L2.Cx} {x:PySem.Str} {v:L2.V} {u:PySem.Value} {pos:PySem.Pos} (h5:L2.Gl X x) (h6:X.mg x = Option.some u) (h7:L2.RelV v u) (h8:autoParam ((x == PySem.Str.ofString "__debug__") = Bool.false) L2.qau._auto_1):L2.QE X (PySem.Expr.Name x pos) (L2.tC v):=⟨L2.Ef h5 h6 h7 h8⟩
theorem vp {X:L2.Cx} {x:PySem.Str} {v:L2.V} {u:PySem.Value} {pos:PySem.Pos} (h5:L2.Gl X x) (h6:X.mg x = Option.none) (h7:PySem.bootBuiltins x = Option.some u) (h8:L2.RelV v u) (h9:autoParam (x ≠ PySem.Str.ofString "__name__") L2.qau._auto_1) (h10:autoParam ((x == PySem.Str.ofString "__debug__") = Bool.false) L2.qau._auto_1):L2.QE X (PySem.Expr.Name x pos) (L2.tC v):=⟨L2.DJ h5 h6 h7 h8 h9 h10⟩
theorem Ha {X:L2.Cx} {a:PySem.Expr} {ta:L2.TE} {pos:PySem.Pos} (h4:L2.QE X a ta):L2.QE X (PySem.Expr.UnaryOp PySem.UnaryOp.Not a pos) (L2.CV ta):=⟨L2.Hn h4.out⟩
theorem nW {X:L2.Cx} {a:PySem.Expr} {ta:L2.TE} {pos:PySem.Pos} {op:PySem.UnaryOp} {r:L2.V -> L2.Hp -> L2.VK -> Prop} (h6:L2.UnR X (PySem.unaryOp op) r) (h7:L2.QE X a ta):L2.QE X (PySem.Expr.UnaryOp op a pos) (L2.tUn r ta):=⟨L2.Kd h6 h7.out⟩
theorem aC {X:L2.Cx} {a:PySem.Expr} {b:PySem.Expr} {ta:L2.TE} {tb:L2.TE} {pos:PySem.Pos} {op:PySem.Operator} {r:L2.R2} (h8:L2.OpR X (PySem.binaryOp op) r) (h9:L2.QE X a ta) (h10:L2.QE X b tb):L2.QE X (PySem.Expr.BinOp a op b pos) (L2.tOp r ta tb):=⟨L2.JH h8 h9.out h10.out⟩
theorem gw {X:L2.Cx} {a:PySem.Expr} {b:PySem.Expr} {ta:L2.TE} {tb:L2.TE} {pos:PySem.Pos} {op:PySem.CmpOp} {r:L2.R2} (h8:L2.OpR X (PySem.compareOp op) r) (h9:L2.QE X a ta) (h10:L2.QE X b tb) (h11:PySem.behindInMarks op b = Bool.false):L2.QE X (PySem.Expr.Compare a [op] [b] pos) (L2.tOp r ta tb):=⟨L2.DG h8 h9.out h10.out h11⟩
theorem Dq {X:L2.Cx} {a:PySem.Expr} {b:PySem.Expr} {c:PySem.Expr} {ta:L2.TE} {tb:L2.TE} {tc:L2.TE} {pos:PySem.Pos} {op:PySem.CmpOp} {op':PySem.CmpOp} {r:L2.R2} {r':L2.R2} (h12:L2.OpR X (PySem.compareOp op) r) (h13:L2.OpR X (PySem.compareOp op') r') (h14:L2.QE X a ta) (h15:L2.QE X b tb) (h16:L2.QE X c tc) (h17:autoParam (PySem.lastMarks [op,op'] [b,c] = Bool.false) L2.qau._auto_1):L2.QE X (PySem.Expr.Compare a [op,op'] [b,c] pos) (L2.uG r r' ta tb tc):=⟨L2.B3 h12 h13 h14.out h15.out h16.out h17⟩
theorem wN {X:L2.Cx} {a:PySem.Expr} {pos:PySem.Pos} {op:PySem.BoolOp} {t:L2.TE} (h5:L2.QE X a t):L2.QE X (PySem.Expr.BoolOp op [a] pos) t:=⟨L2.GY h5.out⟩
theorem yS {X:L2.Cx} {a:PySem.Expr} {b:PySem.Expr} {ta:L2.TE} {tb:L2.TE} {pos:PySem.Pos} {rest:List PySem.Expr} (h7:L2.QE X a ta) (h8:L2.QE X (PySem.Expr.BoolOp PySem.BoolOp.And (b ::rest) pos) tb):L2.QE X (PySem.Expr.BoolOp PySem.BoolOp.And (a ::b ::rest) pos) (L2.CI ta tb):=⟨L2.HV h7.out h8.out⟩
theorem JZ {X:L2.Cx} {a:PySem.Expr} {b:PySem.Expr} {ta:L2.TE} {tb:L2.TE} {pos:PySem.Pos} {rest:List PySem.Expr} (h7:L2.QE X a ta) (h8:L2.QE X (PySem.Expr.BoolOp PySem.BoolOp.Or (b ::rest) pos) tb):L2.QE X (PySem.Expr.BoolOp PySem.BoolOp.Or (a ::b ::rest) pos) (L2.Il ta tb):=⟨L2.Ke h7.out h8.out⟩
theorem cW {X:L2.Cx} {a:PySem.Expr} {b:PySem.Expr} {ta:L2.TE} {tb:L2.TE} {pos:PySem.Pos} {tA:L2.TT} {c:PySem.Expr} (h8:L2.QT X c tA) (h9:L2.QE X a ta) (h10:L2.QE X b tb):L2.QE X (PySem.Expr.IfExp c a b pos) (L2.tIf tA ta tb):=⟨L2.Cb h8.out h9.out h10.out⟩
theorem aQ {X:L2.Cx} {es:List PySem.Expr} {t:L2.TA} {pos:PySem.Pos} (h4:L2.QA X es t):L2.QE X (PySem.Expr.List es pos) (L2.Eo t):=⟨L2.GX h4.out⟩
theorem dq {X:L2.Cx} {es:List PySem.Expr} {t:L2.TA} {pos:PySem.Pos} {x1:Nat} (h5:L2.QA X es t):L2.QE X (PySem.Expr.Tuple es x1 pos) (L2.Ie t):=⟨L2.GL h5.out⟩
theorem yw {X:L2.Cx} {e:PySem.Expr} {te:L2.TE} {lo:Option PySem.Expr} {hi:Option PySem.Expr} {tl:L2.TO} {th:L2.TO} {pos:PySem.Pos} {p2:PySem.Pos} {r:L2.V -> Option Int -> Option Int -> L2.Hp -> L2.VK -> Prop} (h10:L2.SlR X r) (h11:L2.QE X e te) (h12:L2.QO X lo tl) (h13:L2.QO X hi th):L2.QE X (PySem.Expr.Subscript e (PySem.Expr.Slice lo hi Option.none p2) pos) (L2.tSl r te tl th):=⟨L2.Cr h10 h11.out h12.out h13.out⟩
theorem Kf {X:L2.Cx} {a:PySem.Expr} {b:PySem.Expr} {ta:L2.TE} {tb:L2.TE} {pos:PySem.Pos} {r:L2.R2} (h7:L2.IxR X r) (h8:L2.QE X a ta) (h9:L2.QE X b tb) (h10:L2.wj b):L2.QE X (PySem.Expr.Subscript a b pos) (L2.tOp r ta tb):=⟨L2.Kp h7 h8.out h9.out h10⟩
theorem ni {X:L2.Cx} {scope:PySem.Scope} {cl:List (PySem.Str × PySem.Addr)} {M:List PySem.Str} {ι:List Nat} {x:PySem.Str} {elt:PySem.Expr} {iter:PySem.Expr} {px:PySem.Pos} {pos:PySem.Pos} {wi:L2.TI} {te:L2.TE} (h12:L2.E.nv X scope cl M ι x) (h13:X.calm = Bool.true) (h14:L2.QI X (PySem.Expr.Name x px) iter wi) (h15:∀ (C:PySem.Addr) (s₀:PySem.Shared) (H₀:L2.Hp) (ex:List PySem.Addr),L2.QE (L2.E.blk X scope cl (M ++ [x]) C s₀ H₀ ex) elt te) (h16:autoParam (∀ (v:PySem.Value),PySem.foldedSetIterable iter X.env v = Pure.pure v) L2.qau._auto_1):L2.QE X (PySem.Expr.ListComp elt [PySem.Comprehension.mk (PySem.Expr.Name x px) iter [] 0] scope pos) (L2.E.sF wi ι te):=⟨L2.E.EO h12 h13 h14.out (fun z0 z1 z2 z3=>(h15 z0 z1 z2 z3).out) h16⟩
theorem CS {X:L2.Cx} {k:Nat} {f:PySem.Addr} {fd:PySem.FuncData} {ps:List PySem.Str} {sp:L2.Sp} {dvs:List L2.V} {ds:List PySem.Value} {W:L2.E.XW} {x:PySem.Str} {p:PySem.Pos} {pos:PySem.Pos} {e:PySem.Expr} {es:List PySem.Expr} {t:L2.TA} (h15:L2.cB X.prog X.w X.K X.mg X.base (L2.E.CXE X.prog X.w) k f fd ps sp) (h16:L2.ie k X.A) (h17:L2.Gl X x) (h18:X.mg x = Option.some (PySem.Value.ref f)) (h19:PySem.W.keepIn X.K (PySem.Value.ref f) = Bool.true) (h20:L2.Binds X.K fd ps ds) (h21:L2.Vals dvs ds) (h22:L2.E.Thr X W) (h23:L2.QA X (e ::es) t) (h24:autoParam ((x == PySem.Str.ofString "__debug__") = Bool.false) L2.qau._auto_1) (h25:autoParam (PySem.starEach (e ::es) X.env = (Bool.false,PySem.eval e X.env) ::PySem.starEach es X.env) L2.qau._auto_1) (h26:autoParam ((List.any (PySem.backTo pos (PySem.starEach es X.env)) fun x=>x.fst) = Bool.false) L2.qau._auto_1):L2.QE X (PySem.Expr.Call (PySem.Expr.Name x p) (e ::es) [] pos) (L2.E.qk sp dvs W t):=⟨L2.E.Cy h15 h16 h17 h18 h19 h20 h21 h22 h23.out h24 h25 h26⟩
theorem mq {X:L2.Cx} {x:PySem.Str} {p:PySem.Pos} {pos:PySem.Pos} {e:PySem.Expr} {es:List PySem.Expr} {t:L2.TA} {id:String} {r:List L2.V -> L2.Hp -> L2.VK -> Prop} (h9:L2.mx X (PySem.Value.builtin id) r) (h10:L2.Gl X x) (h11:X.mg x = Option.none) (h12:PySem.bootBuiltins x = Option.some (PySem.Value.builtin id)) (h13:L2.QA X (e ::es) t) (h14:autoParam (x ≠ PySem.Str.ofString "__name__") L2.qau._auto_1) (h15:autoParam ((x == PySem.Str.ofString "__debug__") = Bool.false) L2.qau._auto_1) (h16:autoParam (PySem.starEach (e ::es) X.env = (Bool.false,PySem.eval e X.env) ::PySem.starEach es X.env) L2.qau._auto_1) (h17:autoParam ((List.any (PySem.backTo pos (PySem.starEach es X.env)) fun x=>x.fst) = Bool.false) L2.qau._auto_1):L2.QE X (PySem.Expr.Call (PySem.Expr.Name x p) (e ::es) [] pos) (L2.tCB r t):=⟨L2.Dc h9 h10 h11 h12 h13.out h14 h15 h16 h17⟩
theorem gi {X:L2.Cx} {x:PySem.Str} {p:PySem.Pos} {pos:PySem.Pos} {e:PySem.Expr} {es:List PySem.Expr} {t:L2.TA} {T:String} {r:List L2.V -> L2.Hp -> L2.VK -> Prop} (h9:L2.mx X (PySem.Value.type T) r) (h10:L2.Gl X x) (h11:X.mg x = Option.none) (h12:PySem.bootBuiltins x = Option.some (PySem.Value.type T)) (h13:L2.QA X (e ::es) t) (h14:autoParam (x ≠ PySem.Str.ofString "__name__") L2.qau._auto_1) (h15:autoParam ((x == PySem.Str.ofString "__debug__") = Bool.false) L2.qau._auto_1) (h16:autoParam (PySem.starEach (e ::es) X.env = (Bool.false,PySem.eval e X.env) ::PySem.starEach es X.env) L2.qau._auto_1) (h17:autoParam ((List.any (PySem.backTo pos (PySem.starEach es X.env)) fun x=>x.fst) = Bool.false) L2.qau._auto_1):L2.QE X (PySem.Expr.Call (PySem.Expr.Name x p) (e ::es) [] pos) (L2.tCB r t):=⟨L2.Bs h9 h10 h11 h12 h13.out h14 h15 h16 h17⟩
theorem FE {X:L2.Cx} {o:PySem.Expr} {e:PySem.Expr} {es:List PySem.Expr} {to:L2.TE} {t:L2.TA} {name:PySem.Str} {apos:PySem.Pos} {cpos:PySem.Pos} {T:String} {id:String} {r:L2.V -> List L2.V -> L2.Hp -> L2.VK -> Prop} (h12:PySem.PlainAttrs T) (h13:PySem.Slot T name id) (h14:PySem.typeOf (PySem.Value.builtin id) = Pure.pure (PySem.Value.type "method_descriptor")) (h15:L2.MtR X id r) (h16:L2.QE X o to) (h17:L2.QA X (e ::es) t) (h18:autoParam (PySem.attributeBase o name X.env (PySem.eval o X.env) = PySem.eval o X.env) L2.qau._auto_1) (h19:autoParam ((((List.all (PySem.backTo cpos (PySem.starEach (e ::es) X.env)) fun x=>!x.fst) && List.all (PySem.backToKw cpos (PySem.keywordEach [] X.env)) fun x=>Option.isSome x.fst) && Decidable.decide ((List.length (e ::es) + List.length ([]:List Keyword) + if List.isEmpty ([]:List Keyword) = Bool.true then 0 else 1) < 30)) = Bool.true) L2.qau._auto_1) (h20:autoParam ((apos.endLine == cpos.line) = Bool.true) L2.qau._auto_1) (h21:autoParam (PySem.starEach (e ::es) X.env = (Bool.false,PySem.eval e X.env) ::PySem.starEach es X.env) L2.qau._auto_1) (h22:autoParam ((List.any (PySem.backTo cpos (PySem.starEach es X.env)) fun x=>x.fst) = Bool.false) L2.qau._auto_1):L2.QE X (PySem.Expr.Call (PySem.Expr.Attribute o name apos) (e ::es) [] cpos) (L2.tBM X.K T r to t):=⟨L2.Jj h12 h13 h14 h15 h16.out h17.out h18 h19 h20 h21 h22⟩
theorem CQ {X:L2.Cx} {o:PySem.Expr} {to:L2.TE} {name:PySem.Str} {apos:PySem.Pos} {cpos:PySem.Pos} {T:String} {id:String} {r:L2.V -> List L2.V -> L2.Hp -> L2.VK -> Prop} (h9:PySem.PlainAttrs T) (h10:PySem.Slot T name id) (h11:PySem.typeOf (PySem.Value.builtin id) = Pure.pure (PySem.Value.type "method_descriptor")) (h12:L2.MtR X id r) (h13:L2.QE X o to) (h14:autoParam (PySem.attributeBase o name X.env (PySem.eval o X.env) = PySem.eval o X.env) L2.qau._auto_1) (h15:autoParam ((apos.endLine == cpos.line) = Bool.true) L2.qau._auto_1):L2.QE X (PySem.Expr.Call (PySem.Expr.Attribute o name apos) [] [] cpos) (L2.IT X.K T r to):=⟨L2.Gx h9 h10 h11 h12 h13.out h14 h15⟩
theorem Ac {X:L2.Cx}:L2.QO X Option.none L2.wA:=⟨L2.EL ⟩
theorem zQ {X:L2.Cx} {e:PySem.Expr} {te:L2.TE} (h3:L2.QE X e te):L2.QO X (Option.some e) (L2.Dl te):=⟨L2.EV h3.out⟩
theorem au {X:L2.Cx}:L2.QA X [] L2.kD:=⟨L2.Hf ⟩
theorem aa {X:L2.Cx} {e:PySem.Expr} {es:List PySem.Expr} {te:L2.TE} {t:L2.TA} (h5:L2.QE X e te) (h6:L2.QA X es t) (h7:autoParam (L2.E.isStar e = Bool.false) L2.qau._auto_1):L2.QA X (e ::es) (L2.jd te t):=⟨L2.E.CJ h5.out h6.out h7⟩
theorem kj {X:L2.Cx} {a:PySem.Expr} {b:PySem.Expr} {ta:L2.TE} {tb:L2.TE} {pos:PySem.Pos} {op:PySem.CmpOp} {r:L2.R2} (h8:L2.OpR X (PySem.compareOp op) r) (h9:L2.QE X a ta) (h10:L2.QE X b tb) (h11:PySem.behindInMarks op b = Bool.false):L2.QT X (PySem.Expr.Compare a [op] [b] pos) (L2.uQ (L2.tOp r ta tb)):=⟨L2.Eb h8 h9.out h10.out h11⟩
theorem kL {X:L2.Cx} {a:PySem.Expr} {b:PySem.Expr} {c:PySem.Expr} {ta:L2.TE} {tb:L2.TE} {tc:L2.TE} {pos:PySem.Pos} {op:PySem.CmpOp} {op':PySem.CmpOp} {r:L2.R2} {r':L2.R2} (h12:L2.OpR X (PySem.compareOp op) r) (h13:L2.OpR X (PySem.compareOp op') r') (h14:L2.QE X a ta) (h15:L2.QE X b tb) (h16:L2.QE X c tc) (h17:autoParam (PySem.lastMarks [op,op'] [b,c] = Bool.false) L2.qau._auto_1):L2.QT X (PySem.Expr.Compare a [op,op'] [b,c] pos) (L2.uQ (L2.uG r r' ta tb tc)):=⟨L2.C3 h12 h13 h14.out h15.out h16.out h17⟩
theorem Hw {X:L2.Cx} {a:PySem.Expr} {pos:PySem.Pos} {tA:L2.TT} (h4:L2.QT X a tA):L2.QT X (PySem.Expr.UnaryOp PySem.UnaryOp.Not a pos) (L2.Gy tA):=⟨L2.IS h4.out⟩
theorem cG {X:L2.Cx} {a:PySem.Expr} {ta:L2.TE} (h3:L2.QE X a ta) (h4:∀ (whole:PySem.Sem PySem.Value),
 PySem.isTrue a X.env whole = do
  let v <- whole
  PySem.standAt (PySem.Expr.pos a)
  PySem.holding [v] (PySem.truthy v)):L2.QT X a fun σ H Q=>ta σ H fun x H'=>∃ k,L2.y6 X.K x H' k /\ Q k H':=⟨L2.BH h3.out h4⟩
theorem nT {X:L2.Cx} {e:PySem.Expr} {t:L2.TT} (h3:L2.QW X e t):L2.QT X e t:=⟨L2.PW.pt h3.out⟩
theorem lB {X:L2.Cx} {a:PySem.Expr} {pos:PySem.Pos} {tA:L2.TT} (h4:L2.QT X a tA):L2.QW X (PySem.Expr.BoolOp PySem.BoolOp.And [a] pos) tA:=⟨L2.E8 h4.out⟩
theorem vD {X:L2.Cx} {a:PySem.Expr} {pos:PySem.Pos} {tA:L2.TT} (h4:L2.QT X a tA):L2.QW X (PySem.Expr.BoolOp PySem.BoolOp.Or [a] pos) tA:=⟨L2.Gz h4.out⟩
theorem lI {X:L2.Cx} {a:PySem.Expr} {b:PySem.Expr} {pos:PySem.Pos} {tA:L2.TT} {tB':L2.TT} {rest:List PySem.Expr} (h7:L2.QT X a tA) (h8:L2.QW X (PySem.Expr.BoolOp PySem.BoolOp.And (b ::rest) pos) tB'):L2.QW X (PySem.Expr.BoolOp PySem.BoolOp.And (a ::b ::rest) pos) (L2.GN tA tB'):=⟨L2.Iu h7.out h8.out⟩
theorem zy {X:L2.Cx} {a:PySem.Expr} {b:PySem.Expr} {pos:PySem.Pos} {tA:L2.TT} {tB':L2.TT} {rest:List PySem.Expr} (h7:L2.QT X a tA) (h8:L2.QW X (PySem.Expr.BoolOp PySem.BoolOp.Or (b ::rest) pos) tB'):L2.QW X (PySem.Expr.BoolOp PySem.BoolOp.Or (a ::b ::rest) pos) (L2.tOr tA tB'):=⟨L2.Ki h7.out h8.out⟩
theorem mK {X:L2.Cx} {tg:PySem.Expr} {a:PySem.Expr} {ta:L2.TA} {p:PySem.Pos} {pos:PySem.Pos} (h6:L2.Gl X (PySem.Str.ofString "range")) (h7:X.mg (PySem.Str.ofString "range") = Option.none) (h8:L2.QA X [a] ta) (h9:autoParam (PySem.starEach [a] X.env = [(Bool.false,PySem.eval a X.env)]) L2.qau._auto_1):L2.QI X tg (PySem.Expr.Call (PySem.Expr.Name (PySem.Str.ofString "range") p) [a] [] pos) (L2.Aw ta):=⟨L2.A3 h6 h7 h8.out h9⟩
theorem nK {X:L2.Cx} {tg:PySem.Expr} {l:PySem.Expr} {tl:L2.TE} (h4:L2.QE X l tl):L2.QI X tg l (L2.wZ X.K tl):=⟨L2.EZ h4.out⟩
theorem IB {X:L2.Cx} {tg:PySem.Expr} {l:PySem.Expr} {tl:L2.TE} (h4:L2.QE X l tl):L2.QI X tg l (L2.Im X.K tl):=⟨L2.Ir h4.out⟩
theorem Gp {X:L2.Cx} {pos:PySem.Pos} {i:Nat} {x:PySem.Str} {e:PySem.Expr} {te:L2.TE} {pos':PySem.Pos} (h7:List.Nodup X.N) (h8:X.N[i]? = Option.some x) (h9:L2.Loc X.env.scope x) (h10:L2.QE X e te) (h11:autoParam (PySem.swapsWith e (Option.some (PySem.Expr.Name x pos')) pos.line X.env = Pure.pure Bool.false) L2.qau._auto_1) (h12:autoParam (X.fn x = Bool.true \/ List.lookup x X.env.scope.names = Option.some PySem.NameKind.local) L2.qau._auto_1):L2.QS X (PySem.Stmt.Assign [PySem.Expr.Name x pos'] e pos) (L2.ub te (L2.kE i)):=⟨L2.Hr h7 h8 h9 h10.out h11 h12⟩
theorem wq {X:L2.Cx} {pos:PySem.Pos} {tg:PySem.Expr} {e:PySem.Expr} {te:L2.TE} {g:L2.TG} (h6:L2.QE X e te) (h7:L2.QG X tg g) (h8:autoParam (PySem.swapsWithSole [tg] e pos.line X.env = Pure.pure Bool.false) L2.qau._auto_1) (h9:autoParam (PySem.swappedStores [tg] e X.env = Pure.pure Option.none) L2.qau._auto_1) (h10:autoParam (List.map (fun x=>x.snd) (PySem.assignEach [tg] X.env) = [PySem.assign tg X.env]) L2.qau._auto_1):L2.QS X (PySem.Stmt.Assign [tg] e pos) (L2.ub te g):=⟨L2.HD h6.out h7.out h8 h9 h10⟩
theorem aT {X:L2.Cx} {t:L2.TS} {u:L2.TS} {pos:PySem.Pos} {c:PySem.Expr} {a:List PySem.Stmt} {b:List PySem.Stmt} {tc:L2.TT} (h8:L2.QT X c tc) (h9:L2.QSs X a t) (h10:L2.QSs X b u):L2.QS X (PySem.Stmt.If c a b pos) (L2.DP tc t u):=⟨L2.Jv h8.out h9.out h10.out⟩
theorem az {X:L2.Cx} {e:PySem.Expr} {te:L2.TE} {pos:PySem.Pos} (h4:L2.QE X e te):L2.QS X (PySem.Stmt.Return (Option.some e) pos) (L2.E4 te):=⟨L2.Hc h4.out⟩
theorem Ab {X:L2.Cx} {e:PySem.Expr} {te:L2.TE} {pos:PySem.Pos} (h4:L2.QE X e te) (h5:autoParam (PySem.swapsWith e Option.none pos.line X.env = Pure.pure Bool.false) L2.qau._auto_1):L2.QS X (PySem.Stmt.Expr e pos) (L2.tw te):=⟨L2.ET h4.out h5⟩
theorem ud {X:L2.Cx} {pos:PySem.Pos} {c:PySem.Expr} {body:List PySem.Stmt} {tc:L2.TT} {tb:L2.TS} (h6:PySem.PassesOwn (PySem.model X.prog X.w) X.A X.env X.xe) (h7:L2.QT X c tc) (h8:L2.QSs X body tb):L2.QS X (PySem.Stmt.While c body [] pos) (L2.zo tc tb):=⟨L2.BR h6 h7.out h8.out⟩
theorem ql {X:L2.Cx} {tg:PySem.Expr} {iter:PySem.Expr} {body:List PySem.Stmt} {wi:L2.TI} {g:L2.TG} {tb:L2.TS} {pos:PySem.Pos} (h8:PySem.PassesOwn (PySem.model X.prog X.w) X.A X.env X.xe) (h9:X.calm = Bool.true) (h10:L2.QI X tg iter wi) (h11:L2.QG X tg g) (h12:L2.QSs X body tb) (h13:autoParam (∀ (x:PySem.Value),PySem.foldedSetIterable iter X.env x = Pure.pure x) L2.qau._auto_1):L2.QS X (PySem.Stmt.For tg iter body [] pos) (L2.BL wi g tb):=⟨L2.GV h8 h9 h10.out h11.out h12.out h13⟩
theorem kY {X:L2.Cx} {pos:PySem.Pos} {i:Nat} {x:PySem.Str} (h4:List.Nodup X.N) (h5:X.N[i]? = Option.some x) (h6:L2.Loc X.env.scope x) (h7:autoParam (X.fn x = Bool.true \/ List.lookup x X.env.scope.names = Option.some PySem.NameKind.local) L2.qau._auto_1):L2.QG X (PySem.Expr.Name x pos) (L2.kE i):=⟨L2.EN h4 h5 h6 h7⟩
theorem aF {X:L2.Cx}:L2.QSs X [] L2.Cd:=⟨L2.Eg ⟩
theorem av {X:L2.Cx} {st:PySem.Stmt} {t:L2.TS} (h3:L2.QS X st t):L2.QSs X [st] t:=⟨L2.E3 h3.out⟩
theorem aj {X:L2.Cx} {st:PySem.Stmt} {rest:List PySem.Stmt} {t:L2.TS} {u:L2.TS} (h5:L2.QS X st t) (h6:L2.QSs X rest u):L2.QSs X (st ::rest) (L2.Ib t u):=⟨L2.DC h5.out h6.out⟩
end L2.E
namespace L2.P
open PySem PySem.Spec PyProof.Rows L2 L2.E
theorem gb {K:PySem.W.Frag} {cls:String -> Option Addr} {P:Program} {w:World} {mg:Str -> Option Value} {base:Heap} {x qual:Str} {st:Stmt} {f:Addr} {fd:FuncData} {N ps:List Str} {k:Nat} {m:ae -> OS} (F:Fun K x qual st f fd) (Sc:aV N ps (aA st))
  (hbody:∀ (cdv:Value) (A:Around) (outer:List Env) (s:Shared) (H:Hp) (E:XK),ie k (A.deeper (envOfC qual (aA st) s.heap.objs.size f cdv)) ->
    ∃ t,QSs (rA (CXE P w) P w K mg base N qual (aA st) f cdv A outer s H E) (dJ st) t /\ JS K cls (fun C a _ H=>∀ H',aI H H' -> E C a H') t m):cB P w K mg base (CXE P w) (k + 1) f fd ps (spP K cls (fnP ps.length N.length m)):=
 L3 F Sc fun cdv A outer s H E hr=>let ⟨t,h1,h2⟩:=hbody cdv A outer s H E hr; ⟨t,h1.out,h2⟩
end L2.P
namespace L2.E
open PySem PySem.Spec PyProof.Rows L2
end L2.E
namespace L2.P
open PySem PySem.Spec PyProof.Rows L2 L2.E
end L2.P
namespace L2.E
open PySem PySem.Spec PyProof.Rows L2
section
variable {prog:Program} {w:World} {A:Around} {E:Value -> Shared -> Prop} {s:Shared} {K:PySem.W.Frag} {x C:Addr} {name:Str} {v:Value}
open PySem.W in
open PySem.W in
end
noncomputable def Ku (a C:Addr) (dx:Option Addr) (h:Heap):Prop:=∃ o t,h.get? a = some o /\ o.cls = .ref C /\ o.dict = dx /\ o.data = .fields #[.ref t,.none,.none,.none,.bool false,.none]
theorem Ku.exc {a C:Addr} {dx:Option Addr} {h:Heap} (x:Ku a C dx h):HS a C dx h:=let ⟨o,t,e,c,d,f⟩:=x; ⟨o,_,e,c,d,f,rfl⟩
end L2.E
namespace L2.E
open PySem PySem.Spec PyProof.Rows L2
section
variable {prog:Program} {w:World} {A:Around} {E:Value -> Shared -> Prop} {s:Shared} {K:PySem.W.Frag} {x C:Addr} {name:Str} {v:Value} {tk:Tok}
open PySem.W in
end
section
variable {prog:Program} {w:World} {A:Around} {E:Value -> Shared -> Prop} {hh:Heap} {g:Array GenState} {d:Drawn} {t:Nat} {os:OsState} {K:PySem.W.Frag} {x C:Addr} {name:Str} {v:Value} {tk:Tok}
open PySem.W in
end
section
variable {prog:Program} {w:World} {A:Around} {E:Value -> Shared -> Prop} {s:Shared} {K:PySem.W.Frag} {x C:Addr} {name:Str} {v:Value}
open PySem.W in
end
end L2.E
namespace L2.E
open PySem PySem.Spec PyProof.Rows L2
section
variable {prog:Program} {w:World} {A:Around} {E:Value -> Shared -> Prop} {h:Heap} {g:Array GenState} {d:Drawn} {t:Nat} {os:OsState} {K:PySem.W.Frag}
variable {nm q:Str} {C N:Addr} {bs bm bmB:List Value} {hdct:Bool} {sn:List Str} {sub:List Value} {ab:Bool} {col:Option Bool} {dd:Option Addr} {k0 k1 k2 k3 k5:Option Value} {B newId initId:String}
open PySem.W in
open PySem.W in
end
end L2.E
namespace L2.E
open PySem PySem.Spec PyProof.Rows L2
theorem vN {X:Cx} {o i:Expr} {to ti:TE} {t:D6} {pos:Pos} (ho:QE X o to) (hi:QE X i ti) (hs:IC X t)
  (ha:∀ v,assign (.Subscript o i pos) X.env v = (do
    let ov <- holding [v] (eval o X.env)
    let iv <- holding [v,ov] (eval i X.env)
    standAt pos
    holding [v,ov,iv] (setItem ov iv v)
    release [v,ov,iv] []):=by intro _; rfl):QG X (.Subscript o i pos) (IG to ti t):=⟨GA ho.out hi.out hs ha⟩
end L2.E
namespace L2.P
open PySem PySem.Spec PyProof.Rows L2 L2.E
end L2.P
namespace L2.P
open PySem
inductive Stp where
 | ix (k:Nat) | fd (f:Str)
noncomputable def o3:List Str -> List OV -> Str -> Option OV
 | k ::ks,t ::ts,f=>if k = f then some t else o3 ks ts f
 | _,_,_=>none
noncomputable def uO:List Str -> List OV -> Str -> OV -> List OV
 | k ::ks,t ::ts,f,u=>if k = f then u ::ts else t ::uO ks ts f u
 | _,ts,_,_=>ts
noncomputable def OV.at1:OV -> Stp -> Option OV
 | .ol ts,.ix k=>ts[k]?
 | .ob _ ks ts,.fd f=>o3 ks ts f
 | _,_=>none
noncomputable def OV.jS:OV -> Stp -> OV -> OV
 | .ol ts,.ix k,u=>.ol (ts.set k u)
 | .ob c ks ts,.fd f,u=>.ob c ks (uO ks ts f u)
 | t,_,_=>t
noncomputable def OV.get:OV -> List Stp -> Option OV
 | t,[]=>some t
 | t,s ::π=>(t.at1 s).bind fun u=>u.get π
noncomputable def OV.put:OV -> List Stp -> OV -> OV
 | _,[],u=>u
 | t,s ::π,u=>match t.at1 s with
   | some t'=>t.jS s (t'.put π u)
   | none=>t
noncomputable def slT:Sl -> Option OV
 | .tr _ t=>some t
 | .bo t=>some t
 | _=>none
noncomputable def fO (i:Nat) (ρ:ae):Option OV:=match ρ[i]? with
 | some (some s)=>slT s
 | _=>none
abbrev MP:=ae -> Option (List Stp)
noncomputable def aH:MP:=fun _=>some []
noncomputable def pIx (i:Nat) (mp:MP) (mk:ae -> OE):MP:=fun ρ=>match fO i ρ with
 | some t=>(match mp ρ with
   | some π=>(match t.get π with
     | some (.ol ts)=>(match mk ρ with
       | .ok r=>(match r.pv with
         | .int k=>(ixP ts.length k).map fun j=>π ++ [.ix j]
         | _=>none)
       | _=>none)
     | _=>none)
   | none=>none)
 | none=>none
noncomputable def subAt (i:Nat) (mp:MP) (ρ:ae):Option OV:=match fO i ρ with
 | some t=>(match mp ρ with
   | some π=>t.get π
   | none=>none)
 | none=>none
noncomputable def pFd (i:Nat) (mp:MP) (f:Str) (ok:String -> Bool):MP:=fun ρ=>match subAt i mp ρ with
 | some (.ob c ks ts)=>if (ok c && (o3 ks ts f).isSome) = true then (mp ρ).map fun π=>π ++ [.fd f] else none
 | _=>none
noncomputable def tU:List OV -> Option (List PV)
 | []=>some []
 | .sh x ::r=>(tU r).map (x ::·)
 | _ ::_=>none
@[simp] theorem vn (xs:List PV):tU (xs.map .sh) = some xs:=by
  induction xs with
  | nil=>rfl
  | cons x xs ih=>show (tU (xs.map .sh)).map (x ::·) = _; rw [ih]; rfl
noncomputable def cX (i:Nat) (mp:MP):ae -> OE:=fun ρ=>match subAt i mp ρ with
 | some (.sh x)=>.ok (.sh x)
 | some (.ol ts)=>(match tU ts with
   | some xs=>.ok (.al xs)
   | none=>.bad)
 | _=>.bad
noncomputable def dB (i:Nat) (mp:MP):ae -> OT:=fun ρ=>match subAt i mp ρ with
 | some (.ol ts)=>.ok (!ts.isEmpty)
 | _=>.bad
noncomputable def gd (i:Nat) (mp:MP):ae -> OE:=fun ρ=>match subAt i mp ρ with
 | some (.ol ts)=>.ok (.sh (.int ts.length))
 | _=>.bad
inductive OD where
 | ok (t:OV) | exc (c:String) (fs:XF) | bad
inductive ODs where
 | ok (ts:List OV) | exc (c:String) (fs:XF) | bad
noncomputable def mD (me:ae -> OE):ae -> OD:=fun ρ=>match me ρ with
 | .ok (.sh x)=>.ok (.sh x)
 | .ok (.fr xs)=>.ok (.ol (xs.map .sh))
 | .ok (.al _)=>.bad
 | .exc c fs=>.exc c fs
 | .bad=>.bad
noncomputable def mDn:ae -> ODs:=fun _=>.ok []
noncomputable def mDc (md:ae -> OD) (mr:ae -> ODs):ae -> ODs:=fun ρ=>match md ρ with
 | .ok t=>(match mr ρ with
   | .ok ts=>.ok (t ::ts)
   | .exc c fs=>.exc c fs
   | .bad=>.bad)
 | .exc c fs=>.exc c fs
 | .bad=>.bad
noncomputable def mDl (mr:ae -> ODs):ae -> OD:=fun ρ=>match mr ρ with
 | .ok ts=>if ts.length <= lim then .ok (.ol ts) else .bad
 | .exc c fs=>.exc c fs
 | .bad=>.bad
noncomputable def my (i:Nat) (md:ae -> OD):ae -> OS:=fun ρ=>match md ρ with
 | .ok t=>.nx (ρ.set i (some (.tr false t)))
 | .exc c fs=>.exc ρ c fs
 | .bad=>.bad
noncomputable def tY (i:Nat) (mp:MP) (ρ:ae) (k:OV -> (OV -> ae) -> OS):OS:=match ρ[i]? with
 | some (some (.tr io t))=>(match mp ρ with
   | some π=>(match t.get π with
     | some u=>k u fun u'=>ρ.set i (some (.tr io (t.put π u')))
     | none=>.bad)
   | none=>.bad)
 | _=>.bad
noncomputable def cb (i:Nat) (mp:MP) (md:ae -> OD):ae -> OS:=fun ρ=>tY i mp ρ fun u put=>match u with
 | .ol ts=>(match md ρ with
   | .ok x=>if ts.length < lim then .nx (put (.ol (ts ++ [x]))) else .bad
   | .exc c fs=>.exc ρ c fs
   | .bad=>.bad)
 | _=>.bad
noncomputable def oV (i:Nat) (mp:MP) (mk:ae -> OE) (md:ae -> OD):ae -> OS:=fun ρ=>match md ρ with
 | .ok x=>tY i mp ρ fun u put=>(match u with
   | .ol ts=>(mk ρ).bT ρ fun r=>(match r.pv with
     | .int k=>(match ixP ts.length k with
       | some j=>.nx (put (.ol (ts.set j x)))
       | none=>.bad)
     | _=>.bad)
   | _=>.bad)
 | .exc c fs=>.exc ρ c fs
 | .bad=>.bad
noncomputable def Cg (i:Nat) (mp:MP) (f:Str) (okc:String -> Bool) (md:ae -> OD):ae -> OS:=fun ρ=>match md ρ with
 | .ok x=>tY i mp ρ fun u put=>(match u with
   | .ob c ks ts=>if (okc c && decide (ks.length < 1000)) = true then (if ks.contains f = true then .nx (put (.ob c ks (uO ks ts f x))) else .nx (put (.ob c (ks ++ [f]) (ts ++ [x])))) else .bad
   | _=>.bad)
 | .exc c fs=>.exc ρ c fs
 | .bad=>.bad
inductive OX where
 | ok (ρ:ae) (s:Sl) | exc (ρ:ae) (c:String) (fs:XF) | bad
noncomputable def slO:OV -> Sl
 | .sh x=>.sh x
 | t=>.tr false t
noncomputable def pS (i:Nat) (mp:MP):ae -> OX:=fun ρ=>match ρ[i]? with
 | some (some (.tr io t))=>(match mp ρ with
   | some π=>(match t.get π with
     | some (.ol ts)=>(match ts.getLast? with
       | some x=>.ok (ρ.set i (some (.tr io (t.put π (.ol ts.dropLast))))) (slO x)
       | none=>.bad)
     | _=>.bad)
   | none=>.bad)
 | _=>.bad
noncomputable def nio:Sl -> Bool
 | .tr true _=>false
 | .bo _=>false
 | _=>true
noncomputable def jb (i:Nat) (m:ae -> OX):ae -> OS:=fun ρ=>match m ρ with
 | .ok ρ' s=>if nio s then .nx (ρ'.set i (some s)) else .bad
 | .exc ρ' c fs=>.exc ρ' c fs
 | .bad=>.bad
noncomputable def DV (neg:Bool) (m:ae -> OX) (a b:ae -> OS):ae -> OS:=fun ρ=>match m ρ with
 | .ok ρ' (.sh x)=>(match sJ x with
   | some k=>if (k != neg) = true then a ρ' else b ρ'
   | none=>.bad)
 | .ok _ _=>.bad
 | .exc ρ' c fs=>.exc ρ' c fs
 | .bad=>.bad
mutual
noncomputable def pvO:OV -> Option PV
 | .sh x=>some x
 | .ol ts=>(uz ts).map .lst
 | .ob _ _ _=>none
 | .di _=>none
 | .dt _=>none
noncomputable def uz:List OV -> Option (List PV)
 | []=>some []
 | t ::ts=>(pvO t).bind fun x=>(uz ts).map (x ::·)
end
noncomputable def pd (i:Nat) (ρ:ae):ae:=match ρ[i]? with
 | some (some (.tr false t))=>(match pvO t with
   | some x=>ρ.set i (some (.sh x))
   | none=>ρ)
 | _=>ρ
noncomputable def n8 (i:Nat) (m:ae -> OS):ae -> OS:=fun ρ=>m (pd i ρ)
inductive OI where
 | ok (x:PV) (outs:List (Option OV)) | exc (c:String) (fs:XF) (outs:List (Option OV)) | bad
inductive Arg where
 | e (me:ae -> OE) | t (i:Nat) (mp:MP) | b (i:Nat) (mp:MP)
noncomputable def ot:Option Sl -> Option OV
 | some (.tr true t)=>some t
 | _=>none
noncomputable def rM (np:Nat):OS -> OI
 | .nx ρ=>.ok .non ((ρ.take np).map ot)
 | .rt ρ (.sh x)=>.ok x ((ρ.take np).map ot)
 | .exc ρ c fs=>.exc c fs ((ρ.take np).map ot)
 | _=>.bad
noncomputable def j3 (n:Nat) (as:List Sl):ae:=as.map some ++ List.replicate (n - as.length) none
noncomputable def fnI (np n:Nat) (m:ae -> OS) (as:List Sl):OI:=if as.length = np then rM np (m (j3 n as)) else .bad
noncomputable def lM (a:Arg) (ρ:ae):Option Sl:=match a with
 | .e me=>(match me ρ with
   | .ok r=>(lS r).map .sh
   | _=>none)
 | .t i mp=>(match ρ[i]? with
   | some (some (.tr _ t))=>((mp ρ).bind fun π=>t.get π).map (.tr true)
   | _=>none)
 | .b i mp=>(subAt i mp ρ).map .bo
noncomputable def jr:List Arg -> ae -> Option (List Sl)
 | [],_=>some []
 | a ::as,ρ=>(lM a ρ).bind fun s=>(jr as ρ).map (s ::·)
noncomputable def ka (ρ₀:ae):Arg -> Option OV -> ae -> ae
 | .t i mp,some u,ρ=>(match ρ[i]? with
   | some (some (.tr io t))=>(match mp ρ₀ with
     | some π=>ρ.set i (some (.tr io (t.put π u)))
     | none=>ρ.set i none)
   | _=>ρ.set i none)
 | .t i _,none,ρ=>ρ.set i none
 | _,_,ρ=>ρ
noncomputable def fq (ρ₀:ae):List Arg -> List (Option OV) -> ae -> ae
 | [],_,ρ=>ρ
 | a ::as,us,ρ=>fq ρ₀ as us.tail (ka ρ₀ a us.head?.join ρ)
noncomputable def i0 (f:List Sl -> OI) (as:List Arg):ae -> OX:=fun ρ=>match jr as ρ with
 | some ss=>(match f ss with
   | .ok x outs=>.ok (fq ρ as outs ρ) (.sh x)
   | .exc c fs outs=>.exc (fq ρ as outs ρ) c fs
   | .bad=>.bad)
 | none=>.bad
noncomputable def vZ (f:List Sl -> OI) (as:List Arg):ae -> OE:=fun ρ=>match jr as ρ with
 | some ss=>(match f ss with
   | .ok x _=>.ok (.sh x)
   | .exc c fs _=>.exc c fs
   | .bad=>.bad)
 | none=>.bad
noncomputable def recv (c:String) (m:Str):Option Sl -> Bool
 | some (.tr true (.ob c' ks _))=>c' == c && !ks.contains m
 | some (.bo (.ob c' ks _))=>c' == c && !ks.contains m
 | _=>false
noncomputable def oq (c:String) (m:Str) (f:List Sl -> OI) (as:List Arg):ae -> OX:=fun ρ=>match as with
 | a ::_=>if recv c m (lM a ρ) = true then i0 f as ρ else .bad
 | []=>.bad
noncomputable def mR (c:String) (m:Str) (f:List Sl -> OI) (as:List Arg):ae -> OE:=fun ρ=>match as with
 | a ::_=>if recv c m (lM a ρ) = true then vZ f as ρ else .bad
 | []=>.bad
noncomputable def vj (c:String) (f:List Sl -> OI):ae -> OD:=fun _=>match f [.tr true (.ob c [] [])] with
 | .ok .non (some t ::_)=>.ok t
 | _=>.bad
noncomputable def mZ (i j:Nat) (mb:ae -> OS):List PV -> ae -> OS
 | [],ρ=>.nx ρ
 | .tup [x,y] ::xs,ρ=>(mb ((ρ.set i (some (.sh x))).set j (some (.sh y)))).turn (mZ i j mb xs)
 | _ ::_,_=>.bad
noncomputable def sm (k:Nat):List PV -> List PV
 | []=>[]
 | x ::xs=>.tup [.int k,x] ::sm (k + 1) xs
noncomputable def Ar (i j:Nat) (ml:ae -> OE) (mb:ae -> OS):ae -> OS:=fun ρ=>(ml ρ).bT ρ fun r=>match yQ r with
 | some xs=>mZ i j mb (sm 0 xs) ρ
 | none=>.bad
noncomputable def tD (ml:ae -> OE) (ι:List Nat) (me:ae -> OE):ae -> OE:=fun ρ=>(ml ρ).bind fun r=>match r.pv with
 | .tup xs=>noX (du me (dv ι ρ) xs)
 | _=>.bad
noncomputable def iz (mc:ae -> OT) (me:ae -> OE) (ρ:ae):List PV -> OA
 | []=>.ok []
 | x ::xs=>(match mc (ρ ++ [some (.sh x)]) with
   | .ok true=>(me (ρ ++ [some (.sh x)])).fJ fun r=>(match lS r with
     | some y=>(iz mc me ρ xs).fJ fun ys=>.ok (y ::ys)
     | none=>.bad)
   | .ok false=>iz mc me ρ xs
   | _=>.bad)
noncomputable def um (ml:ae -> OE) (ι:List Nat) (mc:ae -> OT) (me:ae -> OE):ae -> OE:=fun ρ=>(ml ρ).bind fun r=>match r.pv with
 | .lst xs=>noX (iz mc me (dv ι ρ) xs)
 | _=>.bad
noncomputable def Fw (ma ms:ae -> OE):ae -> OE:=fun ρ=>(ma ρ).bind fun a=>(ms ρ).bind fun k=>match a.pv,k.pv with
 | .lst xs,.int k=>if k = -1 then .ok (.fr xs.reverse) else .bad
 | _,_=>.bad
noncomputable def lN:PV -> Option RV
 | .lst xs=>some (.sh (.tup xs))
 | .tup xs=>some (.sh (.tup xs))
 | _=>none
mutual
noncomputable def kW:PV -> PV -> Bool
 | .non,y=>(match y with | .non=>true | _=>false)
 | .bl a,y=>(match y with | .bl b=>a == b | .int j=>(if a then 1 else 0) == j | _=>false)
 | .int i,y=>(match y with | .bl b=>i == (if b then 1 else 0) | .int j=>i == j | _=>false)
 | .str x,y=>(match y with | .str z=>x == z | _=>false)
 | .lst xs,y=>(match y with | .lst ys=>CP xs ys | _=>false)
 | .tup xs,y=>(match y with | .tup ys=>CP xs ys | _=>false)
noncomputable def CP:List PV -> List PV -> Bool
 | [],ys=>(match ys with | []=>true | _ ::_=>false)
 | x ::xs,ys=>(match ys with | y ::ys=>kW x y && CP xs ys | []=>false)
end
mutual
noncomputable def G0:PV -> Nat -> Bool
 | .str x,_=>x.cps.all (· < 0x110000)
 | .lst xs,n=>(match n with | 0=>false | n + 1=>B2 xs n)
 | .tup xs,n=>(match n with | 0=>false | n + 1=>B2 xs n)
 | _,_=>true
noncomputable def B2:List PV -> Nat -> Bool
 | [],_=>true
 | x ::xs,n=>G0 x n && B2 xs n
end
noncomputable def cI:PV -> Bool
 | .lst _=>false
 | .tup _=>false
 | _=>true
noncomputable def gF:PV -> PV -> Option Bool
 | x,.tup ys=>if ys.all cI = true then some (ys.any fun y=>kW y x) else none
 | x,.lst ys=>if ys.all cI = true then some (ys.any fun y=>kW y x) else none
 | _,_=>none
noncomputable def gIn:PV -> PV -> Option RV:=fun x y=>(gF x y).map fun b=>.sh (.bl b)
noncomputable def vF:PV -> PV -> Option RV:=fun x y=>(gF x y).map fun b=>.sh (.bl (!b))
end L2.P
namespace L2.P
open PySem
noncomputable def gK (kvs:List (Int × PV)):PV -> Option RV
 | .int n=>some (.sh ((kvs.lookup n).getD .non))
 | _=>none
end L2.P
namespace L2.P
open PySem
end L2.P
namespace L2
open PySem PySem.Spec PyProof.Rows
section
variable {X:Cx} {pins:List (Addr × Obj)} {σ:St} {H:Hp} {s:Shared} {h':Heap}
theorem Inv.Bw {t':Nat} {its:List Addr} {a:Addr} {o:HO} (I:Inv X pins σ H s) (k:∀ b u,b ∉ its -> s.heap.get? b = some u -> h'.get? b = some u) (hf:∀ b ∈ its,oU X pins H b)
  (hp:s.heap.objs.size <= a) (new:gc X.prog X.w (upd H a o) h' a o):Inv X pins σ (upd H a o) { s with heap:=h',toks:=t' }:=by
 have hn:=I.hok.fresh hp
 have nit:∀ b u,H b = some u -> b ∉ its:=fun b u e z=>by rw [(hf b z).1] at e; cases e
 refine I.step (g':=s.gens) (d':=s.drawn) (ch:=its) (fun b hb=>?_) (fun b u _ _ hc e _=>k b u hc e) (fun b u _ _ hc e _=>⟨u.slots,k b u hc e⟩)
  (fun b u _ q n=>by rw [bJ (Nat.ne_of_lt (Nat.lt_of_lt_of_le (Heap.lt_size q) hp))]; exact n)
  (fun b u hc e=>⟨u,k b u hc e⟩) (fun b xs q=>by rw [bJ (eK q hn)]; exact q) (fun b u xs q=>by rw [bJ (eK q hn)]; exact q) (fun b ps q=>⟨#[],by rw [bJ (eK q hn),q]; simp⟩) (fun m hm=>?_) (fun b u e=>?_) I.bare
 . obtain ⟨_,f1,f2,f3,f4,f5⟩:=hf b hb
   exact ⟨f3,f1,f4,f5⟩
 . obtain ⟨ob,es,ep,ho,r⟩:=hm
   exact ⟨ob,es,ep,k _ ob (fun z=>(hf _ z).2.1 rfl) ho,r⟩
 . by_cases hb:b = a
   . subst hb; rw [bD] at e; cases e; exact new
   . rw [bJ hb] at e
     refine (I.hok b u e).sG (fun c v hc q=>k c v ?_ q) (fun c q=>by rw [bJ (eK q hn)]; exact q) fun c xs q=>by rw [bJ (eK q hn)]; exact q
     rcases hc with z | z
     . rw [z]; exact nit b u e
     . exact nit c _ z
end
noncomputable def Ite (K:PySem.W.Frag) (a:Addr):It:=
 ⟨fun i H=>∃ xs x,SqL K H a xs /\ xs[i]? = some x,fun i H v H'=>∃ t x,(∀ xs,SqL K H a xs -> xs[i]? = some x) /\ H t = none /\ v = .ref t /\ H' = upd H t (.tup [.int i,x]),fun i H=>∃ xs,SqL K H a xs /\ xs.length <= i⟩
theorem AL {P:Program} {w:World} {K:PySem.W.Frag} {elts:List Expr} {k:Nat} {pos:Pos} (a e it:Addr) (hei:e ≠ it):
  Turn P w K (.Tuple elts k pos) (Ite K a) [e,it] e (fun i h=>(∃ old,IsEnum h e it i old) /\ h.IsListIter it a i) where
 mem:=by simp
 obj:=fun i h st b hb=>by
  obtain ⟨⟨old,h1⟩,o,h2,c,d⟩:=st
  rcases List.mem_cons.mp hb with z | z
  . subst z; exact ⟨_,h1,fun v z=>by cases z⟩
  . have z':b = it:=by simpa using z
    subst z'; exact ⟨o,h2,fun v z=>by rw [d] at z; cases z⟩
 keep:=fun i h h' st k=>by
  obtain ⟨⟨old,h1⟩,h2⟩:=st
  exact ⟨⟨old,k e (by simp) _ h1⟩,h2.at fun o x=>k it (by simp) o x⟩
 item:=by
  intro X hP hw hK hc i pins s σ H E I hf st hg
  subst hP hw hK
  obtain ⟨xs,x,hq,hx⟩:=hg
  obtain ⟨its,rv,p,hz⟩:=I.list hq
  obtain ⟨u,hu,ru⟩:=rv.get hx
  obtain ⟨⟨old,he⟩,hit⟩:=st
  refine wpAny_pyNext_enum_item he hit p.isList (x:=u) (by simpa using hu) hei fun h1 ho hit1 hT hsz hk=>⟨_,rfl,?_⟩
  refine wpAny_letOwnedTupleGo_enum ho fun h2 he2 hs2=>?_
  have hT2:h2.get? s.heap.objs.size = some { cls:=.type "tuple",data:=.seq #[.int i s.toks,u] }:=(hs2.2 _ (Nat.ne_of_gt (Heap.lt_size he))).trans hT
  have nH:H s.heap.objs.size = none:=I.hok.fresh (Nat.le_refl _)
  refine ⟨.ref s.heap.objs.size,upd H s.heap.objs.size (.tup [.int i,x]),I.Bw (its:=[e,it]) (t':=s.toks + 1) (fun b o hb q=>?_) hf (Nat.le_refl _) ?_,rfl,⟨_,x,fun ys hy=>by rw [I.xW hy hq]; exact hx,nH,rfl,rfl⟩,⟨⟨u,by simpa using he2⟩,?_⟩,fun b hb=>?_⟩
  . have nb:b ≠ e /\ b ≠ it:=by simpa using hb
    exact (hs2.2 b nb.1).trans (hk b o nb.1 nb.2 q)
  . exact ⟨by show 2 <= sizeLine; decide,[.int i s.toks,u],.cons ⟨_,rfl⟩ (.cons ru .nil),⟨_,hT2,rfl,_,rfl⟩⟩
  . exact hit1.at fun o y=>(hs2.2 it hei.symm).trans y
  . have:b < s.heap.objs.size:=by
     rcases List.mem_cons.mp hb with z | z
     . subst z; exact Heap.lt_size he
     . have z':b = it:=by simpa using z
       subst z'; obtain ⟨_,y,_⟩:=hit; exact Heap.lt_size y
    rw [bJ (Nat.ne_of_lt this)]
    exact (hf b hb).1
 done:=by
  intro X hP hw hK hc i pins s σ H E I hf st hg
  subst hP hw hK
  obtain ⟨xs,hq,hx⟩:=hg
  obtain ⟨its,rv,p,hz⟩:=I.list hq
  obtain ⟨⟨old,he⟩,hit⟩:=st
  obtain ⟨f0,f1,f2,f3,f4,f5⟩:=hf it (by simp)
  have hl:=rv.length
  exact wpAny_pyNext_enum_end (I.ok.hd hc) he hit p.isList (by simp; omega) fun h' eb=>⟨rfl,I.turned (t':=s.toks) (fun b o hb e=>eb b o hb e) f0 f1 f3 f4 f5⟩
 self:=fun _ _ _ _ _ st h=>by
  obtain ⟨⟨old,he⟩,_⟩:=st
  exact wpAny_pyIter_enum he h
section
variable {X:Cx}
noncomputable def Dd (K:PySem.W.Frag) (ta:TA):TI:=fun σ H R=>ta σ H fun vs H1=>∃ a,vs = [.ref a] /\ (∃ xs,SqL K H1 a xs) /\ R (Ite K a) H1
theorem Ec {elts:List Expr} {k:Nat} {tp:Pos} {a:Expr} {ta:TA} {p pos:Pos} (hg:Gl X "enumerate") (hm:X.mg "enumerate" = none) (ha:PA X [a] ta) (hs:starEach [a] X.env = [(false,eval a X.env)]:=by rfl):
  PI X (.Tuple elts k tp) (.Call (.Name "enumerate" p) [a] [] pos) (Dd X.K ta):=by
 intro pins s σ H R I h
 refine Call_ (tX I hg hm (show bootBuiltins "enumerate" = some (.type "enumerate") by rfl) (PyProof.Rows.callWith_type1 (thn (ha pos pins s σ H _ I h) fun us s1 ⟨vs,H1,I1,r1,q1⟩=>?_) hs rfl))
 obtain ⟨l,e,⟨xs,hq⟩,q⟩:=q1
 subst e
 cases r1 with
 | cons r rr=>
   cases rr
   cases r
   obtain ⟨its,rv,p,hz⟩:=I1.list hq
   refine call_enumerate_list p.isList fun h' he hit hsz hk=>?_
   refine wpAny_pyIter_enum he ?_
   have I2:Inv X pins σ H1 { s1 with heap:=h' }:=I1.kept (t':=s1.toks) hk
   refine ⟨s1.heap.objs.size + 1,[s1.heap.objs.size + 1,s1.heap.objs.size],_,_,H1,rfl,I2,AL l _ _ (Nat.succ_ne_self _),⟨⟨.none,he⟩,hit⟩,fun b hb=>?_,q⟩
   have:s1.heap.objs.size <= b:=by
    rcases List.mem_cons.mp hb with z | z
    . subst z; exact Nat.le_succ _
    . have z':b = s1.heap.objs.size:=by simpa using z
      subst z'; exact Nat.le_refl _
   exact I1.AM this (I1.hok.fresh this)
end
theorem BY {K:PySem.W.Frag} {a:Addr} {xs:List V} {g:TG} {tb:TS} {D:Ends} {σ:St} {H:Hp} (Pv:Nat -> St -> Hp -> Prop) (h0:Pv 0 σ H) (hl:∀ i σ H,i <= xs.length -> Pv i σ H -> SqL K H a xs)
  (hs:∀ i x σ H t,xs[i]? = some x -> Pv i σ H -> H t = none -> g (.ref t) σ (upd H t (.tup [.int i,x])) fun σ2 H2=>tb { D with nx:=Pv (i + 1),ct:=Pv (i + 1),bk:=D.nx } σ2 H2) (hd:∀ σ H,Pv xs.length σ H -> D.nx σ H):
  ∃ W:Nat -> Nat -> St -> Hp -> Prop,(∃ m,W 0 m σ H) /\ ∀ i m σ H,W i m σ H ->
    ((Ite K a).stop i H /\ D.nx σ H) \/ ((Ite K a).go i H /\ ∃ N:St -> Hp -> Prop,(∀ σ' H',N σ' H' -> ∃ m',m' < m /\ W (i + 1) m' σ' H') /\ ∀ x H',(Ite K a).yld i H x H' -> g x σ H' fun σ2 H2=>tb { D with nx:=N,ct:=N,bk:=D.nx } σ2 H2):=by
 refine ⟨fun i m σ H=>m = xs.length - i /\ i <= xs.length /\ Pv i σ H,⟨xs.length,by simp,Nat.zero_le _,h0⟩,?_⟩
 rintro i m σ H ⟨rfl,hi,p⟩
 have q:=hl i σ H hi p
 by_cases hlt:i < xs.length
 . refine .inr ⟨⟨xs,xs[i],q,by simp [hlt]⟩,Pv (i + 1),fun σ' H' p'=>⟨xs.length - (i + 1),by omega,rfl,hlt,p'⟩,fun x H' y=>?_⟩
   obtain ⟨t,z,y1,y3,e1,e2⟩:=y
   subst e1 e2
   exact hs i z σ _ t (y1 xs q) p y3
 . have e:i = xs.length:=by omega
   subst e
   exact .inl ⟨⟨xs,q,Nat.le_refl _⟩,hd σ H p⟩
end L2
namespace L2.P
open PySem PySem.Spec PyProof.Rows L2 L2.E PySem.SeqAt
section
variable {K:PySem.W.Frag} {S H:Hp}
theorem RdV.rep {x:PV} {v:V} (h:RdV K S H x v) (s:aI S H):Rep K H x v:=by
 cases x with
 | lst xs=>obtain ⟨p,vs,e,q,r⟩:=h; unfold Rep; exact ⟨p,vs,e,q,r.mono s⟩
 | non=>exact Rep.mono s h
 | bl b=>exact Rep.mono s h
 | int i=>exact Rep.mono s h
 | str x=>exact Rep.mono s h
 | tup xs=>exact Rep.mono s h
end
end L2.P
namespace L2.P
open PySem PySem.Spec PyProof.Rows L2 L2.E PySem.SeqAt
section
variable {X:Cx} {K:PySem.W.Frag} {S H:Hp}
theorem uv {x:PV} {v:V} (h:Rep K H x v) (f:cI x = true):pR v = true:=by
 cases x with
 | lst xs=>cases f
 | tup xs=>cases f
 | non=>unfold Rep at h; subst h; rfl
 | bl b=>unfold Rep at h; subst h; rfl
 | int b=>unfold Rep at h; subst h; rfl
 | str b=>unfold Rep at h; subst h; rfl
theorem ED {x y:PV} {v u:V} (h:Rep K H x v) (k:Rep K H y u) (f:cI x = true) (g:cI y = true):eqV u v = kW y x:=by
 cases x <;> first | (cases f; done) | skip
 all_goals (unfold Rep at h; subst h; cases y <;> first | (cases g; done) | (unfold Rep at k; subst k; simp [eqV,kW]))
theorem vk {xs:List PV} {vs:List V} (h:b8 K H xs vs) (f:xs.all cI = true):vs.all pR = true:=by
 induction xs generalizing vs with
 | nil=>rw [h.nil_inv]; rfl
 | cons x xs ih=>
   obtain ⟨v,r,rfl,h1,h2⟩:=h.cons_inv
   rw [List.all_cons,Bool.and_eq_true] at f ⊢
   exact ⟨uv h1 f.1,ih h2 f.2⟩
theorem yn {x:PV} {v:V} {xs:List PV} {vs:List V} (hx:Rep K H x v) (g:cI x = true) (h:b8 K H xs vs) (f:xs.all cI = true):inV v vs = xs.any fun y=>kW y x:=by
 induction xs generalizing vs with
 | nil=>rw [h.nil_inv]; rfl
 | cons y xs ih=>
   obtain ⟨u,r,rfl,h1,h2⟩:=h.cons_inv
   rw [List.all_cons,Bool.and_eq_true] at f
   have:=ih h2 f.2
   unfold inV at this ⊢
   rw [List.any_cons,List.any_cons,this,ED hx h1 g f.1]
theorem x8 {x:PV} {xs:List PV} (g:cI x = false) (f:xs.all cI = true):(xs.any fun y=>kW y x) = false:=by
 induction xs with
 | nil=>rfl
 | cons y xs ih=>
   rw [List.all_cons,Bool.and_eq_true] at f
   rw [List.any_cons,ih f.2,Bool.or_false]
   have f1:=f.1
   cases y <;> first | (cases f1; done) | (cases x <;> first | (cases g; done) | simp [kW])
theorem wG {α:Type} (l:List α):(l.any fun _=>false) = false:=by induction l <;> simp_all
theorem qG {A:Around} {s:Shared} {pins:List (Addr × Obj)} {σ:St} (I:Inv X pins σ H s) (hu:A.units < cLine) {x:PV} {v:V} {a:Value} (hx:Rep X.K H x v) (ra:RelV v a) (g:cI x = false):
  ∀ {xs:List PV} {vs:List V} {us:List Value},b8 X.K H xs vs -> Vals vs us -> xs.all cI = true -> ∀ u ∈ us,EqAt A s u a false:=by
 intro xs
 induction xs with
 | nil=>intro vs us h r _ u hu; rw [h.nil_inv] at r; cases r; cases hu
 | cons y xs ih=>
   intro vs us h r f u hm
   obtain ⟨w,t,rfl,h1,h2⟩:=h.cons_inv
   rw [List.all_cons,Bool.and_eq_true] at f
   cases r with
   | cons r1 r2=>
     rcases List.mem_cons.mp hm with rfl | hm
     . cases x with
       | non=>cases g
       | bl b=>cases g
       | int b=>cases g
       | str b=>cases g
       | lst zs=>
         unfold Rep at hx
         obtain ⟨p,us',rfl,hq,_⟩:=hx
         cases ra
         obtain ⟨its,_,pl,_⟩:=I.list hq
         cases y with
         | non=>unfold Rep at h1; subst h1; cases r1; exact EqAt.none_list pl.isList hu
         | bl b=>unfold Rep at h1; subst h1; cases r1; exact EqAt.bool_list b pl.isList hu
         | int b=>unfold Rep at h1; subst h1; obtain ⟨t',rfl⟩:=r1; exact EqAt.int_list b t' pl.isList hu
         | str b=>unfold Rep at h1; subst h1; obtain ⟨t',rfl⟩:=r1; exact EqAt.str_list b t' pl.isList hu
         | lst _=>cases f.1
         | tup _=>cases f.1
       | tup zs=>
         unfold Rep at hx
         obtain ⟨p,us',rfl,hq,_⟩:=hx
         cases ra
         obtain ⟨its,_,pl,_⟩:=I.tuple hq
         cases y with
         | non=>unfold Rep at h1; subst h1; cases r1; exact EqAt.none_tuple pl hu
         | bl b=>unfold Rep at h1; subst h1; cases r1; exact EqAt.bool_tuple b pl hu
         | int b=>unfold Rep at h1; subst h1; obtain ⟨t',rfl⟩:=r1; exact EqAt.int_tuple b t' pl hu
         | str b=>unfold Rep at h1; subst h1; obtain ⟨t',rfl⟩:=r1; exact EqAt.str_tuple b t' pl hu
         | lst _=>cases f.1
         | tup _=>cases f.1
     . exact ih h2 r2 f.2 u hm
noncomputable def CW (K:PySem.W.Frag) (A:Around) (neg:Bool):R2:=fun v u H Q=>∃ x ys p vs,Rep K H x v /\ u = .ref p /\ (SqL K H p vs \/ SqT K H p vs) /\ b8 K H ys vs /\ ys.all cI = true /\ A.units + 64 < cLine /\ Q (.bl (if neg then !(ys.any fun y=>kW y x) else ys.any fun y=>kW y x)) H
theorem mM:OpR X (compareOp .In) (CW X.K X.A false):=by
 intro pins s σ H v u a b Q I rx ry h
 obtain ⟨x,ys,p,vs,hx,rfl,hq,hr,hf,hu,q⟩:=h
 cases g:cI x with
 | true=>exact Bx pins s σ H v _ a b Q I rx ry ⟨p,vs,rfl,hq,uv hx g,vk hr hf,by rw [yn hx g hr hf]; exact q⟩
 | false=>
   rw [x8 g hf] at q
   cases ry
   rcases hq with hq | hq
   . obtain ⟨its,r,pl,hz⟩:=I.list hq
     refine SeqAt.in_listAt (fun _=>false) pl.isList (fun w hw=>qG I (by show X.A.units + 1 < cLine; omega) hx rx g hr r hf w (by simpa using hw)) ⟨.bl _,H,I,rfl,?_⟩
     rw [show (its.toArray.any fun _=>false) = false by simp [wG]]
     exact q
   . obtain ⟨its,r,pl,hz⟩:=I.tuple hq
     refine SeqAt.in_tupleAt (fun _=>false) pl (fun w hw=>qG I (by show X.A.units + 1 < cLine; omega) hx rx g hr r hf w (by simpa using hw)) ⟨.bl _,H,I,rfl,?_⟩
     rw [show (its.toArray.any fun _=>false) = false by simp [wG]]
     exact q
theorem AH:OpR X (compareOp .NotIn) (CW X.K X.A true):=by
 intro pins s σ H v u a b Q I rx ry h
 obtain ⟨x,ys,p,vs,hx,rfl,hq,hr,hf,hu,q⟩:=h
 cases g:cI x with
 | true=>exact v9 pins s σ H v _ a b Q I rx ry ⟨p,vs,rfl,hq,uv hx g,vk hr hf,by rw [yn hx g hr hf]; exact q⟩
 | false=>
   rw [x8 g hf] at q
   cases ry
   rcases hq with hq | hq
   . obtain ⟨its,r,pl,hz⟩:=I.list hq
     refine SeqAt.notIn_listAt (fun _=>false) pl.isList (fun w hw=>qG I (by show X.A.units + 1 < cLine; omega) hx rx g hr r hf w (by simpa using hw)) ⟨.bl _,H,I,rfl,?_⟩
     rw [show (its.toArray.any fun _=>false) = false by simp [wG]]
     exact q
   . obtain ⟨its,r,pl,hz⟩:=I.tuple hq
     refine SeqAt.notIn_tupleAt (fun _=>false) pl (fun w hw=>qG I (by show X.A.units + 1 < cLine; omega) hx rx g hr r hf w (by simpa using hw)) ⟨.bl _,H,I,rfl,?_⟩
     rw [show (its.toArray.any fun _=>false) = false by simp [wG]]
     exact q
theorem Aa {A:Around} {neg:Bool} {x y:PV} {v u:V} {b:Bool} {Q:VK} (hu:A.units + 64 < cLine) (I:aI S H) (hx:RdV K S H x v) (hy:RdV K S H y u) (e:gF x y = some b) (k:∀ z S' H',bf S H S' H' -> mw K H S' H' (.sh (.bl (if neg then !b else b))) z -> Q z H'):CW K A neg v u H Q:=by
 cases y with
 | tup ys=>
   simp only [gF] at e
   by_cases hf:ys.all cI = true
   . rw [if_pos hf] at e
     cases e
     obtain ⟨p,vs,rfl,hq,hr⟩:=mf hy
     exact ⟨x,ys,p,vs,hx.rep I,rfl,.inr (aI.tup I hq),hr.mono I,hf,hu,k _ S H (bf.refl I) mU⟩
   . rw [if_neg hf] at e; cases e
 | lst ys=>
   simp only [gF] at e
   by_cases hf:ys.all cI = true
   . rw [if_pos hf] at e
     cases e
     obtain ⟨p,vs,rfl,hq,hr⟩:=gp hy
     exact ⟨x,ys,p,vs,hx.rep I,rfl,.inl hq,hr.mono I,hf,hu,k _ S H (bf.refl I) mU⟩
   . rw [if_neg hf] at e; cases e
 | _=>simp only [gF] at e; cases e
theorem qU {A:Around} (hu:A.units + 64 < cLine):JR K (CW K A false) gIn:=by
 intro S H x y v u rr Q I hx hy e k
 obtain ⟨b,e1,e2⟩:=Option.map_eq_some_iff.mp e
 subst e2
 exact Aa hu I hx hy e1 k
theorem CZ {A:Around} (hu:A.units + 64 < cLine):JR K (CW K A true) vF:=by
 intro S H x y v u rr Q I hx hy e k
 obtain ⟨b,e1,e2⟩:=Option.map_eq_some_iff.mp e
 subst e2
 exact Aa hu I hx hy e1 k
end
end L2.P
namespace L2.P
open PySem PySem.Spec PyProof.Rows L2 L2.E
section
variable {K:PySem.W.Frag} {cls:String -> Option Addr} {W:XW} {Av G S₀ S S' H H' B B':Hp} {ρ:ae} {σ:St} {Q:VK}
noncomputable abbrev g2 (K:PySem.W.Frag) (i j:Nat):TG:=Iy K 2 (zY (kE i) (zY (kE j) Gk))
theorem yU {i j:Nat} {tb:TS} {mb:ae -> OS} {D:Ends} {x y:PV} {xs:List PV} {v u:V} {t:Addr} {N:St -> Hp -> Prop} (hb:JS K cls W tb mb) (I:SR K cls Av G S₀ ρ σ S H) (hx:Rep K S x v) (hy:Rep K S y u) (ht:SqT K H t [v,u])
  (p:jm K cls W Av G S₀ S D (mZ i j mb (.tup [x,y] ::xs) ρ)) (hN:∀ ρ' σ' S' H',SR K cls Av G S₀ ρ' σ' S' H' -> aI S S' -> jm K cls W Av G S₀ S' D (mZ i j mb xs ρ') -> N σ' H'):
  g2 K i j (.ref t) σ H fun σ2 H2=>tb { D with nx:=N,ct:=N,bk:=D.nx } σ2 H2:=by
 refine ⟨t,_,rfl,ht,rfl,_,_,rfl,_,_,rfl,rfl,?_⟩
 refine hb Av G S₀ _ _ S H _ ((I.zC hx).zC hy) ?_
 unfold mZ at p
 cases e:mb ((ρ.set i (some (.sh x))).set j (some (.sh y))) with
 | nx ρ'=>rw [e] at p; exact fun σ' S' H' I' s'=>hN ρ' σ' S' H' I' s' (p.back s')
 | ct ρ'=>rw [e] at p; exact fun σ' S' H' I' s'=>hN ρ' σ' S' H' I' s' (p.back s')
 | bk ρ'=>rw [e] at p; exact p
 | rt ρ' r=>rw [e] at p; exact p
 | exc ρ' c fs=>rw [e] at p; exact p
 | bad=>rw [e] at p; exact p
theorem zb (xs:List PV):∀ (k n:Nat) (y:PV),xs[k]? = some y -> sm (n + k) (xs.drop k) = .tup [.int ((n + k:Nat):Int),y] ::sm (n + (k + 1)) (xs.drop (k + 1)):=by
 intro k n y hy
 have hk:k < xs.length:=(List.getElem?_eq_some_iff.mp hy).1
 rw [List.drop_eq_getElem_cons hk]
 have:xs[k] = y:=(List.getElem?_eq_some_iff.mp hy).2
 rw [this]
 rfl
theorem DN {i j:Nat} {tl:TE} {tb:TS} {ml:ae -> OE} {mb:ae -> OS} (hl:JE K cls W tl ml) (hb:JS K cls W tb mb):JS K cls W (BL (Dd K (jd tl kD)) (g2 K i j) tb) (Ar i j ml mb):=by
 intro Av G S₀ ρ σ S H D I p
 refine hl Av G S₀ ρ σ S H _ I ?_
 unfold Ar at p
 cases em:ml ρ with
 | exc c fs=>rw [em] at p; exact fun a C S' H' w x=>p a C σ S' H' (I.grow w) w.s x
 | bad=>rw [em] at p; exact p
 | ok r=>
   rw [em] at p
   intro v S1 H1 w1 r1
   simp only [OE.bT] at p
   cases ei:yQ r with
   | none=>rw [ei] at p; exact p.elim
   | some xs=>
     rw [ei] at p
     have es:lS r = some (.lst xs):=by
      cases r with
      | sh y=>cases y <;> cases ei <;> rfl
      | fr ys=>cases ei; rfl
      | al ys=>cases ei
     obtain ⟨S2,w2,s2,rx⟩:=r1.share w1 es
     have I2:=I.grow w2
     unfold Rep at rx
     obtain ⟨a,vs,rfl,hq,hr⟩:=rx
     show ∃ a',[V.ref a] = [V.ref a'] /\ _
     refine ⟨a,rfl,⟨vs,aI.seq I2.sh hq⟩,?_⟩
     refine BY (xs:=vs) (fun k σ' H'=>∃ ρ' S',SR K cls Av G S₀ ρ' σ' S' H' /\ aI S2 S' /\ jm K cls W Av G S₀ S' D (mZ i j mb (sm (0 + k) (xs.drop k)) ρ'))
      ⟨ρ,S2,I2,aI.refl _,p.back w2.s⟩ ?_ ?_ ?_
     . rintro k σ' H' _ ⟨ρ',S',I',s',_⟩
       exact aI.seq (s'.trans I'.sh) hq
     . rintro k x σ' H' t hx ⟨ρ',S',I',s',p'⟩ ht
       obtain ⟨y,hy,ry⟩:=hr.JK hx
       rw [zb xs k 0 y hy] at p'
       have w3:bf S' H' S' (upd H' t (.tup [.int k,x])):=bf.heap I'.sh ht
       refine yU hb (I'.grow w3) (x:=.int ((0 + k:Nat):Int)) (v:=.int k) (by unfold Rep; rw [Nat.zero_add]) (Rep.mono s' ry) (SqT.new bD) p' fun ρ2 σ2 S3 H3 I3 s3 p3=>⟨ρ2,S3,I3,s'.trans s3,p3⟩
     . rintro σ' H' ⟨ρ',S',I',s',p'⟩
       rw [List.drop_of_length_le (by rw [hr.length]; exact Nat.le_refl _)] at p'
       exact p' σ' S' H' I' (aI.refl _)
end
end L2.P
namespace L2.E
open PySem PySem.Spec PyProof.Rows L2
theorem DK {X:Cx} {elts:List Expr} {k:Nat} {tp:Pos} {a:Expr} {ta:TA} {p pos:Pos} (hg:Gl X "enumerate") (hm:X.mg "enumerate" = none) (ha:QA X [a] ta) (hs:starEach [a] X.env = [(false,eval a X.env)]:=by rfl):
  QI X (.Tuple elts k tp) (.Call (.Name "enumerate" p) [a] [] pos) (Dd X.K ta):=⟨Ec hg hm ha.out hs⟩
structure QGs (X:Cx) (es:List Expr) (t:TGs):Prop where
 out:PGs X es t
theorem Ft {X:Cx}:QGs X [] Gk:=⟨EM⟩
theorem ye {X:Cx} {e:Expr} {es:List Expr} {t:TG} {u:TGs} (h1:QG X e t) (h2:QGs X es u)
  (hs:(assignEach (e ::es) X.env).map (·.2) = assign e X.env ::(assignEach es X.env).map (·.2):=by rfl):QGs X (e ::es) (zY t u):=⟨Cq h1.out h2.out hs⟩
theorem HH {X:Cx} {es:List Expr} {k:Nat} {t:TGs} {n:Nat} {pos:Pos} (hc:X.calm = true) (h:QGs X es t)
  (hn:(assignEach es X.env).length = n:=by rfl) (hst:(assignEach es X.env).findIdx? (·.1) = none:=by rfl):QG X (.Tuple es k pos) (Iy X.K n t):=⟨G1 hc h.out hn hst⟩
end L2.E
namespace L2.P
open PySem PySem.Spec PyProof.Rows L2 L2.E
section
variable {K:PySem.W.Frag} {cls:String -> Option Addr} {W:XW} {Av G S₀ S S' H H' B B':Hp} {ρ:ae} {σ:St} {Q:VK} {F:Nat -> List Addr}
theorem bz.length {ts:List OV} {vs:List V} {f:List Addr} (h:bz K cls S H ts vs f):vs.length = ts.length:=by
 induction ts generalizing vs f with
 | nil=>unfold bz at h; rw [h.1]; rfl
 | cons t ts ih=>
   unfold bz at h
   obtain ⟨v,r,f1,f2,rfl,_,_,h2⟩:=h
   simp [ih h2]
theorem bz.cons_inv {t:OV} {ts:List OV} {vs:List V} {fp:List Addr} (h:bz K cls S H (t ::ts) vs fp):∃ v r f1 f2,vs = v ::r /\ fp = f1 ++ f2 /\ br K cls S H t v f1 /\ bz K cls S H ts r f2:=by unfold bz at h; exact h
theorem bz.cons {t:OV} {ts:List OV} {v:V} {vs:List V} {f1 f2:List Addr} (h:br K cls S H t v f1) (r:bz K cls S H ts vs f2):bz K cls S H (t ::ts) (v ::vs) (f1 ++ f2):=by unfold bz; exact ⟨v,vs,f1,f2,rfl,rfl,h,r⟩
theorem bz.nil:bz K cls S H [] [] []:=by unfold bz; exact ⟨rfl,rfl⟩
theorem bz.append {ts us:List OV} {vs ws:List V} {f g:List Addr} (h:bz K cls S H ts vs f) (k:bz K cls S H us ws g):bz K cls S H (ts ++ us) (vs ++ ws) (f ++ g):=by
 induction ts generalizing vs f with
 | nil=>unfold bz at h; rw [h.1,h.2]; exact k
 | cons t ts ih=>
   obtain ⟨v,r,f1,f2,rfl,rfl,h1,h2⟩:=h.cons_inv
   have:=bz.cons h1 (ih h2)
   rw [List.append_assoc]
   exact this
theorem bz.shs {xs:List PV} {vs:List V} (h:b8 K S xs vs):bz K cls S H (xs.map .sh) vs []:=by
 induction xs generalizing vs with
 | nil=>rw [h.nil_inv]; exact .nil
 | cons x xs ih=>
   obtain ⟨v,r,rfl,h1,h2⟩:=h.cons_inv
   exact bz.cons (f1:=[]) (by unfold br; exact ⟨rfl,h1⟩) (ih h2)
theorem bz.flat {ts:List OV} {xs:List PV} {vs:List V} {f:List Addr} (e:tU ts = some xs) (h:bz K cls S H ts vs f):b8 K S xs vs /\ f = []:=by
 induction ts generalizing xs vs f with
 | nil=>cases e; unfold bz at h; rw [h.1,h.2]; exact ⟨.nil,rfl⟩
 | cons t ts ih=>
   cases t with
   | sh x=>
     obtain ⟨ys,e1,e2⟩:=Option.map_eq_some_iff.mp e
     subst e2
     obtain ⟨v,r,f1,f2,rfl,rfl,h1,h2⟩:=h.cons_inv
     unfold br at h1
     obtain ⟨h3,h4⟩:=ih e1 h2
     exact ⟨.cons h1.2 h3,by rw [h1.1,h4]; rfl⟩
   | ol _=>cases e
   | ob _ _ _=>cases e
   | di _=>cases e
   | dt _=>cases e
theorem bz.at {ts:List OV} {vs:List V} {f:List Addr} {k:Nat} {u:OV} (h:bz K cls S H ts vs f) (e:ts[k]? = some u):
  ∃ w f1 rest,vs[k]? = some w /\ br K cls S H u w f1 /\ f.Perm (f1 ++ rest) /\
    ∀ S' H' u' w' f',aI S S' -> br K cls S' H' u' w' f' -> (∀ a ∈ rest,∀ o,H a = some o -> H' a = some o) -> ∃ g,bz K cls S' H' (ts.set k u') (vs.set k w') g /\ g.Perm (f' ++ rest):=by
 induction ts generalizing vs f k with
 | nil=>simp at e
 | cons t ts ih=>
   obtain ⟨v,r,f1,f2,rfl,rfl,h1,h2⟩:=h.cons_inv
   cases k with
   | zero=>
     simp at e
     subst e
     refine ⟨v,f1,f2,rfl,h1,List.Perm.refl _,fun S' H' u' w' f' s r' g=>?_⟩
     exact ⟨f' ++ f2,bz.cons r' (h2.mono s g),List.Perm.refl _⟩
   | succ k=>
     simp at e
     obtain ⟨w,g1,rest,e1,r1,p1,c1⟩:=ih h2 e
     refine ⟨w,g1,f1 ++ rest,by simpa using e1,r1,?_,fun S' H' u' w' f' s r' g=>?_⟩
     . have:(f1 ++ f2).Perm (f1 ++ (g1 ++ rest)):=List.Perm.append_left f1 p1
       refine this.trans ?_
       rw [<- List.append_assoc,<- List.append_assoc]
       exact List.Perm.append_right rest List.perm_append_comm
     . obtain ⟨g2,r2,p2⟩:=c1 S' H' u' w' f' s r' fun a ha=>g a (List.mem_append_right _ ha)
       refine ⟨f1 ++ g2,bz.cons (h1.mono s fun a ha=>g a (List.mem_append_left _ ha)) r2,?_⟩
       refine (List.Perm.append_left f1 p2).trans ?_
       rw [<- List.append_assoc,<- List.append_assoc]
       exact List.Perm.append_right rest List.perm_append_comm
theorem Ax {ks:List Str} {ts:List OV} {f:Str} {u:OV} (h:o3 ks ts f = some u):∃ k,ts[k]? = some u /\ ks[k]? = some f /\ (∀ u',uO ks ts f u' = ts.set k u') /\ ∀ {α:Type} (us:List (Str × α)),us.map (·.1) = ks -> us.lookup f = (us.map (·.2))[k]?:=by
 induction ks generalizing ts with
 | nil=>simp [o3] at h
 | cons g ks ih=>
   cases ts with
   | nil=>simp [o3] at h
   | cons t ts=>
     unfold o3 at h
     split at h
     . rename_i e
       subst e
       cases h
       refine ⟨0,rfl,rfl,fun u'=>by simp [uO],fun us eu=>?_⟩
       cases us with
       | nil=>cases eu
       | cons q us=>
         simp at eu
         obtain ⟨a,b⟩:=q
         simp at eu
         rw [<- eu.1]
         simp [List.lookup]
     . rename_i ne
       obtain ⟨k,e1,e2,e3,e4⟩:=ih h
       refine ⟨k + 1,by simpa using e1,by simpa using e2,fun u'=>by simp [uO,ne,e3],fun us eu=>?_⟩
       cases us with
       | nil=>cases eu
       | cons q us=>
         obtain ⟨a,b⟩:=q
         simp at eu
         have:(f == a) = false:=by rw [eu.1]; simpa using Ne.symm ne
         simp [List.lookup,this,e4 us eu.2]
noncomputable def ve (H:Hp):Stp -> V -> V -> Prop
 | .ix k,v,w=>∃ p vs,v = .ref p /\ H p = some (.lst vs) /\ vs[k]? = some w
 | .fd f,v,w=>∃ p C dx us,v = .ref p /\ H p = some (.ins C dx us) /\ us.lookup f = some w
noncomputable def jY (H:Hp):V -> List Stp -> V -> Prop
 | v,[],w=>w = v
 | v,s ::π,w=>∃ u,ve H s v u /\ jY H u π w
theorem ve.inj {s:Stp} {v w w':V} (h:ve H s v w) (k:ve H s v w'):w = w':=by
 cases s with
 | ix n=>
   obtain ⟨p,vs,rfl,e1,e2⟩:=h
   obtain ⟨p',vs',e3,e4,e5⟩:=k
   cases e3
   rw [e1] at e4; cases e4
   rw [e2] at e5; cases e5; rfl
 | fd f=>
   obtain ⟨p,C,dx,us,rfl,e1,e2⟩:=h
   obtain ⟨p',C',dx',us',e3,e4,e5⟩:=k
   cases e3
   rw [e1] at e4; cases e4
   rw [e2] at e5; cases e5; rfl
theorem jY.inj {π:List Stp}:∀ {v w w':V},jY H v π w -> jY H v π w' -> w = w':=by
 induction π with
 | nil=>intro v w w' h k; rw [h,k]
 | cons s π ih=>
   rintro v w w' ⟨u,h1,h2⟩ ⟨u',k1,k2⟩
   have:=h1.inj k1
   subst this
   exact ih h2 k2
theorem jY.snoc {π:List Stp} {s:Stp}:∀ {v w u:V},jY H v π w -> ve H s w u -> jY H v (π ++ [s]) u:=by
 induction π with
 | nil=>intro v w u h k; rw [h] at k; exact ⟨u,k,rfl⟩
 | cons t π ih=>
   rintro v w u ⟨x,h1,h2⟩ k
   exact ⟨x,h1,ih h2 k⟩
theorem jY.mono {π:List Stp} (g:aI H H'):∀ {v w:V},jY H v π w -> jY H' v π w:=by
 induction π with
 | nil=>intro v w h; exact h
 | cons t π ih=>
   rintro v w ⟨x,h1,h2⟩
   refine ⟨x,?_,ih h2⟩
   cases t with
   | ix k=>obtain ⟨p,vs,e,e1,e2⟩:=h1; exact ⟨p,vs,e,g _ _ e1,e2⟩
   | fd f=>obtain ⟨p,C,dx,us,e,e1,e2⟩:=h1; exact ⟨p,C,dx,us,e,g _ _ e1,e2⟩
theorem br.step {t u:OV} {v:V} {fp:List Addr} {s:Stp} (h:br K cls S H t v fp) (e:t.at1 s = some u):
  ∃ w f1 rest,ve H s v w /\ br K cls S H u w f1 /\ fp.Perm (f1 ++ rest) /\
    ∀ S' H' u' f',aI S S' -> br K cls S' H' u' w f' -> (∀ a ∈ rest,∀ o,H a = some o -> H' a = some o) -> ∃ g,br K cls S' H' (t.jS s u') v g /\ g.Perm (f' ++ rest):=by
 cases t with
 | sh x=>cases s <;> cases e
 | di x=>cases s <;> cases e
 | dt x=>cases s <;> cases e
 | ol ts=>
   cases s with
   | fd f=>cases e
   | ix k=>
     unfold br at h
     obtain ⟨p,vs,f,rfl,hp,rfl,r⟩:=h
     obtain ⟨w,f1,rest,e1,r1,p1,c1⟩:=r.at e
     refine ⟨w,f1,p ::rest,⟨p,vs,rfl,hp,e1⟩,r1,?_,fun S' H' u' f' s r' g=>?_⟩
     . exact (List.Perm.cons p p1).trans (List.perm_middle.symm)
     . obtain ⟨g2,r2,p2⟩:=c1 S' H' u' w f' s r' fun a ha=>g a (by simp [ha])
       refine ⟨p ::g2,?_,(List.Perm.cons p p2).trans List.perm_middle.symm⟩
       rw [kI e1] at r2
       unfold OV.jS br
       exact ⟨p,vs,g2,rfl,g p (by simp) _ hp,rfl,r2⟩
 | ob c ks ts=>
   cases s with
   | ix k=>cases e
   | fd f=>
     unfold br at h
     obtain ⟨p,C,dx,us,ff,rfl,hc,hp,hd,hk,rfl,r⟩:=h
     obtain ⟨k,e1,e2,e3,e4⟩:=Ax e
     obtain ⟨w,f1,rest,q1,r1,p1,c1⟩:=r.at e1
     refine ⟨w,f1,p ::dx ::rest,⟨p,C,dx,us,rfl,hp,by rw [e4 us hk]; exact q1⟩,r1,?_,fun S' H' u' f' s r' g=>?_⟩
     . exact ((List.Perm.cons p ((List.Perm.cons dx p1).trans List.perm_middle.symm))).trans List.perm_middle.symm
     . obtain ⟨g2,r2,p2⟩:=c1 S' H' u' w f' s r' fun a ha=>g a (by simp [ha])
       refine ⟨p ::dx ::g2,?_,(List.Perm.cons p ((List.Perm.cons dx p2).trans List.perm_middle.symm)).trans List.perm_middle.symm⟩
       rw [kI q1] at r2
       unfold OV.jS br
       exact ⟨p,C,dx,us,g2,rfl,hc,g p (by simp) _ hp,g dx (by simp) _ hd,hk,rfl,by rw [e3]; exact r2⟩
theorem br.focus {π:List Stp}:∀ {t u:OV} {v:V} {fp:List Addr},br K cls S H t v fp -> t.get π = some u ->
  ∃ w f1 rest,jY H v π w /\ br K cls S H u w f1 /\ fp.Perm (f1 ++ rest) /\
    ∀ S' H' u' f',aI S S' -> br K cls S' H' u' w f' -> (∀ a ∈ rest,∀ o,H a = some o -> H' a = some o) -> ∃ g,br K cls S' H' (t.put π u') v g /\ g.Perm (f' ++ rest):=by
 induction π with
 | nil=>
   intro t u v fp h e
   cases e
   exact ⟨v,fp,[],rfl,h,by simp,fun S' H' u' f' _ r' _=>⟨f',by unfold OV.put; exact r',by simp⟩⟩
 | cons s π ih=>
   intro t u v fp h e
   unfold OV.get at e
   obtain ⟨t1,e1,e2⟩:=Option.bind_eq_some_iff.mp e
   obtain ⟨w1,f1,rest1,st,r1,p1,c1⟩:=h.step e1
   obtain ⟨w,f2,rest2,wk,r2,p2,c2⟩:=ih r1 e2
   refine ⟨w,f2,rest2 ++ rest1,⟨w1,st,wk⟩,r2,?_,fun S' H' u' f' s' r' g=>?_⟩
   . rw [<- List.append_assoc]
     exact p1.trans (List.Perm.append_right rest1 p2)
   . obtain ⟨g1,q1,k1⟩:=c2 S' H' u' f' s' r' fun a ha=>g a (List.mem_append_left _ ha)
     obtain ⟨g2,q2,k2⟩:=c1 S' H' _ g1 s' q1 fun a ha=>g a (List.mem_append_right _ ha)
     refine ⟨g2,?_,?_⟩
     . unfold OV.put
       rw [e1]
       exact q2
     . rw [<- List.append_assoc]
       exact k2.trans (List.Perm.append_right rest1 k1)
theorem SR.tree {i:Nat} {t:OV} (I:SR K cls Av G S₀ ρ σ S H) (e:fO i ρ = some t):∃ v fp,σ[i]? = some (some v) /\ br K cls S H t v fp:=by
 obtain ⟨F,J⟩:=I
 unfold fO at e
 cases q:ρ[i]? with
 | none=>rw [q] at e; cases e
 | some o=>
   cases o with
   | none=>rw [q] at e; cases e
   | some s=>
     rw [q] at e
     obtain ⟨v,e1,r⟩:=J.own i s q
     cases s with
     | tr io t'=>cases e; exact ⟨v,_,e1,r.1⟩
     | bo t'=>
       cases e
       obtain ⟨_,f,r⟩:=r
       exact ⟨v,f,e1,r.mono (aI.refl _) fun _ _ _ h=>J.gh _ _ h⟩
     | sh x=>cases e
     | ow xs=>cases e
     | ex c fs=>cases e
noncomputable def JP (K:PySem.W.Frag) (cls:String -> Option Addr) (te:TE) (i:Nat) (mp:MP):Prop:=∀ Av G S₀ ρ σ S H Q v0 t π,SR K cls Av G S₀ ρ σ S H -> fO i ρ = some t -> σ[i]? = some (some v0) -> mp ρ = some π -> (t.get π).isSome = true ->
 (∀ w S' H',bf S H S' H' -> jY H' v0 π w -> Q w H') -> te σ H Q
theorem aO {i:Nat}:JP K cls (yM i) i aH:=by
 intro Av G S₀ ρ σ S H Q v0 t π I e ev ep _ k
 cases ep
 exact ⟨v0,ev,k v0 S H (bf.refl I.sh) rfl⟩
theorem Ko {i:Nat} {te tk:TE} {mp:MP} {mk:ae -> OE} (hp:JP K cls te i mp) (hk:JE K cls W tk mk):JP K cls (tOp (Fh K) te tk) i (pIx i mp mk):=by
 intro Av G S₀ ρ σ S H Q v0 t π I e ev ep hs k
 unfold pIx at ep
 rw [e] at ep
 dsimp only at ep
 split at ep
 . rename_i π0 e0
   split at ep
   . rename_i ts e1
     split at ep
     . rename_i r er
       split at ep
       . rename_i n en
         obtain ⟨j,ej,e2⟩:=Option.map_eq_some_iff.mp ep
         subst e2
         refine hp Av G S₀ ρ σ S H _ v0 t π0 I e ev e0 (by rw [e1]; rfl) fun w S1 H1 w1 wk=>?_
         refine hk Av G S₀ ρ σ S1 H1 _ (I.grow w1) ?_
         rw [er]
         intro u S2 H2 w2 ru
         have I2:=(I.grow w1).grow w2
         have hu:u = .int n:=by have:=ru.rd I2.sh; rw [en] at this; exact dH this
         subst hu
         obtain ⟨v,fp,ev',ro⟩:=I2.tree e
         rw [ev] at ev'; cases ev'
         obtain ⟨w',f1,rest,wk',r',_,_⟩:=ro.focus e1
         have:=(wk.mono w2.g).inj wk'
         subst this
         unfold br at r'
         obtain ⟨p,vs,f,rfl,hl,rfl,rs⟩:=r'
         have hj:j < ts.length:=by
          have h1:L2.atI ts n = ts[j]?:=by unfold L2.atI; show (ixP ts.length n).bind _ = _; rw [ej]; rfl
          unfold ixP at ej
          split at ej
          . split at ej
            . cases ej; omega
            . cases ej
          . split at ej
            . cases ej; omega
            . cases ej
         have hjv:j < vs.length:=by rw [rs.length]; exact hj
         have hx:vs[j]? = some vs[j]:=by simp [hjv]
         refine ⟨p,vs,n,vs[j],rfl,rfl,SqL.new hl,?_,k _ S2 H2 (w1.trans w2) (wk'.snoc ⟨p,vs,rfl,hl,hx⟩)⟩
         unfold L2.atI
         show (ixP vs.length n).bind _ = _
         rw [rs.length,ej]
         exact hx
       . cases ep
     . cases ep
   . cases ep
 . cases ep
theorem JP.sub {i:Nat} {te:TE} {mp:MP} {u:OV} {Q:VK} (hp:JP K cls te i mp) (I:SR K cls Av G S₀ ρ σ S H) (e:subAt i mp ρ = some u)
  (k:∀ w S' H' f,bf S H S' H' -> SR K cls Av G S₀ ρ σ S' H' -> br K cls S' H' u w f -> Q w H'):te σ H Q:=by
 unfold subAt at e
 split at e
 . rename_i t et
   split at e
   . rename_i π eπ
     obtain ⟨v0,fp0,ev,_⟩:=I.tree et
     refine hp Av G S₀ ρ σ S H _ v0 t π I et ev eπ (by rw [e]; rfl) fun w S1 H1 w1 wk=>?_
     obtain ⟨v,fp,ev',ro⟩:=(I.grow w1).tree et
     rw [ev] at ev'; cases ev'
     obtain ⟨w',f1,rest,wk',r',_,_⟩:=ro.focus e
     have:=wk.inj wk'
     subst this
     exact k w S1 H1 f1 w1 (I.grow w1) r'
   . cases e
 . cases e
theorem xu {i:Nat} {te:TE} {mp:MP} {f:Str} {ok:String -> Bool} (hp:JP K cls te i mp) (ha:∀ c C,cls c = some C -> ok c = true -> Cls K C /\ lY K C f):JP K cls (Hk K te f) i (pFd i mp f ok):=by
 intro Av G S₀ ρ σ S H Q v0 t π I e ev ep hs k
 unfold pFd at ep
 split at ep
 . rename_i c ks ts es
   split at ep
   . rename_i hok
     rw [Bool.and_eq_true] at hok
     obtain ⟨π0,e0,rfl⟩:=Option.map_eq_some_iff.mp ep
     have e1:t.get π0 = some (.ob c ks ts):=by
      unfold subAt at es
      rw [e] at es
      dsimp only at es
      rw [e0] at es
      exact es
     refine hp Av G S₀ ρ σ S H _ v0 t π0 I e ev e0 (by rw [e1]; rfl) fun w S1 H1 w1 wk=>?_
     have I1:=I.grow w1
     obtain ⟨v,fp,ev',ro⟩:=I1.tree e
     rw [ev] at ev'; cases ev'
     obtain ⟨w',f1,rest,wk',r',_,_⟩:=ro.focus e1
     have:=wk.inj wk'
     subst this
     unfold br at r'
     obtain ⟨p,C,dx,us,ff,rfl,hcl,hp',hd,hk,rfl,r⟩:=r'
     obtain ⟨a1,a2⟩:=ha c C hcl hok.1
     cases q:o3 ks ts f with
     | none=>rw [q] at hok; cases hok.2
     | some u=>
       obtain ⟨n,h1,h2,h3,h4⟩:=Ax q
       have hn:n < (us.map (·.2)).length:=by rw [r.length]; exact (List.getElem?_eq_some_iff.mp h1).1
       have hx:us.lookup f = some (us.map (·.2))[n]:=by rw [h4 us hk]; exact List.getElem?_eq_getElem hn
       exact ⟨p,C,dx,us,_,rfl,hp',a1,a2,hx,k _ S1 H1 w1 (wk'.snoc ⟨p,C,dx,us,rfl,hp',hx⟩)⟩
   . cases ep
 . cases ep
theorem gv {i:Nat} {te:TE} {mp:MP} (hp:JP K cls te i mp):JE K cls W te (cX i mp):=by
 intro Av G S₀ ρ σ S H Q I p
 unfold cX at p
 split at p
 . rename_i x e
   refine hp.sub I e fun w S1 H1 f w1 _ r=>?_
   unfold br at r
   exact p w S1 H1 w1 r.2
 . rename_i ts e
   split at p
   . rename_i xs ex
     refine hp.sub I e fun w S1 H1 f w1 _ r=>?_
     unfold br at r
     obtain ⟨q,vs,ff,rfl,hq,_,rs⟩:=r
     exact p _ S1 H1 w1 ⟨q,vs,rfl,SqL.new hq,(rs.flat ex).1⟩
   . exact p.elim
 . exact p.elim
theorem gY {i:Nat} {te:TE} {mp:MP} (hp:JP K cls te i mp):JT K cls W (fun σ H Q=>te σ H fun x H'=>∃ k,y6 K x H' k /\ Q k H') (dB i mp):=by
 intro Av G S₀ ρ σ S H Q I p
 unfold dB at p
 split at p
 . rename_i ts e
   refine hp.sub I e fun w S1 H1 f w1 _ r=>?_
   unfold br at r
   obtain ⟨q,vs,ff,rfl,hq,_,rs⟩:=r
   refine ⟨_,.inl ⟨vs,SqL.new hq,rfl⟩,?_⟩
   have:vs.isEmpty = ts.isEmpty:=by
    have:=rs.length
    cases vs <;> cases ts <;> simp_all
   rw [this]
   exact p S1 H1 w1
 . exact p.elim
theorem jN {i:Nat} {te:TE} {mp:MP} (hp:JP K cls te i mp):JE K cls W (tCB (fun xs H Q=>∃ p ys,xs = [.ref p] /\ (SqL K H p ys \/ SqT K H p ys) /\ Q (.int ys.length) H) (jd te kD)) (gd i mp):=by
 intro Av G S₀ ρ σ S H Q I p
 unfold gd at p
 split at p
 . rename_i ts e
   refine hp.sub I e fun w S1 H1 f w1 _ r=>?_
   unfold br at r
   obtain ⟨q,vs,ff,rfl,hq,_,rs⟩:=r
   exact ⟨q,vs,rfl,.inl (SqL.new hq),p _ S1 H1 w1 (by show Rep K S1 _ _; unfold Rep; rw [rs.length])⟩
 . exact p.elim
end
end L2.P
namespace L2.P
open PySem PySem.Spec PyProof.Rows L2 L2.E
section
variable {K:PySem.W.Frag} {cls:String -> Option Addr} {W:XW} {Av G S₀ S S' H H' B B':Hp} {ρ:ae} {σ:St} {Q:VK} {F:Nat -> List Addr}
theorem SRF.part {i:Nat} {io:Bool} {t u:OV} {v0:V} {π:List Stp} (J:SRF K cls Av G S₀ ρ σ S H F) (hi:ρ[i]? = some (some (.tr io t))) (hv:σ[i]? = some (some v0)) (e:t.get π = some u):
  ∃ w f1 rest,jY H v0 π w /\ br K cls S H u w f1 /\ (F i).Perm (f1 ++ rest) /\ (f1 ++ rest).Nodup /\ (∀ a ∈ f1,G a = none /\ S a = none) /\
    ∀ S' H' u' f',aI S S' -> aI S' H' -> aI G H' -> (∀ b,S' b ≠ none -> S₀ b ≠ none \/ G b = none) -> br K cls S' H' u' w f' -> f'.Nodup -> (∀ a ∈ f',a ∈ f1 \/ H a = none) -> (∀ a ∈ f',S' a = none) ->
      (∀ a o,a ∉ f1 -> H a = some o -> H' a = some o) -> (∀ a,S' a ≠ none -> S a ≠ none \/ H a = none \/ a ∈ f1) ->
      ∃ g,SRF K cls Av G S₀ (ρ.set i (some (.tr io (t.put π u')))) σ S' H' (n4 F i g) /\ g.Perm (f' ++ rest):=by
 obtain ⟨v,ev,ro,nd,gs,hio⟩:=J.own i _ hi
 rw [hv] at ev; cases ev
 obtain ⟨w,f1,rest,wk,r1,p1,c1⟩:=ro.focus e
 have nd1:(f1 ++ rest).Nodup:=p1.nodup_iff.mp nd
 have in1:∀ a,a ∈ f1 -> a ∈ F i:=fun a ha=>p1.mem_iff.mpr (List.mem_append_left _ ha)
 have inr:∀ a,a ∈ rest -> a ∈ F i:=fun a ha=>p1.mem_iff.mpr (List.mem_append_right _ ha)
 have off1:∀ a,a ∈ rest -> a ∉ f1:=fun a ha hb=>(List.nodup_append.mp nd1).2.2 a hb a ha rfl
 refine ⟨w,f1,rest,wk,r1,p1,nd1,fun a ha=>gs a (in1 a ha),fun S' H' u' f' s sh gh new r' nd' fr nS keep nw=>?_⟩
 obtain ⟨g,rg,pg⟩:=c1 S' H' u' f' s r' fun a ha o h=>keep a o (off1 a ha) h
 have noS:∀ j a,a ∈ F j -> a ∉ f1 -> S' a = none:=fun j a ha hb=>by
  cases q:S' a with
  | none=>rfl
  | some o=>
    obtain ⟨⟨o',h1,_⟩,_,h3⟩:=J.live j a ha
    rcases nw a (by rw [q]; simp) with z | z | z
    . exact absurd h3 z
    . rw [h1] at z; cases z
    . exact absurd z hb
 have J1:SRF K cls Av G S₀ (ρ.set i none) (σ.set i none) S H (n4 F i []):=J.put (fun t e=>nomatch e) (fun a ha=>nomatch ha) fun j a _ ha=>nomatch ha
 have off:∀ j a,a ∈ n4 F i [] j -> a ∉ f1 /\ j ≠ i:=fun j a ha=>by
  by_cases ej:j = i
  . subst ej; rw [i3] at ha; cases ha
  . rw [fw ej] at ha
    exact ⟨fun hb=>ej (J.apart j i a ha (in1 a hb)),ej⟩
 have J2:=J1.change (S':=S') (H':=H') gh s sh new (fun j a ha o h=>keep a o (off j a ha).1 h)
  (fun b o hx h=>keep b o (fun hb=>by
    obtain ⟨⟨o',h1,h2⟩,_⟩:=J.live i b (in1 b hb)
    rw [h] at h1; cases h1; rw [hx] at h2; cases h2) h)
  fun j a ha=>by
   have hj:=off j a ha
   rw [fw hj.2] at ha
   exact noS j a ha hj.1
 have mem:∀ a,a ∈ g -> a ∈ f' \/ a ∈ rest:=fun a ha=>List.mem_append.mp (pg.mem_iff.mp ha)
 have hlive:∀ a ∈ g,(∃ o,H' a = some o /\ isX o = false) /\ G a = none /\ S' a = none:=fun a ha=>by
  refine ⟨rg.live a ha,?_,?_⟩
  . rcases mem a ha with z | z
    . rcases fr a z with y | y
      . exact (gs a (in1 a y)).1
      . exact J.gh.free y
    . exact (gs a (inr a z)).1
  . rcases mem a ha with z | z
    . exact nS a z
    . exact noS i a (inr a z) (off1 a z)
 have ndg:g.Nodup:=pg.nodup_iff.mpr (List.nodup_append.mpr ⟨nd',(List.nodup_append.mp nd1).2.1,fun a ha b hb z=>by
  subst z
  rcases fr a ha with y | y
  . exact off1 a hb y
  . obtain ⟨⟨o',h1,_⟩,_⟩:=J.live i a (inr a hb)
    rw [y] at h1; cases h1⟩)
 have J3:=J2.put (i:=i) (s:=some (.tr io (t.put π u'))) (u:=some v0) (fp:=g) (fun t' e=>by
  cases e
  exact ⟨v0,rfl,rg,ndg,fun a ha=>⟨(hlive a ha).2.1,(hlive a ha).2.2⟩,hio⟩) hlive fun j a hj ha hz=>by
   rw [fw hj] at hz
   rcases mem a ha with z | z
   . rcases fr a z with y | y
     . exact hj (J.apart j i a hz (in1 a y))
     . obtain ⟨⟨o',h1,_⟩,_⟩:=J.live j a hz
       rw [y] at h1; cases h1
   . exact hj (J.apart j i a hz (inr a z))
 rw [List.set_set,List.set_set,kI hv] at J3
 have eF:n4 (n4 F i []) i g = n4 F i g:=by
  funext j
  by_cases ej:j = i
  . subst ej; rw [i3,i3]
  . rw [fw ej,fw ej,fw ej]
 rw [eF] at J3
 exact ⟨g,J3,pg⟩
theorem SRF.more {s:Option Sl} {u:Option V} {fp:List Addr} (I:SRF K cls Av G S₀ ρ σ S H F) (h:∀ t,s = some t -> ∃ v,u = some v /\ sM K cls Av G S H ρ.length t v fp)
  (hl:∀ a ∈ fp,(∃ o,H a = some o /\ isX o = false) /\ G a = none /\ S a = none) (ap:∀ j a,j < ρ.length -> a ∈ fp -> a ∉ F j):∃ F',SRF K cls Av G S₀ (ρ ++ [s]) (σ ++ [u]) S H F':=by
 refine ⟨fun j=>if j < ρ.length then F j else if j = ρ.length then fp else [],I.gh,I.s0,I.sh,I.new,fun j t e=>?_,fun j k a h1 h2=>?_,fun j a ha=>?_,by simp [I.len]⟩
 . by_cases hj:j < ρ.length
   . rw [List.getElem?_append_left hj] at e
     rw [List.getElem?_append_left (by rw [<- I.len]; exact hj)]
     simp only [hj,if_true]
     exact I.own j t e
   . rw [List.getElem?_append_right (Nat.le_of_not_lt hj)] at e
     have h0:j - ρ.length = 0:=by
      by_cases h:j - ρ.length = 0
      . exact h
      . rw [List.getElem?_eq_none (by simp; omega)] at e; cases e
     rw [h0] at e
     have ej:j = ρ.length:=by omega
     obtain ⟨v,e2,r⟩:=h t (Option.some.inj e)
     refine ⟨v,?_,?_⟩
     . rw [List.getElem?_append_right (by rw [<- I.len]; omega),<- I.len,h0,e2]; rfl
     . subst ej
       simp only [Nat.lt_irrefl,if_false,if_true]
       exact r
 . by_cases hj:j < ρ.length
   . simp only [hj,if_true] at h1
     by_cases hk:k < ρ.length
     . simp only [hk,if_true] at h2; exact I.apart j k a h1 h2
     . simp only [hk,if_false] at h2
       split at h2
       . exact absurd h1 (ap j a hj h2)
       . cases h2
   . simp only [hj,if_false] at h1
     split at h1
     . rename_i ej
       by_cases hk:k < ρ.length
       . simp only [hk,if_true] at h2; exact absurd h2 (ap k a hk h1)
       . simp only [hk,if_false] at h2
         split at h2
         . rename_i ek; rw [ej,ek]
         . cases h2
     . cases h1
 . by_cases hj:j < ρ.length
   . simp only [hj,if_true] at ha; exact I.live j a ha
   . simp only [hj,if_false] at ha
     split at ha
     . exact hl a ha
     . cases ha
theorem SR.fold {i:Nat} {s:Sl} {v:V} (I:SR K cls Av G S₀ (ρ ++ [some s]) (σ ++ [some v]) S H) (hs:nio s = true):SR K cls Av G S₀ (ρ.set i (some s)) (σ.set i (some v)) S H:=by
 obtain ⟨F,J⟩:=I
 have hlen:ρ.length = σ.length:=by have:=J.len; simpa using this
 obtain ⟨v',ev,r⟩:=J.own ρ.length s (by simp)
 have ev':v' = v:=by
  rw [List.getElem?_append_right (by rw [hlen]; exact Nat.le_refl _),hlen,Nat.sub_self] at ev
  cases ev; rfl
 subst ev'
 have J1:SRF K cls Av G S₀ ρ σ S H (fun j=>if j < ρ.length then F j else []):=by
  refine ⟨J.gh,J.s0,J.sh,J.new,fun j t e=>?_,fun j k a h1 h2=>?_,fun j a ha=>?_,hlen⟩
  . have hj:j < ρ.length:=(List.getElem?_eq_some_iff.mp e).1
    obtain ⟨v2,e2,r2⟩:=J.own j t (by rw [List.getElem?_append_left hj]; exact e)
    rw [List.getElem?_append_left (by rw [<- hlen]; exact hj)] at e2
    simp only [hj,if_true]
    exact ⟨v2,e2,r2⟩
  . split at h1
    . split at h2
      . exact J.apart j k a h1 h2
      . cases h2
    . cases h1
  . split at ha
    . exact J.live j a ha
    . cases ha
 refine ⟨_,J1.put (i:=i) (s:=some s) (u:=some v') (fp:=F ρ.length) (fun t e=>?_) (fun a ha=>J.live _ a ha) fun j a hj ha hz=>?_⟩
 . cases e
   refine ⟨v',rfl,?_⟩
   cases s with
   | sh x=>exact r
   | ow xs=>exact r
   | ex c fs=>exact r
   | tr io t=>
     cases io with
     | true=>cases hs
     | false=>exact ⟨r.1,r.2.1,r.2.2.1,fun z=>nomatch z⟩
   | bo t=>cases hs
 . split at hz
   . rename_i hj'
     have:=J.apart j ρ.length a hz ha
     omega
   . cases hz
theorem SR.Ay {s:Option Sl} {u:Option V} (I:SR K cls Av G S₀ (ρ ++ [s]) (σ ++ [u]) S H):SR K cls Av G S₀ ρ σ S H:=by
 obtain ⟨F,J⟩:=I
 have hlen:ρ.length = σ.length:=by have:=J.len; simpa using this
 refine ⟨F,J.gh,J.s0,J.sh,J.new,fun j t e=>?_,J.apart,J.live,hlen⟩
 have hj:j < ρ.length:=(List.getElem?_eq_some_iff.mp e).1
 obtain ⟨v2,e2,r2⟩:=J.own j t (by rw [List.getElem?_append_left hj]; exact e)
 rw [List.getElem?_append_left (by rw [<- hlen]; exact hj)] at e2
 exact ⟨v2,e2,r2⟩
noncomputable def CF (K:PySem.W.Frag) (cls:String -> Option Addr) (B S H:Hp) (t:OV) (v:V):Prop:=∃ fp,br K cls S H t v fp /\ fp.Nodup /\ ∀ a ∈ fp,B a = none /\ S a = none
noncomputable def Jr (K:PySem.W.Frag) (cls:String -> Option Addr) (B S H:Hp) (ts:List OV) (vs:List V):Prop:=∃ fp,bz K cls S H ts vs fp /\ fp.Nodup /\ ∀ a ∈ fp,B a = none /\ S a = none
noncomputable def Jk (K:PySem.W.Frag) (cls:String -> Option Addr) (W:XW) (σ:St) (S H:Hp) (Q:VK):OD -> Prop
 | .ok t=>∀ v S' H',bf S H S' H' -> CF K cls H S' H' t v -> Q v H'
 | .exc c fs=>∀ a C S' H',bf S H S' H' -> oI K cls S' H' c fs a C -> W (.ref C) (some a) σ H'
 | .bad=>False
noncomputable def GI (K:PySem.W.Frag) (cls:String -> Option Addr) (W:XW) (σ:St) (S H:Hp) (Q:List V -> Hp -> Prop):ODs -> Prop
 | .ok ts=>∀ vs S' H',bf S H S' H' -> Jr K cls H S' H' ts vs -> Q vs H'
 | .exc c fs=>∀ a C S' H',bf S H S' H' -> oI K cls S' H' c fs a C -> W (.ref C) (some a) σ H'
 | .bad=>False
noncomputable def JD (K:PySem.W.Frag) (cls:String -> Option Addr) (W:XW) (te:TE) (m:ae -> OD):Prop:=∀ Av G S₀ ρ σ S H Q,SR K cls Av G S₀ ρ σ S H -> Jk K cls W σ S H Q (m ρ) -> te σ H Q
noncomputable def JDs (K:PySem.W.Frag) (cls:String -> Option Addr) (W:XW) (te:TA) (m:ae -> ODs):Prop:=∀ Av G S₀ ρ σ S H Q,SR K cls Av G S₀ ρ σ S H -> GI K cls W σ S H Q (m ρ) -> te σ H Q
theorem CF.grow {S1 H1:Hp} {t:OV} {v:V} (h:CF K cls B S H t v) (w:bf S H S1 H1):CF K cls B S1 H1 t v:=by
 obtain ⟨fp,r,nd,g⟩:=h
 refine ⟨fp,r.mono w.s fun a _ o z=>w.g _ _ z,nd,fun a ha=>⟨(g a ha).1,?_⟩⟩
 obtain ⟨o,h1,_⟩:=r.live a ha
 cases q:S1 a with
 | none=>rfl
 | some o'=>
   rcases w.new a (by rw [q]; simp) with z | z
   . exact absurd (g a ha).2 z
   . rw [h1] at z; cases z
theorem kU {te:TE} {me:ae -> OE} (h:JE K cls W te me):JD K cls W te (mD me):=by
 intro Av G S₀ ρ σ S H Q I p
 refine h Av G S₀ ρ σ S H Q I ?_
 unfold mD at p
 cases e:me ρ with
 | exc c fs=>rw [e] at p; exact p
 | bad=>rw [e] at p; exact p
 | ok r=>
   rw [e] at p
   cases r with
   | sh x=>exact fun v S' H' w r=>p v S' H' w ⟨[],by unfold br; exact ⟨rfl,r⟩,List.nodup_nil,fun a ha=>nomatch ha⟩
   | al xs=>exact p.elim
   | fr xs=>
     intro v S' H' w r
     obtain ⟨q,vs,rfl,hB,hS,hH,hr⟩:=r
     refine p _ S' H' w ⟨[q],by unfold br; exact ⟨q,vs,[],rfl,hH,rfl,.shs hr⟩,by simp,fun a ha=>?_⟩
     have z:a = q:=by simpa using ha
     subst z; exact ⟨hB,hS⟩
theorem DX:JDs K cls W kD mDn:=fun Av G S₀ ρ σ S H Q I p=>p [] S H (bf.refl I.sh) ⟨[],.nil,List.nodup_nil,fun a ha=>nomatch ha⟩
theorem qM {te:TE} {t:TA} {md:ae -> OD} {mr:ae -> ODs} (hd:JD K cls W te md) (ht:JDs K cls W t mr):JDs K cls W (jd te t) (mDc md mr):=by
 intro Av G S₀ ρ σ S H Q I p
 refine hd Av G S₀ ρ σ S H _ I ?_
 unfold mDc at p
 cases e:md ρ with
 | exc c fs=>rw [e] at p; exact p
 | bad=>rw [e] at p; exact p
 | ok x=>
   rw [e] at p
   intro v S1 H1 w1 r1
   refine ht Av G S₀ ρ σ S1 H1 _ (I.grow w1) ?_
   dsimp only at p
   cases e2:mr ρ with
   | exc c fs=>rw [e2] at p; exact fun a C S' H' w x=>p a C S' H' (w1.trans w) x
   | bad=>rw [e2] at p; exact p
   | ok ts=>
     rw [e2] at p
     intro vs S2 H2 w2 r2
     obtain ⟨f2,q2,n2,g2⟩:=r2
     have r3:=r1.grow w2
     obtain ⟨f0,q0,n0,g0⟩:=r1
     refine p (v ::vs) S2 H2 (w1.trans w2) ⟨f0 ++ f2,.cons (q0.mono w2.s fun a _ o z=>w2.g _ _ z) q2,List.nodup_append.mpr ⟨n0,n2,fun a ha b hb z=>?_⟩,fun a ha=>?_⟩
     . subst z
       obtain ⟨o,h1,_⟩:=q0.live a ha
       rw [(g2 a hb).1] at h1; cases h1
     . rcases List.mem_append.mp ha with z | z
       . refine ⟨(g0 a z).1,?_⟩
         obtain ⟨o,h1,_⟩:=q0.live a z
         cases q:S2 a with
         | none=>rfl
         | some o'=>
           rcases w2.new a (by rw [q]; simp) with y | y
           . exact absurd (g0 a z).2 y
           . rw [h1] at y; cases y
       . exact ⟨w1.g.free (g2 a z).1,(g2 a z).2⟩
theorem Gv {t:TA} {mr:ae -> ODs} (h:JDs K cls W t mr):JD K cls W (Eo t) (mDl mr):=by
 intro Av G S₀ ρ σ S H Q I p
 refine h Av G S₀ ρ σ S H _ I ?_
 unfold mDl at p
 cases e:mr ρ with
 | exc c fs=>rw [e] at p; exact p
 | bad=>rw [e] at p; exact p
 | ok ts=>
   rw [e] at p
   dsimp only at p
   split at p
   . rename_i hl
     intro vs S1 H1 w1 r1
     obtain ⟨fp,r,nd,g⟩:=r1
     refine ⟨by rw [r.length]; exact hl,fun q hq=>?_⟩
     have w2:bf S1 H1 S1 (upd H1 q (.lst vs)):=bf.heap w1.sh hq
     refine p (.ref q) S1 _ (w1.trans w2) ⟨q ::fp,by unfold br; exact ⟨q,vs,fp,rfl,bD,rfl,r.mono (aI.refl _) fun a _ o z=>w2.g _ _ z⟩,List.nodup_cons.mpr ⟨fun z=>?_,nd⟩,fun a ha=>?_⟩
     . obtain ⟨o,h1,_⟩:=r.live q z
       rw [hq] at h1; cases h1
     . rcases List.mem_cons.mp ha with z | z
       . subst z; exact ⟨w1.g.free hq,w1.sh.free hq⟩
       . exact g a z
   . exact p.elim
theorem SR.Js {i:Nat} {t:OV} {v:V} (I:SR K cls Av G S₀ ρ σ S H) (w:bf S H S' H') (h:CF K cls H S' H' t v):SR K cls Av G S₀ (ρ.set i (some (.tr false t))) (σ.set i (some v)) S' H':=by
 obtain ⟨F,J⟩:=I
 obtain ⟨fp,r,nd,g⟩:=h
 refine ⟨_,(J.grow w).put (fp:=fp) (fun t' e=>by cases e; exact ⟨v,rfl,r,nd,fun a ha=>⟨J.gh.free (g a ha).1,(g a ha).2⟩,fun z=>nomatch z⟩) (fun a ha=>⟨r.live a ha,J.gh.free (g a ha).1,(g a ha).2⟩) fun j a _ ha hz=>?_⟩
 obtain ⟨⟨o,h1,_⟩,_⟩:=J.live j a hz
 rw [(g a ha).1] at h1; cases h1
theorem qF {i:Nat} {te:TE} {md:ae -> OD} (h:JD K cls W te md):JS K cls W (ub te (kE i)) (my i md):=by
 intro Av G S₀ ρ σ S H D I p
 refine h Av G S₀ ρ σ S H _ I ?_
 unfold my at p
 cases e:md ρ with
 | exc c fs=>rw [e] at p; exact fun a C S' H' w x=>p a C σ S' H' (I.grow w) w.s x
 | bad=>rw [e] at p; exact p
 | ok t=>rw [e] at p; exact fun v S1 H1 w1 r1=>p _ S1 H1 (I.Js w1 r1) w1.s
end
end L2.P
namespace L2.P
open PySem PySem.Spec PyProof.Rows L2 L2.E
section
variable {K:PySem.W.Frag} {cls:String -> Option Addr} {W:XW} {Av G S₀ S S' H H' B B':Hp} {ρ:ae} {σ:St} {Q:VK} {F:Nat -> List Addr}
theorem br.Dp {ts:List OV} {v:V} {fp:List Addr} (h:br K cls S H (.ol ts) v fp):∃ p vs f,v = .ref p /\ H p = some (.lst vs) /\ fp = p ::f /\ bz K cls S H ts vs f:=by unfold br at h; exact h
theorem SRF.sW {i:Nat} {io:Bool} {t:OV} {ts:List OV} {v0:V} {π:List Stp} (J:SRF K cls Av G S₀ ρ σ S H F) (hi:ρ[i]? = some (some (.tr io t))) (hv:σ[i]? = some (some v0)) (e:t.get π = some (.ol ts)):
  ∃ q vs ff rest,jY H v0 π (.ref q) /\ H q = some (.lst vs) /\ vs.length = ts.length /\ bz K cls S H ts vs ff /\ (F i).Perm ((q ::ff) ++ rest) /\ ((q ::ff) ++ rest).Nodup /\
    ∀ S' H' ts' vs' f',bf S H S' H' -> bz K cls S' H' ts' vs' f' -> f'.Nodup -> (∀ a ∈ f',a ∈ ff \/ (H a = none /\ S' a = none)) ->
      ∃ g,SRF K cls Av G S₀ (ρ.set i (some (.tr io (t.put π (.ol ts'))))) σ S' (upd H' q (.lst vs')) (n4 F i g) /\ g.Perm ((q ::f') ++ rest):=by
 obtain ⟨w,f1,rest,wk,r1,p1,nd1,gs,c⟩:=J.part hi hv e
 obtain ⟨q,vs,ff,rfl,hq,rfl,rs⟩:=r1.Dp
 refine ⟨q,vs,ff,rest,wk,hq,rs.length,rs,p1,nd1,fun S' H' ts' vs' f' wg r' nd' fr=>?_⟩
 have hGq:=(gs q (by simp)).1
 have hSq:=(gs q (by simp)).2
 have hS'q:S' q = none:=by
  cases z:S' q with
  | none=>rfl
  | some o=>
    rcases wg.new q (by rw [z]; simp) with y | y
    . exact absurd hSq y
    . rw [hq] at y; cases y
 have nq:q ∉ f':=fun z=>by
  rcases fr q z with y | y
  . exact (List.nodup_cons.mp (List.nodup_append.mp nd1).1).1 y
  . rw [y.1] at hq; cases hq
 have nS:∀ a ∈ f',S' a = none:=fun a ha=>by
  rcases fr a ha with y | y
  . cases z:S' a with
    | none=>rfl
    | some o=>
      obtain ⟨o',h1,_⟩:=rs.live a y
      rcases wg.new a (by rw [z]; simp) with k | k
      . exact absurd (gs a (by simp [y])).2 k
      . rw [h1] at k; cases k
  . exact y.2
 refine c S' (upd H' q (.lst vs')) (.ol ts') (q ::f') wg.s (wg.sh.upd hS'q) ((J.gh.trans wg.g).upd hGq) (fun b h=>?_) ?_ (List.nodup_cons.mpr ⟨nq,nd'⟩) (fun a ha=>?_) (fun a ha=>?_) (fun a o hn h=>?_) fun a h=>?_
 . rcases wg.new b h with z | z
   . exact J.new b z
   . exact .inr (J.gh.free z)
 . unfold br
   exact ⟨q,vs',f',rfl,bD,rfl,r'.mono (aI.refl _) fun a ha o h=>by rw [bJ (fun z=>nq (by rw [<- z]; exact ha))]; exact h⟩
 . rcases List.mem_cons.mp ha with z | z
   . subst z; exact .inl (by simp)
   . rcases fr a z with y | y
     . exact .inl (by simp [y])
     . exact .inr y.1
 . rcases List.mem_cons.mp ha with z | z
   . subst z; exact hS'q
   . exact nS a z
 . rw [bJ (fun z=>hn (by rw [z]; simp))]; exact wg.g _ _ h
 . rcases wg.new a h with z | z
   . exact .inl z
   . exact .inr (.inl z)
theorem JP.at {i:Nat} {te:TE} {mp:MP} {io:Bool} {t u:OV} {v0:V} {π:List Stp} {Q:VK} (hp:JP K cls te i mp) (I:SR K cls Av G S₀ ρ σ S H) (hi:ρ[i]? = some (some (.tr io t))) (hv:σ[i]? = some (some v0)) (e0:mp ρ = some π) (e1:t.get π = some u)
  (k:∀ w S' H',bf S H S' H' -> SR K cls Av G S₀ ρ σ S' H' -> jY H' v0 π w -> Q w H'):te σ H Q:=
 hp Av G S₀ ρ σ S H Q v0 t π I (by unfold fO; rw [hi]; rfl) hv e0 (by rw [e1]; rfl) fun w S1 H1 w1 wk=>k w S1 H1 w1 (I.grow w1) wk
theorem q8 {i:Nat} {mp:MP} {k:OV -> (OV -> ae) -> OS} {D:Ends} (p:jm K cls W Av G S₀ S D (tY i mp ρ k)):∃ io t π u,ρ[i]? = some (some (.tr io t)) /\ mp ρ = some π /\ t.get π = some u /\ jm K cls W Av G S₀ S D (k u fun u'=>ρ.set i (some (.tr io (t.put π u')))):=by
 unfold tY at p
 split at p
 . rename_i io t hi
   split at p
   . rename_i π e0
     split at p
     . rename_i u e1
       exact ⟨io,t,π,u,hi,e0,e1,p⟩
     . exact p.elim
   . exact p.elim
 . exact p.elim
theorem SR.val {i:Nat} {s:Sl} (I:SR K cls Av G S₀ ρ σ S H) (e:ρ[i]? = some (some s)):∃ v,σ[i]? = some (some v):=let ⟨v,h,_⟩:=I.good i s e; ⟨v,h⟩
theorem eJ {i:Nat} {te tx:TE} {mp:MP} {md:ae -> OD} (hp:JP K cls te i mp) (hx:JD K cls W tx md):JS K cls W (tw (tBM K "list" vL te (jd tx kD))) (cb i mp md):=by
 intro Av G S₀ ρ σ S H D I p
 obtain ⟨io,t,π,u,hi,e0,e1,p⟩:=q8 p
 obtain ⟨v0,hv⟩:=I.val hi
 cases u with
 | sh x=>exact p.elim
 | ob c ks us=>exact p.elim
 | di x=>exact p.elim
 | dt x=>exact p.elim
 | ol ts=>
   dsimp only at p
   refine hp.at I hi hv e0 e1 fun w S1 H1 w1 I1 wk=>?_
   obtain ⟨F,J1⟩:=I1
   obtain ⟨q,vs,ff,rest,wk',hq,hl,rs,_,nd,c⟩:=J1.sW hi hv e1
   have:=wk.inj wk'
   subst this
   refine ⟨.inl ⟨rfl,_,SqL.new hq⟩,?_⟩
   refine hx Av G S₀ ρ σ S1 H1 _ ⟨F,J1⟩ ?_
   cases ed:md ρ with
   | exc c fs=>rw [ed] at p; exact fun a C S' H' w x=>p a C σ S' H' (SR.grow ⟨F,J1⟩ w) (w1.s.trans w.s) x
   | bad=>rw [ed] at p; exact p
   | ok x=>
     rw [ed] at p
     dsimp only at p
     split at p
     . rename_i hlt
       intro v S2 H2 w2 r2
       obtain ⟨fx,rx,ndx,gx⟩:=r2
       refine ⟨q,vs,v,rfl,rfl,w2.g _ _ hq,by rw [hl]; exact hlt,?_⟩
       have ndf:ff.Nodup:=(List.nodup_cons.mp (List.nodup_append.mp nd).1).2
       have apx:∀ a ∈ ff,a ∉ fx:=fun a ha hb=>by
        obtain ⟨o,h1,_⟩:=rs.live a ha
        rw [(gx a hb).1] at h1; cases h1
       obtain ⟨g,J3,_⟩:=c S2 H2 (ts ++ [x]) (vs ++ [v]) (ff ++ (fx ++ [])) w2 ((rs.mono w2.s fun a _ o h=>w2.g _ _ h).append (.cons rx .nil)) (by
         rw [List.append_nil]
         exact List.nodup_append.mpr ⟨ndf,ndx,fun a ha b hb z=>by subst z; exact apx a ha hb⟩) (fun a ha=>by
         rw [List.append_nil] at ha
         rcases List.mem_append.mp ha with z | z
         . exact .inl z
         . exact .inr (gx a z))
       exact p σ S2 _ ⟨_,J3⟩ (w1.s.trans w2.s)
     . exact p.elim
end
end L2.P
namespace L2.P
open PySem PySem.Spec PyProof.Rows L2 L2.E
section
variable {K:PySem.W.Frag} {cls:String -> Option Addr} {W:XW} {Av G S₀ S S' H H' B B':Hp} {ρ:ae} {σ:St} {Q:VK} {F:Nat -> List Addr}
theorem sV {i:Nat} {te tk tx:TE} {mp:MP} {mk:ae -> OE} {md:ae -> OD} (hp:JP K cls te i mp) (hk:JE K cls W tk mk) (hx:JD K cls W tx md):JS K cls W (ub tx (IG te tk FQ)) (oV i mp mk md):=by
 intro Av G S₀ ρ σ S H D I p
 refine hx Av G S₀ ρ σ S H _ I ?_
 unfold oV at p
 cases ed:md ρ with
 | exc c fs=>rw [ed] at p; exact fun a C S' H' w x=>p a C σ S' H' (I.grow w) w.s x
 | bad=>rw [ed] at p; exact p
 | ok x=>
   rw [ed] at p
   dsimp only at p
   obtain ⟨io,t,π,u,hi,e0,e1,p⟩:=q8 p
   obtain ⟨v0,hv⟩:=I.val hi
   cases u with
   | sh x=>exact p.elim
   | ob c ks us=>exact p.elim
   | di x=>exact p.elim
   | dt x=>exact p.elim
   | ol ts=>
     dsimp only at p
     intro v S1 H1 w1 r1
     refine hp.at (I.grow w1) hi hv e0 e1 fun w S2 H2 w2 I2 wk=>?_
     have p2:=p.back (w1.s.trans w2.s)
     refine hk.goS I2 p2 fun r z S3 H3 I3 w3 r3 p3=>?_
     cases en:r.pv with
     | int n=>
       rw [en] at p3
       dsimp only at p3
       cases ej:ixP ts.length n with
       | none=>rw [ej] at p3; exact p3.elim
       | some j=>
         rw [ej] at p3
         obtain ⟨F,J⟩:=id I
         obtain ⟨q,vs,ff,rest,wk',hq,hl,rs,_,nd,c⟩:=J.sW hi hv e1
         have:=wk.inj (wk'.mono (w1.g.trans w2.g))
         subst this
         have hz:z = .int n:=by have:=r3.rd I3.sh; rw [en] at this; exact dH this
         subst hz
         have wg:bf S H S3 H3:=(w1.trans w2).trans w3
         have hj:j < ts.length:=by
          unfold ixP at ej
          split at ej
          . split at ej
            . cases ej; omega
            . cases ej
          . split at ej
            . cases ej; omega
            . cases ej
         have ndf:ff.Nodup:=(List.nodup_cons.mp (List.nodup_append.mp nd).1).2
         obtain ⟨fx,rx,ndx,gx⟩:=(r1.grow w2).grow w3
         obtain ⟨w0,f1,rs',e1',r1',p1',c1⟩:=rs.at (k:=j) (u:=ts[j]) (by simp [hj])
         obtain ⟨g,rg,pg⟩:=c1 S3 H3 x v fx wg.s rx fun a _ o h=>wg.g _ _ h
         have inff:∀ a ∈ rs',a ∈ ff:=fun a ha=>p1'.mem_iff.mpr (List.mem_append_right _ ha)
         have ndr:rs'.Nodup:=(List.nodup_append.mp (p1'.nodup_iff.mp ndf)).2.1
         have ndg:g.Nodup:=pg.nodup_iff.mpr (List.nodup_append.mpr ⟨ndx,ndr,fun a ha b hb z=>by
          subst z
          obtain ⟨o,h1,_⟩:=rs.live a (inff a hb)
          rw [(gx a ha).1] at h1; cases h1⟩)
         obtain ⟨g2,J3,_⟩:=c S3 H3 (ts.set j x) (vs.set j v) g wg rg ndg fun a ha=>by
          rcases List.mem_append.mp (pg.mem_iff.mp ha) with z | z
          . exact .inr (gx a z)
          . exact .inl (inff a z)
         exact ⟨q,vs,n,j,rfl,rfl,wg.g _ _ hq,by rw [hl]; exact ej,p3 σ S3 _ ⟨_,J3⟩ (aI.refl _)⟩
     | _=>rw [en] at p3; exact p3.elim
noncomputable def FO (K:PySem.W.Frag) (cls:String -> Option Addr) (W:XW) (Av G S₀:Hp) (σ:St) (S:Hp) (Q:VK):OX -> Prop
 | .ok ρ' s=>∀ v S' H',SR K cls Av G S₀ (ρ' ++ [some s]) (σ ++ [some v]) S' H' -> aI S S' -> Q v H'
 | .exc ρ' c fs=>∀ a C S' H',SR K cls Av G S₀ ρ' σ S' H' -> aI S S' -> oI K cls S' H' c fs a C -> W (.ref C) (some a) σ H'
 | .bad=>False
noncomputable def JX (K:PySem.W.Frag) (cls:String -> Option Addr) (W:XW) (te:TE) (m:ae -> OX):Prop:=∀ Av G S₀ ρ σ S H Q,SR K cls Av G S₀ ρ σ S H -> FO K cls W Av G S₀ σ S Q (m ρ) -> te σ H Q
theorem pf {i:Nat} {te:TE} {m:ae -> OX} (h:JX K cls W te m):JS K cls W (ub te (kE i)) (jb i m):=by
 intro Av G S₀ ρ σ S H D I p
 refine h Av G S₀ ρ σ S H _ I ?_
 unfold jb at p
 cases e:m ρ with
 | exc ρ' c fs=>rw [e] at p; exact fun a C S' H' I' s' x=>p a C σ S' H' I' s' x
 | bad=>rw [e] at p; exact p
 | ok ρ' s=>
   rw [e] at p
   dsimp only at p
   split at p
   . rename_i hs
     exact fun v S' H' I' s'=>p _ S' H' (I'.fold hs) s'
   . exact p.elim
theorem SR.Hh {x:PV} {v:V} (I:SR K cls Av G S₀ (ρ ++ [some (.sh x)]) (σ ++ [some v]) S H):Rep K S x v:=by
 obtain ⟨F,J⟩:=I
 have hlen:ρ.length = σ.length:=by have:=J.len; simpa using this
 obtain ⟨v',ev,r⟩:=J.own ρ.length (.sh x) (by simp)
 rw [List.getElem?_append_right (by rw [hlen]; exact Nat.le_refl _),hlen,Nat.sub_self] at ev
 cases ev
 exact r.2
theorem DU {te:TE} {m:ae -> OX} {ta tb:TS} {ma mb:ae -> OS} (h:JX K cls W te m) (ha:JS K cls W ta ma) (hb:JS K cls W tb mb):
  JS K cls W (DP (Gy (fun σ H Q=>te σ H fun x H'=>∃ k,y6 K x H' k /\ Q k H')) ta tb) (DV true m ma mb):=by
 intro Av G S₀ ρ σ S H D I p
 refine h Av G S₀ ρ σ S H _ I ?_
 unfold DV at p
 cases e:m ρ with
 | exc ρ' c fs=>rw [e] at p; exact fun a C S' H' I' s' x=>p a C σ S' H' I' s' x
 | bad=>rw [e] at p; exact p
 | ok ρ' s=>
   rw [e] at p
   cases s with
   | sh x=>
     dsimp only at p
     intro v S' H' I' s'
     cases et:sJ x with
     | none=>rw [et] at p; exact p.elim
     | some k=>
       rw [et] at p
       refine ⟨k,zP I'.sh (I'.Hh.rd I'.sh) et,?_⟩
       cases k with
       | false=>exact wK (ha Av G S₀ ρ' σ S' H' D I'.Ay (p.back s'))
       | true=>exact wa (hb Av G S₀ ρ' σ S' H' D I'.Ay (p.back s'))
   | ow xs=>exact p.elim
   | ex c fs=>exact p.elim
   | tr io t=>exact p.elim
   | bo t=>exact p.elim
theorem bz.last {ts:List OV} {vs:List V} {f:List Addr} {x:OV} (h:bz K cls S H ts vs f) (e:ts.getLast? = some x):∃ y f1 f2,vs[vs.length - 1]? = some y /\ bz K cls S H ts.dropLast vs.dropLast f1 /\ br K cls S H x y f2 /\ f = f1 ++ f2:=by
 induction ts generalizing vs f with
 | nil=>cases e
 | cons t ts ih=>
   obtain ⟨v,r,f1,f2,rfl,rfl,h1,h2⟩:=h.cons_inv
   cases ts with
   | nil=>
     unfold bz at h2
     obtain ⟨rfl,rfl⟩:=h2
     simp at e
     subst e
     exact ⟨v,[],f1,rfl,.nil,h1,by simp⟩
   | cons t2 ts2=>
     rw [List.getLast?_cons_cons] at e
     obtain ⟨y,g1,g2,e1,r1,r2,rfl⟩:=ih h2 e
     have hr:r ≠ []:=by intro z; subst z; have:=h2.length; simp at this
     refine ⟨y,f1 ++ g1,g2,?_,?_,r2,by simp⟩
     . cases r with
       | nil=>exact absurd rfl hr
       | cons a r'=>simpa using e1
     . cases r with
       | nil=>exact absurd rfl hr
       | cons a r'=>exact bz.cons h1 r1
theorem EA {x:OV} {v:V} {fp:List Addr} {i:Nat} (h:br K cls S H x v fp) (nd:fp.Nodup) (g:∀ a ∈ fp,G a = none /\ S a = none):sM K cls Av G S H i (slO x) v fp:=by
 cases x with
 | sh y=>unfold br at h; exact h
 | ol ts=>exact ⟨h,nd,g,fun z=>nomatch z⟩
 | ob c ks ts=>exact ⟨h,nd,g,fun z=>nomatch z⟩
 | di x=>exact ⟨h,nd,g,fun z=>nomatch z⟩
 | dt x=>exact ⟨h,nd,g,fun z=>nomatch z⟩
theorem Af {i:Nat} {te:TE} {mp:MP} (hp:JP K cls te i mp):JX K cls W (IT K "list" Jw te) (pS i mp):=by
 intro Av G S₀ ρ σ S H Q I p
 unfold pS at p
 split at p
 . rename_i io t hi
   split at p
   . rename_i π e0
     split at p
     . rename_i ts e1
       split at p
       . rename_i x ex
         obtain ⟨v0,hv⟩:=I.val hi
         refine hp.at I hi hv e0 e1 fun w S1 H1 w1 I1 wk=>?_
         obtain ⟨F,J1⟩:=id I1
         obtain ⟨q,vs,ff,rest,wk',hq,hl,rs,pF,nd,c⟩:=J1.sW hi hv e1
         have:=wk.inj wk'
         subst this
         obtain ⟨y,f1,f2,ey,ri,rx,rfl⟩:=rs.last ex
         have ndf:(f1 ++ f2).Nodup:=(List.nodup_cons.mp (List.nodup_append.mp nd).1).2
         have nq:q ∉ f1 ++ f2:=(List.nodup_cons.mp (List.nodup_append.mp nd).1).1
         refine ⟨.inl ⟨rfl,_,SqL.new hq⟩,q,vs,y,rfl,rfl,hq,ey,?_⟩
         obtain ⟨g,J3,pg⟩:=c S1 H1 ts.dropLast vs.dropLast f1 (bf.refl J1.sh) ri (List.nodup_append.mp ndf).1 fun a ha=>.inl (List.mem_append_left _ ha)
         have in2:∀ a ∈ f2,a ∈ F i:=fun a ha=>pF.mem_iff.mpr (by simp [ha])
         have rx':br K cls S1 (upd H1 q (.lst vs.dropLast)) x y f2:=rx.mono (aI.refl _) fun a ha o h=>by rw [bJ (fun z=>nq (by rw [<- z]; simp [ha]))]; exact h
         have gs2:∀ a ∈ f2,G a = none /\ S1 a = none:=fun a ha=>(J1.live i a (in2 a ha)).2
         obtain ⟨F',J4⟩:=J3.more (s:=some (slO x)) (u:=some y) (fp:=f2) (fun t' e=>by cases e; exact ⟨y,rfl,EA rx' (List.nodup_append.mp ndf).2.1 gs2⟩) (fun a ha=>⟨rx'.live a ha,gs2 a ha⟩) fun j a hj ha hz=>by
          by_cases ej:j = i
          . subst ej
            rw [i3] at hz
            have hm:=pg.mem_iff.mp hz
            have hd:=List.nodup_append.mp nd
            rcases List.mem_append.mp hm with z | z
            . rcases List.mem_cons.mp z with z | z
              . subst z; exact nq (by simp [ha])
              . exact (List.nodup_append.mp ndf).2.2 a z a ha rfl
            . exact hd.2.2 a (by simp [ha]) a z rfl
          . rw [fw ej] at hz
            exact ej (J1.apart j i a hz (in2 a ha))
         exact p y S1 _ ⟨F',J4⟩ w1.s
       . exact p.elim
     . exact p.elim
   . exact p.elim
 . exact p.elim
end
end L2.P
namespace L2.P
open PySem PySem.Spec PyProof.Rows L2 L2.E
section
variable {K:PySem.W.Frag} {cls:String -> Option Addr} {W:XW} {Av G S₀ S S' H H' B B':Hp} {ρ:ae} {σ:St} {Q:VK} {F:Nat -> List Addr}
mutual
theorem br.frozen (s:aI S S'):∀ {t:OV} {v:V} {fp:List Addr} {x:PV},br K cls S H t v fp -> pvO t = some x -> (∀ a ∈ fp,S' a = H a) -> Rep K S' x v
 | .sh y,v,fp,x,h,e,g=>by
   unfold pvO at e; cases e
   unfold br at h
   exact Rep.mono s h.2
 | .ol ts,v,fp,x,h,e,g=>by
   unfold pvO at e
   obtain ⟨xs,e1,rfl⟩:=Option.map_eq_some_iff.mp e
   obtain ⟨p,vs,f,rfl,hp,rfl,rs⟩:=h.Dp
   unfold Rep
   exact ⟨p,vs,rfl,SqL.new (by rw [g p (by simp)]; exact hp),bz.frozen s rs e1 fun a ha=>g a (by simp [ha])⟩
 | .ob c ks ts,v,fp,x,h,e,g=>by unfold pvO at e; cases e
 | .di c,v,fp,x,h,e,g=>by unfold pvO at e; cases e
 | .dt c,v,fp,x,h,e,g=>by unfold pvO at e; cases e
theorem bz.frozen (s:aI S S'):∀ {ts:List OV} {vs:List V} {fp:List Addr} {xs:List PV},bz K cls S H ts vs fp -> uz ts = some xs -> (∀ a ∈ fp,S' a = H a) -> b8 K S' xs vs
 | [],vs,fp,xs,h,e,g=>by
   unfold uz at e; cases e
   unfold bz at h
   rw [h.1]; exact .nil
 | t ::ts,vs,fp,xs,h,e,g=>by
   unfold uz at e
   obtain ⟨x,e1,e2⟩:=Option.bind_eq_some_iff.mp e
   obtain ⟨ys,e3,rfl⟩:=Option.map_eq_some_iff.mp e2
   obtain ⟨v,r,f1,f2,rfl,rfl,h1,h2⟩:=h.cons_inv
   exact .cons (br.frozen s h1 e1 fun a ha=>g a (by simp [ha])) (bz.frozen s h2 e3 fun a ha=>g a (by simp [ha]))
end
theorem SR.IU {i:Nat} {t:OV} {x:PV} (I:SR K cls Av G S₀ ρ σ S H) (hi:ρ[i]? = some (some (.tr false t))) (ex:pvO t = some x):∃ S',aI S S' /\ SR K cls Av G S₀ (ρ.set i (some (.sh x))) σ S' H:=by
 obtain ⟨F,J⟩:=I
 obtain ⟨v,hv,ro,nd,gs,_⟩:=J.own i _ hi
 have J1:SRF K cls Av G S₀ (ρ.set i none) (σ.set i none) S H (n4 F i []):=J.put (fun t e=>nomatch e) (fun a ha=>nomatch ha) fun j a _ ha=>nomatch ha
 let S':Hp:=fun a=>if a ∈ F i then H a else S a
 have sS:aI S S':=fun b u h=>by
  show (if b ∈ F i then H b else S b) = some u
  rw [if_neg (fun z=>by rw [(gs b z).2] at h; cases h)]; exact h
 have sH:aI S' H:=fun b u h=>by
  have h':(if b ∈ F i then H b else S b) = some u:=h
  split at h'
  . exact h'
  . exact J.sh b u h'
 have off:∀ j a,a ∈ n4 F i [] j -> a ∉ F i:=fun j a ha z=>by
  by_cases ej:j = i
  . subst ej; rw [i3] at ha; cases ha
  . rw [fw ej] at ha
    exact ej (J.apart j i a ha z)
 have J2:=J1.change (S':=S') (H':=H) J.gh sS sH (fun b h=>by
   have h':(if b ∈ F i then H b else S b) ≠ none:=h
   split at h'
   . rename_i hb; exact .inr (gs b hb).1
   . exact J.new b h') (fun _ _ _ _ h=>h) (fun _ _ _ h=>h) fun j a ha=>by
     show (if a ∈ F i then H a else S a) = none
     rw [if_neg (off j a ha)]; exact (J1.live j a ha).2.2
 have J3:=J2.put (i:=i) (s:=some (.sh x)) (u:=some v) (fp:=[]) (fun t' e=>by
  cases e
  exact ⟨_,rfl,rfl,ro.frozen sS ex fun a ha=>by show (if a ∈ F i then H a else S a) = H a; rw [if_pos ha]⟩) (fun a ha=>nomatch ha) fun j a _ ha=>nomatch ha
 rw [List.set_set,List.set_set,kI hv] at J3
 exact ⟨S',sS,_,J3⟩
theorem tW {i:Nat} {ts:TS} {m:ae -> OS} (h:JS K cls W ts m):JS K cls W ts (n8 i m):=by
 intro Av G S₀ ρ σ S H D I p
 unfold n8 pd at p
 split at p
 . rename_i t e
   split at p
   . rename_i x ex
     obtain ⟨S',s,J⟩:=I.IU e ex
     exact h Av G S₀ _ σ S' H D J (p.back s)
   . exact h Av G S₀ ρ σ S H D I p
 . exact h Av G S₀ ρ σ S H D I p
theorem DY {ks:List Str} {us:List (Str × V)} {f:Str} {y:V} (hk:us.map (·.1) = ks) {k:Nat} (hf:∀ j,ks[j]? = some f -> k <= j) (he:ks[k]? = some f):(j6 f y us).map (·.1) = ks /\ (j6 f y us).map (·.2) = (us.map (·.2)).set k y:=by
 induction us generalizing ks k with
 | nil=>subst hk; cases he
 | cons q us ih=>
   obtain ⟨g,x⟩:=q
   subst hk
   unfold j6
   by_cases e:g = f
   . rw [if_pos e]
     have k0:k = 0:=by have:=hf 0 (by simp [e]); omega
     subst k0
     exact ⟨rfl,rfl⟩
   . rw [if_neg e]
     cases k with
     | zero=>simp at he; exact absurd he e
     | succ k=>
       obtain ⟨h1,h2⟩:=ih (ks:=us.map (·.1)) (k:=k) rfl (fun j hj=>by have:=hf (j + 1) (by simpa using hj); omega) (by simpa using he)
       simp [h1,h2]
theorem CO {us:List (Str × V)} {f:Str} {y:V} (h:f ∉ us.map (·.1)):j6 f y us = us ++ [(f,y)]:=by
 induction us with
 | nil=>rfl
 | cons q us ih=>
   obtain ⟨g,x⟩:=q
   simp at h
   unfold j6
   rw [if_neg (fun z=>h.1 z.symm),ih (by simpa using h.2)]
   rfl
theorem yY {ks:List Str} {ts:List OV} {f:Str} (hl:ts.length = ks.length) (h:f ∈ ks):∃ k,ks[k]? = some f /\ (∀ j,ks[j]? = some f -> k <= j) /\ k < ts.length /\ ∀ u,uO ks ts f u = ts.set k u:=by
 induction ks generalizing ts with
 | nil=>cases h
 | cons g ks ih=>
   cases ts with
   | nil=>cases hl
   | cons t ts=>
     by_cases e:g = f
     . subst e
       exact ⟨0,rfl,fun j _=>Nat.zero_le _,by simp,fun u=>by simp [uO]⟩
     . obtain ⟨k,h1,h2,h3,h4⟩:=ih (ts:=ts) (by simpa using hl) (by
        rcases List.mem_cons.mp h with z | z
        . exact absurd z.symm e
        . exact z)
       refine ⟨k + 1,by simpa using h1,fun j hj=>?_,by simpa using h3,fun u=>by simp [uO,e,h4]⟩
       cases j with
       | zero=>simp at hj; exact absurd hj e
       | succ j=>have:=h2 j (by simpa using hj); omega
theorem ER {i:Nat} {te tx:TE} {mp:MP} {f:Str} {okc:String -> Bool} {md:ae -> OD} (hp:JP K cls te i mp) (hx:JD K cls W tx md) (ha:∀ c C,cls c = some C -> okc c = true -> Cls K C /\ lY K C f):JS K cls W (GU K te tx f) (Cg i mp f okc md):=by
 intro Av G S₀ ρ σ S H D I p
 refine hx Av G S₀ ρ σ S H _ I ?_
 unfold Cg at p
 cases ed:md ρ with
 | exc c fs=>rw [ed] at p; exact fun a C S' H' w x=>p a C σ S' H' (I.grow w) w.s x
 | bad=>rw [ed] at p; exact p
 | ok x=>
   rw [ed] at p
   dsimp only at p
   obtain ⟨io,t,π,u,hi,e0,e1,p⟩:=q8 p
   obtain ⟨v0,hv⟩:=I.val hi
   cases u with
   | sh x=>exact p.elim
   | ol ts=>exact p.elim
   | di x=>exact p.elim
   | dt x=>exact p.elim
   | ob c ks ts=>
     dsimp only at p
     split at p
     . rename_i hok
       rw [Bool.and_eq_true,decide_eq_true_eq] at hok
       intro v S1 H1 w1 r1
       refine hp.at (I.grow w1) hi hv e0 e1 fun w S2 H2 w2 I2 wk=>?_
       obtain ⟨F,J⟩:=id I
       obtain ⟨w0,f1,rest,wk',ro,pF,nd,gs,cc⟩:=J.part hi hv e1
       have wg:bf S H S2 H2:=w1.trans w2
       have:=wk.inj (wk'.mono wg.g)
       subst this
       unfold br at ro
       obtain ⟨q,C,dx,us,ff,rfl,hcl,hq,hd,hk,rfl,rs⟩:=ro
       obtain ⟨a1,a2⟩:=ha c C hcl hok.1
       have nd1:=(List.nodup_append.mp nd).1
       have nq:q ∉ dx ::ff:=(List.nodup_cons.mp nd1).1
       have ndx':dx ∉ ff:=(List.nodup_cons.mp (List.nodup_cons.mp nd1).2).1
       have ndf:ff.Nodup:=(List.nodup_cons.mp (List.nodup_cons.mp nd1).2).2
       have hlen:us.length < 1000:=by have:=congrArg List.length hk; simp at this; omega
       obtain ⟨fx,rx,nx,gx⟩:=r1.grow w2
       refine ⟨q,C,dx,us,rfl,wg.g _ _ hq,a1,a2,hlen,?_⟩
       have noS:∀ a ∈ q ::dx ::ff,S2 a = none:=fun a ha=>by
        cases z:S2 a with
        | none=>rfl
        | some o=>
          obtain ⟨⟨o',h1,_⟩,_,h3⟩:=J.live i a (pF.mem_iff.mpr (List.mem_append_left _ ha))
          rcases wg.new a (by rw [z]; simp) with y | y
          . exact absurd h3 y
          . rw [h1] at y; cases y
       have fin:∀ ks' ts' f',(j6 f v us).map (·.1) = ks' -> bz K cls S2 H2 ts' ((j6 f v us).map (·.2)) f' -> f'.Nodup -> (∀ a ∈ f',a ∈ ff \/ (H a = none /\ S2 a = none)) ->
         SR K cls Av G S₀ (ρ.set i (some (.tr io (t.put π (.ob c ks' ts'))))) σ S2 (upd H2 q (.ins C dx (j6 f v us))):=by
        intro ks' ts' f' hk' rs' nd' fr
        have nqf:q ∉ f':=fun z=>by
         rcases fr q z with y | y
         . exact nq (by simp [y])
         . rw [y.1] at hq; cases hq
        have ndf':dx ∉ f':=fun z=>by
         rcases fr dx z with y | y
         . exact ndx' y
         . rw [y.1] at hd; cases hd
        have ndq:dx ≠ q:=fun z=>nq (by simp [z])
        obtain ⟨g,J3,_⟩:=cc S2 (upd H2 q (.ins C dx (j6 f v us))) (.ob c ks' ts') (q ::dx ::f') wg.s (wg.sh.upd (noS q (by simp))) ((J.gh.trans wg.g).upd (gs q (by simp)).1) (fun b h=>by
          rcases wg.new b h with z | z
          . exact J.new b z
          . exact .inr (J.gh.free z)) (by
          unfold br
          exact ⟨q,C,dx,_,f',rfl,hcl,bD,by rw [bJ ndq]; exact wg.g _ _ hd,hk',rfl,rs'.mono (aI.refl _) fun a ha o h=>by rw [bJ (fun z=>nqf (by rw [<- z]; exact ha))]; exact h⟩)
         (List.nodup_cons.mpr ⟨fun z=>by
           rcases List.mem_cons.mp z with z | z
           . exact ndq z.symm
           . exact nqf z,List.nodup_cons.mpr ⟨ndf',nd'⟩⟩) (fun a ha=>by
           rcases List.mem_cons.mp ha with z | z
           . subst z; exact .inl (by simp)
           . rcases List.mem_cons.mp z with z | z
             . subst z; exact .inl (by simp)
             . rcases fr a z with y | y
               . exact .inl (by simp [y])
               . exact .inr y.1) (fun a ha=>by
           rcases List.mem_cons.mp ha with z | z
           . subst z; exact noS _ (by simp)
           . rcases List.mem_cons.mp z with z | z
             . subst z; exact noS _ (by simp)
             . rcases fr a z with y | y
               . exact noS a (by simp [y])
               . exact y.2) (fun a o hn h=>by rw [bJ (fun z=>hn (by rw [z]; simp))]; exact wg.g _ _ h) fun a h=>by
           rcases wg.new a h with z | z
           . exact .inl z
           . exact .inr (.inl z)
        exact ⟨_,J3⟩
       have hlts:ts.length = ks.length:=by rw [<- rs.length,<- hk]; simp
       split at p
       . rename_i hc
         obtain ⟨k,h1,h2,h3,h4⟩:=yY hlts (by simpa using hc)
         obtain ⟨k1,k2⟩:=DY (y:=v) hk h2 h1
         obtain ⟨w3,g1,rest3,e3,r3,p3,c3⟩:=rs.at (k:=k) (u:=ts[k]) (by simp [h3])
         obtain ⟨g,rg,pg⟩:=c3 S2 H2 x v fx wg.s rx fun a _ o h=>wg.g _ _ h
         have inff:∀ a ∈ rest3,a ∈ ff:=fun a ha=>p3.mem_iff.mpr (List.mem_append_right _ ha)
         have ndr:rest3.Nodup:=(List.nodup_append.mp (p3.nodup_iff.mp ndf)).2.1
         have ndg:g.Nodup:=pg.nodup_iff.mpr (List.nodup_append.mpr ⟨nx,ndr,fun a ha b hb z=>by
          subst z
          obtain ⟨o,h1,_⟩:=rs.live a (inff a hb)
          rw [(gx a ha).1] at h1; cases h1⟩)
         have q1:=fin ks (ts.set k x) g k1 (by rw [k2]; exact rg) ndg fun a ha=>by
          rcases List.mem_append.mp (pg.mem_iff.mp ha) with z | z
          . exact .inr (gx a z)
          . exact .inl (inff a z)
         rw [h4] at p
         exact p σ S2 _ q1 wg.s
       . rename_i hc
         have hn:f ∉ us.map (·.1):=by rw [hk]; simpa using hc
         have e2:=CO (y:=v) hn
         have ndg:(ff ++ (fx ++ [])).Nodup:=by
          rw [List.append_nil]
          exact List.nodup_append.mpr ⟨ndf,nx,fun a ha b hb z=>by
           subst z
           obtain ⟨o,h1,_⟩:=rs.live a ha
           rw [(gx a hb).1] at h1; cases h1⟩
         have q1:=fin (ks ++ [f]) (ts ++ [x]) (ff ++ (fx ++ [])) (by rw [e2]; simp [hk]) (by rw [e2,List.map_append]; exact (rs.mono wg.s fun a _ o h=>wg.g _ _ h).append (.cons rx .nil)) ndg fun a ha=>by
          rw [List.append_nil] at ha
          rcases List.mem_append.mp ha with z | z
          . exact .inl z
          . exact .inr (gx a z)
         exact p σ S2 _ q1 wg.s
     . exact p.elim
end
end L2.P
namespace L2.P
open PySem PySem.Spec PyProof.Rows L2 L2.E
open Classical in
noncomputable def minus (H:Hp) (Fc:Nat -> List Addr):Hp:=fun a=>if ∃ k,a ∈ Fc k then none else H a
section
variable {K:PySem.W.Frag} {cls:String -> Option Addr} {W:XW} {Av G S₀ S S' H H' B B':Hp} {ρ:ae} {σ:St} {Q:VK} {F Fc Fc':Nat -> List Addr}
theorem wX {a:Addr} {k:Nat} (h:a ∈ Fc k):minus H Fc a = none:=by unfold minus; rw [if_pos ⟨k,h⟩]
theorem jA {a:Addr} (h:∀ k,a ∉ Fc k):minus H Fc a = H a:=by unfold minus; rw [if_neg (fun ⟨k,z⟩=>h k z)]
theorem tE:aI (minus H Fc) H:=fun b u h=>by
 unfold minus at h
 split at h
 . cases h
 . exact h
theorem nI {a:Addr} (h:minus H Fc a = none):H a = none \/ ∃ k,a ∈ Fc k:=by
 unfold minus at h
 split at h
 . rename_i z; exact .inr z
 . exact .inl h
noncomputable def Mc (K:PySem.W.Frag) (cls:String -> Option Addr) (S H Hm:Hp):Sl -> V -> List Addr -> Prop
 | .sh x,v,fp=>fp = [] /\ Rep K S x v
 | .tr true t,v,fp=>br K cls S H t v fp /\ fp.Nodup
 | .bo t,v,fp=>fp = [] /\ ∃ f,br K cls S Hm t v f
 | _,_,_=>False
structure C8 (K:PySem.W.Frag) (cls:String -> Option Addr) (vs:List V) (S H:Hp) (Fc:Nat -> List Addr) (outs:List (Option OV)) (S' H':Hp) (Fc':Nat -> List Addr):Prop where
 s:aI S S'
 sh:aI S' H'
 keep:aI (minus H Fc) H'
 new:∀ b,S' b ≠ none -> S b ≠ none \/ H b = none \/ ∃ k,b ∈ Fc k
 out:∀ k t',outs[k]? = some (some t') -> ∃ u,vs[k]? = some u /\ br K cls S' H' t' u (Fc' k) /\ (Fc' k).Nodup
 apart:∀ j k a,a ∈ Fc' j -> a ∈ Fc' k -> j = k
 live:∀ k a,a ∈ Fc' k -> minus H Fc a = none /\ S' a = none
noncomputable def Jh (K:PySem.W.Frag) (cls:String -> Option Addr) (vs:List V) (S H:Hp) (Fc:Nat -> List Addr) (Q:VK) (E:XK):OI -> Prop
 | .ok x outs=>∀ v S' H' Fc',C8 K cls vs S H Fc outs S' H' Fc' -> Rep K S' x v -> Q v H'
 | .exc c fs outs=>∀ a C S' H' Fc',C8 K cls vs S H Fc outs S' H' Fc' -> oI K cls S' H' c fs a C -> E (.ref C) (some a) H'
 | .bad=>False
structure CM (K:PySem.W.Frag) (cls:String -> Option Addr) (as:List Sl) (vs:List V) (S H:Hp) (Fc:Nat -> List Addr):Prop where
 sh:aI S H
 len:as.length = vs.length
 rel:∀ (k:Nat) (s:Sl),as[k]? = some s -> ∃ v,vs[k]? = some v /\ Mc K cls S H (minus H Fc) s v (Fc k)
 apart:∀ j k a,a ∈ Fc j -> a ∈ Fc k -> j = k
 live:∀ k a,a ∈ Fc k -> (∃ o,H a = some o /\ isX o = false) /\ S a = none
noncomputable def spI (K:PySem.W.Frag) (cls:String -> Option Addr) (f:List Sl -> OI):Sp:=fun vs H Q E=>∃ S as Fc,CM K cls as vs S H Fc /\ Jh K cls vs S H Fc Q E (f as)
theorem EC {as:List Sl} {vs:List V} {N:List Str} {i:Nat} {s:Sl} (hl:as.length = vs.length) (e:(j3 N.length as)[i]? = some (some s)):as[i]? = some s /\ (L2.start N vs)[i]? = some ((vs[i]?)):=by
 unfold j3 at e
 by_cases hi:i < as.length
 . rw [List.getElem?_append_left (by simpa using hi),List.getElem?_map] at e
   have hx:as[i]? = some as[i]:=by simp [hi]
   rw [hx] at e
   cases e
   refine ⟨hx,?_⟩
   unfold L2.start
   rw [List.getElem?_append_left (by rw [List.length_map,<- hl]; exact hi),List.getElem?_map]
   have hv:vs[i]? = some (vs[i]'(by rw [<- hl]; exact hi)):=by simp [<- hl,hi]
   rw [hv]; rfl
 . rw [List.getElem?_append_right (by simpa using hi)] at e
   rw [List.getElem?_replicate] at e
   split at e <;> cases e
noncomputable def Cf (vs:List V):Hp:=fun i=>(vs[i]?).map fun v=>.lst [v]
theorem SR.GK {vs:List V} {np:Nat} {ρ':ae} {σ':St} (A:aI S H) (I:SR K cls (Cf vs) (minus H Fc) S ρ' σ' S' H'):∃ Fc',C8 K cls vs S H Fc ((ρ'.take np).map ot) S' H' Fc':=by
 obtain ⟨F,J⟩:=I
 refine ⟨F,J.s0,J.sh,J.gh,fun b h=>?_,fun k t' e=>?_,J.apart,fun k a ha=>(J.live k a ha).2⟩
 . rcases J.new b h with z | z
   . exact .inl z
   . rcases nI z with y | y
     . exact .inr (.inl y)
     . exact .inr (.inr y)
 . rw [List.getElem?_map] at e
   obtain ⟨s,e1,e2⟩:=Option.map_eq_some_iff.mp e
   have e3:ρ'[k]? = some s:=by
    rw [List.getElem?_take] at e1
    split at e1
    . exact e1
    . cases e1
   cases s with
   | none=>cases e2
   | some s=>
     cases s with
     | tr io t=>
       cases io with
       | false=>cases e2
       | true=>
         cases e2
         obtain ⟨v,ev,ro,nd,_,hio⟩:=J.own k _ e3
         have:=hio rfl
         unfold Cf at this
         obtain ⟨u,eu,e4⟩:=Option.map_eq_some_iff.mp this
         cases e4
         exact ⟨v,eu,ro,nd⟩
     | sh x=>cases e2
     | ow x=>cases e2
     | ex c fs=>cases e2
     | bo t=>cases e2
theorem ui {P:Program} {w:World} {mg:Str -> Option Value} {base:Heap} {x qual:Str} {st:Stmt} {f:Addr} {fd:FuncData} {N ps:List Str} {k:Nat} {m:ae -> OS} (Fn:Fun K x qual st f fd) (Sc:aV N ps (aA st))
  (hbody:∀ (cdv:Value) (A:Around) (outer:List Env) (s:Shared) (H:Hp) (E:XK),ie k (A.deeper (envOfC qual (aA st) s.heap.objs.size f cdv)) ->
    ∃ t,QSs (rA (CXE P w) P w K mg base N qual (aA st) f cdv A outer s H E) (dJ st) t /\ JS K cls (fun C a _ H=>∀ H',aI H H' -> E C a H') t m):cB P w K mg base (CXE P w) (k + 1) f fd ps (spI K cls (fnI ps.length N.length m)):=by
 refine okX Fn Sc (fun vs H Q E h=>?_) fun cdv A outer s H vs Q E hr h=>?_
 . obtain ⟨S,as,Fc,a,q⟩:=h
   unfold fnI at q
   split at q
   . rw [<- a.len]; assumption
   . exact q.elim
 . obtain ⟨S,as,Fc,a,q⟩:=h
   unfold fnI at q
   split at q
   . rename_i hl
     obtain ⟨t,ht,J⟩:=hbody cdv A outer s H E hr
     refine ⟨t,ht.out,?_⟩
     have start:SR K cls (Cf vs) (minus H Fc) S (j3 N.length as) (L2.start N vs) S H:=by
      refine ⟨Fc,tE,aI.refl _,a.sh,fun _ z=>.inl z,fun i s e=>?_,a.apart,fun i b hb=>⟨(a.live i b hb).1,wX hb,(a.live i b hb).2⟩,?_⟩
      . obtain ⟨e1,e2⟩:=EC a.len e
        obtain ⟨v,ev,r⟩:=a.rel i s e1
        rw [ev] at e2
        refine ⟨v,e2,?_⟩
        cases s with
        | sh x=>exact r
        | ow x=>exact r.elim
        | ex c fs=>exact r.elim
        | tr io t=>
          cases io with
          | false=>exact r.elim
          | true=>exact ⟨r.1,r.2,fun b hb=>⟨wX hb,(a.live i b hb).2⟩,fun _=>by unfold Cf; rw [ev]; rfl⟩
        | bo t=>exact r
      . unfold j3 L2.start
        simp [a.len]
     refine J (Cf vs) (minus H Fc) S (j3 N.length as) (L2.start N vs) S H _ start ?_
     cases e:m (j3 N.length as) with
     | nx ρ'=>rw [e] at q; exact fun σ' S' H' I' s'=>let ⟨Fc',E'⟩:=I'.GK (np:=ps.length) a.sh; q .non S' H' Fc' E' (by unfold Rep; rfl)
     | bk ρ'=>rw [e] at q; exact q.elim
     | ct ρ'=>rw [e] at q; exact q.elim
     | bad=>rw [e] at q; exact q.elim
     | rt ρ' r=>
       rw [e] at q
       cases r with
       | al ys=>exact q.elim
       | fr ys=>exact q.elim
       | sh y=>exact fun v σ' S' H' I' s' rr=>let ⟨Fc',E'⟩:=I'.GK (np:=ps.length) a.sh; q v S' H' Fc' E' rr
     | exc ρ' c fs=>
       rw [e] at q
       exact fun b C σ' S' H' I' s' x H2 g2=>let ⟨Fc',E'⟩:=(I'.same g2).GK (np:=ps.length) a.sh; q b C S' H2 Fc' E' (x.mono (aI.refl _) g2)
   . exact q.elim
noncomputable def AR1 (K:PySem.W.Frag) (S H:Hp) (ρ:ae) (σ:St):Arg -> Sl -> V -> Prop
 | .e _,.sh x,v=>Rep K S x v
 | .t i mp,.tr true u,v=>∃ io t π v0,ρ[i]? = some (some (.tr io t)) /\ mp ρ = some π /\ t.get π = some u /\ σ[i]? = some (some v0) /\ jY H v0 π v
 | .b i mp,.bo u,v=>∃ t π v0,fO i ρ = some t /\ mp ρ = some π /\ t.get π = some u /\ σ[i]? = some (some v0) /\ jY H v0 π v
 | _,_,_=>False
noncomputable def ARs (K:PySem.W.Frag) (S H:Hp) (ρ:ae) (σ:St):List Arg -> List Sl -> List V -> Prop
 | [],ss,vs=>ss = [] /\ vs = []
 | a ::as,ss,vs=>∃ s sr v vr,ss = s ::sr /\ vs = v ::vr /\ AR1 K S H ρ σ a s v /\ ARs K S H ρ σ as sr vr
theorem AR1.mono {a:Arg} {s:Sl} {v:V} (h:AR1 K S H ρ σ a s v) (s1:aI S S') (g:aI H H'):AR1 K S' H' ρ σ a s v:=by
 cases a with
 | e me=>cases s <;> first | exact h.elim | exact Rep.mono s1 h
 | t i mp=>
   cases s with
   | tr io u=>
     cases io with
     | false=>exact h.elim
     | true=>obtain ⟨io,t,π,v0,h1,h2,h3,h4,h5⟩:=h; exact ⟨io,t,π,v0,h1,h2,h3,h4,h5.mono g⟩
   | _=>exact h.elim
 | b i mp=>
   cases s with
   | bo u=>obtain ⟨t,π,v0,h1,h2,h3,h4,h5⟩:=h; exact ⟨t,π,v0,h1,h2,h3,h4,h5.mono g⟩
   | _=>exact h.elim
theorem ARs.at {as:List Arg}:∀ {ss:List Sl} {vs:List V} {k:Nat} {a:Arg},ARs K S H ρ σ as ss vs -> as[k]? = some a -> ∃ s v,ss[k]? = some s /\ vs[k]? = some v /\ AR1 K S H ρ σ a s v:=by
 induction as with
 | nil=>intro ss vs k a _ e; simp at e
 | cons b as ih=>
   rintro ss vs k a ⟨s,sr,v,vr,rfl,rfl,h1,h2⟩ e
   cases k with
   | zero=>simp at e; subst e; exact ⟨s,v,rfl,rfl,h1⟩
   | succ k=>simp at e; obtain ⟨s',v',e1,e2,r⟩:=ih h2 e; exact ⟨s',v',by simpa using e1,by simpa using e2,r⟩
theorem ARs.len {as:List Arg}:∀ {ss:List Sl} {vs:List V},ARs K S H ρ σ as ss vs -> ss.length = as.length /\ vs.length = as.length:=by
 induction as with
 | nil=>intro ss vs h; rw [h.1,h.2]; exact ⟨rfl,rfl⟩
 | cons b as ih=>
   rintro ss vs ⟨s,sr,v,vr,rfl,rfl,h1,h2⟩
   have:=ih h2
   simp [this]
noncomputable def JAI (K:PySem.W.Frag) (cls:String -> Option Addr) (t:TA) (as:List Arg):Prop:=∀ Av G S₀ ρ σ S H Q ss,SR K cls Av G S₀ ρ σ S H -> jr as ρ = some ss -> (∀ vs S' H',bf S H S' H' -> ARs K S' H' ρ σ as ss vs -> Q vs H') -> t σ H Q
noncomputable def JA1 (K:PySem.W.Frag) (cls:String -> Option Addr) (te:TE) (a:Arg):Prop:=∀ Av G S₀ ρ σ S H Q s,SR K cls Av G S₀ ρ σ S H -> lM a ρ = some s -> (∀ v S' H',bf S H S' H' -> AR1 K S' H' ρ σ a s v -> Q v H') -> te σ H Q
theorem zE {te:TE} {me:ae -> OE} (h:JE K cls W te me):JA1 K cls te (.e me):=by
 intro Av G S₀ ρ σ S H Q s I e k
 unfold lM at e
 dsimp only at e
 refine h Av G S₀ ρ σ S H Q I ?_
 cases em:me ρ with
 | exc c fs=>rw [em] at e; cases e
 | bad=>rw [em] at e; cases e
 | ok r=>
   rw [em] at e
   obtain ⟨x,e1,rfl⟩:=Option.map_eq_some_iff.mp e
   intro v S1 H1 w1 r1
   obtain ⟨S2,w2,s2,rx⟩:=r1.share w1 e1
   exact k v S2 H1 w2 rx
theorem oZ {te:TE} {i:Nat} {mp:MP} (h:JP K cls te i mp):JA1 K cls te (.t i mp):=by
 intro Av G S₀ ρ σ S H Q s I e k
 unfold lM at e
 dsimp only at e
 split at e
 . rename_i io t hi
   obtain ⟨u,e1,rfl⟩:=Option.map_eq_some_iff.mp e
   obtain ⟨π,e2,e3⟩:=Option.bind_eq_some_iff.mp e1
   obtain ⟨v0,hv⟩:=I.val hi
   exact h.at I hi hv e2 e3 fun w S1 H1 w1 I1 wk=>k w S1 H1 w1 ⟨io,t,π,v0,hi,e2,e3,hv,wk⟩
 . cases e
theorem Fy {te:TE} {i:Nat} {mp:MP} (h:JP K cls te i mp):JA1 K cls te (.b i mp):=by
 intro Av G S₀ ρ σ S H Q s I e k
 unfold lM at e
 dsimp only at e
 obtain ⟨u,e1,rfl⟩:=Option.map_eq_some_iff.mp e
 unfold subAt at e1
 split at e1
 . rename_i t et
   split at e1
   . rename_i π eπ
     obtain ⟨v0,fp,hv,_⟩:=I.tree et
     exact h Av G S₀ ρ σ S H Q v0 t π I et hv eπ (by rw [e1]; rfl) fun w S1 H1 w1 wk=>k w S1 H1 w1 ⟨t,π,v0,et,eπ,e1,hv,wk⟩
   . cases e1
 . cases e1
theorem mX:JAI K cls kD []:=by
 intro Av G S₀ ρ σ S H Q ss I e k
 cases e
 exact k [] S H (bf.refl I.sh) ⟨rfl,rfl⟩
theorem fB {te:TE} {t:TA} {a:Arg} {as:List Arg} (h:JA1 K cls te a) (r:JAI K cls t as):JAI K cls (jd te t) (a ::as):=by
 intro Av G S₀ ρ σ S H Q ss I e k
 unfold jr at e
 obtain ⟨s,e1,e2⟩:=Option.bind_eq_some_iff.mp e
 obtain ⟨sr,e3,rfl⟩:=Option.map_eq_some_iff.mp e2
 refine h Av G S₀ ρ σ S H _ s I e1 fun v S1 H1 w1 h1=>?_
 refine r Av G S₀ ρ σ S1 H1 _ sr (I.grow w1) e3 fun vs S2 H2 w2 h2=>?_
 exact k (v ::vs) S2 H2 (w1.trans w2) ⟨s,sr,v,vs,rfl,rfl,h1.mono w2.s w2.g,h2⟩
end
end L2.P
namespace L2.P
open PySem PySem.Spec PyProof.Rows L2 L2.E
section
variable {K:PySem.W.Frag} {cls:String -> Option Addr} {W:XW} {Av G S₀ S S' H H' B B':Hp} {ρ:ae} {σ:St} {Q:VK} {F Fc Fc':Nat -> List Addr}
noncomputable def dr:List Arg -> List Nat
 | []=>[]
 | .t i _ ::as=>i ::dr as
 | _ ::as=>dr as
noncomputable def rn:List Arg -> List Nat
 | []=>[]
 | .b i _ ::as=>i ::rn as
 | _ ::as=>rn as
noncomputable def argsOk (as:List Arg):Bool:=decide (dr as).Nodup && (rn as).all fun i=>!(dr as).contains i
theorem gE {as:List Arg} {k i:Nat} {mp:MP} (h:as[k]? = some (.t i mp)):i ∈ dr as:=by
 induction as generalizing k with
 | nil=>simp at h
 | cons a as ih=>
   cases k with
   | zero=>simp at h; subst h; simp [dr]
   | succ k=>
     simp at h
     have:=ih h
     cases a <;> simp [dr,this]
theorem yE {as:List Arg} {k i:Nat} {mp:MP} (h:as[k]? = some (.b i mp)):i ∈ rn as:=by
 induction as generalizing k with
 | nil=>simp at h
 | cons a as ih=>
   cases k with
   | zero=>simp at h; subst h; simp [rn]
   | succ k=>
     simp at h
     have:=ih h
     cases a <;> simp [rn,this]
theorem ny {as:List Arg} (nd:(dr as).Nodup) {j k i:Nat} {mp mp':MP} (h:as[j]? = some (.t i mp)) (h':as[k]? = some (.t i mp')):j = k:=by
 induction as generalizing j k with
 | nil=>simp at h
 | cons a as ih=>
   cases j with
   | zero=>
     simp at h
     subst h
     cases k with
     | zero=>rfl
     | succ k=>
       simp at h'
       have:=gE h'
       simp [dr] at nd
       exact absurd this nd.1
   | succ j=>
     cases k with
     | zero=>
       simp at h'
       subst h'
       simp at h
       have:=gE h
       simp [dr] at nd
       exact absurd this nd.1
     | succ k=>
       simp at h h'
       have nd':(dr as).Nodup:=by
        cases a with
        | t i' mp=>simp [dr] at nd; exact nd.2
        | e me=>exact nd
        | b i' mp=>exact nd
       rw [ih nd' h h']
theorem rX {as:List Arg} {i:Nat} (h:i ∈ dr as):∃ (k:Nat) (mp:MP),as[k]? = some (.t i mp):=by
 induction as with
 | nil=>simp [dr] at h
 | cons a as ih=>
   cases a with
   | t j mp=>
     simp [dr] at h
     rcases h with h | h
     . subst h; exact ⟨0,mp,rfl⟩
     . obtain ⟨k,mp',e⟩:=ih h; exact ⟨k + 1,mp',by simpa using e⟩
   | e me=>obtain ⟨k,mp',e⟩:=ih h; exact ⟨k + 1,mp',by simpa using e⟩
   | b j mp=>obtain ⟨k,mp',e⟩:=ih h; exact ⟨k + 1,mp',by simpa using e⟩
theorem sC {as:List Arg} {ρ₀:ae}:∀ {us:List (Option OV)} {ρ:ae} {i:Nat},i ∉ dr as -> (fq ρ₀ as us ρ)[i]? = ρ[i]?:=by
 induction as with
 | nil=>intro us ρ i _; rfl
 | cons a as ih=>
   intro us ρ i h
   unfold fq
   cases a with
   | e me=>rw [ih h]; rfl
   | b j mp=>rw [ih h]; rfl
   | t j mp=>
     simp [dr] at h
     rw [ih h.2]
     have:∀ x:Option Sl,(ρ.set j x)[i]? = ρ[i]?:=fun x=>List.getElem?_set_ne (Ne.symm h.1)
     cases us.head?.join with
     | none=>exact this _
     | some u=>
       unfold ka
       dsimp only
       split
       . split
         . exact this _
         . exact this _
       . exact this _
theorem za {as:List Arg} {ρ₀:ae}:∀ {us:List (Option OV)} {ρ:ae} {i k:Nat} {mp:MP} {s:Sl},(dr as).Nodup -> as[k]? = some (.t i mp) -> (fq ρ₀ as us ρ)[i]? = some (some s) ->
  ∃ io t π u,us[k]? = some (some u) /\ ρ[i]? = some (some (.tr io t)) /\ mp ρ₀ = some π /\ s = .tr io (t.put π u):=by
 induction as with
 | nil=>intro us ρ i k mp s _ h; simp at h
 | cons a as ih=>
   intro us ρ i k mp s nd h e
   unfold fq at e
   cases k with
   | zero=>
     simp at h
     subst h
     simp [dr] at nd
     rw [sC nd.1] at e
     cases us with
     | nil=>
       unfold ka at e
       simp at e
       rw [List.getElem?_set] at e
       simp at e
     | cons u us=>
       cases u with
       | none=>
         unfold ka at e
         simp at e
         rw [List.getElem?_set] at e
         simp at e
       | some u=>
         unfold ka at e
         simp only [List.head?_cons,Option.join_some] at e
         split at e
         . rename_i io t hi
           split at e
           . rename_i π hπ
             rw [List.getElem?_set] at e
             simp at e
             exact ⟨io,t,π,u,rfl,hi,hπ,e.2.symm⟩
           . rw [List.getElem?_set] at e
             simp at e
         . rw [List.getElem?_set] at e
           simp at e
   | succ k=>
     simp at h
     have nd':(dr as).Nodup:=by
      cases a with
      | t i' mp=>simp [dr] at nd; exact nd.2
      | e me=>exact nd
      | b i' mp=>exact nd
     obtain ⟨io,t,π,u,e1,e2,e3,e4⟩:=ih nd' h e
     refine ⟨io,t,π,u,?_,?_,e3,e4⟩
     . cases us with
       | nil=>simp at e1
       | cons _ us=>simpa using e1
     . cases a with
       | e me=>exact e2
       | b j mp=>exact e2
       | t j mp'=>
         have hij:i ≠ j:=by
          intro z
          subst z
          simp [dr] at nd
          exact nd.1 (gE h)
         have:∀ x:Option Sl,(ρ.set j x)[i]? = ρ[i]?:=fun x=>List.getElem?_set_ne (Ne.symm hij)
         cases q:us.head?.join with
         | none=>rw [q] at e2; unfold ka at e2; simp only at e2; rw [this] at e2; exact e2
         | some u=>
           rw [q] at e2
           unfold ka at e2
           simp only at e2
           split at e2
           . split at e2
             . rw [this] at e2; exact e2
             . rw [this] at e2; exact e2
           . rw [this] at e2; exact e2
theorem xO {as:List Arg} {ρ₀:ae}:∀ {us:List (Option OV)} {ρ:ae},(fq ρ₀ as us ρ).length = ρ.length:=by
 induction as with
 | nil=>intro us ρ; rfl
 | cons a as ih=>
   intro us ρ
   unfold fq
   rw [ih]
   unfold ka
   split
   . split
     . split <;> simp
     . simp
   . simp
   . rfl
theorem SR.Kh {as:List Arg} {ss:List Sl} {vs:List V} (I:SR K cls Av G S₀ ρ σ S H) (ok:argsOk as = true) (h:ARs K S H ρ σ as ss vs):
  ∃ Fc,CM K cls ss vs S H Fc /\ ∀ outs S' H' Fc',C8 K cls vs S H Fc outs S' H' Fc' -> SR K cls Av G S₀ (fq ρ as outs ρ) σ S' H':=by
 obtain ⟨F,J⟩:=I
 unfold argsOk at ok
 rw [Bool.and_eq_true,decide_eq_true_eq] at ok
 obtain ⟨nd,hb⟩:=ok
 have cell:∀ k:Nat,∃ d:List Addr × List Addr,(∀ i mp,as[k]? = some (.t i mp) -> ∃ io t π u v0 w,ss[k]? = some (.tr true u) /\ vs[k]? = some w /\ ρ[i]? = some (some (.tr io t)) /\ mp ρ = some π /\ t.get π = some u /\ σ[i]? = some (some v0) /\ br K cls S H u w d.1 /\ (F i).Perm (d.1 ++ d.2) /\ (d.1 ++ d.2).Nodup /\ (io = true -> Av i = some (.lst [v0])) /\
   ∀ S' H' u' f',aI S S' -> br K cls S' H' u' w f' -> (∀ a ∈ d.2,∀ o,H a = some o -> H' a = some o) -> ∃ g,br K cls S' H' (t.put π u') v0 g /\ g.Perm (f' ++ d.2)) /\ ((∀ i mp,as[k]? ≠ some (.t i mp)) -> d = ([],[])):=by
  intro k
  by_cases hk:∃ i mp,as[k]? = some (.t i mp)
  . obtain ⟨i,mp,e⟩:=hk
    obtain ⟨s,w,es,ev,r⟩:=h.at e
    cases s with
    | tr io' u=>
      cases io' with
      | false=>exact r.elim
      | true=>
        obtain ⟨io,t,π,v0,h1,h2,h3,h4,h5⟩:=r
        obtain ⟨v,ev',ro,ndf,gs,hio⟩:=J.own i _ h1
        rw [h4] at ev'; cases ev'
        obtain ⟨w',f1,rest,wk,r1,p1,c1⟩:=ro.focus h3
        have:=h5.inj wk
        subst this
        refine ⟨(f1,rest),fun i' mp' e'=>?_,fun z=>absurd e (z i mp)⟩
        rw [e] at e'
        cases e'
        exact ⟨io,t,π,u,v0,w,es,ev,h1,h2,h3,h4,r1,p1,p1.nodup_iff.mp ndf,hio,c1⟩
    | sh x=>exact r.elim
    | ow x=>exact r.elim
    | ex c fs=>exact r.elim
    | bo x=>exact r.elim
  . exact ⟨([],[]),fun i mp e=>absurd ⟨i,mp,e⟩ hk,fun _=>rfl⟩
 obtain ⟨d,hd⟩:=Classical.axiomOfChoice cell
 have tOf:∀ k a,a ∈ (d k).1 -> ∃ i mp,as[k]? = some (.t i mp) /\ a ∈ F i:=by
  intro k a ha
  by_cases hk:∃ i mp,as[k]? = some (.t i mp)
  . obtain ⟨i,mp,e⟩:=hk
    obtain ⟨io,t,π,u,v0,w,_,_,_,_,_,_,_,p1,_⟩:=(hd k).1 i mp e
    exact ⟨i,mp,e,p1.mem_iff.mpr (List.mem_append_left _ ha)⟩
  . rw [(hd k).2 fun i mp e=>hk ⟨i,mp,e⟩] at ha; cases ha
 have hlen:=h.len
 have sG:∀ i a,a ∈ F i -> (∀ k mp,as[k]? = some (.t i mp) -> a ∉ (d k).1) -> ∀ k,a ∉ (d k).1:=by
  intro i a ha hn k hk
  obtain ⟨i',mp,e,ha'⟩:=tOf k a hk
  have:=J.apart i i' a ha ha'
  subst this
  exact hn k mp e hk
 refine ⟨fun k=>(d k).1,⟨J.sh,by rw [hlen.1,hlen.2],fun k s es=>?_,fun j k a h1 h2=>?_,fun k a ha=>?_⟩,fun outs S' H' Fc' E=>?_⟩
 . have hk:k < as.length:=by rw [<- hlen.1]; exact (List.getElem?_eq_some_iff.mp es).1
   obtain ⟨s',w,es',ev,r⟩:=h.at (k:=k) (a:=as[k]) (by simp [hk])
   rw [es] at es'; cases es'
   refine ⟨w,ev,?_⟩
   cases q:as[k] with
   | e me=>
     rw [q] at r
     have hz:=(hd k).2 fun i mp e=>by rw [List.getElem?_eq_getElem hk,q] at e; cases e
     cases s <;> first | exact r.elim | exact ⟨by rw [hz],r⟩
   | t i mp=>
     have eq:as[k]? = some (.t i mp):=by rw [List.getElem?_eq_getElem hk,q]
     obtain ⟨io,t,π,u,v0,w',es',ev',_,_,_,_,r1,_,nd1,_⟩:=(hd k).1 i mp eq
     rw [es] at es'; cases es'
     rw [ev] at ev'; cases ev'
     exact ⟨r1,(List.nodup_append.mp nd1).1⟩
   | b i mp=>
     have eq:as[k]? = some (.b i mp):=by rw [List.getElem?_eq_getElem hk,q]
     rw [q] at r
     have hz:=(hd k).2 fun i mp e=>by rw [eq] at e; cases e
     cases s with
     | bo u=>
       obtain ⟨t,π,v0,h1,h2,h3,h4,h5⟩:=r
       refine ⟨by rw [hz],?_⟩
       have nt:i ∉ dr as:=by
        have:=List.all_eq_true.mp hb i (yE eq)
        simpa using this
       have ro:∃ f,br K cls S (minus H fun k=>(d k).1) t v0 f:=by
        unfold fO at h1
        cases q1:ρ[i]? with
        | none=>rw [q1] at h1; cases h1
        | some o=>
          cases o with
          | none=>rw [q1] at h1; cases h1
          | some s1=>
            rw [q1] at h1
            obtain ⟨v,ev',r⟩:=J.own i s1 q1
            rw [h4] at ev'; cases ev'
            cases s1 with
            | tr io t'=>
              cases h1
              exact ⟨_,r.1.mono (aI.refl _) fun a ha o ho=>by
               rw [jA (sG i a ha fun k' mp' e'=>absurd (gE e') nt)]; exact ho⟩
            | bo t'=>
              cases h1
              obtain ⟨_,f,r⟩:=r
              exact ⟨f,r.mono (aI.refl _) fun a ha o ho=>by
               rw [jA fun k' hk'=>?_]
               . exact J.gh _ _ ho
               . obtain ⟨i',mp',_,ha'⟩:=tOf k' a hk'
                 rw [(J.live i' a ha').2.1] at ho; cases ho⟩
            | sh x=>cases h1
            | ow x=>cases h1
            | ex c fs=>cases h1
       obtain ⟨f,ro⟩:=ro
       obtain ⟨w',f1,rest,wk,r1,_,_⟩:=ro.focus h3
       have:=h5.inj (wk.mono tE)
       subst this
       exact ⟨f1,r1⟩
     | sh x=>exact r.elim
     | ow x=>exact r.elim
     | ex c fs=>exact r.elim
     | tr io x=>exact r.elim
 . obtain ⟨i,mp,e1,m1⟩:=tOf j a h1
   obtain ⟨i',mp',e2,m2⟩:=tOf k a h2
   have:=J.apart i i' a m1 m2
   subst this
   exact ny nd e1 e2
 . obtain ⟨i,mp,e1,m1⟩:=tOf k a ha
   exact ⟨(J.live i a m1).1,(J.live i a m1).2.2⟩
 .
  have noS:∀ i a,a ∈ F i -> (∀ k,a ∉ (d k).1) -> S' a = none:=fun i a ha hn=>by
   cases z:S' a with
   | none=>rfl
   | some o=>
     obtain ⟨⟨o',h1,_⟩,_,h3⟩:=J.live i a ha
     rcases E.new a (by rw [z]; simp) with y | y | ⟨k,y⟩
     . exact absurd h3 y
     . rw [h1] at y; cases y
     . exact absurd y (hn k)
  have keep:∀ a o,(∀ k,a ∉ (d k).1) -> H a = some o -> H' a = some o:=fun a o hn ho=>E.keep a o (by rw [jA hn]; exact ho)
  have restOff:∀ k i mp,as[k]? = some (.t i mp) -> ∀ a ∈ (d k).2,a ∈ F i /\ ∀ k',a ∉ (d k').1:=fun k i mp e a ha=>by
   obtain ⟨io,t,π,u,v0,w,_,_,_,_,_,_,_,p1,nd1,_⟩:=(hd k).1 i mp e
   have m:a ∈ F i:=p1.mem_iff.mpr (List.mem_append_right _ ha)
   refine ⟨m,sG i a m fun k' mp' e' hk'=>?_⟩
   have:=ny nd e e'
   subst this
   exact (List.nodup_append.mp nd1).2.2 a hk' a ha rfl
  have gcell:∀ k:Nat,∃ g:List Addr,∀ i mp u',as[k]? = some (.t i mp) -> outs[k]? = some (some u') -> ∀ io t π,ρ[i]? = some (some (.tr io t)) -> mp ρ = some π -> ∃ v0,σ[i]? = some (some v0) /\ (io = true -> Av i = some (.lst [v0])) /\ br K cls S' H' (t.put π u') v0 g /\ g.Perm (Fc' k ++ (d k).2):=by
   intro k
   by_cases hk:∃ i mp u',as[k]? = some (.t i mp) /\ outs[k]? = some (some u')
   . obtain ⟨i,mp,u',e,eo⟩:=hk
     obtain ⟨io,t,π,u,v0,w,es,ev,h1,h2,h3,h4,r1,p1,nd1,hio,c1⟩:=(hd k).1 i mp e
     obtain ⟨w',ew,r',ndf'⟩:=E.out k u' eo
     rw [ev] at ew; cases ew
     obtain ⟨g,rg,pg⟩:=c1 S' H' u' (Fc' k) E.s r' fun a ha o ho=>keep a o (restOff k i mp e a ha).2 ho
     refine ⟨g,fun i' mp' u'' e' eo' io' t' π' h1' h2'=>?_⟩
     rw [e] at e'; cases e'
     rw [eo] at eo'; cases eo'
     rw [h1] at h1'; cases h1'
     rw [h2] at h2'; cases h2'
     exact ⟨v0,h4,hio,rg,pg⟩
   . exact ⟨[],fun i mp u' e eo=>absurd ⟨i,mp,u',e,eo⟩ hk⟩
  obtain ⟨g,hg⟩:=Classical.axiomOfChoice gcell
  have fcell:∀ i:Nat,∃ f:List Addr,(i ∉ dr as -> f = F i) /\ ∀ k mp,as[k]? = some (.t i mp) -> ((∃ io t π u',ρ[i]? = some (some (.tr io t)) /\ mp ρ = some π /\ outs[k]? = some (some u')) -> f = g k) /\ ((¬ ∃ io t π u',ρ[i]? = some (some (.tr io t)) /\ mp ρ = some π /\ outs[k]? = some (some u')) -> f = []):=by
   intro i
   by_cases hi:i ∈ dr as
   . obtain ⟨k,mp,e⟩:=rX hi
     by_cases hx:∃ io t π u',ρ[i]? = some (some (.tr io t)) /\ mp ρ = some π /\ outs[k]? = some (some u')
     . refine ⟨g k,fun z=>absurd hi z,fun k' mp' e'=>?_⟩
       have:=ny nd e e'
       subst this
       rw [e] at e'; cases e'
       exact ⟨fun _=>rfl,fun z=>absurd hx z⟩
     . refine ⟨[],fun z=>absurd hi z,fun k' mp' e'=>?_⟩
       have:=ny nd e e'
       subst this
       rw [e] at e'; cases e'
       exact ⟨fun z=>absurd z hx,fun _=>rfl⟩
   . exact ⟨F i,fun _=>rfl,fun k mp e=>absurd (gE e) hi⟩
  obtain ⟨F',hF'⟩:=Classical.axiomOfChoice fcell
  have memF:∀ i a,a ∈ F' i -> (i ∉ dr as /\ a ∈ F i /\ ∀ k,a ∉ (d k).1) \/ (∃ k mp,as[k]? = some (.t i mp) /\ F' i = g k /\ ((a ∈ Fc' k) \/ (a ∈ F i /\ ∀ k,a ∉ (d k).1)) /\ ∃ io t π u',ρ[i]? = some (some (.tr io t)) /\ mp ρ = some π /\ outs[k]? = some (some u')):=by
   intro i a ha
   by_cases hi:i ∈ dr as
   . obtain ⟨k,mp,e⟩:=rX hi
     by_cases hx:∃ io t π u',ρ[i]? = some (some (.tr io t)) /\ mp ρ = some π /\ outs[k]? = some (some u')
     . have e1:=((hF' i).2 k mp e).1 hx
       refine .inr ⟨k,mp,e,e1,?_,hx⟩
       obtain ⟨io,t,π,u',h1,h2,h3⟩:=hx
       obtain ⟨v0,_,_,rg,pg⟩:=hg k i mp u' e h3 io t π h1 h2
       rw [e1] at ha
       rcases List.mem_append.mp (pg.mem_iff.mp ha) with z | z
       . exact .inl z
       . exact .inr (restOff k i mp e a z)
     . rw [((hF' i).2 k mp e).2 hx] at ha; cases ha
   . have e1:=(hF' i).1 hi
     rw [e1] at ha
     exact .inl ⟨hi,ha,sG i a ha fun k mp e=>absurd (gE e) hi⟩
  refine ⟨F',?_,J.s0.trans E.s,E.sh,fun b hbn=>?_,fun i s e=>?_,fun i j a h1 h2=>?_,fun i a ha=>?_,?_⟩
  . intro b u hu
    refine keep b u (fun k hk=>?_) (J.gh b u hu)
    obtain ⟨i,mp,_,m⟩:=tOf k b hk
    rw [(J.live i b m).2.1] at hu; cases hu
  . rcases E.new b hbn with z | z | ⟨k,z⟩
    . exact J.new b z
    . exact .inr (J.gh.free z)
    . obtain ⟨i,mp,_,m⟩:=tOf k b z
      exact .inr (J.live i b m).2.1
  . by_cases hi:i ∈ dr as
    . obtain ⟨k,mp,ek⟩:=rX hi
      obtain ⟨io,t,π,u,e1,e2,e3,rfl⟩:=za nd ek e
      obtain ⟨v0,h1,hio,rg,pg⟩:=hg k i mp u ek e1 io t π e2 e3
      have e4:=((hF' i).2 k mp ek).1 ⟨io,t,π,u,e2,e3,e1⟩
      rw [e4]
      obtain ⟨w',ew,r',ndf'⟩:=E.out k u e1
      refine ⟨v0,h1,rg,pg.nodup_iff.mpr (List.nodup_append.mpr ⟨ndf',?_,fun a ha b hb' z=>?_⟩),fun a ha=>?_,hio⟩
      . obtain ⟨_,_,_,_,_,_,_,_,_,_,_,_,_,_,nd1,_⟩:=(hd k).1 i mp ek
        exact (List.nodup_append.mp nd1).2.1
      . subst z
        obtain ⟨m,off⟩:=restOff k i mp ek a hb'
        have:=(E.live k a ha).1
        rw [jA off] at this
        obtain ⟨⟨o,ho,_⟩,_⟩:=J.live i a m
        rw [this] at ho; cases ho
      . rcases List.mem_append.mp (pg.mem_iff.mp ha) with z | z
        . refine ⟨?_,(E.live k a z).2⟩
          rcases nI (E.live k a z).1 with y | ⟨k',y⟩
          . exact J.gh.free y
          . obtain ⟨i',mp',_,m⟩:=tOf k' a y
            exact (J.live i' a m).2.1
        . obtain ⟨m,off⟩:=restOff k i mp ek a z
          exact ⟨(J.live i a m).2.1,noS i a m off⟩
    . rw [sC hi] at e
      obtain ⟨v,ev,r⟩:=J.own i s e
      rw [(hF' i).1 hi]
      have off:∀ a ∈ F i,∀ k,a ∉ (d k).1:=fun a ha=>sG i a ha fun k mp e=>absurd (gE e) hi
      exact ⟨v,ev,r.mono E.s (fun a ha o ho=>keep a o (off a ha) ho) (fun b o hx ho=>keep b o (fun k hk=>by
       obtain ⟨i',mp',_,m⟩:=tOf k b hk
       obtain ⟨⟨o',h1,h2⟩,_⟩:=J.live i' b m
       rw [ho] at h1; cases h1; rw [hx] at h2; cases h2) ho) fun a ha=>noS i a ha (off a ha)⟩
  .
   have key:∀ i j a,a ∈ F' i -> a ∈ F' j -> (∃ k,a ∈ Fc' k) -> ∃ k mp,as[k]? = some (.t i mp) /\ a ∈ Fc' k:=by
    intro i j a ha _ ⟨k0,hk0⟩
    have no:∀ i',a ∈ F i' -> ¬ ∀ k,a ∉ (d k).1:=fun i' m off=>by
     have:=(E.live k0 a hk0).1
     rw [jA off] at this
     obtain ⟨⟨o,ho,_⟩,_⟩:=J.live i' a m
     rw [this] at ho; cases ho
    rcases memF i a ha with ⟨_,m,off⟩ | ⟨k,mp,e,_,z,_⟩
    . exact absurd off (no i m)
    . rcases z with z | ⟨m,off⟩
      . exact ⟨k,mp,e,z⟩
      . exact absurd off (no i m)
   by_cases hk:∃ k,a ∈ Fc' k
   . obtain ⟨k1,mp1,e1,z1⟩:=key i j a h1 h2 hk
     obtain ⟨k2,mp2,e2,z2⟩:=key j i a h2 h1 hk
     have:=E.apart k1 k2 a z1 z2
     subst this
     rw [e1] at e2; cases e2; rfl
   . have fromF:∀ i,a ∈ F' i -> a ∈ F i:=fun i ha=>by
      rcases memF i a ha with ⟨_,m,_⟩ | ⟨k,mp,e,_,z,_⟩
      . exact m
      . rcases z with z | ⟨m,_⟩
        . exact absurd ⟨k,z⟩ hk
        . exact m
     exact J.apart i j a (fromF i h1) (fromF j h2)
  . rcases memF i a ha with ⟨_,m,off⟩ | ⟨k,mp,e,eg,z,io,t,π,u',x1,x2,x3⟩
    . obtain ⟨⟨o,ho,hx⟩,hg',_⟩:=J.live i a m
      exact ⟨⟨o,keep a o off ho,hx⟩,hg',noS i a m off⟩
    . obtain ⟨v0,_,_,rg,pg⟩:=hg k i mp u' e x3 io t π x1 x2
      rw [eg] at ha
      refine ⟨rg.live a ha,?_⟩
      rcases z with z | ⟨m,off⟩
      . refine ⟨?_,(E.live k a z).2⟩
        rcases nI (E.live k a z).1 with y | ⟨k',y⟩
        . exact J.gh.free y
        . obtain ⟨i',mp',_,m⟩:=tOf k' a y
          exact (J.live i' a m).2.1
      . exact ⟨(J.live i a m).2.1,noS i a m off⟩
  . rw [xO]; exact J.len
end
end L2.P
namespace L2.E
open PySem PySem.Spec PyProof.Rows L2
section
variable {X:Cx} {k:Nat} {f C:Addr} {fd:FuncData} {ps:List Str} {sp:Sp} {ds:List Value} {W:XW} {x m:Str} {p pos apos:Pos} {e o:Expr} {es:List Expr} {ta:TE} {t:TA}
noncomputable def wu (C:Addr) (m:Str) (sp:Sp) (W:XW) (ta:TE) (t:TA):TE:=fun σ H Q=>ta σ H fun x H1=>∃ a dx fs,x = .ref a /\ H1 a = some (.ins C dx fs) /\ fs.lookup m = none /\
 t σ H1 fun vs H2=>sp (x ::vs) H2 Q fun C a H'=>W C a σ H'
theorem xg {pl:Sem Bool} (he:QE X o ta) (c:Cls X.K C) (hm:Meth X.K C m f) (F:cB X.prog X.w X.K X.mg X.base (CXE X.prog X.w) k f fd ps sp) (hr:ie k X.A) (hb:Binds X.K fd ps []) (hx:Thr X W) (ha:QA X (e ::es) t)
  (hst:starEach (e ::es) X.env = (false,eval e X.env) ::starEach es X.env:=by rfl) (hpl:(backTo pos (starEach es X.env)).any (·.1) = false:=by rfl)
  (ht:eval (.Call (.Attribute o m apos) (e ::es) [] pos) X.env = (do
    let ov <- eval o X.env
    standAt apos.atName
    let (f,first) <- holding [ov] (getMethod ov m pl)
    callWith pos f first (backTo pos (starEach (e ::es) X.env)) (backToKw pos (keywordEach [] X.env))):=by rfl):
  QE X (.Call (.Attribute o m apos) (e ::es) [] pos) (wu C m sp W ta t):=⟨by
 intro pins s σ H Q I h
 refine PySem.W.methodCall_KW (pl:=pl) (thn (he.out pins s σ H _ I h) fun u s1 ⟨x,H1,I1,rx,a,dx,fs,ex,ea,l,q⟩=>?_) ht
 subst ex
 obtain rfl:u = Value.ref a:=rx
 refine uH I1 ea c hm l ?_
 refine PySem.W.callWith_K (first:=[.ref a]) (h₀:=X.base) I.ok.mod.kin hm.kp (thn (ha.out pos pins s1 σ H1 _ I1 q) fun us s2 ⟨vs,H2,I2,r,q2⟩=>⟨I2.kIn,?_⟩) hst hpl
 exact sY (us:=.ref a ::us) (vs:=.ref a ::vs) (dvs:=[]) F hr hb .nil hx I2 (.cons rfl r) (by rw [List.append_nil]; exact q2)⟩
theorem uT {pl:Sem Bool} (he:QE X o ta) (c:Cls X.K C) (hm:Meth X.K C m f) (F:cB X.prog X.w X.K X.mg X.base (CXE X.prog X.w) k f fd ps sp) (hr:ie k X.A) (hb:Binds X.K fd ps []) (hx:Thr X W)
  (ht:eval (.Call (.Attribute o m apos) [] [] pos) X.env = (do
    let ov <- eval o X.env
    standAt apos.atName
    let (f,first) <- holding [ov] (getMethod ov m pl)
    callWith pos f first (backTo pos (starEach [] X.env)) (backToKw pos (keywordEach [] X.env))):=by rfl):
  QE X (.Call (.Attribute o m apos) [] [] pos) (wu C m sp W ta kD):=⟨by
 intro pins s σ H Q I h
 refine PySem.W.methodCall_KW (pl:=pl) (thn (he.out pins s σ H _ I h) fun u s1 ⟨x,H1,I1,rx,a,dx,fs,ex,ea,l,q⟩=>?_) ht
 subst ex
 obtain rfl:u = Value.ref a:=rx
 refine uH I1 ea c hm l ?_
 exact PySem.W.callWith_K0 (first:=[.ref a]) I1.kIn hm.kp (sY (us:=[.ref a]) (vs:=[.ref a]) (dvs:=[]) F hr hb .nil hx I1 (.cons rfl .nil) q)⟩
theorem u6 {x:Str} (F:cB X.prog X.w X.K X.mg X.base (CXE X.prog X.w) k f fd ps sp) (hr:ie k X.A) (hg:Gl X x) (hm:X.mg x = some (.ref f)) (hk:PySem.W.keepIn X.K (.ref f) = true) (hb:Binds X.K fd ps []) (hx:Thr X W)
  (hdb:(x == ("__debug__":Str)) = false:=by decide):QE X (.Call (.Name x p) [] [] pos) (qk sp [] W kD):=⟨BG F hr hg hm hk hb .nil hx hdb⟩
theorem C4 (M:Mk X.K C f) (F:cB X.prog X.w X.K X.mg X.base (CXE X.prog X.w) k f fd ps sp) (hr:ie (k + 1) X.A) (hg:Gl X x) (hm:X.mg x = some (.ref C)) (hb:Binds X.K fd ps []) (hdb:(x == ("__debug__":Str)) = false:=by decide):
  QE X (.Call (.Name x p) [] [] pos) (Ce C sp [] (fun _ _ _=>False) kD):=⟨C7 M F hr hg hm hb .nil (fun pins σ H s e s' I h=>by obtain ⟨a,C,dx,H',_,_,_,_,_,_,z⟩:=h; exact z.elim) hdb⟩
theorem uu {f:Str} (he:QE X e ta) (hb:attributeBase e f X.env (eval e X.env) = eval e X.env:=by rfl):QE X (.Attribute e f pos) (Hk X.K ta f):=⟨IE he.out hb⟩
theorem GC {f:Str} {value:Expr} {tv:TE} {pos':Pos} (ha:QE X o ta) (hv:QE X value tv) (hs:swapsWith value (some (.Attribute o f pos')) pos.line X.env = pure false:=by rfl):QS X (.Assign [.Attribute o f pos'] value pos) (GU X.K ta tv f):=⟨IP ha.out hv.out hs⟩
end
end L2.E
namespace L2.P
open PySem PySem.Spec PyProof.Rows L2 L2.E
section
variable {K:PySem.W.Frag} {cls:String -> Option Addr} {W:XW} {Av G S₀ S S' H H' B B':Hp} {ρ:ae} {σ:St} {Q:VK} {F Fc Fc':Nat -> List Addr}
theorem SR.more {x:PV} {v:V} (I:SR K cls Av G S₀ ρ σ S H) (h:Rep K S x v):SR K cls Av G S₀ (ρ ++ [some (.sh x)]) (σ ++ [some v]) S H:=by
 obtain ⟨F,J⟩:=I
 exact J.more (fp:=[]) (fun t e=>by cases e; exact ⟨v,rfl,rfl,h⟩) (fun a ha=>nomatch ha) fun j a _ ha=>nomatch ha
theorem tZ {f:List Sl -> OI} {as:List Arg} {ss:List Sl} {vs:List V} {S1 H1:Hp} (ok:argsOk as = true) (I:SR K cls Av G S₀ ρ σ S1 H1) (s1:aI S S1) (ar:ARs K S1 H1 ρ σ as ss vs)
  (p:FO K cls W Av G S₀ σ S Q (match f ss with
    | .ok x outs=>.ok (fq ρ as outs ρ) (.sh x)
    | .exc c fs outs=>.exc (fq ρ as outs ρ) c fs
    | .bad=>.bad)):spI K cls f vs H1 Q fun C a H'=>W C a σ H':=by
 obtain ⟨Fc,A,fin⟩:=I.Kh ok ar
 refine ⟨S1,ss,Fc,A,?_⟩
 cases e:f ss with
 | bad=>rw [e] at p; exact p
 | ok x outs=>rw [e] at p; exact fun v S' H' Fc' E r=>p v S' H' ((fin outs S' H' Fc' E).more r) (s1.trans E.s)
 | exc c fs outs=>rw [e] at p; exact fun a C S' H' Fc' E r=>p a C S' H' (fin outs S' H' Fc' E) (s1.trans E.s) r
theorem tL {f:List Sl -> OI} {as:List Arg} {t:TA} (ok:argsOk as = true) (h:JAI K cls t as):JX K cls W (qk (spI K cls f) [] W t) (i0 f as):=by
 intro Av G S₀ ρ σ S H Q I p
 unfold i0 at p
 cases e:jr as ρ with
 | none=>rw [e] at p; exact p.elim
 | some ss=>
   rw [e] at p
   refine h Av G S₀ ρ σ S H _ ss I e fun vs S1 H1 w1 ar=>?_
   show spI K cls f (vs ++ []) H1 Q _
   rw [List.append_nil]
   exact tZ ok (I.grow w1) w1.s ar p
theorem zw {c:String} {m:Str} {C:Addr} {a:Arg} {s:Sl} {v:V} (hc:cls c = some C) (I:SR K cls Av G S₀ ρ σ S H) (r:AR1 K S H ρ σ a s v) (h:recv c m (some s) = true):∃ q dx us,v = .ref q /\ H q = some (.ins C dx us) /\ us.lookup m = none:=by
 have main:∀ (ks:List Str) (ts:List OV) (f:List Addr),(c == c && !ks.contains m) = true -> br K cls S H (.ob c ks ts) v f -> ∃ q dx us,v = .ref q /\ H q = some (.ins C dx us) /\ us.lookup m = none:=by
  intro ks ts f hk ro
  unfold br at ro
  obtain ⟨q,C',dx,us,ff,rfl,hcl,hq,hd,hks,rfl,rs⟩:=ro
  rw [hc] at hcl; cases hcl
  refine ⟨q,dx,us,rfl,hq,?_⟩
  have hn:m ∉ us.map (·.1):=by rw [hks]; simpa using hk
  clear hks hk rs hq
  induction us with
  | nil=>rfl
  | cons p us ih=>
    obtain ⟨g,y⟩:=p
    simp at hn
    have:(m == g) = false:=by simpa using hn.1
    simp [List.lookup,this,ih (by simpa using hn.2)]
 cases a with
 | e me=>cases s <;> first | exact r.elim | cases h
 | t i mp=>
   cases s with
   | tr io u=>
     cases io with
     | false=>cases h
     | true=>
       cases u with
       | sh x=>cases h
       | ol ts=>cases h
       | di x=>cases h
       | dt x=>cases h
       | ob c' ks ts=>
         obtain ⟨io,t,π,v0,h1,h2,h3,h4,h5⟩:=r
         have h':(c' == c && !ks.contains m) = true:=h
         have hcc:c' = c:=by rw [Bool.and_eq_true] at h'; simpa using h'.1
         subst hcc
         obtain ⟨v',fp,ev,ro⟩:=I.tree (i:=i) (t:=t) (by unfold fO; rw [h1]; rfl)
         rw [h4] at ev; cases ev
         obtain ⟨w,f1,rest,wk,r1,_,_⟩:=ro.focus h3
         have:=h5.inj wk
         subst this
         exact main ks ts f1 h' r1
   | sh x=>exact r.elim
   | ow x=>exact r.elim
   | ex c fs=>exact r.elim
   | bo x=>exact r.elim
 | b i mp=>
   cases s with
   | bo u=>
     cases u with
     | sh x=>cases h
     | ol ts=>cases h
     | di x=>cases h
     | dt x=>cases h
     | ob c' ks ts=>
       obtain ⟨t,π,v0,h1,h2,h3,h4,h5⟩:=r
       have h':(c' == c && !ks.contains m) = true:=h
       have hcc:c' = c:=by rw [Bool.and_eq_true] at h'; simpa using h'.1
       subst hcc
       obtain ⟨v',fp,ev,ro⟩:=I.tree h1
       rw [h4] at ev; cases ev
       obtain ⟨w,f1,rest,wk,r1,_,_⟩:=ro.focus h3
       have:=h5.inj wk
       subst this
       exact main ks ts f1 h' r1
   | sh x=>exact r.elim
   | ow x=>exact r.elim
   | ex c fs=>exact r.elim
   | tr io x=>exact r.elim
theorem xC {c:String} {m:Str} {C:Addr} {f:List Sl -> OI} {a:Arg} {as:List Arg} {ta:TE} {t:TA} (hc:cls c = some C) (ok:argsOk (a ::as) = true) (ha:JA1 K cls ta a) (h:JAI K cls t as):JX K cls W (wu C m (spI K cls f) W ta t) (oq c m f (a ::as)):=by
 intro Av G S₀ ρ σ S H Q I p
 unfold oq at p
 dsimp only at p
 split at p
 . rename_i hr
   unfold i0 at p
   cases e:jr (a ::as) ρ with
   | none=>rw [e] at p; exact p.elim
   | some ss=>
     rw [e] at p
     have e':=e
     unfold jr at e'
     obtain ⟨s,e1,e2⟩:=Option.bind_eq_some_iff.mp e'
     obtain ⟨sr,e3,rfl⟩:=Option.map_eq_some_iff.mp e2
     rw [e1] at hr
     refine ha Av G S₀ ρ σ S H _ s I e1 fun v S1 H1 w1 r1=>?_
     have I1:=I.grow w1
     obtain ⟨q,dx,us,rfl,hq,hl⟩:=zw hc I1 r1 hr
     refine ⟨q,dx,us,rfl,hq,hl,?_⟩
     refine h Av G S₀ ρ σ S1 H1 _ sr I1 e3 fun vs S2 H2 w2 ar=>?_
     exact tZ (ss:=s ::sr) ok (I1.grow w2) (w1.s.trans w2.s) ⟨s,sr,_,vs,rfl,rfl,r1.mono w2.s w2.g,ar⟩ p
 . exact p.elim
theorem yH {f:List Sl -> OI} {as:List Arg} {ss:List Sl} {vs:List V} (ok:dr as = []) (I:SR K cls Av G S₀ ρ σ S H) (ar:ARs K S H ρ σ as ss vs)
  (p:kZ K cls W σ S H Q (match f ss with
    | .ok x _=>.ok (.sh x)
    | .exc c fs _=>.exc c fs
    | .bad=>.bad)):spI K cls f vs H Q fun C a H'=>W C a σ H':=by
 have hm:minus H (fun _=>[]) = H:=by funext a; exact jA fun k h=>nomatch h
 have hlen:=ar.len
 refine ⟨S,ss,fun _=>[],⟨I.sh,by rw [hlen.1,hlen.2],fun k s es=>?_,fun j k a h=>(nomatch h),fun k a h=>(nomatch h)⟩,?_⟩
 . have hk:k < as.length:=by rw [<- hlen.1]; exact (List.getElem?_eq_some_iff.mp es).1
   obtain ⟨s',w,es',ev,r⟩:=ar.at (k:=k) (a:=as[k]) (by simp [hk])
   rw [es] at es'; cases es'
   refine ⟨w,ev,?_⟩
   cases q:as[k] with
   | e me=>
     rw [q] at r
     cases s <;> first | exact r.elim | exact ⟨rfl,r⟩
   | t i mp=>
     have:=gE (as:=as) (k:=k) (i:=i) (mp:=mp) (by rw [List.getElem?_eq_getElem hk,q])
     rw [ok] at this; cases this
   | b i mp=>
     rw [q] at r
     cases s with
     | bo u=>
       obtain ⟨t,π,v0,h1,h2,h3,h4,h5⟩:=r
       obtain ⟨v',fp,ev',ro⟩:=I.tree h1
       rw [h4] at ev'; cases ev'
       obtain ⟨w',f1,rest,wk,r1,_,_⟩:=ro.focus h3
       have:=h5.inj wk
       subst this
       exact ⟨rfl,f1,by rw [hm]; exact r1⟩
     | sh x=>exact r.elim
     | ow x=>exact r.elim
     | ex c fs=>exact r.elim
     | tr io x=>exact r.elim
 . have gr:∀ {outs S' H' Fc'},C8 K cls vs S H (fun _=>[]) outs S' H' Fc' -> bf S H S' H':=fun {outs S' H' Fc'} E=>⟨E.s,by have:=E.keep; rwa [hm] at this,E.sh,fun b hb=>by
    rcases E.new b hb with z | z | ⟨k,z⟩
    . exact .inl z
    . exact .inr z
    . cases z⟩
   cases e:f ss with
   | bad=>rw [e] at p; exact p
   | ok x outs=>rw [e] at p; exact fun v S' H' Fc' E r=>p v S' H' (gr E) r
   | exc c fs outs=>rw [e] at p; exact fun a C S' H' Fc' E r=>p a C S' H' (gr E) r
theorem yl {c:String} {m:Str} {C:Addr} {f:List Sl -> OI} {a:Arg} {as:List Arg} {ta:TE} {t:TA} (hc:cls c = some C) (ok:dr (a ::as) = []) (ha:JA1 K cls ta a) (h:JAI K cls t as):JE K cls W (wu C m (spI K cls f) W ta t) (mR c m f (a ::as)):=by
 intro Av G S₀ ρ σ S H Q I p
 unfold mR at p
 dsimp only at p
 split at p
 . rename_i hr
   unfold vZ at p
   cases e:jr (a ::as) ρ with
   | none=>rw [e] at p; exact p.elim
   | some ss=>
     rw [e] at p
     have e':=e
     unfold jr at e'
     obtain ⟨s,e1,e2⟩:=Option.bind_eq_some_iff.mp e'
     obtain ⟨sr,e3,rfl⟩:=Option.map_eq_some_iff.mp e2
     rw [e1] at hr
     refine ha Av G S₀ ρ σ S H _ s I e1 fun v S1 H1 w1 r1=>?_
     have I1:=I.grow w1
     obtain ⟨q,dx,us,rfl,hq,hl⟩:=zw hc I1 r1 hr
     refine ⟨q,dx,us,rfl,hq,hl,?_⟩
     refine h Av G S₀ ρ σ S1 H1 _ sr I1 e3 fun vs S2 H2 w2 ar=>?_
     exact yH (ss:=s ::sr) ok (I1.grow w2) ⟨s,sr,_,vs,rfl,rfl,r1.mono w2.s w2.g,ar⟩ (p.back (w1.trans w2))
 . exact p.elim
theorem EF {c:String} {C:Addr} {f:List Sl -> OI} (hc:cls c = some C):JD K cls W (Ce C (spI K cls f) [] (fun _ _ _=>False) kD) (vj c f):=by
 intro Av G S₀ ρ σ S H Q I p
 unfold vj at p
 show ∀ x dx,H x = none -> H dx = none -> dx ≠ x -> _
 intro x dx hx hdx ne
 have gS:∀ a,H a = none -> S a = none:=fun a h=>I.sh.free h
 let H1:=upd (upd H dx (.own x)) x (.ins C dx [])
 have h1x:H1 x = some (.ins C dx []):=bD
 have h1d:H1 dx = some (.own x):=by show upd _ x _ dx = _; rw [bJ ne,bD]
 have h1o:∀ a,a ≠ x -> a ≠ dx -> H1 a = H a:=fun a n1 n2=>by show upd _ x _ a = _; rw [bJ n1,bJ n2]
 let Fc:Nat -> List Addr:=fun k=>if k = 0 then [x,dx] else []
 have mF:∀ k a,a ∈ Fc k -> k = 0 /\ (a = x \/ a = dx):=fun k a h=>by
  have h':a ∈ (if k = 0 then [x,dx] else []):=h
  split at h'
  . rename_i e; exact ⟨e,by simpa using h'⟩
  . cases h'
 have A:CM K cls [.tr true (.ob c [] [])] [.ref x] S H1 Fc:=by
  refine ⟨fun b u h=>?_,rfl,fun k s e=>?_,fun j k a h1 h2=>?_,fun k a h=>?_⟩
  . have hb:=I.sh b u h
    rw [h1o b (fun z=>by rw [z,hx] at hb; cases hb) (fun z=>by rw [z,hdx] at hb; cases hb)]; exact hb
  . cases k with
    | zero=>
      cases e
      refine ⟨.ref x,rfl,?_,?_⟩
      . unfold br
        exact ⟨x,C,dx,[],[],rfl,hc,h1x,h1d,rfl,rfl,.nil⟩
      . show [x,dx].Nodup
        simp [Ne.symm ne]
    | succ k=>simp at e
  . rw [(mF j a h1).1,(mF k a h2).1]
  . rcases (mF k a h).2 with z | z
    . subst z; exact ⟨⟨_,h1x,rfl⟩,gS _ hx⟩
    . subst z; exact ⟨⟨_,h1d,rfl⟩,gS _ hdx⟩
 refine ⟨S,_,Fc,A,?_⟩
 have free:∀ a,minus H1 Fc a = none -> H a = none:=fun a h=>by
  rcases nI h with z | ⟨k,z⟩
  . by_cases n1:a = x
    . rw [n1]; exact hx
    . by_cases n2:a = dx
      . rw [n2]; exact hdx
      . rw [h1o a n1 n2] at z; exact z
  . rcases (mF k a z).2 with y | y
    . rw [y]; exact hx
    . rw [y]; exact hdx
 cases e:f [.tr true (.ob c [] [])] with
 | bad=>rw [e] at p; exact p.elim
 | exc c fs outs=>rw [e] at p; exact p.elim
 | ok y outs=>
   rw [e] at p
   cases y with
   | non=>
     cases outs with
     | nil=>exact p.elim
     | cons o outs=>
       cases o with
       | none=>exact p.elim
       | some t=>
         dsimp only at p
         intro v S' H' Fc' E r
         unfold Rep at r
         refine ⟨r,p (.ref x) S' H' ⟨E.s,fun b u h=>?_,E.sh,fun b h=>?_⟩ ?_⟩
         . have n1:b ≠ x:=fun z=>by rw [z,hx] at h; cases h
           have n2:b ≠ dx:=fun z=>by rw [z,hdx] at h; cases h
           refine E.keep b u ?_
           rw [jA fun k z=>?_]
           . exact (h1o b n1 n2).trans h
           . rcases (mF k b z).2 with y | y
             . exact n1 y
             . exact n2 y
         . rcases E.new b h with z | z | ⟨k,z⟩
           . exact .inl z
           . refine .inr ?_
             by_cases n1:b = x
             . rw [n1]; exact hx
             . by_cases n2:b = dx
               . rw [n2]; exact hdx
               . exact (h1o b n1 n2).symm.trans z
           . rcases (mF k b z).2 with y | y
             . rw [y]; exact .inr hx
             . rw [y]; exact .inr hdx
         . obtain ⟨u,eu,ro,nd⟩:=E.out 0 t rfl
           cases eu
           exact ⟨Fc' 0,ro,nd,fun a ha=>⟨free a (E.live 0 a ha).1,(E.live 0 a ha).2⟩⟩
   | bl b=>exact p.elim
   | int b=>exact p.elim
   | str b=>exact p.elim
   | lst b=>exact p.elim
   | tup b=>exact p.elim
end
end L2.P
namespace L2.E
open PySem PySem.Spec PyProof.Rows L2
noncomputable def wD (wi:TI) (ι:List Nat) (tc:TT) (te:TE):TE:=fun σ H Q=>wi σ H fun J H1=>∀ D,H1 D = none -> ∃ W:Nat -> Nat -> List V -> Hp -> Prop,(∃ m,W 0 m [] (upd H1 D (.lst []))) /\ ∀ i m ys H,W i m ys H ->
 H D = some (.lst ys) /\ ((J.stop i H /\ Q (.ref D) H) \/ (J.go i H /\ ∀ x H',J.yld i H x H' -> tc (pick ι σ ++ [some x]) H' fun b H3=>H3 D = some (.lst ys) /\ if b = true then
   te (pick ι σ ++ [some x]) H3 fun y H2=>H2 D = some (.lst ys) /\ ys.length < sizeLine /\ ∃ m',m' < m /\ W (i + 1) m' (ys ++ [y]) (upd H2 D (.lst (ys ++ [y]))) else ∃ m',m' < m /\ W (i + 1) m' ys H3))
section
variable {X:Cx} {scope:Scope} {cl:List (Str × Addr)} {M:List Str} {ι:List Nat} {x:Str}
theorem AZ {elt iter c:Expr} {px pos:Pos} {wi:TI} {tc:TT} {te:TE} (S:nv X scope cl M ι x) (hc:X.calm = true) (hi:PI X (.Name x px) iter wi) (hcd:∀ C s₀ H₀ ex,PT (blk X scope cl (M ++ [x]) C s₀ H₀ ex) c tc) (he:∀ C s₀ H₀ ex,PE (blk X scope cl (M ++ [x]) C s₀ H₀ ex) elt te)
  (hs:∀ v,foldedSetIterable iter X.env v = pure v:=by intro _; rfl):PE X (.ListComp elt [⟨.Name x px,iter,[c],0⟩] scope pos) (wD wi ι tc te):=by
 intro pins s σ H Q I h
 rw [eval_ListComp]
 refine wpAny_comprehension_free (use:=none) rfl hs S.clos S.kind (fun y hy hl=>?_) (wpAny_mono (hi pins s σ H _ I h) (fun v s1 h1=>wpAny_mono h1 (fun itv s2 h2=>?_) fun _ _ z=>z) fun _ _ z=>z)
 . have q:=List.all_eq_true.mp S.locs y hy
   rw [hl] at q
   simpa using q
 obtain ⟨it,fp,tn,J,H2,rfl,I2,T,st2,f2,hW⟩:=h2
 have I3:=I2.Eu (ys:=[]) (its:=[]) (t':=s2.toks) .nil (Nat.zero_le _)
 obtain ⟨W,⟨m0,w0⟩,turn⟩:=hW s2.heap.objs.size I2.fresh
 have fpo:∀ b ∈ fp,b < s2.heap.objs.size:=fun b hb=>let ⟨_,e,_⟩:=T.obj _ _ st2 b hb; Heap.lt_size e
 have f3:∀ b ∈ fp,oU X pins (upd H2 s2.heap.objs.size (.lst [])) b:=fun b hb=>by
  obtain ⟨q0,q⟩:=f2 b hb
  exact ⟨by rw [bJ (Nat.ne_of_lt (fpo b hb))]; exact q0,q⟩
 show wpAny _ _ (newObj (.type "list") _ none) _ _ s2
 refine wpAny_newObj_type (wpAny_newFunctionEnv (fun y hy=>?_) (by intro y hy; simp at hy) (fun h₁ hn₁ sb₁=>?_) S.kind)
 . have q:=List.all_eq_true.mp S.nocell y hy
   simpa using q
 have hsz:(s2.heap.push { cls:=.type "list",dict:=none,data:=.seq ([]:List Value).toArray }).objs.size = s2.heap.objs.size + 1:=Heap.size_push ..
 have hk₁:∀ b o,(s2.heap.push { cls:=.type "list",dict:=none,data:=.seq ([]:List Value).toArray }).get? b = some o -> h₁.get? b = some o:=fun b o e=>
  (sb₁.2 b (Nat.ne_of_lt (Heap.lt_size e))).trans (Heap.get?_push_of_some _ e)
 have J0:=zr (t':=s2.toks + ([]:List (Str × Value)).length) S I3 (ex:=fp) (fun b hb=>⟨f3 b hb,Nat.lt_of_lt_of_le (fpo b hb) (by rw [hsz]; exact Nat.le_succ _)⟩) hn₁ hk₁
 have old:∀ b ∈ fp,∀ o,s2.heap.get? b = some o -> h₁.get? b = some o:=fun b _ o e=>hk₁ b o (Heap.get?_push_of_some _ e)
 have st₁:tn 0 h₁:=T.keep _ _ _ st2 old
 have loop:codeAny (model X.prog X.w) X.A (.compLoop (.ListComp elt [⟨.Name x px,iter,[c],0⟩] scope pos) 0 (.ref it) (.ref s2.heap.objs.size) (compEnvC scope cl (s2.heap.objs.size + 1) X.env))
   (compPost (model X.prog X.w) X.A X.xe none (EP X pins σ Q) (.ref s2.heap.objs.size) (s2.heap.objs.size + 1)) { s2 with heap:=h₁,toks:=s2.toks + ([]:List (Str × Value)).length }:=by
  rw [hsz] at J0
  refine codeAny_loop rfl (fun n s'=>∃ i H' ys v,Inv (blk X scope cl (M ++ [x]) (s2.heap.objs.size + 1) { s2 with heap:=s2.heap.push { cls:=.type "list",data:=.seq ([]:List Value).toArray },toks:=s2.toks } (upd H2 s2.heap.objs.size (.lst [])) fp) [] (pick ι σ ++ [v]) H' s' /\ tn i s'.heap /\ (∀ b ∈ fp,H' b = none) /\ W i n ys H')
   (fun n s' hI=>?_) m0 ⟨0,_,[],none,J0,st₁,fun b hb=>(f3 b hb).1,w0⟩
  obtain ⟨i,H',ys,v,J',st',fr',w'⟩:=hI
  obtain ⟨hD,alt⟩:=turn i n ys H' w'
  have fpY:∀ {G:Hp},(∀ b ∈ fp,G b = none) -> ∀ b ∈ fp,oU (blk X scope cl (M ++ [x]) (s2.heap.objs.size + 1) { s2 with heap:=s2.heap.push { cls:=.type "list",data:=.seq ([]:List Value).toArray },toks:=s2.toks } (upd H2 s2.heap.objs.size (.lst [])) fp) [] G b:=fun hG b hb=>
   ⟨hG b hb,(J'.ok.exf b hb).1,J'.ok.exfs b hb,.inl hb,(J'.ok.exf b hb).2,fun p hp=>absurd (show p ∈ ([]:List (Addr × Obj)) from hp) (by simp)⟩
  show wpAny _ _ ((compTurn _ 0 (.ref it) (.ref s2.heap.objs.size) (compEnvC scope cl (s2.heap.objs.size + 1) X.env)).onRaise _) _ _ s'
  refine wpAny_noted (wpAny_noRaise ?_)
  rw [compTurn_list]
  refine wpAny_bind (wpAny_standAt (wpAny_bind ?_))
  rcases alt with ⟨stop,qn⟩ | ⟨go,step⟩
  . refine thn (T.done (blk X scope cl (M ++ [x]) (s2.heap.objs.size + 1) _ _ fp) rfl rfl rfl hc i [] s' _ H' _ J' (fpY fr') st' stop) fun r s4 ⟨hr,J4⟩=>?_
    subst hr
    refine wpAny_pure ?_
    obtain ⟨m,hm,_⟩:=id J4.loc
    refine ⟨m,hm,fun h' sb=>⟨.ref s2.heap.objs.size,H',vG I3 hsz.symm f3 J4 sb,rfl,qn⟩⟩
  . refine thn (T.item (blk X scope cl (M ++ [x]) (s2.heap.objs.size + 1) _ _ fp) rfl rfl rfl hc i [] s' _ H' _ J' (fpY fr') st' go) fun r s4 ⟨u,hr,h4⟩=>?_
    subst hr
    refine wpAny_bind (thn h4 fun _ s5 ⟨z,H5,J5,r5,y5,st5,fr5⟩=>?_)
    have J5':=J5.pinned (fpY fr5) (T.obj _ _ st5)
    have hxN:(M ++ [x])[M.length]? = some x:=by simp
    refine wpAny_bind ?_
    refine wpAny_assign_Name ?_
    refine mH (X:=blk X scope cl (M ++ [x]) (s2.heap.objs.size + 1) _ _ fp) (i:=M.length) (v:=z) J5' S.nd hxN (.inl (lookup_relabel_local S.var)) r5 (fun s6 J6=>?_) (.inr (lookup_relabel_local S.var))
    have hlp:(pick ι σ).length = M.length:=by
     have q:=congrArg List.length S.names
     rw [List.length_map,List.length_map] at q
     unfold pick
     rw [List.length_map,q]
    have hset:(pick ι σ ++ [v]).set M.length (some z) = pick ι σ ++ [some z]:=by
     rw [<- hlp,List.set_append_right _ _ (Nat.le_refl _),Nat.sub_self]
     rfl
    rw [hset] at J6
    refine wpAny_bind (wpAny_tests_one (thn (hcd _ _ _ _ _ s6 _ H5 _ J6 (step z H5 y5)) fun b s7 ⟨H7,J7,hD7,q7⟩=>?_))
    cases b with
    | true=>
      rw [if_pos rfl] at q7
      refine wpAny_bind (wpAny_bind (thn (he _ _ _ _ _ s7 _ H7 _ J7 q7) fun yv s8 ⟨y,H8,J8,r8,hD8,hz8,m',hm',w8⟩=>?_))
      refine wpAny_bind (thn (cz (X:=blk X scope cl (M ++ [x]) (s2.heap.objs.size + 1) _ _ fp) _ s8 _ H8 (.ref s2.heap.objs.size) [y] (.ref s2.heap.objs.size) [yv] (fun _ G=>G = upd H8 s2.heap.objs.size (.lst (ys ++ [y]))) J8 rfl (.cons r8 .nil) ⟨_,_,y,rfl,rfl,hD8,hz8,rfl⟩) fun _ s9 ⟨_,H9,J9,_,e9⟩=>?_)
      subst e9
      refine wpAny_pure (wpAny_pure ⟨rfl,m',hm',i + 1,_,_,some z,J9.jT,?_,fun b hb=>?_,w8⟩)
      . exact T.keep _ _ _ st5 fun b hb o e=>(J9.pin (b,o) (List.mem_append_right _ (List.mem_append_right _ (eI hb e)))).1
      . obtain ⟨o,e,d⟩:=T.obj _ _ st5 b hb
        exact (J9.pin (b,o) (List.mem_append_right _ (List.mem_append_right _ (eI hb e)))).2.1
    | false=>
      rw [if_neg (by decide)] at q7
      obtain ⟨m',hm',w8⟩:=q7
      refine wpAny_pure ⟨rfl,m',hm',i + 1,_,_,some z,J7.jT,?_,fun b hb=>?_,w8⟩
      . exact T.keep _ _ _ st5 fun b hb o e=>(J7.pin (b,o) (List.mem_append_right _ (List.mem_append_right _ (eI hb e)))).1
      . obtain ⟨o,e,d⟩:=T.obj _ _ st5 b hb
        exact (J7.pin (b,o) (List.mem_append_right _ (List.mem_append_right _ (eI hb e)))).2.1
 rw [hsz] at *
 exact codeAny_compStart_list loop (T.self X.A 0 _ _ _ st₁ loop)
end
end L2.E
namespace L2.E
open PySem PySem.Spec PyProof.Rows L2
theorem C9 (its:List Value):slicePick its.toArray none none (some (-1)) = its.reverse.toArray:=by
 unfold slicePick
 have hb:sliceBounds none none (some (-1)) its.toArray.size = ((its.length:Int) - 1,-1,-1):=by simp [sliceBounds]
 rw [hb]
 congr 1
 have hr:sliceRange ((its.length:Int) - 1) (-1) (-1) = (List.range its.length).map fun i=>its.length - 1 - i:=by
  unfold sliceRange
  rw [if_neg (by decide)]
  have hc:(if ((its.length:Int) - 1) > -1 then (((its.length:Int) - 1) - -1 - -1 - 1) / (- -1) else 0).toNat = its.length:=by
   split
   . rw [show (- -1:Int) = 1 by decide,Int.ediv_one]; omega
   . omega
  dsimp only
  rw [hc]
  refine List.map_congr_left fun k hk=>?_
  have:=List.mem_range.mp hk
  omega
 rw [hr]
 apply List.ext_getElem?
 intro n
 rw [List.filterMap_map]
 have hall:∀ m,m <= its.length -> List.filterMap ((fun x=>its.toArray[x]?) ∘ fun i=>its.length - 1 - i) (List.range m) = (its.reverse).take m:=by
  intro m
  induction m with
  | zero=>intro _; simp
  | succ m ih=>
    intro hm
    rw [List.range_succ,List.filterMap_append,ih (by omega)]
    have h1:its.length - 1 - m < its.length:=by omega
    have h2:m < its.reverse.length:=by rw [List.length_reverse]; omega
    rw [List.take_succ_eq_append_getElem h2]
    congr 1
    simp [h1]
 rw [hall its.length (Nat.le_refl _),List.take_of_length_le (by simp)]
theorem wW:∀ {xs:List V} {us:List Value},Vals xs us -> Vals xs.reverse us.reverse
 | _,_,.nil=>.nil
 | _,_,.cons r t=>by
   rw [List.reverse_cons,List.reverse_cons]
   exact (wW t).append (.cons r .nil)
section
variable {X:Cx} {e st:Expr} {te ts:TE} {pos p2:Pos}
noncomputable def GP (K:PySem.W.Frag) (te ts:TE):TE:=fun σ H Q=>te σ H fun x H1=>ts σ H1 fun k H2=>k = .int (-1) /\ ∃ a xs,x = .ref a /\ SqL K H2 a xs /\ ∀ p,H2 p = none -> Q (.ref p) (upd H2 p (.lst xs.reverse))
theorem GF (he:PE X e te) (hk:PE X st ts):PE X (.Subscript e (.Slice none none (some st) p2) pos) (GP X.K te ts):=by
 intro pins s σ H Q I h
 refine Subscript_ (thn (he pins s σ H _ I h) fun v s1 ⟨x,H1,I1,r1,q1⟩=>?_)
 refine wpAny_Slice ?_
 rw [evalPart_none]
 refine wpAny_pure (wpAny_pure ?_)
 rw [evalPart_some]
 refine thn (hk pins s1 σ H1 _ I1 q1) fun u s3 ⟨k,H3,I3,r3,q3⟩=>?_
 obtain ⟨rfl,a,xs,rfl,hq,q⟩:=q3
 obtain ⟨t,rfl⟩:=r3
 cases r1
 have I4:Inv X pins σ H3 { s3 with heap:=s3.heap.push { cls:=.type "slice",data:=.fields #[.none,.none,.int (-1) t] } }:=I3.kept (t':=s3.toks) fun b ob q=>Heap.get?_push_of_some _ q
 obtain ⟨its,r,ht,hz⟩:=I4.list hq
 have hlen:=r.length
 show wpAny (model X.prog X.w) X.A (subscriptTail e (.Slice none none (some st) p2) (.ref a) (.ref s3.heap.objs.size)) (EP X pins σ Q) X.xe { s3 with heap:=s3.heap.push { cls:=.type "slice",data:=.fields #[.none,.none,.int (-1) t] } }
 refine tail_any (ops:=[.ref a,.ref s3.heap.objs.size]) ht.isList.typeIs slot_list_getitem.lookup ?_ (by with_unfolding_all rfl)
 refine wpAny_getItem_list_slice ht.isList (Heap.IsSliceOf.new ..) .none .none (.int (-1) t) (by decide) ?_ (by rw [List.size_toArray] <;> omega)
 rw [C9]
 refine ⟨.ref _,_,I4.laid (t':=s3.toks) (o:=.lst xs.reverse) (fun b ob q=>Heap.get?_push_of_some _ q) (Nat.le_refl _) ?_,rfl,q _ (I4.hok.fresh (Nat.le_refl _))⟩
 refine ⟨by rw [List.length_reverse]; exact hz,its.reverse,0,wW r,Heap.get?_push_size _ rfl⟩
end
end L2.E
namespace L2.E
open PySem PySem.Spec PyProof.Rows L2
section
variable {X:Cx} {scope:Scope} {cl:List (Str × Addr)} {M:List Str} {ι:List Nat} {x:Str}
theorem Eh {i:Nat} {y:Str} {py spos:Pos} {elt iter:Expr} {px pos:Pos} {wi:TI} {te:TE} (S:nv X scope cl M ι x) (hc:X.calm = true) (hi:PI X (.Name x px) iter wi) (he:∀ C s₀ H₀ ex,PE (blk X scope cl (M ++ [x]) C s₀ H₀ ex) elt te)
  (hN:X.N.Nodup) (hiy:X.N[i]? = some y) (hy:Loc X.env.scope y) (hsw:swapsWith (.ListComp elt [⟨.Name x px,iter,[],0⟩] scope pos) (some (.Name y py)) spos.line X.env = pure true) (hf:X.fn y = true \/ X.env.scope.names.lookup y = some .local:=by first | exact .inl rfl | exact .inr rfl | assumption)
  (hs:∀ v,foldedSetIterable iter X.env v = pure v:=by intro _; rfl):PS X (.Assign [.Name y py] (.ListComp elt [⟨.Name x px,iter,[],0⟩] scope pos) spos) (ub (sF wi ι te) (kE i)):=by
 intro pins s σ H D0 I h
 rw [exec_Assign_Name_used _ _ _ _ hsw]
 refine wpAny_bind (wpAny_standAt (wpAny_bind ?_))
 show wpAny _ _ (do let _ <- comprehension (.ListComp elt [⟨.Name x px,iter,[],0⟩] scope pos) scope X.env _ (newList []) false (eval iter X.env) (some (assign (.Name y py) X.env))) _ _ s
 refine wpAny_bind (wpAny_mono (wpAny_comprehension_free (use:=some (assign (.Name y py) X.env)) (Q:=fun _ s'=>∃ σ' H',Inv X pins σ' H' s' /\ D0.nx σ' H') rfl hs S.clos S.kind (fun y hy hl=>?_) (wpAny_mono (hi pins s σ H _ I h) (fun v s1 h1=>wpAny_mono h1 (fun itv s2 h2=>?_) fun _ _ z=>z) fun _ _ z=>z)) (fun _ s' hq=>wpAny_pure (wpAny_pure hq)) fun _ _ e=>e)
 . have q:=List.all_eq_true.mp S.locs y hy
   rw [hl] at q
   simpa using q
 obtain ⟨it,fp,tn,J,H2,rfl,I2,T,st2,f2,hW⟩:=h2
 have I3:=I2.Eu (ys:=[]) (its:=[]) (t':=s2.toks) .nil (Nat.zero_le _)
 obtain ⟨W,⟨m0,w0⟩,turn⟩:=hW s2.heap.objs.size I2.fresh
 have fpo:∀ b ∈ fp,b < s2.heap.objs.size:=fun b hb=>let ⟨_,e,_⟩:=T.obj _ _ st2 b hb; Heap.lt_size e
 have f3:∀ b ∈ fp,oU X pins (upd H2 s2.heap.objs.size (.lst [])) b:=fun b hb=>by
  obtain ⟨q0,q⟩:=f2 b hb
  exact ⟨by rw [bJ (Nat.ne_of_lt (fpo b hb))]; exact q0,q⟩
 show wpAny _ _ (newObj (.type "list") _ none) _ _ s2
 refine wpAny_newObj_type (wpAny_newFunctionEnv (fun y hy=>?_) (by intro y hy; simp at hy) (fun h₁ hn₁ sb₁=>?_) S.kind)
 . have q:=List.all_eq_true.mp S.nocell y hy
   simpa using q
 have hsz:(s2.heap.push { cls:=.type "list",dict:=none,data:=.seq ([]:List Value).toArray }).objs.size = s2.heap.objs.size + 1:=Heap.size_push ..
 have hk₁:∀ b o,(s2.heap.push { cls:=.type "list",dict:=none,data:=.seq ([]:List Value).toArray }).get? b = some o -> h₁.get? b = some o:=fun b o e=>
  (sb₁.2 b (Nat.ne_of_lt (Heap.lt_size e))).trans (Heap.get?_push_of_some _ e)
 have J0:=zr (t':=s2.toks + ([]:List (Str × Value)).length) S I3 (ex:=fp) (fun b hb=>⟨f3 b hb,Nat.lt_of_lt_of_le (fpo b hb) (by rw [hsz]; exact Nat.le_succ _)⟩) hn₁ hk₁
 have old:∀ b ∈ fp,∀ o,s2.heap.get? b = some o -> h₁.get? b = some o:=fun b _ o e=>hk₁ b o (Heap.get?_push_of_some _ e)
 have st₁:tn 0 h₁:=T.keep _ _ _ st2 old
 have loop:codeAny (model X.prog X.w) X.A (.compLoop (.ListComp elt [⟨.Name x px,iter,[],0⟩] scope pos) 0 (.ref it) (.ref s2.heap.objs.size) (compEnvC scope cl (s2.heap.objs.size + 1) X.env))
   (compPost (model X.prog X.w) X.A X.xe (some (assign (.Name y py) X.env)) (fun _ s'=>∃ σ' H',Inv X pins σ' H' s' /\ D0.nx σ' H') (.ref s2.heap.objs.size) (s2.heap.objs.size + 1)) { s2 with heap:=h₁,toks:=s2.toks + ([]:List (Str × Value)).length }:=by
  rw [hsz] at J0
  refine codeAny_loop rfl (fun n s'=>∃ i H' ys v,Inv (blk X scope cl (M ++ [x]) (s2.heap.objs.size + 1) { s2 with heap:=s2.heap.push { cls:=.type "list",data:=.seq ([]:List Value).toArray },toks:=s2.toks } (upd H2 s2.heap.objs.size (.lst [])) fp) [] (pick ι σ ++ [v]) H' s' /\ tn i s'.heap /\ (∀ b ∈ fp,H' b = none) /\ W i n ys H')
   (fun n s' hI=>?_) m0 ⟨0,_,[],none,J0,st₁,fun b hb=>(f3 b hb).1,w0⟩
  obtain ⟨i,H',ys,v,J',st',fr',w'⟩:=hI
  obtain ⟨hD,alt⟩:=turn i n ys H' w'
  have fpY:∀ {G:Hp},(∀ b ∈ fp,G b = none) -> ∀ b ∈ fp,oU (blk X scope cl (M ++ [x]) (s2.heap.objs.size + 1) { s2 with heap:=s2.heap.push { cls:=.type "list",data:=.seq ([]:List Value).toArray },toks:=s2.toks } (upd H2 s2.heap.objs.size (.lst [])) fp) [] G b:=fun hG b hb=>
   ⟨hG b hb,(J'.ok.exf b hb).1,J'.ok.exfs b hb,.inl hb,(J'.ok.exf b hb).2,fun p hp=>absurd (show p ∈ ([]:List (Addr × Obj)) from hp) (by simp)⟩
  show wpAny _ _ ((compTurn _ 0 (.ref it) (.ref s2.heap.objs.size) (compEnvC scope cl (s2.heap.objs.size + 1) X.env)).onRaise _) _ _ s'
  refine wpAny_noted (wpAny_noRaise ?_)
  rw [vd]
  refine wpAny_bind (wpAny_standAt (wpAny_bind ?_))
  rcases alt with ⟨stop,qn⟩ | ⟨go,step⟩
  . refine thn (T.done (blk X scope cl (M ++ [x]) (s2.heap.objs.size + 1) _ _ fp) rfl rfl rfl hc i [] s' _ H' _ J' (fpY fr') st' stop) fun r s4 ⟨hr,J4⟩=>?_
    subst hr
    refine wpAny_pure ?_
    obtain ⟨m,hm,_⟩:=id J4.loc
    have I4:Inv X pins σ H' s4:=vG (h':=s4.heap) I3 hsz.symm f3 J4 ⟨rfl,fun _ _=>rfl⟩
    obtain ⟨oC,es,ep,hoC,rC⟩:=id hm
    have fC:oU X pins H' (s2.heap.objs.size + 1):=I3.AM (by rw [hsz]; exact Nat.le_refl _) J4.free
    obtain ⟨_,c1,c2,c3,c4,c5⟩:=id fC
    have I5:=I4.pinned (fp:=[s2.heap.objs.size + 1]) (fun b hb=>by
     have z:b = s2.heap.objs.size + 1:=by simpa using hb
     subst z; exact fC) fun b hb=>by
     have z:b = s2.heap.objs.size + 1:=by simpa using hb
     subst z
     exact ⟨oC,hoC,fun v z=>by rw [rC.1] at z; cases z⟩
    show wpAny _ _ (assign (.Name y py) X.env (.ref s2.heap.objs.size)) _ _ s4
    refine wpAny_assign_Name (mH I5 hN hiy hy (v:=.ref s2.heap.objs.size) rfl (fun s5 I6=>?_) hf)
    have hC5:s5.heap.get? (s2.heap.objs.size + 1) = some oC:=(I6.pin (_,oC) (List.mem_append_right _ (List.mem_append_right _ (eI (List.mem_singleton.mpr rfl) hoC)))).1
    refine ⟨m,⟨oC,es,ep,hC5,rC⟩,fun h' sb=>⟨_,H',(I6.jT).turned (t':=s5.toks) (it:=s2.heap.objs.size + 1) (fun b o hb e=>(sb.2 b hb).trans e) J4.free c1 c3 c4 c5,qn⟩⟩
  . refine thn (T.item (blk X scope cl (M ++ [x]) (s2.heap.objs.size + 1) _ _ fp) rfl rfl rfl hc i [] s' _ H' _ J' (fpY fr') st' go) fun r s4 ⟨u,hr,h4⟩=>?_
    subst hr
    refine wpAny_bind (thn h4 fun _ s5 ⟨z,H5,J5,r5,y5,st5,fr5⟩=>?_)
    have J5':=J5.pinned (fpY fr5) (T.obj _ _ st5)
    have hxN:(M ++ [x])[M.length]? = some x:=by simp
    refine wpAny_bind ?_
    refine wpAny_assign_Name ?_
    refine mH (X:=blk X scope cl (M ++ [x]) (s2.heap.objs.size + 1) _ _ fp) (i:=M.length) (v:=z) J5' S.nd hxN (.inl (lookup_relabel_local S.var)) r5 (fun s6 J6=>?_) (.inr (lookup_relabel_local S.var))
    have hlp:(pick ι σ).length = M.length:=by
     have q:=congrArg List.length S.names
     rw [List.length_map,List.length_map] at q
     unfold pick
     rw [List.length_map,q]
    have hset:(pick ι σ ++ [v]).set M.length (some z) = pick ι σ ++ [some z]:=by
     rw [<- hlp,List.set_append_right _ _ (Nat.le_refl _),Nat.sub_self]
     rfl
    rw [hset] at J6
    refine wpAny_bind (wpAny_bind (thn (he _ _ _ _ _ s6 _ H5 _ J6 (step z H5 y5)) fun yv s7 ⟨y,H7,J7,r7,hD7,hz7,m',hm',w7⟩=>?_))
    refine wpAny_bind (thn (cz (X:=blk X scope cl (M ++ [x]) (s2.heap.objs.size + 1) _ _ fp) _ s7 _ H7 (.ref s2.heap.objs.size) [y] (.ref s2.heap.objs.size) [yv] (fun _ G=>G = upd H7 s2.heap.objs.size (.lst (ys ++ [y]))) J7 rfl (.cons r7 .nil) ⟨_,_,y,rfl,rfl,hD7,hz7,rfl⟩) fun _ s8 ⟨_,H8,J8,_,e8⟩=>?_)
    subst e8
    refine wpAny_pure (wpAny_pure ⟨rfl,m',hm',i + 1,_,_,some z,J8.jT,?_,fun b hb=>?_,w7⟩)
    . exact T.keep _ _ _ st5 fun b hb o e=>(J8.pin (b,o) (List.mem_append_right _ (List.mem_append_right _ (eI hb e)))).1
    . obtain ⟨o,e,d⟩:=T.obj _ _ st5 b hb
      exact (J8.pin (b,o) (List.mem_append_right _ (List.mem_append_right _ (eI hb e)))).2.1
 rw [hsz] at *
 exact codeAny_compStart_list loop (T.self X.A 0 _ _ _ st₁ loop)
end
end L2.E
namespace L2.P
open PySem PySem.Spec PyProof.Rows L2 L2.E
section
variable {K:PySem.W.Frag} {cls:String -> Option Addr} {W:XW} {Av G S₀ S S' H H' B B':Hp} {ρ:ae} {σ:St} {Q:VK}
theorem Dk {tl te:TE} {ml me:ae -> OE} {ι:List Nat} (hι:ι.Nodup) (hl:JE K cls W tl ml) (he:JE K cls (fun _ _ _ _=>False) te me):JE K cls W (sF (Im K tl) ι te) (tD ml ι me):=by
 intro Av G S₀ ρ σ S H Q I p
 refine hl.go I p fun r v S1 H1 I1 w1 r1 p1=>?_
 have ra:=r1.rd I1.sh
 cases e:r.pv with
 | tup xs=>
   rw [e] at p1 ra
   obtain ⟨a,vs,rfl,hq,hr⟩:=mf ra
   refine ⟨a,rfl,⟨vs,aI.tup I1.sh hq⟩,?_⟩
   dsimp only at p1
   cases em:du me (dv ι ρ) xs with
   | exc c fs=>rw [em] at p1; exact p1.elim
   | bad=>rw [em] at p1; exact p1.elim
   | ok ys=>
     rw [em] at p1
     simp only [noX] at p1
     split at p1
     . rename_i hlen
       refine pe hι he I1 em hlen (fun k H' x g hx=>?_) (fun H' g=>⟨vs,aI.tup (I1.sh.trans g) hq,by rw [hr.length]; exact Nat.le_refl _⟩) fun D S' H' w nD sD ⟨us,hD,rr⟩=>p1 (.ref D) S' H' w ⟨D,us,rfl,nD,sD,hD,rr⟩
       obtain ⟨u,hu,ru⟩:=hr.get hx
       refine ⟨⟨vs,u,aI.tup (I1.sh.trans g) hq,hu⟩,?_⟩
       rintro v' H2 ⟨rfl,hv⟩
       have:=hv vs (aI.tup (I1.sh.trans g) hq)
       rw [hu] at this
       cases this
       exact ⟨rfl,ru⟩
     . exact p1.elim
 | _=>rw [e] at p1; exact p1.elim
theorem xY {J:It} {ι:List Nat} {tc:TT} {mc:ae -> OT} {te:TE} {me:ae -> OE} {xs ys:List PV} (hι:ι.Nodup) (hc:JT K cls (fun _ _ _ _=>False) tc mc) (he:JE K cls (fun _ _ _ _=>False) te me) (I:SR K cls Av G S₀ ρ σ S H) (hy:iz mc me (dv ι ρ) xs = .ok ys) (hl:ys.length <= lim)
  (go:∀ k H' x,aI H H' -> xs[k]? = some x -> J.go k H' /\ ∀ v H2,J.yld k H' v H2 -> H2 = H' /\ Rep K S x v) (stop:∀ H',aI H H' -> J.stop xs.length H')
  (hQ:∀ D S' H',bf S H S' H' -> H D = none -> S' D = none -> (∃ us,H' D = some (.lst us) /\ b8 K S' ys us) -> Q (.ref D) H'):
  ∀ D,H D = none -> ∃ W:Nat -> Nat -> List V -> Hp -> Prop,(∃ m,W 0 m [] (upd H D (.lst []))) /\ ∀ i m us H',W i m us H' ->
    H' D = some (.lst us) /\ ((J.stop i H' /\ Q (.ref D) H') \/ (J.go i H' /\ ∀ x H2,J.yld i H' x H2 -> tc (L2.E.pick ι σ ++ [some x]) H2 fun b H4=>H4 D = some (.lst us) /\ if b = true then te (L2.E.pick ι σ ++ [some x]) H4 fun y H3=>H3 D = some (.lst us) /\ us.length < sizeLine /\ ∃ m',m' < m /\ W (i + 1) m' (us ++ [y]) (upd H3 D (.lst (us ++ [y]))) else ∃ m',m' < m /\ W (i + 1) m' us H4)):=by
 intro D nD
 refine ⟨fun k m us H'=>m + k = xs.length /\ H' D = some (.lst us) /\ ∃ S' zs ws,aI S S' /\ aI H H' /\ aI S' H' /\ (∀ b,S' b ≠ none -> S b ≠ none \/ (H b = none /\ b ≠ D)) /\ b8 K S' zs us /\ iz mc me (dv ι ρ) (xs.drop k) = .ok ws /\ ys = zs ++ ws,
  ⟨xs.length,rfl,bD,S,[],ys,aI.refl _,aI.new nD,I.sh.trans (aI.new nD),fun b z=>.inl z,.nil,hy,rfl⟩,?_⟩
 rintro k m us H' ⟨hm,hD,S',zs,ws,s1,g1,sh1,n1,r1,e1,rfl⟩
 refine ⟨hD,?_⟩
 have hSD:S' D = none:=by
  cases q:S' D with
  | none=>rfl
  | some o=>
    rcases n1 D (by rw [q]; simp) with z | ⟨_,z⟩
    . exact absurd (I.sh.free nD) z
    . exact absurd rfl z
 by_cases hk:k < xs.length
 . refine .inr ?_
   have hx:xs[k]? = some xs[k]:=by simp [hk]
   obtain ⟨hgo,hyld⟩:=go k H' xs[k] g1 hx
   refine ⟨hgo,fun v H2 hv=>?_⟩
   obtain ⟨rfl,rv⟩:=hyld v H2 hv
   rw [List.drop_eq_getElem_cons hk] at e1
   have I1:SR K cls Av G S₀ ρ σ S' H2:=I.grow ⟨s1,g1,sh1,fun b z=>by
    rcases n1 b z with z | ⟨z,_⟩
    . exact .inl z
    . exact .inr z⟩
   have Ip:=I1.pick hι (Rep.mono s1 rv)
   refine hc _ G S₀ _ _ S' H2 _ Ip ?_
   unfold iz at e1
   split at e1
   . rename_i ec
     rw [ec]
     intro S2 H3 w2
     have hSD2:S2 D = none:=by
      cases q:S2 D with
      | none=>rfl
      | some o=>
        rcases w2.new D (by rw [q]; simp) with z | z
        . exact absurd hSD z
        . rw [hD] at z; cases z
     refine ⟨w2.g _ _ hD,?_⟩
     rw [if_pos rfl]
     refine he _ G S₀ _ _ S2 H3 _ (Ip.grow w2) ?_
     cases em:me (dv ι ρ ++ [some (.sh xs[k])]) with
     | exc c fs=>rw [em] at e1; cases e1
     | bad=>rw [em] at e1; cases e1
     | ok r=>
       rw [em] at e1
       simp only [OE.fJ] at e1
       cases es:lS r with
       | none=>rw [es] at e1; cases e1
       | some y=>
         rw [es] at e1
         dsimp only at e1
         cases e2:iz mc me (dv ι ρ) (xs.drop (k + 1)) with
         | exc c fs=>rw [e2] at e1; cases e1
         | bad=>rw [e2] at e1; cases e1
         | ok zs'=>
           rw [e2] at e1
           simp only [OA.fJ] at e1
           cases e1
           intro u S4 H4 w4 r4
           obtain ⟨S3,w3,s3,ru⟩:=r4.share w4 es
           have hl2:(zs ++ y ::zs').length <= lim:=hl
           have w5:=w2.trans w3
           have hSD3:S3 D = none:=by
            cases q:S3 D with
            | none=>rfl
            | some o=>
              rcases w3.new D (by rw [q]; simp) with z | z
              . exact absurd hSD2 z
              . rw [w2.g _ _ hD] at z; cases z
           refine ⟨w5.g _ _ hD,?_,m - 1,by omega,by omega,bD,S3,zs ++ [y],zs',s1.trans w5.s,(g1.trans w5.g).upd nD,w3.sh.upd hSD3,fun b z=>?_,(r1.mono w5.s).append (.cons ru .nil),e2,by simp⟩
           . rw [r1.length,<- CU]
             rw [List.length_append,List.length_cons] at hl2
             omega
           . rcases w5.new b z with z | z
             . exact n1 b z
             . refine .inr ⟨g1.free z,fun e=>?_⟩
               rw [e,hD] at z; cases z
   . rename_i ec
     rw [ec]
     intro S2 H3 w2
     refine ⟨w2.g _ _ hD,?_⟩
     rw [if_neg (by decide)]
     refine ⟨m - 1,by omega,by omega,w2.g _ _ hD,S2,zs,ws,s1.trans w2.s,g1.trans w2.g,w2.sh,fun b z=>?_,r1.mono w2.s,e1,rfl⟩
     rcases w2.new b z with z | z
     . exact n1 b z
     . refine .inr ⟨g1.free z,fun e=>?_⟩
       rw [e,hD] at z; cases z
   . cases e1
 . have hk':k = xs.length:=by omega
   subst hk'
   refine .inl ⟨stop H' g1,?_⟩
   rw [List.drop_length] at e1
   cases e1
   exact hQ D S' H' ⟨s1,g1,sh1,fun b z=>by
    rcases n1 b z with z | ⟨z,_⟩
    . exact .inl z
    . exact .inr z⟩ nD hSD ⟨us,hD,by rw [List.append_nil]; exact r1⟩
theorem zm {tl te:TE} {tc:TT} {ml me:ae -> OE} {mc:ae -> OT} {ι:List Nat} (hι:ι.Nodup) (hl:JE K cls W tl ml) (hc:JT K cls (fun _ _ _ _=>False) tc mc) (he:JE K cls (fun _ _ _ _=>False) te me):JE K cls W (wD (wZ K tl) ι tc te) (um ml ι mc me):=by
 intro Av G S₀ ρ σ S H Q I p
 refine hl.go I p fun r v S1 H1 I1 w1 r1 p1=>?_
 have ra:=r1.rd I1.sh
 cases e:r.pv with
 | lst xs=>
   rw [e] at p1 ra
   obtain ⟨a,vs,rfl,hq,hr⟩:=gp ra
   refine ⟨a,rfl,⟨vs,hq⟩,?_⟩
   dsimp only at p1
   cases em:iz mc me (dv ι ρ) xs with
   | exc c fs=>rw [em] at p1; exact p1.elim
   | bad=>rw [em] at p1; exact p1.elim
   | ok ys=>
     rw [em] at p1
     simp only [noX] at p1
     split at p1
     . rename_i hlen
       refine xY hι hc he I1 em hlen (fun k H' x g hx=>?_) (fun H' g=>⟨vs,aI.seq g hq,by rw [hr.length]; exact Nat.le_refl _⟩) fun D S' H' w nD sD ⟨us,hD,rr⟩=>p1 (.ref D) S' H' w ⟨D,us,rfl,nD,sD,hD,rr⟩
       obtain ⟨u,hu,ru⟩:=hr.get hx
       refine ⟨⟨vs,u,aI.seq g hq,hu⟩,?_⟩
       rintro v' H2 ⟨rfl,hv⟩
       have:=hv vs (aI.seq g hq)
       rw [hu] at this
       cases this
       exact ⟨rfl,ru⟩
     . exact p1.elim
 | _=>rw [e] at p1; exact p1.elim
theorem HW {ta ts:TE} {ma ms:ae -> OE} (ha:JE K cls W ta ma) (hs:JE K cls W ts ms):JE K cls W (GP K ta ts) (Fw ma ms):=by
 intro Av G S₀ ρ σ S H Q I p
 refine ha.go I p fun a v S1 H1 I1 w1 r1 p1=>hs.go I1 p1 fun k u S2 H2 I2 w2 r2 p2=>?_
 have ra:=(r1.rd I1.sh).mono w2.s w2.g
 have rk:=r2.rd I2.sh
 split at p2
 . rename_i xs n ea ek
   split at p2
   . rename_i hn
     rw [ea] at ra
     rw [ek] at rk
     obtain ⟨q,vs,rfl,hq,hr⟩:=gp ra
     refine ⟨by rw [dH rk,hn],q,vs,rfl,hq,fun l hl=>?_⟩
     refine p2 _ S2 _ (bf.heap I2.sh hl) ⟨l,_,rfl,hl,I2.sh.free hl,bD,?_⟩
     clear ea p2 hq ra
     induction xs generalizing vs with
     | nil=>rw [hr.nil_inv]; exact .nil
     | cons x xs ih=>
       obtain ⟨y,t,rfl,h1,h2⟩:=hr.cons_inv
       rw [List.reverse_cons,List.reverse_cons]
       exact (ih _ h2).append (.cons h1 .nil)
   . exact p2.elim
 . exact p2.elim
theorem wb:JU K (fun xs H Q=>∃ p ys,xs = [.ref p] /\ ((SqL K H p ys /\ ∀ l,H l = none -> Q (.ref l) (upd H l (.tup ys))) \/ (SqT K H p ys /\ Q (.ref p) H))) lN:=by
 intro S H x v rr Q I hx e k
 cases x with
 | lst xs=>
   cases e
   obtain ⟨p,vs,rfl,hq,r⟩:=gp hx
   refine ⟨p,vs,rfl,.inl ⟨hq,fun l hl=>k _ _ _ (bf.both I hl) ?_⟩⟩
   show Rep K _ _ _
   unfold Rep
   exact ⟨l,vs,rfl,SqT.new bD,r.mono (bf.both (o:=.tup vs) I hl).s⟩
 | tup xs=>
   cases e
   obtain ⟨p,vs,rfl,hq,r⟩:=mf hx
   refine ⟨p,vs,rfl,.inr ⟨aI.tup I hq,k _ S H (bf.refl I) ?_⟩⟩
   show Rep K _ _ _
   unfold Rep
   exact ⟨p,vs,rfl,hq,r⟩
 | _=>cases e
end
end L2.P
namespace L2.E
open PySem PySem.Spec PyProof.Rows L2
theorem A6 {X:Cx} {scope:Scope} {cl:List (Str × Addr)} {M:List Str} {ι:List Nat} {x:Str} {elt iter c:Expr} {px pos:Pos} {wi:TI} {tc:TT} {te:TE} (S:nv X scope cl M ι x) (hc:X.calm = true) (hi:QI X (.Name x px) iter wi) (hcd:∀ C s₀ H₀ ex,QT (blk X scope cl (M ++ [x]) C s₀ H₀ ex) c tc) (he:∀ C s₀ H₀ ex,QE (blk X scope cl (M ++ [x]) C s₀ H₀ ex) elt te)
  (hs:∀ v,foldedSetIterable iter X.env v = pure v:=by intro _; rfl):QE X (.ListComp elt [⟨.Name x px,iter,[c],0⟩] scope pos) (wD wi ι tc te):=⟨AZ S hc hi.out (fun a b c d=>(hcd a b c d).out) (fun a b c d=>(he a b c d).out) hs⟩
theorem II {X:Cx} {e st:Expr} {te ts:TE} {pos p2:Pos} (he:QE X e te) (hk:QE X st ts):QE X (.Subscript e (.Slice none none (some st) p2) pos) (GP X.K te ts):=⟨GF he.out hk.out⟩
end L2.E
namespace L2.E
open PySem PySem.Spec PyProof.Rows L2
theorem Ff {X:Cx} {scope:Scope} {cl:List (Str × Addr)} {M:List Str} {ι:List Nat} {x:Str} {i:Nat} {y:Str} {py spos:Pos} {elt iter:Expr} {px pos:Pos} {wi:TI} {te:TE} (hN:X.N.Nodup) (hiy:X.N[i]? = some y) (hy:Loc X.env.scope y) (S:nv X scope cl M ι x) (hc:X.calm = true) (hi:QI X (.Name x px) iter wi) (he:∀ C s₀ H₀ ex,QE (blk X scope cl (M ++ [x]) C s₀ H₀ ex) elt te)
  (hsw:swapsWith (.ListComp elt [⟨.Name x px,iter,[],0⟩] scope pos) (some (.Name y py)) spos.line X.env = pure true:=by rfl) (hf:X.fn y = true \/ X.env.scope.names.lookup y = some .local:=by first | exact .inl rfl | exact .inr rfl | assumption)
  (hs:∀ v,foldedSetIterable iter X.env v = pure v:=by intro _; rfl):QS X (.Assign [.Name y py] (.ListComp elt [⟨.Name x px,iter,[],0⟩] scope pos) spos) (ub (sF wi ι te) (kE i)):=⟨Eh S hc hi.out (fun a b c d=>(he a b c d).out) hN hiy hy hsw hf hs⟩
end L2.E
namespace L2.E
open PySem PySem.Spec PyProof.Rows L2
noncomputable def Jq (p:Int × V) (e:DictEntry):Prop:=e.hash = hashInt p.1 /\ (∃ t,e.key = .int p.1 t) /\ RelV p.2 e.val
noncomputable def DKI (K:PySem.W.Frag) (d:Addr) (kvs:List (Int × V)):Prop:=(d == sysModules) = false /\ (kvs.map (·.1)).Nodup /\ ∃ (es:List DictEntry) (ep:Nat),K.lookup d = some ⟨.type "dict",none,.dict es.toArray ep,#[]⟩ /\ Paired Jq kvs es
theorem xv {prog:Program} {w:World}:∀ {kvs:List (Int × V)} {es:List DictEntry},Paired Jq kvs es ->
  ∃ us:List (Int × Value),us.map (·.1) = kvs.map (·.1) /\ Pairs (intKind prog w) es us /\ (∀ e ∈ es,∃ k,(intKind prog w).is k e.key = true /\ e.hash = (intKind prog w).hash k) /\
    ∀ n,match kvs.lookup n with
      | some v=>∃ u,valueAt us n = some u /\ RelV v u
      | none=>valueAt us n = none
 | _,_,.nil=>⟨[],rfl,.nil,fun e he=>(nomatch he),fun n=>rfl⟩
 | (n,v) ::kvs,e ::es,.cons h t=>by
   obtain ⟨us,h1,h2,h3,h4⟩:=xv (prog:=prog) (w:=w) t
   obtain ⟨k1,⟨tk,k2⟩,k3⟩:=h
   have hk:(intKind prog w).is n e.key = true:=by rw [k2]; show Value.isInt n (.int n tk) = true; simp [Value.isInt]
   refine ⟨(n,e.val) ::us,by simp [h1],.cons hk rfl h2,fun e' he'=>?_,fun m=>?_⟩
   . rcases List.mem_cons.mp he' with z | z
     . subst z; exact ⟨n,hk,k1⟩
     . exact h3 e' z
   . have:=h4 m
     by_cases hm:m = n
     . subst hm
       simp [List.lookup,valueAt]
       exact k3
     . have hb:(m == n) = false:=by simpa using hm
       have hn:¬ n = m:=fun z=>hm z.symm
       simp only [List.lookup,hb]
       unfold valueAt at this ⊢
       simp only [List.find?_cons,hn,decide_false]
       exact this
theorem DKI.at {X:Cx} {pins:List (Addr × Obj)} {σ:St} {H:Hp} {s:Shared} {d:Addr} {kvs:List (Int × V)} (D:DKI X.K d kvs) (I:Inv X pins σ H s):
  ∃ us:List (Int × Value),s.heap.DictOf (intKind X.prog X.w) d us /\ ∀ n,match kvs.lookup n with
     | some v=>∃ u,valueAt us n = some u /\ RelV v u
     | none=>valueAt us n = none:=by
 obtain ⟨_,nd,es,ep,hk,pr⟩:=D
 obtain ⟨us,h1,h2,h3,h4⟩:=xv (prog:=X.prog) (w:=X.w) pr
 exact ⟨us,⟨_,es.toArray,ep,I.kIn d _ hk,⟨rfl,rfl,rfl⟩,rfl,fun e he=>h3 e (by simpa using he),by simpa using h2,by rw [h1]; exact nd⟩,h4⟩
section
variable {X:Cx}
noncomputable def Dh (K:PySem.W.Frag) (td te:TE):TE:=fun σ H Q=>td σ H fun x H1=>∃ d kvs,x = .ref d /\ DKI K d kvs /\ te σ H1 fun y H2=>∃ n,y = .int n /\ Q ((kvs.lookup n).getD .non) H2
theorem xo {o e:Expr} {td te:TE} {apos cpos:Pos} (ho:QE X o td) (he:QE X e te) (hbase:attributeBase o "get" X.env (eval o X.env) = eval o X.env:=by rfl)
  (few:((backTo cpos (starEach [e] X.env)).all (fun x=>!x.1) && (backToKw cpos (keywordEach [] X.env)).all (fun x=>x.1.isSome) && decide (([e]:List Expr).length + ([]:List Keyword).length + (if ([]:List Keyword).isEmpty then 0 else 1) < 30)) = true:=by rfl)
  (line:(apos.endLine == cpos.line) = true:=by rfl) (trees:backTo cpos (starEach [e] X.env) = [(false,eval e X.env)]:=by rfl):QE X (.Call (.Attribute o "get" apos) [e] [] cpos) (Dh X.K td te):=⟨by
 intro pins s σ H Q I h
 refine wpAny_Call_method hbase few line PySem.F.plainAttrs_dict PySem.F.slot_dict_get PySem.F.type_dict_get (thn (ho.out pins s σ H _ I h) fun u s1 ⟨x,H1,I1,rx,d,kvs,ex,D,q1⟩=>?_)
 subst ex
 obtain rfl:u = Value.ref d:=rx
 obtain ⟨us,dd,hv⟩:=D.at I1
 obtain ⟨_,nd,es,ep,hk,pr⟩:=id D
 refine ⟨dd.typeIs,fun b hb=>by cases hb; exact ⟨_,I1.kIn d _ hk,rfl⟩,?_⟩
 rw [trees]
 refine Calls.callWith_builtin rfl (Calls.evalArgs_plain (Calls.spliced_cons (thn (he.out pins s1 σ H1 _ I1 q1) fun iv s2 ⟨y,H2,I2,ry,n,ey,q2⟩=>Calls.spliced_nil ?_)))
 subst ey
 obtain ⟨t,rfl⟩:=ry
 obtain ⟨us2,dd2,hv2⟩:=D.at I2
 refine call_meetsIn PySem.F.slot_dict_get dd2.typeIs PySem.F.entry_dict_get (PySem.F.args_dict_get_2 _ _) (meets_dict_get (intKind X.prog X.w) d (k:=n) (key:=.int n t) (by show Value.isInt n (.int n t) = true; simp [Value.isInt]) D.1) ⟨_,dd2.mapOf,⟨_,H2,I2.tok _,?_,q2⟩⟩
 have h2:=hv2 n
 cases q:kvs.lookup n with
 | none=>rw [q] at h2; rw [h2]; rfl
 | some v=>rw [q] at h2; obtain ⟨u,e,r⟩:=h2; rw [e]; exact r⟩
end
end L2.E
namespace L2.P
open PySem PySem.Spec PyProof.Rows L2 L2.E
section
variable {K:PySem.W.Frag} {cls:String -> Option Addr} {W:XW} {Av G S₀ S S' H H' B B':Hp} {ρ:ae} {σ:St} {Q:VK}
noncomputable def DKP (K:PySem.W.Frag) (d:Addr) (kvs:List (Int × PV)):Prop:=∃ us,DKI K d us /\ Paired (fun (p:Int × PV) (q:Int × V)=>p.1 = q.1 /\ ∀ S,Rep K S p.2 q.2) kvs us
theorem DKP.look {d:Addr}:∀ {kvs:List (Int × PV)} {us:List (Int × V)},Paired (fun (p:Int × PV) (q:Int × V)=>p.1 = q.1 /\ ∀ S,Rep K S p.2 q.2) kvs us -> ∀ n,match kvs.lookup n with
  | some x=>∃ v,us.lookup n = some v /\ ∀ S,Rep K S x v
  | none=>us.lookup n = none
 | _,_,.nil,n=>rfl
 | (k,x) ::kvs,(k',v) ::us,.cons h t,n=>by
   obtain ⟨rfl,hr⟩:=h
   have:=DKP.look (d:=d) t n
   by_cases hm:n = k
   . subst hm
     simp [List.lookup]
     exact hr
   . have hb:(n == k) = false:=by simpa using hm
     simp only [List.lookup,hb]
     exact this
theorem xq {d:Addr} {kvs:List (Int × PV)} {ta:TE} {ma:ae -> OE} (D:DKP K d kvs) (ha:JE K cls W ta ma):JE K cls W (Dh K (tC (.ref d)) ta) (mUn (gK kvs) ma):=by
 intro Av G S₀ ρ σ S H Q I p
 obtain ⟨us,D1,pr⟩:=D
 refine ⟨d,us,rfl,D1,?_⟩
 refine ha.go I p fun a v S1 H1 I1 w1 r1 p1=>?_
 have ra:=r1.rd I1.sh
 cases e:a.pv with
 | int n=>
   rw [e] at p1 ra
   have:=DKP.look (d:=d) pr n
   simp only [gK,oE] at p1
   refine ⟨n,dH ra,?_⟩
   cases q:kvs.lookup n with
   | none=>
     rw [q] at p1 this
     rw [this]
     exact p1 _ S1 H1 (bf.refl I1.sh) (by show Rep K S1 _ _; unfold Rep; rfl)
   | some x=>
     rw [q] at p1 this
     obtain ⟨u,eu,hr⟩:=this
     rw [eu]
     exact p1 _ S1 H1 (bf.refl I1.sh) (hr S1)
 | _=>rw [e] at p1; exact p1.elim
end
end L2.P
namespace L2.E
open PySem PySem.Spec PyProof.Rows L2
end L2.E
namespace L2.P
open PySem PySem.Spec PyProof.Rows L2 L2.E
end L2.P
namespace L2.P
open PySem
end L2.P
namespace L2.P
open PySem PySem.Spec PyProof.Rows L2 L2.E
end L2.P
namespace L2.P
open PySem
noncomputable def wt (x:Str):List PV:=x.cps.toList.map fun c=>.str ⟨#[c]⟩
noncomputable def oK (ml:ae -> OE) (ι:List Nat) (me:ae -> OE):ae -> OE:=fun ρ=>(ml ρ).bind fun r=>match r.pv with
 | .str x=>noX (du me (dv ι ρ) (wt x))
 | _=>.bad
@[simp] theorem DD (ml:ae -> OE) (ι:List Nat) (me:ae -> OE) (ρ:ae):oK ml ι me ρ = ((ml ρ).bind fun r=>match r.pv with
  | .str x=>noX (du me (dv ι ρ) (wt x))
  | _=>.bad):=rfl
noncomputable def CD:PV -> Option RV
 | .str x=>if x.length = 1 then some (.sh (.int (x.cps.getD 0 0:Nat))) else none
 | _=>none
noncomputable def oy:PV -> Option RV
 | .int i=>if i.natAbs.log2 < 1920 then some (.sh (.str (toString i))) else none
 | _=>none
end L2.P
namespace L2.P
open PySem
end L2.P
namespace L2
open PySem PySem.Spec PyProof.Rows
noncomputable def Its (x:Str):It:=⟨fun i _=>i < x.cps.size,fun i H v H'=>H' = H /\ ∃ c,x.cps[i]? = some c /\ v = .str ⟨#[c]⟩,fun i _=>x.cps.size <= i⟩
theorem wV {P:Program} {w:World} {K:PySem.W.Frag} {tg:Expr} {it:Addr} {x:Str} {t:Tok} {n:String} (hn:["enumerate","zip","dict_itemiterator","dict_reverseitemiterator","odict_iterator","itertools.zip_longest","itertools.pairwise"].contains n = false)
  (W:∀ A:Around,A.handled = none -> Walks P w A it [it] [it] x.cps.size (SignAt x) (fun i h=>h.IsStrIter it n x t i))
  (De:∀ (A:Around) (s:Shared) (i:Nat) (Q:Option Value -> Shared -> Prop) (E:Value -> Shared -> Prop),A.handled = none -> s.heap.IsStrIter it n x t i -> x.cps[i]? = none -> (∀ h',Heap.ExtBut it s.heap h' -> Q none { s with heap:=h' }) -> wpAny (model P w) A (pyNext (.ref it)) Q E s)
  (Se:∀ (A:Around) (i:Nat) (s:Shared) (Q:Value -> Shared -> Prop) (E:Value -> Shared -> Prop),s.heap.IsStrIter it n x t i -> Q (.ref it) s -> wpAny (model P w) A (pyIter (.ref it)) Q E s):Turn P w K tg (Its x) [it] it (fun i h=>h.IsStrIter it n x t i) where
 mem:=by simp
 obj:=fun i h st b hb=>by
  have e:b = it:=by simpa using hb
  subst e
  obtain ⟨o,e,c,d⟩:=st
  exact ⟨o,e,fun v z=>by rw [d] at z; cases z⟩
 keep:=fun i h h' st k=>let ⟨o,e,r⟩:=st; ⟨o,k it (by simp) o e,r⟩
 item:=by
  intro X hP hw hK hc i pins s σ H E I hf st hg
  subst hP hw hK
  obtain ⟨f0,f1,f2,f3,f4,f5⟩:=hf it (by simp)
  refine (W X.A (I.ok.hd hc)).item i s _ _ hg st fun v h' tk hv st' kk=>?_
  obtain ⟨c,u,hc1,rfl⟩:=hv
  have I1:Inv X pins σ H { s with heap:=h',toks:=tk }:=I.turned (fun b o hb e=>kk b o (by simpa using hb) e) f0 f1 f3 f4 f5
  obtain ⟨o,e,cc,d⟩:=id st'
  exact ⟨_,rfl,zO (s:={ s with heap:=h',toks:=tk }) e cc d hn ⟨.str ⟨#[c]⟩,H,I1,⟨u,rfl⟩,⟨rfl,c,hc1,rfl⟩,st',fun b hb=>(hf b hb).1⟩⟩
 done:=by
  intro X hP hw hK hc i pins s σ H E I hf st hg
  subst hP hw hK
  obtain ⟨f0,f1,f2,f3,f4,f5⟩:=hf it (by simp)
  have hg':x.cps.size <= i:=hg
  exact De X.A s i _ _ (I.ok.hd hc) st (by simp; omega) fun h' eb=>⟨rfl,I.turned (t':=s.toks) (fun b o hb e=>eb b o hb e) f0 f1 f3 f4 f5⟩
 self:=fun A i s Q E st h=>Se A i s Q E st h
noncomputable def IL (tl:TE):TI:=fun σ H R=>tl σ H fun v H1=>∃ x,v = .str x /\ R (Its x) H1
theorem HC {X:Cx} {tg:Expr} {l:Expr} {tl:TE} (hl:PE X l tl):PI X tg l (IL tl):=by
 intro pins s σ H R I h
 refine thn (hl pins s σ H _ I h) fun v s1 ⟨y,H1,I1,r1,q1⟩=>?_
 obtain ⟨x,e,q⟩:=q1
 subst e
 obtain ⟨t,rfl⟩:=r1
 have hf:∀ b ∈ [s1.heap.objs.size],oU X pins H1 b:=fun b hb=>by
  have e:b = s1.heap.objs.size:=by simpa using hb
  subst e
  exact I1.AM (Nat.le_refl _) (I1.hok.fresh (Nat.le_refl _))
 cases ha:x.cps.all (· < 128) with
 | false=>
   exact wpAny_pyIter_wide ha ⟨s1.heap.objs.size,[s1.heap.objs.size],_,_,H1,rfl,I1.kept (t':=s1.toks) fun b o e=>Heap.get?_push_of_some _ e,
    wV (n:="str_iterator") (x:=x) (t:=t) (by decide) (fun A' hA=>Walks.strWide hA _ x t) (fun A s i Q E hA st hx hQ=>wpAny_pyNext_wide_end hA st hx hQ) (fun A i s Q E st h=>wpAny_pyIter_striter_wide st h),⟨_,Heap.get?_push_size _ rfl,rfl,rfl⟩,hf,q⟩
 | true=>
   exact wpAny_pyIter_ascii ha ⟨s1.heap.objs.size,[s1.heap.objs.size],_,_,H1,rfl,I1.kept (t':=s1.toks) fun b o e=>Heap.get?_push_of_some _ e,
    wV (n:="str_ascii_iterator") (x:=x) (t:=t) (by decide) (fun A' hA=>Walks.strAscii hA _ x t) (fun A s i Q E hA st hx hQ=>wpAny_pyNext_ascii_end hA st hx hQ) (fun A i s Q E st h=>wpAny_pyIter_striter_ascii st h),⟨_,Heap.get?_push_size _ rfl,rfl,rfl⟩,hf,q⟩
end L2
theorem L2.E.boot_ord:PySem.bootBuiltins "ord" = some (.builtin "ord"):=by decide +kernel
namespace L2.P
open PySem PySem.Spec PyProof.Rows L2 L2.E
theorem BI {X:L2.Cx} {tg l:Expr} {tl:TE} (h:QE X l tl):QI X tg l (IL tl):=⟨HC h.out⟩
section
variable {K:PySem.W.Frag} {cls:String -> Option Addr} {W:XW} {Av G S₀ S S' H H' B B':Hp} {ρ:ae} {σ:St} {Q:VK} {F:Nat -> List Addr}
theorem xZ {tl te:TE} {ml me:ae -> OE} {ι:List Nat} (hι:ι.Nodup) (hl:JE K cls W tl ml) (he:JE K cls (fun _ _ _ _=>False) te me):JE K cls W (sF (IL tl) ι te) (oK ml ι me):=by
 intro Av G S₀ ρ σ S H Q I p
 refine hl.go I p fun r v S1 H1 I1 w1 r1 p1=>?_
 have ra:=r1.rd I1.sh
 cases e:r.pv with
 | str x=>
   rw [e] at p1 ra
   have hv:=jG ra
   subst hv
   refine ⟨x,rfl,?_⟩
   dsimp only at p1
   cases em:du me (dv ι ρ) (wt x) with
   | exc c fs=>rw [em] at p1; exact p1.elim
   | bad=>rw [em] at p1; exact p1.elim
   | ok ys=>
     rw [em] at p1
     simp only [noX] at p1
     split at p1
     . rename_i hlen
       have hcl:(wt x).length = x.cps.size:=by simp [wt]
       refine pe hι he I1 em hlen (fun k H' y g hx=>?_) (fun H' g=>by show x.cps.size <= (wt x).length; rw [hcl]; exact Nat.le_refl _) fun D S' H' w nD sD ⟨us,hD,rr⟩=>p1 (.ref D) S' H' w ⟨D,us,rfl,nD,sD,hD,rr⟩
       have hk:k < x.cps.size:=by rw [<- hcl]; exact (List.getElem?_eq_some_iff.mp hx).1
       refine ⟨hk,?_⟩
       rintro v' H2 ⟨rfl,c,hc,rfl⟩
       refine ⟨rfl,?_⟩
       have hy:y = .str ⟨#[c]⟩:=by
        unfold wt at hx
        rw [List.getElem?_map] at hx
        have:x.cps.toList[k]? = some c:=by simpa using hc
        rw [this] at hx
        exact (Option.some.inj hx).symm
       subst hy
       unfold Rep
       rfl
     . exact p1.elim
 | _=>rw [e] at p1; exact p1.elim
theorem HR:JU K (fun xs H Q=>∃ x,xs = [.str x] /\ x.length = 1 /\ Q (.int (x.cps.getD 0 0:Nat)) H) CD:=by
 intro S H x v rr Q I hx e k
 cases x with
 | str x=>
   by_cases hl:x.length = 1
   . have e':CD (.str x) = some (.sh (.int (x.cps.getD 0 0:Nat))):=if_pos hl
     rw [e'] at e
     cases e
     exact ⟨x,by rw [jG hx],hl,k _ S H (bf.refl I) (by show Rep K S _ _; unfold Rep; rfl)⟩
   . have e':CD (.str x) = none:=if_neg hl
     rw [e'] at e
     cases e
 | _=>cases e
theorem Dz:JU K (fun xs H Q=>∃ i:Int,xs = [.int i] /\ i.natAbs.log2 < 1920 /\ Q (.str (toString i)) H) oy:=by
 intro S H x v rr Q I hx e k
 cases x with
 | int i=>
   by_cases hl:i.natAbs.log2 < 1920
   . have e':oy (.int i) = some (.sh (.str (toString i))):=if_pos hl
     rw [e'] at e
     cases e
     exact ⟨i,by rw [dH hx],hl,k _ S H (bf.refl I) (by show Rep K S _ _; unfold Rep; rfl)⟩
   . have e':oy (.int i) = none:=if_neg hl
     rw [e'] at e
     cases e
 | _=>cases e
end
end L2.P
namespace HT
open PySem PyProof.Rows
end HT
namespace L2
open PySem PySem.Spec PyProof.Rows
end L2
namespace L2.P
open PySem PySem.Spec PyProof.Rows L2 L2.E
end L2.P
namespace HT
open PySem PyProof.Rows
open AutoSeq1 (wpAny_loadPart')
end HT
namespace L2
open PySem PySem.Spec PyProof.Rows
end L2
namespace L2.P
open PySem PySem.Spec PyProof.Rows L2 L2.E
end L2.P
namespace L2.P
open PySem
noncomputable def zB (kvs:List (Int × PV)) (a b:RV):OE:=match a.pv,b with
 | .int n,.sh d=>.ok (.sh ((kvs.lookup n).getD d))
 | _,_=>.bad
noncomputable def DH (kvs:List (Int × PV)) (ma mb:ae -> OE):ae -> OE:=fun ρ=>(ma ρ).bind fun a=>(mb ρ).bind fun b=>zB kvs a b
@[simp] theorem Jd (kvs:List (Int × PV)) (ma mb:ae -> OE) (ρ:ae):DH kvs ma mb ρ = (ma ρ).bind fun a=>(mb ρ).bind fun b=>zB kvs a b:=rfl
noncomputable def Ig (kvs:List (Int × Int)):ae -> OD:=fun _=>.ok (.di (kvs.map fun p=>(p.1,.int p.2)))
noncomputable def xt (neg:Bool) (me:ae -> OE) (i:Nat) (mp:MP):ae -> OE:=fun ρ=>(me ρ).bind fun r=>match r.pv with
 | .int n=>(match subAt i mp ρ with
   | some (.di kvs)=>.ok (.sh (.bl (if neg then !(kvs.lookup n).isSome else (kvs.lookup n).isSome)))
   | _=>.bad)
 | _=>.bad
noncomputable def Au (i:Nat) (mp:MP) (me:ae -> OE):ae -> OE:=fun ρ=>match subAt i mp ρ with
 | some (.di kvs)=>(me ρ).bind fun r=>(match r.pv with
   | .int n=>oE ((kvs.lookup n).map .sh)
   | _=>.bad)
 | _=>.bad
noncomputable def AD:PV -> Option RV
 | .str x=>(match x.cps.toList with
   | [c]=>if 48 <= c /\ c <= 57 then some (.sh (.int ((c:Int) - 48))) else none
   | _=>none)
 | _=>none
noncomputable def Lx:PV -> Option RV
 | .int i=>some (.sh (.int (if i < 0 then -i else i)))
 | _=>none
@[simp] theorem LK (i:Int):Lx (.int i) = some (.sh (.int (if i < 0 then -i else i))):=rfl
end L2.P
namespace L2.P
open PySem
noncomputable def dM (i:Nat) (mp:MP) (me:ae -> OE):ae -> OS:=fun ρ=>tY i mp ρ fun u put=>match u with
 | .ol ts=>(me ρ).bT ρ fun r=>(match r with
   | .fr ys=>if ts.length + ys.length <= lim then .nx (put (.ol (ts ++ ys.map .sh))) else .bad
   | .sh (.lst ys)=>if ts.length + ys.length <= lim then .nx (put (.ol (ts ++ ys.map .sh))) else .bad
   | _=>.bad)
 | _=>.bad
end L2.P
namespace L2
open PySem PySem.Spec PyProof.Rows
end L2
namespace L2.E
open PySem PySem.Spec PyProof.Rows L2
end L2.E
namespace L2.P
open PySem PySem.Spec PyProof.Rows L2 L2.E
end L2.P
namespace L2.E
open PySem PySem.Spec PyProof.Rows L2
section
variable {X:Cx} {o i:Expr} {td ty:TE} {pos:Pos}
theorem HU (hu:X.A.units + 1 < cLine) (hi:QE X i ty) (ho:QE X o td) (h1:behindInMarks .In o = false:=by first | exact xm _ (by decide) (by decide) | rfl):QT X (.Compare i [.In] [o] pos) (tB (Ht ty td)):=⟨Hb (HM hu hi.out ho.out) h1⟩
theorem EE (hu:X.A.units + 1 < cLine) (ho:QE X o td) (hi:QE X i ty) (hs:IQ i):QE X (.Subscript o i pos) (BQ td ty):=⟨Ej hu ho.out hi.out hs⟩
structure QPs (X:Cx) (pos:Pos) (keys:List (Option Expr)) (values:List Expr) (trs:List (TE × TE)):Prop where
 out:PPs X pos keys values trs
theorem D5:QPs X pos [] [] []:=⟨Fm⟩
theorem jV {k v:Expr} {ks:List (Option Expr)} {vs:List Expr} {tk tv:TE} {trs:List (TE × TE)} (hk:QE X k tk) (hv:QE X v tv) (hr:QPs X pos ks vs trs):QPs X pos (some k ::ks) (v ::vs) ((tk,tv) ::trs):=⟨CC hk.out hv.out hr.out⟩
theorem Ey {keys:List (Option Expr)} {values:List Expr} {trs:List (TE × TE)} (h:QPs X pos keys values trs) (hall:keys.all (·.isSome) = true:=by rfl) (hl:keys.length = values.length:=by rfl) (h0:keys ≠ []:=by intro z; cases z) (h15:keys.length <= 15:=by decide):QE X (.Dict keys values pos) (BS trs):=⟨D8 h.out hall hl h0 h15⟩
end
end L2.E
namespace L2.P
open PySem PySem.Spec PyProof.Rows L2 L2.E
section
variable {K:PySem.W.Frag} {cls:String -> Option Addr} {W:XW} {S H:Hp}
theorem xh (kvs:List (Int × Int)) (σ:St):∀ (H:Hp) (R:List (V × V) -> Hp -> Prop),R (kvs.map fun p=>(.int p.1,.int p.2)) H -> vw (kvs.map fun p=>(tC (.int p.1),tC (.int p.2))) σ H R:=by
 induction kvs with
 | nil=>intro H R h; exact h
 | cons p kvs ih=>intro H R h; exact ih H _ h
theorem BA (more:List (Key × V)):∀ kvs:List (Key × V),((kvs ++ more).map (·.1)).Nodup -> oW kvs more = kvs ++ more:=by
 induction more with
 | nil=>intro kvs _; simp [oW]
 | cons p more ih=>
   intro kvs h
   have hn:lG kvs p.1 = none:=by
    unfold lG
    rw [Option.map_eq_none_iff,List.find?_eq_none]
    intro q hq e
    have e':q.1 = p.1:=of_decide_eq_true e
    rw [List.map_append,List.nodup_append] at h
    exact h.2.2 q.1 (List.mem_map_of_mem hq) p.1 (by simp) e'
   show oW (putK kvs p.1 p.2) more = _
   rw [BP _ hn,ih _ (by simpa using h)]
   simp
theorem HN {kvs:List (Int × Int)} (nd:(kvs.map (·.1)).Nodup) (h15:kvs.length <= 15):JD K cls W (BS (kvs.map fun p=>(tC (.int p.1),tC (.int p.2)))) (Ig kvs):=by
 intro Av G S₀ ρ σ S H Q I p
 intro q hq
 refine xh kvs σ _ _ ⟨bD,kvs.map fun p=>(Sum.inl p.1,V.int p.2),by simp [kV],by simpa using h15,?_⟩
 rw [E0,BA _ [] (by
  rw [List.nil_append,List.map_map]
  have:((fun x:Key × V=>x.1) ∘ fun p:Int × Int=>((Sum.inl p.1:Key),V.int p.2)) = (fun k:Int=>(Sum.inl k:Key)) ∘ fun p:Int × Int=>p.1:=rfl
  rw [this,<- List.map_map]
  exact List.pairwise_map.mpr (List.Pairwise.imp (fun h z=>h (Sum.inl.inj z)) nd)),List.nil_append]
 refine p (.ref q) S _ (bf.heap I.sh hq) ⟨[q],?_,by simp,fun a ha=>?_⟩
 . unfold br
   refine ⟨q,_,rfl,bD,rfl,?_⟩
   clear nd h15 p
   induction kvs with
   | nil=>exact .nil
   | cons x kvs ih=>exact .cons ⟨rfl,by unfold Rep; rfl⟩ ih
 . have z:a = q:=by simpa using ha
   subst z
   exact ⟨hq,I.sh.free hq⟩
theorem vq.look {kvs:List (Int × PV)} {us:List (Key × V)} (h:vq K S kvs us) (n:Int):match kvs.lookup n with
  | some x=>∃ v,lG us (Sum.inl n:Key) = some v /\ Rep K S x v
  | none=>lG us (Sum.inl n:Key) = none:=by
 induction h with
 | nil=>rfl
 | @cons p q ps qs h t ih=>
   obtain ⟨h1,h2⟩:=h
   obtain ⟨k,x⟩:=p
   obtain ⟨k',v⟩:=q
   dsimp only at h1 h2
   subst h1
   by_cases hm:n = k
   . subst hm
     simp [List.lookup,lG]
     exact h2
   . have hb:(n == k) = false:=by simpa using hm
     have hd:decide ((Sum.inl k:Key) = Sum.inl n) = false:=decide_eq_false fun z=>hm (Sum.inl.inj z).symm
     simp only [List.lookup,hb]
     have e:lG ((Sum.inl k,v) ::qs) (Sum.inl n:Key) = lG qs (Sum.inl n):=by
      unfold lG
      rw [List.find?_cons,hd]
     rw [e]
     exact ih
theorem vq.D9 {kvs:List (Int × PV)} {us:List (Key × V)} (h:vq K S kvs us) (n:Int):(lG us (Sum.inl n:Key)).isSome = (kvs.lookup n).isSome:=by
 have:=h.look n
 cases q:kvs.lookup n with
 | none=>rw [q] at this; rw [this]; rfl
 | some x=>rw [q] at this; obtain ⟨v,e,_⟩:=this; rw [e]; rfl
theorem EY {i:Nat} {ta td:TE} {ma:ae -> OE} {mp:MP} (ha:JE K cls W ta ma) (hp:JP K cls td i mp):JE K cls W (Ht ta td) (xt false ma i mp):=by
 intro Av G S₀ ρ σ S H Q I p
 refine ha.go I p fun a v S1 H1 I1 w1 r1 p1=>?_
 have ra:=r1.rd I1.sh
 cases e:a.pv with
 | int n=>
   rw [e] at p1 ra
   dsimp only at p1
   split at p1
   . rename_i kvs es
     refine hp.sub I1 es fun w S2 H2 f w2 _ r=>?_
     unfold br at r
     obtain ⟨q,us,rfl,hq,_,hd⟩:=r
     have hv:=dH ra
     subst hv
     refine ⟨q,_,rfl,v5.k (k:=Sum.inl n) hq,?_⟩
     rw [hd.D9 n]
     exact p1 _ S2 H2 w2 mU
   . exact p1.elim
 | _=>rw [e] at p1; exact p1.elim
theorem Et {i:Nat} {ta td:TE} {ma:ae -> OE} {mp:MP} (hp:JP K cls td i mp) (ha:JE K cls W ta ma):JE K cls W (BQ td ta) (Au i mp ma):=by
 intro Av G S₀ ρ σ S H Q I p
 unfold Au at p
 split at p
 . rename_i kvs es
   refine hp.sub I es fun w S2 H2 f w2 I2 r=>?_
   refine ha.go I2 (p.back w2) fun a v S1 H1 I1 w1 r1 p1=>?_
   have ra:=r1.rd I1.sh
   have r':=r.mono w1.s fun a _ o z=>w1.g _ _ z
   unfold br at r'
   obtain ⟨q,us,rfl,hq,_,hd⟩:=r'
   cases e:a.pv with
   | int n=>
     rw [e] at p1 ra
     dsimp only at p1
     have hv:=dH ra
     subst hv
     have hl:=hd.look n
     cases el:kvs.lookup n with
     | none=>rw [el] at p1; exact p1.elim
     | some x=>
       rw [el] at p1 hl
       obtain ⟨u,eu,ru⟩:=hl
       refine ⟨q,u,rfl,by have:=v5.k (k:=(Sum.inl n:Key)) hq; rw [eu] at this; exact this,p1 u S1 H1 (bf.refl I1.sh) ru⟩
   | _=>rw [e] at p1; exact p1.elim
 . exact p.elim
end
end L2.P
namespace L2.E
open PySem PySem.Spec PyProof.Rows L2
end L2.E
namespace L2.P
open PySem PySem.Spec PyProof.Rows L2 L2.E
end L2.P
namespace L2.E
open PySem PySem.Spec PyProof.Rows L2
theorem BE {X:Cx}:mx X (.type "int") (fun xs H Q=>∃ x n,xs = [.str x] /\ PySem.intText? x = some n /\ x.length <= 640 /\ Q (.int n) H):=by
 intro pins s σ H xs us Q I r h
 obtain ⟨x,n,rfl,h1,h2,q⟩:=h
 obtain ⟨u,rfl,t,rfl⟩:=vals1 r
 exact PySem.W.KIN.call_text h1 h2 ⟨.int n,H,I.tok _,⟨_,rfl⟩,q⟩
theorem yR {x:Str} {c:Nat} (h:x.cps.toList = [c]) (h1:48 <= c) (h2:c <= 57):PySem.intText? x = some ((c:Int) - 48) /\ x.length <= 640:=by
 have e:x = ⟨#[c]⟩:=by
  cases x with
  | mk a=>cases a with
    | mk l=>simp at h; subst h; rfl
 subst e
 refine ⟨?_,by show 1 <= 640; decide⟩
 have hc:c = 48 \/ c = 49 \/ c = 50 \/ c = 51 \/ c = 52 \/ c = 53 \/ c = 54 \/ c = 55 \/ c = 56 \/ c = 57:=by omega
 rcases hc with rfl | rfl | rfl | rfl | rfl | rfl | rfl | rfl | rfl | rfl <;> decide +kernel
end L2.E
namespace L2.P
open PySem PySem.Spec PyProof.Rows L2 L2.E
theorem Fi {K:PySem.W.Frag}:JU K (fun xs H Q=>∃ x n,xs = [.str x] /\ PySem.intText? x = some n /\ x.length <= 640 /\ Q (.int n) H) AD:=by
 intro S H x v rr Q sh r e k
 cases x with
 | str z=>
   have hv:v = .str z:=by have r':Rep K S (.str z) v:=r; unfold Rep at r'; exact r'
   subst hv
   unfold AD at e
   dsimp only at e
   split at e
   . rename_i c hc
     split at e
     . rename_i h
       cases e
       obtain ⟨h1,h2⟩:=yR hc h.1 h.2
       exact ⟨z,_,rfl,h1,h2,k _ S H (bf.refl sh) (by show Rep K S _ _; unfold Rep; rfl)⟩
     . cases e
   . cases e
 | _=>cases e
end L2.P
namespace L2.E
open PySem PySem.Spec PyProof.Rows L2
theorem vz (l:Addr) (items:Array Value) (n:Nat) (b:Addr) (items2:Array Value) (n2:Nat) (dd2:Option Addr) (sl2:Array (Option Value)) (hc0:¬(!items.isEmpty && Builtin.List.listTooLong (items.size + items2.size)) = true) (hc1:items.size <= sizeLine) (hs2:items.size + items2.size <= sizeLine + 1):
  Meets (Builtin.«list.extend» ⟨[.ref l,.ref b],[]⟩) (fun _ R s=>s.heap.get? l = some { cls:=.type "list",dict:=none,data:=.seq items n,slots:=#[] } /\ s.heap.get? b = some { cls:=.type "list",dict:=dd2,data:=.seq items2 n2,slots:=sl2 } /\ R (.ok (.ret Value.none)) { s with heap:=s.heap.update l (Obj.mapSeq fun x=>x ++ items2),toks:=s.toks }):=
 .of_wp fun prog w A R s h=>by
  obtain ⟨hp,g,d,tk,os⟩:=s; obtain ⟨hl,hb,h⟩:=h; have f1:=AutoSeq1.idx_int; have f2:=AutoSeq1.sub_tuple_tuple; have f3:=AutoSeq1.sub_list_list; have f4:=AutoSeq1.sub_tuple_list; have f5:=AutoSeq1.sub_list_tuple
  have hz':(items ++ items2).size <= sizeLine + 1:=by rw [Array.size_append]; exact hs2
  wp_walk using (wpAny_updateSeq hl rfl (hz:=hc1) (_hz':=hz')),wpAny_loadPart' hl,wpAny_loadPart' hb; exact ⟨_,rfl,h⟩
noncomputable def x9 (K:PySem.W.Frag):V -> List V -> Hp -> VK -> Prop:=fun x vs H Q=>∃ l b xs zs,x = .ref l /\ vs = [.ref b] /\ H l = some (.lst xs) /\ SqL K H b zs /\ xs.length + zs.length <= sizeLine /\ Q .non (upd H l (.lst (xs ++ zs)))
theorem fZ {X:Cx}:MtM X "list.extend" (x9 X.K):=by
 intro pins s σ H x vs v us Q I rx rv h
 obtain ⟨l,b,xs,zs,rfl,rfl,hH,hB,hz,q⟩:=h
 cases rx
 obtain ⟨u,rfl,ru⟩:=rv.one
 cases ru
 obtain ⟨z,its,n,r,hl,e⟩:=I.Hq hH
 obtain ⟨its2,r2,pl2,z2⟩:=I.list hB
 obtain ⟨⟨cls2,dd2,data2,sl2⟩,ho2,hc2,n2,hd2⟩:=pl2.isList
 simp only at hc2 hd2
 subst hc2 hd2
 have hl2:=r2.length
 have hsz:its.toArray.size + its2.toArray.size <= sizeLine:=by rw [List.size_toArray,List.size_toArray]; omega
 have hlong:¬ (!its.toArray.isEmpty && Builtin.List.listTooLong (its.toArray.size + its2.toArray.size)) = true:=by
  rw [Cz hsz,Bool.and_false]
  exact Bool.false_ne_true
 refine call_meets F.slot_list_extend ⟨_,e,rfl⟩ F.entry_list_extend (F.args_list_extend_2 _ _)
  (vz l its.toArray n b its2.toArray n2 dd2 sl2 hlong (by rw [List.size_toArray]; omega) (by omega)) ⟨e,ho2,?_⟩
 refine ⟨.non,_,I.Hi (its':=its ++ its2) hH e (by simp) (r.append r2) ?_,rfl,q⟩
 rw [List.length_append]
 omega
end L2.E
namespace L2.P
open PySem PySem.Spec PyProof.Rows L2 L2.E
section
variable {K:PySem.W.Frag} {cls:String -> Option Addr} {W:XW} {Av G S₀ S S' H H' B B':Hp} {ρ:ae} {σ:St} {Q:VK} {F:Nat -> List Addr}
theorem fQ {i:Nat} {te tx:TE} {mp:MP} {me:ae -> OE} (hp:JP K cls te i mp) (hx:JE K cls W tx me):JS K cls W (tw (tBM K "list" (x9 K) te (jd tx kD))) (dM i mp me):=by
 intro Av G S₀ ρ σ S H D I p
 obtain ⟨io,t,π,u,hi,e0,e1,p⟩:=q8 p
 obtain ⟨v0,hv⟩:=I.val hi
 cases u with
 | sh x=>exact p.elim
 | ob c ks us=>exact p.elim
 | di x=>exact p.elim
 | dt x=>exact p.elim
 | ol ts=>
   dsimp only at p
   refine hp.at I hi hv e0 e1 fun w S1 H1 w1 I1 wk=>?_
   have p1:=p.back w1.s
   obtain ⟨F,J1⟩:=id I1
   obtain ⟨q,vs,ff,rest,wk',hq,hl,rs,_,nd,c⟩:=J1.sW hi hv e1
   have:=wk.inj wk'
   subst this
   refine ⟨.inl ⟨rfl,_,SqL.new hq⟩,?_⟩
   refine hx.goS I1 p1 fun r v S2 H2 I2 w2 r2 p2=>?_
   have ndf:ff.Nodup:=(List.nodup_cons.mp (List.nodup_append.mp nd).1).2
   cases r with
   | al ys=>exact p2.elim
   | sh x=>
     cases x with
     | lst ys=>
       dsimp only at p2
       split at p2
       . rename_i hlt
         have r3:Rep K S2 (.lst ys) v:=r2
         unfold Rep at r3
         obtain ⟨b,us,rfl,k3,k4⟩:=r3
         refine ⟨q,b,vs,us,rfl,rfl,w2.g _ _ hq,aI.seq w2.sh k3,by rw [hl,k4.length]; exact hlt,?_⟩
         obtain ⟨g,J3,_⟩:=c S2 H2 (ts ++ ys.map .sh) (vs ++ us) (ff ++ []) w2 ((rs.mono w2.s fun a _ o h=>w2.g _ _ h).append (.shs k4)) (by rw [List.append_nil]; exact ndf) fun a ha=>.inl (by simpa using ha)
         exact p2 σ S2 _ ⟨_,J3⟩ (aI.refl _)
       . exact p2.elim
     | _=>exact p2.elim
   | fr ys=>
     dsimp only at p2
     split at p2
     . rename_i hlt
       obtain ⟨b,us,rfl,k1,k2,k3,k4⟩:=r2
       refine ⟨q,b,vs,us,rfl,rfl,w2.g _ _ hq,SqL.new k3,by rw [hl,k4.length]; exact hlt,?_⟩
       obtain ⟨g,J3,_⟩:=c S2 H2 (ts ++ ys.map .sh) (vs ++ us) (ff ++ []) w2 ((rs.mono w2.s fun a _ o h=>w2.g _ _ h).append (.shs k4)) (by rw [List.append_nil]; exact ndf) fun a ha=>.inl (by simpa using ha)
       exact p2 σ S2 _ ⟨_,J3⟩ (aI.refl _)
     . exact p2.elim
end
end L2.P
namespace L2.E
open PySem PySem.Spec PyProof.Rows L2
theorem eR {N P:List Str} {sc:Scope} (a:sc.kind = .function:=by rfl) (b:sc.isCoroutine = false:=by rfl) (c:sc.isGenerator = false:=by rfl) (d:N.Nodup:=by decide +kernel) (e:N.take P.length = P:=by rfl)
  (f:∀ x ∈ P,sc.names.lookup x = some .local \/ sc.names.lookup x = some .cell:=by decide +kernel) (g:∀ y ∈ sc.names,y.2 ≠ .free:=by decide +kernel):aV N P sc:=⟨a,b,c,d,e,f,g⟩
structure Ent (K:PySem.W.Frag) (mg:Str -> Option Value) (x:Str) (st:Stmt) (f:Addr) (d:FuncData) (ps:List Str):Prop where
 F:Fun K x x st f d
 m:mg x = some (.ref f)
 b:Binds K d ps []
structure Fd (K:PySem.W.Frag) (x:Str) (st:Stmt) (f:Addr) (d:FuncData):Prop where
 a:PySem.W.nsIn K mainGlobals x = some (some (.ref f))
 F:Fun K x x st f d
section
variable {K:PySem.W.Frag} {mg:Str -> Option Value} {h:Heap} {x:Str} {st:Stmt} {f:Addr} {d:FuncData}
theorem dw {oc:Value} {od an:Option Addr} {osl:Array (Option Value)} {kV doc pm cdv ct:Value} (a:PySem.W.nsIn K mainGlobals x = some (some (.ref f)))
  (l:K.lookup f = some ⟨oc,od,.func (PySem.W.fnOf x x (eO st) (dJ st) (aA st) .none kV doc pm an cdv ct),osl⟩) (c:PySem.W.codeIn K cdv x = true) (k:PySem.W.keepIn K (.ref f) = true):
  Fd K x st f (PySem.W.fnOf x x (eO st) (dJ st) (aA st) .none kV doc pm an cdv ct):=⟨a,kM l c k⟩
theorem Fd.e {ps:List Str} (H:Fd K x st f d) (X:K.In h) (G:h.Ns mainGlobals mg)
  (hb:∀ (kV doc pm:Value) (an:Option Addr) (cdv ct:Value) (us:List Value),us.length = ps.length -> bindArgs (PySem.W.fnOf x x (eO st) (dJ st) (aA st) .none kV doc pm an cdv ct) ⟨us,[]⟩ = pure (ps.zip us)):Ent K mg x st f d ps:=⟨H.F,PySem.W.mg_of X G H.a,H.F.binds hb⟩
theorem Fd.e0 (H:Fd K x st f d) (X:K.In h) (G:h.Ns mainGlobals mg)
  (hb:∀ (kV doc pm:Value) (an:Option Addr) (cdv ct:Value),bindArgs (PySem.W.fnOf x x (eO st) (dJ st) (aA st) .none kV doc pm an cdv ct) ⟨[],[]⟩ = pure []:=by intros; rfl):Ent K mg x st f d []:=
 H.e X G fun p q r s t u us hl=>match us,hl with | [],_=>hb p q r s t u
theorem Fd.e1 {a:Str} (H:Fd K x st f d) (X:K.In h) (G:h.Ns mainGlobals mg)
  (hb:∀ (kV doc pm:Value) (an:Option Addr) (cdv ct i:Value),bindArgs (PySem.W.fnOf x x (eO st) (dJ st) (aA st) .none kV doc pm an cdv ct) ⟨[i],[]⟩ = pure [(a,i)]:=by intros; rfl):Ent K mg x st f d [a]:=
 H.e X G fun p q r s t u us hl=>match us,hl with | [_],_=>hb p q r s t u _
theorem Fd.e2 {a b:Str} (H:Fd K x st f d) (X:K.In h) (G:h.Ns mainGlobals mg)
  (hb:∀ (kV doc pm:Value) (an:Option Addr) (cdv ct i j:Value),bindArgs (PySem.W.fnOf x x (eO st) (dJ st) (aA st) .none kV doc pm an cdv ct) ⟨[i,j],[]⟩ = pure [(a,i),(b,j)]:=by intros; rfl):Ent K mg x st f d [a,b]:=
 H.e X G fun p q r s t u us hl=>match us,hl with | [_,_],_=>hb p q r s t u _ _
theorem Fd.e3 {a b c:Str} (H:Fd K x st f d) (X:K.In h) (G:h.Ns mainGlobals mg)
  (hb:∀ (kV doc pm:Value) (an:Option Addr) (cdv ct i j k:Value),bindArgs (PySem.W.fnOf x x (eO st) (dJ st) (aA st) .none kV doc pm an cdv ct) ⟨[i,j,k],[]⟩ = pure [(a,i),(b,j),(c,k)]:=by intros; rfl):Ent K mg x st f d [a,b,c]:=
 H.e X G fun p q r s t u us hl=>match us,hl with | [_,_,_],_=>hb p q r s t u _ _ _
theorem Fd.e5 {a b c e g:Str} (H:Fd K x st f d) (X:K.In h) (G:h.Ns mainGlobals mg)
  (hb:∀ (kV doc pm:Value) (an:Option Addr) (cdv ct i j k l m:Value),bindArgs (PySem.W.fnOf x x (eO st) (dJ st) (aA st) .none kV doc pm an cdv ct) ⟨[i,j,k,l,m],[]⟩ = pure [(a,i),(b,j),(c,k),(e,l),(g,m)]:=by intros; rfl):Ent K mg x st f d [a,b,c,e,g]:=
 H.e X G fun p q r s t u us hl=>match us,hl with | [_,_,_,_,_],_=>hb p q r s t u _ _ _ _ _
end
theorem qz {X:Cx} {pos:Pos} (i:Nat) {x:Str} {e:Expr} {te:TE} {pos':Pos} (h7:X.N.Nodup) (h10:QE X e te) (h8:X.N[i]? = some x:=by rfl) (h9:Loc X.env.scope x:=by first | exact Or.inl rfl | exact Or.inr rfl)
  (h11:autoParam (swapsWith e (some (.Name x pos')) pos.line X.env = pure false) L2.qau._auto_1) (h12:autoParam (X.fn x = true \/ X.env.scope.names.lookup x = some .local) L2.qau._auto_1):QS X (.Assign [.Name x pos'] e pos) (ub te (kE i)):=Gp h7 h8 h9 h10 h11 h12
theorem qx {X:Cx} {j k:Nat} {f:Addr} {fd:FuncData} {ps:List Str} {sp:Sp} {W:XW} {x:Str} {st:Stmt} {p pos:Pos} {e:Expr} {es:List Expr} {t:TA} (h15:cB X.prog X.w X.K X.mg X.base (CXE X.prog X.w) j f fd ps sp) (E:Ent X.K X.mg x st f fd ps) (h16:ie k X.A) (h22:Thr X W) (h23:QA X (e ::es) t)
  (hj:j <= k:=by decide) (h17:Gl X x:=by rfl) (h24:autoParam ((x == Str.ofString "__debug__") = false) L2.qau._auto_1) (h25:autoParam (starEach (e ::es) X.env = (false,eval e X.env) ::starEach es X.env) L2.qau._auto_1) (h26:autoParam (((backTo pos (starEach es X.env)).any fun x=>x.1) = false) L2.qau._auto_1):
  QE X (.Call (.Name x p) (e ::es) [] pos) (qk sp [] W t):=CS (h15.mono hj) h16 h17 E.m E.F.kp E.b .nil h22 h23 h24 h25 h26
theorem qf {X:Cx} {p pos:Pos} {e:Expr} {te:TE} (h11:X.mg "len" = none) (h:QE X e te) (h10:Gl X "len":=by rfl) (hs:isStar e = false:=by rfl) (h16:autoParam (starEach [e] X.env = (false,eval e X.env) ::starEach [] X.env) L2.qau._auto_1) (h17:autoParam (((backTo pos (starEach [] X.env)).any fun x=>x.1) = false) L2.qau._auto_1):
  QE X (.Call (.Name "len" p) [e] [] pos) (tCB (fun xs H Q=>∃ p ys,xs = [.ref p] /\ (SqL X.K H p ys \/ SqT X.K H p ys) /\ Q (.int ys.length) H) (jd te kD)):=mq wC h10 h11 boot_len (aa h au hs) (by decide) (by decide) h16 h17
theorem qi {X:Cx} {a b:Expr} {ta tb:TE} {pos:Pos} {r:R2} (h7:IxR X r) (h8:QE X a ta) (h9:QE X b tb) (h10:wj b:=by exact fun _ _=>rfl):QE X (.Subscript a b pos) (tOp r ta tb):=Kf h7 h8 h9 h10
theorem bS {X:Cx} {a b:Expr} {ta tb:TE} {pos:Pos} {op:CmpOp} {r:R2} (h8:OpR X (compareOp op) r) (h9:QE X a ta) (h10:QE X b tb) (h11:behindInMarks op b = false:=by exact jB _):QT X (.Compare a [op] [b] pos) (uQ (tOp r ta tb)):=kj h8 h9 h10 h11
theorem qap {X:Cx} {o e:Expr} {to te:TE} {apos cpos pos:Pos} {r:V -> List V -> Hp -> VK -> Prop} (h15:MtR X "list.append" r) (h16:QE X o to) (h:QE X e te) (hs:isStar e = false:=by rfl)
  (h18:autoParam (attributeBase o "append" X.env (eval o X.env) = eval o X.env) L2.qau._auto_1) (h19:autoParam (((((backTo cpos (starEach [e] X.env)).all fun x=>!x.1) && (backToKw cpos (keywordEach [] X.env)).all fun x=>x.1.isSome) && decide (([e].length + ([]:List Keyword).length + if ([]:List Keyword).isEmpty = true then 0 else 1) < 30)) = true) L2.qau._auto_1)
  (h20:autoParam ((apos.endLine == cpos.line) = true) L2.qau._auto_1) (h21:autoParam (starEach [e] X.env = (false,eval e X.env) ::starEach [] X.env) L2.qau._auto_1) (h22:autoParam (((backTo cpos (starEach [] X.env)).any fun x=>x.1) = false) L2.qau._auto_1) (h5:autoParam (swapsWith (.Call (.Attribute o "append" apos) [e] [] cpos) none pos.line X.env = pure false) L2.qau._auto_1):
  QS X (.Expr (.Call (.Attribute o "append" apos) [e] [] cpos) pos) (tw (tBM X.K "list" r to (jd te kD))):=Ab (FE PySem.F.plainAttrs_list PySem.F.slot_list_append PySem.F.type_list_append h15 h16 (aa h au hs) h18 h19 h20 h21 h22) h5
theorem qex {X:Cx} {o e:Expr} {to te:TE} {apos cpos pos:Pos} {r:V -> List V -> Hp -> VK -> Prop} (h15:MtR X "list.extend" r) (h16:QE X o to) (h:QE X e te) (hs:isStar e = false:=by rfl)
  (h18:autoParam (attributeBase o "extend" X.env (eval o X.env) = eval o X.env) L2.qau._auto_1) (h19:autoParam (((((backTo cpos (starEach [e] X.env)).all fun x=>!x.1) && (backToKw cpos (keywordEach [] X.env)).all fun x=>x.1.isSome) && decide (([e].length + ([]:List Keyword).length + if ([]:List Keyword).isEmpty = true then 0 else 1) < 30)) = true) L2.qau._auto_1)
  (h20:autoParam ((apos.endLine == cpos.line) = true) L2.qau._auto_1) (h21:autoParam (starEach [e] X.env = (false,eval e X.env) ::starEach [] X.env) L2.qau._auto_1) (h22:autoParam (((backTo cpos (starEach [] X.env)).any fun x=>x.1) = false) L2.qau._auto_1) (h5:autoParam (swapsWith (.Call (.Attribute o "extend" apos) [e] [] cpos) none pos.line X.env = pure false) L2.qau._auto_1):
  QS X (.Expr (.Call (.Attribute o "extend" apos) [e] [] cpos) pos) (tw (tBM X.K "list" r to (jd te kD))):=Ab (FE PySem.F.plainAttrs_list PySem.F.slot_list_extend PySem.F.type_list_extend h15 h16 (aa h au hs) h18 h19 h20 h21 h22) h5
end L2.E
namespace L2.P
open PySem PySem.Spec PyProof.Rows L2 L2.E
theorem jx {K:PySem.W.Frag} {cls:String -> Option Addr} {i:Nat} {te tk:TE} {mp:MP} {mk:ae -> OE} (h:JP K cls te i mp) (k:JE K cls (fun _ _ _ _=>False) tk mk):JP K cls (tOp (Fh K) te tk) i (pIx i mp mk):=Ko h k
end L2.P
namespace PG
noncomputable def mj (n:Int):Bool:=(decide (0 <= n) && decide (n < 55296)) || (decide (57343 < n) && decide (n <= 1114111))
noncomputable def bA (n:Int):List Int:=if n < 128 then [n] else if n < 2048 then [192 + n / 64,128 + n % 64] else if n < 65536 then [224 + n / 4096,128 + n / 64 % 64,128 + n % 64] else [240 + n / 262144,128 + n / 4096 % 64,128 + n / 64 % 64,128 + n % 64]
noncomputable def cell (ns:List Int) (k:Int):Int:=if ns = [] then 0 else ns.getD (k % (ns.length:Int)).toNat 0
noncomputable def mix (ns:List Int) (k:Int):Int:=
 let a:=(cell ns k + 104729 * (k + 1)) % 4294967291
 let b:=a * 48271 % 4294967279
 (b / 64 * 69621 + b) % 4294967231
noncomputable def menu:List Int:=[34,92,47,8,12,10,13,9,0,31,127]
noncomputable def point (n:Int):Int:=
 if n % 8 < 2 then 32 + n / 8 % 95 else if n % 8 < 4 then menu.getD (n / 8 % 11).toNat 0 else if n % 8 = 4 then 128 + n / 8 % 1920
 else if n % 8 = 5 then 2048 + n / 8 % 53248 else if n % 8 = 6 then 57344 + n / 8 % 8192 else 65536 + n / 8 % 1048576
noncomputable def ug (ns:List Int) (k:Int):Int:=if mix ns k / 5 % 8 = 3 then mix ns k / 40 % 14 else mix ns k % 5
noncomputable def points (ns:List Int) (k:Int):List Int:=(List.range (ug ns k).toNat).map fun j:Nat=>point (mix ns (k + 1 + (j:Int)))
theorem zp (ns:List Int) (k:Int):0 <= mix ns k /\ mix ns k < 4294967231:=by unfold mix; dsimp only; omega
theorem ya (ns:List Int) (k:Int):0 <= ug ns k /\ ug ns k < 14:=by
 have:=zp ns k
 unfold ug; split <;> omega
theorem Fu (i:Nat) (h:i < 11):0 <= menu.getD i 0 /\ menu.getD i 0 < 128:=by
 revert h; revert i; decide
theorem CB (n:Int):mj (point n) = true:=by
 unfold point mj
 have h11:=Fu (n / 8 % 11).toNat (by omega)
 simp only [Bool.or_eq_true,Bool.and_eq_true,decide_eq_true_eq]
 split
 . omega
 . split
   . omega
   . split
     . omega
     . split
       . omega
       . split <;> omega
theorem pj (ns:List Int) (k:Int):(points ns k).all mj = true:=by
 rw [List.all_eq_true]
 intro x hx
 unfold points at hx
 obtain ⟨j,_,rfl⟩:=List.mem_map.mp hx
 exact CB _
theorem qy (ns:List Int) (k:Int):(points ns k).length < 14:=by
 have:=ya ns k
 unfold points
 rw [List.length_map,List.length_range]
 omega
end PG
namespace PG
noncomputable def L0 (b:Int):Int × Int:=if b = 224 then (160,191) else if b = 237 then (128,159) else (128,191)
noncomputable def Li (b:Int):Int × Int:=if b = 240 then (144,191) else if b = 244 then (128,143) else (128,191)
noncomputable def spans (b:Int):Option (List (Int × Int)):=if 0 <= b /\ b < 128 then some [] else if 194 <= b /\ b < 224 then some [(128,191)] else if 224 <= b /\ b < 240 then some [L0 b,(128,191)] else if 240 <= b /\ b < 245 then some [Li b,(128,191),(128,191)] else none
noncomputable def mark (k:Nat):Int:=[0,192,224,240].getD k 0
noncomputable def val (b:Int) (cs:List Int):Int:=cs.foldl (fun n c=>n * 64 + c - 128) (b - mark cs.length)
theorem qA {n:Int} (h:mj n = true):0 <= n /\ n <= 1114111:=by
 unfold mj at h
 simp only [Bool.or_eq_true,Bool.and_eq_true,decide_eq_true_eq] at h
 omega
end PG
namespace L2.P
open PySem
@[simp] theorem FH (s:String):(Str.ofString s).cps.all (· < 0x110000) = true:=by
  rw [Str.ofString_eq_toList,List.all_toArray,List.all_map]
  rw [List.all_eq_true]
  intro c _
  have:=c.valid
  simp only [Function.comp,decide_eq_true_eq]
  rcases this with h | ⟨_,h⟩
  . exact Nat.lt_of_lt_of_le h (by decide)
  . exact h
theorem toNat_inj:∀ (xs ys:List Char),xs.map Char.toNat = ys.map Char.toNat -> xs = ys
 | [],[],_=>rfl
 | [],_ ::_,h=>by cases h
 | _ ::_,[],h=>by cases h
 | x ::xs,y ::ys,h=>by
   rw [List.map_cons,List.map_cons] at h
   injection h with h1 h2
   have:x = y:=Char.ext (UInt32.toNat_inj.mp h1)
   rw [this,toNat_inj xs ys h2]
theorem aG (a b:String):Str.ofString a = Str.ofString b ↔ a = b:=by
 constructor
 . intro h
   rw [Str.ofString_eq_toList,Str.ofString_eq_toList] at h
   injection h with h
   have h2:a.toList.map Char.toNat = b.toList.map Char.toNat:=by
    have:=congrArg Array.toList h
    simpa using this
   exact String.toList_inj.mp (toNat_inj _ _ h2)
 . intro h; rw [h]
@[simp] theorem Fv (a b:String):(Str.ofString a == Str.ofString b) = decide (a = b):=by
  by_cases h:a = b
  . subst h; simp
  . have:Str.ofString a ≠ Str.ofString b:=fun z=>h ((aG a b).mp z)
    simp [h,this]
@[simp] theorem KC (a b:String):kW (.str (Str.ofString a)) (.str (Str.ofString b)) = decide (a = b):=by simp [kW]
@[simp] theorem Mf (a:String) (n:Nat):G0 (.str (Str.ofString a)) n = true:=by simp [G0]
end L2.P
namespace L2.P
open PySem
@[simp] theorem get_nil (t:OV):t.get [] = some t:=by cases t <;> rfl
@[simp] theorem la (t u:OV):t.put [] u = u:=by cases t <;> rfl
end L2.P
namespace L2.P
open PySem
end L2.P
namespace PG
open L2.P PySem
inductive It where
 | sp (lo hi:Int) | bt | value | lead | figures | fraction | exponent | sign | text | escape | code | coded | hex | hexd | hexcf | row | mrow | fields | mfields | name
 deriving DecidableEq
noncomputable def aY:It -> PV
 | .sp lo hi=>.tup [.int lo,.int hi]
 | .bt=>.str "white" | .value=>.str "value" | .lead=>.str "lead" | .figures=>.str "figures" | .fraction=>.str "fraction" | .exponent=>.str "exponent" | .sign=>.str "sign"
 | .text=>.str "text" | .escape=>.str "escape" | .code=>.str "code" | .coded=>.str "code d" | .hex=>.str "hex" | .hexd=>.str "hex d" | .hexcf=>.str "hex c to f"
 | .row=>.str "row" | .mrow=>.str "more row" | .fields=>.str "fields" | .mfields=>.str "more fields" | .name=>.str "name"
noncomputable def loose:It -> Bool
 | .bt=>true | .figures=>true | .fraction=>true | .exponent=>true | .sign=>true
 | _=>false
noncomputable def opn:It -> Bool
 | .row=>true | .mrow=>true | .fields=>true | .mfields=>true
 | _=>false
noncomputable def wht (b:Int):Bool:=decide (9 = b) || (decide (10 = b) || (decide (13 = b) || decide (32 = b)))
noncomputable def fig (b:Int):Bool:=decide (48 <= b) && decide (b <= 57)
noncomputable def eZ (b:Int):Option Int:=if 48 <= b /\ b <= 57 then some (b - 48) else if 65 <= b /\ b <= 70 then some (b - 55) else if 97 <= b /\ b <= 102 then some (b - 87) else none
noncomputable def lO (b:Int):Option (List It):=if b = 48 then some [.fraction,.exponent] else if 48 <= b /\ b <= 57 then some [.figures,.fraction,.exponent] else none
noncomputable def jR (b:Int):Option (List It):=
 if b = 91 then some [.bt,.row] else if b = 123 then some [.bt,.fields] else if b = 34 then some [.text] else if b = 45 then some [.lead]
 else if b = 110 then some [.sp 117 117,.sp 108 108,.sp 108 108] else if b = 116 then some [.sp 114 114,.sp 117 117,.sp 101 101] else if b = 102 then some [.sp 97 97,.sp 108 108,.sp 115 115,.sp 101 101]
 else lO b
noncomputable def rf:List It:=[.bt,.sp 58 58,.bt,.value,.bt,.mfields]
noncomputable def tls (b:Int):Option (List It):=
 if 0 <= b /\ b < 128 then some [] else if 194 <= b /\ b < 224 then some [.sp 128 191]
 else if 224 <= b /\ b < 240 then some [if b = 224 then .sp 160 191 else if b = 237 then .sp 128 159 else .sp 128 191,.sp 128 191]
 else if 240 <= b /\ b < 245 then some [if b = 240 then .sp 144 191 else if b = 244 then .sp 128 143 else .sp 128 191,.sp 128 191,.sp 128 191]
 else none
noncomputable def rF (b:Int):Option (List It):=if b = 34 then some [] else if b = 92 then some [.escape,.text] else if b < 32 then none else (tls b).map (· ++ [.text])
noncomputable def vt (b:Int):Bool:=b = 34 || b = 92 || b = 47 || b = 98 || b = 102 || b = 110 || b = 114 || b = 116
noncomputable def Dm (b:Int):Option (List It):=if b = 117 then some [.code] else if vt b then some [] else none
noncomputable def yB (w:Int):Option (List It):=if w < 8 then some [.hex,.hex] else if w < 12 then some [.hex,.hex,.sp 92 92,.sp 117 117,.hexd,.hexcf,.hex,.hex] else none
noncomputable def bh:It -> Int -> Option (List It)
 | .sp lo hi,b=>if lo <= b /\ b <= hi then some [] else none
 | .bt,b=>if wht b then some [.bt] else none
 | .value,b=>jR b
 | .lead,b=>lO b
 | .figures,b=>if 48 <= b /\ b <= 57 then some [.figures] else none
 | .fraction,b=>if b = 46 then some [.sp 48 57,.figures] else none
 | .exponent,b=>if b = 101 \/ b = 69 then some [.sign,.sp 48 57,.figures] else none
 | .sign,b=>if b = 43 \/ b = 45 then some [] else none
 | .text,b=>rF b
 | .escape,b=>Dm b
 | .code,b=>(eZ b).bind fun w=>if w = 13 then some [.coded] else some [.hex,.hex,.hex]
 | .coded,b=>(eZ b).bind yB
 | .hex,b=>(eZ b).map fun _=>[]
 | .hexd,b=>(eZ b).bind fun w=>if w = 13 then some [] else none
 | .hexcf,b=>(eZ b).bind fun w=>if 12 <= w then some [] else none
 | .row,b=>if b = 93 then some [] else (jR b).map (· ++ [.bt,.mrow])
 | .mrow,b=>if b = 44 then some [.bt,.value,.bt,.mrow] else if b = 93 then some [] else none
 | .fields,b=>if b = 125 then some [] else if b = 34 then some (.text ::rf) else none
 | .mfields,b=>if b = 44 then some (.bt ::.name ::rf) else if b = 125 then some [] else none
 | .name,b=>if b = 34 then some [.text] else none
noncomputable def cnt (st:List It):Nat:=(st.filter opn).length
noncomputable def gon:List It -> Int -> List It × Bool
 | [],_=>([],false)
 | it ::st,b=>match bh it b with
   | some l=>(l ++ st,decide (cnt (l ++ st) <= 64))
   | none=>if loose it then gon st b else (st,false)
noncomputable def tk:List It -> List Int -> List It × Nat
 | st,[]=>(st,0)
 | st,b ::r=>if (gon st b).2 then ((tk (gon st b).1 r).1,(tk (gon st b).1 r).2 + 1) else ((gon st b).1,0)
noncomputable def st0:List It:=[.bt,.value,.bt]
noncomputable def flt (row:List Int):Option Nat:=if (tk st0 row).2 = row.length /\ (tk st0 row).1.all loose = true then none else some (tk st0 row).2
noncomputable def wk (st:List It):OV:=.ob "Walk" ["coming"] [.ol ((st.reverse.map aY).map .sh)]
theorem Ct (it:It) (b:Int) (l:List It) (h:bh it b = some l):l.length <= 8:=by
 have hv:∀ l,jR b = some l -> l.length <= 5:=by
  intro l h
  unfold jR lO at h
  repeat' split at h
  all_goals (first | (cases h; done) | (injection h with h; subst h; decide))
 have ht:∀ l,tls b = some l -> l.length <= 5:=by
  intro l h
  unfold tls at h
  repeat' split at h
  all_goals (first | (cases h; done) | (injection h with h; subst h; simp))
 cases it with
 | value=>exact Nat.le_trans (hv l h) (by decide)
 | row=>
   simp only [bh] at h
   split at h
   . injection h with h; subst h; decide
   . cases e:jR b with
     | none=>rw [e] at h; cases h
     | some l'=>rw [e] at h; injection h with h; subst h; have:=hv l' e; simp; omega
 | text=>
   simp only [bh,rF] at h
   repeat' split at h
   all_goals first | (cases h; done) | (injection h with h; subst h; decide) | skip
   cases e:tls b with
   | none=>rw [e] at h; cases h
   | some l'=>rw [e] at h; injection h with h; subst h; have:=ht l' e; simp; omega
 | code=>
   simp only [bh] at h
   cases e:eZ b with
   | none=>rw [e] at h; cases h
   | some w=>rw [e] at h; simp only [Option.bind_some] at h; split at h <;> (injection h with h; subst h; decide)
 | coded=>
   simp only [bh] at h
   cases e:eZ b with
   | none=>rw [e] at h; cases h
   | some w=>
     rw [e] at h; simp only [Option.bind_some,yB] at h
     repeat' split at h
     all_goals first | (cases h; done) | (injection h with h; subst h; decide)
 | hex=>
   simp only [bh] at h
   cases e:eZ b with
   | none=>rw [e] at h; cases h
   | some w=>rw [e] at h; injection h with h; subst h; simp
 | hexd=>
   simp only [bh] at h
   cases e:eZ b with
   | none=>rw [e] at h; cases h
   | some w=>rw [e] at h; simp only [Option.bind_some] at h; split at h <;> first | (cases h; done) | (injection h with h; subst h; decide)
 | hexcf=>
   simp only [bh] at h
   cases e:eZ b with
   | none=>rw [e] at h; cases h
   | some w=>rw [e] at h; simp only [Option.bind_some] at h; split at h <;> first | (cases h; done) | (injection h with h; subst h; decide)
 | _=>
   simp only [bh,lO,Dm,rf] at h
   repeat' split at h
   all_goals first | (cases h; done) | (injection h with h; subst h; decide)
theorem zF (st:List It) (b:Int):(gon st b).1.length <= st.length + 8:=by
 induction st with
 | nil=>simp [gon]
 | cons it st ih=>
   unfold gon
   cases e:bh it b with
   | some l=>have:=Ct it b l e; simp; omega
   | none=>
     dsimp only
     split
     . simp; omega
     . simp; omega
end PG
namespace PG
inductive Sg where
 | pl (p:Int) | sh (c p:Int) | hx (a b c d:Int) | pr (a b c d e f g h:Int)
noncomputable def pts:Sg -> List Int
 | .pl p=>[p]
 | .sh c _=>[92,c]
 | .hx a b c d=>[92,117,a,b,c,d]
 | .pr a b c d e f g h=>[92,117,a,b,c,d,92,117,e,f,g,h]
noncomputable def hv (b:Int):Int:=(eZ b).getD 0
noncomputable def cod (a b c d:Int):Int:=16 * (16 * (16 * hv a + hv b) + hv c) + hv d
noncomputable def Kc:Sg -> Int
 | .pl p=>p
 | .sh _ p=>p
 | .hx a b c d=>cod a b c d
 | .pr a b c d e f g h=>65536 + 1024 * (cod a b c d - 55296) + cod e f g h - 56320
noncomputable def shP:List (Int × Int):=[(34,34),(92,92),(47,47),(98,8),(102,12),(110,10),(114,13),(116,9)]
noncomputable def Sok:Sg -> Prop
 | .pl p=>mj p = true /\ 32 <= p /\ p ≠ 34 /\ p ≠ 92
 | .sh c p=>(c,p) ∈ shP
 | .hx a b c d=>(eZ a).isSome = true /\ (eZ b).isSome = true /\ (eZ c).isSome = true /\ (eZ d).isSome = true /\ ¬ (55296 <= cod a b c d /\ cod a b c d <= 57343)
 | .pr a b c d e f g h=>(eZ a = some 13 /\ 8 <= hv b /\ hv b < 12 /\ (eZ b).isSome = true /\ (eZ c).isSome = true /\ (eZ d).isSome = true) /\ eZ e = some 13 /\ 12 <= hv f /\ (eZ f).isSome = true /\ (eZ g).isSome = true /\ (eZ h).isSome = true
noncomputable def n5 (s:Sg):List Int:=(pts s).flatMap bA
theorem kR {b w:Int} (h:eZ b = some w):0 <= w /\ w < 16 /\ 48 <= b /\ b <= 102 /\ b ≠ 92 /\ b ≠ 117:=by
 unfold eZ at h
 split at h
 . injection h with h; omega
 . split at h
   . injection h with h; omega
   . split at h
     . injection h with h; omega
     . cases h
theorem mE {b w:Int} (h:eZ b = some w):hv b = w:=by unfold hv; rw [h]; rfl
theorem lq {n:Int} (h:n < 128):bA n = [n]:=by unfold bA; rw [if_pos h]
theorem cnt_cons (it:It) (st:List It):cnt (it ::st) = (if opn it then 1 else 0) + cnt st:=by
 unfold cnt
 cases e:opn it <;> simp [e]
 omega
theorem Es (l st:List It):cnt (l ++ st) = cnt l + cnt st:=by
 unfold cnt; rw [List.filter_append,List.length_append]
theorem Ji {st st':List It} {b:Int} {r:List Int} (h:gon st b = (st',true)):tk st (b ::r) = ((tk st' r).1,(tk st' r).2 + 1):=by
 simp [tk,h]
theorem Ex {it:It} {st l:List It} {b:Int} {r:List Int} (h:bh it b = some l) (hl:cnt l = 0) (hc:cnt st <= 64):tk (it ::st) (b ::r) = ((tk (l ++ st) r).1,(tk (l ++ st) r).2 + 1):=by
 refine Ji ?_
 have:cnt (l ++ st) <= 64:=by rw [Es]; omega
 simp [gon,h,this]
theorem Ed {it:It} {st:List It} {b:Int} {r:List Int} (h:bh it b = none) (hl:loose it = true):tk (it ::st) (b ::r) = tk st (b ::r):=by
 simp [tk,gon,h,hl]
noncomputable def Goes (st:List It) (bs:List Int) (st':List It):Prop:=∀ r,tk st (bs ++ r) = ((tk st' r).1,(tk st' r).2 + bs.length)
theorem Goes.nil (st:List It):Goes st [] st:=fun r=>by simp
theorem Goes.trans {a b c:List It} {xs ys:List Int} (h:Goes a xs b) (k:Goes b ys c):Goes a (xs ++ ys) c:=fun r=>by
 rw [List.append_assoc,h,k,List.length_append]
 congr 1
 omega
theorem Goes.step {it:It} {st l st':List It} {b:Int} {bs:List Int} (h:bh it b = some l) (hl:cnt l = 0) (hc:cnt st <= 64) (k:Goes (l ++ st) bs st'):Goes (it ::st) (b ::bs) st':=fun r=>by
 rw [List.cons_append,Ex h hl hc,k,List.length_cons]
 congr 1
theorem Fo {p:Int} {st:List It} (h:mj p = true) (h1:32 <= p) (h2:p ≠ 34) (h3:p ≠ 92) (hc:cnt st <= 64):Goes (.text ::st) (bA p) (.text ::st):=by
 have hr:=qA h
 have hs:p < 55296 \/ 57343 < p:=by
  unfold mj at h
  simp only [Bool.or_eq_true,Bool.and_eq_true,decide_eq_true_eq] at h
  omega
 have hc1:cnt (.text ::st) <= 64:=by rw [cnt_cons]; simp [opn]; omega
 have hsp:∀ lo hi:Int,cnt (.sp lo hi ::.text ::st) <= 64:=fun lo hi=>by rw [cnt_cons,cnt_cons]; simp [opn]; omega
 have b1:∀ b:Int,b ≠ 34 -> b ≠ 92 -> ¬ b < 32 -> bh .text b = (tls b).map (· ++ [.text]):=fun b g1 g2 g3=>by simp only [bh,rF,g1,g2,g3,if_false]
 unfold bA
 by_cases c1:p < 128
 . rw [if_pos c1]
   refine Goes.step (l:=[.text]) ?_ rfl hc (.nil _)
   rw [b1 p h2 h3 (by omega)]
   unfold tls
   rw [if_pos ⟨by omega,c1⟩]
   rfl
 . rw [if_neg c1]
   by_cases c2:p < 2048
   . rw [if_pos c2]
     refine Goes.step (l:=[.sp 128 191,.text]) ?_ rfl hc ?_
     . rw [b1 _ (by omega) (by omega) (by omega)]
       unfold tls
       rw [if_neg (by omega),if_pos (by omega)]
       rfl
     . refine Goes.step (l:=[]) ?_ rfl hc1 (.nil _)
       simp only [bh]
       rw [if_pos (by omega)]
   . rw [if_neg c2]
     by_cases c3:p < 65536
     . rw [if_pos c3]
       refine Goes.step (l:=[if 224 + p / 4096 = 224 then .sp 160 191 else if 224 + p / 4096 = 237 then .sp 128 159 else .sp 128 191,.sp 128 191,.text]) ?_ ?_ hc ?_
       . rw [b1 _ (by omega) (by omega) (by omega)]
         unfold tls
         rw [if_neg (by omega),if_neg (by omega),if_pos (by omega)]
         rfl
       . split
         . rfl
         . split <;> rfl
       . refine Goes.step (l:=[]) ?_ rfl (hsp _ _) ?_
         . split
           . simp only [bh]; rw [if_pos (by omega)]
           . split
             . simp only [bh]; rw [if_pos (by omega)]
             . simp only [bh]; rw [if_pos (by omega)]
         . refine Goes.step (l:=[]) ?_ rfl hc1 (.nil _)
           simp only [bh]
           rw [if_pos (by omega)]
     . rw [if_neg c3]
       have hsp2:cnt (.sp 128 191 ::.sp 128 191 ::.text ::st) <= 64:=by rw [cnt_cons,cnt_cons,cnt_cons]; simp [opn]; omega
       refine Goes.step (l:=[if 240 + p / 262144 = 240 then .sp 144 191 else if 240 + p / 262144 = 244 then .sp 128 143 else .sp 128 191,.sp 128 191,.sp 128 191,.text]) ?_ ?_ hc ?_
       . rw [b1 _ (by omega) (by omega) (by omega)]
         unfold tls
         rw [if_neg (by omega),if_neg (by omega),if_neg (by omega),if_pos (by omega)]
         rfl
       . split
         . rfl
         . split <;> rfl
       . refine Goes.step (l:=[]) ?_ rfl hsp2 ?_
         . split
           . simp only [bh]; rw [if_pos (by omega)]
           . split
             . simp only [bh]; rw [if_pos (by omega)]
             . simp only [bh]; rw [if_pos (by omega)]
         . refine Goes.step (l:=[]) ?_ rfl (hsp _ _) ?_
           . simp only [bh]; rw [if_pos (by omega)]
           . refine Goes.step (l:=[]) ?_ rfl hc1 (.nil _)
             simp only [bh]
             rw [if_pos (by omega)]
theorem m6 {b w:Int} (h:eZ b = some w):bh .hex b = some []:=by simp [bh,h]
theorem some_of {b:Int} (h:(eZ b).isSome = true):∃ w,eZ b = some w:=Option.isSome_iff_exists.mp h
theorem nk {a b c d:Int} (ha:(eZ a).isSome = true) (hb:(eZ b).isSome = true) (hc:(eZ c).isSome = true) (hd:(eZ d).isSome = true):bA a = [a] /\ bA b = [b] /\ bA c = [c] /\ bA d = [d]:=by
 obtain ⟨w1,e1⟩:=some_of ha
 obtain ⟨w2,e2⟩:=some_of hb
 obtain ⟨w3,e3⟩:=some_of hc
 obtain ⟨w4,e4⟩:=some_of hd
 have:=kR e1
 have:=kR e2
 have:=kR e3
 have:=kR e4
 exact ⟨lq (by omega),lq (by omega),lq (by omega),lq (by omega)⟩
theorem EB (s:Sg) (h:Sok s) (st:List It) (hc:cnt st <= 64):Goes (.text ::st) (n5 s) (.text ::st):=by
 have hc1:cnt (.text ::st) <= 64:=by rw [cnt_cons]; simp [opn]; omega
 have n0:∀ it:It,opn it = false -> ∀ st,cnt st <= 64 -> cnt (it ::st) <= 64:=fun it ho st h=>by rw [cnt_cons,ho]; simp; omega
 cases s with
 | pl p=>
   obtain ⟨h1,h2,h3,h4⟩:=h
   show Goes _ (bA p ++ []) _
   rw [List.append_nil]
   exact Fo h1 h2 h3 h4 hc
 | sh c p=>
   have hb:n5 (.sh c p) = [92,c] /\ bh .escape c = some []:=by
    simp only [Sok,shP,List.mem_cons,Prod.mk.injEq,List.not_mem_nil,or_false] at h
    rcases h with h | h | h | h | h | h | h | h <;> (obtain ⟨rfl,rfl⟩:=h; exact ⟨rfl,rfl⟩)
   rw [hb.1]
   exact Goes.step (l:=[.escape,.text]) rfl rfl hc (Goes.step (l:=[]) hb.2 rfl hc1 (.nil _))
 | hx a b c d=>
   obtain ⟨ha,hb,hcc,hd,hs⟩:=h
   obtain ⟨e1,e2,e3,e4⟩:=nk ha hb hcc hd
   have hby:n5 (.hx a b c d) = [92,117,a,b,c,d]:=by
    show bA 92 ++ (bA 117 ++ (bA a ++ (bA b ++ (bA c ++ (bA d ++ []))))) = _
    rw [e1,e2,e3,e4]; rfl
   rw [hby]
   obtain ⟨w1,f1⟩:=some_of ha
   obtain ⟨w2,f2⟩:=some_of hb
   obtain ⟨w3,f3⟩:=some_of hcc
   obtain ⟨w4,f4⟩:=some_of hd
   refine Goes.step (l:=[.escape,.text]) rfl rfl hc (Goes.step (l:=[.code]) rfl rfl hc1 ?_)
   by_cases hw:w1 = 13
   . have h8:w2 < 8:=by
      have g2:=kR f2
      have g3:=kR f3
      have g4:=kR f4
      simp only [cod,mE f1,mE f2,mE f3,mE f4] at hs
      omega
     refine Goes.step (l:=[.coded]) (by simp [bh,f1,hw]) rfl hc1 (Goes.step (l:=[.hex,.hex]) (by simp [bh,f2,yB,h8]) rfl hc1 ?_)
     exact Goes.step (l:=[]) (m6 f3) rfl (n0 _ rfl _ hc1) (Goes.step (l:=[]) (m6 f4) rfl hc1 (.nil _))
   . refine Goes.step (l:=[.hex,.hex,.hex]) (by simp [bh,f1,hw]) rfl hc1 ?_
     exact Goes.step (l:=[]) (m6 f2) rfl (n0 _ rfl _ (n0 _ rfl _ hc1)) (Goes.step (l:=[]) (m6 f3) rfl (n0 _ rfl _ hc1) (Goes.step (l:=[]) (m6 f4) rfl hc1 (.nil _)))
 | pr a b c d e f g h'=>
   obtain ⟨⟨f1,hb8,hb12,hb,hcc,hd⟩,f5,hf12,hf,hg,hh⟩:=h
   obtain ⟨e1,e2,e3,e4⟩:=nk (by rw [f1]; rfl) hb hcc hd
   obtain ⟨e5,e6,e7,e8⟩:=nk (by rw [f5]; rfl) hf hg hh
   have hby:n5 (.pr a b c d e f g h') = [92,117,a,b,c,d,92,117,e,f,g,h']:=by
    show bA 92 ++ (bA 117 ++ (bA a ++ (bA b ++ (bA c ++ (bA d ++ (bA 92 ++ (bA 117 ++ (bA e ++ (bA f ++ (bA g ++ (bA h' ++ []))))))))))) = _
    rw [e1,e2,e3,e4,e5,e6,e7,e8]; rfl
   rw [hby]
   obtain ⟨w2,f2⟩:=some_of hb
   obtain ⟨w3,f3⟩:=some_of hcc
   obtain ⟨w4,f4⟩:=some_of hd
   obtain ⟨w6,f6⟩:=some_of hf
   obtain ⟨w7,f7⟩:=some_of hg
   obtain ⟨w8,f8⟩:=some_of hh
   rw [mE f2] at hb8 hb12
   rw [mE f6] at hf12
   have hn8:¬ w2 < 8:=by omega
   refine Goes.step (l:=[.escape,.text]) rfl rfl hc (Goes.step (l:=[.code]) rfl rfl hc1 (Goes.step (l:=[.coded]) (by simp [bh,f1]) rfl hc1 (Goes.step (l:=[.hex,.hex,.sp 92 92,.sp 117 117,.hexd,.hexcf,.hex,.hex]) (by simp [bh,f2,yB,hn8,hb12]) rfl hc1 ?_)))
   have k1:=n0 .hex rfl _ hc1
   have k2:=n0 .hex rfl _ k1
   have k3:=n0 .hexcf rfl _ k2
   have k4:=n0 .hexd rfl _ k3
   have k5:=n0 (.sp 117 117) rfl _ k4
   have k6:=n0 (.sp 92 92) rfl _ k5
   have k7:=n0 .hex rfl _ k6
   exact Goes.step (l:=[]) (m6 f3) rfl k7 (Goes.step (l:=[]) (m6 f4) rfl k6 (Goes.step (l:=[]) rfl rfl k5 (Goes.step (l:=[]) rfl rfl k4 (Goes.step (l:=[]) (by simp [bh,f5]) rfl k3 (Goes.step (l:=[]) (by simp [bh,f6,hf12]) rfl k2 (Goes.step (l:=[]) (m6 f7) rfl k1 (Goes.step (l:=[]) (m6 f8) rfl hc1 (.nil _))))))))
noncomputable def inner (ss:List Sg):List Int:=ss.flatMap n5
theorem BN (ss:List Sg) (h:∀ s ∈ ss,Sok s) (st:List It) (hc:cnt st <= 64):Goes (.text ::st) (inner ss) (.text ::st):=by
 induction ss with
 | nil=>exact .nil _
 | cons s ss ih=>exact (EB s (h s List.mem_cons_self) st hc).trans (ih fun x hx=>h x (List.mem_cons_of_mem _ hx))
theorem rG (ss:List Sg) (h:∀ s ∈ ss,Sok s) (st:List It) (hc:cnt st <= 64):Goes (.text ::st) (inner ss ++ [34]) st:=
 (BN ss h st hc).trans (Goes.step (l:=[]) rfl rfl hc (.nil _))
theorem Goes.skip {it:It} {st st':List It} {b:Int} {bs:List Int} (h:bh it b = none) (hl:loose it = true) (k:Goes st (b ::bs) st'):Goes (it ::st) (b ::bs) st':=fun r=>by
 rw [List.cons_append,Ed h hl,<- List.cons_append,k]
theorem Goes.flt {row:List Int} {st:List It} (h:Goes st0 row st) (hl:st.all loose = true):flt row = none:=by
 have e:=h []
 rw [List.append_nil] at e
 unfold PG.flt
 rw [e]
 simp [tk,hl]
noncomputable def txt (ss:List Sg):List Int:=34 ::(inner ss ++ [34])
theorem yJ {st:List It} (ss:List Sg) (h:∀ s ∈ ss,Sok s) (hc:cnt st <= 64):Goes (.value ::st) (txt ss) st:=
 Goes.step (l:=[.text]) rfl rfl hc (rG ss h st hc)
end PG
namespace PG
noncomputable abbrev isF (b:Int):Prop:=48 <= b /\ b <= 57
noncomputable def cV (n:Nat):List Int:=if n < 10 then [48 + (n:Int)] else cV (n / 10) ++ [48 + ((n % 10:Nat):Int)]
termination_by n
decreasing_by omega
noncomputable def dz (n:Nat):List Int:=if n = 0 then [] else cV n
theorem Hs (n:Nat):cV n = dz (n / 10) ++ [48 + ((n % 10:Nat):Int)]:=by
 rw [cV]
 unfold dz
 by_cases h:n < 10
 . rw [if_pos h,if_pos (by omega),Nat.mod_eq_of_lt h]; rfl
 . rw [if_neg h,if_neg (by omega)]
theorem xw (n:Nat):∀ b ∈ cV n,isF b:=by
 induction n using Nat.strongRecOn with
 | _ n ih=>
   intro b hb
   rw [cV] at hb
   split at hb
   . simp at hb; unfold isF; omega
   . rcases List.mem_append.mp hb with z | z
     . exact ih (n / 10) (by omega) b z
     . simp at z; unfold isF; omega
theorem DW (n:Nat):cV n ≠ []:=by rw [Hs]; simp
theorem Bg (n:Nat) (h:0 < n):∃ d r,cV n = d ::r /\ 49 <= d /\ d <= 57 /\ ∀ b ∈ r,isF b:=by
 induction n using Nat.strongRecOn with
 | _ n ih=>
   rw [cV]
   split
   . exact ⟨48 + (n:Int),[],rfl,by omega,by omega,fun b hb=>by cases hb⟩
   . obtain ⟨d,r,e,h1,h2,h3⟩:=ih (n / 10) (by omega) (by omega)
     rw [e]
     refine ⟨d,r ++ [48 + ((n % 10:Nat):Int)],rfl,h1,h2,fun b hb=>?_⟩
     rcases List.mem_append.mp hb with z | z
     . exact h3 b z
     . simp at z; unfold isF; omega
theorem A9:cV 0 = [48]:=by rw [cV]; rfl
theorem oH (k:Nat):∀ n:Nat,n < 10 ^ (k + 1) -> (cV n).length <= k + 1:=by
 induction k with
 | zero=>intro n h; rw [cV,if_pos (by simpa using h)]; simp
 | succ k ih=>
   intro n h
   rw [cV]
   split
   . simp
   . have:n / 10 < 10 ^ (k + 1):=by rw [Nat.pow_succ] at h; omega
     have:=ih (n / 10) this
     simp; omega
noncomputable def cv (ds:List Int):Int:=ds.foldl (fun n d=>10 * n + d - 48) 0
theorem E6 (ds:List Int) (d:Int):cv (ds ++ [d]) = 10 * cv ds + d - 48:=by simp [cv]
theorem Fs (n:Nat):cv (cV n) = n:=by
 induction n using Nat.strongRecOn with
 | _ n ih=>
   rw [cV]
   split
   . simp [cv]; omega
   . rw [E6,ih (n / 10) (by omega)]; omega
structure Nm where
 neg:Bool
 ip:List Int
 fr:List Int
 ex:Option (Int × List Int × List Int)
noncomputable def frB (fr:List Int):List Int:=if fr = [] then [] else 46 ::fr
noncomputable def exB:Option (Int × List Int × List Int) -> List Int
 | none=>[]
 | some (e,s,ds)=>e ::(s ++ ds)
noncomputable def nb (m:Nm):List Int:=(if m.neg then [45] else []) ++ (m.ip ++ (frB m.fr ++ exB m.ex))
structure Nok (m:Nm):Prop where
 ip:(m.ip = [48]) \/ ∃ d r,m.ip = d ::r /\ 49 <= d /\ d <= 57 /\ ∀ b ∈ r,isF b
 fr:∀ b ∈ m.fr,isF b
 ex:∀ e s ds,m.ex = some (e,s,ds) -> (e = 101 \/ e = 69) /\ (s = [] \/ s = [43] \/ s = [45]) /\ ds ≠ [] /\ ∀ b ∈ ds,isF b
noncomputable def nl:It -> Bool
 | .figures=>true | .fraction=>true | .exponent=>true
 | _=>false
theorem rP {st:List It} (hc:cnt st <= 64) (ds:List Int) (h:∀ b ∈ ds,isF b):Goes (.figures ::st) ds (.figures ::st):=by
 induction ds with
 | nil=>exact .nil _
 | cons d ds ih=>
   refine Goes.step (l:=[.figures]) ?_ rfl hc (ih fun b hb=>h b (List.mem_cons_of_mem _ hb))
   have:=h d List.mem_cons_self
   simp only [bh]
   rw [if_pos this]
theorem B8 {m:Nm} (h:Nok m) {st:List It} (hc:cnt st <= 64):∃ ls,ls.all nl = true /\ Goes (.value ::st) (nb m) (ls ++ st):=by
 have n1:∀ it:It,opn it = false -> ∀ st,cnt st <= 64 -> cnt (it ::st) <= 64:=fun it ho st h=>by rw [cnt_cons,ho]; simp; omega
 have hlead:∃ ls,(ls = [.fraction,.exponent] \/ ls = [.figures,.fraction,.exponent]) /\ Goes (.lead ::st) m.ip (ls ++ st) /\ ∀ b r,m.ip = b ::r -> bh .value b = bh .lead b:=by
  rcases h.ip with e | ⟨d,r,e,h1,h2,h3⟩
  . exact ⟨_,.inl rfl,by rw [e]; exact Goes.step (l:=[.fraction,.exponent]) rfl rfl hc (.nil _),fun b r e2=>by rw [e] at e2; cases e2; rfl⟩
  . refine ⟨_,.inr rfl,?_,fun b r' e2=>?_⟩
    . rw [e]
      refine Goes.step (l:=[.figures,.fraction,.exponent]) ?_ rfl hc ?_
      . simp only [bh,lO]
        rw [if_neg (by omega),if_pos (by omega)]
      . exact rP (n1 _ rfl _ (n1 _ rfl _ hc)) r h3
    . rw [e] at e2
      cases e2
      simp only [bh,jR]
      rw [if_neg (by omega),if_neg (by omega),if_neg (by omega),if_neg (by omega),if_neg (by omega),if_neg (by omega),if_neg (by omega)]
 obtain ⟨ls,hls,g1,g2⟩:=hlead
 have g3:Goes (.value ::st) ((if m.neg then [45] else []) ++ m.ip) (ls ++ st):=by
  cases m.neg with
  | true=>exact Goes.step (l:=[.lead]) rfl rfl hc g1
  | false=>
    rw [if_neg (by decide),List.nil_append]
    rcases h.ip with e | ⟨d,r,e,_⟩
    . intro q
      have e1:=g1 q
      have e2:=g2 48 [] e
      rw [e] at e1 ⊢
      rw [<- e1]
      simp [tk,gon,e2,loose]
    . intro q
      have e1:=g1 q
      have e2:=g2 d r e
      have ne:∃ l,bh .lead d = some l:=by
       rw [e] at e1
       cases e3:bh .lead d with
       | some l=>exact ⟨l,rfl⟩
       | none=>simp [tk,gon,e3,loose] at e1
      obtain ⟨l,hl⟩:=ne
      rw [e] at e1 ⊢
      rw [<- e1]
      simp [tk,gon,e2,hl]
 have g4:∃ ls',(ls' = [.figures,.exponent] \/ ls' = [.fraction,.exponent] \/ ls' = [.figures,.fraction,.exponent]) /\ Goes (ls ++ st) (frB m.fr) (ls' ++ st):=by
  unfold frB
  cases e:m.fr with
  | nil=>
    rw [if_pos rfl]
    refine ⟨ls,?_,.nil _⟩
    rcases hls with z | z
    . exact .inr (.inl z)
    . exact .inr (.inr z)
  | cons d ds=>
    rw [if_neg (by simp)]
    have hf:=h.fr
    rw [e] at hf
    refine ⟨_,.inl rfl,?_⟩
    have base:Goes (.fraction ::.exponent ::st) (46 ::d ::ds) (.figures ::.exponent ::st):=by
     refine Goes.step (l:=[.sp 48 57,.figures]) rfl rfl (n1 _ rfl _ hc) (Goes.step (l:=[]) ?_ rfl (n1 _ rfl _ (n1 _ rfl _ hc)) (rP (n1 _ rfl _ hc) ds fun b hb=>hf b (List.mem_cons_of_mem _ hb)))
     have:=hf d List.mem_cons_self
     simp only [bh]
     rw [if_pos this]
    rcases hls with z | z
    . subst z; exact base
    . subst z; exact Goes.skip rfl rfl base
 obtain ⟨ls',hls',g5⟩:=g4
 have g6:∃ ls2,ls2.all nl = true /\ Goes (ls' ++ st) (exB m.ex) (ls2 ++ st):=by
  cases e:m.ex with
  | none=>
    refine ⟨ls',?_,.nil _⟩
    rcases hls' with z | z | z <;> (subst z; rfl)
  | some x=>
    obtain ⟨eb,s,ds⟩:=x
    obtain ⟨he,hs,hd,hf⟩:=h.ex eb s ds e
    refine ⟨[.figures],rfl,?_⟩
    have base:Goes (.exponent ::st) (eb ::(s ++ ds)) (.figures ::st):=by
     refine Goes.step (l:=[.sign,.sp 48 57,.figures]) (by rcases he with rfl | rfl <;> rfl) rfl hc ?_
     obtain ⟨d,r,ed⟩:∃ d r,ds = d ::r:=by
      cases ds with
      | nil=>exact absurd rfl hd
      | cons d r=>exact ⟨d,r,rfl⟩
     subst ed
     have hd1:=hf d List.mem_cons_self
     have tail:Goes (.sp 48 57 ::.figures ::st) (d ::r) (.figures ::st):=by
      refine Goes.step (l:=[]) ?_ rfl (n1 _ rfl _ hc) (rP hc r fun b hb=>hf b (List.mem_cons_of_mem _ hb))
      simp only [bh]
      rw [if_pos hd1]
     rcases hs with rfl | rfl | rfl
     . refine Goes.skip ?_ rfl tail
       unfold isF at hd1
       simp only [bh]
       rw [if_neg (by omega)]
     . exact Goes.step (l:=[]) rfl rfl (n1 _ rfl _ (n1 _ rfl _ hc)) tail
     . exact Goes.step (l:=[]) rfl rfl (n1 _ rfl _ (n1 _ rfl _ hc)) tail
    have k1:bh .figures eb = none:=by rcases he with rfl | rfl <;> rfl
    have k2:bh .fraction eb = none:=by rcases he with rfl | rfl <;> rfl
    rcases hls' with z | z | z
    . subst z; exact Goes.skip k1 rfl base
    . subst z; exact Goes.skip k2 rfl base
    . subst z; exact Goes.skip k1 rfl (Goes.skip k2 rfl base)
 obtain ⟨ls2,hl2,g7⟩:=g6
 refine ⟨ls2,hl2,?_⟩
 have:=g3.trans (g5.trans g7)
 unfold nb
 simpa using this
theorem AQ {ls st st':List It} {b:Int} {bs:List Int} (h:ls.all nl = true) (hb:bh .figures b = none /\ bh .fraction b = none /\ bh .exponent b = none) (k:Goes st (b ::bs) st'):Goes (ls ++ st) (b ::bs) st':=by
 induction ls with
 | nil=>exact k
 | cons it ls ih=>
   simp only [List.all_cons,Bool.and_eq_true] at h
   cases it with
   | figures=>exact Goes.skip hb.1 rfl (ih h.2)
   | fraction=>exact Goes.skip hb.2.1 rfl (ih h.2)
   | exponent=>exact Goes.skip hb.2.2 rfl (ih h.2)
   | _=>exact absurd h.1 (by simp [nl])
theorem Di {ls:List It} (h:ls.all nl = true):ls.all loose = true:=by
 rw [List.all_eq_true] at h ⊢
 intro it hi
 have:=h it hi
 cases it <;> first | rfl | (exact absurd this (by simp [nl]))
end PG
namespace PG
open L2.P PySem
noncomputable def out:List Bool -> List It
 | []=>[.bt]
 | r ::fs=>.bt ::(if r then .mrow else .mfields) ::out fs
noncomputable def hd (r e:Bool):It:=if r then (if e then .row else .mrow) else (if e then .fields else .mfields)
noncomputable def stk (r e:Bool) (fs:List Bool):List It:=.bt ::hd r e ::out fs
theorem kq:∀ fs:List Bool,cnt (out fs) = fs.length
 | []=>rfl
 | r ::fs=>by
   show cnt (.bt ::(if r then It.mrow else It.mfields) ::out fs) = fs.length + 1
   rw [cnt_cons,cnt_cons,kq fs]
   cases r <;> simp [opn] <;> omega
noncomputable def Gs (a:List It) (xs:List Int) (b:List It):Prop:=∃ ls,ls.all nl = true /\ Goes a xs (ls ++ b)
theorem Gs.of {a b:List It} {xs:List Int} (h:Goes a xs b):Gs a xs b:=⟨[],rfl,h⟩
noncomputable def xG (b:Int):Prop:=bh .figures b = none /\ bh .fraction b = none /\ bh .exponent b = none
theorem Gs.go {a b c:List It} {xs ys:List Int} {y:Int} (h:Gs a xs b) (hy:xG y) (k:Goes b (y ::ys) c):Goes a (xs ++ y ::ys) c:=by
 obtain ⟨ls,hl,h⟩:=h
 exact h.trans (AQ hl hy k)
theorem AS {b:Int} (h:wht b = true):xG b:=by
 unfold wht at h
 simp only [Bool.or_eq_true,decide_eq_true_eq] at h
 refine ⟨?_,?_,?_⟩ <;> rcases h with h | h | h | h <;> subst h <;> rfl
theorem yk:xG 44:=⟨rfl,rfl,rfl⟩
theorem B1:xG 93:=⟨rfl,rfl,rfl⟩
theorem AO:xG 125:=⟨rfl,rfl,rfl⟩
theorem ez {st:List It} (hc:cnt st <= 64):∀ ws:List Int,(∀ b ∈ ws,wht b = true) -> Goes (.bt ::st) ws (.bt ::st)
 | [],_=>Goes.nil _
 | w ::ws,h=>Goes.step (l:=[.bt]) (by simp [bh,h w (List.mem_cons_self)]) rfl hc (ez hc ws fun b hb=>h b (List.mem_cons_of_mem _ hb))
theorem Gs.bt {a st:List It} {xs ws:List Int} (h:Gs a xs (.bt ::st)) (hc:cnt st <= 64) (hw:∀ b ∈ ws,wht b = true):Gs a (xs ++ ws) (.bt ::st):=by
 cases ws with
 | nil=>rw [List.append_nil]; exact h
 | cons w ws=>exact .of (h.go (AS (hw w List.mem_cons_self)) (ez hc _ hw))
theorem Goes.past {st st':List It} {b:Int} {bs:List Int} (hb:wht b = false) (k:Goes st (b ::bs) st'):Goes (.bt ::st) (b ::bs) st':=
 Goes.skip (by simp [bh,hb]) rfl k
theorem Goes.one {it:It} {st l:List It} {b:Int} (h:bh it b = some l) (hc:cnt (l ++ st) <= 64):Goes (it ::st) [b] (l ++ st):=fun r=>by
 have:gon (it ::st) b = (l ++ st,true):=by unfold gon; rw [h]; simp [hc]
 show tk (it ::st) (b ::r) = _
 rw [Ji this]; rfl
theorem Gs.Br {a:List It} {xs:List Int} {fs:List Bool} (h:Gs a xs (stk true false fs)) (hc:fs.length < 64):Goes a (xs ++ [44]) (.bt ::.value ::out (true ::fs)):=by
 refine h.go yk (.past rfl ?_)
 have:=Goes.one (it:=.mrow) (st:=out fs) (b:=44) (l:=[.bt,.value,.bt,.mrow]) rfl (by
  show cnt (.bt ::.value ::out (true ::fs)) <= 64
  rw [cnt_cons,cnt_cons,kq]; simp [opn]; omega)
 exact this
theorem Gs.wL {a:List It} {xs:List Int} {fs:List Bool} (h:Gs a xs (stk false false fs)) (hc:fs.length < 64):Goes a (xs ++ [44]) (.bt ::.name ::.bt ::.sp 58 58 ::.bt ::.value ::out (false ::fs)):=by
 refine h.go yk (.past rfl ?_)
 have:=Goes.one (it:=.mfields) (st:=out fs) (b:=44) (l:=.bt ::.name ::rf) rfl (by
  show cnt (.bt ::.name ::.bt ::.sp 58 58 ::.bt ::.value ::out (false ::fs)) <= 64
  simp only [cnt_cons,kq]; simp [opn]; omega)
 exact this
theorem Gs.close {a:List It} {xs:List Int} {fs:List Bool} (r e:Bool) (h:Gs a xs (stk r e fs)) (hc:fs.length <= 64):Goes a (xs ++ [if r then 93 else 125]) (out fs):=by
 refine h.go (by cases r; exact AO; exact B1) (.past (by cases r <;> rfl) ?_)
 exact Goes.one (it:=hd r e) (st:=out fs) (l:=[]) (by cases r <;> cases e <;> rfl) (by rw [List.nil_append,kq]; exact hc)
theorem Bv {fs:List Bool} (r:Bool) (hc:fs.length < 64):Goes (.value ::out fs) [if r then 91 else 123] (stk r true fs):=by
 have:=Goes.one (it:=.value) (st:=out fs) (b:=if r then 91 else 123) (l:=[.bt,hd r true]) (by cases r <;> rfl) (by
  show cnt (.bt ::hd r true ::out fs) <= 64
  rw [cnt_cons,cnt_cons,kq]; cases r <;> simp [opn,hd] <;> omega)
 exact this
theorem zl {fs:List Bool} {b:Int} {bs:List Int} {st' l:List It} (hb:jR b = some l) (hn:b ≠ 93) (k:Goes (.value ::out (true ::fs)) (b ::bs) st'):Goes (.row ::out fs) (b ::bs) st':=fun r=>by
 rw [<- k r]
 have e1:bh .row b = some (l ++ [.bt,.mrow]):=by simp [bh,hn,hb]
 have e2:bh .value b = some l:=hb
 have:gon (.row ::out fs) b = gon (.value ::out (true ::fs)) b:=by
  unfold gon
  rw [e1,e2]
  simp [out]
 show tk _ (b ::(bs ++ r)) = tk _ (b ::(bs ++ r))
 unfold tk
 rw [this]
inductive Wd where | null | tru | fal
noncomputable def wdb:Wd -> List Int
 | .null=>[110,117,108,108] | .tru=>[116,114,117,101] | .fal=>[102,97,108,115,101]
theorem fu {c:Int} {st:List It} (hc:cnt st <= 64):Goes (.sp c c ::st) [c] st:=by
 have:=Goes.one (it:=.sp c c) (st:=st) (b:=c) (l:=[]) (by simp [bh]) hc
 exact this
theorem AI {st:List It} (hc:cnt st <= 64) (w:Wd):Goes (.value ::st) (wdb w) st:=by
 cases w with
 | null=>exact Goes.step (l:=[.sp 117 117,.sp 108 108,.sp 108 108]) rfl rfl hc (Goes.trans (xs:=[117]) (fu (by simpa [cnt_cons,opn] using hc)) (Goes.trans (xs:=[108]) (fu (by simpa [cnt_cons,opn] using hc)) (fu hc)))
 | tru=>exact Goes.step (l:=[.sp 114 114,.sp 117 117,.sp 101 101]) rfl rfl hc (Goes.trans (xs:=[114]) (fu (by simpa [cnt_cons,opn] using hc)) (Goes.trans (xs:=[117]) (fu (by simpa [cnt_cons,opn] using hc)) (fu hc)))
 | fal=>exact Goes.step (l:=[.sp 97 97,.sp 108 108,.sp 115 115,.sp 101 101]) rfl rfl hc (Goes.trans (xs:=[97]) (fu (by simpa [cnt_cons,opn] using hc)) (Goes.trans (xs:=[108]) (fu (by simpa [cnt_cons,opn] using hc)) (Goes.trans (xs:=[115]) (fu (by simpa [cnt_cons,opn] using hc)) (fu hc))))
inductive Lf where | wd (w:Wd) | nm (m:Nm) | tx (l:List Sg)
noncomputable def lfb:Lf -> List Int
 | .wd w=>wdb w | .nm m=>nb m | .tx l=>txt l
noncomputable def Lok:Lf -> Prop
 | .wd _=>True | .nm m=>Nok m | .tx l=>∀ s ∈ l,Sok s
theorem Ei {st:List It} (hc:cnt st <= 64) (x:Lf) (h:Lok x):Gs (.value ::st) (lfb x) st:=by
 cases x with
 | wd w=>exact .of (AI hc w)
 | nm m=>exact B8 h hc
 | tx l=>exact .of (yJ l h hc)
theorem AY {st:List It} (hc:cnt st <= 64) (l:List Sg) (h:∀ s ∈ l,Sok s):Goes (.name ::st) (txt l) st:=
 Goes.step (l:=[.text]) rfl rfl hc (rG l h st hc)
theorem xx {fs:List Bool} (hc:fs.length < 64) (l:List Sg) (h:∀ s ∈ l,Sok s):Goes (.fields ::out fs) (txt l) (.bt ::.sp 58 58 ::.bt ::.value ::out (false ::fs)):=by
 have hcc:cnt (.bt ::.sp 58 58 ::.bt ::.value ::out (false ::fs)) <= 64:=by simp only [cnt_cons,kq]; simp [opn]; omega
 have h1:=Goes.one (it:=.fields) (st:=out fs) (b:=34) (l:=.text ::rf) rfl (by
  show cnt (.text ::.bt ::.sp 58 58 ::.bt ::.value ::out (false ::fs)) <= 64
  rw [cnt_cons]; simpa [opn] using hcc)
 exact Goes.trans h1 (rG l h _ hcc)
theorem tR {st:List It} (hc:cnt st <= 64) {ws:List Int} (hw:∀ b ∈ ws,wht b = true):Goes (.bt ::.sp 58 58 ::.bt ::st) (ws ++ [58]) (.bt ::st):=
 (ez (by simpa [cnt_cons,opn] using hc) ws hw).trans (.past rfl (fu (by simpa [cnt_cons,opn] using hc)))
theorem Gs.flt {row:List Int} (h:Gs st0 row [.bt]):flt row = none:=by
 obtain ⟨ls,hl,h⟩:=h
 refine h.flt ?_
 rw [List.all_append,Di hl]; rfl
noncomputable def lz:It -> Bool
 | .bt=>true | .figures=>true | .fraction=>true | .exponent=>true | .sign=>true | .sp lo hi=>decide (lo = 48) && decide (hi = 57)
 | _=>false
noncomputable def tb (b:Int):Prop:=wht b = true \/ isF b \/ b = 46 \/ b = 101 \/ b = 69 \/ b = 43 \/ b = 45
theorem JL {it:It} {b:Int} {l:List It} (h:lz it = true) (k:bh it b = some l):l.all lz = true /\ tb b:=by
 cases it <;> simp only [lz] at h <;> try exact absurd h (by decide)
 case sp lo hi=>
  simp only [Bool.and_eq_true,decide_eq_true_eq] at h
  obtain ⟨rfl,rfl⟩:=h
  simp only [bh] at k
  split at k
  . cases k; exact ⟨rfl,.inr (.inl ‹_›)⟩
  . cases k
 all_goals
  simp only [bh] at k
  split at k
  . cases k
    refine ⟨by decide,?_⟩
    first
     | exact .inl ‹_›
     | exact .inr (.inl ‹_›)
     | (unfold tb; omega)
  . cases k
theorem DA:∀ {st:List It} {b:Int} {st':List It},st.all lz = true -> gon st b = (st',true) -> st'.all lz = true /\ tb b
 | [],b,st',_,k=>by simp [gon] at k
 | it ::st,b,st',h,k=>by
   rw [List.all_cons,Bool.and_eq_true] at h
   unfold gon at k
   cases e:bh it b with
   | some l=>
     rw [e] at k
     have:=JL h.1 e
     simp only [Prod.mk.injEq] at k
     refine ⟨?_,this.2⟩
     rw [<- k.1,List.all_append,this.1,h.2]; rfl
   | none=>
     rw [e] at k
     simp only at k
     split at k
     . exact DA h.2 k
     . simp at k
theorem Cp:∀ (P R:List Int) (st:List It),(tk st (P ++ R)).2 = (P ++ R).length -> (tk st P).2 = P.length /\ (tk (tk st P).1 R).2 = R.length
 | [],R,st,h=>⟨rfl,h⟩
 | b ::P,R,st,h=>by
   simp only [List.cons_append] at h
   unfold tk at h
   have e:(gon st b).2 = true:=by
    cases q:(gon st b).2 with
    | true=>rfl
    | false=>rw [q] at h; simp at h
   rw [if_pos e] at h
   have k:=Cp P R (gon st b).1 (by simp only [List.length_cons] at h; omega)
   have e2:tk st (b ::P) = ((tk (gon st b).1 P).1,(tk (gon st b).1 P).2 + 1):=by rw [tk,if_pos e]
   rw [e2]
   exact ⟨by simp only [List.length_cons]; omega,k.2⟩
theorem F4:∀ (R:List Int) (st:List It),st.all lz = true -> (tk st R).2 = R.length -> ∀ b ∈ R,tb b
 | [],_,_,_,b,hb=>absurd hb (by simp)
 | x ::R,st,h,k,b,hb=>by
   unfold tk at k
   have e:(gon st x).2 = true:=by
    cases q:(gon st x).2 with
    | true=>rfl
    | false=>rw [q] at k; simp at k
   rw [if_pos e] at k
   have g:=DA (st':=(gon st x).1) h (by rw [<- e])
   rcases List.mem_cons.mp hb with hb | hb
   . rw [hb]; exact g.2
   . exact F4 R _ g.1 (by simp only [List.length_cons] at k; omega) b hb
theorem Ik {st:List It} (h:st.all loose = true):st.all lz = true:=by
 rw [List.all_eq_true] at h ⊢
 intro it hi
 have:=h it hi
 cases it <;> simp_all [loose,lz]
theorem Goes.whole {a b:List It} {xs:List Int} (h:Goes a xs b):(tk a xs).2 = xs.length:=by
 have:=h []
 rw [List.append_nil] at this
 rw [this]; simp [tk]
theorem DM {P R:List Int} {st:List It} (h:Goes st0 (P ++ R) st):flt P = some P.length \/ (flt P = none /\ ∀ b ∈ R,tb b):=by
 obtain ⟨h1,h2⟩:=Cp P R st0 h.whole
 unfold flt
 rw [h1]
 by_cases q:(tk st0 P).1.all loose = true
 . right
   exact ⟨by rw [if_pos ⟨rfl,q⟩],F4 R _ (Ik q) h2⟩
 . left
   rw [if_neg (fun z=>q z.2)]
end PG
namespace L2.P
open PySem
theorem OV.get_nil (t:OV):t.get [] = some t:=by unfold OV.get; rfl
theorem OV.la (t u:OV):t.put [] u = u:=by unfold OV.put; rfl
theorem OV.qt {ts:List OV} {j:Nat} {u:OV} (h:ts[j]? = some u) (π:List Stp):(OV.ol ts).get (.ix j ::π) = u.get π:=by
 rw [OV.get]; simp [OV.at1,h]
theorem OV.yW {ts:List OV} {j:Nat} {u x:OV} (h:ts[j]? = some u) (π:List Stp):(OV.ol ts).put (.ix j ::π) x = .ol (ts.set j (u.put π x)):=by
 rw [OV.put]; simp [OV.at1,h,OV.jS]
theorem bF {ρ:ae} {i:Nat} {s:Sl} {t:OV} (h:ρ[i]? = some (some s)) (hs:slT s = some t):fO i ρ = some t:=by
 unfold fO; rw [h]; exact hs
theorem kl {ρ:ae} {i j:Nat} {ts:List OV} {mk:ae -> OE} {r:RV} {k:Int} (h:fO i ρ = some (.ol ts)) (hk:mk ρ = .ok r) (hr:r.pv = .int k) (hj:ixP ts.length k = some j):pIx i aH mk ρ = some [.ix j]:=by
 unfold pIx
 rw [h]
 simp [aH,OV.get_nil,hk,hr,hj]
theorem vY {ρ:ae} {i j j2:Nat} {ts us:List OV} {mp:MP} {mk:ae -> OE} {r:RV} {k:Int} (h:fO i ρ = some (.ol ts)) (hp:mp ρ = some [.ix j]) (hu:ts[j]? = some (.ol us)) (hk:mk ρ = .ok r) (hr:r.pv = .int k) (hj:ixP us.length k = some j2):pIx i mp mk ρ = some [.ix j,.ix j2]:=by
 unfold pIx
 rw [h,hp]
 simp [OV.qt hu,OV.get_nil,hk,hr,hj]
theorem subAt_one {ρ:ae} {i j:Nat} {ts:List OV} {mp:MP} {u:OV} (h:fO i ρ = some (.ol ts)) (hp:mp ρ = some [.ix j]) (hu:ts[j]? = some u):subAt i mp ρ = some u:=by
 unfold subAt; rw [h,hp]; simp [OV.qt hu,OV.get_nil]
theorem rN {ρ:ae} {i j j2:Nat} {ts us:List OV} {mp:MP} {u:OV} (h:fO i ρ = some (.ol ts)) (hp:mp ρ = some [.ix j,.ix j2]) (hv:ts[j]? = some (.ol us)) (hu:us[j2]? = some u):subAt i mp ρ = some u:=by
 unfold subAt; rw [h,hp]; simp [OV.qt hv,OV.qt hu,OV.get_nil]
theorem iW {ρ:ae} {i:Nat} {t:OV} (h:fO i ρ = some t):subAt i aH ρ = some t:=by
 unfold subAt; rw [h]; simp [aH,OV.get_nil]
theorem mY {ρ:ae} {i:Nat} {mp:MP} {x:PV} (h:subAt i mp ρ = some (.sh x)):cX i mp ρ = .ok (.sh x):=by unfold cX; rw [h]
theorem tH {ρ:ae} {i:Nat} {mp:MP} {ts:List OV} (h:subAt i mp ρ = some (.ol ts)):gd i mp ρ = .ok (.sh (.int ts.length)):=by unfold gd; rw [h]
theorem tO {ρ:ae} {i:Nat} {mp:MP} {ts:List OV} (h:subAt i mp ρ = some (.ol ts)):dB i mp ρ = .ok (!ts.isEmpty):=by unfold dB; rw [h]
theorem E7 {ρ:ae} {i:Nat} {io:Bool} {ts:List OV} {x:OV} (h:ρ[i]? = some (some (.tr io (.ol (ts ++ [x]))))):pS i aH ρ = .ok (ρ.set i (some (.tr io (.ol ts)))) (slO x):=by
 unfold pS
 rw [h]
 simp [aH,OV.get_nil,OV.la]
theorem sZ {ρ:ae} {i:Nat} {io:Bool} {ts:List OV} {x:OV} {md:ae -> OD} (h:ρ[i]? = some (some (.tr io (.ol ts)))) (hd:md ρ = .ok x) (hl:ts.length < lim):cb i aH md ρ = .nx (ρ.set i (some (.tr io (.ol (ts ++ [x]))))):=by
 unfold cb tY
 rw [h]
 simp only [aH,OV.get_nil,hd,hl,if_true,OV.la]
theorem AB {ρ:ae} {i j j2:Nat} {io:Bool} {ts us xs:List OV} {x:OV} {mp:MP} {md:ae -> OD} (h:ρ[i]? = some (some (.tr io (.ol ts)))) (hp:mp ρ = some [.ix j,.ix j2]) (hv:ts[j]? = some (.ol us)) (hu:us[j2]? = some (.ol xs)) (hd:md ρ = .ok x) (hl:xs.length < lim):
  cb i mp md ρ = .nx (ρ.set i (some (.tr io (.ol (ts.set j (.ol (us.set j2 (.ol (xs ++ [x]))))))))):=by
 unfold cb tY
 rw [h,hp]
 simp only [OV.qt hv,OV.qt hu,OV.get_nil,hd,hl,if_true,OV.yW hv,OV.yW hu,OV.la]
theorem tf {ρ:ae} {i j j2:Nat} {io:Bool} {ts us:List OV} {x:OV} {mp:MP} {mk:ae -> OE} {md:ae -> OD} {r:RV} {k:Int} (h:ρ[i]? = some (some (.tr io (.ol ts)))) (hp:mp ρ = some [.ix j]) (hv:ts[j]? = some (.ol us)) (hk:mk ρ = .ok r) (hr:r.pv = .int k) (hj:ixP us.length k = some j2) (hd:md ρ = .ok x):
  oV i mp mk md ρ = .nx (ρ.set i (some (.tr io (.ol (ts.set j (.ol (us.set j2 x))))))):=by
 unfold oV tY
 rw [hd]
 dsimp only
 rw [h,hp]
 simp only [OV.qt hv,OV.get_nil,hk,iL,hr,hj,OV.yW hv,OV.la]
theorem BV {ρ:ae} {i:Nat} {io:Bool} {ts:List OV} {ys:List PV} {me:ae -> OE} (h:ρ[i]? = some (some (.tr io (.ol ts)))) (he:me ρ = .ok (.fr ys) \/ me ρ = .ok (.sh (.lst ys))) (hl:ts.length + ys.length <= lim):dM i aH me ρ = .nx (ρ.set i (some (.tr io (.ol (ts ++ ys.map .sh))))):=by
 unfold dM tY
 rw [h]
 rcases he with he | he <;> simp only [aH,OV.get_nil,he,iL,hl,if_true,OV.la]
end L2.P
namespace L2.plainglass_k05_texts_taken
open PySem L2.P
noncomputable def n6 (c:String):Bool:=c == "Walk"
noncomputable def uB:ae -> OS:=
    (aJ (bb (eH (aq 0))
    (bc (mOp mI (aq 0) (mOp cA (aq 1) (mUn ym (aq 0)))))
    aR)
    (bc (mC (.int 0))))
noncomputable def iT:List PV -> OE:=fnP 2 2 uB
noncomputable def sE:ae -> OS:=
    (bc (mOp cA (mOp fo (mOp yi (mOp dE (aq 2) (mC (.int 64))) (mC (.int 69621))) (aq 2)) (mC (.int 4294967231))))
noncomputable def sA:ae -> OS:=
    (aJ (bp 2 (mOp cA (mOp yi (aq 2) (mC (.int 48271))) (mC (.int 4294967279))))
    sE)
noncomputable def u7:ae -> OS:=
    (aJ (bp 2 (mOp cA (mOp fo (bI iT (ak (aq 0) (ak (aq 1) aM))) (mOp yi (mC (.int 104729)) (mOp fo (aq 1) (mC (.int 1))))) (mC (.int 4294967291))))
    sA)
noncomputable def eG:List PV -> OE:=fnP 2 3 u7
noncomputable def jK:ae -> OS:=
    (iD 4)
noncomputable def lL:ae -> OS:=
    (aJ (bb (dB 2 aH)
    (aJ (cb 2 (pIx 2 (pIx 2 aH (mUn gU (mC (.int 1)))) (mC (.int 1))) (mD (gV (aD (mOp gEq (cX 2 (pIx 2 (pIx 2 aH (mUn gU (mC (.int 1)))) (mC (.int 0)))) (mC (.str "row")))) (aq 4) (gm (ak (cX 3 (pIx 3 aH (mC (.int 3)))) (ak (aq 4) aM))))))
    (bb (aD (mOp gEq (cX 2 (pIx 2 (pIx 2 aH (mUn gU (mC (.int 1)))) (mC (.int 0)))) (mC (.str "fields"))))
    (oV 1 (pIx 1 aH (mOp uM (cX 3 (pIx 3 aH (mC (.int 2)))) (mC (.int 1)))) (mC (.int 3)) (mD (gd 1 aH)))
    aR))
    aR)
    jK)
noncomputable def jL:ae -> OS:=
    (aJ (bp 4 (gm (ak (cX 3 (pIx 3 aH (mC (.int 0)))) (ak (mUn lN (cX 3 (pIx 3 aH (mC (.int 1))))) aM))))
    lL)
noncomputable def pP:ae -> OS:=
    (aJ (oV 1 (pIx 1 aH (cX 3 (pIx 3 aH (mC (.int 2))))) (mC (.int 3)) (mD (gd 1 aH)))
    jL)
noncomputable def pU:ae -> OS:=
    (aJ (oV 1 (pIx 1 aH (cX 3 (pIx 3 aH (mC (.int 2))))) (mC (.int 2)) (mD (gd 0 aH)))
    pP)
noncomputable def p8:ae -> OS:=
    (aJ (cb 0 aH (mD (gV (aD (mOp gEq (cX 3 (pIx 3 aH (mC (.int 0)))) (mC (.str "row")))) (mC (.int 93)) (mC (.int 125)))))
    pU)
noncomputable def oO:ae -> OS:=
    (aJ (jb 3 (pS 2 aH))
    p8)
noncomputable def cT:List Sl -> OI:=fnI 3 5 oO
noncomputable def jQ:ae -> OE:=
    (mOp mI (cf (ak (mC (.int 32)) (ak (mC (.int 9)) (ak (mC (.int 10)) (ak (mC (.int 13)) aM))))) (mOp cA (mOp dE (mOp dE (aq 0) (mC (.int 4))) (mOp fo (mC (.int 1)) (mOp yi (mC (.int 3)) (aq 1)))) (mC (.int 4))))
noncomputable def o5:ae -> OS:=
    (aJ (bb (aD (mOp gGt (mOp cA (aq 0) (mC (.int 4))) (mC (.int 0))))
    (bc (cf aM))
    aR)
    (bc (wm (mOp fo (mOp cA (mOp dE (aq 0) (mC (.int 64))) (mC (.int 3))) (mC (.int 1))) [0] jQ)))
noncomputable def cC:List PV -> OE:=fnP 1 1 o5
noncomputable def fi:ae -> OS:=
    (bc (mOp fo (mC (.int 65536)) (mOp cA (aq 2) (mC (.int 1048576)))))
noncomputable def fb:ae -> OS:=
    (aJ (bb (aD (mOp gEq (aq 1) (mC (.int 6))))
    (bc (mOp fo (mC (.int 57344)) (mOp cA (aq 2) (mC (.int 8192)))))
    aR)
    fi)
noncomputable def fe:ae -> OS:=
    (aJ (bb (aD (mOp gEq (aq 1) (mC (.int 5))))
    (bc (mOp fo (mC (.int 2048)) (mOp cA (aq 2) (mC (.int 53248)))))
    aR)
    fb)
noncomputable def fg:ae -> OS:=
    (aJ (bb (aD (mOp gEq (aq 1) (mC (.int 4))))
    (bc (mOp fo (mC (.int 128)) (mOp cA (aq 2) (mC (.int 1920)))))
    aR)
    fe)
noncomputable def fj:ae -> OS:=
    (aJ (bb (aD (mOp gLt (aq 1) (mC (.int 4))))
    (bc (mOp mI (cf (ak (mC (.int 34)) (ak (mC (.int 92)) (ak (mC (.int 47)) (ak (mC (.int 8)) (ak (mC (.int 12)) (ak (mC (.int 10)) (ak (mC (.int 13)) (ak (mC (.int 9)) (ak (mC (.int 0)) (ak (mC (.int 31)) (ak (mC (.int 127)) aM)))))))))))) (mOp cA (aq 2) (mC (.int 11)))))
    aR)
    fg)
noncomputable def fm:ae -> OS:=
    (aJ (bb (aD (mOp gLt (aq 1) (mC (.int 2))))
    (bc (mOp fo (mC (.int 32)) (mOp cA (aq 2) (mC (.int 95)))))
    aR)
    fj)
noncomputable def fk:ae -> OS:=
    (aJ (bp 2 (mOp dE (aq 0) (mC (.int 8))))
    fm)
noncomputable def gD:ae -> OS:=
    (aJ (bp 1 (mOp cA (aq 0) (mC (.int 8))))
    fk)
noncomputable def dG:List PV -> OE:=fnP 1 3 gD
noncomputable def kP:ae -> OE:=
    (bI dG (ak (bI eG (ak (aq 0) (ak (mOp fo (mOp fo (aq 1) (mC (.int 1))) (aq 2)) aM))) aM))
noncomputable def kK:ae -> OS:=
    (bc (wm (aq 3) [0,1] kP))
noncomputable def kH:ae -> OS:=
    (aJ (bb (aD (mOp gEq (mOp cA (mOp dE (aq 2) (mC (.int 5))) (mC (.int 8))) (mC (.int 3))))
    (bp 3 (mOp cA (mOp dE (aq 2) (mC (.int 40))) (mC (.int 14))))
    aR)
    kK)
noncomputable def kJ:ae -> OS:=
    (aJ (bp 3 (mOp cA (aq 2) (mC (.int 5))))
    kH)
noncomputable def nF:ae -> OS:=
    (aJ (bp 2 (bI eG (ak (aq 0) (ak (aq 1) aM))))
    kJ)
noncomputable def eC:List PV -> OE:=fnP 2 4 nF
noncomputable def qg:ae -> OS:=
    (aJ (bb (aD (mOp gEq (mOp cA (aq 1) (mC (.int 2))) (mC (.int 0))))
    (bc (cf (ak (mOp fo (mC (.int 97)) (mOp cA (mOp dE (aq 1) (mC (.int 2))) (mC (.int 3)))) aM)))
    aR)
    (bc (bI eC (ak (aq 0) (ak (mOp fo (mC (.int 11)) (mOp cA (mOp dE (aq 1) (mC (.int 2))) (mC (.int 37)))) aM)))))
noncomputable def gR:List PV -> OE:=fnP 2 2 qg
noncomputable def iw:ae -> OS:=
    (aJ (bp 2 (mOp lQ (cf (ak (mOp fo (mC (.int 128)) (mOp cA (aq 0) (mC (.int 64)))) aM)) (aq 2)))
    (bp 0 (mOp dE (aq 0) (mC (.int 64)))))
noncomputable def iu:ae -> OS:=
    (bc (mOp lQ (cf (ak (mOp fo (mOp mI (cf (ak (mC (.int 192)) (ak (mC (.int 224)) (ak (mC (.int 240)) aM)))) (mOp uM (aq 1) (mC (.int 1)))) (aq 0)) aM)) (aq 2)))
noncomputable def ij:ae -> OS:=
    (aJ (so 3 (aq 1)
    iw)
    iu)
noncomputable def iA:ae -> OS:=
    (aJ (bp 2 (cf aM))
    ij)
noncomputable def iq:ae -> OS:=
    (aJ (bp 1 (mOp fo (mOp fo (mC (.int 1)) (mUn yx (mOp gGe (aq 0) (mC (.int 2048))))) (mUn yx (mOp gGe (aq 0) (mC (.int 65536))))))
    iA)
noncomputable def jX:ae -> OS:=
    (aJ (bb (aD (mOp gLt (aq 0) (mC (.int 128))))
    (bc (cf (ak (aq 0) aM)))
    aR)
    iq)
noncomputable def eD:List PV -> OE:=fnP 1 4 jX
noncomputable def lg:ae -> OS:=
    (aJ (bp 4 (mOp cA (aq 0) (mC (.int 16))))
    (aJ (bb (aD (mOp gLt (aq 4) (mC (.int 10))))
    (bp 2 (mOp lQ (cf (ak (mOp fo (mC (.int 48)) (aq 4)) aM)) (aq 2)))
    (bp 2 (mOp lQ (cf (ak (mOp fo (gV (eH (aq 1)) (mC (.int 55)) (mC (.int 87))) (aq 4)) aM)) (aq 2))))
    (bp 0 (mOp dE (aq 0) (mC (.int 16))))))
noncomputable def sy:ae -> OS:=
    (bc (mOp lQ (cf (ak (mC (.int 92)) (ak (mC (.int 117)) aM))) (aq 2)))
noncomputable def sd:ae -> OS:=
    (aJ (so 3 (mC (.int 4))
    lg)
    sy)
noncomputable def vm:ae -> OS:=
    (aJ (bp 2 (cf aM))
    sd)
noncomputable def g8:List PV -> OE:=fnP 2 5 vm
noncomputable def qD:ae -> OS:=
    (bc (mOp lQ (bI g8 (ak (mOp fo (mC (.int 55296)) (mOp dE (aq 4) (mC (.int 1024)))) (ak (mOp gEq (aq 3) (mC (.int 1))) aM))) (bI g8 (ak (mOp fo (mC (.int 56320)) (mOp cA (aq 4) (mC (.int 1024)))) (ak (mOp gEq (aq 3) (mC (.int 0))) aM)))))
noncomputable def qZ:ae -> OS:=
    (aJ (bp 4 (mOp uM (aq 0) (mC (.int 65536))))
    qD)
noncomputable def km:ae -> OS:=
    (aJ (bb (aD (mOp gLt (aq 0) (mC (.int 65536))))
    (bc (bI g8 (ak (aq 0) (ak (mOp gEq (aq 3) (mC (.int 1))) aM))))
    aR)
    qZ)
noncomputable def eY:ae -> OS:=
    (aJ (bb (fF (aD (mOp gGt (aq 3) (mC (.int 1)))) (fF (aD (mOp gGe (aq 0) (mC (.int 32)))) (fF (aD (mOp gNe (aq 0) (mC (.int 34)))) (aD (mOp gNe (aq 0) (mC (.int 92)))))))
    (bc (bI eD (ak (aq 0) aM)))
    aR)
    km)
noncomputable def mL:ae -> OS:=
    (aJ (bb (fF (aD (mOp gEq (aq 3) (mC (.int 0)))) (aD (xt false (aq 0) 2 aH)))
    (bc (cf (ak (mC (.int 92)) (ak (Au 2 aH (aq 0)) aM))))
    aR)
    eY)
noncomputable def jf:ae -> OS:=
    (aJ (bp 3 (mOp cA (aq 1) (mC (.int 5))))
    mL)
noncomputable def uD:ae -> OS:=
    (aJ (my 2 (Ig [(34,34),(92,92),(47,47),(8,98),(12,102),(10,110),(13,114),(9,116)]))
    jf)
noncomputable def iO:List PV -> OE:=fnP 2 5 uD
noncomputable def kn:ae -> OS:=
    (aJ (bp 2 (mOp lQ (aq 2) (bI iO (ak (aq 4) (ak (mOp fo (mOp dE (aq 1) (mOp fo (mC (.int 1)) (mOp cA (aq 3) (mC (.int 7))))) (aq 3)) aM)))))
    (bp 3 (mOp fo (aq 3) (mC (.int 1)))))
noncomputable def qC:ae -> OS:=
    (bc (mOp lQ (aq 2) (cf (ak (mC (.int 34)) aM))))
noncomputable def qI:ae -> OS:=
    (aJ (sq 4 (aq 0)
    kn)
    qC)
noncomputable def qL:ae -> OS:=
    (aJ (bp 3 (mC (.int 0)))
    qI)
noncomputable def tP:ae -> OS:=
    (aJ (bp 2 (cf (ak (mC (.int 34)) aM)))
    qL)
noncomputable def fP:List PV -> OE:=fnP 2 5 tP
noncomputable def lT:ae -> OS:=
    (iD 5)
noncomputable def lE:ae -> OS:=
    (aJ (bb (fF (dB 3 aH) (aD (mOp gEq (cX 3 (pIx 3 (pIx 3 aH (mUn gU (mC (.int 1)))) (mC (.int 0)))) (mC (.str "fields")))))
    (aJ (bp 6 (bI gR (ak (aq 0) (ak (mOp dE (aq 4) (mC (.int 13))) aM))))
    (aJ (bp 5 (mUn lN (aq 6)))
    (aJ (bp 7 (gd 1 aH))
    (aJ (i9 6 (dM 1 aH (bI fP (ak (aq 6) (ak (mOp dE (aq 4) (mC (.int 17))) aM)))))
    (aJ (cb 2 aH (mD (cf (ak (mC (.str "name")) (ak (aq 7) (ak (gd 1 aH) (ak (mC (.int 0)) aM)))))))
    (aJ (dM 1 aH (bI cC (ak (mOp dE (aq 4) (mC (.int 19))) aM)))
    (aJ (cb 1 aH (mD (mC (.int 58))))
    (dM 1 aH (bI cC (ak (mOp dE (aq 4) (mC (.int 23))) aM))))))))))
    aR)
    lT)
noncomputable def pK:ae -> OS:=
    (aJ (bb (fF (dB 3 aH) (eH (cX 3 (pIx 3 (pIx 3 aH (mUn gU (mC (.int 1)))) (mC (.int 1))))))
    (aJ (cb 1 aH (mD (mC (.int 44))))
    (dM 1 aH (bI cC (ak (mOp dE (aq 4) (mC (.int 11))) aM))))
    aR)
    lE)
noncomputable def pQ:ae -> OS:=
    (aJ (bp 5 (gm aM))
    pK)
noncomputable def lr:ae -> OS:=
    (aJ (dM 1 aH (bI cC (ak (mOp dE (aq 4) (mC (.int 3))) aM)))
    pQ)
noncomputable def fK:List Sl -> OI:=fnI 5 8 lr
noncomputable def ir:ae -> OT:=
    (aD (mOp gEq (mOp cA (aq 0) (mC (.int 10))) (mC (.int 0))))
noncomputable def jJ:ae -> OS:=
    (aJ (bp 0 (mOp dE (aq 0) (mC (.int 10))))
    (bp 1 (mOp fo (aq 1) (mC (.int 1)))))
noncomputable def pH:ae -> OS:=
    (bc (gm (ak (aq 0) (ak (aq 1) aM))))
noncomputable def pW:ae -> OS:=
    (aJ (fS ir
    jJ fuel)
    pH)
noncomputable def o9:ae -> OS:=
    (aJ (bb (aD (mOp gEq (aq 0) (mC (.int 0))))
    (bc (gm (ak (mC (.int 0)) (ak (mC (.int 0)) aM))))
    aR)
    pW)
noncomputable def eX:List PV -> OE:=fnP 2 2 o9
noncomputable def gJ:ae -> OE:=
    (mUn AD (aq 0))
noncomputable def ja:ae -> OE:=
    (mOp fo (mC (.int 48)) (aq 0))
noncomputable def fA:ae -> OS:=
    (bp 4 (mOp fo (mOp yi (aq 4) (mC (.int 10))) (aq 5)))
noncomputable def gC:ae -> OS:=
    (aJ (eN 3 (mOp fo (mC (.int 48)) (aq 5)))
    (aJ (bp 4 (mOp fo (mOp yi (aq 4) (mC (.int 10))) (aq 5)))
    (bp 6 (mOp uM (aq 6) (mC (.int 1))))))
noncomputable def fz:ae -> OE:=
    (mUn CD (aq 0))
noncomputable def j0:ae -> OS:=
    (i9 3 (bc (gm (ak (aq 3) (ak (bI eX (ak (aq 4) (ak (aq 6) aM))) aM)))))
noncomputable def oA:ae -> OS:=
    (aJ (bb (eH (aq 1))
    (bp 4 (mUn gU (aq 4)))
    aR)
    j0)
noncomputable def oF:ae -> OS:=
    (aJ (bb (aD (mOp gEq (mOp cA (mOp dE (aq 0) (mC (.int 31))) (mC (.int 3))) (mC (.int 1))))
    (aJ (bp 7 (mOp cA (mOp dE (aq 0) (mC (.int 37))) (mC (.int 30))))
    (aJ (eN 3 (mOp mI (cf (ak (mC (.int 101)) (ak (mC (.int 69)) aM))) (mOp cA (mOp dE (aq 0) (mC (.int 41))) (mC (.int 2)))))
    (aJ (bp 8 (mOp gEq (mOp cA (mOp dE (aq 0) (mC (.int 43))) (mC (.int 3))) (mC (.int 1))))
    (aJ (bb (eH (aq 8))
    (eN 3 (mC (.int 45)))
    (bb (aD (mOp gEq (mOp cA (mOp dE (aq 0) (mC (.int 43))) (mC (.int 3))) (mC (.int 2))))
    (eN 3 (mC (.int 43)))
    aR))
    (aJ (bb (aD (mOp gEq (mOp cA (mOp dE (aq 0) (mC (.int 47))) (mC (.int 4))) (mC (.int 1))))
    (eN 3 (mC (.int 48)))
    aR)
    (aJ (bp 3 (mOp lQ (aq 3) (oK (mUn oy (aq 7)) [] fz)))
    (bp 6 (mOp fo (aq 6) (gV (eH (aq 8)) (mUn gU (aq 7)) (aq 7))))))))))
    aR)
    oA)
noncomputable def ox:ae -> OS:=
    (aJ (bb (aD (mOp gEq (mOp cA (mOp dE (aq 0) (mC (.int 17))) (mC (.int 3))) (mC (.int 1))))
    (aJ (eN 3 (mC (.int 46)))
    (sq 5 (A2 (cf (ak (mOp cA (mOp dE (aq 0) (mC (.int 19))) (mC (.int 10))) (ak (mOp cA (mOp dE (aq 0) (mC (.int 23))) (mC (.int 4))) (ak (mC (.int 0)) aM)))) (mC .non) (u4 (mOp fo (mC (.int 1)) (mOp cA (mOp dE (aq 0) (mC (.int 29))) (mC (.int 3))))))
    gC))
    aR)
    oF)
noncomputable def n9:ae -> OS:=
    (aJ (bp 6 (mC (.int 0)))
    ox)
noncomputable def oa:ae -> OS:=
    (aJ (i9 2 (sq 5 (aq 2)
    fA))
    n9)
noncomputable def oe:ae -> OS:=
    (aJ (bp 4 (mC (.int 0)))
    oa)
noncomputable def oR:ae -> OS:=
    (aJ (bp 3 (mOp lQ (aq 3) (rj (aq 2) [] ja)))
    oe)
noncomputable def oQ:ae -> OS:=
    (aJ (bp 3 (gV (eH (aq 1)) (cf (ak (mC (.int 45)) aM)) (cf aM)))
    oR)
noncomputable def oY:ae -> OS:=
    (aJ (bp 2 (oK (mUn oy (mOp cA (mOp dE (aq 0) (mC (.int 3))) (mC (.int 100000)))) [] gJ))
    oQ)
noncomputable def qX:ae -> OS:=
    (aJ (bp 1 (mOp gEq (mOp cA (aq 0) (mC (.int 3))) (mC (.int 0))))
    oY)
noncomputable def fV:List PV -> OE:=fnP 1 9 qX
noncomputable def ki:ae -> OS:=
    (bc (gm (ak (mC (.str "number")) (ak (mOp ik (aq 4) (mC (.int 0))) (ak (gm (ak (mC (.str "number")) (ak (mOp ik (mOp ik (aq 4) (mC (.int 1))) (mC (.int 0))) (ak (mOp ik (mOp ik (aq 4) (mC (.int 1))) (mC (.int 1))) aM)))) aM)))))
noncomputable def kg:ae -> OS:=
    (aJ (bp 4 (bI fV (ak (mOp dE (aq 1) (mC (.int 7))) aM)))
    ki)
noncomputable def ia:ae -> OS:=
    (aJ (bb (aD (mOp gEq (aq 2) (mC (.int 3))))
    (aJ (bp 3 (bI eC (ak (aq 0) (ak (mOp fo (mC (.int 7)) (mOp cA (aq 1) (mC (.int 41)))) aM))))
    (i9 3 (bc (gm (ak (mC (.str "text")) (ak (bI fP (ak (aq 3) (ak (mOp dE (aq 1) (mC (.int 30))) aM))) (ak (gm (ak (mC (.str "text")) (ak (mUn lN (aq 3)) aM))) aM)))))))
    aR)
    kg)
noncomputable def ft:ae -> OS:=
    (aJ (bb (aD (mOp gEq (aq 2) (mC (.int 2))))
    (bc (gm (ak (mC (.str "false")) (ak (cf (ak (mC (.int 102)) (ak (mC (.int 97)) (ak (mC (.int 108)) (ak (mC (.int 115)) (ak (mC (.int 101)) aM)))))) (ak (mC (.bl false)) aM)))))
    aR)
    ia)
noncomputable def eB:ae -> OS:=
    (aJ (bb (aD (mOp gEq (aq 2) (mC (.int 1))))
    (bc (gm (ak (mC (.str "true")) (ak (cf (ak (mC (.int 116)) (ak (mC (.int 114)) (ak (mC (.int 117)) (ak (mC (.int 101)) aM))))) (ak (mC (.bl true)) aM)))))
    aR)
    ft)
noncomputable def dD:ae -> OS:=
    (aJ (bb (aD (mOp gEq (aq 2) (mC (.int 0))))
    (bc (gm (ak (mC (.str "null")) (ak (cf (ak (mC (.int 110)) (ak (mC (.int 117)) (ak (mC (.int 108)) (ak (mC (.int 108)) aM))))) (ak (mC .non) aM)))))
    aR)
    eB)
noncomputable def ee:ae -> OS:=
    (aJ (bp 2 (mOp cA (mOp dE (aq 1) (mC (.int 5))) (mC (.int 6))))
    dD)
noncomputable def bH:List PV -> OE:=fnP 2 5 ee
noncomputable def il:ae -> OS:=
    (aJ (bp 7 (bI eG (ak (aq 0) (ak (aq 6) aM))))
    (bb (fF (dB 4 aH) (aD (mOp gEq (mOp cA (aq 7) (mC (.int 5))) (mC (.int 1)))))
    (aJ (dM 2 aH (bI cC (ak (mOp dE (aq 7) (mC (.int 3))) aM)))
    (jb 5 (i0 cT [.t 2 aH,.t 3 aH,.t 4 aH])))
    (bb (rB (dB 4 aH) (aD (mOp gEq (aq 6) (mC (.int 0)))))
    (aJ (jb 8 (i0 fK [.e (aq 0),.t 2 aH,.t 3 aH,.t 4 aH,.e (aq 7)]))
    (aJ (bp 9 (gd 2 aH))
    (bb (rB (aD (mOp gGt (mOp cA (aq 7) (mC (.int 5))) (mC (.int 2)))) (fF (aD (mOp gEq (aq 6) (mC (.int 0)))) (aD (mOp gGt (mOp cA (aq 7) (mC (.int 9))) (mC (.int 0))))))
    (aJ (bp 10 (mOp mI (cf (ak (mC (.str "row")) (ak (mC (.str "fields")) aM))) (mOp cA (mOp dE (aq 7) (mC (.int 5))) (mC (.int 2)))))
    (aJ (cb 2 aH (mD (gV (aD (mOp gEq (aq 10) (mC (.str "row")))) (mC (.int 91)) (mC (.int 123)))))
    (aJ (cb 4 aH (mDl (mDc (mD (aq 10)) (mDc (mD (cf aM)) (mDc (mD (gd 3 aH)) (mDc (mD (aq 8)) mDn))))))
    (cb 3 aH (mD (cf (ak (aq 10) (ak (aq 9) (ak (mC (.int 0)) (ak (mC (.int 0)) aM))))))))))
    (aJ (bp 11 (bI bH (ak (aq 0) (ak (aq 7) aM))))
    (aJ (dM 2 aH (mOp ik (aq 11) (mC (.int 1))))
    (aJ (cb 3 aH (mD (cf (ak (mOp ik (aq 11) (mC (.int 0))) (ak (aq 9) (ak (gd 2 aH) (ak (mOp fo (gd 3 aH) (mC (.int 1))) aM)))))))
    (aJ (bp 5 (mOp ik (aq 11) (mC (.int 2))))
    (bb (fF (dB 4 aH) (aD (mOp gEq (cX 4 (pIx 4 (pIx 4 aH (mUn gU (mC (.int 1)))) (mC (.int 0)))) (mC (.str "fields")))))
    (aJ (oV 3 (pIx 3 aH (mUn gU (mC (.int 2)))) (mC (.int 3)) (mD (gd 3 aH)))
    (cb 4 (pIx 4 (pIx 4 aH (mUn gU (mC (.int 1)))) (mC (.int 1))) (mD (gm (ak (aq 8) (ak (aq 5) aM))))))
    (bb (dB 4 aH)
    (cb 4 (pIx 4 (pIx 4 aH (mUn gU (mC (.int 1)))) (mC (.int 1))) (mD (aq 5)))
    aR)))))))))
    aR)))
noncomputable def ig:ae -> OT:=
    (dB 4 aH)
noncomputable def jH:ae -> OS:=
    (jb 5 (i0 cT [.t 2 aH,.t 3 aH,.t 4 aH]))
noncomputable def lW:ae -> OE:=
    (mUn lN (aq 0))
noncomputable def pI:ae -> OS:=
    (n8 3 (n8 2 (bc (gm (ak (aq 2) (ak (rj (aq 3) [] lW) (ak (aq 5) aM)))))))
noncomputable def lK:ae -> OS:=
    (aJ (dM 2 aH (bI cC (ak (bI eG (ak (aq 0) (ak (mC (.int 61)) aM))) aM)))
    pI)
noncomputable def pY:ae -> OS:=
    (aJ (fS ig
    jH fuel)
    lK)
noncomputable def lZ:ae -> OS:=
    (aJ (so 6 (aq 1)
    il)
    pY)
noncomputable def pJ:ae -> OS:=
    (aJ (bp 5 (mC .non))
    lZ)
noncomputable def pX:ae -> OS:=
    (aJ (my 4 (mD (cf aM)))
    pJ)
noncomputable def pO:ae -> OS:=
    (aJ (my 3 (mD (cf aM)))
    pX)
noncomputable def og:ae -> OS:=
    (aJ (my 2 (mD (cf aM)))
    pO)
noncomputable def gA:List PV -> OE:=fnP 2 12 og
noncomputable def sR:ae -> OS:=
    (Cg 0 aH "coming" n6 (mD (cf (ak (mC (.str "white")) (ak (mC (.str "value")) (ak (mC (.str "white")) aM))))))
noncomputable def dc:List Sl -> OI:=fnI 1 1 sR
noncomputable def jU:ae -> OS:=
    (bc (mUn (gK [(110,.tup ([117,108,108].map .int)),(116,.tup ([114,117,101].map .int)),(102,.tup ([97,108,115,101].map .int))]) (aq 0)))
noncomputable def eW:List PV -> OE:=fnP 1 1 jU
noncomputable def se:ae -> OS:=
    (bc (lJ gLe gLe (mC (.int 48)) (aq 0) (mC (.int 57))))
noncomputable def eU:List PV -> OE:=fnP 1 1 se
noncomputable def j4:ae -> OS:=
    (bc (mC .non))
noncomputable def kb:ae -> OS:=
    (aJ (bb (eH (bI eU (ak (aq 0) aM)))
    (bc (cf (ak (mC (.str "figures")) (ak (mC (.str "fraction")) (ak (mC (.str "exponent")) aM)))))
    aR)
    j4)
noncomputable def lP:ae -> OS:=
    (aJ (bb (aD (mOp gEq (aq 0) (mC (.int 48))))
    (bc (cf (ak (mC (.str "fraction")) (ak (mC (.str "exponent")) aM))))
    aR)
    kb)
noncomputable def dR:List PV -> OE:=fnP 1 1 lP
noncomputable def cM:ae -> OE:=
    (gm (ak (aq 0) (ak (aq 0) aM)))
noncomputable def cO:ae -> OS:=
    (bc (bI dR (ak (aq 0) aM)))
noncomputable def cL:ae -> OS:=
    (aJ (bb (aD (mOp tJ (aq 1) (mC .non)))
    (bc (tD (aq 1) [] cM))
    aR)
    cO)
noncomputable def cQ:ae -> OS:=
    (aJ (bp 1 (bI eW (ak (aq 0) aM)))
    cL)
noncomputable def cP:ae -> OS:=
    (aJ (bb (aD (mOp gEq (aq 0) (mC (.int 45))))
    (bc (cf (ak (mC (.str "lead")) aM)))
    aR)
    cQ)
noncomputable def cK:ae -> OS:=
    (aJ (bb (aD (mOp gEq (aq 0) (mC (.int 34))))
    (bc (cf (ak (mC (.str "text")) aM)))
    aR)
    cP)
noncomputable def cJ:ae -> OS:=
    (aJ (bb (aD (mOp gEq (aq 0) (mC (.int 123))))
    (bc (cf (ak (mC (.str "white")) (ak (mC (.str "fields")) aM))))
    aR)
    cK)
noncomputable def dC:ae -> OS:=
    (aJ (bb (aD (mOp gEq (aq 0) (mC (.int 91))))
    (bc (cf (ak (mC (.str "white")) (ak (mC (.str "row")) aM))))
    aR)
    cJ)
noncomputable def bK:List PV -> OE:=fnP 1 2 dC
noncomputable def bC:ae -> OS:=
    (bc (gV (aD (mOp gIn (aq 1) (gm (ak (mC (.int 43)) (ak (mC (.int 45)) aM))))) (cf aM) (mC .non)))
noncomputable def bu:ae -> OS:=
    (aJ (bb (aD (mOp gEq (aq 0) (mC (.str "exponent"))))
    (bc (gV (aD (mOp gIn (aq 1) (gm (ak (mC (.int 101)) (ak (mC (.int 69)) aM))))) (cf (ak (mC (.str "sign")) (ak (gm (ak (mC (.int 48)) (ak (mC (.int 57)) aM))) (ak (mC (.str "figures")) aM)))) (mC .non)))
    aR)
    bC)
noncomputable def bx:ae -> OS:=
    (aJ (bb (aD (mOp gEq (aq 0) (mC (.str "fraction"))))
    (bc (gV (aD (mOp gEq (aq 1) (mC (.int 46)))) (cf (ak (gm (ak (mC (.int 48)) (ak (mC (.int 57)) aM))) (ak (mC (.str "figures")) aM))) (mC .non)))
    aR)
    bu)
noncomputable def bB:ae -> OS:=
    (aJ (bb (aD (mOp gEq (aq 0) (mC (.str "figures"))))
    (bc (gV (eH (bI eU (ak (aq 1) aM))) (cf (ak (mC (.str "figures")) aM)) (mC .non)))
    aR)
    bx)
noncomputable def bV:ae -> OS:=
    (aJ (bb (aD (mOp gEq (aq 0) (mC (.str "lead"))))
    (bc (bI dR (ak (aq 1) aM)))
    aR)
    bB)
noncomputable def aX:List PV -> OE:=fnP 2 2 bV
noncomputable def pM:ae -> OS:=
    (bc (mC .non))
noncomputable def p6:ae -> OS:=
    (aJ (bb (aD (lJ gLe gLe (mC (.int 97)) (aq 0) (mC (.int 102))))
    (bc (mOp uM (aq 0) (mC (.int 87))))
    aR)
    pM)
noncomputable def pZ:ae -> OS:=
    (aJ (bb (aD (lJ gLe gLe (mC (.int 65)) (aq 0) (mC (.int 70))))
    (bc (mOp uM (aq 0) (mC (.int 55))))
    aR)
    p6)
noncomputable def si:ae -> OS:=
    (aJ (bb (eH (bI eU (ak (aq 0) aM)))
    (bc (mOp uM (aq 0) (mC (.int 48))))
    aR)
    pZ)
noncomputable def fH:List PV -> OE:=fnP 1 1 si
noncomputable def jc:ae -> OS:=
    (bc (mC .non))
noncomputable def jj:ae -> OS:=
    (aJ (bb (aD (mOp gLt (aq 0) (mC (.int 12))))
    (aJ (bp 1 (cf (ak (gm (ak (mC (.int 92)) (ak (mC (.int 92)) aM))) (ak (gm (ak (mC (.int 117)) (ak (mC (.int 117)) aM))) (ak (mC (.str "hex d")) (ak (mC (.str "hex c to f")) (ak (mC (.str "hex")) (ak (mC (.str "hex")) aM))))))))
    (bc (mOp lQ (cf (ak (mC (.str "hex")) (ak (mC (.str "hex")) aM))) (aq 1))))
    aR)
    jc)
noncomputable def j9:ae -> OS:=
    (aJ (bb (aD (mOp gLt (aq 0) (mC (.int 8))))
    (bc (cf (ak (mC (.str "hex")) (ak (mC (.str "hex")) aM))))
    aR)
    jj)
noncomputable def dF:List PV -> OE:=fnP 1 2 j9
noncomputable def ic:ae -> OS:=
    (bc (mC (.tup ([128,191].map .int))))
noncomputable def hX:ae -> OS:=
    (aJ (bb (aD (mOp gEq (aq 0) (mC (.int 237))))
    (bc (gm (ak (mC (.int 128)) (ak (mC (.int 159)) aM))))
    aR)
    ic)
noncomputable def ji:ae -> OS:=
    (aJ (bb (aD (mOp gEq (aq 0) (mC (.int 224))))
    (bc (gm (ak (mC (.int 160)) (ak (mC (.int 191)) aM))))
    aR)
    hX)
noncomputable def cU:List PV -> OE:=fnP 1 1 ji
noncomputable def iQ:ae -> OS:=
    (bc (mC (.tup ([128,191].map .int))))
noncomputable def iG:ae -> OS:=
    (aJ (bb (aD (mOp gEq (aq 0) (mC (.int 244))))
    (bc (gm (ak (mC (.int 128)) (ak (mC (.int 143)) aM))))
    aR)
    iQ)
noncomputable def jE:ae -> OS:=
    (aJ (bb (aD (mOp gEq (aq 0) (mC (.int 240))))
    (bc (gm (ak (mC (.int 144)) (ak (mC (.int 191)) aM))))
    aR)
    iG)
noncomputable def dm:List PV -> OE:=fnP 1 1 jE
noncomputable def kB:ae -> OS:=
    (bc (mC .non))
noncomputable def ku:ae -> OS:=
    (aJ (bb (aD (lJ gLe gLt (mC (.int 240)) (aq 0) (mC (.int 245))))
    (bc (cf (ak (bI dm (ak (aq 0) aM)) (ak (mC (.tup ([128,191].map .int))) (ak (mC (.tup ([128,191].map .int))) aM)))))
    aR)
    kB)
noncomputable def kA:ae -> OS:=
    (aJ (bb (aD (lJ gLe gLt (mC (.int 224)) (aq 0) (mC (.int 240))))
    (bc (cf (ak (bI cU (ak (aq 0) aM)) (ak (mC (.tup ([128,191].map .int))) aM))))
    aR)
    ku)
noncomputable def kr:ae -> OS:=
    (aJ (bb (aD (lJ gLe gLt (mC (.int 194)) (aq 0) (mC (.int 224))))
    (bc (cf (ak (mC (.tup ([128,191].map .int))) aM)))
    aR)
    kA)
noncomputable def pk:ae -> OS:=
    (aJ (bb (aD (lJ gLe gLt (mC (.int 0)) (aq 0) (mC (.int 128))))
    (bc (cf aM))
    aR)
    kr)
noncomputable def iZ:List PV -> OE:=fnP 1 1 pk
noncomputable def dX:ae -> OS:=
    (bc (mOp lQ (aq 1) (cf (ak (mC (.str "text")) aM))))
noncomputable def dU:ae -> OS:=
    (aJ (bb (rB (aD (mOp gLt (aq 0) (mC (.int 32)))) (aD (mOp sO (aq 1) (mC .non))))
    (bc (mC .non))
    aR)
    dX)
noncomputable def dS:ae -> OS:=
    (aJ (bp 1 (bI iZ (ak (aq 0) aM)))
    dU)
noncomputable def dW:ae -> OS:=
    (aJ (bb (aD (mOp gEq (aq 0) (mC (.int 92))))
    (bc (cf (ak (mC (.str "escape")) (ak (mC (.str "text")) aM))))
    aR)
    dS)
noncomputable def eM:ae -> OS:=
    (aJ (bb (aD (mOp gEq (aq 0) (mC (.int 34))))
    (bc (cf aM))
    aR)
    dW)
noncomputable def bW:List PV -> OE:=fnP 1 2 eM
noncomputable def da:ae -> OS:=
    (bc (mUn (gK [(34,.int 34),(92,.int 92),(47,.int 47),(98,.int 8),(102,.int 12),(110,.int 10),(114,.int 13),(116,.int 9)]) (aq 0)))
noncomputable def bL:List PV -> OE:=fnP 1 1 da
noncomputable def iK:ae -> OS:=
    (aJ (bb (aD (mOp gEq (aq 0) (mC (.int 117))))
    (bc (cf (ak (mC (.str "code")) aM)))
    aR)
    (bc (gV (aD (mOp sO (bI bL (ak (aq 0) aM)) (mC .non))) (mC .non) (cf aM))))
noncomputable def cE:List PV -> OE:=fnP 1 1 iK
noncomputable def dh:ae -> OS:=
    (bc (bI dF (ak (aq 2) aM)))
noncomputable def dk:ae -> OS:=
    (aJ (bb (aD (mOp gEq (aq 0) (mC (.str "code"))))
    (bc (gV (aD (mOp gEq (aq 2) (mC (.int 13)))) (cf (ak (mC (.str "code d")) aM)) (cf (ak (mC (.str "hex")) (ak (mC (.str "hex")) (ak (mC (.str "hex")) aM))))))
    aR)
    dh)
noncomputable def dg:ae -> OS:=
    (aJ (bb (aD (mOp sO (aq 2) (mC .non)))
    (bc (mC .non))
    aR)
    dk)
noncomputable def df:ae -> OS:=
    (aJ (bp 2 (bI fH (ak (aq 1) aM)))
    dg)
noncomputable def dj:ae -> OS:=
    (aJ (bb (aD (mOp gEq (aq 0) (mC (.str "escape"))))
    (bc (bI cE (ak (aq 1) aM)))
    aR)
    df)
noncomputable def dO:ae -> OS:=
    (aJ (bb (aD (mOp gEq (aq 0) (mC (.str "text"))))
    (bc (bI bW (ak (aq 1) aM)))
    aR)
    dj)
noncomputable def bR:List PV -> OE:=fnP 2 3 dO
noncomputable def gM:ae -> OS:=
    (bc (cf aM))
noncomputable def gO:ae -> OS:=
    (aJ (bb (aD (mOp gEq (aq 0) (mC (.str "hex c to f"))))
    (bc (gV (aD (mOp gGe (aq 2) (mC (.int 12)))) (cf aM) (mC .non)))
    aR)
    gM)
noncomputable def gB:ae -> OS:=
    (aJ (bb (aD (mOp gEq (aq 0) (mC (.str "hex d"))))
    (bc (gV (aD (mOp gEq (aq 2) (mC (.int 13)))) (cf aM) (mC .non)))
    aR)
    gO)
noncomputable def gG:ae -> OS:=
    (aJ (bb (aD (mOp sO (aq 2) (mC .non)))
    (bc (mC .non))
    aR)
    gB)
noncomputable def je:ae -> OS:=
    (aJ (bp 2 (bI fH (ak (aq 1) aM)))
    gG)
noncomputable def dQ:List PV -> OE:=fnP 2 3 je
noncomputable def eV:ae -> OS:=
    (bc (gV (aD (mOp sO (aq 1) (mC .non))) (mC .non) (mOp lQ (aq 1) (cf (ak (mC (.str "white")) (ak (mC (.str "more row")) aM))))))
noncomputable def eS:ae -> OS:=
    (aJ (bp 1 (bI bK (ak (aq 0) aM)))
    eV)
noncomputable def fY:ae -> OS:=
    (aJ (bb (aD (mOp gEq (aq 0) (mC (.int 93))))
    (bc (cf aM))
    aR)
    eS)
noncomputable def cq:List PV -> OE:=fnP 1 2 fY
noncomputable def pN:ae -> OS:=
    (bc (cf (ak (mC (.str "white")) (ak (gm (ak (mC (.int 58)) (ak (mC (.int 58)) aM))) (ak (mC (.str "white")) (ak (mC (.str "value")) (ak (mC (.str "white")) (ak (mC (.str "more fields")) aM))))))))
noncomputable def eE:List PV -> OE:=fnP 0 0 pN
noncomputable def gq:ae -> OS:=
    (aJ (bb (aD (mOp gEq (aq 0) (mC (.int 125))))
    (bc (cf aM))
    aR)
    (bc (gV (aD (mOp gEq (aq 0) (mC (.int 34)))) (mOp lQ (cf (ak (mC (.str "text")) aM)) (bI eE aM)) (mC .non))))
noncomputable def b9:List PV -> OE:=fnP 1 1 gq
noncomputable def cp:ae -> OS:=
    (bc (gV (aD (mOp gEq (aq 1) (mC (.int 125)))) (cf aM) (mC .non)))
noncomputable def cn:ae -> OS:=
    (aJ (bb (aD (mOp gEq (aq 1) (mC (.int 44))))
    (bc (mOp lQ (cf (ak (mC (.str "white")) (ak (mC (.str "name")) aM))) (bI eE aM)))
    aR)
    cp)
noncomputable def ck:ae -> OS:=
    (aJ (bb (aD (mOp gEq (aq 0) (mC (.str "more row"))))
    (aJ (bb (aD (mOp gEq (aq 1) (mC (.int 44))))
    (bc (cf (ak (mC (.str "white")) (ak (mC (.str "value")) (ak (mC (.str "white")) (ak (mC (.str "more row")) aM))))))
    aR)
    (bc (gV (aD (mOp gEq (aq 1) (mC (.int 93)))) (cf aM) (mC .non))))
    aR)
    cn)
noncomputable def cj:ae -> OS:=
    (aJ (bb (aD (mOp gEq (aq 0) (mC (.str "fields"))))
    (bc (bI b9 (ak (aq 1) aM)))
    aR)
    ck)
noncomputable def cF:ae -> OS:=
    (aJ (bb (aD (mOp gEq (aq 0) (mC (.str "row"))))
    (bc (bI cq (ak (aq 1) aM)))
    aR)
    cj)
noncomputable def ba:List PV -> OE:=fnP 2 2 cF
noncomputable def tN:ae -> OS:=
    (bc (mOp gIn (aq 0) (mC (.tup ([9,10,13,32].map .int)))))
noncomputable def iS:List PV -> OE:=fnP 1 1 tN
noncomputable def b0:ae -> OS:=
    (bc (bI bK (ak (aq 1) aM)))
noncomputable def b6:ae -> OS:=
    (aJ (bb (aD (mOp gEq (aq 0) (mC (.str "name"))))
    (bc (gV (aD (mOp gEq (aq 1) (mC (.int 34)))) (cf (ak (mC (.str "text")) aM)) (mC .non)))
    aR)
    b0)
noncomputable def bY:ae -> OS:=
    (aJ (bb (aD (mOp gEq (aq 0) (mC (.str "white"))))
    (bc (gV (eH (bI iS (ak (aq 1) aM))) (cf (ak (mC (.str "white")) aM)) (mC .non)))
    aR)
    b6)
noncomputable def bX:ae -> OS:=
    (aJ (bb (aD (mOp gIn (aq 0) (mC (.tup [.str "row",.str "more row",.str "fields",.str "more fields"]))))
    (bc (bI ba (ak (aq 0) (ak (aq 1) aM))))
    aR)
    bY)
noncomputable def b5:ae -> OS:=
    (aJ (bb (aD (mOp gIn (aq 0) (gm (ak (mC (.str "hex")) (ak (mC (.str "hex d")) (ak (mC (.str "hex c to f")) aM))))))
    (bc (bI dQ (ak (aq 0) (ak (aq 1) aM))))
    aR)
    bX)
noncomputable def b4:ae -> OS:=
    (aJ (bb (aD (mOp gIn (aq 0) (gm (ak (mC (.str "text")) (ak (mC (.str "escape")) (ak (mC (.str "code")) (ak (mC (.str "code d")) aM)))))))
    (bc (bI bR (ak (aq 0) (ak (aq 1) aM))))
    aR)
    b5)
noncomputable def bZ:ae -> OS:=
    (aJ (bb (aD (mOp gIn (aq 0) (gm (ak (mC (.str "lead")) (ak (mC (.str "figures")) (ak (mC (.str "fraction")) (ak (mC (.str "exponent")) (ak (mC (.str "sign")) aM))))))))
    (bc (bI aX (ak (aq 0) (ak (aq 1) aM))))
    aR)
    b4)
noncomputable def cY:ae -> OS:=
    (aJ (bb (eH (mIs "tuple" (aq 0)))
    (bc (gV (aD (lJ gLe gLe (mOp ik (aq 0) (mC (.int 0))) (aq 1) (mOp ik (aq 0) (mC (.int 1))))) (cf aM) (mC .non)))
    aR)
    bZ)
noncomputable def cg:List PV -> OE:=fnP 2 2 cY
noncomputable def jo:ae -> OE:=
    (aq 0)
noncomputable def gu:ae -> OT:=
    (aD (mOp gIn (aq 0) (mC (.tup [.str "row",.str "more row",.str "fields",.str "more fields"]))))
noncomputable def nN:ae -> OS:=
    (bc (mUn ym (um (cX 0 (pFd 0 aH "coming" n6)) [] gu jo)))
noncomputable def cH:List Sl -> OI:=fnI 1 1 nN
noncomputable def gT:ae -> OT:=
    (dB 0 (pFd 0 aH "coming" n6))
noncomputable def g9:ae -> OS:=
    (aJ (jb 2 (pS 0 (pFd 0 aH "coming" n6)))
    (aJ (bp 3 (bI cg (ak (aq 2) (ak (aq 1) aM))))
    (aJ (bb (aD (mOp tJ (aq 3) (mC .non)))
    (aJ (dM 0 (pFd 0 aH "coming" n6) (Fw (aq 3) (mUn gU (mC (.int 1)))))
    (bc (mOp gLe (mR "Walk" "brackets" cH [.b 0 aH]) (mC (.int 64)))))
    aR)
    (bb (aD (mOp vF (aq 2) (mC (.tup [.str "white",.str "figures",.str "fraction",.str "exponent",.str "sign"]))))
    (bc (mC (.bl false)))
    aR))))
noncomputable def i5:ae -> OS:=
    (aJ (fS gT
    g9 fuel)
    (bc (mC (.bl false))))
noncomputable def dZ:List Sl -> OI:=fnI 2 4 i5
noncomputable def jM:ae -> OS:=
    (DV true (oq "Walk" "goes_on" dZ [.t 0 aH,.e (aq 3)])
    (iD 2)
    aR)
noncomputable def lA:ae -> OS:=
    (aJ (Ar 2 3 (aq 1)
    jM)
    (bc (mUn ym (aq 1))))
noncomputable def fI:List Sl -> OI:=fnI 2 4 lA
noncomputable def i6:ae -> OE:=
    (mOp gIn (aq 0) (mC (.tup [.str "white",.str "figures",.str "fraction",.str "exponent",.str "sign"])))
noncomputable def nP:ae -> OS:=
    (bc (mUn EX (rj (cX 0 (pFd 0 aH "coming" n6)) [] i6)))
noncomputable def de:List Sl -> OI:=fnI 1 1 nP
noncomputable def rl:ae -> OS:=
    (iD 2)
noncomputable def vg:ae -> OS:=
    (aJ (bb (fF (aD (mOp gEq (aq 2) (mUn ym (aq 0)))) (eH (mR "Walk" "is_whole" de [.b 1 aH])))
    (bc (mC .non))
    aR)
    rl)
noncomputable def uS:ae -> OS:=
    (aJ (jb 2 (oq "Walk" "take" fI [.t 1 aH,.e (aq 0)]))
    vg)
noncomputable def zK:ae -> OS:=
    (aJ (my 1 (vj "Walk" dc))
    uS)
noncomputable def lu:List PV -> OE:=fnP 1 3 zK
noncomputable def su:ae -> OS:=
    (bc (uy (mIs "int" (aq 0)) (CN (mIs "bool" (aq 0)))))
noncomputable def gH:List PV -> OE:=fnP 1 1 su
noncomputable def Ai:ae -> OS:=
    (bc (uy (bI gH (ak (aq 5) aM)) (mOp gEq (aq 5) (aq 4))))
noncomputable def zW:ae -> OS:=
    (aJ (bb (aD (mOp sO (aq 5) (mC .non)))
    (aJ (bp 6 (mOp ik (mOp mI (mOp ik (aq 1) (mC (.int 1))) (mC (.int 0))) (mC (.int 2))))
    (bc (Ca (mOp gGe (aq 4) (aq 6)) (uy (mOp gEq (mOp ik (mOp mI (mOp ik (aq 1) (mC (.int 1))) (mC (.int 0))) (mC (.int 0))) (mC (.str "number"))) (mOp gGt (aq 4) (mOp ik (mOp mI (mOp ik (aq 1) (mC (.int 1))) (mC (.int 0))) (mC (.int 1))))))))
    aR)
    Ai)
noncomputable def Ah:ae -> OS:=
    (aJ (bp 5 (bI lu (ak (A2 (aq 2) (mC .non) (u4 (aq 4))) aM)))
    zW)
noncomputable def An:ae -> OS:=
    (aJ (bp 4 (mOp cA (bI eG (ak (aq 0) (ak (mC (.int 60)) aM))) (mOp fo (mUn ym (aq 2)) (mC (.int 1)))))
    Ah)
noncomputable def zL:ae -> OS:=
    (aJ (i9 3 (bb (rB (aD (mOp tJ (bI lu (ak (aq 3) aM)) (mC .non))) (aD (mOp HK (aq 3) (aq 2))))
    (bc (mC (.bl false)))
    aR))
    An)
noncomputable def Ag:ae -> OS:=
    (aJ (bp 3 (mUn qV (aq 2)))
    zL)
noncomputable def Az:ae -> OS:=
    (aJ (bp 2 (mOp ik (aq 1) (mC (.int 0))))
    Ag)
noncomputable def F0:ae -> OS:=
    (aJ (bp 1 (bI gA (ak (aq 0) (ak (mOp fo (mC (.int 1)) (mOp cA (bI eG (ak (aq 0) (ak (mC (.int 62)) aM))) (mC (.int 10)))) aM))))
    Az)
noncomputable def uU:List PV -> OE:=fnP 1 7 F0
theorem nJ (ns:List Int) (k:Int):iT [.lst (ns.map .int),.int k] = .ok (.sh (.int (PG.cell ns k))):=by
 unfold iT uB PG.cell
 cases ns with
 | nil=>simp
 | cons n r=>
   have hp:(0:Int) < (r.length:Int) + 1:=by omega
   have hm:0 <= k % ((r.length:Int) + 1):=Int.emod_nonneg _ (by omega)
   have hm2:k % ((r.length:Int) + 1) < (r.length:Int) + 1:=Int.emod_lt_of_pos _ hp
   have hi:(k % ((r.length:Int) + 1)).toNat < (n ::r).length:=by rw [List.length_cons]; omega
   have ha:atP (PV.int n ::r.map .int) (k % ((r.length:Int) + 1)) = some (.int ((n ::r).getD (k % ((r.length:Int) + 1)).toNat 0)):=by
    rw [B5 _ _ hm]
    have:(PV.int n ::r.map .int) = (n ::r).map .int:=rfl
    rw [this,List.getElem?_map,List.getElem?_eq_getElem hi,List.getD_eq_getElem?_getD,List.getElem?_eq_getElem hi]
    rfl
   simp [hp,ha]
theorem dP (ns:List Int) (k:Int):eG [.lst (ns.map .int),.int k] = .ok (.sh (.int (PG.mix ns k))):=by
 unfold PG.mix
 simp [sE,sA,u7,eG,nJ]
theorem kX (n:Int):gH [.int n] = .ok (.sh (.bl true)):=by
 unfold gH su
 simp
theorem lj (n:Int):dG [.int n] = .ok (.sh (.int (PG.point n))):=by
 unfold PG.point
 have ha:atP [PV.int 34,.int 92,.int 47,.int 8,.int 12,.int 10,.int 13,.int 9,.int 0,.int 31,.int 127] (n / 8 % 11) = some (.int (PG.menu.getD (n / 8 % 11).toNat 0)):=by
  have h0:0 <= n / 8 % 11:=by omega
  have hi:(n / 8 % 11).toNat < PG.menu.length:=by show _ < 11; omega
  rw [B5 _ _ h0]
  show (PG.menu.map PV.int)[_]? = _
  rw [List.getElem?_map,List.getD_eq_getElem?_getD,List.getElem?_eq_getElem hi]
  rfl
 by_cases h1:n % 8 < 2
 . simp [fi,fb,fe,fg,fj,fm,fk,gD,dG,h1]
 . by_cases h2:n % 8 < 4
   . simp [fi,fb,fe,fg,fj,fm,fk,gD,dG,h1,h2,ha]
   . by_cases h3:n % 8 = 4
     . simp [fi,fb,fe,fg,fj,fm,fk,gD,dG,h3]
     . by_cases h4:n % 8 = 5
       . simp [fi,fb,fe,fg,fj,fm,fk,gD,dG,h4]
       . by_cases h5:n % 8 = 6
         . simp [fi,fb,fe,fg,fj,fm,fk,gD,dG,h5]
         . simp [fi,fb,fe,fg,fj,fm,fk,gD,dG,h1,h2,h3,h4,h5]
theorem gZ (ns:List Int) (k:Int):eC [.lst (ns.map .int),.int k] = .ok (.fr ((PG.points ns k).map .int)):=by
 have hs:=PG.ya ns k
 have hm:=PG.zp ns k
 have el:∀ m:Nat,du kP [some (.sh (.lst (ns.map .int))),some (.sh (.int k))] (dI m) =
   .ok ((List.range m).map fun j:Nat=>.int (PG.point (PG.mix ns (k + 1 + (j:Int))))):=fun m=>by
  unfold dI
  refine kx _ fun j _=>?_
  simp [kP,dP,lj]
 have hp:(PG.points ns k).map PV.int = (List.range (PG.ug ns k).toNat).map fun j:Nat=>.int (PG.point (PG.mix ns (k + 1 + (j:Int)))):=by
  unfold PG.points
  rw [List.map_map]
  rfl
 rw [hp]
 have hl:(PG.ug ns k).toNat <= lim:=fh (by omega)
 unfold PG.ug at hs hl ⊢
 by_cases h3:PG.mix ns k / 5 % 8 = 3
 . rw [if_pos h3] at hs hl ⊢
   have h1:-4611686018427387904 <= PG.mix ns k / 40 % 14 /\ PG.mix ns k / 40 % 14 < 4611686018427387904:=by omega
   simp [eC,nF,kJ,kH,kK,dP,h3,dv,el,h1]
   unfold lim; omega
 . rw [if_neg h3] at hs hl ⊢
   have h1:-4611686018427387904 <= PG.mix ns k % 5 /\ PG.mix ns k % 5 < 4611686018427387904:=by omega
   simp [eC,nF,kJ,kH,kK,dP,h3,dv,el,h1]
   unfold lim; omega
theorem lh (n:Int) (h:PG.mj n = true):eD [.int n] = .ok (.fr ((PG.bA n).map .int)):=by
 have hn:0 <= n:=by
  unfold PG.mj at h
  simp only [Bool.or_eq_true,Bool.and_eq_true,decide_eq_true_eq] at h
  omega
 unfold PG.bA
 by_cases h1:n < 128
 . simp [iw,iu,ij,iA,iq,jX,eD,h1]
 . by_cases h2:n < 2048
   . have g2:¬ 2048 <= n:=by omega
     have g3:¬ 65536 <= n:=by omega
     simp [iw,iu,ij,iA,iq,jX,eD,h1,h2,g2,g3,dI,List.range_succ]
   . by_cases h3:n < 65536
     . have g2:2048 <= n:=by omega
       have g3:¬ 65536 <= n:=by omega
       have e1:n / 64 / 64 = n / 4096:=by omega
       simp [iw,iu,ij,iA,iq,jX,eD,h1,h2,h3,g2,g3,dI,List.range_succ,e1]
     . have g2:2048 <= n:=by omega
       have g3:65536 <= n:=by omega
       have e1:n / 64 / 64 = n / 4096:=by omega
       have e2:n / 4096 / 64 = n / 262144:=by omega
       simp [iw,iu,ij,iA,iq,jX,eD,h1,h2,h3,g2,g3,dI,List.range_succ,e1,e2]
theorem mP (b:Int):iS [.int b] = .ok (.sh (.bl (PG.wht b))):=by
 simp -implicitDefEqProofs [tN,iS,gIn,gF,cI,kW,PG.wht]
 simp [Bool.beq_eq_decide_eq]
theorem fG (b:Int):eU [.int b] = .ok (.sh (.bl (PG.fig b))):=by
 by_cases h:48 <= b <;> simp -implicitDefEqProofs [se,eU,PG.fig,h]
theorem iV (b:Int):fH [.int b] = .ok (.sh (match PG.eZ b with | some w=>.int w | none=>.non)):=by
 unfold PG.eZ
 by_cases h1:48 <= b <;> by_cases h2:b <= 57 <;> by_cases h3:65 <= b <;> by_cases h4:b <= 70 <;> by_cases h5:97 <= b <;> by_cases h6:b <= 102 <;> first | omega | simp -implicitDefEqProofs [pM,p6,pZ,si,fH,fG,PG.fig,h1,h2,h3,h4,h5,h6]
theorem Dx (b:Int):iZ [.int b] = .ok (match PG.tls b with | some l=>.fr (l.map PG.aY) | none=>.sh .non):=by
 have h3:cU [.int b] = .ok (.sh (PG.aY (if b = 224 then .sp 160 191 else if b = 237 then .sp 128 159 else .sp 128 191))):=by
  by_cases h1:b = 224
  . simp [ic,hX,ji,cU,h1,PG.aY]
  . by_cases h2:b = 237 <;> simp [ic,hX,ji,cU,h1,h2,PG.aY]
 have h4:dm [.int b] = .ok (.sh (PG.aY (if b = 240 then .sp 144 191 else if b = 244 then .sp 128 143 else .sp 128 191))):=by
  by_cases h1:b = 240
  . simp [iQ,iG,jE,dm,h1,PG.aY]
  . by_cases h2:b = 244 <;> simp [iQ,iG,jE,dm,h1,h2,PG.aY]
 unfold PG.tls
 by_cases h0:0 <= b /\ b < 128
 . simp [kB,ku,kA,kr,pk,iZ,h0.1,h0.2]
 . by_cases ha:194 <= b /\ b < 224
   . have:¬ b < 128:=by omega
     have z:0 <= b:=by omega
     simp [kB,ku,kA,kr,pk,iZ,ha.1,ha.2,z,this,PG.aY]
   . by_cases hb:224 <= b /\ b < 240
     . have z1:¬ b < 128:=by omega
       have z2:¬ b < 224:=by omega
       have z:0 <= b:=by omega
       have z3:194 <= b:=by omega
       simp [kB,ku,kA,kr,pk,iZ,hb.1,hb.2,z,z1,z2,z3,h3]
       simp [PG.aY]
     . by_cases hc:240 <= b /\ b < 245
       . have z1:¬ b < 128:=by omega
         have z2:¬ b < 224:=by omega
         have z:0 <= b:=by omega
         have z3:194 <= b:=by omega
         have z4:224 <= b:=by omega
         have z5:¬ b < 240:=by omega
         simp [kB,ku,kA,kr,pk,iZ,hc.1,hc.2,z,z1,z2,z3,z4,z5,h4]
         simp [PG.aY]
       . simp only [h0,ha,hb,hc,if_false]
         by_cases g0:0 <= b <;> by_cases g1:b < 128 <;> by_cases g2:194 <= b <;> by_cases g3:b < 224 <;> by_cases g4:224 <= b <;> by_cases g5:b < 240 <;> by_cases g6:240 <= b <;> by_cases g7:b < 245 <;> first | omega | simp [kB,ku,kA,kr,pk,iZ,g0,g1,g2,g3,g4,g5,g6,g7]
noncomputable def rI:Option (List PG.It) -> RV
 | some l=>.fr (l.map PG.aY)
 | none=>.sh .non
theorem gj (b:Int):dR [.int b] = .ok (rI (PG.lO b)):=by
 unfold PG.lO
 by_cases h0:b = 48
 . simp [j4,kb,lP,dR,h0,rI,PG.aY]
 . by_cases h1:48 <= b <;> by_cases h2:b <= 57 <;> simp [j4,kb,lP,dR,h0,h1,h2,fG,PG.fig,rI,PG.aY]
theorem fD (b:Int):bK [.int b] = .ok (rI (PG.jR b)):=by
 unfold PG.jR
 by_cases h1:b = 91
 . simp [cM,cO,cL,cQ,cP,cK,cJ,dC,bK,h1,rI,PG.aY]
 by_cases h2:b = 123
 . simp [cM,cO,cL,cQ,cP,cK,cJ,dC,bK,h2,rI,PG.aY]
 by_cases h3:b = 34
 . simp [cM,cO,cL,cQ,cP,cK,cJ,dC,bK,h3,rI,PG.aY]
 by_cases h4:b = 45
 . simp [cM,cO,cL,cQ,cP,cK,cJ,dC,bK,h4,rI,PG.aY]
 by_cases h5:b = 110
 . simp [cM,cO,cL,cQ,cP,cK,cJ,dC,bK,h5,rI,PG.aY,jU,eW,gK,cu,tD,du,dv,List.lookup]
 by_cases h6:b = 116
 . simp [cM,cO,cL,cQ,cP,cK,cJ,dC,bK,h6,rI,PG.aY,jU,eW,gK,cu,tD,du,dv,List.lookup]
 by_cases h7:b = 102
 . simp [cM,cO,cL,cQ,cP,cK,cJ,dC,bK,h7,rI,PG.aY,jU,eW,gK,cu,tD,du,dv,List.lookup]
 have z5:(b == 110) = false:=by simpa using h5
 have z6:(b == 116) = false:=by simpa using h6
 have z7:(b == 102) = false:=by simpa using h7
 simp [cM,cO,cL,cQ,cP,cK,cJ,dC,bK,h1,h2,h3,h4,h5,h6,h7,z5,z6,z7,jU,eW,gK,cu,List.lookup,gj]
 cases PG.lO b <;> simp [rI]
theorem dA:eE [] = .ok (.fr (PG.rf.map PG.aY)):=by
 simp [pN,eE,PG.rf,PG.aY]
theorem mm (it:PG.It) (b:Int) (h:it = .lead \/ it = .figures \/ it = .fraction \/ it = .exponent \/ it = .sign):aX [PG.aY it,.int b] = .ok (rI (PG.bh it b)):=by
 rcases h with rfl | rfl | rfl | rfl | rfl
 . simp [bC,bu,bx,bB,bV,aX,PG.aY,gEq,eqS,aG,gj]
   cases e:PG.lO b <;> simp [PG.bh,rI,e]
 . by_cases h1:48 <= b <;> by_cases h2:b <= 57 <;> simp [bC,bu,bx,bB,bV,aX,PG.aY,gEq,eqS,aG,fG,PG.fig,PG.bh,rI,h1,h2]
 . by_cases h1:b = 46 <;> simp [bC,bu,bx,bB,bV,aX,PG.aY,gEq,eqS,aG,PG.bh,rI,h1]
 . by_cases h1:b = 101
   . simp [bC,bu,bx,bB,bV,aX,PG.aY,gEq,eqS,aG,PG.bh,rI,h1,gIn,gF,cI,kW]
   . by_cases h2:b = 69
     . simp [bC,bu,bx,bB,bV,aX,PG.aY,gEq,eqS,aG,PG.bh,rI,h2,gIn,gF,cI,kW]
     . have z1:¬ 101 = b:=fun z=>h1 z.symm
       have z2:¬ 69 = b:=fun z=>h2 z.symm
       simp [bC,bu,bx,bB,bV,aX,PG.aY,gEq,eqS,aG,PG.bh,rI,h1,h2,z1,z2,gIn,gF,cI,kW]
 . by_cases h1:b = 43
   . simp [bC,bu,bx,bB,bV,aX,PG.aY,gEq,eqS,aG,PG.bh,rI,h1,gIn,gF,cI,kW]
   . by_cases h2:b = 45
     . simp [bC,bu,bx,bB,bV,aX,PG.aY,gEq,eqS,aG,PG.bh,rI,h2,gIn,gF,cI,kW]
     . have z1:¬ 43 = b:=fun z=>h1 z.symm
       have z2:¬ 45 = b:=fun z=>h2 z.symm
       simp [bC,bu,bx,bB,bV,aX,PG.aY,gEq,eqS,aG,PG.bh,rI,h1,h2,z1,z2,gIn,gF,cI,kW]
theorem jl (b:Int):∃ x,bL [.int b] = .ok (.sh x) /\ cu x = !PG.vt b:=by
 unfold PG.vt
 by_cases h1:b = 34
 . exact ⟨.int 34,by simp [da,bL,gK,List.lookup,h1],by simp [cu,h1]⟩
 by_cases h2:b = 92
 . exact ⟨.int 92,by simp [da,bL,gK,List.lookup,h2],by simp [cu,h2]⟩
 by_cases h3:b = 47
 . exact ⟨.int 47,by simp [da,bL,gK,List.lookup,h3],by simp [cu,h3]⟩
 by_cases h4:b = 98
 . exact ⟨.int 8,by simp [da,bL,gK,List.lookup,h4],by simp [cu,h4]⟩
 by_cases h5:b = 102
 . exact ⟨.int 12,by simp [da,bL,gK,List.lookup,h5],by simp [cu,h5]⟩
 by_cases h6:b = 110
 . exact ⟨.int 10,by simp [da,bL,gK,List.lookup,h6],by simp [cu,h6]⟩
 by_cases h7:b = 114
 . exact ⟨.int 13,by simp [da,bL,gK,List.lookup,h7],by simp [cu,h7]⟩
 by_cases h8:b = 116
 . exact ⟨.int 9,by simp [da,bL,gK,List.lookup,h8],by simp [cu,h8]⟩
 have zz:∀ k:Int,¬ b = k -> (b == k) = false:=fun k h=>by simpa using h
 exact ⟨.non,by simp [da,bL,gK,List.lookup,zz _ h1,zz _ h2,zz _ h3,zz _ h4,zz _ h5,zz _ h6,zz _ h7,zz _ h8],by simp [cu,h1,h2,h3,h4,h5,h6,h7,h8]⟩
theorem fW (b:Int):cE [.int b] = .ok (rI (PG.Dm b)):=by
 obtain ⟨x,hx,hn⟩:=jl b
 unfold PG.Dm
 by_cases h1:b = 117
 . simp [iK,cE,h1,rI,PG.aY]
 . cases hs:PG.vt b <;> rw [hs] at hn <;> simp at hn <;> simp [iK,cE,h1,hx,hn,rI]
theorem DQ (b:Int) (l:List PG.It) (h:PG.tls b = some l):l.length <= 3:=by
 unfold PG.tls at h
 repeat' split at h
 all_goals (first | (cases h; done) | (injection h with h; subst h; simp))
theorem fT (b:Int):bW [.int b] = .ok (rI (PG.rF b)):=by
 have ht:=Dx b
 unfold PG.rF
 by_cases h1:b = 34
 . simp [dX,dU,dS,dW,eM,bW,h1,rI]
 by_cases h2:b = 92
 . simp [dX,dU,dS,dW,eM,bW,h2,rI,PG.aY]
 cases e:PG.tls b with
 | none=>
   rw [e] at ht
   by_cases h3:b < 32 <;> simp [dX,dU,dS,dW,eM,bW,h1,h2,h3,rI,ht,cu]
 | some l=>
   rw [e] at ht
   have hl:l.length + 1 <= lim:=fh (by have:=DQ b l e; omega)
   by_cases h3:b < 32 <;> simp [dX,dU,dS,dW,eM,bW,h1,h2,h3,rI,ht,cu,hl,PG.aY]
theorem iB (w:Int):dF [.int w] = .ok (rI (PG.yB w)):=by
 unfold PG.yB
 by_cases h1:w < 8
 . simp [jc,jj,j9,dF,h1,rI,PG.aY]
 . by_cases h2:w < 12 <;> simp [jc,jj,j9,dF,h1,h2,rI,PG.aY]
theorem tm (it:PG.It) (b:Int) (h:it = .text \/ it = .escape \/ it = .code \/ it = .coded):bR [PG.aY it,.int b] = .ok (rI (PG.bh it b)):=by
 have hw:=iV b
 rcases h with rfl | rfl | rfl | rfl
 . simp [dh,dk,dg,df,dj,dO,bR,PG.aY,gEq,eqS,aG,fT]
   cases e:PG.rF b <;> simp [PG.bh,rI,e]
 . simp [dh,dk,dg,df,dj,dO,bR,PG.aY,gEq,eqS,aG,fW]
   cases e:PG.Dm b <;> simp [PG.bh,rI,e]
 . cases e:PG.eZ b with
   | none=>
     rw [e] at hw
     simp [dh,dk,dg,df,dj,dO,bR,PG.aY,gEq,eqS,aG,hw,cu,PG.bh,e,rI]
   | some w=>
     rw [e] at hw
     by_cases h13:w = 13 <;> simp [dh,dk,dg,df,dj,dO,bR,PG.aY,gEq,eqS,aG,hw,cu,PG.bh,e,rI,h13]
 . cases e:PG.eZ b with
   | none=>
     rw [e] at hw
     simp [dh,dk,dg,df,dj,dO,bR,PG.aY,gEq,eqS,aG,hw,cu,PG.bh,e,rI]
   | some w=>
     rw [e] at hw
     simp [dh,dk,dg,df,dj,dO,bR,PG.aY,gEq,eqS,aG,hw,cu,PG.bh,e,iB]
     cases e2:PG.yB w <;> simp [rI]
theorem zc (it:PG.It) (b:Int) (h:it = .hex \/ it = .hexd \/ it = .hexcf):dQ [PG.aY it,.int b] = .ok (rI (PG.bh it b)):=by
 have hw:=iV b
 cases e:PG.eZ b with
 | none=>
   rw [e] at hw
   rcases h with rfl | rfl | rfl <;> simp [gM,gO,gB,gG,je,dQ,PG.aY,gEq,eqS,aG,hw,cu,PG.bh,e,rI]
 | some w=>
   rw [e] at hw
   rcases h with rfl | rfl | rfl
   . simp [gM,gO,gB,gG,je,dQ,PG.aY,gEq,eqS,aG,hw,cu,PG.bh,e,rI]
   . by_cases h13:w = 13 <;> simp [gM,gO,gB,gG,je,dQ,PG.aY,gEq,eqS,aG,hw,cu,PG.bh,e,rI,h13]
   . by_cases h13:12 <= w <;> simp [gM,gO,gB,gG,je,dQ,PG.aY,gEq,eqS,aG,hw,cu,PG.bh,e,rI,h13]
theorem Bh (b:Int) (l:List PG.It) (h:PG.jR b = some l):l.length <= 5:=by
 unfold PG.jR PG.lO at h
 repeat' split at h
 all_goals (first | (cases h; done) | (injection h with h; subst h; decide))
theorem fU (b:Int):cq [.int b] = .ok (rI (PG.bh .row b)):=by
 have hv:=fD b
 by_cases h1:b = 93
 . simp [eV,eS,fY,cq,h1,rI,PG.bh]
 cases e:PG.jR b with
 | none=>rw [e] at hv; simp [eV,eS,fY,cq,h1,hv,rI,PG.bh,e,cu]
 | some l=>
   rw [e] at hv
   have hl:l.length + 2 <= lim:=fh (by have:=Bh b l e; omega)
   simp [eV,eS,fY,cq,h1,hv,rI,PG.bh,e,cu,PG.aY,hl]
theorem eP (b:Int):b9 [.int b] = .ok (rI (PG.bh .fields b)):=by
 by_cases h1:b = 125
 . simp [gq,b9,h1,rI,PG.bh]
 by_cases h2:b = 34 <;> simp [gq,b9,h1,h2,rI,PG.bh,dA,PG.rf,PG.aY]
theorem ly (it:PG.It) (b:Int) (h:it = .row \/ it = .mrow \/ it = .fields \/ it = .mfields):ba [PG.aY it,.int b] = .ok (rI (PG.bh it b)):=by
 rcases h with rfl | rfl | rfl | rfl
 . simp [cp,cn,ck,cj,cF,ba,PG.aY,gEq,eqS,aG,fU]
   cases e:PG.bh .row b <;> simp [rI]
 . by_cases h1:b = 44
   . simp [cp,cn,ck,cj,cF,ba,PG.aY,gEq,eqS,aG,h1,PG.bh,rI]
   . by_cases h2:b = 93 <;> simp [cp,cn,ck,cj,cF,ba,PG.aY,gEq,eqS,aG,h1,h2,PG.bh,rI]
 . simp [cp,cn,ck,cj,cF,ba,PG.aY,gEq,eqS,aG,eP]
   cases e:PG.bh .fields b <;> simp [rI]
 . by_cases h1:b = 44
   . simp [cp,cn,ck,cj,cF,ba,PG.aY,gEq,eqS,aG,h1,PG.bh,rI,dA,PG.rf]
   . by_cases h2:b = 125 <;> simp [cp,cn,ck,cj,cF,ba,PG.aY,gEq,eqS,aG,h1,h2,PG.bh,rI]
theorem qY (it:PG.It) (b:Int):cg [PG.aY it,.int b] = .ok (rI (PG.bh it b)):=by
 cases it with
 | sp lo hi=>by_cases h1:lo <= b <;> by_cases h2:b <= hi <;> simp [b0,b6,bY,bX,b5,b4,bZ,cY,cg,PG.aY,isP,h1,h2,PG.bh,rI]
 | bt=>
   cases h:PG.wht b <;> simp [b0,b6,bY,bX,b5,b4,bZ,cY,cg,PG.aY,isP,gIn,gF,cI,gEq,eqS,aG,mP,h,PG.bh,rI]
 | name=>by_cases h:b = 34 <;> simp [b0,b6,bY,bX,b5,b4,bZ,cY,cg,PG.aY,isP,gIn,gF,cI,gEq,eqS,aG,h,PG.bh,rI]
 | value=>
   have:=fD b
   simp [b0,b6,bY,bX,b5,b4,bZ,cY,cg,PG.aY,isP,gIn,gF,cI,gEq,eqS,aG,this,PG.bh]
   cases PG.jR b <;> simp [rI]
 | lead=>
   have:=mm .lead b (by simp)
   simp only [PG.aY] at this
   simp [b0,b6,bY,bX,b5,b4,bZ,cY,cg,PG.aY,isP,gIn,gF,cI,this]
   cases PG.bh .lead b <;> simp [rI]
 | figures=>
   have:=mm .figures b (by simp)
   simp only [PG.aY] at this
   simp [b0,b6,bY,bX,b5,b4,bZ,cY,cg,PG.aY,isP,gIn,gF,cI,this]
   cases PG.bh .figures b <;> simp [rI]
 | fraction=>
   have:=mm .fraction b (by simp)
   simp only [PG.aY] at this
   simp [b0,b6,bY,bX,b5,b4,bZ,cY,cg,PG.aY,isP,gIn,gF,cI,this]
   cases PG.bh .fraction b <;> simp [rI]
 | exponent=>
   have:=mm .exponent b (by simp)
   simp only [PG.aY] at this
   simp [b0,b6,bY,bX,b5,b4,bZ,cY,cg,PG.aY,isP,gIn,gF,cI,this]
   cases PG.bh .exponent b <;> simp [rI]
 | sign=>
   have:=mm .sign b (by simp)
   simp only [PG.aY] at this
   simp [b0,b6,bY,bX,b5,b4,bZ,cY,cg,PG.aY,isP,gIn,gF,cI,this]
   cases PG.bh .sign b <;> simp [rI]
 | text=>
   have:=tm .text b (by simp)
   simp only [PG.aY] at this
   simp [b0,b6,bY,bX,b5,b4,bZ,cY,cg,PG.aY,isP,gIn,gF,cI,this]
   cases PG.bh .text b <;> simp [rI]
 | escape=>
   have:=tm .escape b (by simp)
   simp only [PG.aY] at this
   simp [b0,b6,bY,bX,b5,b4,bZ,cY,cg,PG.aY,isP,gIn,gF,cI,this]
   cases PG.bh .escape b <;> simp [rI]
 | code=>
   have:=tm .code b (by simp)
   simp only [PG.aY] at this
   simp [b0,b6,bY,bX,b5,b4,bZ,cY,cg,PG.aY,isP,gIn,gF,cI,this]
   cases PG.bh .code b <;> simp [rI]
 | coded=>
   have:=tm .coded b (by simp)
   simp only [PG.aY] at this
   simp [b0,b6,bY,bX,b5,b4,bZ,cY,cg,PG.aY,isP,gIn,gF,cI,this]
   cases PG.bh .coded b <;> simp [rI]
 | hex=>
   have:=zc .hex b (by simp)
   simp only [PG.aY] at this
   simp [b0,b6,bY,bX,b5,b4,bZ,cY,cg,PG.aY,isP,gIn,gF,cI,this]
   cases PG.bh .hex b <;> simp [rI]
 | hexd=>
   have:=zc .hexd b (by simp)
   simp only [PG.aY] at this
   simp [b0,b6,bY,bX,b5,b4,bZ,cY,cg,PG.aY,isP,gIn,gF,cI,this]
   cases PG.bh .hexd b <;> simp [rI]
 | hexcf=>
   have:=zc .hexcf b (by simp)
   simp only [PG.aY] at this
   simp [b0,b6,bY,bX,b5,b4,bZ,cY,cg,PG.aY,isP,gIn,gF,cI,this]
   cases PG.bh .hexcf b <;> simp [rI]
 | row=>
   have:=ly .row b (by simp)
   simp only [PG.aY] at this
   simp [b0,b6,bY,bX,b5,b4,bZ,cY,cg,PG.aY,isP,gIn,gF,cI,this]
   cases PG.bh .row b <;> simp [rI]
 | mrow=>
   have:=ly .mrow b (by simp)
   simp only [PG.aY] at this
   simp [b0,b6,bY,bX,b5,b4,bZ,cY,cg,PG.aY,isP,gIn,gF,cI,this]
   cases PG.bh .mrow b <;> simp [rI]
 | fields=>
   have:=ly .fields b (by simp)
   simp only [PG.aY] at this
   simp [b0,b6,bY,bX,b5,b4,bZ,cY,cg,PG.aY,isP,gIn,gF,cI,this]
   cases PG.bh .fields b <;> simp [rI]
 | mfields=>
   have:=ly .mfields b (by simp)
   simp only [PG.aY] at this
   simp [b0,b6,bY,bX,b5,b4,bZ,cY,cg,PG.aY,isP,gIn,gF,cI,this]
   cases PG.bh .mfields b <;> simp [rI]
noncomputable abbrev cm (st:List PG.It):List PV:=st.reverse.map PG.aY
theorem xP (st:List PG.It):PG.wk st = .ob "Walk" ["coming"] [.ol ((cm st).map .sh)]:=rfl
theorem yK (st:List PG.It):(PG.wk st).get [.fd "coming"] = some (.ol ((cm st).map .sh)):=by
 simp [xP,OV.get,OV.at1,o3]
theorem Ck (st:List PG.It) (t:OV):(PG.wk st).put [.fd "coming"] t = .ob "Walk" ["coming"] [t]:=by
 simp [xP,OV.put,OV.at1,OV.jS,o3,uO]
theorem zd {ρ:ae} {i:Nat} {s:Sl} {st:List PG.It} (h:ρ[i]? = some (some s)) (hs:slT s = some (PG.wk st)):subAt i aH ρ = some (PG.wk st):=by
 unfold subAt fO aH; rw [h]; simp [hs]
theorem zk {ρ:ae} {i:Nat} {s:Sl} {st:List PG.It} (h:ρ[i]? = some (some s)) (hs:slT s = some (PG.wk st)):pFd i aH "coming" n6 ρ = some [.fd "coming"]:=by
 unfold pFd
 rw [zd h hs,xP]
 simp [n6,o3,aH]
theorem wM {ρ:ae} {i:Nat} {s:Sl} {st:List PG.It} (h:ρ[i]? = some (some s)) (hs:slT s = some (PG.wk st)):subAt i (pFd i aH "coming" n6) ρ = some (.ol ((cm st).map .sh)):=by
 unfold subAt fO
 rw [h,zk h hs]
 simp [hs,yK]
theorem Kj (it:PG.It):gu [some (.sh (PG.aY it))] = .ok (PG.opn it):=by
 cases it <;> simp -implicitDefEqProofs [gu,PG.aY,gIn,gF,cI,PG.opn,kW]
theorem Bb (l:List PG.It):iz gu jo [] (l.map PG.aY) = .ok ((l.filter PG.opn).map PG.aY):=by
 induction l with
 | nil=>rfl
 | cons it l ih=>
   rw [List.map_cons]
   unfold iz
   have h:=Kj it
   have he:jo [some (.sh (PG.aY it))] = .ok (.sh (PG.aY it)):=rfl
   cases e:PG.opn it <;> rw [e] at h <;> simp [h,ih,e,he]
theorem y4 (st:List PG.It) (hl:st.length <= 100000):cH [.bo (PG.wk st)] = .ok (.int (PG.cnt st)) [none]:=by
 have hp:cX 0 (pFd 0 aH "coming" n6) [some (.bo (PG.wk st))] = .ok (.al (cm st)):=by
  unfold cX
  rw [wM (s:=.bo (PG.wk st)) rfl rfl]
  simp only [vn]
 have hc:(st.reverse.filter PG.opn).length = PG.cnt st:=by unfold PG.cnt; rw [List.filter_reverse,List.length_reverse]
 have hn:PG.cnt st <= lim:=fh (by unfold PG.cnt; have:=List.length_filter_le PG.opn st; omega)
 have he:=Bb st.reverse
 simp -implicitDefEqProofs only [cH,nN,fnI,j3,um,hp,dv,List.map_nil,he,DB,BO,List.map_cons,List.length_cons,List.length_nil,List.replicate,List.append_nil,pw,B6,Dj,List.length_map,hc,hn,if_true,Iv,wJ,iL,B0,Nat.sub_self,rM]
 rfl
theorem DS (it:PG.It):vF (PG.aY it) (.tup [.str "white",.str "figures",.str "fraction",.str "exponent",.str "sign"]) = some (.sh (.bl (!PG.loose it))):=by
 cases it <;> simp -implicitDefEqProofs [PG.aY,vF,gF,cI,PG.loose,kW]
theorem Dv (it:PG.It):gIn (PG.aY it) (.tup [.str "white",.str "figures",.str "fraction",.str "exponent",.str "sign"]) = some (.sh (.bl (PG.loose it))):=by
 cases it <;> simp -implicitDefEqProofs [PG.aY,gIn,gF,cI,PG.loose,kW]
theorem HG {ρ:ae} {i:Nat} {io:Bool} {it:PG.It} {st:List PG.It} (h:ρ[i]? = some (some (.tr io (PG.wk (it ::st))))):pS i (pFd i aH "coming" n6) ρ = .ok (ρ.set i (some (.tr io (PG.wk st)))) (.sh (PG.aY it)):=by
 have hc:(cm (it ::st)).map OV.sh = (cm st).map OV.sh ++ [.sh (PG.aY it)]:=by simp [cm]
 unfold pS
 rw [h,zk h rfl]
 simp only [yK,hc,List.getLast?_concat,List.dropLast_concat,Ck]
 rfl
theorem ID {ρ:ae} {i:Nat} {io:Bool} {l st:List PG.It} {me:ae -> OE} (h:ρ[i]? = some (some (.tr io (PG.wk st)))) (he:me ρ = .ok (.fr (l.map PG.aY).reverse)) (hl:st.length + l.length <= 100000):
  dM i (pFd i aH "coming" n6) me ρ = .nx (ρ.set i (some (.tr io (PG.wk (l ++ st))))):=by
 have hc:(cm (l ++ st)).map OV.sh = (cm st).map OV.sh ++ (l.map PG.aY).reverse.map .sh:=by simp [cm]
 have hl2:st.length + l.length <= lim:=fh (by omega)
 unfold dM tY
 rw [h,zk h rfl]
 simp only [yK,he,iL,List.length_map,List.length_reverse,hl2,if_true,Ck]
 rw [xP,hc]
theorem xH {ρ:ae} {i:Nat} {io:Bool} {st:List PG.It} (h:ρ[i]? = some (some (.tr io (PG.wk st)))):dB i (pFd i aH "coming" n6) ρ = .ok (!st.isEmpty):=by
 unfold dB
 rw [wM h rfl]
 cases st <;> simp [cm]
theorem D7 {ρ:ae} {i:Nat} {io:Bool} {st:List PG.It} (h:ρ[i]? = some (some (.tr io (PG.wk st)))) (hl:st.length <= 100000):mR "Walk" "brackets" cH [.b i aH] ρ = .ok (.sh (.int (PG.cnt st))):=by
 have ha:lM (.b i aH) ρ = some (.bo (PG.wk st)):=by
  simp only [lM]
  rw [zd h rfl]
  rfl
 have hr:recv "Walk" "brackets" (some (.bo (PG.wk st))) = true:=by
  rw [xP]
  simp [recv,aG]
 simp only [mR,ha,hr,if_true,vZ,jr,Option.bind_some,Option.map_some,y4 st hl]
theorem AV (b:Int) (it:PG.It) (st:List PG.It) (io:Bool) (x y:Option Sl) (hl:st.length + 8 <= 100000):g9 [some (.tr io (PG.wk (it ::st))),some (.sh (.int b)),x,y] =
  match PG.bh it b with
  | some l=>.rt [some (.tr io (PG.wk (l ++ st))),some (.sh (.int b)),some (.sh (PG.aY it)),some (.ow (l.map PG.aY))] (.sh (.bl (decide (PG.cnt (l ++ st) <= 64))))
  | none=>if PG.loose it then .nx [some (.tr io (PG.wk st)),some (.sh (.int b)),some (.sh (PG.aY it)),some (.sh .non)] else .rt [some (.tr io (PG.wk st)),some (.sh (.int b)),some (.sh (PG.aY it)),some (.sh .non)] (.sh (.bl false)):=by
 have h1:jb 2 (pS 0 (pFd 0 aH "coming" n6)) [some (.tr io (PG.wk (it ::st))),some (.sh (.int b)),x,y] = .nx [some (.tr io (PG.wk st)),some (.sh (.int b)),some (.sh (PG.aY it)),y]:=by
  unfold jb
  rw [HG (it:=it) (st:=st) (io:=io) rfl]
  rfl
 have hb:=qY it b
 have hlo:=DS it
 unfold g9
 simp only [oi,h1,jv]
 cases e:PG.bh it b with
 | none=>
   rw [e] at hb
   cases e2:PG.loose it <;> rw [e2] at hlo <;> simp -implicitDefEqProofs [hb,rI,cu,hlo]
 | some l=>
   rw [e] at hb
   have hll:=PG.Ct it b l e
   have h2:dM 0 (pFd 0 aH "coming" n6) (Fw (aq 3) (mUn gU (mC (.int 1)))) [some (.tr io (PG.wk st)),some (.sh (.int b)),some (.sh (PG.aY it)),some (.ow (l.map PG.aY))] = .nx [some (.tr io (PG.wk (l ++ st))),some (.sh (.int b)),some (.sh (PG.aY it)),some (.ow (l.map PG.aY))]:=
    ID (io:=io) rfl (by simp [Fw]) (by omega)
   have h3:mR "Walk" "brackets" cH [.b 0 aH] [some (.tr io (PG.wk (l ++ st))),some (.sh (.int b)),some (.sh (PG.aY it)),some (.ow (l.map PG.aY))] = .ok (.sh (.int (PG.cnt (l ++ st)))):=D7 (io:=io) rfl (by simp; omega)
   have h4:(decide ((PG.cnt (l ++ st):Int) <= 64)) = decide (PG.cnt (l ++ st) <= 64):=by rw [decide_eq_decide]; omega
   simp -implicitDefEqProofs [hb,rI,cu,h2,h3,h4]
theorem BF (b:Int) (io:Bool) (st:List PG.It):∀ (n:Nat) (x y:Option Sl),st.length < n -> st.length + 8 <= 100000 ->
  ∃ x' y',(fS gT g9 n [some (.tr io (PG.wk st)),some (.sh (.int b)),x,y]).andThen (bc (mC (.bl false))) = .rt [some (.tr io (PG.wk (PG.gon st b).1)),some (.sh (.int b)),x',y'] (.sh (.bl (PG.gon st b).2)):=by
 induction st with
 | nil=>
   intro n x y hn hl
   obtain ⟨m,rfl⟩:∃ m,n = m + 1:=⟨n - 1,by simp at hn; omega⟩
   refine ⟨x,y,?_⟩
   have hc:gT [some (.tr io (PG.wk [])),some (.sh (.int b)),x,y] = .ok false:=xH (i:=0) (ρ:=[some (.tr io (PG.wk [])),some (.sh (.int b)),x,y]) (io:=io) (st:=[]) rfl
   simp [fS,hc,PG.gon]
 | cons it st ih=>
   intro n x y hn hl
   obtain ⟨m,rfl⟩:∃ m,n = m + 1:=⟨n - 1,by simp at hn; omega⟩
   have hc:gT [some (.tr io (PG.wk (it ::st))),some (.sh (.int b)),x,y] = .ok true:=xH (i:=0) (ρ:=[some (.tr io (PG.wk (it ::st))),some (.sh (.int b)),x,y]) (io:=io) (st:=it ::st) rfl
   have ht:=AV b it st io x y (by simp at hl; omega)
   unfold PG.gon
   cases e:PG.bh it b with
   | some l=>
     rw [e] at ht
     exact ⟨some (.sh (PG.aY it)),some (.ow (l.map PG.aY)),by simp only [fS,hc,kT,if_true,ht,Ap,tT]⟩
   | none=>
     rw [e] at ht
     dsimp only at ht ⊢
     cases e2:PG.loose it with
     | false=>
       rw [e2] at ht
       exact ⟨some (.sh (PG.aY it)),some (.sh .non),by simp only [fS,hc,kT,if_true,ht,Ap,tT,Bool.false_eq_true,if_false]⟩
     | true=>
       rw [e2] at ht
       obtain ⟨x',y',h⟩:=ih m (some (.sh (PG.aY it))) (some (.sh .non)) (by simp at hn; omega) (by simp at hl; omega)
       exact ⟨x',y',by simp only [fS,hc,kT,if_true,ht,m4,h]⟩
theorem BD (b:Int) (st:List PG.It) (hl:st.length + 8 < 100000):dZ [.tr true (PG.wk st),.sh (.int b)] = .ok (.bl (PG.gon st b).2) [some (PG.wk (PG.gon st b).1),none]:=by
 obtain ⟨x',y',h⟩:=BF b true st fuel none none (by unfold fuel; omega) (by omega)
 have e:i5 [some (.tr true (PG.wk st)),some (.sh (.int b)),none,none] = _:=h
 show fnI 2 4 i5 _ = _
 unfold fnI
 rw [if_pos (by rfl)]
 show rM 2 (i5 [some (.tr true (PG.wk st)),some (.sh (.int b)),none,none]) = _
 rw [e]
 rfl
theorem Bm (io:Bool) (rw:PV) (row:List Int):∀ (k:Nat) (st:List PG.It) (x y:Option Sl),st.length + 8 * row.length + 8 < 100000 ->
  ∃ x' y',mZ 2 3 jM (sm k (row.map .int)) [some (.tr io (PG.wk st)),some (.sh rw),x,y] = if (PG.tk st row).2 = row.length then .nx [some (.tr io (PG.wk (PG.tk st row).1)),some (.sh rw),x',y'] else .rt [some (.tr io (PG.wk (PG.tk st row).1)),some (.sh rw),x',y'] (.sh (.int ((k + (PG.tk st row).2:Nat):Int))):=by
 induction row with
 | nil=>intro k st x y hl; exact ⟨x,y,by simp [sm,mZ,PG.tk]⟩
 | cons b row ih=>
   intro k st x y hl
   simp only [List.length_cons] at hl
   have hg:=BD b st (by omega)
   have hlen:=PG.zF st b
   have ht:jM [some (.tr io (PG.wk st)),some (.sh rw),some (.sh (.int k)),some (.sh (.int b))] = if (PG.gon st b).2 then .nx [some (.tr io (PG.wk (PG.gon st b).1)),some (.sh rw),some (.sh (.int k)),some (.sh (.int b))] else .rt [some (.tr io (PG.wk (PG.gon st b).1)),some (.sh rw),some (.sh (.int k)),some (.sh (.int b))] (.sh (.int k)):=by
    have ha:lM (.t 0 aH) [some (.tr io (PG.wk st)),some (.sh rw),some (.sh (.int k)),some (.sh (.int b))] = some (.tr true (PG.wk st)):=by simp [lM,aH]
    have ha2:lM (.e (aq 3)) [some (.tr io (PG.wk st)),some (.sh rw),some (.sh (.int k)),some (.sh (.int b))] = some (.sh (.int b)):=by simp [lM]
    have hr:recv "Walk" "goes_on" (some (.tr true (PG.wk st))) = true:=by rw [xP]; simp [recv,aG]
    have hx:oq "Walk" "goes_on" dZ [.t 0 aH,.e (aq 3)] [some (.tr io (PG.wk st)),some (.sh rw),some (.sh (.int k)),some (.sh (.int b))] = .ok [some (.tr io (PG.wk (PG.gon st b).1)),some (.sh rw),some (.sh (.int k)),some (.sh (.int b))] (.sh (.bl (PG.gon st b).2)):=by
     simp only [oq,ha,hr,if_true,i0,jr,ha2,Option.bind_some,Option.map_some,hg]
     simp [fq,ka,aH]
    unfold jM DV
    rw [hx]
    cases (PG.gon st b).2 <;> simp
   unfold PG.tk
   simp only [List.map_cons,sm,mZ,List.set_cons_succ,List.set_cons_zero,ht]
   cases e:(PG.gon st b).2 with
   | false=>exact ⟨some (.sh (.int k)),some (.sh (.int b)),by simp⟩
   | true=>
     obtain ⟨x',y',h⟩:=ih (k + 1) (PG.gon st b).1 (some (.sh (.int k))) (some (.sh (.int b))) (by omega)
     refine ⟨x',y',?_⟩
     simp only [if_true,m4,h,List.length_cons,Nat.add_right_cancel_iff]
     have:k + 1 + (PG.tk (PG.gon st b).1 row).2 = k + ((PG.tk (PG.gon st b).1 row).2 + 1):=by omega
     rw [this]
theorem Hd (st:List PG.It) (row:List Int) (hl:st.length + 8 * row.length + 8 < 100000):fI [.tr true (PG.wk st),.sh (.lst (row.map .int))] = .ok (.int (PG.tk st row).2) [some (PG.wk (PG.tk st row).1),none]:=by
 obtain ⟨x',y',h⟩:=Bm true (.lst (row.map .int)) row 0 st none none hl
 show fnI 2 4 lA _ = _
 unfold fnI
 rw [if_pos (by rfl)]
 show rM 2 (lA [some (.tr true (PG.wk st)),some (.sh (.lst (row.map .int))),none,none]) = _
 unfold lA Ar
 simp only [oi,yP,List.getElem?_cons_succ,List.getElem?_cons_zero,iL,Gj,h]
 by_cases e:(PG.tk st row).2 = row.length
 . simp [e,rM,ot]
 . simp [e,rM,ot]
theorem y7 (st:List PG.It) (hl:st.length <= 100000):de [.bo (PG.wk st)] = .ok (.bl (st.all PG.loose)) [none]:=by
 have hp:cX 0 (pFd 0 aH "coming" n6) [some (.bo (PG.wk st))] = .ok (.al (cm st)):=by
  unfold cX
  rw [wM (s:=.bo (PG.wk st)) rfl rfl]
  simp only [vn]
 have hn:st.length <= lim:=fh (by omega)
 have he:du i6 [] (cm st) = .ok ((st.reverse.map PG.loose).map .bl):=by
  rw [List.map_map]
  refine kx _ fun it _=>?_
  simp [i6,Dv]
 have hb:EX (.lst ((st.reverse.map PG.loose).map .bl)) = some (.sh (.bl (st.all PG.loose))):=by
  simp only [EX,xM,Option.map_some]
  congr 3
  rw [List.all_map,List.all_reverse]
  rfl
 simp -implicitDefEqProofs only [de,nP,fnI,j3,CL,hp,dv,List.map_nil,he,DB,BO,List.map_cons,List.length_cons,List.length_nil,List.replicate,List.append_nil,pw,B6,Dj,List.length_map,List.length_reverse,hn,if_true,hb,wJ,iL,B0,Nat.sub_self,rM]
 rfl
theorem IJ:dc [.tr true (.ob "Walk" [] [])] = .ok .non [some (PG.wk PG.st0)]:=by
 rfl
theorem Gu (row:List Int):∀ st,(PG.tk st row).1.length <= st.length + 8 * row.length + 8:=by
 induction row with
 | nil=>intro st; simp [PG.tk]
 | cons b row ih=>
   intro st
   have:=PG.zF st b
   have h2:=ih (PG.gon st b).1
   unfold PG.tk
   split <;> simp only [List.length_cons] <;> omega
noncomputable def ofO:Option Nat -> PV
 | some k=>.int k
 | none=>.non
theorem pb (row:List Int) (hl:8 * row.length + 20 < 100000):lu [.lst (row.map .int)] = .ok (.sh (ofO (PG.flt row))):=by
 have ht:=Hd PG.st0 row (by simp [PG.st0]; omega)
 have hlen:=Gu row PG.st0
 have hw:=y7 (PG.tk PG.st0 row).1 (by have:PG.st0.length = 3:=rfl; omega)
 have h0:vj "Walk" dc [some (.sh (.lst (row.map .int))),none,none] = .ok (PG.wk PG.st0):=by unfold vj; rw [IJ]
 have h1:jb 2 (oq "Walk" "take" fI [.t 1 aH,.e (aq 0)]) [some (.sh (.lst (row.map .int))),some (.tr false (PG.wk PG.st0)),none] = .nx [some (.sh (.lst (row.map .int))),some (.tr false (PG.wk (PG.tk PG.st0 row).1)),some (.sh (.int (PG.tk PG.st0 row).2))]:=by
  have ha:lM (.t 1 aH) [some (.sh (.lst (row.map .int))),some (.tr false (PG.wk PG.st0)),none] = some (.tr true (PG.wk PG.st0)):=by simp [lM,aH]
  have ha2:lM (.e (aq 0)) [some (.sh (.lst (row.map .int))),some (.tr false (PG.wk PG.st0)),none] = some (.sh (.lst (row.map .int))):=by simp [lM]
  have hr:recv "Walk" "take" (some (.tr true (PG.wk PG.st0))) = true:=by rw [xP]; simp [recv,aG]
  unfold jb
  simp only [oq,ha,hr,if_true,i0,jr,ha2,Option.bind_some,Option.map_some,ht]
  simp [fq,ka,aH,nio]
 have h2:mR "Walk" "is_whole" de [.b 1 aH] [some (.sh (.lst (row.map .int))),some (.tr false (PG.wk (PG.tk PG.st0 row).1)),some (.sh (.int (PG.tk PG.st0 row).2))] = .ok (.sh (.bl ((PG.tk PG.st0 row).1.all PG.loose))):=by
  have ha:lM (.b 1 aH) [some (.sh (.lst (row.map .int))),some (.tr false (PG.wk (PG.tk PG.st0 row).1)),some (.sh (.int (PG.tk PG.st0 row).2))] = some (.bo (PG.wk (PG.tk PG.st0 row).1)):=by
   simp only [lM]
   rw [zd (s:=.tr false (PG.wk (PG.tk PG.st0 row).1)) rfl rfl]
   rfl
  have hr:recv "Walk" "is_whole" (some (.bo (PG.wk (PG.tk PG.st0 row).1))) = true:=by rw [xP]; simp [recv,aG]
  simp only [mR,ha,hr,if_true,vZ,jr,Option.bind_some,Option.map_some,hw]
 unfold PG.flt
 have hd:my 1 (vj "Walk" dc) [some (.sh (.lst (row.map .int))),none,none] = .nx [some (.sh (.lst (row.map .int))),some (.tr false (PG.wk PG.st0)),none]:=by
  unfold my; rw [h0]; rfl
 simp -implicitDefEqProofs only [lu,Ak,q9,zK,List.map_cons,List.map_nil,List.length_cons,List.length_nil,List.cons_append,List.nil_append,List.replicate,oi,hd,jv,uS,h1,vg,yZ,Fl,DR,Gd,yP,List.getElem?_cons_succ,List.getElem?_cons_zero,BO,pw,Du,h2]
 by_cases e:(PG.tk PG.st0 row).2 = row.length
 . cases e2:(PG.tk PG.st0 row).1.all PG.loose <;> simp [e,rl,ofO]
 . have e3:¬ ((PG.tk PG.st0 row).2:Int) = (row.length:Int):=by omega
   simp [e,e3,rl,ofO]
noncomputable def fgB (big:Bool) (w:Int):Int:=if w < 10 then 48 + w else (if big then 55 else 87) + w
noncomputable def zA (n:Int) (big:Bool):PG.Sg:=.hx (fgB big (n / 16 / 16 / 16 % 16)) (fgB big (n / 16 / 16 % 16)) (fgB big (n / 16 % 16)) (fgB big (n % 16))
noncomputable def sL:List (Int × Int):=[(34,34),(92,92),(47,47),(8,98),(12,102),(10,110),(13,114),(9,116)]
noncomputable def EH (n m:Int) (b1 b2:Bool):PG.Sg:=.pr (fgB b1 (n / 16 / 16 / 16 % 16)) (fgB b1 (n / 16 / 16 % 16)) (fgB b1 (n / 16 % 16)) (fgB b1 (n % 16)) (fgB b2 (m / 16 / 16 / 16 % 16)) (fgB b2 (m / 16 / 16 % 16)) (fgB b2 (m / 16 % 16)) (fgB b2 (m % 16))
noncomputable def pV (p n:Int):PG.Sg:=
 if n % 5 = 0 /\ (sL.lookup p).isSome = true then .sh ((sL.lookup p).getD 0) p
 else if 1 < n % 5 /\ 32 <= p /\ p ≠ 34 /\ p ≠ 92 then .pl p
 else if p < 65536 then zA p (decide (n % 5 = 1))
 else EH (55296 + (p - 65536) / 1024) (56320 + (p - 65536) % 1024) (decide (n % 5 = 1)) (decide (n % 5 = 0))
theorem qW (big:Bool) {w:Int} (h:0 <= w /\ w < 16):PG.eZ (fgB big w) = some w:=by
 unfold fgB PG.eZ
 by_cases h1:w < 10
 . rw [if_pos h1,if_pos (by omega)]; congr 1; omega
 . cases big
   . simp only [h1,if_false,Bool.false_eq_true]
     rw [if_neg (by omega),if_neg (by omega),if_pos (by omega)]; congr 1; omega
   . simp only [h1,if_false,if_true]
     rw [if_neg (by omega),if_pos (by omega)]; congr 1; omega
theorem uV {p:Int} (h:(sL.lookup p).isSome = true):((sL.lookup p).getD 0,p) ∈ PG.shP:=by
 unfold sL at h ⊢
 simp only [List.lookup] at h ⊢
 repeat' split
 all_goals first
  | (rename_i e; have e':=eq_of_beq e; subst e'; decide)
  | (simp_all; done)
theorem qP (n:Int) (big:Bool) (h:0 <= n /\ n < 65536):(PG.eZ (fgB big (n / 16 / 16 / 16 % 16)) = some (n / 16 / 16 / 16 % 16) /\ PG.eZ (fgB big (n / 16 / 16 % 16)) = some (n / 16 / 16 % 16) /\ PG.eZ (fgB big (n / 16 % 16)) = some (n / 16 % 16) /\ PG.eZ (fgB big (n % 16)) = some (n % 16)) /\
  PG.cod (fgB big (n / 16 / 16 / 16 % 16)) (fgB big (n / 16 / 16 % 16)) (fgB big (n / 16 % 16)) (fgB big (n % 16)) = n:=by
 have e1:=qW big (w:=n / 16 / 16 / 16 % 16) (by omega)
 have e2:=qW big (w:=n / 16 / 16 % 16) (by omega)
 have e3:=qW big (w:=n / 16 % 16) (by omega)
 have e4:=qW big (w:=n % 16) (by omega)
 refine ⟨⟨e1,e2,e3,e4⟩,?_⟩
 simp only [PG.cod,PG.mE e1,PG.mE e2,PG.mE e3,PG.mE e4]
 omega
theorem qJ (p n:Int) (h:PG.mj p = true):PG.Sok (pV p n) /\ PG.Kc (pV p n) = p:=by
 have hr:=PG.qA h
 have hs:p < 55296 \/ 57343 < p:=by
  unfold PG.mj at h
  simp only [Bool.or_eq_true,Bool.and_eq_true,decide_eq_true_eq] at h
  omega
 unfold pV
 split
 . rename_i c; exact ⟨uV c.2,rfl⟩
 . split
   . rename_i c; exact ⟨⟨h,c.2.1,c.2.2.1,c.2.2.2⟩,rfl⟩
   . split
     . rename_i c
       obtain ⟨⟨e1,e2,e3,e4⟩,ec⟩:=qP p (decide (n % 5 = 1)) (by omega)
       exact ⟨⟨by rw [e1]; rfl,by rw [e2]; rfl,by rw [e3]; rfl,by rw [e4]; rfl,by rw [ec]; omega⟩,ec⟩
     . rename_i c
       obtain ⟨⟨e1,e2,e3,e4⟩,ec⟩:=qP (55296 + (p - 65536) / 1024) (decide (n % 5 = 1)) (by omega)
       obtain ⟨⟨f1,f2,f3,f4⟩,fc⟩:=qP (56320 + (p - 65536) % 1024) (decide (n % 5 = 0)) (by omega)
       have g1:(55296 + (p - 65536) / 1024) / 16 / 16 / 16 % 16 = 13:=by omega
       have g2:(56320 + (p - 65536) % 1024) / 16 / 16 / 16 % 16 = 13:=by omega
       refine ⟨⟨⟨by rw [e1,g1],by rw [PG.mE e2]; omega,by rw [PG.mE e2]; omega,by rw [e2]; rfl,by rw [e3]; rfl,by rw [e4]; rfl⟩,by rw [f1,g2],by rw [PG.mE f2]; omega,by rw [f2]; rfl,by rw [f3]; rfl,by rw [f4]; rfl⟩,?_⟩
       show 65536 + 1024 * (PG.cod _ _ _ _ - 55296) + PG.cod _ _ _ _ - 56320 = p
       rw [ec,fc]
       omega
noncomputable def xV (n:Int) (big:Bool):List Int:=[92,117,fgB big (n / 16 / 16 / 16 % 16),fgB big (n / 16 / 16 % 16),fgB big (n / 16 % 16),fgB big (n % 16)]
theorem qT (n:Int) (big:Bool) (found:List Int) (k:Int) (x:Option Sl) (hl:found.length <= 10):lg [some (.sh (.int n)),some (.sh (.bl big)),some (.ow (found.map .int)),some (.sh (.int k)),x] = .nx [some (.sh (.int (n / 16))),some (.sh (.bl big)),some (.ow ((fgB big (n % 16) ::found).map .int)),some (.sh (.int k)),some (.sh (.int (n % 16)))]:=by
 have hlim:1 + found.length <= lim:=fh (by omega)
 unfold fgB
 by_cases h:n % 16 < 10
 . simp -implicitDefEqProofs [lg,h,hlim]
 . cases big <;> simp -implicitDefEqProofs [lg,h,hlim]
theorem ju (n:Int) (big:Bool):g8 [.int n,.bl big] = .ok (.fr ((xV n big).map .int)):=by
 have h1:=qT n big [] 0 none (by simp)
 have h2:=qT (n / 16) big [fgB big (n % 16)] 1 (some (.sh (.int (n % 16)))) (by simp)
 have h3:=qT (n / 16 / 16) big [fgB big (n / 16 % 16),fgB big (n % 16)] 2 (some (.sh (.int (n / 16 % 16)))) (by simp)
 have h4:=qT (n / 16 / 16 / 16) big [fgB big (n / 16 / 16 % 16),fgB big (n / 16 % 16),fgB big (n % 16)] 3 (some (.sh (.int (n / 16 / 16 % 16)))) (by simp)
 simp only [List.map_cons,List.map_nil] at h1 h2 h3 h4
 have hr:dI 4 = [.int 0,.int 1,.int 2,.int 3]:=rfl
 have hb:(-4611686018427387904:Int) <= 4 /\ (4:Int) < 4611686018427387904:=by omega
 simp -implicitDefEqProofs [sy,sd,vm,g8,hr,h1,h2,h3,h4,xV]
theorem qo (n:Int) (big:Bool) (h:0 <= n /\ n < 65536):PG.n5 (zA n big) = xV n big:=by
 obtain ⟨⟨e1,e2,e3,e4⟩,_⟩:=qP n big h
 obtain ⟨g1,g2,g3,g4⟩:=PG.nk (by rw [e1]; rfl) (by rw [e2]; rfl) (by rw [e3]; rfl) (by rw [e4]; rfl)
 show PG.bA 92 ++ (PG.bA 117 ++ (PG.bA _ ++ (PG.bA _ ++ (PG.bA _ ++ (PG.bA _ ++ []))))) = _
 rw [g1,g2,g3,g4]
 rfl
theorem Bf (n m:Int) (b1 b2:Bool) (h:0 <= n /\ n < 65536) (h':0 <= m /\ m < 65536):PG.n5 (EH n m b1 b2) = xV n b1 ++ xV m b2:=by
 rw [<- qo n b1 h,<- qo m b2 h']
 show ([92,117,_,_,_,_,92,117,_,_,_,_]:List Int).flatMap PG.bA = ([92,117,_,_,_,_]:List Int).flatMap PG.bA ++ ([92,117,_,_,_,_]:List Int).flatMap PG.bA
 rw [<- List.flatMap_append]
 rfl
theorem mV (p n:Int) (h:PG.mj p = true):iO [.int p,.int n] = .ok (.fr ((PG.n5 (pV p n)).map .int)):=by
 have hr:=PG.qA h
 have h8:=lh p h
 have hl:(sL.map fun p=>(p.1,PV.int p.2)).lookup p = (sL.lookup p).map .int:=by
  unfold sL
  simp only [List.map,List.lookup]
  repeat' split
  all_goals rfl
 obtain ⟨kv,hkv⟩:∃ kv,kv = sL.map fun p=>(p.1,PV.int p.2):=⟨_,rfl⟩
 rw [<- hkv] at hl
 have hset:my 2 (Ig [(34,34),(92,92),(47,47),(8,98),(12,102),(10,110),(13,114),(9,116)]) [some (.sh (.int p)),some (.sh (.int n)),none,none,none] = .nx [some (.sh (.int p)),some (.sh (.int n)),some (.tr false (.di kv)),none,none]:=by rw [hkv]; rfl
 have hi:∀ a b c d,subAt 2 aH [a,b,some (.tr false (.di kv)),c,d] = some (.di kv):=fun a b c d=>by simp [subAt,fO,slT,aH]
 clear hkv
 have e1:fin (jf [some (.sh (.int p)),some (.sh (.int n)),some (.tr false (.di kv)),none,none]) = .ok (.fr ((PG.n5 (pV p n)).map .int)):=by
  unfold pV
  by_cases c1:n % 5 = 0 /\ (sL.lookup p).isSome = true
  . rw [if_pos c1]
    obtain ⟨c,hc⟩:=Option.isSome_iff_exists.mp c1.2
    have hm:=uV c1.2
    rw [hc] at hm hl ⊢
    have hby:PG.n5 (.sh c p) = [92,c]:=by
     simp only [Option.getD_some,PG.shP,List.mem_cons,Prod.mk.injEq,List.not_mem_nil,or_false] at hm
     rcases hm with h | h | h | h | h | h | h | h <;> (obtain ⟨rfl,rfl⟩:=h; rfl)
    simp only [Option.map_some] at hl
    simp -implicitDefEqProofs [jf,mL,c1.1,xt,Au,hi,hl,hby]
  . rw [if_neg c1]
    have hg1:∀ x,fF (aD (mOp gEq (aq 3) (mC (.int 0)))) (aD (xt false (aq 0) 2 aH)) [some (.sh (.int p)),some (.sh (.int n)),some (.tr false (.di kv)),some (.sh (.int (n % 5))),x] = .ok false:=fun x=>by
     by_cases z:n % 5 = 0
     . have:sL.lookup p = none:=by
        cases e:sL.lookup p with
        | none=>rfl
        | some c=>exact absurd ⟨z,by rw [e]; rfl⟩ c1
       rw [this] at hl
       simp only [Option.map_none] at hl
       simp -implicitDefEqProofs [z,xt,hi,hl]
     . simp -implicitDefEqProofs [z]
    have e2:fin (eY [some (.sh (.int p)),some (.sh (.int n)),some (.tr false (.di kv)),some (.sh (.int (n % 5))),none]) = .ok (.fr ((PG.n5 (if 1 < n % 5 /\ 32 <= p /\ p ≠ 34 /\ p ≠ 92 then .pl p
          else if p < 65536 then zA p (decide (n % 5 = 1)) else EH (55296 + (p - 65536) / 1024) (56320 + (p - 65536) % 1024) (decide (n % 5 = 1)) (decide (n % 5 = 0)))).map .int)):=by
     have e3:fin (km [some (.sh (.int p)),some (.sh (.int n)),some (.tr false (.di kv)),some (.sh (.int (n % 5))),none]) = .ok (.fr ((PG.n5 (if p < 65536 then zA p (decide (n % 5 = 1)) else EH (55296 + (p - 65536) / 1024) (56320 + (p - 65536) % 1024) (decide (n % 5 = 1)) (decide (n % 5 = 0)))).map .int)):=by
      by_cases c3:p < 65536
      . rw [if_pos c3,qo p _ (by omega)]
        simp -implicitDefEqProofs [km,c3,ju]
      . rw [if_neg c3,Bf _ _ _ _ (by omega) (by omega)]
        have hlim:(xV (55296 + (p - 65536) / 1024) (decide (n % 5 = 1))).length + (xV (56320 + (p - 65536) % 1024) (decide (n % 5 = 0))).length <= lim:=by simp [xV]
        simp -implicitDefEqProofs [km,c3,qZ,qD,ju,hlim]
     by_cases d1:1 < n % 5
     . by_cases d2:32 <= p
       . by_cases d3:p = 34
         . rw [if_neg (fun z=>z.2.2.1 d3)]
           simp -implicitDefEqProofs [eY,d1,d2,d3]
           simpa [d3] using e3
         . by_cases d4:p = 92
           . rw [if_neg (fun z=>z.2.2.2 d4)]
             simp -implicitDefEqProofs [eY,d1,d2,d3,d4]
             simpa [d4] using e3
           . rw [if_pos ⟨d1,d2,d3,d4⟩]
             have hb:PG.n5 (.pl p) = PG.bA p:=by show PG.bA p ++ [] = _; simp
             rw [hb]
             simp -implicitDefEqProofs [eY,d1,d2,d3,d4,h8]
       . rw [if_neg (fun z=>d2 z.2.1)]
         simp -implicitDefEqProofs [eY,d1,d2]
         exact e3
     . rw [if_neg (fun z=>d1 z.1)]
       simp -implicitDefEqProofs [eY,d1]
       exact e3
    have hs:jf [some (.sh (.int p)),some (.sh (.int n)),some (.tr false (.di kv)),none,none] = eY [some (.sh (.int p)),some (.sh (.int n)),some (.tr false (.di kv)),some (.sh (.int (n % 5))),none]:=by
     have h3:bp 3 (mOp cA (aq 1) (mC (.int 5))) [some (.sh (.int p)),some (.sh (.int n)),some (.tr false (.di kv)),none,none] = .nx [some (.sh (.int p)),some (.sh (.int n)),some (.tr false (.di kv)),some (.sh (.int (n % 5))),none]:=by simp -implicitDefEqProofs
     simp only [jf,oi,h3,jv,mL,yZ,hg1,kT,Bool.false_eq_true,if_false,DT]
    rw [hs]
    exact e2
 simp -implicitDefEqProofs only [iO,uD,Ak,q9,List.map_cons,List.map_nil,List.length_cons,List.length_nil,List.replicate,List.cons_append,List.nil_append,oi,hset,jv]
 exact e1
noncomputable def lts:List Int -> Int -> Nat -> List PG.Sg
 | [],_,_=>[]
 | p ::l,n,k=>pV p (n / (1 + (k:Int) % 7) + k) ::lts l n (k + 1)
theorem JY (l:List Int):∀ n k,l.all PG.mj = true -> (lts l n k).map PG.Kc = l:=by
 induction l with
 | nil=>intro n k _; rfl
 | cons p l ih=>
   intro n k h
   simp only [List.all_cons,Bool.and_eq_true] at h
   simp only [lts,List.map_cons,ih n (k + 1) h.2,(qJ p _ h.1).2]
theorem CK (l:List Int):∀ n k,l.all PG.mj = true -> ∀ s ∈ lts l n k,PG.Sok s:=by
 induction l with
 | nil=>intro n k _ s hs; cases hs
 | cons p l ih=>
   intro n k h s hs
   simp only [List.all_cons,Bool.and_eq_true] at h
   rcases List.mem_cons.mp hs with z | z
   . subst z; exact (qJ p _ h.1).1
   . exact ih n (k + 1) h.2 s z
theorem Dr (s:PG.Sg) (h:PG.Sok s):(PG.n5 s).length <= 12:=by
 cases s with
 | pl p=>
   show (PG.bA p ++ []).length <= 12
   rw [List.append_nil]
   unfold PG.bA
   repeat' split
   all_goals simp
 | sh c p=>
   simp only [PG.Sok,PG.shP,List.mem_cons,Prod.mk.injEq,List.not_mem_nil,or_false] at h
   rcases h with h | h | h | h | h | h | h | h <;> (obtain ⟨rfl,rfl⟩:=h; decide)
 | hx a b c d=>
   obtain ⟨ha,hb,hc,hd,_⟩:=h
   obtain ⟨e1,e2,e3,e4⟩:=PG.nk ha hb hc hd
   show (PG.bA 92 ++ (PG.bA 117 ++ (PG.bA a ++ (PG.bA b ++ (PG.bA c ++ (PG.bA d ++ [])))))).length <= 12
   rw [e1,e2,e3,e4,show PG.bA 92 = [92] from rfl,show PG.bA 117 = [117] from rfl]
   simp
 | pr a b c d e f g h'=>
   obtain ⟨⟨f1,_,_,hb,hcc,hd⟩,f5,_,hf,hg,hh⟩:=h
   obtain ⟨e1,e2,e3,e4⟩:=PG.nk (by rw [f1]; rfl) hb hcc hd
   obtain ⟨e5,e6,e7,e8⟩:=PG.nk (by rw [f5]; rfl) hf hg hh
   show (PG.bA 92 ++ (PG.bA 117 ++ (PG.bA a ++ (PG.bA b ++ (PG.bA c ++ (PG.bA d ++ (PG.bA 92 ++ (PG.bA 117 ++ (PG.bA e ++ (PG.bA f ++ (PG.bA g ++ (PG.bA h' ++ [])))))))))))).length <= 12
   rw [e1,e2,e3,e4,e5,e6,e7,e8,show PG.bA 92 = [92] from rfl,show PG.bA 117 = [117] from rfl]
   simp
theorem AE (l:List Int) (n:Int) (a:Option Sl):∀ (k:Nat) (found:List Int) (x:Option Sl),l.all PG.mj = true -> found.length + 12 * l.length <= 100000 -> ∃ x',jq 4 kn (l.map .int) [a,some (.sh (.int n)),some (.ow (found.map .int)),some (.sh (.int (k:Int))),x] = .nx [a,some (.sh (.int n)),some (.ow ((found ++ PG.inner (lts l n k)).map .int)),some (.sh (.int ((k + l.length:Nat):Int))),x']:=by
 induction l with
 | nil=>intro k found x _ _; exact ⟨x,by simp [lts,PG.inner]⟩
 | cons p l ih=>
   intro k found x hp hl
   simp only [List.all_cons,Bool.and_eq_true] at hp
   simp only [List.length_cons] at hl
   have hs:=mV p (n / (1 + (k:Int) % 7) + k) hp.1
   have h12:=Dr _ (qJ p (n / (1 + (k:Int) % 7) + k) hp.1).1
   have hlim:found.length + (PG.n5 (pV p (n / (1 + (k:Int) % 7) + k))).length <= lim:=fh (by omega)
   obtain ⟨x',h⟩:=ih (k + 1) (found ++ PG.n5 (pV p (n / (1 + (k:Int) % 7) + k))) (some (.sh (.int p))) hp.2 (by simp; omega)
   refine ⟨x',?_⟩
   have hd:(0:Int) < 1 + (k:Int) % 7:=by omega
   have hd2:1 + (k:Int) % 7 < 1073741824:=by omega
   have ht:kn [a,some (.sh (.int n)),some (.ow (found.map .int)),some (.sh (.int (k:Int))),some (.sh (.int p))] = .nx [a,some (.sh (.int n)),some (.ow ((found ++ PG.n5 (pV p (n / (1 + (k:Int) % 7) + k))).map .int)),some (.sh (.int ((k + 1:Nat):Int))),some (.sh (.int p))]:=by
    simp -implicitDefEqProofs [kn,hd,hd2,hs,hlim]
   rw [List.map_cons,kF]
   simp only [List.set_cons_succ,List.set_cons_zero,ht,m4,h]
   have e:k + 1 + l.length = k + (l.length + 1):=by omega
   simp [lts,PG.inner,e]
theorem zJ (l:List Int):∀ n k,(PG.inner (lts l n k)).length <= 12 * l.length \/ l.all PG.mj = false:=by
 induction l with
 | nil=>intro n k; left; simp [lts,PG.inner]
 | cons p l ih=>
   intro n k
   by_cases h1:PG.mj p = true
   . rcases ih n (k + 1) with h | h
     . left
       have h12:=Dr _ (qJ p (n / (1 + (k:Int) % 7) + k) h1).1
       show (PG.n5 _ ++ PG.inner (lts l n (k + 1))).length <= _
       rw [List.length_append,List.length_cons]
       omega
     . right; simp [h]
   . right; simp [h1]
theorem jw (l:List Int) (n:Int) (h:l.all PG.mj = true) (hl:l.length <= 1000):fP [.lst (l.map .int),.int n] = .ok (.fr ((PG.txt (lts l n 0)).map .int)):=by
 obtain ⟨x',h1⟩:=AE l n (some (.sh (.lst (l.map .int)))) 0 [34] none h (by simp; omega)
 have hlen:(PG.inner (lts l n 0)).length <= 12 * l.length:=by
  rcases zJ l n 0 with z | z
  . exact z
  . rw [h] at z; cases z
 have hlim:(PG.inner (lts l n 0)).length + 1 + 1 <= lim:=fh (by omega)
 simp only [List.map_cons,List.map_nil,Int.ofNat_zero,Int.cast_ofNat_Int] at h1
 simp -implicitDefEqProofs only [fP,tP,Ak,q9,List.map_cons,List.map_nil,List.length_cons,List.length_nil,List.replicate,List.cons_append,List.nil_append,oi]
 simp -implicitDefEqProofs [qL,qI,h1,qC,hlim,PG.txt]
noncomputable def low:Nat -> Int -> Int × Nat
 | 0,n=>(n,0)
 | k + 1,n=>if n % 10 = 0 then ((low k (n / 10)).1,(low k (n / 10)).2 + 1) else (n,0)
noncomputable def sv (s ds:List Int):Int:=if s = [45] then -PG.cv ds else PG.cv ds
noncomputable def exV:Option (Int × List Int × List Int) -> Int
 | none=>0
 | some (_,s,ds)=>sv s ds
noncomputable def mwV (m:PG.Nm):Int:=if m.neg then -PG.cv (m.ip ++ m.fr) else PG.cv (m.ip ++ m.fr)
noncomputable def dN (m:Nat):List Nat:=(Nat.toDigits 10 m).map Char.toNat
theorem En (m:Nat):(Str.ofString (toString ((m:Nat):Int))).cps.toList = dN m:=by
 rw [Str.ofString_eq_toList]
 have:(toString ((m:Nat):Int)).toList = Nat.toDigits 10 m:=by
  show (Nat.repr m).toList = _
  simp [Nat.repr]
 rw [this]
 rfl
theorem C2 (m:Nat):wt (Str.ofString (toString ((m:Nat):Int))) = (dN m).map fun c=>PV.str ⟨#[c]⟩:=by
 unfold wt
 rw [En]
theorem Dw:∀ d:Nat,d < 10 -> (Nat.digitChar d).toNat = 48 + d:=by decide
theorem sT (m:Nat):(dN m).map (fun c:Nat=>(c:Int)) = PG.cV m:=by
 induction m using Nat.strongRecOn with
 | _ m ih=>
   rw [PG.cV]
   by_cases h:m < 10
   . rw [if_pos h]
     unfold dN
     rw [Nat.toDigits_of_lt_base h]
     simp [Dw m h]
   . rw [if_neg h,<- ih (m / 10) (by omega)]
     unfold dN
     rw [Nat.toDigits_of_base_le (by decide) (by omega)]
     simp [Dw (m % 10) (by omega)]
theorem Hz (m:Nat):∀ c ∈ dN m,48 <= c /\ c <= 57:=by
 intro c hc
 have h1:(c:Int) ∈ PG.cV m:=by rw [<- sT]; exact List.mem_map.mpr ⟨c,hc,rfl⟩
 have:=PG.xw m _ h1
 unfold PG.isF at this
 omega
theorem G8 (m:Nat):(dN m).length = (PG.cV m).length:=by rw [<- sT]; simp
theorem Fb (m:Nat) (h:m < 100000):((m:Nat):Int).natAbs.log2 < 1920:=by
 have e:((m:Nat):Int).natAbs = m:=by omega
 rw [e]
 by_cases h0:m = 0
 . subst h0; decide
 . have:=(Nat.log2_lt h0 (k:=17)).mpr (by omega)
   omega
theorem xc {me:ae -> OE} {f:Nat -> PV} (m:Nat) (h:m < 100000) (hme:∀ c ∈ dN m,me ([] ++ [some (.sh (.str ⟨#[c]⟩))]) = .ok (.sh (f c))) (ma:ae -> OE) (ρ:ae) (ha:ma ρ = .ok (.sh (.int (m:Int)))):
  oK (mUn oy ma) [] me ρ = .ok (.fr ((dN m).map f)):=by
 have h2:(dN m).length <= lim:=by
  rw [G8]
  have:=PG.oH 4 m (by omega)
  exact fh (by omega)
 have e1:(mUn oy ma) ρ = .ok (.sh (.str (Str.ofString (toString (m:Int))))):=by
  have:oy (.int m) = some (.sh (.str (Str.ofString (toString (m:Int))))):=if_pos (Fb m h)
  simp [ha,this]
 have hel:du me [] ((dN m).map fun c=>PV.str ⟨#[c]⟩) = .ok ((dN m).map f):=kx _ hme
 rw [DD,e1]
 simp only [OE.bind,RV.pv,C2,dv,List.map_nil,hel]
 simp [noX,h2]
theorem Km (c:Nat) (h:48 <= c /\ c <= 57):gJ ([] ++ [some (.sh (.str ⟨#[c]⟩))]) = .ok (.sh (.int ((c:Int) - 48))):=by
 have:AD (.str ⟨#[c]⟩) = some (.sh (.int ((c:Int) - 48))):=if_pos h
 simp [gJ,this]
theorem Gq (c:Nat):fz ([] ++ [some (.sh (.str ⟨#[c]⟩))]) = .ok (.sh (.int (c:Int))):=by
 have:CD (.str ⟨#[c]⟩) = some (.sh (.int ((⟨#[c]⟩:Str).cps.getD 0 0:Nat))):=rfl
 simp [fz,this]
noncomputable def ws (ds:List Int):List Int:=ds.map (· - 48)
theorem wl1 (l:List Int):∀ (w:Int) (a b c d x e f g:Option Sl),∃ x',jq 5 fA (l.map .int) [a,b,c,d,some (.sh (.int w)),x,e,f,g] = .nx [a,b,c,d,some (.sh (.int (l.foldl (fun n d=>n * 10 + d) w))),x',e,f,g]:=by
 induction l with
 | nil=>intro w a b c d x e f g; exact ⟨x,rfl⟩
 | cons y l ih=>
   intro w a b c d x e f g
   obtain ⟨x',h⟩:=ih (w * 10 + y) a b c d (some (.sh (.int y))) e f g
   refine ⟨x',?_⟩
   have ht:fA [a,b,c,d,some (.sh (.int w)),some (.sh (.int y)),e,f,g] = .nx [a,b,c,d,some (.sh (.int (w * 10 + y))),some (.sh (.int y)),e,f,g]:=by simp -implicitDefEqProofs [fA]
   rw [List.map_cons,kF]
   simp only [List.set_cons_succ,List.set_cons_zero,ht,m4,h,List.foldl_cons]
theorem wl2 (l:List Int):∀ (row:List Int) (w p:Int) (a b c x f g:Option Sl),row.length + l.length <= 1000 -> ∃ x',jq 5 gC (l.map .int) [a,b,c,some (.ow (row.map .int)),some (.sh (.int w)),x,some (.sh (.int p)),f,g] = .nx [a,b,c,some (.ow ((row ++ l.map (48 + ·)).map .int)),some (.sh (.int (l.foldl (fun n d=>n * 10 + d) w))),x',some (.sh (.int (p - l.length))),f,g]:=by
 induction l with
 | nil=>intro row w p a b c x f g _; exact ⟨x,by simp⟩
 | cons y l ih=>
   intro row w p a b c x f g hl
   simp only [List.length_cons] at hl
   obtain ⟨x',h⟩:=ih (row ++ [48 + y]) (w * 10 + y) (p - 1) a b c (some (.sh (.int y))) f g (by simp; omega)
   refine ⟨x',?_⟩
   have hlim:row.length < lim:=rQ (by omega)
   have ht:gC [a,b,c,some (.ow (row.map .int)),some (.sh (.int w)),some (.sh (.int y)),some (.sh (.int p)),f,g] = .nx [a,b,c,some (.ow ((row ++ [48 + y]).map .int)),some (.sh (.int (w * 10 + y))),some (.sh (.int y)),some (.sh (.int (p - 1))),f,g]:=by simp -implicitDefEqProofs [gC,hlim]
   rw [List.map_cons,kF]
   simp only [List.set_cons_succ,List.set_cons_zero,ht,m4,h,List.foldl_cons]
   have e1:p - 1 - (l.length:Int) = p - ((l.length:Int) + 1):=by omega
   simp [e1]
theorem zT (ds:List Int):∀ w,(ws ds).foldl (fun n d=>n * 10 + d) w = ds.foldl (fun n d=>10 * n + d - 48) w:=by
 induction ds with
 | nil=>intro w; rfl
 | cons d ds ih=>
   intro w
   simp only [ws,List.map_cons,List.foldl_cons] at ih ⊢
   have:w * 10 + (d - 48) = 10 * w + d - 48:=by omega
   rw [this]
   exact ih _
theorem Iz (ds:List Int):(ws ds).map (48 + ·) = ds:=by
 unfold ws
 rw [List.map_map]
 conv=>rhs; rw [<- List.map_id ds]
 refine List.map_congr_left fun x _=>?_
 show 48 + (x - 48) = x
 omega
theorem CH (xs ys:List Int):PG.cv (xs ++ ys) = ys.foldl (fun n d=>10 * n + d - 48) (PG.cv xs):=by
 unfold PG.cv; rw [List.foldl_append]
noncomputable def bU (n:Int):List Int:=if n / 17 % 3 = 1 then ([48 + n / 19 % 10,48 + n / 23 % 4,48]:List Int).take (1 + n / 29 % 3).toNat else []
noncomputable def gg (n:Int):Option (Int × List Int × List Int):=if n / 31 % 3 = 1 then some (if n / 41 % 2 = 0 then 101 else 69,if n / 43 % 3 = 1 then [45] else if n / 43 % 3 = 2 then [43] else [],(if n / 47 % 4 = 1 then [48] else []) ++ PG.cV (n / 37 % 30).toNat) else none
noncomputable def eQ (n:Int):PG.Nm:=⟨decide (n % 3 = 0),PG.cV (n / 3 % 100000).toNat,bU n,gg n⟩
theorem xa (n:Int):PG.Nok (eQ n) where
 ip:=by
  by_cases h:(n / 3 % 100000).toNat = 0
  . left; show PG.cV _ = _; rw [h,PG.A9]
  . right; exact PG.Bg _ (by omega)
 fr:=fun b hb=>by
  have hb':b ∈ bU n:=hb
  unfold bU at hb'
  split at hb'
  . have:=List.mem_of_mem_take hb'
    simp at this
    unfold PG.isF
    omega
  . cases hb'
 ex:=fun e s ds h=>by
  have h':gg n = some (e,s,ds):=h
  unfold gg at h'
  split at h'
  . injection h' with h'
    injection h' with h1 h'
    injection h' with h2 h3
    refine ⟨?_,?_,?_,?_⟩
    . rw [<- h1]; split <;> simp
    . rw [<- h2]; split
      . simp
      . split <;> simp
    . rw [<- h3]; intro z; exact PG.DW _ (List.append_eq_nil_iff.mp z).2
    . rw [<- h3]; intro b hb
      rcases List.mem_append.mp hb with z | z
      . split at z
        . simp at z; subst z; decide
        . cases z
      . exact PG.xw _ b z
  . cases h'
theorem xK (k:Nat):∀ (n p:Int) (F:Nat),n ≠ 0 -> n.natAbs < 10 ^ k -> k < F -> fS ir jJ F [some (.sh (.int n)),some (.sh (.int p))] = .nx [some (.sh (.int (low k n).1)),some (.sh (.int (p + (low k n).2)))]:=by
 induction k with
 | zero=>intro n p F h0 h _; simp at h; omega
 | succ k ih=>
   intro n p F h0 h hF
   obtain ⟨F,rfl⟩:∃ G,F = G + 1:=⟨F - 1,by omega⟩
   unfold fS low
   by_cases hm:n % 10 = 0
   . rw [Nat.pow_succ] at h
     have h1:n / 10 ≠ 0:=by omega
     have h2:(n / 10).natAbs < 10 ^ k:=by generalize 10 ^ k = z at h; omega
     have:=ih (n / 10) (p + 1) F h1 h2 (by omega)
     have hc:ir [some (.sh (.int n)),some (.sh (.int p))] = .ok true:=by simp [ir,hm]
     have hb:jJ [some (.sh (.int n)),some (.sh (.int p))] = .nx [some (.sh (.int (n / 10))),some (.sh (.int (p + 1)))]:=by simp [jJ]
     simp [hc,hb,hm,this,Int.add_assoc,Int.add_comm 1]
   . simp [ir,hm]
noncomputable def pairOf (k:Nat) (n p:Int):PV:=if n = 0 then .tup [.int 0,.int 0] else .tup [.int (low k n).1,.int (p + (low k n).2)]
theorem BX (k:Nat) (n p:Int) (h:n.natAbs < 10 ^ k) (hk:k <= 90000):eX [.int n,.int p] = .ok (.sh (pairOf k n p)):=by
 unfold pairOf
 by_cases h0:n = 0
 . rw [if_pos h0,h0]; simp -implicitDefEqProofs [eX,o9]
 . rw [if_neg h0]
   have:=xK k n p fuel h0 h (by unfold fuel; omega)
   simp -implicitDefEqProofs [eX,o9,pW,pH,h0,this]
theorem Dt (ds:List Int) (h:∀ b ∈ ds,PG.isF b):0 <= PG.cv ds /\ PG.cv ds < 10 ^ ds.length:=by
 have key:∀ (ds:List Int) (w:Int) (k:Nat),(∀ b ∈ ds,PG.isF b) -> 0 <= w /\ w < 10 ^ k -> 0 <= ds.foldl (fun n d=>10 * n + d - 48) w /\ ds.foldl (fun n d=>10 * n + d - 48) w < 10 ^ (k + ds.length):=by
  intro ds
  induction ds with
  | nil=>intro w k _ hw; simpa using hw
  | cons d ds ih=>
    intro w k hd hw
    have h1:=hd d List.mem_cons_self
    unfold PG.isF at h1
    have h2:(10:Int) ^ (k + 1) = 10 ^ k * 10:=Int.pow_succ 10 k
    have:=ih (10 * w + d - 48) (k + 1) (fun b hb=>hd b (List.mem_cons_of_mem _ hb)) ⟨by omega,by rw [h2]; omega⟩
    rw [List.foldl_cons,List.length_cons]
    rw [show k + 1 + ds.length = k + (ds.length + 1) by omega] at this
    exact this
 have:=key ds 0 0 h (by simp)
 rw [Nat.zero_add] at this
 exact this
theorem BJ (m:PG.Nm) (h:PG.Nok m) (k:Nat) (hk:(m.ip ++ m.fr).length <= k):(mwV m).natAbs < 10 ^ k:=by
 have hip:∀ b ∈ m.ip ++ m.fr,PG.isF b:=by
  intro b hb
  rcases List.mem_append.mp hb with z | z
  . rcases h.ip with e | ⟨d,r,e,h1,h2,h3⟩
    . rw [e] at z; simp at z; subst z; decide
    . rw [e] at z
      rcases List.mem_cons.mp z with y | y
      . unfold PG.isF; omega
      . exact h3 b y
  . exact h.fr b z
 obtain ⟨b1,b2⟩:=Dt _ hip
 have b3:(10:Int) ^ (m.ip ++ m.fr).length <= 10 ^ k:=by
  have:=Nat.pow_le_pow_right (n:=10) (by decide) hk
  have e1:((10 ^ (m.ip ++ m.fr).length:Nat):Int) = (10:Int) ^ (m.ip ++ m.fr).length:=by norm_cast
  have e2:((10 ^ k:Nat):Int) = (10:Int) ^ k:=by norm_cast
  omega
 have e2:((10 ^ k:Nat):Int) = (10:Int) ^ k:=by norm_cast
 unfold mwV
 split <;> omega
theorem ko (n:Int) (hn:0 <= n):fV [.int n] = .ok (.sh (.tup [.lst ((PG.nb (eQ n)).map .int),pairOf 20 (mwV (eQ n)) (exV (eQ n).ex - (eQ n).fr.length)])):=by
 obtain ⟨K,hK⟩:∃ K:Nat,K = (n / 3 % 100000).toNat:=⟨_,rfl⟩
 have hK1:n / 3 % 100000 = (K:Int):=by omega
 have hK2:K < 100000:=by omega
 have hdl:=PG.oH 4 K (by omega)
 obtain ⟨sg,hsg⟩:∃ sg:List Int,sg = if n % 3 = 0 then [45] else []:=⟨_,rfl⟩
 have hsl:sg.length <= 1:=by rw [hsg]; split <;> simp
 have ok:=xa n
 have hfl:(bU n).length <= 3:=by unfold bU; split <;> simp; omega
 have hb20:=BJ (eQ n) ok 20 (by show (PG.cV (n / 3 % 100000).toNat ++ bU n).length <= 20; rw [<- hK]; simp; omega)
 have hpl:=BX 20 (mwV (eQ n)) (exV (eQ n).ex - (eQ n).fr.length) hb20 (by decide)
 have c1:bp 2 (oK (mUn oy (mOp cA (mOp dE (aq 0) (mC (.int 3))) (mC (.int 100000)))) [] gJ) [some (.sh (.int n)),some (.sh (.bl (decide (n % 3 = 0)))),none,none,none,none,none,none,none] = .nx [some (.sh (.int n)),some (.sh (.bl (decide (n % 3 = 0)))),some (.ow ((ws (PG.cV K)).map .int)),none,none,none,none,none,none]:=by
  have:=xc (me:=gJ) (f:=fun c=>.int ((c:Int) - 48)) K hK2 (fun c hc=>Km c (Hz K c hc)) (mOp cA (mOp dE (aq 0) (mC (.int 3))) (mC (.int 100000))) [some (.sh (.int n)),some (.sh (.bl (decide (n % 3 = 0)))),none,none,none,none,none,none,none] (by simp -implicitDefEqProofs [hK1])
  rw [BK,this]
  have e:(dN K).map (fun c:Nat=>PV.int ((c:Int) - 48)) = (ws (PG.cV K)).map .int:=by
   rw [<- sT]; simp [ws,List.map_map,Function.comp_def]
  rw [e]
  rfl
 have c2:bp 3 (gV (eH (aq 1)) (cf (ak (mC (.int 45)) aM)) (cf aM)) [some (.sh (.int n)),some (.sh (.bl (decide (n % 3 = 0)))),some (.ow ((ws (PG.cV K)).map .int)),none,none,none,none,none,none] = .nx [some (.sh (.int n)),some (.sh (.bl (decide (n % 3 = 0)))),some (.ow ((ws (PG.cV K)).map .int)),some (.ow (sg.map .int)),none,none,none,none,none]:=by
  rw [hsg]
  by_cases h:n % 3 = 0 <;> simp -implicitDefEqProofs [h]
 have hel:du ja [] ((ws (PG.cV K)).map .int) = .ok ((PG.cV K).map .int):=by
  have:(PG.cV K).map PV.int = (ws (PG.cV K)).map fun x=>.int (48 + x):=by
   conv=>lhs; rw [<- Iz (PG.cV K)]
   rw [List.map_map]; rfl
  rw [this]
  exact kx _ fun x _=>by simp -implicitDefEqProofs [ja]
 have hdlim:(PG.cV K).length <= lim:=fh (by omega)
 have hslim:sg.length + (PG.cV K).length <= lim:=fh (by omega)
 have c3:bp 3 (mOp lQ (aq 3) (rj (aq 2) [] ja)) [some (.sh (.int n)),some (.sh (.bl (decide (n % 3 = 0)))),some (.ow ((ws (PG.cV K)).map .int)),some (.ow (sg.map .int)),none,none,none,none,none] = .nx [some (.sh (.int n)),some (.sh (.bl (decide (n % 3 = 0)))),some (.ow ((ws (PG.cV K)).map .int)),some (.ow ((sg ++ PG.cV K).map .int)),none,none,none,none,none]:=by
  simp -implicitDefEqProofs [dv,hel,hdlim,hslim]
 obtain ⟨x1,w1⟩:=wl1 (ws (PG.cV K)) 0 (some (.sh (.int n))) (some (.sh (.bl (decide (n % 3 = 0))))) (some (.sh (.lst ((ws (PG.cV K)).map .int)))) (some (.ow ((sg ++ PG.cV K).map .int))) none none none none
 rw [zT] at w1
 have w1':jq 5 fA ((ws (PG.cV K)).map .int) [some (.sh (.int n)),some (.sh (.bl (decide (n % 3 = 0)))),some (.sh (.lst ((ws (PG.cV K)).map .int))),some (.ow ((sg ++ PG.cV K).map .int)),some (.sh (.int 0)),none,none,none,none] = .nx [some (.sh (.int n)),some (.sh (.bl (decide (n % 3 = 0)))),some (.sh (.lst ((ws (PG.cV K)).map .int))),some (.ow ((sg ++ PG.cV K).map .int)),some (.sh (.int (PG.cv (PG.cV K)))),x1,none,none,none]:=w1
 obtain ⟨W,hW⟩:∃ W,W = ws (PG.cV K):=⟨_,rfl⟩
 obtain ⟨R1,hR1⟩:∃ R1,R1 = sg ++ PG.cV K:=⟨_,rfl⟩
 have hR1l:R1.length <= 6:=by rw [hR1]; simp; omega
 obtain ⟨V1,hV1⟩:∃ V1,V1 = PG.cv (PG.cV K):=⟨_,rfl⟩
 rw [<- hW,<- hR1,<- hV1] at w1'
 rw [<- hW] at c1 c2
 rw [<- hW,<- hR1] at c3
 have c4:∃ x2,bb (aD (mOp gEq (mOp cA (mOp dE (aq 0) (mC (.int 17))) (mC (.int 3))) (mC (.int 1)))) (aJ (eN 3 (mC (.int 46))) (sq 5 (A2 (cf (ak (mOp cA (mOp dE (aq 0) (mC (.int 19))) (mC (.int 10))) (ak (mOp cA (mOp dE (aq 0) (mC (.int 23))) (mC (.int 4))) (ak (mC (.int 0)) aM)))) (mC .non) (u4 (mOp fo (mC (.int 1)) (mOp cA (mOp dE (aq 0) (mC (.int 29))) (mC (.int 3)))))) gC)) aR
   [some (.sh (.int n)),some (.sh (.bl (decide (n % 3 = 0)))),some (.sh (.lst (W.map .int))),some (.ow (R1.map .int)),some (.sh (.int V1)),x1,some (.sh (.int 0)),none,none] =
   .nx [some (.sh (.int n)),some (.sh (.bl (decide (n % 3 = 0)))),some (.sh (.lst (W.map .int))),some (.ow ((R1 ++ PG.frB (bU n)).map .int)),some (.sh (.int ((bU n).foldl (fun n d=>10 * n + d - 48) V1))),x2,some (.sh (.int (-((bU n).length:Int)))),none,none]:=by
  by_cases h17:n / 17 % 3 = 1
  . obtain ⟨L,hL⟩:∃ L:List Int,L = ([n / 19 % 10,n / 23 % 4,0]:List Int).take (1 + n / 29 % 3).toNat:=⟨_,rfl⟩
    have hLf:bU n = L.map (48 + ·):=by
     unfold bU
     rw [if_pos h17,hL,List.map_take]
     simp
    have hLl:L.length = (1 + n / 29 % 3).toNat:=by rw [hL]; simp; omega
    have hcut:yN [PV.int (n / 19 % 10),.int (n / 23 % 4),.int 0] none (some (1 + n / 29 % 3)) = L.map .int:=by
     have e1:uP 3 3 (some (1 + n / 29 % 3)) = (1 + n / 29 % 3).toNat:=by
      unfold uP; dsimp only; rw [if_neg (by omega)]; omega
     show ([PV.int (n / 19 % 10),.int (n / 23 % 4),.int 0].drop 0).take (uP 3 3 (some (1 + n / 29 % 3)) - 0) = _
     rw [e1,hL,List.map_take]
     rfl
    obtain ⟨x2,w2⟩:=wl2 L (R1 ++ [46]) V1 0 (some (.sh (.int n))) (some (.sh (.bl (decide (n % 3 = 0))))) (some (.sh (.lst (W.map .int)))) x1 none none (by simp; omega)
    refine ⟨x2,?_⟩
    have hne:bU n ≠ []:=by
     rw [hLf]
     intro z
     have:=congrArg List.length z
     simp [hLl] at this
     omega
    have hfold:L.foldl (fun n d=>n * 10 + d) V1 = (bU n).foldl (fun n d=>10 * n + d - 48) V1:=by
     have:=zT (bU n) V1
     rw [<- this,hLf]
     congr 1
     unfold ws
     rw [List.map_map]
     conv=>lhs; rw [<- List.map_id L]
     refine List.map_congr_left fun x _=>?_
     show x = 48 + x - 48
     omega
    have hrow:R1 ++ [46] ++ L.map (48 + ·) = R1 ++ PG.frB (bU n):=by
     unfold PG.frB
     rw [if_neg hne,hLf]; simp
    rw [hfold,hrow] at w2
    have hlen:(0:Int) - (L.length:Int) = -((bU n).length:Int):=by rw [hLf]; simp
    rw [hlen] at w2
    have hl1:R1.length < lim:=rQ (by omega)
    have w2':=w2
    simp only [List.map_append,List.map_cons,List.map_nil] at w2'
    simp -implicitDefEqProofs [h17,hl1,hcut,w2']
  . refine ⟨x1,?_⟩
    have hf:bU n = []:=by unfold bU; rw [if_neg h17]
    rw [hf]
    simp -implicitDefEqProofs [h17,PG.frB]
 obtain ⟨x2,c4⟩:=c4
 obtain ⟨R2,hR2⟩:∃ R2,R2 = R1 ++ PG.frB (bU n):=⟨_,rfl⟩
 have hR2l:R2.length <= 10:=by
  rw [hR2]
  unfold PG.frB
  split <;> simp <;> omega
 have hV2:(bU n).foldl (fun n d=>10 * n + d - 48) V1 = PG.cv (PG.cV K ++ bU n):=by rw [CH,hV1]
 rw [hV2,<- hR2] at c4
 obtain ⟨V2,hV2e⟩:∃ V2,V2 = PG.cv (PG.cV K ++ bU n):=⟨_,rfl⟩
 rw [<- hV2e] at c4
 have c5:∃ y z,bb (aD (mOp gEq (mOp cA (mOp dE (aq 0) (mC (.int 31))) (mC (.int 3))) (mC (.int 1)))) (aJ (bp 7 (mOp cA (mOp dE (aq 0) (mC (.int 37))) (mC (.int 30)))) (aJ (eN 3 (mOp mI (cf (ak (mC (.int 101)) (ak (mC (.int 69)) aM))) (mOp cA (mOp dE (aq 0) (mC (.int 41))) (mC (.int 2))))) (aJ (bp 8 (mOp gEq (mOp cA (mOp dE (aq 0) (mC (.int 43))) (mC (.int 3))) (mC (.int 1)))) (aJ (bb (eH (aq 8)) (eN 3 (mC (.int 45))) (bb (aD (mOp gEq (mOp cA (mOp dE (aq 0) (mC (.int 43))) (mC (.int 3))) (mC (.int 2)))) (eN 3 (mC (.int 43))) aR)) (aJ (bb (aD (mOp gEq (mOp cA (mOp dE (aq 0) (mC (.int 47))) (mC (.int 4))) (mC (.int 1)))) (eN 3 (mC (.int 48))) aR) (aJ (bp 3 (mOp lQ (aq 3) (oK (mUn oy (aq 7)) [] fz))) (bp 6 (mOp fo (aq 6) (gV (eH (aq 8)) (mUn gU (aq 7)) (aq 7)))))))))) aR
   [some (.sh (.int n)),some (.sh (.bl (decide (n % 3 = 0)))),some (.sh (.lst (W.map .int))),some (.ow (R2.map .int)),some (.sh (.int V2)),x2,some (.sh (.int (-((bU n).length:Int)))),none,none] =
   .nx [some (.sh (.int n)),some (.sh (.bl (decide (n % 3 = 0)))),some (.sh (.lst (W.map .int))),some (.ow ((R2 ++ PG.exB (gg n)).map .int)),some (.sh (.int V2)),x2,some (.sh (.int (exV (gg n) - (bU n).length))),y,z]:=by
  by_cases h31:n / 31 % 3 = 1
  . obtain ⟨M,hM⟩:∃ M:Nat,M = (n / 37 % 30).toNat:=⟨_,rfl⟩
    have hM1:n / 37 % 30 = (M:Int):=by omega
    refine ⟨some (.sh (.int (M:Int))),some (.sh (.bl (decide (n / 43 % 3 = 1)))),?_⟩
    obtain ⟨eb,heb⟩:∃ eb:Int,eb = if n / 41 % 2 = 0 then 101 else 69:=⟨_,rfl⟩
    obtain ⟨sx,hsx⟩:∃ sx:List Int,sx = if n / 43 % 3 = 1 then [45] else if n / 43 % 3 = 2 then [43] else []:=⟨_,rfl⟩
    obtain ⟨zx,hzx⟩:∃ zx:List Int,zx = if n / 47 % 4 = 1 then [48] else []:=⟨_,rfl⟩
    have hex:gg n = some (eb,sx,zx ++ PG.cV M):=by unfold gg; rw [if_pos h31,heb,hsx,hzx,hM]
    have hsxl:sx.length <= 1:=by rw [hsx]; split
                                 . simp
                                 . split <;> simp
    have hzxl:zx.length <= 1:=by rw [hzx]; split <;> simp
    have hml:=PG.oH 4 M (by omega)
    have hat:atP [PV.int 101,.int 69] (n / 41 % 2) = some (.int eb):=by
     have:n / 41 % 2 = 0 \/ n / 41 % 2 = 1:=by omega
     rw [heb]
     rcases this with h | h <;> rw [h] <;> rfl
    have hcvz:PG.cv (zx ++ PG.cV M) = (M:Int):=by
     have:PG.cv (PG.cV M) = M:=PG.Fs M
     rw [hzx]
     split
     . rw [CH]; exact this
     . exact this
    have hexv:exV (gg n) = if n / 43 % 3 = 1 then -(M:Int) else (M:Int):=by
     rw [hex]
     show sv sx (zx ++ PG.cV M) = _
     unfold sv
     rw [hcvz,hsx]
     by_cases h1:n / 43 % 3 = 1
     . simp [h1]
     . by_cases h2:n / 43 % 3 = 2 <;> simp [h1,h2]
    have l1:R2.length < lim:=rQ (by omega)
    have l2:R2.length + 1 < lim:=rQ (by omega)
    obtain ⟨R3,hR3⟩:∃ R3,R3 = R2 ++ [eb]:=⟨_,rfl⟩
    have g1:eN 3 (mOp mI (cf (ak (mC (.int 101)) (ak (mC (.int 69)) aM))) (mOp cA (mOp dE (aq 0) (mC (.int 41))) (mC (.int 2)))) [some (.sh (.int n)),some (.sh (.bl (decide (n % 3 = 0)))),some (.sh (.lst (W.map .int))),some (.ow (R2.map .int)),some (.sh (.int V2)),x2,some (.sh (.int (-((bU n).length:Int)))),some (.sh (.int (M:Int))),none] = .nx [some (.sh (.int n)),some (.sh (.bl (decide (n % 3 = 0)))),some (.sh (.lst (W.map .int))),some (.ow (R3.map .int)),some (.sh (.int V2)),x2,some (.sh (.int (-((bU n).length:Int)))),some (.sh (.int (M:Int))),none]:=by
     rw [hR3]; simp -implicitDefEqProofs [hat,l1]
    have hR3l:R3.length <= 11:=by rw [hR3]; simp; omega
    have l3:R3.length < lim:=rQ (by omega)
    obtain ⟨R4,hR4⟩:∃ R4,R4 = R3 ++ sx:=⟨_,rfl⟩
    have g2:bb (eH (aq 8)) (eN 3 (mC (.int 45))) (bb (aD (mOp gEq (mOp cA (mOp dE (aq 0) (mC (.int 43))) (mC (.int 3))) (mC (.int 2)))) (eN 3 (mC (.int 43))) aR) [some (.sh (.int n)),some (.sh (.bl (decide (n % 3 = 0)))),some (.sh (.lst (W.map .int))),some (.ow (R3.map .int)),some (.sh (.int V2)),x2,some (.sh (.int (-((bU n).length:Int)))),some (.sh (.int (M:Int))),some (.sh (.bl (decide (n / 43 % 3 = 1))))] = .nx [some (.sh (.int n)),some (.sh (.bl (decide (n % 3 = 0)))),some (.sh (.lst (W.map .int))),some (.ow (R4.map .int)),some (.sh (.int V2)),x2,some (.sh (.int (-((bU n).length:Int)))),some (.sh (.int (M:Int))),some (.sh (.bl (decide (n / 43 % 3 = 1))))]:=by
     rw [hR4,hsx]
     by_cases h1:n / 43 % 3 = 1
     . simp -implicitDefEqProofs [h1,l3]
     . by_cases h2:n / 43 % 3 = 2 <;> simp -implicitDefEqProofs [h1,h2,l3]
    have hR4l:R4.length <= 12:=by rw [hR4]; simp; omega
    have l4:R4.length < lim:=rQ (by omega)
    obtain ⟨R5,hR5⟩:∃ R5,R5 = R4 ++ zx:=⟨_,rfl⟩
    have g3:bb (aD (mOp gEq (mOp cA (mOp dE (aq 0) (mC (.int 47))) (mC (.int 4))) (mC (.int 1)))) (eN 3 (mC (.int 48))) aR [some (.sh (.int n)),some (.sh (.bl (decide (n % 3 = 0)))),some (.sh (.lst (W.map .int))),some (.ow (R4.map .int)),some (.sh (.int V2)),x2,some (.sh (.int (-((bU n).length:Int)))),some (.sh (.int (M:Int))),some (.sh (.bl (decide (n / 43 % 3 = 1))))] = .nx [some (.sh (.int n)),some (.sh (.bl (decide (n % 3 = 0)))),some (.sh (.lst (W.map .int))),some (.ow (R5.map .int)),some (.sh (.int V2)),x2,some (.sh (.int (-((bU n).length:Int)))),some (.sh (.int (M:Int))),some (.sh (.bl (decide (n / 43 % 3 = 1))))]:=by
     rw [hR5,hzx]
     by_cases h1:n / 47 % 4 = 1 <;> simp -implicitDefEqProofs [h1,l4]
    have hR5l:R5.length <= 13:=by rw [hR5]; simp; omega
    have l5:R5.length + (PG.cV M).length <= lim:=fh (by omega)
    have hcs:=xc (me:=fz) (f:=fun c=>.int (c:Int)) M (by omega) (fun c _=>Gq c) (aq 7) [some (.sh (.int n)),some (.sh (.bl (decide (n % 3 = 0)))),some (.sh (.lst (W.map .int))),some (.ow (R5.map .int)),some (.sh (.int V2)),x2,some (.sh (.int (-((bU n).length:Int)))),some (.sh (.int (M:Int))),some (.sh (.bl (decide (n / 43 % 3 = 1))))] (by simp)
    have hdd:(dN M).map (fun c:Nat=>PV.int (c:Int)) = (PG.cV M).map .int:=by rw [<- sT,List.map_map]; rfl
    rw [hdd] at hcs
    have g4:bp 3 (mOp lQ (aq 3) (oK (mUn oy (aq 7)) [] fz)) [some (.sh (.int n)),some (.sh (.bl (decide (n % 3 = 0)))),some (.sh (.lst (W.map .int))),some (.ow (R5.map .int)),some (.sh (.int V2)),x2,some (.sh (.int (-((bU n).length:Int)))),some (.sh (.int (M:Int))),some (.sh (.bl (decide (n / 43 % 3 = 1))))] = .nx [some (.sh (.int n)),some (.sh (.bl (decide (n % 3 = 0)))),some (.sh (.lst (W.map .int))),some (.ow ((R5 ++ PG.cV M).map .int)),some (.sh (.int V2)),x2,some (.sh (.int (-((bU n).length:Int)))),some (.sh (.int (M:Int))),some (.sh (.bl (decide (n / 43 % 3 = 1))))]:=by
     simp -implicitDefEqProofs only [BK,Gd,hcs,yP,List.getElem?_cons_succ,List.getElem?_cons_zero,pw,B6,B0,Iw,List.length_map,l5,if_true,wJ,iL,EG,List.set_cons_succ,List.set_cons_zero,List.map_append]
    have hRex:R5 ++ PG.cV M = R2 ++ PG.exB (gg n):=by
     rw [hex,hR5,hR4,hR3]
     show _ = R2 ++ (eb ::(sx ++ (zx ++ PG.cV M)))
     simp
    rw [hRex] at g4
    have g5:bp 6 (mOp fo (aq 6) (gV (eH (aq 8)) (mUn gU (aq 7)) (aq 7))) [some (.sh (.int n)),some (.sh (.bl (decide (n % 3 = 0)))),some (.sh (.lst (W.map .int))),some (.ow ((R2 ++ PG.exB (gg n)).map .int)),some (.sh (.int V2)),x2,some (.sh (.int (-((bU n).length:Int)))),some (.sh (.int (M:Int))),some (.sh (.bl (decide (n / 43 % 3 = 1))))] = .nx [some (.sh (.int n)),some (.sh (.bl (decide (n % 3 = 0)))),some (.sh (.lst (W.map .int))),some (.ow ((R2 ++ PG.exB (gg n)).map .int)),some (.sh (.int V2)),x2,some (.sh (.int (exV (gg n) - (bU n).length))),some (.sh (.int (M:Int))),some (.sh (.bl (decide (n / 43 % 3 = 1))))]:=by
     rw [hexv]
     generalize (R2 ++ PG.exB (gg n)).map PV.int = RR
     by_cases h1:n / 43 % 3 = 1
     . have e:-((bU n).length:Int) + -(M:Int) = -(M:Int) - (bU n).length:=by omega
       simp -implicitDefEqProofs [h1,e]
     . have e:-((bU n).length:Int) + (M:Int) = (M:Int) - (bU n).length:=by omega
       simp -implicitDefEqProofs [h1,e]
    have g0:bp 7 (mOp cA (mOp dE (aq 0) (mC (.int 37))) (mC (.int 30))) [some (.sh (.int n)),some (.sh (.bl (decide (n % 3 = 0)))),some (.sh (.lst (W.map .int))),some (.ow (R2.map .int)),some (.sh (.int V2)),x2,some (.sh (.int (-((bU n).length:Int)))),none,none] = .nx [some (.sh (.int n)),some (.sh (.bl (decide (n % 3 = 0)))),some (.sh (.lst (W.map .int))),some (.ow (R2.map .int)),some (.sh (.int V2)),x2,some (.sh (.int (-((bU n).length:Int)))),some (.sh (.int (M:Int))),none]:=by
     simp -implicitDefEqProofs [hM1]
    have g1b:bp 8 (mOp gEq (mOp cA (mOp dE (aq 0) (mC (.int 43))) (mC (.int 3))) (mC (.int 1))) [some (.sh (.int n)),some (.sh (.bl (decide (n % 3 = 0)))),some (.sh (.lst (W.map .int))),some (.ow (R3.map .int)),some (.sh (.int V2)),x2,some (.sh (.int (-((bU n).length:Int)))),some (.sh (.int (M:Int))),none] = .nx [some (.sh (.int n)),some (.sh (.bl (decide (n % 3 = 0)))),some (.sh (.lst (W.map .int))),some (.ow (R3.map .int)),some (.sh (.int V2)),x2,some (.sh (.int (-((bU n).length:Int)))),some (.sh (.int (M:Int))),some (.sh (.bl (decide (n / 43 % 3 = 1))))]:=by
     simp -implicitDefEqProofs
    have gt:aD (mOp gEq (mOp cA (mOp dE (aq 0) (mC (.int 31))) (mC (.int 3))) (mC (.int 1))) [some (.sh (.int n)),some (.sh (.bl (decide (n % 3 = 0)))),some (.sh (.lst (W.map .int))),some (.ow (R2.map .int)),some (.sh (.int V2)),x2,some (.sh (.int (-((bU n).length:Int)))),none,none] = .ok true:=by
     simp -implicitDefEqProofs [h31]
    rw [yZ,gt]
    simp only [kT,if_true,oi,g0,jv,g1,g1b,g2,g3,g4,g5]
  . refine ⟨none,none,?_⟩
    have hex:gg n = none:=by unfold gg; rw [if_neg h31]
    rw [hex]
    have e:(0:Int) - ((bU n).length:Int) = -((bU n).length:Int):=by omega
    simp -implicitDefEqProofs [h31,PG.exB,exV,e]
 obtain ⟨y,z,c5⟩:=c5
 have hnb:R2 ++ PG.exB (gg n) = PG.nb (eQ n):=by
  rw [hR2,hR1,hsg]
  show _ = (if (decide (n % 3 = 0)) = true then [45] else []) ++ (PG.cV (n / 3 % 100000).toNat ++ (PG.frB (bU n) ++ PG.exB (gg n)))
  rw [<- hK]
  simp
 rw [hnb] at c5
 have hmw:(if n % 3 = 0 then -V2 else V2) = mwV (eQ n):=by
  rw [hV2e]
  show _ = (if decide (n % 3 = 0) = true then -PG.cv (PG.cV (n / 3 % 100000).toNat ++ bU n) else PG.cv (PG.cV (n / 3 % 100000).toNat ++ bU n))
  rw [<- hK]
  simp
 have c6:bb (eH (aq 1)) (bp 4 (mUn gU (aq 4))) aR [some (.sh (.int n)),some (.sh (.bl (decide (n % 3 = 0)))),some (.sh (.lst (W.map .int))),some (.ow ((PG.nb (eQ n)).map .int)),some (.sh (.int V2)),x2,some (.sh (.int (exV (gg n) - (bU n).length))),y,z] = .nx [some (.sh (.int n)),some (.sh (.bl (decide (n % 3 = 0)))),some (.sh (.lst (W.map .int))),some (.ow ((PG.nb (eQ n)).map .int)),some (.sh (.int (mwV (eQ n)))),x2,some (.sh (.int (exV (gg n) - (bU n).length))),y,z]:=by
  rw [<- hmw]
  by_cases h:n % 3 = 0 <;> simp -implicitDefEqProofs [h]
 have hpl':eX [.int (mwV (eQ n)),.int (exV (gg n) - (bU n).length)] = .ok (.sh (pairOf 20 (mwV (eQ n)) (exV (gg n) - (bU n).length))):=hpl
 have c7:fin (j0 [some (.sh (.int n)),some (.sh (.bl (decide (n % 3 = 0)))),some (.sh (.lst (W.map .int))),some (.ow ((PG.nb (eQ n)).map .int)),some (.sh (.int (mwV (eQ n)))),x2,some (.sh (.int (exV (gg n) - (bU n).length))),y,z]) = .ok (.sh (.tup [.lst ((PG.nb (eQ n)).map .int),pairOf 20 (mwV (eQ n)) (exV (gg n) - (bU n).length)])):=by
  generalize PG.nb (eQ n) = RR
  simp -implicitDefEqProofs [j0,lx,hpl']
 have c0:bp 1 (mOp gEq (mOp cA (aq 0) (mC (.int 3))) (mC (.int 0))) [some (.sh (.int n)),none,none,none,none,none,none,none,none] = .nx [some (.sh (.int n)),some (.sh (.bl (decide (n % 3 = 0)))),none,none,none,none,none,none,none]:=by
  simp -implicitDefEqProofs
 have c3b:bp 4 (mC (.int 0)) [some (.sh (.int n)),some (.sh (.bl (decide (n % 3 = 0)))),some (.ow (W.map .int)),some (.ow (R1.map .int)),none,none,none,none,none] = .nx [some (.sh (.int n)),some (.sh (.bl (decide (n % 3 = 0)))),some (.ow (W.map .int)),some (.ow (R1.map .int)),some (.sh (.int 0)),none,none,none,none]:=by simp -implicitDefEqProofs
 have c3c:i9 2 (sq 5 (aq 2) fA) [some (.sh (.int n)),some (.sh (.bl (decide (n % 3 = 0)))),some (.ow (W.map .int)),some (.ow (R1.map .int)),some (.sh (.int 0)),none,none,none,none] = .nx [some (.sh (.int n)),some (.sh (.bl (decide (n % 3 = 0)))),some (.sh (.lst (W.map .int))),some (.ow (R1.map .int)),some (.sh (.int V1)),x1,none,none,none]:=by
  simp -implicitDefEqProofs [lx,w1']
 have c3d:bp 6 (mC (.int 0)) [some (.sh (.int n)),some (.sh (.bl (decide (n % 3 = 0)))),some (.sh (.lst (W.map .int))),some (.ow (R1.map .int)),some (.sh (.int V1)),x1,none,none,none] = .nx [some (.sh (.int n)),some (.sh (.bl (decide (n % 3 = 0)))),some (.sh (.lst (W.map .int))),some (.ow (R1.map .int)),some (.sh (.int V1)),x1,some (.sh (.int 0)),none,none]:=by simp -implicitDefEqProofs
 simp -implicitDefEqProofs only [fV,qX,Ak,q9,List.map_cons,List.map_nil,List.length_cons,List.length_nil,List.replicate,List.cons_append,List.nil_append,oi,c0,jv,oY,c1,oQ,c2,oR,c3,oe,c3b,oa,c3c,n9,c3d,ox,c4,oF,c5,oA,c6]
 exact c7
noncomputable def wc (j:Int):Int:=if j = 0 then 32 else if j = 1 then 9 else if j = 2 then 10 else 13
noncomputable def lwh (n:Int):List Int:=if 0 < n % 4 then [] else (List.range (n / 64 % 3 + 1).toNat).map fun k:Nat=>wc (n / 4 / (1 + 3 * (k:Int)) % 4)
theorem Hg (j:Int):PG.wht (wc j) = true:=by
 unfold wc; split
 . rfl
 . split
   . rfl
   . split <;> rfl
theorem iC (n:Int):∀ b ∈ lwh n,PG.wht b = true:=by
 unfold lwh
 split
 . simp
 . intro b hb
   obtain ⟨k,_,rfl⟩:=List.mem_map.mp hb
   exact Hg _
theorem fN (n:Int):(lwh n).length <= 3:=by
 unfold lwh
 split
 . simp
 . simp; omega
theorem Bj (n:Int) (j:Nat) (hj:j < 3):jQ [some (.sh (.int n)),some (.sh (.int j))] = .ok (.sh (.int (wc (n / 4 / (1 + 3 * (j:Int)) % 4)))):=by
 have h:¬ (1 + 3 * (j:Int)) = 0:=by omega
 obtain ⟨r,hr⟩:∃ r,r = n / 4 / (1 + 3 * (j:Int)) % 4:=⟨_,rfl⟩
 have h4:r = 0 \/ r = 1 \/ r = 2 \/ r = 3:=by omega
 rw [<- hr]
 have h5:0 < (1 + 3 * (j:Int)):=by omega
 have h6:(1 + 3 * (j:Int)) < 1073741824:=by omega
 simp -implicitDefEqProofs [jQ,h,h5,h6,<- hr]
 rcases h4 with h | h | h | h <;> rw [h] <;> rfl
theorem dY (n:Int):cC [.int n] = .ok (.fr ((lwh n).map .int)):=by
 have el:∀ m:Nat,m <= 3 -> du jQ [some (.sh (.int n))] (dI m) = .ok ((List.range m).map fun j:Nat=>.int (wc (n / 4 / (1 + 3 * (j:Int)) % 4))):=fun m hm=>by
  unfold dI
  refine kx _ fun j hj=>?_
  exact Bj n j (by have:=List.mem_range.mp hj; omega)
 have h1:-4611686018427387904 <= n / 64 % 3 + 1 /\ n / 64 % 3 + 1 < 4611686018427387904:=by omega
 by_cases h:0 < n % 4
 . simp [cC,o5,h,lwh]
 . have hp:(lwh n).map PV.int = (List.range (n / 64 % 3 + 1).toNat).map fun j:Nat=>.int (wc (n / 4 / (1 + 3 * (j:Int)) % 4)):=by
    unfold lwh; rw [if_neg h,List.map_map]; rfl
   rw [hp]
   have h2:=el (n / 64 % 3 + 1).toNat (by omega)
   simp -implicitDefEqProofs [cC,o5,h,dv,h2,h1]
   unfold lim; omega
noncomputable def lnm (ns:List Int) (n:Int):List Int:=if n % 2 = 0 then [97 + n / 2 % 3] else PG.points ns (11 + n / 2 % 37)
theorem ur (ns:List Int) (n:Int):(lnm ns n).all PG.mj = true /\ (lnm ns n).length < 14:=by
 unfold lnm
 split
 . refine ⟨?_,by simp⟩
   have h:n / 2 % 3 = 0 \/ n / 2 % 3 = 1 \/ n / 2 % 3 = 2:=by omega
   rcases h with h | h | h <;> rw [h] <;> decide
 . exact ⟨PG.pj _ _,PG.qy _ _⟩
theorem mS (ns:List Int) (n:Int):gR [.lst (ns.map .int),.int n] = .ok (.fr ((lnm ns n).map .int)):=by
 unfold lnm
 by_cases h:n % 2 = 0
 . simp [gR,qg,h]
 . simp [gR,qg,h,gZ]
noncomputable def iN (ns:List Int) (n:Int):PG.Lf:=
 if n / 5 % 6 = 0 then .wd .null else if n / 5 % 6 = 1 then .wd .tru else if n / 5 % 6 = 2 then .wd .fal
 else if n / 5 % 6 = 3 then .tx (lts (PG.points ns (7 + n % 41)) (n / 30) 0) else .nm (eQ (n / 7))
noncomputable def lfK:PG.Lf -> String
 | .wd .null=>"null" | .wd .tru=>"true" | .wd .fal=>"false" | .tx _=>"text" | .nm _=>"number"
theorem As (ns:List Int) (n:Int):PG.Lok (iN ns n):=by
 unfold iN
 split
 . trivial
 . split
   . trivial
   . split
     . trivial
     . split
       . exact CK _ _ _ (PG.pj _ _)
       . exact xa _
theorem wy (k:Nat) (n p:Int):∃ a b,pairOf k n p = .tup [.int a,.int b]:=by
 unfold pairOf; split
 . exact ⟨_,_,rfl⟩
 . exact ⟨_,_,rfl⟩
noncomputable def dy (row:List Int):OV:=.ol (row.map fun b=>.sh (.int b))
noncomputable def kS (k:Bool):PV:=.str (if k then "row" else "fields")
noncomputable def frO (k:Bool) (items:List PV) (i:Nat) (nm:List Int):OV:=.ol [.sh (kS k),.ol (items.map .sh),.sh (.int i),.sh (.tup (nm.map .int))]
noncomputable def ndO (s:PV) (a b c:Int):OV:=.ol [.sh s,.sh (.int a),.sh (.int b),.sh (.int c)]
noncomputable def brk (k:Bool):Int:=if k then 93 else 125
theorem yt (xs:List PV):tU (xs.map .sh) = some xs:=by
 induction xs with
 | nil=>rfl
 | cons x xs ih=>simp [tU,ih]
theorem bq {m n:ae -> OS} {ρ ρ':ae} (h:m ρ = .nx ρ'):aJ m n ρ = n ρ':=by unfold aJ; rw [h]; rfl
theorem u5 (row:List Int) (nodes fs:List OV) (k:Bool) (items:List PV) (i:Nat) (nm:List Int) (s:PV) (a b c:Int) (hi:nodes[i]? = some (ndO s a b c)) (hr:row.length < 100000) (hn:nodes.length < 100000):
  oO [some (.tr true (dy row)),some (.tr true (.ol nodes)),some (.tr true (.ol (fs ++ [frO k items i nm]))),none,none] =
   jL [some (.tr true (dy (row ++ [brk k]))),some (.tr true (.ol (nodes.set i (ndO s a (row.length + 1) nodes.length)))),some (.tr true (.ol fs)),some (.tr false (frO k items i nm)),none]:=by
 have hil:i < nodes.length:=by
  rcases Nat.lt_or_ge i nodes.length with z | z
  . exact z
  . rw [List.getElem?_eq_none z] at hi; cases hi
 have e0:jb 3 (pS 2 aH) [some (.tr true (dy row)),some (.tr true (.ol nodes)),some (.tr true (.ol (fs ++ [frO k items i nm]))),none,none] =
   .nx [some (.tr true (dy row)),some (.tr true (.ol nodes)),some (.tr true (.ol fs)),some (.tr false (frO k items i nm)),none]:=by
  unfold jb
  rw [E7 (ts:=fs) (x:=frO k items i nm) rfl]
  simp [frO,slO,nio]
 have p3:∀ (x y z u:Option Sl) (ix:ae -> OE) (j:Nat) (v:OV),ix [x,y,z,some (.tr false (frO k items i nm)),u] = .ok (.sh (.int j)) -> j < 4 -> [OV.sh (kS k),.ol (items.map .sh),.sh (.int i),.sh (.tup (nm.map .int))][j]? = some v -> subAt 3 (pIx 3 aH ix) [x,y,z,some (.tr false (frO k items i nm)),u] = some v:=fun x y z u ix j v h1 h2 h3=>
  subAt_one (bF rfl rfl) (kl (bF rfl rfl) h1 rfl (by simp [ixP]; omega)) h3
 unfold oO
 rw [bq e0]
 unfold p8
 have hd:∀ (x y z u:Option Sl),mD (gV (aD (mOp gEq (cX 3 (pIx 3 aH (mC (.int 0)))) (mC (.str "row")))) (mC (.int 93)) (mC (.int 125))) [x,y,z,some (.tr false (frO k items i nm)),u] = .ok (.sh (.int (brk k))):=fun x y z u=>by
  have:=mY (p3 x y z u (mC (.int 0)) 0 (.sh (kS k)) rfl (by omega) rfl)
  cases k <;> simp -implicitDefEqProofs [mD,gV,aD,this,kS,brk,gEq,eqS,aG]
 have e1:cb 0 aH (mD (gV (aD (mOp gEq (cX 3 (pIx 3 aH (mC (.int 0)))) (mC (.str "row")))) (mC (.int 93)) (mC (.int 125)))) [some (.tr true (dy row)),some (.tr true (.ol nodes)),some (.tr true (.ol fs)),some (.tr false (frO k items i nm)),none] =
   .nx [some (.tr true (dy (row ++ [brk k]))),some (.tr true (.ol nodes)),some (.tr true (.ol fs)),some (.tr false (frO k items i nm)),none]:=by
  rw [sZ (ts:=row.map fun b=>.sh (.int b)) rfl (hd _ _ _ _) (by rw [List.length_map]; exact fh (n:=row.length + 1) (by omega))]
  simp [dy]
 rw [bq e1]
 have px:∀ (x z u:Option Sl) (ns:List OV),ns.length = nodes.length -> pIx 1 aH (cX 3 (pIx 3 aH (mC (.int 2)))) [x,some (.tr true (.ol ns)),z,some (.tr false (frO k items i nm)),u] = some [.ix i]:=fun x z u ns hns=>
  kl (bF rfl rfl) (mY (p3 x _ z u (mC (.int 2)) 2 (.sh (.int i)) rfl (by omega) rfl)) rfl (by simp [ixP]; omega)
 unfold pU
 have e2:oV 1 (pIx 1 aH (cX 3 (pIx 3 aH (mC (.int 2))))) (mC (.int 2)) (mD (gd 0 aH)) [some (.tr true (dy (row ++ [brk k]))),some (.tr true (.ol nodes)),some (.tr true (.ol fs)),some (.tr false (frO k items i nm)),none] =
   .nx [some (.tr true (dy (row ++ [brk k]))),some (.tr true (.ol (nodes.set i (ndO s a (row.length + 1) c)))),some (.tr true (.ol fs)),some (.tr false (frO k items i nm)),none]:=by
  have hl:=tH (iW (ρ:=[some (.tr true (dy (row ++ [brk k]))),some (.tr true (.ol nodes)),some (.tr true (.ol fs)),some (.tr false (frO k items i nm)),none]) (i:=0) (bF rfl rfl))
  rw [tf (j2:=2) rfl (px _ _ _ nodes rfl) hi rfl rfl rfl (x:=.sh (.int (row.length + 1))) (by unfold mD; rw [hl]; simp)]
  rfl
 rw [bq e2]
 unfold pP
 have e3:oV 1 (pIx 1 aH (cX 3 (pIx 3 aH (mC (.int 2))))) (mC (.int 3)) (mD (gd 1 aH)) [some (.tr true (dy (row ++ [brk k]))),some (.tr true (.ol (nodes.set i (ndO s a (row.length + 1) c)))),some (.tr true (.ol fs)),some (.tr false (frO k items i nm)),none] =
   .nx [some (.tr true (dy (row ++ [brk k]))),some (.tr true (.ol (nodes.set i (ndO s a (row.length + 1) nodes.length)))),some (.tr true (.ol fs)),some (.tr false (frO k items i nm)),none]:=by
  have hl:=tH (iW (ρ:=[some (.tr true (dy (row ++ [brk k]))),some (.tr true (.ol (nodes.set i (ndO s a (row.length + 1) c)))),some (.tr true (.ol fs)),some (.tr false (frO k items i nm)),none]) (i:=1) (bF rfl rfl))
  have hi2:(nodes.set i (ndO s a (row.length + 1) c))[i]? = some (ndO s a (row.length + 1) c):=by simp [hil]
  rw [tf (j2:=3) rfl (px _ _ _ _ (by simp)) hi2 rfl rfl rfl (x:=.sh (.int nodes.length)) (by unfold mD; rw [hl]; simp)]
  simp [ndO]
 rw [bq e3]
theorem vc (x y z:Option Sl) (k:Bool) (items:List PV) (i:Nat) (nm:List Int) (hit:items.length < 100000):
  bp 4 (gm (ak (cX 3 (pIx 3 aH (mC (.int 0)))) (ak (mUn lN (cX 3 (pIx 3 aH (mC (.int 1))))) aM))) [x,y,z,some (.tr false (frO k items i nm)),none] =
   .nx [x,y,z,some (.tr false (frO k items i nm)),some (.sh (.tup [kS k,.tup items]))]:=by
 have p3:∀ (ix:ae -> OE) (j:Nat) (v:OV),ix [x,y,z,some (.tr false (frO k items i nm)),none] = .ok (.sh (.int j)) -> j < 4 -> [OV.sh (kS k),.ol (items.map .sh),.sh (.int i),.sh (.tup (nm.map .int))][j]? = some v -> subAt 3 (pIx 3 aH ix) [x,y,z,some (.tr false (frO k items i nm)),none] = some v:=fun ix j v h1 h2 h3=>
  subAt_one (bF rfl rfl) (kl (bF rfl rfl) h1 rfl (by simp [ixP]; omega)) h3
 have h0:=mY (p3 (mC (.int 0)) 0 (.sh (kS k)) rfl (by omega) rfl)
 have h1:cX 3 (pIx 3 aH (mC (.int 1))) [x,y,z,some (.tr false (frO k items i nm)),none] = .ok (.al items):=by
  unfold cX
  rw [p3 (mC (.int 1)) 1 (.ol (items.map .sh)) rfl (by omega) rfl]
  simp only [yt]
 simp -implicitDefEqProofs [bp,h0,h1,lN]
theorem yI (row:List Int) (nodes:List OV) (k:Bool) (items:List PV) (i:Nat) (nm:List Int) (s:PV) (a b c:Int) (hi:nodes[i]? = some (ndO s a b c)) (hr:row.length < 100000) (hn:nodes.length < 100000) (hit:items.length < 100000):
  cT [.tr true (dy row),.tr true (.ol nodes),.tr true (.ol [frO k items i nm])] =
   .ok (.tup [kS k,.tup items]) [some (dy (row ++ [brk k])),some (.ol (nodes.set i (ndO s a (row.length + 1) nodes.length))),some (.ol [])]:=by
 unfold cT fnI
 have e:=u5 row nodes [] k items i nm s a b c hi hr hn
 rw [List.nil_append] at e
 have e0:j3 5 [.tr true (dy row),.tr true (.ol nodes),.tr true (.ol [frO k items i nm])] = [some (.tr true (dy row)),some (.tr true (.ol nodes)),some (.tr true (.ol [frO k items i nm])),none,none]:=rfl
 rw [if_pos (show List.length [Sl.tr true (dy row),Sl.tr true (.ol nodes),Sl.tr true (.ol [frO k items i nm])] = 3 from rfl),e0,e]
 unfold jL
 rw [bq (vc _ _ _ k items i nm hit)]
 unfold lL
 have h:=tO (iW (ρ:=[some (.tr true (dy (row ++ [brk k]))),some (.tr true (.ol (nodes.set i (ndO s a (row.length + 1) nodes.length)))),some (.tr true (.ol [])),some (.tr false (frO k items i nm)),some (.sh (.tup [kS k,.tup items]))]) (i:=2) (bF rfl rfl))
 simp -implicitDefEqProofs [bb,h,jK,iD,rM,ot]
theorem yD (row:List Int) (nodes gs:List OV) (k k':Bool) (items items':List PV) (i i':Nat) (nm nm':List Int) (s s2:PV) (a b c a2 b2 c2:Int) (hi:nodes[i]? = some (ndO s a b c)) (hr:row.length < 100000) (hn:nodes.length < 100000) (hit:items.length < 100000) (hit':items'.length < 100000)
  (h2:k' = false -> 1 <= i /\ nodes[i - 1]? = some (ndO s2 a2 b2 c2)):
  cT [.tr true (dy row),.tr true (.ol nodes),.tr true (.ol (gs ++ [frO k' items' i' nm'] ++ [frO k items i nm]))] =
   .ok (.tup [kS k,.tup items]) [some (dy (row ++ [brk k])),some (.ol (if k' then nodes.set i (ndO s a (row.length + 1) nodes.length) else (nodes.set i (ndO s a (row.length + 1) nodes.length)).set (i - 1) (ndO s2 a2 b2 nodes.length))),
    some (.ol (gs ++ [frO k' (items' ++ [if k' then .tup [kS k,.tup items] else .tup [.tup (nm.map .int),.tup [kS k,.tup items]]]) i' nm']))]:=by
 have hil:i < nodes.length:=by
  rcases Nat.lt_or_ge i nodes.length with z | z
  . exact z
  . rw [List.getElem?_eq_none z] at hi; cases hi
 unfold cT fnI
 have e:=u5 row nodes (gs ++ [frO k' items' i' nm']) k items i nm s a b c hi hr hn
 have e0:j3 5 [.tr true (dy row),.tr true (.ol nodes),.tr true (.ol (gs ++ [frO k' items' i' nm'] ++ [frO k items i nm]))] = [some (.tr true (dy row)),some (.tr true (.ol nodes)),some (.tr true (.ol (gs ++ [frO k' items' i' nm'] ++ [frO k items i nm]))),none,none]:=rfl
 rw [if_pos (show List.length [Sl.tr true (dy row),Sl.tr true (.ol nodes),Sl.tr true (.ol (gs ++ [frO k' items' i' nm'] ++ [frO k items i nm]))] = 3 from rfl),e0,e]
 unfold jL
 rw [bq (vc _ _ _ k items i nm hit)]
 unfold lL
 generalize hN:nodes.set i (ndO s a (row.length + 1) nodes.length) = N
 have hNl:N.length = nodes.length:=by rw [<- hN]; simp
 generalize hv:PV.tup [kS k,.tup items] = val
 generalize hR:dy (row ++ [brk k]) = R
 have h:=tO (iW (ρ:=[some (.tr true R),some (.tr true (.ol N)),some (.tr true (.ol (gs ++ [frO k' items' i' nm']))),some (.tr false (frO k items i nm)),some (.sh val)]) (i:=2) (bF rfl rfl))
 have hg:∀ u:OV,(gs ++ [u])[gs.length]? = some u:=fun u=>by simp
 have px:∀ (x y w v:Option Sl) (u:OV),pIx 2 aH (mUn gU (mC (.int 1))) [x,y,some (.tr true (.ol (gs ++ [u]))),w,v] = some [.ix gs.length]:=fun x y w v u=>
  kl (bF rfl rfl) (r:=.sh (.int (-1))) (by simp) rfl (by simp [ixP]; omega)
 have p0:∀ (x y w v:Option Sl) (its:List PV),cX 2 (pIx 2 (pIx 2 aH (mUn gU (mC (.int 1)))) (mC (.int 0))) [x,y,some (.tr true (.ol (gs ++ [frO k' its i' nm']))),w,v] = .ok (.sh (kS k')):=fun x y w v its=>
  mY (rN (bF rfl rfl) (vY (bF rfl rfl) (px _ _ _ _ _) (hg _) (k:=0) (j2:=0) rfl rfl rfl) (hg _) rfl)
 have e1:cb 2 (pIx 2 (pIx 2 aH (mUn gU (mC (.int 1)))) (mC (.int 1))) (mD (gV (aD (mOp gEq (cX 2 (pIx 2 (pIx 2 aH (mUn gU (mC (.int 1)))) (mC (.int 0)))) (mC (.str "row")))) (aq 4) (gm (ak (cX 3 (pIx 3 aH (mC (.int 3)))) (ak (aq 4) aM)))))
   [some (.tr true R),some (.tr true (.ol N)),some (.tr true (.ol (gs ++ [frO k' items' i' nm']))),some (.tr false (frO k items i nm)),some (.sh val)] =
   .nx [some (.tr true R),some (.tr true (.ol N)),some (.tr true (.ol (gs ++ [frO k' (items' ++ [if k' then val else .tup [.tup (nm.map .int),val]]) i' nm']))),some (.tr false (frO k items i nm)),some (.sh val)]:=by
  have p3:cX 3 (pIx 3 aH (mC (.int 3))) [some (.tr true R),some (.tr true (.ol N)),some (.tr true (.ol (gs ++ [frO k' items' i' nm']))),some (.tr false (frO k items i nm)),some (.sh val)] = .ok (.sh (.tup (nm.map .int))):=
   mY (subAt_one (bF rfl rfl) (kl (bF rfl rfl) (k:=3) (j:=3) rfl rfl rfl) rfl)
  have hd:mD (gV (aD (mOp gEq (cX 2 (pIx 2 (pIx 2 aH (mUn gU (mC (.int 1)))) (mC (.int 0)))) (mC (.str "row")))) (aq 4) (gm (ak (cX 3 (pIx 3 aH (mC (.int 3)))) (ak (aq 4) aM))))
    [some (.tr true R),some (.tr true (.ol N)),some (.tr true (.ol (gs ++ [frO k' items' i' nm']))),some (.tr false (frO k items i nm)),some (.sh val)] = .ok (.sh (if k' then val else .tup [.tup (nm.map .int),val])):=by
   have q0:=p0 (some (.tr true R)) (some (.tr true (.ol N))) (some (.tr false (frO k items i nm))) (some (.sh val)) items'
   cases k' <;> simp -implicitDefEqProofs [mD,gV,aD,q0,p3,kS,gEq,eqS,aG]
  rw [AB (j:=gs.length) (j2:=1) rfl (vY (bF rfl rfl) (px _ _ _ _ _) (hg _) (k:=1) (j2:=1) rfl rfl rfl) (hg _) (xs:=items'.map .sh) rfl hd (by rw [List.length_map]; exact fh (n:=items'.length + 1) (by omega))]
  simp [frO]
 cases k' with
 | true=>
   have q0:=p0 (some (.tr true R)) (some (.tr true (.ol N))) (some (.tr false (frO k items i nm))) (some (.sh val)) (items' ++ [val])
   rw [if_pos rfl] at e1
   have hb:(!(gs ++ [frO true items' i' nm']).isEmpty) = true:=by simp
   rw [hb] at h
   refine Eq.trans (congrArg _ (bq (ρ':=[some (.tr true R),some (.tr true (.ol N)),some (.tr true (.ol (gs ++ [frO true (items' ++ [val]) i' nm']))),some (.tr false (frO k items i nm)),some (.sh val)]) ?_)) ?_
   . unfold bb
     rw [h]
     refine Eq.trans (bq e1) ?_
     simp -implicitDefEqProofs [bb,aD,q0,kS,gEq,eqS,aG]
   . simp -implicitDefEqProofs [jK,iD,rM,ot]
 | false=>
   obtain ⟨h1,h3⟩:=h2 rfl
   have q0:=p0 (some (.tr true R)) (some (.tr true (.ol N))) (some (.tr false (frO k items i nm))) (some (.sh val)) (items' ++ [.tup [.tup (nm.map .int),val]])
   rw [if_neg (by simp)] at e1
   have hb:(!(gs ++ [frO false items' i' nm']).isEmpty) = true:=by simp
   rw [hb] at h
   have hN1:N[i - 1]? = some (ndO s2 a2 b2 c2):=by rw [<- hN,List.getElem?_set_ne (by omega)]; exact h3
   have hp2:mOp uM (cX 3 (pIx 3 aH (mC (.int 2)))) (mC (.int 1)) [some (.tr true R),some (.tr true (.ol N)),some (.tr true (.ol (gs ++ [frO false (items' ++ [.tup [.tup (nm.map .int),val]]) i' nm']))),some (.tr false (frO k items i nm)),some (.sh val)] = .ok (.sh (.int (i - 1:Int))):=by
    have q2:=mY (ρ:=[some (.tr true R),some (.tr true (.ol N)),some (.tr true (.ol (gs ++ [frO false (items' ++ [.tup [.tup (nm.map .int),val]]) i' nm']))),some (.tr false (frO k items i nm)),some (.sh val)]) (i:=3) (mp:=pIx 3 aH (mC (.int 2))) (x:=.int i) (subAt_one (bF rfl rfl) (kl (bF rfl rfl) (k:=2) (j:=2) rfl rfl rfl) rfl)
    simp [q2]
   have hl:=tH (iW (ρ:=[some (.tr true R),some (.tr true (.ol N)),some (.tr true (.ol (gs ++ [frO false (items' ++ [.tup [.tup (nm.map .int),val]]) i' nm']))),some (.tr false (frO k items i nm)),some (.sh val)]) (i:=1) (bF rfl rfl))
   have e3:=tf (ρ:=[some (.tr true R),some (.tr true (.ol N)),some (.tr true (.ol (gs ++ [frO false (items' ++ [.tup [.tup (nm.map .int),val]]) i' nm']))),some (.tr false (frO k items i nm)),some (.sh val)]) (i:=1) (io:=true) (ts:=N) (j:=i - 1) (j2:=3) (mk:=mC (.int 3)) (md:=mD (gd 1 aH)) (x:=.sh (.int N.length)) rfl
    (kl (i:=1) (ts:=N) (bF (s:=.tr true (.ol N)) rfl rfl) hp2 rfl (by rw [show ((i:Int) - 1) = ((i - 1:Nat):Int) by omega]; unfold ixP; rw [if_pos (by omega),if_pos (by omega)]; simp)) hN1 rfl rfl rfl (by unfold mD; rw [hl])
   refine Eq.trans (congrArg _ (bq (ρ':=[some (.tr true R),some (.tr true (.ol (N.set (i - 1) (ndO s2 a2 b2 N.length)))),some (.tr true (.ol (gs ++ [frO false (items' ++ [.tup [.tup (nm.map .int),val]]) i' nm']))),some (.tr false (frO k items i nm)),some (.sh val)]) ?_)) ?_
   . unfold bb
     rw [h]
     refine Eq.trans (bq e1) ?_
     simp -implicitDefEqProofs [bb,aD,q0,kS,gEq,eqS,aG]
     exact e3
   . rw [hNl]
     simp -implicitDefEqProofs [jK,iD,rM,ot]
structure Fr where
 k:Bool
 items:List PV
 i:Nat
 nm:List Int
structure Nd where
 s:String
 a:Int
 b:Int
 c:Int
structure Bd where
 row:List Int
 nodes:List Nd
 frs:List Fr
 val:PV
noncomputable def Fr.o (f:Fr):OV:=frO f.k f.items f.i f.nm
noncomputable def Nd.o (d:Nd):OV:=ndO (.str d.s) d.a d.b d.c
noncomputable def gy (fs:List Fr):OV:=.ol (fs.reverse.map Fr.o)
noncomputable def hZ (ns:List Nd):OV:=.ol (ns.map Nd.o)
theorem ky (f:Fr) (fs:List Fr):gy (f ::fs) = .ol (fs.reverse.map Fr.o ++ [f.o]):=by simp [gy]
noncomputable def full:List Fr -> Bool
 | f ::_=>!f.items.isEmpty
 | []=>false
noncomputable def inF:List Fr -> Bool
 | f ::_=>!f.k
 | []=>false
theorem p5 {ρ:ae} {i:Nat} {io:Bool} {fs:List Fr} (h:ρ[i]? = some (some (.tr io (gy fs)))):dB i aH ρ = .ok (!fs.isEmpty):=by
 rw [tO (iW (bF h rfl))]
 cases fs <;> simp
theorem DO {ρ:ae} {i:Nat} {io:Bool} {f:Fr} {fs:List Fr} (h:ρ[i]? = some (some (.tr io (gy (f ::fs))))):pIx i aH (mUn gU (mC (.int 1))) ρ = some [.ix fs.length]:=by
 rw [ky] at h
 exact kl (bF h rfl) (r:=.sh (.int (-1))) (by simp) rfl (by simp [ixP]; omega)
theorem sU (f:Fr) (fs:List Fr):(fs.reverse.map Fr.o ++ [f.o])[fs.length]? = some f.o:=by simp
theorem uq {ρ:ae} {i:Nat} {io:Bool} {f:Fr} {fs:List Fr} (k:Int) (j:Nat) (hk:k = j) (hj:j < 4) (h:ρ[i]? = some (some (.tr io (gy (f ::fs))))):pIx i (pIx i aH (mUn gU (mC (.int 1)))) (mC (.int k)) ρ = some [.ix fs.length,.ix j]:=by
 have h1:=DO h
 rw [ky] at h
 subst hk
 refine vY (bF h rfl) h1 (sU f fs) (k:=j) rfl rfl ?_
 simp [ixP]; omega
theorem BW {ρ:ae} {i:Nat} {io:Bool} {fs:List Fr} (h:ρ[i]? = some (some (.tr io (gy fs)))):
  fF (dB i aH) (aD (mOp gEq (cX i (pIx i (pIx i aH (mUn gU (mC (.int 1)))) (mC (.int 0)))) (mC (.str "fields")))) ρ = .ok (inF fs):=by
 cases fs with
 | nil=>simp [fF,p5 h,inF]
 | cons f fs=>
   have hi:=uq 0 0 rfl (by omega) h
   have h':=h
   rw [ky] at h'
   have hp:=mY (rN (bF h' rfl) hi (sU f fs) rfl)
   cases hk:f.k <;> simp -implicitDefEqProofs [fF,p5 h,inF,aD,hp,hk,kS,gEq,eqS,aG]
theorem HP {ρ:ae} {i:Nat} {io:Bool} {fs:List Fr} (h:ρ[i]? = some (some (.tr io (gy fs)))):
  fF (dB i aH) (eH (cX i (pIx i (pIx i aH (mUn gU (mC (.int 1)))) (mC (.int 1))))) ρ = .ok (full fs):=by
 cases fs with
 | nil=>simp [fF,p5 h,full]
 | cons f fs=>
   have hi:=uq 1 1 rfl (by omega) h
   have h':=h
   rw [ky] at h'
   have hp:cX i (pIx i (pIx i aH (mUn gU (mC (.int 1)))) (mC (.int 1))) ρ = .ok (.al f.items):=by
    unfold cX
    rw [rN (bF h' rfl) hi (sU f fs) (u:=.ol (f.items.map .sh)) rfl]
    simp only [yt]
   simp -implicitDefEqProofs [fF,p5 h,full,eH,hp,sJ]
noncomputable def jg (fs:List Fr) (row:List Int) (n:Int):List Int:=row ++ lwh (n / 3) ++ (if full fs then 44 ::lwh (n / 11) else [])
noncomputable def ll (ns:List Int) (n:Int):List PG.Sg:=lts (lnm ns (n / 13)) (n / 17) 0
noncomputable def tj (ns:List Int) (n:Int):List Int:=lwh (n / 19) ++ 58 ::lwh (n / 23)
noncomputable def bG (ns:List Int) (B:Bd) (n:Int):List Int:=if inF B.frs then jg B.frs B.row n ++ PG.txt (ll ns n) ++ tj ns n else jg B.frs B.row n
noncomputable def b7 (ns:List Int) (B:Bd) (n:Int):List Nd:=if inF B.frs then B.nodes ++ [⟨"name",(jg B.frs B.row n).length,(jg B.frs B.row n ++ PG.txt (ll ns n)).length,0⟩] else B.nodes
noncomputable def cN (ns:List Int) (B:Bd) (n:Int):List Int:=if inF B.frs then lnm ns (n / 13) else []
theorem tG (fs:List Fr) (row:List Int) (n:Int):(jg fs row n).length <= row.length + 7:=by
 unfold jg
 have h1:=fN (n / 3)
 have h2:=fN (n / 11)
 cases full fs <;> simp <;> omega
theorem zH (l:List Int) (n:Int) (h:l.all PG.mj = true) (h2:l.length < 14):(PG.txt (lts l n 0)).length <= 158:=by
 rcases zJ l n 0 with z | z
 . simp [PG.txt]; omega
 . rw [h] at z; cases z
theorem u2 (ns:List Int) (n:Int):(PG.txt (ll ns n)).length <= 158:=zH _ _ (ur ns _).1 (ur ns _).2
theorem ph (ns:List Int) (B:Bd) (n:Int):(bG ns B n).length <= B.row.length + 180:=by
 unfold bG tj
 have h1:=tG B.frs B.row n
 have h2:=u2 ns n
 have h3:=fN (n / 19)
 have h4:=fN (n / 23)
 cases inF B.frs <;> simp <;> omega
theorem lC {ρ:ae} {i:Nat} {io:Bool} {row ys:List Int} {me:ae -> OE} (h:ρ[i]? = some (some (.tr io (dy row)))) (he:me ρ = .ok (.fr (ys.map .int)) \/ me ρ = .ok (.sh (.lst (ys.map .int)))) (hl:row.length + ys.length <= 1000000):dM i aH me ρ = .nx (ρ.set i (some (.tr io (dy (row ++ ys))))):=by
 rw [BV (ts:=row.map fun b=>.sh (.int b)) h he (by rw [List.length_map,List.length_map]; exact fh hl)]
 simp [dy,Function.comp_def]
theorem wO {ρ:ae} {i:Nat} {io:Bool} {row:List Int} {b:Int} {md:ae -> OD} (h:ρ[i]? = some (some (.tr io (dy row)))) (hd:md ρ = .ok (.sh (.int b))) (hl:row.length < 1000000):cb i aH md ρ = .nx (ρ.set i (some (.tr io (dy (row ++ [b]))))):=by
 rw [sZ (ts:=row.map fun b=>.sh (.int b)) h hd (by rw [List.length_map]; exact fh (n:=row.length + 1) (by omega))]
 simp [dy]
theorem wI {ρ:ae} {i:Nat} {io:Bool} {nds:List Nd} {d:Nd} {md:ae -> OD} (h:ρ[i]? = some (some (.tr io (hZ nds)))) (hd:md ρ = .ok d.o) (hl:nds.length < 1000000):cb i aH md ρ = .nx (ρ.set i (some (.tr io (hZ (nds ++ [d]))))):=by
 rw [sZ (ts:=nds.map Nd.o) h hd (by rw [List.length_map]; exact fh (n:=nds.length + 1) (by omega))]
 simp [hZ]
theorem sX {ρ:ae} {i:Nat} {io:Bool} {row:List Int} (h:ρ[i]? = some (some (.tr io (dy row)))):gd i aH ρ = .ok (.sh (.int row.length)):=by
 rw [tH (iW (bF h rfl)),List.length_map]
theorem vU {ρ:ae} {i:Nat} {io:Bool} {nds:List Nd} (h:ρ[i]? = some (some (.tr io (hZ nds)))):gd i aH ρ = .ok (.sh (.int nds.length)):=by
 rw [tH (iW (bF h rfl)),List.length_map]
theorem E9 (ns:List Int) (B:Bd) (n:Int) (hr:B.row.length < 100000) (hn:B.nodes.length < 100000):
  fK [.sh (.lst (ns.map .int)),.tr true (dy B.row),.tr true (hZ B.nodes),.tr true (gy B.frs),.sh (.int n)] =
   .ok (.tup ((cN ns B n).map .int)) [none,some (dy (bG ns B n)),some (hZ (b7 ns B n)),some (gy B.frs),none]:=by
 have hw:∀ (ρ:ae) (d:Int),ρ[4]? = some (some (.sh (.int n))) -> 0 < d -> d < 1000 -> bI cC (ak (mOp dE (aq 4) (mC (.int d))) aM) ρ = .ok (.fr ((lwh (n / d)).map .int)):=fun ρ d h h1 h2=>by
  have h3:¬ d = 0:=by omega
  have h4:d < 1073741824:=by omega
  simp [h,h1,h3,h4,dY]
 have hbl:=tG B.frs B.row n
 have e0:lr [some (.sh (.lst (ns.map .int))),some (.tr true (dy B.row)),some (.tr true (hZ B.nodes)),some (.tr true (gy B.frs)),some (.sh (.int n)),none,none,none] =
   lE [some (.sh (.lst (ns.map .int))),some (.tr true (dy (jg B.frs B.row n))),some (.tr true (hZ B.nodes)),some (.tr true (gy B.frs)),some (.sh (.int n)),some (.sh (.tup [])),none,none]:=by
  unfold lr
  rw [bq (lC rfl (.inl (hw _ 3 rfl (by omega) (by omega))) (by have:=fN (n / 3); omega))]
  unfold pQ
  rw [bq (ρ':=[some (.sh (.lst (ns.map .int))),some (.tr true (dy (B.row ++ lwh (n / 3)))),some (.tr true (hZ B.nodes)),some (.tr true (gy B.frs)),some (.sh (.int n)),some (.sh (.tup [])),none,none]) (by simp [bp])]
  unfold pK
  refine bq ?_
  unfold bb
  rw [HP (fs:=B.frs) rfl]
  have h3:=fN (n / 3)
  have h11:=fN (n / 11)
  cases hf:full B.frs with
  | false=>simp [jg,hf,aR]
  | true=>
    refine Eq.trans (bq (wO (row:=B.row ++ lwh (n / 3)) rfl rfl (by simp; omega))) ?_
    refine Eq.trans (lC rfl (.inl (hw _ 11 rfl (by omega) (by omega))) (by simp; omega)) ?_
    simp [jg,hf]
 unfold fK fnI
 rw [if_pos (show List.length [Sl.sh (.lst (ns.map .int)),.tr true (dy B.row),.tr true (hZ B.nodes),.tr true (gy B.frs),.sh (.int n)] = 5 from rfl)]
 show rM 5 (lr _) = _
 rw [show j3 8 [.sh (.lst (ns.map .int)),.tr true (dy B.row),.tr true (hZ B.nodes),.tr true (gy B.frs),.sh (.int n)] = [some (.sh (.lst (ns.map .int))),some (.tr true (dy B.row)),some (.tr true (hZ B.nodes)),some (.tr true (gy B.frs)),some (.sh (.int n)),none,none,none] from rfl,e0]
 unfold lE
 cases hf:inF B.frs with
 | false=>
   rw [bq (ρ':=[some (.sh (.lst (ns.map .int))),some (.tr true (dy (jg B.frs B.row n))),some (.tr true (hZ B.nodes)),some (.tr true (gy B.frs)),some (.sh (.int n)),some (.sh (.tup [])),none,none]) (by
    unfold bb
    rw [BW (fs:=B.frs) rfl,hf]
    rfl)]
   simp [cN,bG,b7,hf,lT,iD,rM,ot]
 | true=>
   generalize hrow:jg B.frs B.row n = row
   rw [hrow] at hbl
   have ht:=u2 ns n
   have h19:=fN (n / 19)
   have h23:=fN (n / 23)
   have hnm:=mS ns (n / 13)
   have htx:=jw (lnm ns (n / 13)) (n / 17) (ur ns _).1 (by have:=(ur ns (n / 13)).2; omega)
   change fP _ = .ok (.fr ((PG.txt (ll ns n)).map .int)) at htx
   rw [bq (ρ':=[some (.sh (.lst (ns.map .int))),some (.tr true (dy (bG ns B n))),some (.tr true (hZ (b7 ns B n))),some (.tr true (gy B.frs)),some (.sh (.int n)),some (.sh (.tup ((cN ns B n).map .int))),some (.sh (.lst ((lnm ns (n / 13)).map .int))),some (.sh (.int row.length))]) (by
    unfold bb
    rw [BW (fs:=B.frs) rfl,hf]
    show aJ _ _ _ = _
    rw [bq (ρ':=[some (.sh (.lst (ns.map .int))),some (.tr true (dy row)),some (.tr true (hZ B.nodes)),some (.tr true (gy B.frs)),some (.sh (.int n)),some (.sh (.tup [])),some (.ow ((lnm ns (n / 13)).map .int)),none]) (by simp [bp,hnm])]
    rw [bq (ρ':=[some (.sh (.lst (ns.map .int))),some (.tr true (dy row)),some (.tr true (hZ B.nodes)),some (.tr true (gy B.frs)),some (.sh (.int n)),some (.sh (.tup ((cN ns B n).map .int))),some (.ow ((lnm ns (n / 13)).map .int)),none]) (by simp [bp,lN,cN,hf])]
    rw [bq (ρ':=[some (.sh (.lst (ns.map .int))),some (.tr true (dy row)),some (.tr true (hZ B.nodes)),some (.tr true (gy B.frs)),some (.sh (.int n)),some (.sh (.tup ((cN ns B n).map .int))),some (.ow ((lnm ns (n / 13)).map .int)),some (.sh (.int row.length))]) (by unfold bp; rw [sX (row:=row) rfl]; simp)]
    rw [bq (ρ':=[some (.sh (.lst (ns.map .int))),some (.tr true (dy (row ++ PG.txt (ll ns n)))),some (.tr true (hZ B.nodes)),some (.tr true (gy B.frs)),some (.sh (.int n)),some (.sh (.tup ((cN ns B n).map .int))),some (.sh (.lst ((lnm ns (n / 13)).map .int))),some (.sh (.int row.length))]) (by
     unfold i9
     exact lC (row:=row) rfl (.inl (by simp [lx,htx])) (by omega))]
    rw [bq (wI (nds:=B.nodes) (d:=⟨"name",row.length,(row ++ PG.txt (ll ns n)).length,0⟩) rfl (by
     have:=sX (ρ:=[some (.sh (.lst (ns.map .int))),some (.tr true (dy (row ++ PG.txt (ll ns n)))),some (.tr true (hZ B.nodes)),some (.tr true (gy B.frs)),some (.sh (.int n)),some (.sh (.tup ((cN ns B n).map .int))),some (.sh (.lst ((lnm ns (n / 13)).map .int))),some (.sh (.int row.length))]) (i:=1) (row:=row ++ PG.txt (ll ns n)) rfl
     simp [mD,this,Nd.o,ndO]) (by omega))]
    rw [bq (lC (row:=row ++ PG.txt (ll ns n)) rfl (.inl (hw _ 19 rfl (by omega) (by omega))) (by simp; omega))]
    rw [bq (wO (row:=row ++ PG.txt (ll ns n) ++ lwh (n / 19)) rfl rfl (by simp; omega))]
    rw [lC (row:=row ++ PG.txt (ll ns n) ++ lwh (n / 19) ++ [58]) rfl (.inl (hw _ 23 rfl (by omega) (by omega))) (by simp; omega)]
    simp [bG,b7,hf,hrow,tj])]
   simp [lT,iD,rM,ot]
noncomputable def lfV (ns:List Int) (n:Int):PV:=
 if n / 5 % 6 = 0 then .non else if n / 5 % 6 = 1 then .bl true else if n / 5 % 6 = 2 then .bl false
 else if n / 5 % 6 = 3 then .tup [.str "text",.tup ((PG.points ns (7 + n % 41)).map .int)]
 else match pairOf 20 (mwV (eQ (n / 7))) (exV (eQ (n / 7)).ex - (eQ (n / 7)).fr.length) with
  | .tup [.int a,.int b]=>.tup [.str "number",.int a,.int b]
  | _=>.non
theorem D3 (ns:List Int) (n:Int) (hn:0 <= n):bH [.lst (ns.map .int),.int n] = .ok (.sh (.tup [.str (lfK (iN ns n)),.lst ((PG.lfb (iN ns n)).map .int),lfV ns n])):=by
 have e1:=gZ ns (7 + n % 41)
 have e2:=jw (PG.points ns (7 + n % 41)) (n / 30) (PG.pj _ _) (by have:=PG.qy ns (7 + n % 41); omega)
 have e3:=ko (n / 7) (by omega)
 unfold iN lfV
 by_cases h0:n / 5 % 6 = 0
 . rw [if_pos h0,if_pos h0]
   simp [bH,ee,dD,h0,lfK,PG.lfb,PG.wdb]
 . rw [if_neg h0,if_neg h0]
   by_cases h1:n / 5 % 6 = 1
   . rw [if_pos h1,if_pos h1]
     simp [bH,ee,dD,eB,h1,lfK,PG.lfb,PG.wdb]
   . rw [if_neg h1,if_neg h1]
     by_cases h2:n / 5 % 6 = 2
     . rw [if_pos h2,if_pos h2]
       simp [bH,ee,dD,eB,ft,h2,lfK,PG.lfb,PG.wdb]
     . rw [if_neg h2,if_neg h2]
       by_cases h3:n / 5 % 6 = 3
       . rw [if_pos h3,if_pos h3]
         simp -implicitDefEqProofs [bH,ee,dD,eB,ft,ia,h3,e1,e2,lx,lN,lfK,PG.lfb]
       . rw [if_neg h3,if_neg h3]
         obtain ⟨a,b,hab⟩:=wy 20 (mwV (eQ (n / 7))) (exV (eQ (n / 7)).ex - (eQ (n / 7)).fr.length)
         rw [hab] at e3 ⊢
         simp -implicitDefEqProofs [bH,ee,dD,eB,ft,ia,kg,ki,h0,h1,h2,h3,e3,lfK,PG.lfb,atP,ixP]
theorem AW (n:Int):(PG.nb (eQ n)).length <= 30:=by
 have h1:(PG.cV (n / 3 % 100000).toNat).length <= 5:=PG.oH 4 _ (by omega)
 have h2:(PG.cV (n / 37 % 30).toNat).length <= 2:=PG.oH 1 _ (by omega)
 have h3:(PG.frB (bU n)).length <= 4:=by
  have:(bU n).length <= 3:=by unfold bU; split <;> simp; omega
  unfold PG.frB
  split <;> simp; omega
 have h4:(PG.exB (gg n)).length <= 6:=by
  unfold gg
  split
  . have hs:(if n / 43 % 3 = 1 then [45] else if n / 43 % 3 = 2 then [43] else []:List Int).length <= 1:=by split; simp; split <;> simp
    have ht:(if n / 47 % 4 = 1 then [48] else []:List Int).length <= 1:=by split <;> simp
    simp only [PG.exB,List.length_append,List.length_cons]
    omega
  . simp [PG.exB]
 unfold PG.nb eQ
 simp only [List.length_append]
 split <;> simp <;> omega
theorem zu (ns:List Int) (n:Int):(PG.lfb (iN ns n)).length <= 160:=by
 unfold iN
 split
 . simp [PG.lfb,PG.wdb]
 . split
   . simp [PG.lfb,PG.wdb]
   . split
     . simp [PG.lfb,PG.wdb]
     . split
       . have:=zH (PG.points ns (7 + n % 41)) (n / 30) (PG.pj _ _) (PG.qy _ _)
         simp only [PG.lfb]; omega
       . have:=AW (n / 7)
         simp only [PG.lfb]; omega
noncomputable def jS (nm:List Int) (v:PV):List Fr -> List Fr
 | []=>[]
 | g ::gs=>{ g with items:=g.items ++ [if g.k then v else .tup [.tup (nm.map .int),v]] } ::gs
noncomputable def Bd.close (B:Bd):Bd:=match B.frs with
 | []=>B
 | f ::fs=>⟨B.row ++ [brk f.k],
     let ns:=B.nodes.modify f.i fun d=>{ d with b:=B.row.length + 1,c:=B.nodes.length }
     if inF fs then ns.modify (f.i - 1) fun d=>{ d with c:=B.nodes.length } else ns,
     jS f.nm (.tup [kS f.k,.tup f.items]) fs,.tup [kS f.k,.tup f.items]⟩
noncomputable def kN (k:Bool):String:=if k then "row" else "fields"
noncomputable def Bd.opn (ns:List Int) (B:Bd) (n:Int):Bd:=
 ⟨bG ns B n ++ [if n / 5 % 2 = 0 then 91 else 123],b7 ns B n ++ [⟨kN (n / 5 % 2 = 0),(bG ns B n).length,0,0⟩],⟨n / 5 % 2 = 0,[],(b7 ns B n).length,cN ns B n⟩ ::B.frs,B.val⟩
noncomputable def Bd.leaf (ns:List Int) (B:Bd) (n:Int):Bd:=
 ⟨bG ns B n ++ PG.lfb (iN ns n),
   let ds:=b7 ns B n ++ [⟨lfK (iN ns n),(bG ns B n).length,(bG ns B n ++ PG.lfb (iN ns n)).length,(b7 ns B n).length + 1⟩]
   if inF B.frs then ds.modify (ds.length - 2) fun d=>{ d with c:=ds.length } else ds,
   jS (cN ns B n) (lfV ns n) B.frs,lfV ns n⟩
noncomputable def Bd.step (ns:List Int) (B:Bd) (k:Nat):Bd:=
 if B.frs.isEmpty = false /\ PG.mix ns k % 5 = 1 then Bd.close { B with row:=B.row ++ lwh (PG.mix ns k / 3) }
 else if B.frs.isEmpty = false \/ k = 0 then
  if PG.mix ns k % 5 > 2 \/ (k = 0 /\ PG.mix ns k % 9 > 0) then B.opn ns (PG.mix ns k) else B.leaf ns (PG.mix ns k)
 else B
noncomputable def FOk (N K:Nat):List Fr -> Prop
 | []=>True
 | f ::fs=>f.i < N /\ f.items.length <= K /\ (fs ≠ [] -> 1 <= f.i) /\ FOk N K fs
theorem FOk.mono {N K N' K':Nat} (h1:N <= N') (h2:K <= K'):∀ {fs:List Fr},FOk N K fs -> FOk N' K' fs
 | [],_=>trivial
 | _ ::_,h=>⟨Nat.lt_of_lt_of_le h.1 h1,Nat.le_trans h.2.1 h2,h.2.2.1,FOk.mono h1 h2 h.2.2.2⟩
theorem FOk.jS {N K:Nat} (nm:List Int) (v:PV) {fs:List Fr} (h:FOk N K fs):FOk N (K + 1) (jS nm v fs):=by
 cases fs with
 | nil=>trivial
 | cons g gs=>exact ⟨h.1,by simp; exact h.2.1,h.2.2.1,FOk.mono (Nat.le_refl _) (Nat.le_succ _) h.2.2.2⟩
structure Bok (B:Bd) (k:Nat):Prop where
 row:B.row.length <= 400 * k
 nodes:B.nodes.length <= 2 * k
 frs:FOk B.nodes.length k B.frs
 dep:B.frs.length <= k
theorem uj (nm:List Int) (v:PV) (fs:List Fr):(jS nm v fs).length = fs.length:=by cases fs <;> simp [jS]
theorem lp (ns:List Int) (B:Bd) (n:Int):(b7 ns B n).length = B.nodes.length + (if inF B.frs then 1 else 0):=by
 unfold b7; cases inF B.frs <;> simp
theorem Bok.close {B:Bd} {k:Nat} (h:Bok B k) (ws:List Int) (hw:ws.length <= 3):Bok (Bd.close { B with row:=B.row ++ ws }) (k + 1):=by
 have h1:=h.row
 have h2:=h.nodes
 have h3:=h.frs
 have h4:=h.dep
 unfold Bd.close
 cases e:B.frs with
 | nil=>rw [e] at h3 h4; exact ⟨by simp; omega,by simp; omega,by simp [e]; trivial,by simp [e]⟩
 | cons f fs=>
   rw [e] at h3 h4
   simp only [List.length_cons] at h4
   refine ⟨by simp; omega,?_,?_,?_⟩
   . simp only; split <;> simp <;> omega
   . have:FOk B.nodes.length (k + 1) (jS f.nm (.tup [kS f.k,.tup f.items]) fs):=FOk.jS _ _ h3.2.2.2
     simp only; split <;> simpa using this
   . simp only [uj]; omega
theorem Bok.opn {B:Bd} {k:Nat} (h:Bok B k) (ns:List Int) (n:Int):Bok (B.opn ns n) (k + 1):=by
 have h1:=h.row
 have h2:=h.nodes
 have h3:=h.frs
 have h4:=h.dep
 have hb:=ph ns B n
 have hl:=lp ns B n
 unfold Bd.opn
 refine ⟨by simp; omega,?_,?_,by simp; omega⟩
 . simp only [List.length_append,List.length_singleton]
   split at hl <;> omega
 . simp only [List.length_append,List.length_singleton]
   refine ⟨by simp,by simp,?_,FOk.mono (by omega) (by omega) h3⟩
   intro hf
   simp only
   cases e:B.frs with
   | nil=>exact absurd e hf
   | cons g gs=>rw [e] at h3; have:=h3.1; omega
theorem Bok.leaf {B:Bd} {k:Nat} (h:Bok B k) (ns:List Int) (n:Int):Bok (B.leaf ns n) (k + 1):=by
 have h1:=h.row
 have h2:=h.nodes
 have h3:=h.frs
 have h4:=h.dep
 have hb:=ph ns B n
 have hf:=zu ns n
 have hl:=lp ns B n
 have hN:(B.leaf ns n).nodes.length = (b7 ns B n).length + 1:=by unfold Bd.leaf; simp only; split <;> simp
 refine ⟨by unfold Bd.leaf; simp; omega,by rw [hN]; split at hl <;> omega,?_,by unfold Bd.leaf; simp only [uj]; omega⟩
 rw [hN]
 exact FOk.mono (by omega) (Nat.le_refl _) (FOk.jS _ _ h3)
theorem Bok.mono {B:Bd} {k k':Nat} (h:Bok B k) (hk:k <= k'):Bok B k':=
 ⟨by have:=h.row; omega,by have:=h.nodes; omega,FOk.mono (Nat.le_refl _) hk h.frs,by have:=h.dep; omega⟩
theorem Bok.step {B:Bd} {k:Nat} (h:Bok B k) (ns:List Int):Bok (B.step ns k) (k + 1):=by
 unfold Bd.step
 split
 . exact h.close _ (fN _)
 . split
   . split
     . exact h.opn ns _
     . exact h.leaf ns _
   . exact h.mono (by omega)
theorem qR (g:Nd -> Nd):∀ (nodes:List Nd) (i:Nat) (d:Nd),nodes[i]? = some d -> (nodes.map Nd.o).set i (g d).o = (nodes.modify i g).map Nd.o
 | [],i,d,h=>by simp at h
 | x ::xs,0,d,h=>by simp at h; subst h; simp
 | x ::xs,i + 1,d,h=>by
   simp at h
   simp [qR g xs i d h]
theorem zt {nodes:List Nd} {i:Nat} (h:i < nodes.length):∃ d,nodes[i]? = some d:=⟨nodes[i],by simp [h]⟩
theorem AA {nodes:List Nd} {i:Nat} {d:Nd} (h:nodes[i]? = some d):(nodes.map Nd.o)[i]? = some (ndO (.str d.s) d.a d.b d.c):=by
 rw [List.getElem?_map,h]; rfl
theorem E1 (B:Bd) (k:Nat) (h:Bok B k) (hk:k <= 100) (hf:B.frs ≠ []):
  cT [.tr true (dy B.row),.tr true (hZ B.nodes),.tr true (gy B.frs)] = .ok B.close.val [some (dy B.close.row),some (hZ B.close.nodes),some (gy B.close.frs)]:=by
 have h1:=h.row
 have h2:=h.nodes
 have h3:=h.frs
 unfold Bd.close
 cases e:B.frs with
 | nil=>exact absurd e hf
 | cons f fs=>
   rw [e] at h3
   obtain ⟨d,hd⟩:=zt h3.1
   have hit:=h3.2.1
   cases e2:fs with
   | nil=>
     have:=yI B.row (B.nodes.map Nd.o) f.k f.items f.i f.nm (.str d.s) d.a d.b d.c (AA hd) (by omega) (by rw [List.length_map]; omega) (by omega)
     refine Eq.trans this ?_
     have hs:=qR (fun d=>{ d with b:=B.row.length + 1,c:=B.nodes.length }) B.nodes f.i d hd
     simp only [inF,jS,gy,hZ,List.length_map,Bool.false_eq_true,if_false,<- hs]
     rfl
   | cons g gs=>
     rw [e2] at h3
     have h1i:=h3.2.2.1 (by simp)
     have hit':=h3.2.2.2.2.1
     obtain ⟨d2,hd2⟩:=zt (nodes:=B.nodes) (i:=f.i - 1) (by have:=h3.1; omega)
     have:=yD B.row (B.nodes.map Nd.o) (gs.reverse.map Fr.o) f.k g.k f.items g.items f.i g.i f.nm g.nm (.str d.s) (.str d2.s) d.a d.b d.c d2.a d2.b d2.c (AA hd) (by omega) (by rw [List.length_map]; omega) (by omega) (by omega) (fun _=>⟨h1i,AA hd2⟩)
     have hs:=qR (fun d=>{ d with b:=B.row.length + 1,c:=B.nodes.length }) B.nodes f.i d hd
     have hd2':(B.nodes.modify f.i fun d=>{ d with b:=B.row.length + 1,c:=B.nodes.length })[f.i - 1]? = some d2:=by
      rw [List.getElem?_modify,hd2]; simp; intro z; omega
     have hs2:=qR (fun d=>{ d with c:=B.nodes.length }) _ (f.i - 1) d2 hd2'
     rw [<- hs] at hs2
     refine Eq.trans (congrArg cT ?_) (Eq.trans this ?_)
     . simp [gy,hZ,Fr.o]
     . cases hg:g.k
       . simp only [inF,jS,gy,hZ,List.length_map,hg,Bool.not_false,Bool.false_eq_true,if_true,if_false,<- hs2]
         simp [Nd.o,Fr.o]
       . simp only [inF,jS,gy,hZ,List.length_map,hg,Bool.not_true,Bool.false_eq_true,if_true,if_false,<- hs]
         simp [Nd.o,Fr.o]
noncomputable def bE (ns:List Int) (m:Int) (B:Bd) (a b c d e f:Option Sl):ae:=[some (.sh (.lst (ns.map .int))),some (.sh (.int m)),some (.tr false (dy B.row)),some (.tr false (hZ B.nodes)),some (.tr false (gy B.frs)),some (.sh B.val),a,b,c,d,e,f]
theorem ue (ns:List Int) (m:Int) (B:Bd) (k:Nat) (h:Bok B k) (hk:k <= 100) (hf:B.frs ≠ []) (a b c d e f:Option Sl):
  jb 5 (i0 cT [.t 2 aH,.t 3 aH,.t 4 aH]) (bE ns m B a b c d e f) = .nx (bE ns m B.close a b c d e f):=by
 have e1:jr [.t 2 aH,.t 3 aH,.t 4 aH] (bE ns m B a b c d e f) = some [.tr true (dy B.row),.tr true (hZ B.nodes),.tr true (gy B.frs)]:=by
  simp [jr,lM,bE,aH,OV.get_nil]
 unfold jb i0
 rw [e1]
 simp only [E1 B k h hk hf]
 simp [fq,ka,bE,aH,OV.la,nio]
theorem yO (ns:List Int) (m:Int) (B:Bd) (k:Nat) (h:Bok B k) (hk:k <= 100) (a:Option Sl) (n:Int) (c d e f:Option Sl):
  jb 8 (i0 fK [.e (aq 0),.t 2 aH,.t 3 aH,.t 4 aH,.e (aq 7)]) (bE ns m B a (some (.sh (.int n))) c d e f) =
   .nx (bE ns m ⟨bG ns B n,b7 ns B n,B.frs,B.val⟩ a (some (.sh (.int n))) (some (.sh (.tup ((cN ns B n).map .int)))) d e f):=by
 have h1:=h.row
 have h2:=h.nodes
 have e1:jr [.e (aq 0),.t 2 aH,.t 3 aH,.t 4 aH,.e (aq 7)] (bE ns m B a (some (.sh (.int n))) c d e f) = some [.sh (.lst (ns.map .int)),.tr true (dy B.row),.tr true (hZ B.nodes),.tr true (gy B.frs),.sh (.int n)]:=by
  simp [jr,lM,bE,aH,OV.get_nil,lS]
 unfold jb i0
 rw [e1]
 simp only [E9 ns B n (by omega) (by omega)]
 simp [fq,ka,bE,aH,OV.la,nio]
theorem Jz (k:Bool):kS k = .str (kN k):=by cases k <;> rfl
theorem AX (ns:List Int) (m:Int) (B:Bd) (k:Nat) (h:Bok B k) (hk:k <= 100) (a:Option Sl) (n:Int) (e f:Option Sl):∃ e',
  (aJ (bp 10 (mOp mI (cf (ak (mC (.str "row")) (ak (mC (.str "fields")) aM))) (mOp cA (mOp dE (aq 7) (mC (.int 5))) (mC (.int 2)))))
  (aJ (cb 2 aH (mD (gV (aD (mOp gEq (aq 10) (mC (.str "row")))) (mC (.int 91)) (mC (.int 123)))))
  (aJ (cb 4 aH (mDl (mDc (mD (aq 10)) (mDc (mD (cf aM)) (mDc (mD (gd 3 aH)) (mDc (mD (aq 8)) mDn))))))
  (cb 3 aH (mD (cf (ak (aq 10) (ak (aq 9) (ak (mC (.int 0)) (ak (mC (.int 0)) aM))))))))))
  (bE ns m ⟨bG ns B n,b7 ns B n,B.frs,B.val⟩ a (some (.sh (.int n))) (some (.sh (.tup ((cN ns B n).map .int)))) (some (.sh (.int (bG ns B n).length))) e f) =
  .nx (bE ns m (B.opn ns n) a (some (.sh (.int n))) (some (.sh (.tup ((cN ns B n).map .int)))) (some (.sh (.int (bG ns B n).length))) e' f):=by
 have h1:=h.row
 have h2:=h.nodes
 have h4:=h.dep
 have hb:=ph ns B n
 have hl:=lp ns B n
 have hl':(b7 ns B n).length <= B.nodes.length + 1:=by split at hl <;> omega
 refine ⟨some (.sh (kS (n / 5 % 2 = 0))),?_⟩
 have hz:n / 5 % 2 = 0 \/ n / 5 % 2 = 1:=by omega
 rw [bq (ρ':=bE ns m ⟨bG ns B n,b7 ns B n,B.frs,B.val⟩ a (some (.sh (.int n))) (some (.sh (.tup ((cN ns B n).map .int)))) (some (.sh (.int (bG ns B n).length))) (some (.sh (kS (n / 5 % 2 = 0)))) f) (by
  rcases hz with z | z <;> simp [bp,bE,z,mI,atP,ixP,kS])]
 rw [bq (wO (row:=bG ns B n) (b:=if n / 5 % 2 = 0 then 91 else 123) rfl (by
  rcases hz with z | z <;> simp -implicitDefEqProofs [mD,gV,aD,bE,z,kS,gEq,eqS,aG]) (by omega))]
 rw [bq (sZ (ts:=B.frs.reverse.map Fr.o) (x:=Fr.o ⟨n / 5 % 2 = 0,[],(b7 ns B n).length,cN ns B n⟩) rfl (by
  have:=vU (ρ:=(bE ns m ⟨bG ns B n,b7 ns B n,B.frs,B.val⟩ a (some (.sh (.int n))) (some (.sh (.tup ((cN ns B n).map .int)))) (some (.sh (.int (bG ns B n).length))) (some (.sh (kS (n / 5 % 2 = 0)))) f).set 2 (some (.tr false (dy (bG ns B n ++ [if n / 5 % 2 = 0 then 91 else 123]))))) (i:=3) (nds:=b7 ns B n) rfl
  simp only [mDl,mDc,mD,this]
  simp [mDn,bE,Fr.o,frO,mDl]) (by simp; exact fh (n:=B.frs.length + 1) (by omega)))]
 rw [wI (nds:=b7 ns B n) (d:=⟨kN (n / 5 % 2 = 0),(bG ns B n).length,0,0⟩) rfl (by
  simp [mD,bE,Nd.o,ndO,Jz]) (by omega)]
 simp [bE,Bd.opn,gy]
theorem Mo (n:Int):(if n / 5 % 2 = 0 then true else false) = decide (n / 5 % 2 = 0):=by simp
theorem zM {ρ:ae} {i:Nat} {io:Bool} {g:Fr} {gs:List Fr} {x:PV} {md:ae -> OD} (h:ρ[i]? = some (some (.tr io (gy (g ::gs))))) (hd:md ρ = .ok (.sh x)) (hl:g.items.length < 1000):
  cb i (pIx i (pIx i aH (mUn gU (mC (.int 1)))) (mC (.int 1))) md ρ = .nx (ρ.set i (some (.tr io (gy ({ g with items:=g.items ++ [x] } ::gs))))):=by
 have hi:=uq 1 1 rfl (by omega) h
 rw [ky] at h
 rw [AB h hi (sU g gs) (xs:=g.items.map .sh) rfl hd (by rw [List.length_map]; exact fh (n:=g.items.length + 1) (by omega))]
 rw [ky]
 simp [Fr.o,frO,List.set_append_right]
theorem BC (ns:List Int) (m:Int) (B:Bd) (k:Nat) (h:Bok B k) (hk:k <= 100) (a:Option Sl) (n:Int) (hn:0 <= n) (e f:Option Sl):∃ f',
  (aJ (bp 11 (bI bH (ak (aq 0) (ak (aq 7) aM))))
  (aJ (dM 2 aH (mOp ik (aq 11) (mC (.int 1))))
  (aJ (cb 3 aH (mD (cf (ak (mOp ik (aq 11) (mC (.int 0))) (ak (aq 9) (ak (gd 2 aH) (ak (mOp fo (gd 3 aH) (mC (.int 1))) aM)))))))
  (aJ (bp 5 (mOp ik (aq 11) (mC (.int 2))))
  (bb (fF (dB 4 aH) (aD (mOp gEq (cX 4 (pIx 4 (pIx 4 aH (mUn gU (mC (.int 1)))) (mC (.int 0)))) (mC (.str "fields")))))
  (aJ (oV 3 (pIx 3 aH (mUn gU (mC (.int 2)))) (mC (.int 3)) (mD (gd 3 aH)))
  (cb 4 (pIx 4 (pIx 4 aH (mUn gU (mC (.int 1)))) (mC (.int 1))) (mD (gm (ak (aq 8) (ak (aq 5) aM))))))
  (bb (dB 4 aH)
  (cb 4 (pIx 4 (pIx 4 aH (mUn gU (mC (.int 1)))) (mC (.int 1))) (mD (aq 5)))
  aR))))))
  (bE ns m ⟨bG ns B n,b7 ns B n,B.frs,B.val⟩ a (some (.sh (.int n))) (some (.sh (.tup ((cN ns B n).map .int)))) (some (.sh (.int (bG ns B n).length))) e f) =
  .nx (bE ns m (B.leaf ns n) a (some (.sh (.int n))) (some (.sh (.tup ((cN ns B n).map .int)))) (some (.sh (.int (bG ns B n).length))) e f'):=by
 have h1:=h.row
 have h2:=h.nodes
 have h3:=h.frs
 have h4:=h.dep
 have hb:=ph ns B n
 have hf:=zu ns n
 have hl:=lp ns B n
 have hl':(b7 ns B n).length <= B.nodes.length + 1:=by split at hl <;> omega
 generalize hF:PV.tup [.str (lfK (iN ns n)),.lst ((PG.lfb (iN ns n)).map .int),lfV ns n] = F
 refine ⟨some (.sh F),?_⟩
 generalize hv:lfV ns n = v
 have hi0:atP [PV.str (lfK (iN ns n)),.lst ((PG.lfb (iN ns n)).map .int),v] 0 = some (PV.str (lfK (iN ns n))):=by simp [atP,ixP]
 rw [bq (ρ':=bE ns m ⟨bG ns B n,b7 ns B n,B.frs,B.val⟩ a (some (.sh (.int n))) (some (.sh (.tup ((cN ns B n).map .int)))) (some (.sh (.int (bG ns B n).length))) e (some (.sh F))) (by
  have:=D3 ns n hn
  rw [hF] at this
  simp [bp,bE,this])]
 rw [bq (lC (row:=bG ns B n) (ys:=PG.lfb (iN ns n)) rfl (.inr (by simp [bE,<- hF,ik,atP,ixP])) (by omega))]
 rw [bq (wI (nds:=b7 ns B n) (d:=⟨lfK (iN ns n),(bG ns B n).length,(bG ns B n ++ PG.lfb (iN ns n)).length,(b7 ns B n).length + 1⟩) rfl (by
  have hx:=vU (ρ:=(bE ns m ⟨bG ns B n,b7 ns B n,B.frs,B.val⟩ a (some (.sh (.int n))) (some (.sh (.tup ((cN ns B n).map .int)))) (some (.sh (.int (bG ns B n).length))) e (some (.sh F))).set 2 (some (.tr false (dy (bG ns B n ++ PG.lfb (iN ns n)))))) (i:=3) (nds:=b7 ns B n) rfl
  have hy:=sX (ρ:=(bE ns m ⟨bG ns B n,b7 ns B n,B.frs,B.val⟩ a (some (.sh (.int n))) (some (.sh (.tup ((cN ns B n).map .int)))) (some (.sh (.int (bG ns B n).length))) e (some (.sh F))).set 2 (some (.tr false (dy (bG ns B n ++ PG.lfb (iN ns n)))))) (i:=2) (row:=bG ns B n ++ PG.lfb (iN ns n)) rfl
  simp only [mD,cf,ak,hx,hy,mOp]
  simp [bE,<- hF,ik,atP,ixP,Nd.o,ndO]) (by omega))]
 generalize hR:bG ns B n ++ PG.lfb (iN ns n) = R
 generalize hD:b7 ns B n ++ [⟨lfK (iN ns n),(bG ns B n).length,R.length,(b7 ns B n).length + 1⟩] = D
 have hDl:D.length = (b7 ns B n).length + 1:=by rw [<- hD]; simp
 rw [bq (ρ':=bE ns m ⟨R,D,B.frs,v⟩ a (some (.sh (.int n))) (some (.sh (.tup ((cN ns B n).map .int)))) (some (.sh (.int (bG ns B n).length))) e (some (.sh F))) (by
  simp [bp,bE,<- hF,ik,atP,ixP,hv])]
 unfold bb
 rw [BW (fs:=B.frs) rfl]
 unfold Bd.leaf
 rw [hR]
 simp only [hD,hv]
 cases hg:B.frs with
 | nil=>
   have:=p5 (ρ:=bE ns m ⟨R,D,[],v⟩ a (some (.sh (.int n))) (some (.sh (.tup ((cN ns B n).map .int)))) (some (.sh (.int (bG ns B n).length))) e (some (.sh F))) (i:=4) (fs:=[]) rfl
   simp [inF,jS,this,aR]
 | cons g gs=>
   rw [hg] at h3
   have hit:=h3.2.1
   have ht:=p5 (ρ:=bE ns m ⟨R,D,g ::gs,v⟩ a (some (.sh (.int n))) (some (.sh (.tup ((cN ns B n).map .int)))) (some (.sh (.int (bG ns B n).length))) e (some (.sh F))) (i:=4) (fs:=g ::gs) rfl
   cases hgk:g.k with
   | true=>
     have hp:=zM (ρ:=bE ns m ⟨R,D,g ::gs,v⟩ a (some (.sh (.int n))) (some (.sh (.tup ((cN ns B n).map .int)))) (some (.sh (.int (bG ns B n).length))) e (some (.sh F))) (i:=4) (g:=g) (gs:=gs) (x:=v) (md:=mD (aq 5)) rfl (by simp [mD,bE]) (by omega)
     simp [inF,jS,ht,hgk,hp]
     simp [bE]
   | false=>
     have h2l:2 <= D.length:=by
      have hq:inF B.frs = true:=by rw [hg]; simp [inF,hgk]
      rw [hq] at hl; simp at hl; omega
     obtain ⟨d2,hd2⟩:=zt (nodes:=D) (i:=D.length - 2) (by omega)
     have hs:=qR (fun d=>{ d with c:=D.length }) D (D.length - 2) d2 hd2
     have hput:=tf (ρ:=bE ns m ⟨R,D,g ::gs,v⟩ a (some (.sh (.int n))) (some (.sh (.tup ((cN ns B n).map .int)))) (some (.sh (.int (bG ns B n).length))) e (some (.sh F))) (i:=3) (io:=false) (ts:=D.map Nd.o) (j:=D.length - 2) (j2:=3) (mk:=mC (.int 3)) (md:=mD (gd 3 aH)) (x:=.sh (.int D.length)) (mp:=pIx 3 aH (mUn gU (mC (.int 2)))) rfl
      (kl (i:=3) (ts:=D.map Nd.o) (bF (s:=.tr false (hZ D)) rfl rfl) (r:=.sh (.int (-2))) (k:=-2) (by simp) rfl (by rw [List.length_map]; unfold ixP; rw [if_neg (by omega),if_pos (by omega)]; congr 1; omega)) (AA hd2) rfl rfl rfl (by unfold mD; rw [vU (nds:=D) rfl])
     have e3:(D.map Nd.o).set (D.length - 2) (.ol ([.sh (.str d2.s),.sh (.int d2.a),.sh (.int d2.b),.sh (.int d2.c)].set 3 (.sh (.int D.length)))) = (D.modify (D.length - 2) fun d=>{ d with c:=D.length }).map Nd.o:=hs
     rw [e3] at hput
     have hp:=zM (ρ:=bE ns m ⟨R,D.modify (D.length - 2) fun d=>{ d with c:=D.length },g ::gs,v⟩ a (some (.sh (.int n))) (some (.sh (.tup ((cN ns B n).map .int)))) (some (.sh (.int (bG ns B n).length))) e (some (.sh F))) (i:=4) (g:=g) (gs:=gs) (x:=.tup [.tup ((cN ns B n).map .int),v]) (md:=mD (gm (ak (aq 8) (ak (aq 5) aM)))) rfl (by simp [mD,bE]) (by omega)
     have:inF (g ::gs) = true:=by simp [inF,hgk]
     rw [this]
     refine Eq.trans (bq hput) ?_
     refine Eq.trans hp ?_
     simp [jS,hgk,bE]
theorem G5 (ns:List Int) (m:Int) (B:Bd) (k:Nat) (h:Bok B k) (hk:k <= 90) (b c d e f:Option Sl):∃ b' c' d' e' f',
  il (bE ns m B (some (.sh (.int k))) b c d e f) = .nx (bE ns m (B.step ns k) (some (.sh (.int k))) b' c' d' e' f'):=by
 have hm:0 <= PG.mix ns k:=(PG.zp ns k).1
 have h1:=h.row
 unfold il
 rw [bq (ρ':=bE ns m B (some (.sh (.int k))) (some (.sh (.int (PG.mix ns k)))) c d e f) (by simp [bp,bE,dP])]
 unfold Bd.step
 generalize PG.mix ns k = n at hm ⊢
 have c1:fF (dB 4 aH) (aD (mOp gEq (mOp cA (aq 7) (mC (.int 5))) (mC (.int 1)))) (bE ns m B (some (.sh (.int k))) (some (.sh (.int n))) c d e f) = .ok (decide (B.frs.isEmpty = false /\ n % 5 = 1)):=by
  have:=p5 (ρ:=bE ns m B (some (.sh (.int k))) (some (.sh (.int n))) c d e f) (i:=4) (fs:=B.frs) rfl
  unfold bE at this ⊢
  cases hf:B.frs.isEmpty <;> simp [fF,this,hf,aD]
 unfold bb
 rw [c1]
 by_cases hc1:B.frs.isEmpty = false /\ n % 5 = 1
 . rw [if_pos hc1,decide_eq_true hc1]
   refine ⟨some (.sh (.int n)),c,d,e,f,Eq.trans (bq (ρ':=bE ns m { B with row:=B.row ++ lwh (n / 3) } (some (.sh (.int k))) (some (.sh (.int n))) c d e f) ?_) ?_⟩
   . exact lC (row:=B.row) rfl (.inl (by simp [bE,dY])) (by have:=fN (n / 3); omega)
   . refine ue ns m { B with row:=B.row ++ lwh (n / 3) } (k + 1) ⟨?_,?_,?_,?_⟩ (by omega) ?_ _ _ _ _ _ _
     . have:=fN (n / 3); simp; omega
     . have:=h.nodes; simp; omega
     . exact FOk.mono (Nat.le_refl _) (Nat.le_succ _) h.frs
     . have:=h.dep; simp; omega
     . simp only; intro z; rw [z] at hc1; exact absurd hc1.1 (by simp)
 . rw [if_neg hc1,decide_eq_false hc1]
   have c2:rB (dB 4 aH) (aD (mOp gEq (aq 6) (mC (.int 0)))) (bE ns m B (some (.sh (.int k))) (some (.sh (.int n))) c d e f) = .ok (decide (B.frs.isEmpty = false \/ k = 0)):=by
    have:=p5 (ρ:=bE ns m B (some (.sh (.int k))) (some (.sh (.int n))) c d e f) (i:=4) (fs:=B.frs) rfl
    unfold bE at this ⊢
    cases hf:B.frs.isEmpty <;> simp [rB,this,hf,aD]
   show ∃ b' c' d' e' f',OT.bT _ _ _ = _
   rw [c2]
   by_cases hc2:B.frs.isEmpty = false \/ k = 0
   . rw [if_pos hc2,decide_eq_true hc2]
     have hb:=yO ns m B k h (by omega) (some (.sh (.int k))) n c d e f
     have hs9:bp 9 (gd 2 aH) (bE ns m ⟨bG ns B n,b7 ns B n,B.frs,B.val⟩ (some (.sh (.int k))) (some (.sh (.int n))) (some (.sh (.tup ((cN ns B n).map .int)))) d e f) = .nx (bE ns m ⟨bG ns B n,b7 ns B n,B.frs,B.val⟩ (some (.sh (.int k))) (some (.sh (.int n))) (some (.sh (.tup ((cN ns B n).map .int)))) (some (.sh (.int (bG ns B n).length))) e f):=by
      unfold bp; rw [sX (row:=bG ns B n) rfl]; simp [bE]
     have c3:rB (aD (mOp gGt (mOp cA (aq 7) (mC (.int 5))) (mC (.int 2)))) (fF (aD (mOp gEq (aq 6) (mC (.int 0)))) (aD (mOp gGt (mOp cA (aq 7) (mC (.int 9))) (mC (.int 0))))) (bE ns m ⟨bG ns B n,b7 ns B n,B.frs,B.val⟩ (some (.sh (.int k))) (some (.sh (.int n))) (some (.sh (.tup ((cN ns B n).map .int)))) (some (.sh (.int (bG ns B n).length))) e f) = .ok (decide (n % 5 > 2 \/ (k = 0 /\ n % 9 > 0))):=by
      by_cases h5:2 < n % 5
      . simp [rB,fF,aD,bE,h5]
      . by_cases h0:k = 0
        . by_cases h9:0 < n % 9 <;> simp [rB,fF,aD,bE,h5,h0,h9]
        . simp [rB,fF,aD,bE,h5,h0]
     by_cases hc3:n % 5 > 2 \/ (k = 0 /\ n % 9 > 0)
     . rw [if_pos hc3]
       obtain ⟨e',he⟩:=AX ns m B k h (by omega) (some (.sh (.int k))) n e f
       refine ⟨some (.sh (.int n)),some (.sh (.tup ((cN ns B n).map .int))),some (.sh (.int (bG ns B n).length)),e',f,Eq.trans (bq hb) (Eq.trans (bq hs9) ?_)⟩
       rw [c3,decide_eq_true hc3]
       exact he
     . rw [if_neg hc3]
       obtain ⟨f',he⟩:=BC ns m B k h (by omega) (some (.sh (.int k))) n hm e f
       refine ⟨some (.sh (.int n)),some (.sh (.tup ((cN ns B n).map .int))),some (.sh (.int (bG ns B n).length)),e,f',Eq.trans (bq hb) (Eq.trans (bq hs9) ?_)⟩
       rw [c3,decide_eq_false hc3]
       exact he
   . rw [if_neg hc2,decide_eq_false hc2]
     exact ⟨_,_,_,_,_,rfl⟩
noncomputable def bld (ns:List Int) (B:Bd) (i:Nat):Nat -> Bd
 | 0=>B
 | j + 1=>bld ns (B.step ns i) (i + 1) j
theorem zf (ns:List Int):∀ (j i:Nat) (B:Bd),Bok B i -> Bok (bld ns B i j) (i + j)
 | 0,i,B,h=>h
 | j + 1,i,B,h=>by
   have:=zf ns j (i + 1) _ (h.step ns)
   rw [show i + (j + 1) = i + 1 + j by omega]
   exact this
theorem tF (ns:List Int) (m:Int):∀ (j i:Nat) (B:Bd) (a b c d e f:Option Sl),Bok B i -> i + j <= 90 -> ∃ a' b' c' d' e' f',
  jq 6 il ((List.range' i j).map fun k:Nat=>.int k) (bE ns m B a b c d e f) = .nx (bE ns m (bld ns B i j) a' b' c' d' e' f')
 | 0,i,B,a,b,c,d,e,f,_,_=>⟨_,_,_,_,_,_,rfl⟩
 | j + 1,i,B,a,b,c,d,e,f,h,hij=>by
   obtain ⟨b',c',d',e',f',hs⟩:=G5 ns m B i h (by omega) b c d e f
   obtain ⟨a2,b2,c2,d2,e2,f2,hl⟩:=tF ns m j (i + 1) (B.step ns i) (some (.sh (.int i))) b' c' d' e' f' (h.step ns) (by omega)
   refine ⟨a2,b2,c2,d2,e2,f2,?_⟩
   rw [List.range'_succ,List.map_cons,kF]
   rw [show (bE ns m B a b c d e f).set 6 (some (.sh (.int i))) = bE ns m B (some (.sh (.int i))) b c d e f from rfl,hs,m4]
   exact hl
noncomputable def cls (B:Bd):Nat -> Bd
 | 0=>B
 | j + 1=>cls B.close j
theorem uY (B:Bd):B.close.frs.length = B.frs.length - 1:=by
 unfold Bd.close
 cases h:B.frs with
 | nil=>simp [h]
 | cons f fs=>simp [uj]
theorem sj (ns:List Int) (m:Int):∀ (j:Nat) (B:Bd) (k:Nat) (a b c d e f:Option Sl) (F:Nat),Bok B k -> k + j <= 100 -> B.frs.length = j -> j < F ->
  fS ig jH F (bE ns m B a b c d e f) = .nx (bE ns m (cls B j) a b c d e f)
 | 0,B,k,a,b,c,d,e,f,F,h,hk,hj,hF=>by
   obtain ⟨F,rfl⟩:∃ G,F = G + 1:=⟨F - 1,by omega⟩
   have ht:=p5 (ρ:=bE ns m B a b c d e f) (i:=4) (fs:=B.frs) rfl
   have:B.frs = []:=List.length_eq_zero_iff.mp hj
   unfold fS ig
   rw [ht,this]
   rfl
 | j + 1,B,k,a,b,c,d,e,f,F,h,hk,hj,hF=>by
   obtain ⟨F,rfl⟩:∃ G,F = G + 1:=⟨F - 1,by omega⟩
   have ht:=p5 (ρ:=bE ns m B a b c d e f) (i:=4) (fs:=B.frs) rfl
   have hne:B.frs ≠ []:=by intro z; rw [z] at hj; simp at hj
   have hcl:=ue ns m B k h (by omega) hne a b c d e f
   have hb:=h.close [] (by simp)
   rw [show ({ B with row:=B.row ++ [] }:Bd) = B by cases B; simp] at hb
   unfold fS
   rw [show ig = dB 4 aH from rfl,ht]
   have he:B.frs.isEmpty = false:=by cases q:B.frs with | nil=>exact absurd q hne | cons _ _=>rfl
   rw [he]
   show OS.turn _ _ = _
   rw [show jH = jb 5 (i0 cT [.t 2 aH,.t 3 aH,.t 4 aH]) from rfl,hcl,m4]
   exact sj ns m j B.close (k + 1) a b c d e f F hb (by omega) (by rw [uY]; omega) (by omega)
noncomputable def bd0:Bd:=⟨[],[],[],.non⟩
noncomputable def ndP (d:Nd):PV:=.tup [.str d.s,.int d.a,.int d.b,.int d.c]
noncomputable def zU (ns:List Int) (m:Nat):Bd:=
 let B:=bld ns bd0 0 m
 let C:=cls B B.frs.length
 { C with row:=C.row ++ lwh (PG.mix ns 61) }
theorem y9:∀ (j:Nat) (B:Bd) (k:Nat),Bok B k -> Bok (cls B j) (k + j)
 | 0,B,k,h=>h
 | j + 1,B,k,h=>by
   have hb:=h.close [] (by simp)
   rw [show ({ B with row:=B.row ++ [] }:Bd) = B by cases B; simp] at hb
   have:=y9 j B.close (k + 1) hb
   rw [show k + (j + 1) = k + 1 + j by omega]
   exact this
theorem vO:Bok bd0 0:=⟨by simp [bd0],by simp [bd0],trivial,by simp [bd0]⟩
theorem yh:∀ row:List Int,uz (row.map fun b=>.sh (.int b)) = some (row.map .int)
 | []=>by simp [uz]
 | b ::row=>by simp [uz,pvO,yh row]
theorem xU:∀ ds:List Nd,uz (ds.map Nd.o) = some (ds.map fun d=>.lst [.str d.s,.int d.a,.int d.b,.int d.c])
 | []=>by simp [uz]
 | d ::ds=>by simp [uz,pvO,xU ds,Nd.o,ndO]
theorem Fg {ρ:ae} {i:Nat} {me:ae -> OE} {P:ae -> OS} {j:Int} (h1:me ρ = .ok (.sh (.int j))) (hi:-4611686018427387904 <= j /\ j < 4611686018427387904):so i me P ρ = jq i P (dI j.toNat) ρ:=by
 simp -implicitDefEqProofs [so,h1,hi]
theorem A1 (ns:List Int) (m:Nat) (hm:m <= 20):∃ a b c d e f,so 6 (aq 1) il (bE ns m bd0 none none none none none none) = .nx (bE ns m (bld ns bd0 0 m) a b c d e f):=by
 obtain ⟨a,b,c,d,e,f,hl⟩:=tF ns m m 0 bd0 none none none none none none vO (by omega)
 refine ⟨a,b,c,d,e,f,?_⟩
 have hr:dI (Int.toNat (m:Int)) = (List.range' 0 m).map fun k:Nat=>.int k:=by simp [dI,List.range_eq_range']
 have h1:aq 1 (bE ns m bd0 none none none none none none) = .ok (.sh (.int m)):=by simp [bE]
 rw [Fg h1 (by omega),hr]
 exact hl
theorem AF (ns:List Int) (m:Int) (C:Bd) (hC:C.nodes.length <= 1000) (hR:C.row.length <= 100000) (a b c d e f:Option Sl):
  ∃ ρ,lK (bE ns m C a b c d e f) = .rt ρ (.sh (.tup [.lst ((C.row ++ lwh (PG.mix ns 61)).map .int),.lst (C.nodes.map ndP),C.val])):=by
 have e3:dM 2 aH (bI cC (ak (bI eG (ak (aq 0) (ak (mC (.int 61)) aM))) aM)) (bE ns m C a b c d e f) = .nx (bE ns m { C with row:=C.row ++ lwh (PG.mix ns 61) } a b c d e f):=
  lC (row:=C.row) rfl (.inl (by simp [bE,dP,dY])) (by have:=fN (PG.mix ns 61); omega)
 refine ⟨((bE ns m { C with row:=C.row ++ lwh (PG.mix ns 61) } a b c d e f).set 3 (some (.sh (.lst (C.nodes.map fun d=>.lst [.str d.s,.int d.a,.int d.b,.int d.c]))))).set 2 (some (.sh (.lst ((C.row ++ lwh (PG.mix ns 61)).map .int)))),?_⟩
 unfold lK
 rw [bq e3]
 unfold pI n8
 have z1:pd 3 (bE ns m { C with row:=C.row ++ lwh (PG.mix ns 61) } a b c d e f) = (bE ns m { C with row:=C.row ++ lwh (PG.mix ns 61) } a b c d e f).set 3 (some (.sh (.lst (C.nodes.map fun d=>.lst [.str d.s,.int d.a,.int d.b,.int d.c])))):=by
  simp [pd,bE,hZ,pvO,xU]
 have z2:pd 2 ((bE ns m { C with row:=C.row ++ lwh (PG.mix ns 61) } a b c d e f).set 3 (some (.sh (.lst (C.nodes.map fun d=>.lst [.str d.s,.int d.a,.int d.b,.int d.c]))))) = ((bE ns m { C with row:=C.row ++ lwh (PG.mix ns 61) } a b c d e f).set 3 (some (.sh (.lst (C.nodes.map fun d=>.lst [.str d.s,.int d.a,.int d.b,.int d.c]))))).set 2 (some (.sh (.lst ((C.row ++ lwh (PG.mix ns 61)).map .int)))):=by
  have:=yh (C.row ++ lwh (PG.mix ns 61))
  unfold pd bE dy
  simp only [List.set_cons_succ,List.set_cons_zero,List.getElem?_cons_succ,List.getElem?_cons_zero,pvO,this,Option.map_some]
 rw [z1,z2]
 have hel:du lW [] (C.nodes.map fun d=>.lst [.str d.s,.int d.a,.int d.b,.int d.c]) = .ok (C.nodes.map ndP):=
  kx _ fun d _=>by simp [lW,lN,ndP]
 simp [bE,hel,dv]
 exact fh (by omega)
theorem D4 (ns:List Int) (m:Nat) (hm:m <= 20):gA [.lst (ns.map .int),.int m] = .ok (.sh (.tup [.lst ((zU ns m).row.map .int),.lst ((zU ns m).nodes.map ndP),(zU ns m).val])):=by
 have hok:=zf ns m 0 bd0 vO
 rw [Nat.zero_add] at hok
 obtain ⟨a,b,c,d,e,f,e2⟩:=A1 ns m hm
 have hdep:=hok.dep
 have hcok:=y9 (bld ns bd0 0 m).frs.length _ m hok
 have hcr:=hcok.row
 have hcn:=hcok.nodes
 have e1:og [some (.sh (.lst (ns.map .int))),some (.sh (.int m)),none,none,none,none,none,none,none,none,none,none] = lZ (bE ns m bd0 none none none none none none):=by
  unfold og
  rw [bq (ρ':=[some (.sh (.lst (ns.map .int))),some (.sh (.int m)),some (.tr false (dy [])),none,none,none,none,none,none,none,none,none]) (by simp [my,mD,dy])]
  unfold pO
  rw [bq (ρ':=[some (.sh (.lst (ns.map .int))),some (.sh (.int m)),some (.tr false (dy [])),some (.tr false (hZ [])),none,none,none,none,none,none,none,none]) (by simp [my,mD,hZ])]
  unfold pX
  rw [bq (ρ':=[some (.sh (.lst (ns.map .int))),some (.sh (.int m)),some (.tr false (dy [])),some (.tr false (hZ [])),some (.tr false (gy [])),none,none,none,none,none,none,none]) (by simp [my,mD,gy])]
  unfold pJ
  rw [bq (ρ':=bE ns m bd0 none none none none none none) (by simp [bp,bE,bd0])]
 obtain ⟨ρ,e4⟩:=AF ns m _ (Nat.le_trans hcn (by omega)) (Nat.le_trans hcr (by omega)) a b c d e f
 have hw:∀ F,(bld ns bd0 0 m).frs.length < F -> fS ig jH F (bE ns m (bld ns bd0 0 m) a b c d e f) = .nx (bE ns m (cls (bld ns bd0 0 m) (bld ns bd0 0 m).frs.length) a b c d e f):=fun F hF=>sj ns m _ (bld ns bd0 0 m) m a b c d e f F hok (by omega) rfl hF
 unfold gA fnP
 rw [if_pos (show List.length [PV.lst (ns.map .int),.int m] = 2 from rfl),show mi 12 [PV.lst (ns.map .int),.int m] = [some (.sh (.lst (ns.map .int))),some (.sh (.int m)),none,none,none,none,none,none,none,none,none,none] from rfl,e1]
 unfold lZ
 rw [bq e2]
 have hF:(bld ns bd0 0 m).frs.length < fuel:=by unfold fuel; omega
 unfold pY
 rw [bq (hw fuel hF),e4]
 rfl
theorem u0 {st c:List PG.It} {b:Int} {bs:List Int} (h:PG.Goes (.value ::st) (b ::bs) c):∃ l,PG.jR b = some l:=by
 have hw:=h.whole
 cases e:PG.jR b with
 | some l=>exact ⟨l,rfl⟩
 | none=>
   unfold PG.tk at hw
   have:PG.gon (.value ::st) b = (st,false):=by
    unfold PG.gon
    rw [show PG.bh .value b = none from e]
    rfl
   rw [this] at hw
   simp at hw
theorem yV {b:Int} {l:List PG.It} (h:PG.jR b = some l):PG.wht b = false /\ b ≠ 93:=by
 have h1:∀ c:Int,(c = 32 \/ c = 9 \/ c = 10 \/ c = 13 \/ c = 93) -> PG.jR c = none:=by
  intro c hc
  rcases hc with z | z | z | z | z <;> subst z <;> rfl
 refine ⟨?_,fun z=>by rw [h1 b (by omega)] at h; cases h⟩
 cases hw:PG.wht b with
 | false=>rfl
 | true=>
   unfold PG.wht at hw
   simp only [Bool.or_eq_true,decide_eq_true_eq] at hw
   rw [h1 b (by omega)] at h; cases h
noncomputable def Rdy (row:List Int) (ks:List Bool):Prop:=∀ b bs c,PG.Goes (.value ::PG.out ks) (b ::bs) c -> PG.Goes PG.st0 (row ++ b ::bs) c
theorem tQ {row:List Int} {ks:List Bool} (h:PG.Goes PG.st0 row (.bt ::.value ::PG.out ks)):Rdy row ks:=fun b bs c k=>by
 obtain ⟨l,hl⟩:=u0 k
 exact h.trans (.past (yV hl).1 k)
theorem EI {row:List Int} {ks:List Bool} (h:PG.Goes PG.st0 row (.bt ::.row ::PG.out ks)):Rdy row (true ::ks):=fun b bs c k=>by
 obtain ⟨l,hl⟩:=u0 k
 exact h.trans (.past (yV hl).1 (PG.zl hl (yV hl).2 k))
noncomputable def ks (fs:List Fr):List Bool:=fs.map Fr.k
noncomputable def Jn (B:Bd):Prop:=match B.frs with
 | []=>PG.Gs PG.st0 B.row [.bt]
 | f ::fs=>PG.Gs PG.st0 B.row (PG.stk f.k f.items.isEmpty (ks fs)) /\ (f.items = [] -> PG.Goes PG.st0 B.row (PG.stk f.k true (ks fs)))
theorem wo (r e:Bool) (fs:List Bool) (h:fs.length < 64):PG.cnt (PG.hd r e ::PG.out fs) <= 64:=by
 rw [PG.cnt_cons,PG.kq]
 split <;> omega
theorem yq (ns:List Int) (n:Int):∀ s ∈ ll ns n,PG.Sok s:=CK _ _ _ (ur ns _).1
theorem xS {st c:List PG.It} {l:List PG.Sg} (k:PG.Goes st (PG.txt l) c):PG.Goes (.bt ::st) (PG.txt l) c:=.past rfl k
theorem IF (ns:List Int) (B:Bd) (n:Int) (hd:B.frs.length <= 60) (hj:Jn B) (hne:B.frs ≠ []):Rdy (bG ns B n) (ks B.frs):=by
 unfold Jn at hj
 unfold bG jg tj
 cases e:B.frs with
 | nil=>exact absurd e hne
 | cons f fs=>
   rw [e] at hj hd
   simp only [List.length_cons] at hd
   obtain ⟨h1,h2⟩:=hj
   have hks:(ks fs).length < 64:=by unfold ks; rw [List.length_map]; omega
   have hks2:(ks (f ::fs)).length <= 64:=by unfold ks; rw [List.length_map,List.length_cons]; omega
   have hcv:PG.cnt (.value ::PG.out (ks (f ::fs))) <= 64:=by rw [PG.cnt_cons,PG.kq]; simp [PG.opn]; exact hks2
   have hcs:PG.cnt (.sp 58 58 ::.bt ::.value ::PG.out (ks (f ::fs))) <= 64:=by rw [PG.cnt_cons,PG.cnt_cons]; simpa [PG.opn] using hcv
   have hcn:PG.cnt (.name ::.bt ::.sp 58 58 ::.bt ::.value ::PG.out (ks (f ::fs))) <= 64:=by rw [PG.cnt_cons,PG.cnt_cons]; simpa [PG.opn] using hcs
   simp only [full,inF]
   by_cases hi:f.items = []
   . have hie:f.items.isEmpty = true:=by rw [hi]; rfl
     simp only [hie,Bool.not_true,Bool.false_eq_true,if_false,List.append_nil]
     have h3:=(h2 hi).trans (PG.ez (wo f.k true (ks fs) hks) (lwh (n / 3)) (iC _))
     cases hk:f.k with
     | true=>
       simp only [Bool.not_true,Bool.false_eq_true,if_false]
       rw [hk] at h3
       have:ks (f ::fs) = true ::ks fs:=by simp [ks,hk]
       rw [this]
       exact EI h3
     | false=>
       simp only [Bool.not_false,if_true]
       rw [hk] at h3
       have hke:ks (f ::fs) = false ::ks fs:=by simp [ks,hk]
       rw [hke] at hcv hcs hcn ⊢
       refine tQ ?_
       have h4:=h3.trans (xS (PG.xx hks (ll ns n) (yq ns n)))
       have h5:=h4.trans (PG.tR hcv (iC (n / 19)))
       have h6:=h5.trans (PG.ez hcv (lwh (n / 23)) (iC _))
       simpa using h6
   . have hie:f.items.isEmpty = false:=by
      cases q:f.items with
      | nil=>exact absurd q hi
      | cons _ _=>rfl
     simp only [hie,Bool.not_false,if_true]
     rw [hie] at h1
     have h3:=h1.bt (wo f.k false (ks fs) hks) (iC (n / 3))
     cases hk:f.k with
     | true=>
       simp only [Bool.not_true,Bool.false_eq_true,if_false]
       rw [hk] at h3
       have hke:ks (f ::fs) = true ::ks fs:=by simp [ks,hk]
       rw [hke] at hcv hcs hcn ⊢
       refine tQ ?_
       have h4:=(PG.Gs.Br h3 hks).trans (PG.ez hcv (lwh (n / 11)) (iC _))
       simpa using h4
     | false=>
       simp only [Bool.not_false,if_true]
       rw [hk] at h3
       have hke:ks (f ::fs) = false ::ks fs:=by simp [ks,hk]
       rw [hke] at hcv hcs hcn ⊢
       refine tQ ?_
       have h4:=(PG.Gs.wL h3 hks).trans (PG.ez hcn (lwh (n / 11)) (iC _))
       have h5:=h4.trans (xS (PG.AY (by rw [PG.cnt_cons]; simpa [PG.opn] using hcs) (ll ns n) (yq ns n)))
       have h6:=h5.trans (PG.tR hcv (iC (n / 19)))
       have h7:=h6.trans (PG.ez hcv (lwh (n / 23)) (iC _))
       simpa using h7
theorem Ew (ns:List Int) (B:Bd) (n:Int) (h0:B.frs = []) (hr:B.row = []):Rdy (bG ns B n) (ks B.frs):=by
 rw [h0]
 refine tQ ?_
 unfold bG jg
 rw [h0,hr]
 simp only [inF,full,Bool.false_eq_true,if_false,List.append_nil,List.nil_append]
 exact PG.ez (by decide) _ (iC _)
theorem El (x:PG.Lf) (hx:PG.Lok x):∃ b bs,PG.lfb x = b ::bs:=by
 cases x with
 | wd w=>cases w <;> exact ⟨_,_,rfl⟩
 | tx l=>exact ⟨_,_,rfl⟩
 | nm m=>
   have h:m.ip ≠ []:=by
    rcases hx.ip with z | ⟨d,r,z,_⟩ <;> rw [z] <;> simp
   cases q:PG.lfb (.nm m) with
   | cons b bs=>exact ⟨b,bs,rfl⟩
   | nil=>
     have q':PG.nb m = []:=q
     unfold PG.nb at q'
     simp at q'
     exact absurd q'.2.1 h
theorem Jn.close {B:Bd} (h:Jn B) (hne:B.frs ≠ []) (hd:B.frs.length <= 60):Jn B.close:=by
 unfold Jn at h
 unfold Bd.close
 cases e:B.frs with
 | nil=>exact absurd e hne
 | cons f fs=>
   rw [e] at h hd
   simp only [List.length_cons] at hd
   have h1:=PG.Gs.close f.k f.items.isEmpty h.1 (by unfold ks; rw [List.length_map]; omega)
   cases fs with
   | nil=>exact .of h1
   | cons g gs=>
     refine ⟨?_,fun z=>by simp [jS] at z⟩
     have:({ g with items:=g.items ++ [if g.k then PV.tup [kS f.k,.tup f.items] else .tup [.tup (f.nm.map .int),.tup [kS f.k,.tup f.items]]] }:Fr).items.isEmpty = false:=by simp
     rw [this]
     exact .of h1
theorem Jn.bt {B:Bd} (h:Jn B) (hd:B.frs.length <= 60) (ws:List Int) (hw:∀ b ∈ ws,PG.wht b = true):Jn { B with row:=B.row ++ ws }:=by
 unfold Jn at h ⊢
 cases e:B.frs with
 | nil=>rw [e] at h; exact h.bt (by decide) hw
 | cons f fs=>
   rw [e] at h hd
   simp only [List.length_cons] at hd
   have hks:(ks fs).length < 64:=by unfold ks; rw [List.length_map]; omega
   exact ⟨h.1.bt (wo _ _ _ hks) hw,fun z=>(h.2 z).trans (PG.ez (wo _ _ _ hks) ws hw)⟩
theorem Dn {ns:List Int} {B:Bd} {n:Int} (h:Rdy (bG ns B n) (ks B.frs)) (hd:B.frs.length <= 60):Jn (B.opn ns n):=by
 have h1:=PG.Bv (fs:=ks B.frs) (decide (n / 5 % 2 = 0)) (by unfold ks; rw [List.length_map]; omega)
 have h2:=h _ _ _ h1
 simp only [decide_eq_true_eq] at h2
 exact ⟨.of h2,fun _=>h2⟩
theorem zR {ns:List Int} {B:Bd} {n:Int} (h:Rdy (bG ns B n) (ks B.frs)) (hd:B.frs.length <= 60):Jn (B.leaf ns n):=by
 obtain ⟨b,bs,hb⟩:=El (iN ns n) (As ns n)
 have hc:PG.cnt (PG.out (ks B.frs)) <= 64:=by rw [PG.kq]; unfold ks; rw [List.length_map]; omega
 obtain ⟨ls,hl,h1⟩:=PG.Ei hc (iN ns n) (As ns n)
 rw [hb] at h1
 have h2:=h _ _ _ h1
 rw [<- hb] at h2
 unfold Bd.leaf Jn
 simp only
 cases e:B.frs with
 | nil=>
   rw [e] at h2
   exact ⟨ls,hl,h2⟩
 | cons g gs=>
   rw [e] at h2
   refine ⟨⟨ls,hl,?_⟩,fun z=>by simp at z⟩
   have:(g.items ++ [if g.k = true then lfV ns n else PV.tup [PV.tup (List.map PV.int (cN ns B n)),lfV ns n]]).isEmpty = false:=by simp
   rw [this]
   exact h2
noncomputable def xy:List Fr -> Prop
 | []=>True
 | [f]=>f.i = 0
 | _ ::fs=>xy fs
structure Lo (ns:List Int) (B:Bd):Prop where
 nd:∃ d ds,B.nodes = d ::ds /\ d.b = B.row.length /\ ((∃ r k,B.row = r ++ [brk k]) \/ ∃ ws n,(∀ b ∈ ws,PG.wht b = true) /\ B.row = ws ++ PG.lfb (iN ns n) /\ d.a = ws.length /\ d.s = lfK (iN ns n))
structure pA (ns:List Int) (B:Bd):Prop where
 jn:Jn B
 lo:xy B.frs
 fin:B.frs = [] -> Lo ns B
theorem yj (nm:List Int) (v:PV) (fs:List Fr) (h:xy fs):xy (jS nm v fs):=by
 cases fs with
 | nil=>trivial
 | cons g gs=>cases gs with
   | nil=>exact h
   | cons _ _=>exact h
theorem Bu {f:Fr} {fs:List Fr} (h:xy (f ::fs)):xy fs:=by
 cases fs with
 | nil=>trivial
 | cons g gs=>exact h
theorem A7 {f:Fr} {fs:List Fr} (h:xy fs) (hn:fs ≠ []):xy (f ::fs):=by
 cases fs with
 | nil=>exact absurd rfl hn
 | cons g gs=>exact h
theorem pA.close {ns:List Int} {B:Bd} {k:Nat} (h:pA ns B) (hk:Bok B k) (hne:B.frs ≠ []) (hd:k <= 60):pA ns B.close:=by
 have hdep:=hk.dep
 refine ⟨h.jn.close hne (by omega),?_,?_⟩
 . have:=h.lo
   unfold Bd.close
   cases e:B.frs with
   | nil=>exact absurd e hne
   | cons f fs=>rw [e] at this; exact yj _ _ _ (Bu this)
 . have hlo:=h.lo
   have hfr:=hk.frs
   unfold Bd.close
   cases e:B.frs with
   | nil=>exact absurd e hne
   | cons f fs=>
     rw [e] at hlo hfr
     cases fs with
     | cons g gs=>intro z; simp [jS] at z
     | nil=>
       intro _
       have h0:f.i = 0:=hlo
       have hl:=hfr.1
       cases hn:B.nodes with
       | nil=>rw [hn] at hl; simp at hl
       | cons d ds=>
         refine ⟨⟨{ d with b:=B.row.length + 1,c:=(d ::ds).length },ds,?_,?_,.inl ⟨B.row,f.k,rfl⟩⟩⟩
         . simp [inF,h0]
         . simp
theorem pA.step {ns:List Int} {B:Bd} {k:Nat} (h:pA ns B) (hk:Bok B k) (hd:k <= 50) (h0:k ≠ 0):pA ns (B.step ns k):=by
 have hdep:=hk.dep
 unfold Bd.step
 split
 . rename_i hc
   have hne:B.frs ≠ []:=by intro z; rw [z] at hc; simp at hc
   refine pA.close (k:=k + 1) (B:={ B with row:=B.row ++ lwh (PG.mix ns k / 3) }) ⟨h.jn.bt (by omega) _ (iC _),h.lo,fun z=>absurd z hne⟩ ⟨?_,?_,?_,?_⟩ hne (by omega)
   . have:=fN (PG.mix ns k / 3); have:=hk.row; simp; omega
   . have:=hk.nodes; simp; omega
   . exact FOk.mono (Nat.le_refl _) (Nat.le_succ _) hk.frs
   . simp; omega
 . split
   . rename_i hc
     have hne:B.frs ≠ []:=by
      intro z; rw [z] at hc; simp at hc; exact h0 hc
     have hr:=IF ns B (PG.mix ns k) (by omega) h.jn hne
     split
     . refine ⟨Dn hr (by omega),?_,fun z=>by simp [Bd.opn] at z⟩
       exact A7 h.lo hne
     . refine ⟨zR hr (by omega),yj _ _ _ h.lo,fun z=>?_⟩
       unfold Bd.leaf at z
       simp only at z
       cases e:B.frs with
       | nil=>exact absurd e hne
       | cons g gs=>rw [e] at z; simp [jS] at z
   . exact h
theorem pA.first (ns:List Int):pA ns (bd0.step ns 0):=by
 have hr:=Ew ns bd0 (PG.mix ns 0) rfl rfl
 have hd:bd0.frs.length <= 60:=by simp [bd0]
 unfold Bd.step
 rw [if_neg (by simp [bd0]),if_pos (.inr rfl)]
 split
 . exact ⟨Dn hr hd,rfl,fun z=>by simp [Bd.opn] at z⟩
 . refine ⟨zR hr hd,trivial,fun _=>⟨⟨⟨lfK (iN ns (PG.mix ns 0)),(bG ns bd0 (PG.mix ns 0)).length,(bG ns bd0 (PG.mix ns 0) ++ PG.lfb (iN ns (PG.mix ns 0))).length,(b7 ns bd0 (PG.mix ns 0)).length + 1⟩,[],rfl,rfl,.inr ⟨bG ns bd0 (PG.mix ns 0),PG.mix ns 0,?_,rfl,rfl,rfl⟩⟩⟩⟩
   intro b hb
   have:bG ns bd0 (PG.mix ns 0) = lwh (PG.mix ns 0 / 3):=by simp [bG,jg,bd0,inF,full]
   rw [this] at hb
   exact iC _ b hb
theorem zS (ns:List Int):∀ (j i:Nat) (B:Bd),pA ns B -> Bok B i -> i ≠ 0 -> i + j <= 50 -> pA ns (bld ns B i j)
 | 0,_,_,h,_,_,_=>h
 | j + 1,i,B,h,hk,h0,hj=>zS ns j (i + 1) _ (h.step hk (by omega) h0) (hk.step ns) (by omega) (by omega)
theorem Ad (ns:List Int):∀ (j:Nat) (B:Bd) (k:Nat),pA ns B -> Bok B k -> k + j <= 60 -> B.frs.length = j -> pA ns (cls B j) /\ (cls B j).frs = []
 | 0,B,k,h,_,_,hj=>⟨h,List.length_eq_zero_iff.mp hj⟩
 | j + 1,B,k,h,hk,hkj,hj=>by
   have hne:B.frs ≠ []:=by intro z; rw [z] at hj; simp at hj
   have hb:=hk.close [] (by simp)
   rw [show ({ B with row:=B.row ++ [] }:Bd) = B by cases B; simp] at hb
   exact Ad ns j B.close (k + 1) (h.close hk hne (by omega)) hb (by omega) (by rw [uY]; omega)
theorem Bn (ns:List Int) (m:Nat) (h1:1 <= m) (hm:m <= 20):∃ C,pA ns C /\ C.frs = [] /\ zU ns m = { C with row:=C.row ++ lwh (PG.mix ns 61) } /\ C.row.length <= 800 * m:=by
 obtain ⟨m,rfl⟩:∃ j,m = j + 1:=⟨m - 1,by omega⟩
 have hok:=zf ns (m + 1) 0 bd0 vO
 have h:=zS ns m 1 (bd0.step ns 0) (pA.first ns) (vO.step ns) (by omega) (by omega)
 have hd:=hok.dep
 have hc:=Ad ns (bld ns bd0 0 (m + 1)).frs.length (bld ns bd0 0 (m + 1)) (0 + (m + 1)) h hok (by omega) rfl
 have hr:=(y9 (bld ns bd0 0 (m + 1)).frs.length _ _ hok).row
 exact ⟨_,hc.1,hc.2,rfl,Nat.le_trans hr (by omega)⟩
theorem xf {P:List Int} {st:List PG.It} (h:PG.Goes PG.st0 P st) (hs:st.all PG.loose = false):PG.flt P ≠ none:=by
 have:=h []
 rw [List.append_nil] at this
 unfold PG.flt
 rw [this]
 show (if _ then none else some _) ≠ none
 rw [if_neg]
 . simp
 . intro z
   have:st.all PG.loose = true:=z.2
   rw [hs] at this; cases this
theorem A0 (ws:List Int) (hw:∀ b ∈ ws,PG.wht b = true):PG.flt ws ≠ none:=
 xf (PG.ez (st:=[.value,.bt]) (by decide) ws hw) rfl
theorem xp (ws:List Int) (hw:∀ b ∈ ws,PG.wht b = true) {w:List Int} {b:Int} {c:List PG.It} (k:PG.Goes (.value ::PG.out []) (b ::w) c) (hc:c.all PG.loose = false):PG.flt (ws ++ b ::w) ≠ none:=
 xf (tQ (ks:=[]) (PG.ez (by decide) ws hw) b w c k) hc
theorem oh {b:Int} (h:b = 93 \/ b = 125 \/ b = 34 \/ b = 108 \/ b = 114 \/ b = 117 \/ b = 97 \/ b = 115):¬ PG.tb b:=by
 intro z
 unfold PG.tb PG.isF at z
 have hw:PG.wht b = false:=by rcases h with z | z | z | z | z | z | z | z <;> subst z <;> rfl
 rw [hw] at z
 simp at z
 omega
theorem Hx (ns:List Int) (C:Bd) (h:pA ns C) (hf:C.frs = []) (ws2:List Int) (h2:∀ b ∈ ws2,PG.wht b = true) (at':Nat) (hat:at' <= (C.row ++ ws2).length):
  PG.flt ((C.row ++ ws2).take at') = some at' \/ (PG.flt ((C.row ++ ws2).take at') = none /\ ∃ d ds,C.nodes = d ::ds /\ (d.b <= at' \/ (d.s = "number" /\ d.a < at'))):=by
 have hj:=h.jn
 unfold Jn at hj
 rw [hf] at hj
 have hg:=hj.bt (by decide) h2
 obtain ⟨ls,hl,hg⟩:=hg
 have hsp:=List.take_append_drop at' (C.row ++ ws2)
 rw [<- hsp] at hg
 have hlen:((C.row ++ ws2).take at').length = at':=by rw [List.length_take]; omega
 rcases PG.DM hg with z | ⟨z,hb⟩
 . left; rw [z,hlen]
 . right
   refine ⟨z,?_⟩
   obtain ⟨d,ds,hn,hdb,hv⟩:=(h.fin hf).nd
   refine ⟨d,ds,hn,?_⟩
   by_cases hge:C.row.length <= at'
   . left; rw [hdb]; omega
   . have hlt:at' < C.row.length:=by omega
     have hdr:(C.row ++ ws2).drop at' = C.row.drop at' ++ ws2:=by rw [List.drop_append_of_le_length (by omega)]
     have htk:(C.row ++ ws2).take at' = C.row.take at':=by rw [List.take_append_of_le_length (by omega)]
     rw [hdr] at hb
     rw [htk] at z
     rcases hv with ⟨r,k,hr⟩ | ⟨ws,n,hws,hr,ha,hs⟩
     . exfalso
       rw [hr,List.length_append,List.length_singleton] at hlt
       refine oh (b:=brk k) ?_ (hb _ ?_)
       . unfold brk; cases k <;> simp
       . rw [hr,List.drop_append_of_le_length (by omega)]; simp
     . rw [hr,List.length_append] at hlt
       rw [hr] at z hb
       by_cases haw:at' <= ws.length
       . exfalso
         rw [List.take_append_of_le_length haw] at z
         exact A0 (ws.take at') (fun b hb=>hws b (List.mem_of_mem_take hb)) z
       . right
         obtain ⟨j,rfl⟩:∃ j,at' = ws.length + j:=⟨at' - ws.length,by omega⟩
         rw [List.take_length_add_append] at z
         rw [List.drop_length_add_append] at hb
         have hjl:j < (PG.lfb (iN ns n)).length:=by omega
         have hj1:1 <= j:=by omega
         refine ⟨?_,by rw [ha]; omega⟩
         rw [hs]
         cases hx:iN ns n with
         | nm m=>rfl
         | tx l=>
           exfalso
           rw [hx] at hb hjl
           refine oh (b:=34) (by omega) (hb _ ?_)
           have e:PG.lfb (.tx l) = (34 ::PG.inner l) ++ [34]:=by simp [PG.lfb,PG.txt]
           rw [e] at hjl ⊢
           rw [List.drop_append_of_le_length (by simp at hjl ⊢; omega)]
           simp
         | wd w=>
           exfalso
           rw [hx] at hb hjl z
           cases w with
           | null=>
             have hj:j = 1 \/ j = 2 \/ j = 3:=by simp [PG.lfb,PG.wdb] at hjl; omega
             refine oh (b:=108) (by omega) (hb _ ?_)
             rcases hj with e | e | e <;> subst e <;> simp [PG.lfb,PG.wdb]
           | tru=>
             have hj:j = 1 \/ j = 2 \/ j = 3:=by simp [PG.lfb,PG.wdb] at hjl; omega
             rcases hj with e | e | e <;> subst e
             . exact oh (b:=114) (by omega) (hb _ (by simp [PG.lfb,PG.wdb]))
             . exact oh (b:=117) (by omega) (hb _ (by simp [PG.lfb,PG.wdb]))
             . exact xp ws hws (b:=116) (w:=[114,117]) (c:=.sp 101 101 ::PG.out [])
                (PG.Goes.step (l:=[.sp 114 114,.sp 117 117,.sp 101 101]) rfl rfl (by decide) (PG.Goes.trans (xs:=[114]) (PG.fu (by decide)) (PG.fu (by decide)))) rfl z
           | fal=>
             have hj:j = 1 \/ j = 2 \/ j = 3 \/ j = 4:=by simp [PG.lfb,PG.wdb] at hjl; omega
             rcases hj with e | e | e | e <;> subst e
             . exact oh (b:=97) (by omega) (hb _ (by simp [PG.lfb,PG.wdb]))
             . exact oh (b:=108) (by omega) (hb _ (by simp [PG.lfb,PG.wdb]))
             . exact oh (b:=115) (by omega) (hb _ (by simp [PG.lfb,PG.wdb]))
             . exact xp ws hws (b:=102) (w:=[97,108,115]) (c:=.sp 101 101 ::PG.out [])
                (PG.Goes.step (l:=[.sp 97 97,.sp 108 108,.sp 115 115,.sp 101 101]) rfl rfl (by decide) (PG.Goes.trans (xs:=[97]) (PG.fu (by decide)) (PG.Goes.trans (xs:=[108]) (PG.fu (by decide)) (PG.fu (by decide))))) rfl z
theorem Er (row:List Int) (a:Nat) (ha:a <= row.length):yN (row.map .int) none (some (a:Int)) = (row.take a).map .int:=by
 have h1:uP (row.map PV.int).length 0 none = 0:=rfl
 have h2:uP (row.map PV.int).length (row.map PV.int).length (some (a:Int)) = a:=by
  have:¬ ((a:Int) < 0):=by omega
  simp [uP,this]; omega
 unfold yN
 rw [h1,h2]
 simp [List.map_take]
theorem CY (ns:List Int) (_:ns.length <= 63):uU [.lst (ns.map .int)] = .ok (.sh (.bl true)):=by
 obtain ⟨m,hm⟩:∃ m:Nat,(m:Int) = 1 + PG.mix ns 62 % 10:=⟨(1 + PG.mix ns 62 % 10).toNat,by omega⟩
 have hm1:1 <= m:=by omega
 have hm2:m <= 10:=by omega
 obtain ⟨C,hI,hf,hB,hlen⟩:=Bn ns m hm1 (by omega)
 have hb:=D4 ns m (by omega)
 rw [hB] at hb
 simp only at hb
 have hw:=iC (PG.mix ns 61)
 have hwl:=fN (PG.mix ns 61)
 have hjn:=hI.jn
 unfold Jn at hjn
 rw [hf] at hjn
 have hflt:=(hjn.bt (by decide) hw).flt
 have hcut:=Hx ns C hI hf _ hw
 obtain ⟨d,ds,hnd,_⟩:=(hI.fin hf).nd
 rw [hnd] at hb
 generalize hrow:C.row ++ lwh (PG.mix ns 61) = row at *
 have hrl:row.length <= 8003:=by rw [<- hrow,List.length_append]; omega
 have hfa:=pb row (by omega)
 rw [hflt] at hfa
 obtain ⟨a,ha⟩:∃ a:Nat,(a:Int) = PG.mix ns 60 % ((row.length:Int) + 1):=⟨(PG.mix ns 60 % ((row.length:Int) + 1)).toNat,by have:=Int.emod_nonneg (PG.mix ns 60) (b:=(row.length:Int) + 1) (by omega); omega⟩
 have hal:a <= row.length:=by have:=Int.emod_lt_of_pos (PG.mix ns 60) (b:=(row.length:Int) + 1) (by omega); omega
 have hfc:=pb (row.take a) (by rw [List.length_take]; omega)
 have hsl:=Er row a hal
 rw [List.map_take] at hfc hsl
 generalize hV:PV.tup [.lst (row.map .int),.lst ((d ::ds).map ndP),C.val] = V at hb
 have v0:mOp ik (aq 1) (mC (.int 0)) [some (.sh (.lst (ns.map .int))),some (.sh V),none,none,none,none,none] = .ok (.sh (.lst (row.map .int))):=by
  rw [<- hV]; simp [ik,atP,ixP]
 have v1:∀ (x2 x3 x4 x5 x6:Option Sl),mOp mI (mOp ik (aq 1) (mC (.int 1))) (mC (.int 0)) [some (.sh (.lst (ns.map .int))),some (.sh V),x2,x3,x4,x5,x6] = .ok (.sh (ndP d)):=by
  intro x2 x3 x4 x5 x6
  rw [<- hV]; simp [ik,mI,atP,ixP]
 unfold uU fnP
 rw [if_pos (show List.length [PV.lst (ns.map .int)] = 1 from rfl),show mi 7 [PV.lst (ns.map .int)] = [some (.sh (.lst (ns.map .int))),none,none,none,none,none,none] from rfl]
 unfold F0
 rw [bq (ρ':=[some (.sh (.lst (ns.map .int))),some (.sh V),none,none,none,none,none]) (by
  rw [hm] at hb
  simp [bp,dP,hb])]
 unfold Az
 rw [bq (ρ':=[some (.sh (.lst (ns.map .int))),some (.sh V),some (.sh (.lst (row.map .int))),none,none,none,none]) (by
  unfold bp; rw [v0]; simp)]
 unfold Ag
 rw [bq (ρ':=[some (.sh (.lst (ns.map .int))),some (.sh V),some (.sh (.lst (row.map .int))),some (.ow (row.map .int)),none,none,none]) (by
  simp [bp,qV])]
 unfold zL
 rw [bq (ρ':=[some (.sh (.lst (ns.map .int))),some (.sh V),some (.sh (.lst (row.map .int))),some (.sh (.lst (row.map .int))),none,none,none]) (by
  simp -implicitDefEqProofs [i9,lx,bb,rB,aD,hfa,ofO,cu,tJ,HK,Fj])]
 unfold An
 rw [bq (ρ':=[some (.sh (.lst (ns.map .int))),some (.sh V),some (.sh (.lst (row.map .int))),some (.sh (.lst (row.map .int))),some (.sh (.int a)),none,none]) (by
  have:¬ ((row.length:Int) + 1 = 0):=by omega
  have h2:0 < (row.length:Int) + 1:=by omega
  have h3:(row.length:Int) + 1 < 1073741824:=by omega
  simp [bp,dP,this,h2,h3,<- ha])]
 unfold Ah
 rw [bq (ρ':=[some (.sh (.lst (ns.map .int))),some (.sh V),some (.sh (.lst (row.map .int))),some (.sh (.lst (row.map .int))),some (.sh (.int a)),some (.sh (ofO (PG.flt (row.take a)))),none]) (by
  simp -implicitDefEqProofs [bp,A2,Ez,u4,hsl,hfc])]
 unfold zW
 rcases hcut a hal with h | ⟨h,d',ds',hnd',hh⟩
 . rw [h]
   simp -implicitDefEqProofs [bb,aD,ofO,cu,sO,Ai,kX,uy]
 . rw [h]
   have hdd:d' = d:=by rw [hnd] at hnd'; cases hnd'; rfl
   rw [hdd] at hh
   rw [<- hV]
   by_cases hg:d.b <= (a:Int)
   . simp -implicitDefEqProofs [bb,aD,ofO,cu,sO,ndP,ik,mI,atP,ixP,Ca,hg]
   . rcases hh with hh | ⟨h1,h2⟩
     . exact absurd hh hg
     . simp -implicitDefEqProofs [bb,aD,ofO,cu,sO,ndP,ik,mI,atP,ixP,Ca,uy,hg,h1,h2,gEq,eqS,aG]
end L2.plainglass_k05_texts_taken
namespace L2.plainglass_k05_texts_taken
open PySem PySem.Spec PyProof.Rows L2.E L2.P
def top (i:Nat):Stmt:=PySem.Challenge.pw_plainglass_k05_texts_taken.main.body.getD i (.Pass ⟨0,0,0,0⟩)
abbrev v3:Stmt:=top 3
noncomputable abbrev uF:List Str:=["byte"]
theorem Cw:aV ["byte"] uF (aA v3):=eR
abbrev i8:Stmt:=top 4
noncomputable abbrev iF:List Str:=["byte"]
theorem qc:aV ["byte"] iF (aA i8):=eR
abbrev jD:Stmt:=top 5
noncomputable abbrev jk:List Str:=["byte"]
theorem qH:aV ["byte"] jk (aA jD):=eR
abbrev qr:Stmt:=top 27
noncomputable abbrev o2:List Str:=["byte"]
theorem xJ:aV ["byte"] o2 (aA qr):=eR
abbrev oo:Stmt:=top 28
noncomputable abbrev mQ:List Str:=["byte"]
theorem v8:aV ["byte"] mQ (aA oo):=eR
abbrev oM:Stmt:=top 29
noncomputable abbrev ng:List Str:=["byte"]
theorem vx:aV ["byte"] ng (aA oM):=eR
abbrev oB:Stmt:=top 30
noncomputable abbrev nj:List Str:=["byte"]
theorem wz:aV ["byte"] nj (aA oB):=eR
abbrev kC:Stmt:=top 31
noncomputable abbrev j1:List Str:=["byte"]
theorem sN:aV ["byte"] j1 (aA kC):=eR
abbrev tK:Stmt:=top 37
noncomputable abbrev rY:List Str:=["item","byte"]
theorem Bo:aV ["item","byte"] rY (aA tK):=eR
abbrev kG:Stmt:=top 38
noncomputable abbrev jZ:List Str:=["byte"]
theorem nR:aV ["byte","rest"] jZ (aA kG):=eR
abbrev lU:Stmt:=top 39
noncomputable abbrev kO:List Str:=["byte"]
theorem tI:aV ["byte"] kO (aA lU):=eR
abbrev iM:Stmt:=top 40
noncomputable abbrev hE:List Str:=["item","byte"]
theorem pz:aV ["item","byte"] hE (aA iM):=eR
abbrev jF:Stmt:=top 41
noncomputable abbrev iY:List Str:=["item","byte"]
theorem lD:aV ["item","byte","worth"] iY (aA jF):=eR
abbrev iI:Stmt:=top 42
noncomputable abbrev hU:List Str:=["byte"]
theorem kf:aV ["byte","spans"] hU (aA iI):=eR
abbrev iE:Stmt:=top 43
noncomputable abbrev hJ:List Str:=["byte"]
theorem pC:aV ["byte"] hJ (aA iE):=eR
abbrev j7:Stmt:=top 44
noncomputable abbrev js:List Str:=["worth"]
theorem mG:aV ["worth","second"] js (aA j7):=eR
abbrev m3:Stmt:=top 45
noncomputable abbrev lR:List Str:=["item","byte"]
theorem pT:aV ["item","byte","worth"] lR (aA m3):=eR
abbrev gz:Stmt:=top 46
noncomputable abbrev gk:List Str:=["item","byte"]
theorem nY:aV ["item","byte"] gk (aA gz):=eR
abbrev iJ:Stmt:=top 47
noncomputable abbrev ib:List Str:=["byte"]
theorem kh:aV ["byte","items"] ib (aA iJ):=eR
abbrev gn:Stmt:=top 48
noncomputable abbrev fL:List Str:=["byte"]
theorem m5:aV ["byte"] fL (aA gn):=eR
abbrev lF:Stmt:=top 49
noncomputable abbrev kQ:List Str:=[]
theorem uk:aV [] kQ (aA lF):=eR
abbrev vP:Stmt:=top 51
noncomputable abbrev uC:List Str:=["row"]
theorem uo:aV ["row","walk","at"] uC (aA vP):=eR
abbrev p9:Stmt:=top 53
noncomputable abbrev oj:List Str:=["_law_script","_law_k"]
theorem yo:aV ["_law_script","_law_k"] oj (aA p9):=eR
abbrev rL:Stmt:=top 54
noncomputable abbrev qb:List Str:=["_law_script","_law_k"]
theorem qp:aV ["_law_script","_law_k","_law_number_here"] qb (aA rL):=eR
abbrev oN:Stmt:=top 55
noncomputable abbrev m9:List Str:=["_law_found"]
theorem vW:aV ["_law_found"] m9 (aA oN):=eR
abbrev oX:Stmt:=top 57
noncomputable abbrev nA:List Str:=["_law_number_here"]
theorem nM:aV ["_law_number_here","_law_kind","_law_rest"] nA (aA oX):=eR
abbrev mO:Stmt:=top 58
noncomputable abbrev lV:List Str:=["_law_script","_law_k"]
theorem jP:aV ["_law_script","_law_k","_law_number_here","_law_size_here"] lV (aA mO):=eR
abbrev om:Stmt:=top 59
noncomputable abbrev nh:List Str:=["_law_point_here"]
theorem gW:aV ["_law_point_here","_law_many_here","_law_found","_law_k"] nh (aA om):=eR
abbrev rZ:Stmt:=top 60
noncomputable abbrev qw:List Str:=["_law_number_here","_law_big"]
theorem iH:aV ["_law_number_here","_law_big","_law_found","_law_k","_law_worth"] qw (aA rZ):=eR
abbrev qh:Stmt:=top 61
noncomputable abbrev oS:List Str:=["_law_point_here","_law_number_here"]
theorem lb:aV ["_law_point_here","_law_number_here","_law_short","_law_way","_law_rest"] oS (aA qh):=eR
abbrev qa:Stmt:=top 62
noncomputable abbrev oP:List Str:=["_law_points_here","_law_number_here"]
theorem iU:aV ["_law_points_here","_law_number_here","_law_found","_law_at","_law_point_here"] oP (aA qa):=eR
abbrev nB:Stmt:=top 63
noncomputable abbrev lX:List Str:=["_law_number_here"]
theorem bw:aV ["_law_number_here","_law_below","_law_figures_here","_law_row","_law_worth","_law_figure","_law_power","_law_more","_law_down"] lX (aA nB):=eR
abbrev oz:Stmt:=top 64
noncomputable abbrev m7:List Str:=["_law_worth","_law_power"]
theorem nG:aV ["_law_worth","_law_power"] m7 (aA oz):=eR
abbrev o7:Stmt:=top 65
noncomputable abbrev nL:List Str:=["_law_number_here"]
theorem vI:aV ["_law_number_here"] nL (aA o7):=eR
abbrev i4:Stmt:=top 66
noncomputable abbrev iR:List Str:=["_law_script","_law_number_here"]
theorem fR:aV ["_law_script","_law_number_here","_law_kind","_law_points_here","_law_found"] iR (aA i4):=eR
abbrev qq:Stmt:=top 67
noncomputable abbrev o4:List Str:=["_law_script","_law_number_here"]
theorem yd:aV ["_law_script","_law_number_here"] o4 (aA qq):=eR
abbrev o8:Stmt:=top 68
noncomputable abbrev nz:List Str:=["_law_row","_law_nodes_here","_law_frames"]
theorem mW:aV ["_law_row","_law_nodes_here","_law_frames","_law_frame","_law_value_here"] nz (aA o8):=eR
abbrev ou:Stmt:=top 69
noncomputable abbrev nr:List Str:=["_law_script","_law_row","_law_nodes_here","_law_frames","_law_number_here"]
theorem i7:aV ["_law_script","_law_row","_law_nodes_here","_law_frames","_law_number_here","_law_name_here","_law_points_here","_law_at"] nr (aA ou):=eR
abbrev o6:Stmt:=top 70
noncomputable abbrev mT:List Str:=["_law_script","_law_many_here"]
theorem cw:aV ["_law_script","_law_many_here","_law_row","_law_nodes_here","_law_frames","_law_value_here","_law_k","_law_number_here","_law_name_here","_law_at","_law_kind","_law_found"] mT (aA o6):=eR
abbrev yf:Stmt:=top 71
noncomputable abbrev y0:List Str:=["_law_script"]
theorem qe:aV ["_law_script","_law_built_here","_law_row","_law_handed","_law_at","_law_found","_law_left"] y0 (aA yf):=eR
abbrev eA:Stmt:=inClass (top 36) 0
noncomputable abbrev jC:List Str:=["self"]
theorem rp:aV ["self"] jC (aA eA):=eR
abbrev gQ:Stmt:=inClass (top 36) 1
noncomputable abbrev nu:List Str:=["self","row"]
theorem mN:aV ["self","row","at","byte"] nu (aA gQ):=eR
abbrev eL:Stmt:=inClass (top 36) 2
noncomputable abbrev j8:List Str:=["self","byte"]
theorem j5:aV ["self","byte","item","items"] j8 (aA eL):=eR
abbrev eh:Stmt:=inClass (top 36) 3
noncomputable abbrev jt:List Str:=["self"]
theorem rS:aV ["self"] jt (aA eh):=eR
abbrev ef:Stmt:=inClass (top 36) 5
noncomputable abbrev jy:List Str:=["self"]
theorem rH:aV ["self"] jy (aA ef):=eR
set_option genInjectivity false in
set_option genSizeOf false in
structure Adr where
 iZ:Addr
 d_tails:FuncData
 cU:Addr
 d_second_of_three:FuncData
 dm:Addr
 d_second_of_four:FuncData
 iS:Addr
 d_is_white:FuncData
 eU:Addr
 d_is_figure:FuncData
 fH:Addr
 d_hex_worth:FuncData
 eW:Addr
 d_word_rest:FuncData
 bL:Addr
 d_short_escape:FuncData
 cg:Addr
 d_behind:FuncData
 bK:Addr
 d_behind_value:FuncData
 dR:Addr
 d_behind_lead:FuncData
 aX:Addr
 d_behind_in_number:FuncData
 bR:Addr
 d_behind_in_text:FuncData
 bW:Addr
 d_behind_character:FuncData
 cE:Addr
 d_behind_backslash:FuncData
 dF:Addr
 d_behind_code_d:FuncData
 dQ:Addr
 d_behind_hex:FuncData
 ba:Addr
 d_behind_in_brackets:FuncData
 cq:Addr
 d_behind_row_begin:FuncData
 b9:Addr
 d_behind_fields_begin:FuncData
 eE:Addr
 d_member_rest:FuncData
 lu:Addr
 d_fault:FuncData
 iT:Addr
 d_law_cell:FuncData
 eG:Addr
 d_law_mix:FuncData
 gH:Addr
 d_law_whole:FuncData
 dG:Addr
 d_law_point:FuncData
 eC:Addr
 d_law_points:FuncData
 eD:Addr
 d_law_eight:FuncData
 g8:Addr
 d_law_hex:FuncData
 iO:Addr
 d_law_sign:FuncData
 fP:Addr
 d_law_text:FuncData
 fV:Addr
 d_law_number:FuncData
 eX:Addr
 d_law_plain:FuncData
 cC:Addr
 d_law_white:FuncData
 bH:Addr
 d_law_plain_value:FuncData
 gR:Addr
 d_law_name:FuncData
 cT:Addr
 d_law_close:FuncData
 fK:Addr
 d_law_begin:FuncData
 gA:Addr
 d_law_built:FuncData
 uU:Addr
 d_law:FuncData
 dc:Addr
 d_Walk___init__:FuncData
 fI:Addr
 d_Walk_take:FuncData
 dZ:Addr
 d_Walk_goes_on:FuncData
 cH:Addr
 d_Walk_brackets:FuncData
 de:Addr
 d_Walk_is_whole:FuncData
 C_Walk:Addr
 v_TAIL:Addr
 v_BLANK:Value
 v_QUOTE:Value
 v_PLUS:Value
 v_COMMA:Value
 v_MINUS:Value
 v_POINT:Value
 v_NOUGHT:Value
 v_NINE:Value
 v_COLON:Value
 v_BIG_E:Value
 v_ROW_BEGIN:Value
 v_BACKSLASH:Value
 v_ROW_END:Value
 v_SMALL_E:Value
 v_SMALL_U:Value
 v_FIELDS_BEGIN:Value
 v_FIELDS_END:Value
 v_WHITE:Addr
 v_WORDS:Addr
 v_SHORT_ESCAPES:Addr
 v_MOST_BRACKETS:Value
 v_LOOSE:Addr
 v_UNENDED:Addr
structure Txt (K:PySem.W.Frag) (mg:Str -> Option Value) (t:Adr):Prop where
 e_tails:Ent K mg "tails" v3 t.iZ t.d_tails uF
 e_second_of_three:Ent K mg "second_of_three" i8 t.cU t.d_second_of_three iF
 e_second_of_four:Ent K mg "second_of_four" jD t.dm t.d_second_of_four jk
 mP:Ent K mg "is_white" qr t.iS t.d_is_white o2
 fG:Ent K mg "is_figure" oo t.eU t.d_is_figure mQ
 iV:Ent K mg "hex_worth" oM t.fH t.d_hex_worth ng
 e_word_rest:Ent K mg "word_rest" oB t.eW t.d_word_rest nj
 jl:Ent K mg "short_escape" kC t.bL t.d_short_escape j1
 qY:Ent K mg "behind" tK t.cg t.d_behind rY
 fD:Ent K mg "behind_value" kG t.bK t.d_behind_value jZ
 gj:Ent K mg "behind_lead" lU t.dR t.d_behind_lead kO
 e_behind_in_number:Ent K mg "behind_in_number" iM t.aX t.d_behind_in_number hE
 e_behind_in_text:Ent K mg "behind_in_text" jF t.bR t.d_behind_in_text iY
 fT:Ent K mg "behind_character" iI t.bW t.d_behind_character hU
 fW:Ent K mg "behind_backslash" iE t.cE t.d_behind_backslash hJ
 iB:Ent K mg "behind_code_d" j7 t.dF t.d_behind_code_d js
 e_behind_hex:Ent K mg "behind_hex" m3 t.dQ t.d_behind_hex lR
 e_behind_in_brackets:Ent K mg "behind_in_brackets" gz t.ba t.d_behind_in_brackets gk
 fU:Ent K mg "behind_row_begin" iJ t.cq t.d_behind_row_begin ib
 eP:Ent K mg "behind_fields_begin" gn t.b9 t.d_behind_fields_begin fL
 dA:Ent K mg "member_rest" lF t.eE t.d_member_rest kQ
 pb:Ent K mg "fault" vP t.lu t.d_fault uC
 nJ:Ent K mg "_law_cell" p9 t.iT t.d_law_cell oj
 dP:Ent K mg "_law_mix" rL t.eG t.d_law_mix qb
 kX:Ent K mg "_law_whole" oN t.gH t.d_law_whole m9
 lj:Ent K mg "_law_point" oX t.dG t.d_law_point nA
 gZ:Ent K mg "_law_points" mO t.eC t.d_law_points lV
 lh:Ent K mg "_law_eight" om t.eD t.d_law_eight nh
 ju:Ent K mg "_law_hex" rZ t.g8 t.d_law_hex qw
 mV:Ent K mg "_law_sign" qh t.iO t.d_law_sign oS
 jw:Ent K mg "_law_text" qa t.fP t.d_law_text oP
 ko:Ent K mg "_law_number" nB t.fV t.d_law_number lX
 e_law_plain:Ent K mg "_law_plain" oz t.eX t.d_law_plain m7
 dY:Ent K mg "_law_white" o7 t.cC t.d_law_white nL
 e_law_plain_value:Ent K mg "_law_plain_value" i4 t.bH t.d_law_plain_value iR
 mS:Ent K mg "_law_name" qq t.gR t.d_law_name o4
 e_law_close:Ent K mg "_law_close" o8 t.cT t.d_law_close nz
 e_law_begin:Ent K mg "_law_begin" ou t.fK t.d_law_begin nr
 e_law_built:Ent K mg "_law_built" o6 t.gA t.d_law_built mT
 CY:Ent K mg "law" yf t.uU t.d_law y0
 F_Walk___init__:Fun K "__init__" "Walk.__init__" eA t.dc t.d_Walk___init__
 b_Walk___init__:Binds K t.d_Walk___init__ jC []
 F_Walk_take:Fun K "take" "Walk.take" gQ t.fI t.d_Walk_take
 h_Walk_take:Meth K t.C_Walk "take" t.fI
 b_Walk_take:Binds K t.d_Walk_take nu []
 F_Walk_goes_on:Fun K "goes_on" "Walk.goes_on" eL t.dZ t.d_Walk_goes_on
 h_Walk_goes_on:Meth K t.C_Walk "goes_on" t.dZ
 b_Walk_goes_on:Binds K t.d_Walk_goes_on j8 []
 F_Walk_brackets:Fun K "brackets" "Walk.brackets" eh t.cH t.d_Walk_brackets
 h_Walk_brackets:Meth K t.C_Walk "brackets" t.cH
 b_Walk_brackets:Binds K t.d_Walk_brackets jt []
 F_Walk_is_whole:Fun K "is_whole" "Walk.is_whole" ef t.de t.d_Walk_is_whole
 h_Walk_is_whole:Meth K t.C_Walk "is_whole" t.de
 b_Walk_is_whole:Binds K t.d_Walk_is_whole jy []
 n_isinstance:mg "isinstance" = none
 n_tuple:mg "tuple" = none
 n_len:mg "len" = none
 n_int:mg "int" = none
 n_bool:mg "bool" = none
 n_range:mg "range" = none
 n_str:mg "str" = none
 n_ord:mg "ord" = none
 n_list:mg "list" = none
 n_enumerate:mg "enumerate" = none
 n_all:mg "all" = none
 m_Walk:mg "Walk" = some (.ref t.C_Walk)
 c_Walk:Cls K t.C_Walk
 k_Walk:Mk K t.C_Walk t.dc
 na_Walk_coming:lY K t.C_Walk "coming"
 m_TAIL:mg "TAIL" = some (.ref t.v_TAIL)
 r_TAIL:RelV (.ref t.v_TAIL) (.ref t.v_TAIL)
 q_TAIL:∀ H,SqT K H t.v_TAIL [.int 128,.int 191]
 m_BLANK:mg "BLANK" = some t.v_BLANK
 r_BLANK:RelV (.int 32) t.v_BLANK
 m_QUOTE:mg "QUOTE" = some t.v_QUOTE
 r_QUOTE:RelV (.int 34) t.v_QUOTE
 m_PLUS:mg "PLUS" = some t.v_PLUS
 r_PLUS:RelV (.int 43) t.v_PLUS
 m_COMMA:mg "COMMA" = some t.v_COMMA
 r_COMMA:RelV (.int 44) t.v_COMMA
 m_MINUS:mg "MINUS" = some t.v_MINUS
 r_MINUS:RelV (.int 45) t.v_MINUS
 m_POINT:mg "POINT" = some t.v_POINT
 r_POINT:RelV (.int 46) t.v_POINT
 m_NOUGHT:mg "NOUGHT" = some t.v_NOUGHT
 r_NOUGHT:RelV (.int 48) t.v_NOUGHT
 m_NINE:mg "NINE" = some t.v_NINE
 r_NINE:RelV (.int 57) t.v_NINE
 m_COLON:mg "COLON" = some t.v_COLON
 r_COLON:RelV (.int 58) t.v_COLON
 m_BIG_E:mg "BIG_E" = some t.v_BIG_E
 r_BIG_E:RelV (.int 69) t.v_BIG_E
 m_ROW_BEGIN:mg "ROW_BEGIN" = some t.v_ROW_BEGIN
 r_ROW_BEGIN:RelV (.int 91) t.v_ROW_BEGIN
 m_BACKSLASH:mg "BACKSLASH" = some t.v_BACKSLASH
 r_BACKSLASH:RelV (.int 92) t.v_BACKSLASH
 m_ROW_END:mg "ROW_END" = some t.v_ROW_END
 r_ROW_END:RelV (.int 93) t.v_ROW_END
 m_SMALL_E:mg "SMALL_E" = some t.v_SMALL_E
 r_SMALL_E:RelV (.int 101) t.v_SMALL_E
 m_SMALL_U:mg "SMALL_U" = some t.v_SMALL_U
 r_SMALL_U:RelV (.int 117) t.v_SMALL_U
 m_FIELDS_BEGIN:mg "FIELDS_BEGIN" = some t.v_FIELDS_BEGIN
 r_FIELDS_BEGIN:RelV (.int 123) t.v_FIELDS_BEGIN
 m_FIELDS_END:mg "FIELDS_END" = some t.v_FIELDS_END
 r_FIELDS_END:RelV (.int 125) t.v_FIELDS_END
 m_WHITE:mg "WHITE" = some (.ref t.v_WHITE)
 r_WHITE:RelV (.ref t.v_WHITE) (.ref t.v_WHITE)
 q_WHITE:∀ H,SqT K H t.v_WHITE [.int 9,.int 10,.int 13,.int 32]
 m_WORDS:mg "WORDS" = some (.ref t.v_WORDS)
 r_WORDS:RelV (.ref t.v_WORDS) (.ref t.v_WORDS)
 q_WORDS:DKP K t.v_WORDS [(110,.tup ([117,108,108].map .int)),(116,.tup ([114,117,101].map .int)),(102,.tup ([97,108,115,101].map .int))]
 m_SHORT_ESCAPES:mg "SHORT_ESCAPES" = some (.ref t.v_SHORT_ESCAPES)
 r_SHORT_ESCAPES:RelV (.ref t.v_SHORT_ESCAPES) (.ref t.v_SHORT_ESCAPES)
 q_SHORT_ESCAPES:DKP K t.v_SHORT_ESCAPES [(34,.int 34),(92,.int 92),(47,.int 47),(98,.int 8),(102,.int 12),(110,.int 10),(114,.int 13),(116,.int 9)]
 m_MOST_BRACKETS:mg "MOST_BRACKETS" = some t.v_MOST_BRACKETS
 r_MOST_BRACKETS:RelV (.int 64) t.v_MOST_BRACKETS
 m_LOOSE:mg "LOOSE" = some (.ref t.v_LOOSE)
 r_LOOSE:RelV (.ref t.v_LOOSE) (.ref t.v_LOOSE)
 q_LOOSE:∀ H,SqT K H t.v_LOOSE [.str "white",.str "figures",.str "fraction",.str "exponent",.str "sign"]
 m_UNENDED:mg "UNENDED" = some (.ref t.v_UNENDED)
 r_UNENDED:RelV (.ref t.v_UNENDED) (.ref t.v_UNENDED)
 q_UNENDED:∀ H,SqT K H t.v_UNENDED [.str "row",.str "more row",.str "fields",.str "more fields"]
noncomputable def cD (t:Adr) (c:String):Option Addr:=if c = "Walk" then some t.C_Walk else none
theorem iX {K:PySem.W.Frag} {mg:Str -> Option Value} {t:Adr} (T:Txt K mg t):∀ c C,cD t c = some C -> n6 c = true -> Cls K C /\ lY K C "coming":=by
 intro c C h1 h2
 unfold cD at h1
 unfold n6 at h2
 by_cases e:c = "Walk"
 . subst e; simp at h1; subst h1; exact ⟨T.c_Walk,T.na_Walk_coming⟩
 rw [if_neg e] at h1
 cases h1
section
variable {P:Program} {w:World} {K:PySem.W.Frag} {mg:Str -> Option Value} {base:Heap} {t:Adr}
theorem wY (T:Txt K mg t):cB P w K mg base (CXE P w) 1 t.iT t.d_law_cell oj (spP K (cD t) iT):=
 gb T.nJ.F yo fun cdv A outer s H E hr=>⟨_,(aj (aT (cG (qv 0) (fun _=>rfl)) (av (az (qi bQ (qv 0) (aC bN (qv 1) (qf T.n_len (qv 0)))))) aF)
   (av (az ai))),
  (aw (aU (fE ah) (aB (ao nc ah (ao bM ah (gN uw ah)))) aE)
    (aB ag))⟩
theorem jz (T:Txt K mg t):cB P w K mg base (CXE P w) 2 t.eG t.d_law_mix qb (spP K (cD t) eG):=
 gb T.dP.F qp fun cdv A outer s H E hr=>⟨_,(aj (qz 2 qp.nd (aC bN (aC cx (qx (wY T) T.nJ hr aN (aa (qv 0) (aa (qv 1) au))) (aC rW ai (aC cx (qv 1) ai))) ai))
   (aj (qz 2 qp.nd (aC bN (aC rW (qv 2) ai) ai))
   (av (az (aC bN (aC cx (aC rW (aC bO (qv 2) ai) ai) (qv 2)) ai))))),
  (aw (aW (ao bM (ao cy (aP (af ah (af ah ax))) (ao rK ag (ao cy ah ag))) ag))
    (aw (aW (ao bM (ao rK ah ag) ag))
    (aB (ao bM (ao cy (ao rK (ao bP ah ag) ag) ah) ag))))⟩
theorem qN (T:Txt K mg t):cB P w K mg base (CXE P w) 1 t.cT t.d_law_close nz (spI K (cD t) cT):=
 ui T.e_law_close.F mW fun cdv A outer s H E hr=>⟨_,(aj (qz 3 mW.nd (CQ PySem.F.plainAttrs_list PySem.F.slot_list_pop PySem.F.type_list_pop B9 (qv 2)))
   (aj (qap cz (qv 0) (cW (by exact (bS bg (qi bQ (qv 3) ai) aL)) ai ai))
   (aj (wq (qf T.n_len (qv 0)) (vN (qi bQ (qv 1) (qi bQ (qv 3) ai)) ai set_list))
   (aj (wq (qf T.n_len (qv 1)) (vN (qi bQ (qv 1) (qi bQ (qv 3) ai)) ai set_list))
   (aj (qz 4 mW.nd (dq (aa (qi bQ (qv 3) ai) (aa (gi jO rfl T.n_tuple L2.E.boot_tuple (aa (qi bQ (qv 3) ai) au)) au))))
   (aj (aT (cG (qv 2) (fun _=>rfl)) (aj (qap cz (qi bQ (qi bQ (qv 2) (nW kd ai)) ai) (cW (by exact (bS bg (qi bQ (qi bQ (qv 2) (nW kd ai)) ai) aL)) (qv 4) (dq (aa (qi bQ (qv 3) ai) (aa (qv 4) au)))))
   (av (aT (bS bg (qi bQ (qi bQ (qv 2) (nW kd ai)) ai) aL) (av (wq (qf T.n_len (qv 1)) (vN (qi bQ (qv 1) (aC qd (qi bQ (qv 3) ai) ai)) ai set_list))) aF))) aF)
   (av (az (qv 4))))))))),
  (aw (pf (Af aO))
    (aw (eJ aO (kU (iy (ay (ao bj (gv (jx aO ag)) aK)) ag ag)))
    (aw (sV (jx aO (gv (jx aO ag))) ag (kU (jN aO)))
    (aw (sV (jx aO (gv (jx aO ag))) ag (kU (jN aO)))
    (aw (aW (dn (af (gv (jx aO ag)) (af (gN wb (gv (jx aO ag))) ax))))
    (aw (aU (gY aO) (aw (eJ (jx (jx aO (nX ke ag)) ag) (kU (iy (ay (ao bj (gv (jx (jx aO (nX ke ag)) ag)) aK)) ah (dn (af (gv (jx aO ag)) (af ah ax))))))
    (aU (ay (ao bj (gv (jx (jx aO (nX ke ag)) ag)) aK)) (sV (jx aO (ao qm (gv (jx aO ag)) ag)) ag (kU (jN aO))) aE)) aE)
    pq))))))⟩
theorem gX (T:Txt K mg t):cB P w K mg base (CXE P w) 1 t.cC t.d_law_white nL (spP K (cD t) cC):=
 gb T.dY.F vI fun cdv A outer s H E hr=>⟨_,(aj (aT (bS xl (aC bN (qv 0) ai) ai) (av (az (aQ au))) aF)
   (av (az (ni (M:=["_law_number_here"]) (ι:=[0]) (x:="_law_k") ⟨rfl,rfl,rfl,rfl,rfl,rfl,rfl,rfl,rfl,rfl,rfl,by decide +kernel⟩ rfl (mK rfl T.n_range (aa (aC cx (aC bN (aC bO (qv 0) ai) ai) ai) au)) fun _ _ _ _=>(qi bQ (aQ (aa ai (aa ai (aa ai (aa ai au))))) (aC bN (aC bO (aC bO (qv 0) ai) (aC cx ai (aC rW ai (qv 1)))) ai)))))),
  (aw (aU (ay (ao xk (ao bM ah ag) ag)) (aB (aS ax)) aE)
    (aB (xD (by decide) (ao cy (ao bM (ao bP ah ag) ag) ag) (ao nc (aS (af ag (af ag (af ag (af ag ax))))) (ao bM (ao bP (ao bP ah ag) (ao cy ag (ao rK ag ah))) ag)))))⟩
theorem vy (T:Txt K mg t):cB P w K mg base (CXE P w) 1 t.dG t.d_law_point nA (spP K (cD t) dG):=
 gb T.lj.F nM fun cdv A outer s H E hr=>⟨_,(aj (qz 1 nM.nd (aC bN (qv 0) ai))
   (aj (qz 2 nM.nd (aC bO (qv 0) ai))
   (aj (aT (bS nV (qv 1) ai) (av (az (aC cx ai (aC bN (qv 2) ai)))) aF)
   (aj (aT (bS nV (qv 1) ai) (av (az (qi bQ (aQ (aa ai (aa ai (aa ai (aa ai (aa ai (aa ai (aa ai (aa ai (aa ai (aa ai (aa ai au)))))))))))) (aC bN (qv 2) ai)))) aF)
   (aj (aT (bS bg (qv 1) ai) (av (az (aC cx ai (aC bN (qv 2) ai)))) aF)
   (aj (aT (bS bg (qv 1) ai) (av (az (aC cx ai (aC bN (qv 2) ai)))) aF)
   (aj (aT (bS bg (qv 1) ai) (av (az (aC cx ai (aC bN (qv 2) ai)))) aF)
   (av (az (aC cx ai (aC bN (qv 2) ai))))))))))),
  (aw (aW (ao bM ah ag))
    (aw (aW (ao bP ah ag))
    (aw (aU (ay (ao nO ah ag)) (aB (ao cy ag (ao bM ah ag))) aE)
    (aw (aU (ay (ao nO ah ag)) (aB (ao nc (aS (af ag (af ag (af ag (af ag (af ag (af ag (af ag (af ag (af ag (af ag (af ag ax)))))))))))) (ao bM ah ag))) aE)
    (aw (aU (ay (ao bj ah ag)) (aB (ao cy ag (ao bM ah ag))) aE)
    (aw (aU (ay (ao bj ah ag)) (aB (ao cy ag (ao bM ah ag))) aE)
    (aw (aU (ay (ao bj ah ag)) (aB (ao cy ag (ao bM ah ag))) aE)
    (aB (ao cy ag (ao bM ah ag))))))))))⟩
theorem pL (T:Txt K mg t):cB P w K mg base (CXE P w) 3 t.eC t.d_law_points lV (spP K (cD t) eC):=
 gb T.gZ.F jP fun cdv A outer s H E hr=>⟨_,(aj (qz 2 jP.nd (qx (jz T) T.dP hr aN (aa (qv 0) (aa (qv 1) au))))
   (aj (qz 3 jP.nd (aC bN (qv 2) ai))
   (aj (aT (bS bg (aC bN (aC bO (qv 2) ai) ai) ai) (av (qz 3 jP.nd (aC bN (aC bO (qv 2) ai) ai))) aF)
   (av (az (ni (M:=["_law_script","_law_k"]) (ι:=[0,1]) (x:="_law_j") ⟨rfl,rfl,rfl,rfl,rfl,rfl,rfl,rfl,rfl,rfl,rfl,by decide +kernel⟩ rfl (mK rfl T.n_range (aa (qv 3) au)) fun _ _ _ _=>(qx (vy T) T.lj hr Cn (aa (qx (jz T) T.dP hr Cn (aa (qv 0) (aa (aC cx (aC cx (qv 1) ai) (qv 2)) au))) au)))))))),
  (aw (aW (aP (af ah (af ah ax))))
    (aw (aW (ao bM ah ag))
    (aw (aU (ay (ao bj (ao bM (ao bP ah ag) ag) ag)) (aW (ao bM (ao bP ah ag) ag)) aE)
    (aB (xD (by decide) ah (aP (af (aP (af ah (af (ao cy (ao cy ah ag) ah) ax))) ax)))))))⟩
theorem yg (T:Txt K mg t):cB P w K mg base (CXE P w) 4 t.gR t.d_law_name o4 (spP K (cD t) gR):=
 gb T.mS.F yd fun cdv A outer s H E hr=>⟨_,(aj (aT (bS bg (aC bN (qv 1) ai) ai) (av (az (aQ (aa (aC cx ai (aC bN (aC bO (qv 1) ai) ai)) au)))) aF)
   (av (az (qx (pL T) T.gZ hr aN (aa (qv 0) (aa (aC cx ai (aC bN (aC bO (qv 1) ai) ai)) au)))))),
  (aw (aU (ay (ao bj (ao bM ah ag) ag)) (aB (aS (af (ao cy ag (ao bM (ao bP ah ag) ag)) ax))) aE)
    (aB (aP (af ah (af (ao cy ag (ao bM (ao bP ah ag) ag)) ax)))))⟩
theorem vE (T:Txt K mg t):cB P w K mg base (CXE P w) 1 t.eD t.d_law_eight nh (spP K (cD t) eD):=
 gb T.lh.F gW fun cdv A outer s H E hr=>⟨_,(aj (aT (bS nV (qv 0) ai) (av (az (aQ (aa (qv 0) au)))) aF)
   (aj (qz 1 gW.nd (aC cx (aC cx ai (gi uX rfl T.n_int L2.E.boot_int (aa (gw xb (qv 0) ai (jB _)) au))) (gi uX rfl T.n_int L2.E.boot_int (aa (gw xb (qv 0) ai (jB _)) au))))
   (aj (qz 2 gW.nd (aQ au))
   (aj (ql jI rfl (mK rfl T.n_range (aa (qv 1) au)) (kY (i:=3) gW.nd rfl (by first | exact Or.inl rfl | exact Or.inr rfl)) (aj (qz 2 gW.nd (aC fM (aQ (aa (aC cx ai (aC bN (qv 0) ai)) au)) (qv 2)))
   (av (qz 0 gW.nd (aC bO (qv 0) ai)))))
   (av (az (aC fM (aQ (aa (aC cx (qi bQ (aQ (aa ai (aa ai (aa ai au)))) (aC qd (qv 1) ai)) (qv 0)) au)) (qv 2)))))))),
  (aw (aU (ay (ao nO ah ag)) (aB (aS (af ah ax))) aE)
    (aw (aW (ao cy (ao cy ag (gN zG (ao xN ah ag))) (gN zG (ao xN ah ag))))
    (aw (aW (aS ax))
    (aw (vV ah (aw (aW (ao iP (aS (af (ao cy ag (ao bM ah ag)) ax)) ah))
    (aW (ao bP ah ag))))
    (aB (ao iP (aS (af (ao cy (ao nc (aS (af ag (af ag (af ag ax)))) (ao qm ah ag)) ah) ax)) ah))))))⟩
theorem qj (T:Txt K mg t):cB P w K mg base (CXE P w) 1 t.g8 t.d_law_hex qw (spP K (cD t) g8):=
 gb T.ju.F iH fun cdv A outer s H E hr=>⟨_,(aj (qz 2 iH.nd (aQ au))
   (aj (ql jI rfl (mK rfl T.n_range (aa ai au)) (kY (i:=3) iH.nd rfl (by first | exact Or.inl rfl | exact Or.inr rfl)) (aj (qz 4 iH.nd (aC bN (qv 0) ai))
   (aj (aT (bS nV (qv 4) ai) (av (qz 2 iH.nd (aC fM (aQ (aa (aC cx ai (qv 4)) au)) (qv 2)))) (av (qz 2 iH.nd (aC fM (aQ (aa (aC cx (cW (by exact (cG (qv 1) (fun _=>rfl))) ai ai) (qv 4)) au)) (qv 2)))))
   (av (qz 0 iH.nd (aC bO (qv 0) ai))))))
   (av (az (aC fM (aQ (aa ai (aa ai au))) (qv 2)))))),
  (aw (aW (aS ax))
    (aw (vV ag (aw (aW (ao bM ah ag))
    (aw (aU (ay (ao nO ah ag)) (aW (ao iP (aS (af (ao cy ag ah) ax)) ah)) (aW (ao iP (aS (af (ao cy (iy (fE ah) ag ag) ah) ax)) ah)))
    (aW (ao bP ah ag)))))
    (aB (ao iP (aS (af ag (af ag ax))) ah))))⟩
theorem xB (T:Txt K mg t):cB P w K mg base (CXE P w) 2 t.iO t.d_law_sign oS (spP K (cD t) iO):=
 gb T.mV.F lb fun cdv A outer s H E hr=>⟨_,(aj (qz 2 lb.nd (Ey (jV ai ai (jV ai ai (jV ai ai (jV ai ai (jV ai ai (jV ai ai (jV ai ai (jV ai ai D5))))))))))
   (aj (qz 3 lb.nd (aC bN (qv 1) ai))
   (aj (aT (nT (lI (bS bg (qv 3) ai) (lB (HU (FF hr) (qv 0) (qv 2))))) (av (az (aQ (aa ai (aa (EE (FF hr) (qv 2) (qv 0) (fun _ _=>rfl)) au))))) aF)
   (aj (aT (nT (lI (bS xl (qv 3) ai) (lI (bS xb (qv 0) ai) (lI (bS Gf (qv 0) ai) (lB (bS Gf (qv 0) ai)))))) (av (az (qx (vE T) T.lh hr aN (aa (qv 0) au)))) aF)
   (aj (aT (bS nV (qv 0) ai) (av (az (qx (qj T) T.ju hr aN (aa (qv 0) (aa (gw bg (qv 3) ai (jB _)) au))))) aF)
   (aj (qz 4 lb.nd (aC qd (qv 0) ai))
   (av (az (aC fM (qx (qj T) T.ju hr aN (aa (aC cx ai (aC bO (qv 4) ai)) (aa (gw bg (qv 3) ai (jB _)) au))) (qx (qj T) T.ju hr aN (aa (aC cx ai (aC bN (qv 4) ai)) (aa (gw bg (qv 3) ai (jB _)) au)))))))))))),
  (aw (qF (HN (kvs:=[(34,34),(92,92),(47,47),(8,98),(12,102),(10,110),(13,114),(9,116)]) (by decide) (by decide)))
    (aw (aW (ao bM ah ag))
    (aw (aU (lH (ay (ao bj ah ag)) (ay (EY ah aO))) (aB (aS (af ag (af (Et aO ah) ax)))) aE)
    (aw (aU (lH (ay (ao xk ah ag)) (lH (ay (ao xN ah ag)) (lH (ay (ao Fz ah ag)) (ay (ao Fz ah ag))))) (aB (aP (af ah ax))) aE)
    (aw (aU (ay (ao nO ah ag)) (aB (aP (af ah (af (ao bj ah ag) ax)))) aE)
    (aw (aW (ao qm ah ag))
    (aB (ao iP (aP (af (ao cy ag (ao bP ah ag)) (af (ao bj ah ag) ax))) (aP (af (ao cy ag (ao bM ah ag)) (af (ao bj ah ag) ax)))))))))))⟩
theorem r9 (T:Txt K mg t):cB P w K mg base (CXE P w) 3 t.fP t.d_law_text oP (spP K (cD t) fP):=
 gb T.jw.F iU fun cdv A outer s H E hr=>⟨_,(aj (qz 2 iU.nd (aQ (aa ai au)))
   (aj (qz 3 iU.nd ai)
   (aj (ql jI rfl (nK (qv 0)) (kY (i:=4) iU.nd rfl (by first | exact Or.inl rfl | exact Or.inr rfl)) (aj (qz 2 iU.nd (aC fM (qv 2) (qx (xB T) T.mV hr aN (aa (qv 4) (aa (aC cx (aC bO (qv 1) (aC cx ai (aC bN (qv 3) ai))) (qv 3)) au)))))
   (av (qz 3 iU.nd (aC cx (qv 3) ai)))))
   (av (az (aC fM (qv 2) (aQ (aa ai au)))))))),
  (aw (aW (aS (af ag ax)))
    (aw (aW ag)
    (aw (vX ah (aw (aW (ao iP ah (aP (af ah (af (ao cy (ao bP ah (ao cy ag (ao bM ah ag))) ah) ax)))))
    (aW (ao cy ah ag))))
    (aB (ao iP ah (aS (af ag ax)))))))⟩
theorem vv (T:Txt K mg t):cB P w K mg base (CXE P w) 5 t.fK t.d_law_begin nr (spI K (cD t) fK):=
 ui T.e_law_begin.F i7 fun cdv A outer s H E hr=>⟨_,(aj (qex fZ (qv 1) (qx (gX T) T.dY hr aN (aa (aC bO (qv 4) ai) au)))
   (aj (qz 5 i7.nd (dq au))
   (aj (aT (nT (lI (cG (qv 3) (fun _=>rfl)) (lB (cG (qi bQ (qi bQ (qv 3) (nW kd ai)) ai) (fun _=>rfl))))) (aj (qap cz (qv 1) ai)
   (av (qex fZ (qv 1) (qx (gX T) T.dY hr aN (aa (aC bO (qv 4) ai) au))))) aF)
   (aj (aT (nT (lI (cG (qv 3) (fun _=>rfl)) (lB (bS bg (qi bQ (qi bQ (qv 3) (nW kd ai)) ai) aL)))) (aj (qz 6 i7.nd (qx (yg T) T.mS hr aN (aa (qv 0) (aa (aC bO (qv 4) ai) au))))
   (aj (qz 5 i7.nd (gi jO rfl T.n_tuple L2.E.boot_tuple (aa (qv 6) au)))
   (aj (qz 7 i7.nd (qf T.n_len (qv 1)))
   (aj (qex fZ (qv 1) (qx (r9 T) T.jw hr aN (aa (qv 6) (aa (aC bO (qv 4) ai) au))))
   (aj (qap cz (qv 2) (aQ (aa aL (aa (qv 7) (aa (qf T.n_len (qv 1)) (aa ai au))))))
   (aj (qex fZ (qv 1) (qx (gX T) T.dY hr aN (aa (aC bO (qv 4) ai) au)))
   (aj (qap cz (qv 1) ai)
   (av (qex fZ (qv 1) (qx (gX T) T.dY hr aN (aa (aC bO (qv 4) ai) au))))))))))) aF)
   (av (az (qv 5))))))),
  (aw (fQ aO (aP (af (ao bP ah ag) ax)))
    (aw (aW (dn ax))
    (aw (aU (lH (gY aO) (fE (gv (jx (jx aO (nX ke ag)) ag)))) (aw (eJ aO (kU ag))
    (fQ aO (aP (af (ao bP ah ag) ax)))) aE)
    (aw (aU (lH (gY aO) (ay (ao bj (gv (jx (jx aO (nX ke ag)) ag)) aK))) (aw (aW (aP (af ah (af (ao bP ah ag) ax))))
    (aw (aW (gN wb ah))
    (aw (aW (jN aO))
    (aw (mz (i:=6) (fQ aO (aP (af ah (af (ao bP ah ag) ax)))))
    (aw (eJ aO (kU (aS (af aK (af ah (af (jN aO) (af ag ax)))))))
    (aw (fQ aO (aP (af (ao bP ah ag) ax)))
    (aw (eJ aO (kU ag))
    (fQ aO (aP (af (ao bP ah ag) ax)))))))))) aE)
    pq))))⟩
theorem vC (T:Txt K mg t):cB P w K mg base (CXE P w) 1 t.eX t.d_law_plain m7 (spP K (cD t) eX):=
 gb T.e_law_plain.F nG fun cdv A outer s H E hr=>⟨_,(aj (aT (bS bg (qv 0) ai) (av (az (dq (aa ai (aa ai au))))) aF)
   (aj (ud jI (bS bg (aC bN (qv 0) ai) ai) (aj (qz 0 nG.nd (aC bO (qv 0) ai))
   (av (qz 1 nG.nd (aC cx (qv 1) ai)))))
   (av (az (dq (aa (qv 0) (aa (qv 1) au))))))),
  (aw (aU (ay (ao bj ah ag)) (aB (dn (af ag (af ag ax)))) aE)
    (aw (tS (ay (ao bj (ao bM ah ag) ag)) (aw (aW (ao bP ah ag))
    (aW (ao cy ah ag))))
    (aB (dn (af ah (af ah ax))))))⟩
theorem uL (T:Txt K mg t):cB P w K mg base (CXE P w) 2 t.fV t.d_law_number lX (spP K (cD t) fV):=
 gb T.ko.F bw fun cdv A outer s H E hr=>⟨_,(aj (qz 1 bw.nd (gw bg (aC bN (qv 0) ai) ai (jB _)))
   (aj (Ff (i:=2) bw.nd rfl (by first | exact Or.inl rfl | exact Or.inr rfl) (M:=[]) (ι:=[]) (x:="_law_sign_here") ⟨rfl,rfl,rfl,rfl,rfl,rfl,rfl,rfl,rfl,rfl,rfl,by decide +kernel⟩ rfl (BI (gi qE rfl T.n_str L2.E.boot_str (aa (aC bN (aC bO (qv 0) ai) ai) au))) fun _ _ _ _=>(gi BE rfl T.n_int L2.E.boot_int (aa (qv 0) au)))
   (aj (qz 3 bw.nd (cW (by exact (cG (qv 1) (fun _=>rfl))) (aQ (aa ai au)) (aQ au)))
   (aj (qz 3 bw.nd (aC fM (qv 3) (ni (M:=[]) (ι:=[]) (x:="_law_figure") ⟨rfl,rfl,rfl,rfl,rfl,rfl,rfl,rfl,rfl,rfl,rfl,by decide +kernel⟩ rfl (nK (qv 2)) fun _ _ _ _=>(aC cx ai (qv 0)))))
   (aj (qz 4 bw.nd ai)
   (aj (ql jI rfl (nK (qv 2)) (kY (i:=5) bw.nd rfl (by first | exact Or.inl rfl | exact Or.inr rfl)) (av (qz 4 bw.nd (aC cx (aC rW (qv 4) ai) (qv 5)))))
   (aj (qz 6 bw.nd ai)
   (aj (aT (bS bg (aC bN (aC bO (qv 0) ai) ai) ai) (aj (qap cz (qv 3) ai)
   (av (ql jI rfl (nK (yw zZ (aQ (aa (aC bN (aC bO (qv 0) ai) ai) (aa (aC bN (aC bO (qv 0) ai) ai) (aa ai au)))) Ac (zQ (aC cx ai (aC bN (aC bO (qv 0) ai) ai))))) (kY (i:=5) bw.nd rfl (by first | exact Or.inl rfl | exact Or.inr rfl)) (aj (qap cz (qv 3) (aC cx ai (qv 5)))
   (aj (qz 4 bw.nd (aC cx (aC rW (qv 4) ai) (qv 5)))
   (av (qz 6 bw.nd (aC qd (qv 6) ai)))))))) aF)
   (aj (aT (bS bg (aC bN (aC bO (qv 0) ai) ai) ai) (aj (qz 7 bw.nd (aC bN (aC bO (qv 0) ai) ai))
   (aj (qap cz (qv 3) (qi bQ (aQ (aa ai (aa ai au))) (aC bN (aC bO (qv 0) ai) ai)))
   (aj (qz 8 bw.nd (gw bg (aC bN (aC bO (qv 0) ai) ai) ai (jB _)))
   (aj (aT (cG (qv 8) (fun _=>rfl)) (av (qap cz (qv 3) ai)) (av (aT (bS bg (aC bN (aC bO (qv 0) ai) ai) ai) (av (qap cz (qv 3) ai)) aF)))
   (aj (aT (bS bg (aC bN (aC bO (qv 0) ai) ai) ai) (av (qap cz (qv 3) ai)) aF)
   (aj (qz 3 bw.nd (aC fM (qv 3) (ni (M:=[]) (ι:=[]) (x:="_law_sign_here") ⟨rfl,rfl,rfl,rfl,rfl,rfl,rfl,rfl,rfl,rfl,rfl,by decide +kernel⟩ rfl (BI (gi qE rfl T.n_str L2.E.boot_str (aa (qv 7) au))) fun _ _ _ _=>(mq Cm rfl T.n_ord L2.E.boot_ord (aa (qv 0) au)))))
   (av (qz 6 bw.nd (aC cx (qv 6) (cW (by exact (cG (qv 8) (fun _=>rfl))) (nW kd (qv 7)) (qv 7))))))))))) aF)
   (aj (aT (cG (qv 1) (fun _=>rfl)) (av (qz 4 bw.nd (nW kd (qv 4)))) aF)
   (av (az (dq (aa (qv 3) (aa (qx (vC T) T.e_law_plain hr aN (aa (qv 4) (aa (qv 6) au))) au))))))))))))))),
  (aw (aW (ao bj (ao bM ah ag) ag))
    (aw (aW (xZ (by decide) (gN Dz (ao bM (ao bP ah ag) ag)) (gN Fi ah)))
    (aw (aW (iy (fE ah) (aS (af ag ax)) (aS ax)))
    (aw (aW (ao iP ah (tV (by decide) ah (ao cy ag ah))))
    (aw (aW ag)
    (aw (mz (i:=2) (vX ah (aW (ao cy (ao rK ah ag) ah))))
    (aw (aW ag)
    (aw (aU (ay (ao bj (ao bM (ao bP ah ag) ag) ag)) (aw (kz ag)
    (vX (Dy (aS (af (ao bM (ao bP ah ag) ag) (af (ao bM (ao bP ah ag) ag) (af ag ax)))) zX (Al (ao cy ag (ao bM (ao bP ah ag) ag)))) (aw (kz (ao cy ag ah))
    (aw (aW (ao cy (ao rK ah ag) ah))
    (aW (ao qm ah ag)))))) aE)
    (aw (aU (ay (ao bj (ao bM (ao bP ah ag) ag) ag)) (aw (aW (ao bM (ao bP ah ag) ag))
    (aw (kz (ao nc (aS (af ag (af ag ax))) (ao bM (ao bP ah ag) ag)))
    (aw (aW (ao bj (ao bM (ao bP ah ag) ag) ag))
    (aw (aU (fE ah) (kz ag) (aU (ay (ao bj (ao bM (ao bP ah ag) ag) ag)) (kz ag) aE))
    (aw (aU (ay (ao bj (ao bM (ao bP ah ag) ag) ag)) (kz ag) aE)
    (aw (aW (ao iP ah (xZ (by decide) (gN Dz ah) (gN HR ah))))
    (aW (ao cy ah (iy (fE ah) (nX ke ah) ah))))))))) aE)
    (aw (aU (fE ah) (aW (nX ke ah)) aE)
    (mz (i:=3) (aB (dn (af ah (af (aP (af ah (af ah ax))) ax)))))))))))))))⟩
theorem qB (T:Txt K mg t):cB P w K mg base (CXE P w) 4 t.bH t.d_law_plain_value iR (spP K (cD t) bH):=
 gb T.e_law_plain_value.F fR fun cdv A outer s H E hr=>⟨_,(aj (qz 2 fR.nd (aC bN (aC bO (qv 1) ai) ai))
   (aj (aT (bS bg (qv 2) ai) (av (az (dq (aa aL (aa (aQ (aa ai (aa ai (aa ai (aa ai au))))) (aa cS au)))))) aF)
   (aj (aT (bS bg (qv 2) ai) (av (az (dq (aa aL (aa (aQ (aa ai (aa ai (aa ai (aa ai au))))) (aa xj au)))))) aF)
   (aj (aT (bS bg (qv 2) ai) (av (az (dq (aa aL (aa (aQ (aa ai (aa ai (aa ai (aa ai (aa ai au)))))) (aa xj au)))))) aF)
   (aj (aT (bS bg (qv 2) ai) (aj (qz 3 fR.nd (qx (pL T) T.gZ hr aN (aa (qv 0) (aa (aC cx ai (aC bN (qv 1) ai)) au))))
   (av (az (dq (aa aL (aa (qx (r9 T) T.jw hr aN (aa (qv 3) (aa (aC bO (qv 1) ai) au))) (aa (dq (aa aL (aa (gi jO rfl T.n_tuple L2.E.boot_tuple (aa (qv 3) au)) au))) au))))))) aF)
   (aj (qz 4 fR.nd (qx (uL T) T.ko hr aN (aa (aC bO (qv 1) ai) au)))
   (av (az (dq (aa aL (aa (qi gL (qv 4) ai) (aa (dq (aa aL (aa (qi gL (qi gL (qv 4) ai) ai) (aa (qi gL (qi gL (qv 4) ai) ai) au)))) au)))))))))))),
  (aw (aW (ao bM (ao bP ah ag) ag))
    (aw (aU (ay (ao bj ah ag)) (aB (dn (af aK (af (aS (af ag (af ag (af ag (af ag ax))))) (af cR ax))))) aE)
    (aw (aU (ay (ao bj ah ag)) (aB (dn (af aK (af (aS (af ag (af ag (af ag (af ag ax))))) (af xQ ax))))) aE)
    (aw (aU (ay (ao bj ah ag)) (aB (dn (af aK (af (aS (af ag (af ag (af ag (af ag (af ag ax)))))) (af xQ ax))))) aE)
    (aw (aU (ay (ao bj ah ag)) (aw (aW (aP (af ah (af (ao cy ag (ao bM ah ag)) ax))))
    (mz (i:=3) (aB (dn (af aK (af (aP (af ah (af (ao bP ah ag) ax))) (af (dn (af aK (af (gN wb ah) ax))) ax))))))) aE)
    (aw (aW (aP (af (ao bP ah ag) ax)))
    (aB (dn (af aK (af (ao gP ah ag) (af (dn (af aK (af (ao gP (ao gP ah ag) ag) (af (ao gP (ao gP ah ag) ag) ax)))) ax)))))))))))⟩
theorem vK (T:Txt K mg t):cB P w K mg base (CXE P w) 6 t.gA t.d_law_built mT (spP K (cD t) gA):=
 gb T.e_law_built.F cw fun cdv A outer s H E hr=>⟨_,(aj (qz 2 cw.nd (aQ au))
   (aj (qz 3 cw.nd (aQ au))
   (aj (qz 4 cw.nd (aQ au))
   (aj (qz 5 cw.nd cS)
   (aj (ql jI rfl (mK rfl T.n_range (aa (qv 1) au)) (kY (i:=6) cw.nd rfl (by first | exact Or.inl rfl | exact Or.inr rfl)) (aj (qz 7 cw.nd (qx (jz T) T.dP hr aN (aa (qv 0) (aa (qv 6) au))))
   (av (aT (nT (lI (cG (qv 4) (fun _=>rfl)) (lB (bS bg (aC bN (qv 7) ai) ai)))) (aj (qex fZ (qv 2) (qx (gX T) T.dY hr aN (aa (aC bO (qv 7) ai) au)))
   (av (qz 5 cw.nd (qx (qN T) T.e_law_close hr aN (aa (qv 2) (aa (qv 3) (aa (qv 4) au))))))) (av (aT (nT (zy (cG (qv 4) (fun _=>rfl)) (vD (bS bg (qv 6) ai)))) (aj (qz 8 cw.nd (qx (vv T) T.e_law_begin hr aN (aa (qv 0) (aa (qv 2) (aa (qv 3) (aa (qv 4) (aa (qv 7) au)))))))
   (aj (qz 9 cw.nd (qf T.n_len (qv 2)))
   (av (aT (nT (zy (bS xl (aC bN (qv 7) ai) ai) (vD (nT (lI (bS bg (qv 6) ai) (lB (bS xl (aC bN (qv 7) ai) ai))))))) (aj (qz 10 cw.nd (qi bQ (aQ (aa aL (aa aL au))) (aC bN (aC bO (qv 7) ai) ai)))
   (aj (qap cz (qv 2) (cW (by exact (bS bg (qv 10) aL)) ai ai))
   (aj (qap cz (qv 4) (aQ (aa (qv 10) (aa (aQ au) (aa (qf T.n_len (qv 3)) (aa (qv 8) au))))))
   (av (qap cz (qv 3) (aQ (aa (qv 10) (aa (qv 9) (aa ai (aa ai au)))))))))) (aj (qz 11 cw.nd (qx (qB T) T.e_law_plain_value hr aN (aa (qv 0) (aa (qv 7) au))))
   (aj (qex fZ (qv 2) (qi gL (qv 11) ai))
   (aj (qap cz (qv 3) (aQ (aa (qi gL (qv 11) ai) (aa (qv 9) (aa (qf T.n_len (qv 2)) (aa (aC cx (qf T.n_len (qv 3)) ai) au))))))
   (aj (qz 5 cw.nd (qi gL (qv 11) ai))
   (av (aT (nT (lI (cG (qv 4) (fun _=>rfl)) (lB (bS bg (qi bQ (qi bQ (qv 4) (nW kd ai)) ai) aL)))) (aj (wq (qf T.n_len (qv 3)) (vN (qi bQ (qv 3) (nW kd ai)) ai set_list))
   (av (qap cz (qi bQ (qi bQ (qv 4) (nW kd ai)) ai) (dq (aa (qv 8) (aa (qv 5) au)))))) (av (aT (cG (qv 4) (fun _=>rfl)) (av (qap cz (qi bQ (qi bQ (qv 4) (nW kd ai)) ai) (qv 5))) aF)))))))))))) aF))))))
   (aj (ud jI (cG (qv 4) (fun _=>rfl)) (av (qz 5 cw.nd (qx (qN T) T.e_law_close hr aN (aa (qv 2) (aa (qv 3) (aa (qv 4) au)))))))
   (aj (qex fZ (qv 2) (qx (gX T) T.dY hr aN (aa (qx (jz T) T.dP hr aN (aa (qv 0) (aa ai au))) au)))
   (av (az (dq (aa (qv 2) (aa (ni (M:=[]) (ι:=[]) (x:="_law_node") ⟨rfl,rfl,rfl,rfl,rfl,rfl,rfl,rfl,rfl,rfl,rfl,by decide +kernel⟩ rfl (nK (qv 3)) fun _ _ _ _=>(gi jO rfl T.n_tuple L2.E.boot_tuple (aa (qv 0) au))) (aa (qv 5) au))))))))))))),
  (aw (qF (kU (aS ax)))
    (aw (qF (kU (aS ax)))
    (aw (qF (kU (aS ax)))
    (aw (aW cR)
    (aw (vV ah (aw (aW (aP (af ah (af ah ax))))
    (aU (lH (gY aO) (ay (ao bj (ao bM ah ag) ag))) (aw (fQ aO (aP (af (ao bP ah ag) ax)))
    (pf (tL rfl (fB (oZ aO) (fB (oZ aO) (fB (oZ aO) mX)))))) (aU (Aj (gY aO) (ay (ao bj ah ag))) (aw (pf (tL rfl (fB (zE (W:=fun _ _ _ _=>False) ah) (fB (oZ aO) (fB (oZ aO) (fB (oZ aO) (fB (zE (W:=fun _ _ _ _=>False) ah) mX)))))))
    (aw (aW (jN aO))
    (aU (Aj (ay (ao xk (ao bM ah ag) ag)) (lH (ay (ao bj ah ag)) (ay (ao xk (ao bM ah ag) ag)))) (aw (aW (ao nc (aS (af aK (af aK ax))) (ao bM (ao bP ah ag) ag)))
    (aw (eJ aO (kU (iy (ay (ao bj ah aK)) ag ag)))
    (aw (eJ aO (Gv (qM (kU ah) (qM (kU (aS ax)) (qM (kU (jN aO)) (qM (kU ah) DX))))))
    (eJ aO (kU (aS (af ah (af ah (af ag (af ag ax)))))))))) (aw (aW (aP (af ah (af ah ax))))
    (aw (fQ aO (ao gP ah ag))
    (aw (eJ aO (kU (aS (af (ao gP ah ag) (af ah (af (jN aO) (af (ao cy (jN aO) ag) ax)))))))
    (aw (aW (ao gP ah ag))
    (aU (lH (gY aO) (ay (ao bj (gv (jx (jx aO (nX ke ag)) ag)) aK))) (aw (sV (jx aO (nX ke ag)) ag (kU (jN aO)))
    (eJ (jx (jx aO (nX ke ag)) ag) (kU (dn (af ah (af ah ax)))))) (aU (gY aO) (eJ (jx (jx aO (nX ke ag)) ag) (kU ah)) aE))))))))) aE))))
    (aw (tS (gY aO) (pf (tL rfl (fB (oZ aO) (fB (oZ aO) (fB (oZ aO) mX))))))
    (aw (fQ aO (aP (af (aP (af ah (af ag ax))) ax)))
    (tW (i:=3) (tW (i:=2) (aB (dn (af ah (af (tV (by decide) ah (gN wb ah)) (af ah ax))))))))))))))⟩
theorem rm (T:Txt K mg t):cB P w K mg base (CXE P w) 1 t.dc t.d_Walk___init__ jC (spI K (cD t) dc):=
 ui T.F_Walk___init__ rp fun cdv A outer s H E hr=>⟨_,(av (GC (qv 0) (aQ (aa aL (aa aL (aa aL au)))))),
  (ER aO (kU (aS (af aK (af aK (af aK ax))))) (iX T))⟩
theorem vA (T:Txt K mg t):cB P w K mg base (CXE P w) 1 t.eW t.d_word_rest nj (spP K (cD t) eW):=
 gb T.e_word_rest.F wz fun cdv A outer s H E hr=>⟨_,(av (az (xo (aZ rfl T.m_WORDS T.r_WORDS) (qv 0)))),
  (aB (xq T.q_WORDS ah))⟩
theorem nE (T:Txt K mg t):cB P w K mg base (CXE P w) 1 t.eU t.d_is_figure mQ (spP K (cD t) eU):=
 gb T.fG.F v8 fun cdv A outer s H E hr=>⟨_,(av (az (Dq mJ mJ (aZ rfl T.m_NOUGHT T.r_NOUGHT) (qv 0) (aZ rfl T.m_NINE T.r_NINE)))),
  (aB (jW mB mB ag ah ag))⟩
theorem oG (T:Txt K mg t):cB P w K mg base (CXE P w) 2 t.dR t.d_behind_lead kO (spP K (cD t) dR):=
 gb T.gj.F tI fun cdv A outer s H E hr=>⟨_,(aj (aT (bS bg (qv 0) (aZ rfl T.m_NOUGHT T.r_NOUGHT)) (av (az (aQ (aa aL (aa aL au))))) aF)
   (aj (aT (cG (qx (nE T) T.fG hr aN (aa (qv 0) au)) (fun _=>rfl)) (av (az (aQ (aa aL (aa aL (aa aL au)))))) aF)
   (av (az cS)))),
  (aw (aU (ay (ao bj ah ag)) (aB (aS (af aK (af aK ax)))) aE)
    (aw (aU (fE (aP (af ah ax))) (aB (aS (af aK (af aK (af aK ax))))) aE)
    (aB cR)))⟩
theorem nU (T:Txt K mg t):cB P w K mg base (CXE P w) 3 t.bK t.d_behind_value jZ (spP K (cD t) bK):=
 gb T.fD.F nR fun cdv A outer s H E hr=>⟨_,(aj (aT (bS bg (qv 0) (aZ rfl T.m_ROW_BEGIN T.r_ROW_BEGIN)) (av (az (aQ (aa aL (aa aL au))))) aF)
   (aj (aT (bS bg (qv 0) (aZ rfl T.m_FIELDS_BEGIN T.r_FIELDS_BEGIN)) (av (az (aQ (aa aL (aa aL au))))) aF)
   (aj (aT (bS bg (qv 0) (aZ rfl T.m_QUOTE T.r_QUOTE)) (av (az (aQ (aa aL au)))) aF)
   (aj (aT (bS bg (qv 0) (aZ rfl T.m_MINUS T.r_MINUS)) (av (az (aQ (aa aL au)))) aF)
   (aj (qz 1 nR.nd (qx (vA T) T.e_word_rest hr aN (aa (qv 0) au)))
   (aj (aT (bS vT (qv 1) cS) (av (az (ni (M:=[]) (ι:=[]) (x:="sign") ⟨rfl,rfl,rfl,rfl,rfl,rfl,rfl,rfl,rfl,rfl,rfl,by decide +kernel⟩ rfl (IB (qv 1)) fun _ _ _ _=>(dq (aa (qv 0) (aa (qv 0) au)))))) aF)
   (av (az (qx (oG T) T.gj hr aN (aa (qv 0) au)))))))))),
  (aw (aU (ay (ao bj ah ag)) (aB (aS (af aK (af aK ax)))) aE)
    (aw (aU (ay (ao bj ah ag)) (aB (aS (af aK (af aK ax)))) aE)
    (aw (aU (ay (ao bj ah ag)) (aB (aS (af aK ax))) aE)
    (aw (aU (ay (ao bj ah ag)) (aB (aS (af aK ax))) aE)
    (aw (aW (aP (af ah ax)))
    (aw (aU (ay (ao wB ah cR)) (aB (Dk (by decide) ah (dn (af ah (af ah ax))))) aE)
    (aB (aP (af ah ax)))))))))⟩
theorem pD (T:Txt K mg t):cB P w K mg base (CXE P w) 3 t.aX t.d_behind_in_number hE (spP K (cD t) aX):=
 gb T.e_behind_in_number.F pz fun cdv A outer s H E hr=>⟨_,(aj (aT (bS bg (qv 0) aL) (av (az (qx (oG T) T.gj hr aN (aa (qv 1) au)))) aF)
   (aj (aT (bS bg (qv 0) aL) (av (az (cW (by exact (cG (qx (nE T) T.fG hr aN (aa (qv 1) au)) (fun _=>rfl))) (aQ (aa aL au)) cS))) aF)
   (aj (aT (bS bg (qv 0) aL) (av (az (cW (by exact (bS bg (qv 1) (aZ rfl T.m_POINT T.r_POINT))) (aQ (aa (dq (aa (aZ rfl T.m_NOUGHT T.r_NOUGHT) (aa (aZ rfl T.m_NINE T.r_NINE) au))) (aa aL au))) cS))) aF)
   (aj (aT (bS bg (qv 0) aL) (av (az (cW (by exact (kj mM (qv 1) (dq (aa (aZ rfl T.m_SMALL_E T.r_SMALL_E) (aa (aZ rfl T.m_BIG_E T.r_BIG_E) au))) rfl)) (aQ (aa aL (aa (dq (aa (aZ rfl T.m_NOUGHT T.r_NOUGHT) (aa (aZ rfl T.m_NINE T.r_NINE) au))) (aa aL au)))) cS))) aF)
   (av (az (cW (by exact (kj mM (qv 1) (dq (aa (aZ rfl T.m_PLUS T.r_PLUS) (aa (aZ rfl T.m_MINUS T.r_MINUS) au))) rfl)) (aQ au) cS))))))),
  (aw (aU (ay (ao bj ah aK)) (aB (aP (af ah ax))) aE)
    (aw (aU (ay (ao bj ah aK)) (aB (iy (fE (aP (af ah ax))) (aS (af aK ax)) cR)) aE)
    (aw (aU (ay (ao bj ah aK)) (aB (iy (ay (ao bj ah ag)) (aS (af (dn (af ag (af ag ax))) (af aK ax))) cR)) aE)
    (aw (aU (ay (ao bj ah aK)) (aB (iy (ay (ao (qU hr.units) ah (dn (af ag (af ag ax))))) (aS (af aK (af (dn (af ag (af ag ax))) (af aK ax)))) cR)) aE)
    (aB (iy (ay (ao (qU hr.units) ah (dn (af ag (af ag ax))))) (aS ax) cR))))))⟩
theorem qO (T:Txt K mg t):cB P w K mg base (CXE P w) 2 t.fH t.d_hex_worth ng (spP K (cD t) fH):=
 gb T.iV.F vx fun cdv A outer s H E hr=>⟨_,(aj (aT (cG (qx (nE T) T.fG hr aN (aa (qv 0) au)) (fun _=>rfl)) (av (az (aC qd (qv 0) (aZ rfl T.m_NOUGHT T.r_NOUGHT)))) aF)
   (aj (aT (kL mJ mJ ai (qv 0) ai) (av (az (aC qd (qv 0) ai))) aF)
   (aj (aT (kL mJ mJ ai (qv 0) ai) (av (az (aC qd (qv 0) ai))) aF)
   (av (az cS))))),
  (aw (aU (fE (aP (af ah ax))) (aB (ao qm ah ag)) aE)
    (aw (aU (ay (jW mB mB ag ah ag)) (aB (ao qm ah ag)) aE)
    (aw (aU (ay (jW mB mB ag ah ag)) (aB (ao qm ah ag)) aE)
    (aB cR))))⟩
theorem rz (T:Txt K mg t):cB P w K mg base (CXE P w) 1 t.dF t.d_behind_code_d js (spP K (cD t) dF):=
 gb T.iB.F mG fun cdv A outer s H E hr=>⟨_,(aj (aT (bS nV (qv 0) ai) (av (az (aQ (aa aL (aa aL au))))) aF)
   (aj (aT (bS nV (qv 0) ai) (aj (qz 1 mG.nd (aQ (aa (dq (aa (aZ rfl T.m_BACKSLASH T.r_BACKSLASH) (aa (aZ rfl T.m_BACKSLASH T.r_BACKSLASH) au))) (aa (dq (aa (aZ rfl T.m_SMALL_U T.r_SMALL_U) (aa (aZ rfl T.m_SMALL_U T.r_SMALL_U) au))) (aa aL (aa aL (aa aL (aa aL au))))))))
   (av (az (aC fM (aQ (aa aL (aa aL au))) (qv 1))))) aF)
   (av (az cS)))),
  (aw (aU (ay (ao nO ah ag)) (aB (aS (af aK (af aK ax)))) aE)
    (aw (aU (ay (ao nO ah ag)) (aw (aW (aS (af (dn (af ag (af ag ax))) (af (dn (af ag (af ag ax))) (af aK (af aK (af aK (af aK ax))))))))
    (aB (ao iP (aS (af aK (af aK ax))) ah))) aE)
    (aB cR)))⟩
theorem qu (T:Txt K mg t):cB P w K mg base (CXE P w) 1 t.cU t.d_second_of_three iF (spP K (cD t) cU):=
 gb T.e_second_of_three.F qc fun cdv A outer s H E hr=>⟨_,(aj (aT (bS bg (qv 0) ai) (av (az (dq (aa ai (aa ai au))))) aF)
   (aj (aT (bS bg (qv 0) ai) (av (az (dq (aa ai (aa ai au))))) aF)
   (av (az (aZ rfl T.m_TAIL T.r_TAIL))))),
  (aw (aU (ay (ao bj ah ag)) (aB (dn (af ag (af ag ax)))) aE)
    (aw (aU (ay (ao bj ah ag)) (aB (dn (af ag (af ag ax)))) aE)
    (aB (m8 T.q_TAIL))))⟩
theorem qK (T:Txt K mg t):cB P w K mg base (CXE P w) 1 t.dm t.d_second_of_four jk (spP K (cD t) dm):=
 gb T.e_second_of_four.F qH fun cdv A outer s H E hr=>⟨_,(aj (aT (bS bg (qv 0) ai) (av (az (dq (aa ai (aa ai au))))) aF)
   (aj (aT (bS bg (qv 0) ai) (av (az (dq (aa ai (aa ai au))))) aF)
   (av (az (aZ rfl T.m_TAIL T.r_TAIL))))),
  (aw (aU (ay (ao bj ah ag)) (aB (dn (af ag (af ag ax)))) aE)
    (aw (aU (ay (ao bj ah ag)) (aB (dn (af ag (af ag ax)))) aE)
    (aB (m8 T.q_TAIL))))⟩
theorem Cs (T:Txt K mg t):cB P w K mg base (CXE P w) 2 t.iZ t.d_tails uF (spP K (cD t) iZ):=
 gb T.e_tails.F Cw fun cdv A outer s H E hr=>⟨_,(aj (aT (kL mJ nV ai (qv 0) ai) (av (az (aQ au))) aF)
   (aj (aT (kL mJ nV ai (qv 0) ai) (av (az (aQ (aa (aZ rfl T.m_TAIL T.r_TAIL) au)))) aF)
   (aj (aT (kL mJ nV ai (qv 0) ai) (av (az (aQ (aa (qx (qu T) T.e_second_of_three hr aN (aa (qv 0) au)) (aa (aZ rfl T.m_TAIL T.r_TAIL) au))))) aF)
   (aj (aT (kL mJ nV ai (qv 0) ai) (av (az (aQ (aa (qx (qK T) T.e_second_of_four hr aN (aa (qv 0) au)) (aa (aZ rfl T.m_TAIL T.r_TAIL) (aa (aZ rfl T.m_TAIL T.r_TAIL) au)))))) aF)
   (av (az cS)))))),
  (aw (aU (ay (jW mB nO ag ah ag)) (aB (aS ax)) aE)
    (aw (aU (ay (jW mB nO ag ah ag)) (aB (aS (af (m8 T.q_TAIL) ax))) aE)
    (aw (aU (ay (jW mB nO ag ah ag)) (aB (aS (af (aP (af ah ax)) (af (m8 T.q_TAIL) ax)))) aE)
    (aw (aU (ay (jW mB nO ag ah ag)) (aB (aS (af (aP (af ah ax)) (af (m8 T.q_TAIL) (af (m8 T.q_TAIL) ax))))) aE)
    (aB cR)))))⟩
theorem pE (T:Txt K mg t):cB P w K mg base (CXE P w) 3 t.bW t.d_behind_character hU (spP K (cD t) bW):=
 gb T.fT.F kf fun cdv A outer s H E hr=>⟨_,(aj (aT (bS bg (qv 0) (aZ rfl T.m_QUOTE T.r_QUOTE)) (av (az (aQ au))) aF)
   (aj (aT (bS bg (qv 0) (aZ rfl T.m_BACKSLASH T.r_BACKSLASH)) (av (az (aQ (aa aL (aa aL au))))) aF)
   (aj (qz 1 kf.nd (qx (Cs T) T.e_tails hr aN (aa (qv 0) au)))
   (aj (aT (nT (zy (bS nV (qv 0) (aZ rfl T.m_BLANK T.r_BLANK)) (vD (bS rE (qv 1) cS)))) (av (az cS)) aF)
   (av (az (aC fM (qv 1) (aQ (aa aL au))))))))),
  (aw (aU (ay (ao bj ah ag)) (aB (aS ax)) aE)
    (aw (aU (ay (ao bj ah ag)) (aB (aS (af aK (af aK ax)))) aE)
    (aw (aW (aP (af ah ax)))
    (aw (aU (Aj (ay (ao nO ah ag)) (ay (ao rJ ah cR))) (aB cR) aE)
    (aB (ao iP ah (aS (af aK ax))))))))⟩
theorem sI (T:Txt K mg t):cB P w K mg base (CXE P w) 1 t.bL t.d_short_escape j1 (spP K (cD t) bL):=
 gb T.jl.F sN fun cdv A outer s H E hr=>⟨_,(av (az (xo (aZ rfl T.m_SHORT_ESCAPES T.r_SHORT_ESCAPES) (qv 0)))),
  (aB (xq T.q_SHORT_ESCAPES ah))⟩
theorem pG (T:Txt K mg t):cB P w K mg base (CXE P w) 2 t.cE t.d_behind_backslash hJ (spP K (cD t) cE):=
 gb T.fW.F pC fun cdv A outer s H E hr=>⟨_,(aj (aT (bS bg (qv 0) (aZ rfl T.m_SMALL_U T.r_SMALL_U)) (av (az (aQ (aa aL au)))) aF)
   (av (az (cW (by exact (bS rE (qx (sI T) T.jl hr aN (aa (qv 0) au)) cS)) cS (aQ au))))),
  (aw (aU (ay (ao bj ah ag)) (aB (aS (af aK ax))) aE)
    (aB (iy (ay (ao rJ (aP (af ah ax)) cR)) cR (aS ax))))⟩
theorem qS (T:Txt K mg t):cB P w K mg base (CXE P w) 4 t.bR t.d_behind_in_text iY (spP K (cD t) bR):=
 gb T.e_behind_in_text.F lD fun cdv A outer s H E hr=>⟨_,(aj (aT (bS bg (qv 0) aL) (av (az (qx (pE T) T.fT hr aN (aa (qv 1) au)))) aF)
   (aj (aT (bS bg (qv 0) aL) (av (az (qx (pG T) T.fW hr aN (aa (qv 1) au)))) aF)
   (aj (qz 2 lD.nd (qx (qO T) T.iV hr aN (aa (qv 1) au)))
   (aj (aT (bS rE (qv 2) cS) (av (az cS)) aF)
   (aj (aT (bS bg (qv 0) aL) (av (az (cW (by exact (bS bg (qv 2) ai)) (aQ (aa aL au)) (aQ (aa aL (aa aL (aa aL au))))))) aF)
   (av (az (qx (rz T) T.iB hr aN (aa (qv 2) au))))))))),
  (aw (aU (ay (ao bj ah aK)) (aB (aP (af ah ax))) aE)
    (aw (aU (ay (ao bj ah aK)) (aB (aP (af ah ax))) aE)
    (aw (aW (aP (af ah ax)))
    (aw (aU (ay (ao rJ ah cR)) (aB cR) aE)
    (aw (aU (ay (ao bj ah aK)) (aB (iy (ay (ao bj ah ag)) (aS (af aK ax)) (aS (af aK (af aK (af aK ax)))))) aE)
    (aB (aP (af ah ax))))))))⟩
theorem uN (T:Txt K mg t):cB P w K mg base (CXE P w) 3 t.dQ t.d_behind_hex lR (spP K (cD t) dQ):=
 gb T.e_behind_hex.F pT fun cdv A outer s H E hr=>⟨_,(aj (qz 2 pT.nd (qx (qO T) T.iV hr aN (aa (qv 1) au)))
   (aj (aT (bS rE (qv 2) cS) (av (az cS)) aF)
   (aj (aT (bS bg (qv 0) aL) (av (az (cW (by exact (bS bg (qv 2) ai)) (aQ au) cS))) aF)
   (aj (aT (bS bg (qv 0) aL) (av (az (cW (by exact (bS xb (qv 2) ai)) (aQ au) cS))) aF)
   (av (az (aQ au))))))),
  (aw (aW (aP (af ah ax)))
    (aw (aU (ay (ao rJ ah cR)) (aB cR) aE)
    (aw (aU (ay (ao bj ah aK)) (aB (iy (ay (ao bj ah ag)) (aS ax) cR)) aE)
    (aw (aU (ay (ao bj ah aK)) (aB (iy (ay (ao xN ah ag)) (aS ax) cR)) aE)
    (aB (aS ax))))))⟩
theorem pB (T:Txt K mg t):cB P w K mg base (CXE P w) 4 t.cq t.d_behind_row_begin ib (spP K (cD t) cq):=
 gb T.fU.F kh fun cdv A outer s H E hr=>⟨_,(aj (aT (bS bg (qv 0) (aZ rfl T.m_ROW_END T.r_ROW_END)) (av (az (aQ au))) aF)
   (aj (qz 1 kh.nd (qx (nU T) T.fD hr aN (aa (qv 0) au)))
   (av (az (cW (by exact (bS rE (qv 1) cS)) cS (aC fM (qv 1) (aQ (aa aL (aa aL au))))))))),
  (aw (aU (ay (ao bj ah ag)) (aB (aS ax)) aE)
    (aw (aW (aP (af ah ax)))
    (aB (iy (ay (ao rJ ah cR)) cR (ao iP ah (aS (af aK (af aK ax))))))))⟩
theorem oJ (T:Txt K mg t):cB P w K mg base (CXE P w) 1 t.eE t.d_member_rest kQ (spP K (cD t) eE):=
 gb T.dA.F uk fun cdv A outer s H E hr=>⟨_,(av (az (aQ (aa aL (aa (dq (aa (aZ rfl T.m_COLON T.r_COLON) (aa (aZ rfl T.m_COLON T.r_COLON) au))) (aa aL (aa aL (aa aL (aa aL au))))))))),
  (aB (aS (af aK (af (dn (af ag (af ag ax))) (af aK (af aK (af aK (af aK ax))))))))⟩
theorem nC (T:Txt K mg t):cB P w K mg base (CXE P w) 2 t.b9 t.d_behind_fields_begin fL (spP K (cD t) b9):=
 gb T.eP.F m5 fun cdv A outer s H E hr=>⟨_,(aj (aT (bS bg (qv 0) (aZ rfl T.m_FIELDS_END T.r_FIELDS_END)) (av (az (aQ au))) aF)
   (av (az (cW (by exact (bS bg (qv 0) (aZ rfl T.m_QUOTE T.r_QUOTE))) (aC fM (aQ (aa aL au)) (u6 ((oJ T).mono (by decide)) hr rfl T.dA.m T.dA.F.kp T.dA.b aN)) cS)))),
  (aw (aU (ay (ao bj ah ag)) (aB (aS ax)) aE)
    (aB (iy (ay (ao bj ah ag)) (ao iP (aS (af aK ax)) (aP ax)) cR)))⟩
theorem nZ (T:Txt K mg t):cB P w K mg base (CXE P w) 5 t.ba t.d_behind_in_brackets gk (spP K (cD t) ba):=
 gb T.e_behind_in_brackets.F nY fun cdv A outer s H E hr=>⟨_,(aj (aT (bS bg (qv 0) aL) (av (az (qx (pB T) T.fU hr aN (aa (qv 1) au)))) aF)
   (aj (aT (bS bg (qv 0) aL) (av (az (qx (nC T) T.eP hr aN (aa (qv 1) au)))) aF)
   (aj (aT (bS bg (qv 0) aL) (aj (aT (bS bg (qv 1) (aZ rfl T.m_COMMA T.r_COMMA)) (av (az (aQ (aa aL (aa aL (aa aL (aa aL au))))))) aF)
   (av (az (cW (by exact (bS bg (qv 1) (aZ rfl T.m_ROW_END T.r_ROW_END))) (aQ au) cS)))) aF)
   (aj (aT (bS bg (qv 1) (aZ rfl T.m_COMMA T.r_COMMA)) (av (az (aC fM (aQ (aa aL (aa aL au))) (u6 ((oJ T).mono (by decide)) hr rfl T.dA.m T.dA.F.kp T.dA.b aN)))) aF)
   (av (az (cW (by exact (bS bg (qv 1) (aZ rfl T.m_FIELDS_END T.r_FIELDS_END))) (aQ au) cS))))))),
  (aw (aU (ay (ao bj ah aK)) (aB (aP (af ah ax))) aE)
    (aw (aU (ay (ao bj ah aK)) (aB (aP (af ah ax))) aE)
    (aw (aU (ay (ao bj ah aK)) (aw (aU (ay (ao bj ah ag)) (aB (aS (af aK (af aK (af aK (af aK ax)))))) aE)
    (aB (iy (ay (ao bj ah ag)) (aS ax) cR))) aE)
    (aw (aU (ay (ao bj ah ag)) (aB (ao iP (aS (af aK (af aK ax))) (aP ax))) aE)
    (aB (iy (ay (ao bj ah ag)) (aS ax) cR))))))⟩
theorem xI (T:Txt K mg t):cB P w K mg base (CXE P w) 1 t.iS t.d_is_white o2 (spP K (cD t) iS):=
 gb T.mP.F xJ fun cdv A outer s H E hr=>⟨_,(av (az (gw mM (qv 0) (aZ rfl T.m_WHITE T.r_WHITE) rfl))),
  (aB (ao (qU hr.units) ah (m8 T.q_WHITE)))⟩
theorem Bk (T:Txt K mg t):cB P w K mg base (CXE P w) 6 t.cg t.d_behind rY (spP K (cD t) cg):=
 gb T.qY.F Bo fun cdv A outer s H E hr=>⟨_,(aj (aT (cG (mq uI rfl T.n_isinstance L2.E.boot_isinstance (aa (qv 0) (aa (vp (v:=.ty _) rfl T.n_tuple L2.E.boot_tuple rfl) au))) (fun _=>rfl)) (av (az (cW (by exact (kL mJ mJ (qi gL (qv 0) ai) (qv 1) (qi gL (qv 0) ai))) (aQ au) cS))) aF)
   (aj (aT (kj mM (qv 0) (dq (aa aL (aa aL (aa aL (aa aL (aa aL au)))))) rfl) (av (az (qx (pD T) T.e_behind_in_number hr aN (aa (qv 0) (aa (qv 1) au))))) aF)
   (aj (aT (kj mM (qv 0) (dq (aa aL (aa aL (aa aL (aa aL au))))) rfl) (av (az (qx (qS T) T.e_behind_in_text hr aN (aa (qv 0) (aa (qv 1) au))))) aF)
   (aj (aT (kj mM (qv 0) (dq (aa aL (aa aL (aa aL au)))) rfl) (av (az (qx (uN T) T.e_behind_hex hr aN (aa (qv 0) (aa (qv 1) au))))) aF)
   (aj (aT (kj mM (qv 0) (aZ rfl T.m_UNENDED T.r_UNENDED) rfl) (av (az (qx (nZ T) T.e_behind_in_brackets hr aN (aa (qv 0) (aa (qv 1) au))))) aF)
   (aj (aT (bS bg (qv 0) aL) (av (az (cW (by exact (cG (qx (xI T) T.mP hr aN (aa (qv 1) au)) (fun _=>rfl))) (aQ (aa aL au)) cS))) aF)
   (aj (aT (bS bg (qv 0) aL) (av (az (cW (by exact (bS bg (qv 1) (aZ rfl T.m_QUOTE T.r_QUOTE))) (aQ (aa aL au)) cS))) aF)
   (av (az (qx (nU T) T.fD hr aN (aa (qv 1) au))))))))))),
  (aw (aU (fE (yL ah)) (aB (iy (ay (jW mB mB (ao gP ah ag) ah (ao gP ah ag))) (aS ax) cR)) aE)
    (aw (aU (ay (ao (qU hr.units) ah (dn (af aK (af aK (af aK (af aK (af aK ax)))))))) (aB (aP (af ah (af ah ax)))) aE)
    (aw (aU (ay (ao (qU hr.units) ah (dn (af aK (af aK (af aK (af aK ax))))))) (aB (aP (af ah (af ah ax)))) aE)
    (aw (aU (ay (ao (qU hr.units) ah (dn (af aK (af aK (af aK ax)))))) (aB (aP (af ah (af ah ax)))) aE)
    (aw (aU (ay (ao (qU hr.units) ah (vH fun S=>by unfold Rep; exact ⟨_,_,rfl,T.q_UNENDED S,(.cons (by unfold Rep; rfl) (.cons (by unfold Rep; rfl) (.cons (by unfold Rep; rfl) (.cons (by unfold Rep; rfl) .nil))))⟩))) (aB (aP (af ah (af ah ax)))) aE)
    (aw (aU (ay (ao bj ah aK)) (aB (iy (fE (aP (af ah ax))) (aS (af aK ax)) cR)) aE)
    (aw (aU (ay (ao bj ah aK)) (aB (iy (ay (ao bj ah ag)) (aS (af aK ax)) cR)) aE)
    (aB (aP (af ah ax))))))))))⟩
theorem rD (T:Txt K mg t):cB P w K mg base (CXE P w) 1 t.cH t.d_Walk_brackets jt (spI K (cD t) cH):=
 ui T.F_Walk_brackets rS fun cdv A outer s H E hr=>⟨_,(av (az (qf T.n_len (A6 (M:=[]) (ι:=[]) (x:="item") ⟨rfl,rfl,rfl,rfl,rfl,rfl,rfl,rfl,rfl,rfl,rfl,by decide +kernel⟩ rfl (nK (uu (qv 0))) (fun _ _ _ _=>(kj mM (qv 0) (aZ rfl T.m_UNENDED T.r_UNENDED) rfl)) fun _ _ _ _=>(qv 0))))),
  (aB (gN uw (zm (by decide) (gv (xu aO (iX T))) (ay (ao (qU hr.units) ah (vH fun S=>by unfold Rep; exact ⟨_,_,rfl,T.q_UNENDED S,(.cons (by unfold Rep; rfl) (.cons (by unfold Rep; rfl) (.cons (by unfold Rep; rfl) (.cons (by unfold Rep; rfl) .nil))))⟩))) ah)))⟩
theorem sP (T:Txt K mg t):cB P w K mg base (CXE P w) 7 t.dZ t.d_Walk_goes_on j8 (spI K (cD t) dZ):=
 ui T.F_Walk_goes_on j5 fun cdv A outer s H E hr=>⟨_,(aj (ud jI (cG (uu (qv 0)) (fun _=>rfl)) (aj (qz 2 j5.nd (CQ PySem.F.plainAttrs_list PySem.F.slot_list_pop PySem.F.type_list_pop B9 (uu (qv 0))))
   (aj (qz 3 j5.nd (qx (Bk T) T.qY hr aN (aa (qv 2) (aa (qv 1) au))))
   (aj (aT (bS vT (qv 3) cS) (aj (qex fZ (uu (qv 0)) (II (qv 3) (nW kd ai)))
   (av (az (gw mJ (uT (qv 0) T.c_Walk T.h_Walk_brackets ((rD T).mono (by decide)) hr T.b_Walk_brackets aN) (aZ rfl T.m_MOST_BRACKETS T.r_MOST_BRACKETS) (jB _))))) aF)
   (av (aT (kj AH (qv 2) (aZ rfl T.m_LOOSE T.r_LOOSE) rfl) (av (az xj)) aF))))))
   (av (az xj))),
  (aw (tS (gY (xu aO (iX T))) (aw (pf (Af (xu aO (iX T))))
    (aw (aW (aP (af ah (af ah ax))))
    (aw (aU (ay (ao wB ah cR)) (aw (fQ (xu aO (iX T)) (HW ah (nX ke ag)))
    (aB (ao mB (yl rfl rfl (Fy aO) mX) ag))) aE)
    (aU (ay (ao (CZ hr.units) ah (vH fun S=>by unfold Rep; exact ⟨_,_,rfl,T.q_LOOSE S,(.cons (by unfold Rep; rfl) (.cons (by unfold Rep; rfl) (.cons (by unfold Rep; rfl) (.cons (by unfold Rep; rfl) (.cons (by unfold Rep; rfl) .nil)))))⟩))) (aB xQ) aE)))))
    (aB xQ))⟩
theorem vQ (T:Txt K mg t):cB P w K mg base (CXE P w) 8 t.fI t.d_Walk_take nu (spI K (cD t) fI):=
 ui T.F_Walk_take mN fun cdv A outer s H E hr=>⟨_,(aj (ql jI rfl (DK rfl T.n_enumerate (aa (qv 1) au)) (HH rfl (ye (kY (i:=2) mN.nd rfl (by first | exact Or.inl rfl | exact Or.inr rfl)) (ye (kY (i:=3) mN.nd rfl (by first | exact Or.inl rfl | exact Or.inr rfl)) Ft))) (av (aT (Hw (cG (xg (qv 0) T.c_Walk T.h_Walk_goes_on ((sP T).mono (by decide)) hr T.b_Walk_goes_on aN (aa (qv 3) au)) (fun _=>rfl))) (av (az (qv 2))) aF)))
   (av (az (qf T.n_len (qv 1))))),
  (aw (DN ah (DU (xC rfl rfl (oZ aO) (fB (zE (W:=fun _ _ _ _=>False) ah) mX)) pq aE))
    (aB (gN uw ah)))⟩
theorem rR (T:Txt K mg t):cB P w K mg base (CXE P w) 1 t.de t.d_Walk_is_whole jy (spI K (cD t) de):=
 ui T.F_Walk_is_whole rH fun cdv A outer s H E hr=>⟨_,(av (az (mq AN rfl T.n_all L2.E.boot_all (aa (ni (M:=[]) (ι:=[]) (x:="item") ⟨rfl,rfl,rfl,rfl,rfl,rfl,rfl,rfl,rfl,rfl,rfl,by decide +kernel⟩ rfl (nK (uu (qv 0))) fun _ _ _ _=>(gw mM (qv 0) (aZ rfl T.m_LOOSE T.r_LOOSE) rfl)) au)))),
  (aB (gN (G7 hr.hd) (tV (by decide) (gv (xu aO (iX T))) (ao (qU hr.units) ah (vH fun S=>by unfold Rep; exact ⟨_,_,rfl,T.q_LOOSE S,(.cons (by unfold Rep; rfl) (.cons (by unfold Rep; rfl) (.cons (by unfold Rep; rfl) (.cons (by unfold Rep; rfl) (.cons (by unfold Rep; rfl) .nil)))))⟩)))))⟩
theorem xR (T:Txt K mg t):cB P w K mg base (CXE P w) 9 t.lu t.d_fault uC (spP K (cD t) lu):=
 gb T.pb.F uo fun cdv A outer s H E hr=>⟨_,(aj (qz 1 uo.nd (C4 T.k_Walk (rm T) (hr.mono (by decide)) rfl T.m_Walk T.b_Walk___init__))
   (aj (qz 2 uo.nd (xg (qv 1) T.c_Walk T.h_Walk_take ((vQ T).mono (by decide)) hr T.b_Walk_take aN (aa (qv 0) au)))
   (aj (aT (nT (lI (bS bg (qv 2) (qf T.n_len (qv 0))) (lB (cG (uT (qv 1) T.c_Walk T.h_Walk_is_whole ((rR T).mono (by decide)) hr T.b_Walk_is_whole aN) (fun _=>rfl))))) (av (az cS)) aF)
   (av (az (qv 2)))))),
  (aw (qF (EF rfl))
    (aw (pf (xC rfl rfl (oZ aO) (fB (zE (W:=fun _ _ _ _=>False) ah) mX)))
    (aw (aU (lH (ay (ao bj ah (gN uw ah))) (fE (yl rfl rfl (Fy aO) mX))) (aB cR) aE)
    pq)))⟩
theorem vS (T:Txt K mg t):cB P w K mg base (CXE P w) 1 t.gH t.d_law_whole m9 (spP K (cD t) gH):=
 gb T.kX.F vW fun cdv A outer s H E hr=>⟨_,(av (az (yS (mq uI rfl T.n_isinstance L2.E.boot_isinstance (aa (qv 0) (aa (vp (v:=.ty _) rfl T.n_int L2.E.boot_int rfl) au))) (wN (Ha (mq uI rfl T.n_isinstance L2.E.boot_isinstance (aa (qv 0) (aa (vp (v:=.ty _) rfl T.n_bool L2.E.boot_bool rfl) au)))))))),
  (aB (yA (yL ah) (H0 (yL ah))))⟩
theorem IH (T:Txt K mg t):cB P w K mg base (CXE P w) 10 t.uU t.d_law y0 (spP K (cD t) uU):=
 gb T.CY.F qe fun cdv A outer s H E hr=>⟨_,(aj (qz 1 qe.nd (qx (vK T) T.e_law_built hr aN (aa (qv 0) (aa (aC cx ai (aC bN (qx (jz T) T.dP hr aN (aa (qv 0) (aa ai au))) ai)) au))))
   (aj (qz 2 qe.nd (qi gL (qv 1) ai))
   (aj (qz 3 qe.nd (gi vR rfl T.n_list L2.E.boot_list (aa (qv 2) au)))
   (aj (aT (nT (zy (bS vT (qx (xR T) T.pb hr aN (aa (qv 3) au)) cS) (vD (bS GD (qv 3) (qv 2))))) (av (az xj)) aF)
   (aj (qz 4 qe.nd (aC bN (qx (jz T) T.dP hr aN (aa (qv 0) (aa ai au))) (aC cx (qf T.n_len (qv 2)) ai)))
   (aj (qz 5 qe.nd (qx (xR T) T.pb hr aN (aa (yw zZ (qv 2) Ac (zQ (qv 4))) au)))
   (aj (aT (bS rE (qv 5) cS) (aj (qz 6 qe.nd (qi gL (qi bQ (qi gL (qv 1) ai) ai) ai))
   (av (az (JZ (gw xb (qv 4) (qv 6) (jB _)) (wN (yS (gw bg (qi gL (qi bQ (qi gL (qv 1) ai) ai) ai) aL (jB _)) (wN (gw xl (qv 4) (qi gL (qi bQ (qi gL (qv 1) ai) ai) ai) (jB _))))))))) aF)
   (av (az (yS (qx (vS T) T.kX hr aN (aa (qv 5) au)) (wN (gw bg (qv 5) (qv 4) (jB _))))))))))))),
  (aw (aW (aP (af ah (af (ao cy ag (ao bM (aP (af ah (af ag ax))) ag)) ax))))
    (aw (aW (ao gP ah ag))
    (aw (aW (gN zj ah))
    (aw (mz (i:=3) (aU (Aj (ay (ao wB (aP (af ah ax)) cR)) (ay (ao (Hj hr.units) ah ah))) (aB xQ) aE))
    (aw (aW (ao bM (aP (af ah (af ag ax))) (ao cy (gN uw ah) ag)))
    (aw (aW (aP (af (Dy ah zX (Al ah)) ax)))
    (aw (aU (ay (ao rJ ah cR)) (aw (aW (ao gP (ao nc (ao gP ah ag) ag) ag))
    (aB (Kk (ao xN ah ah) (yA (ao bj (ao gP (ao nc (ao gP ah ag) ag) ag) aK) (ao xk ah (ao gP (ao nc (ao gP ah ag) ag) ag)))))) aE)
    (aB (yA (aP (af ah ax)) (ao bj ah ah))))))))))⟩
end
open PySem.W in
theorem all_mk {l:PySem.W.OpenLaw} {w:World} {K:PySem.W.Frag} {h:Heap} {mg:Str -> Option Value} {fa:Addr} (X:K.In h) (G:h.Ns mainGlobals mg) (hfa:mg "law" = some (.ref fa))
  (h0:Fd K "tails" v3 f0 d0)
  (h1:Fd K "second_of_three" i8 f1 d1)
  (h2:Fd K "second_of_four" jD f2 d2)
  (h3:Fd K "is_white" qr f3 d3)
  (h4:Fd K "is_figure" oo f4 d4)
  (h5:Fd K "hex_worth" oM f5 d5)
  (h6:Fd K "word_rest" oB f6 d6)
  (h7:Fd K "short_escape" kC f7 d7)
  (h8:Fd K "behind" tK f8 d8)
  (h9:Fd K "behind_value" kG f9 d9)
  (h10:Fd K "behind_lead" lU f10 d10)
  (h11:Fd K "behind_in_number" iM f11 d11)
  (h12:Fd K "behind_in_text" jF f12 d12)
  (h13:Fd K "behind_character" iI f13 d13)
  (h14:Fd K "behind_backslash" iE f14 d14)
  (h15:Fd K "behind_code_d" j7 f15 d15)
  (h16:Fd K "behind_hex" m3 f16 d16)
  (h17:Fd K "behind_in_brackets" gz f17 d17)
  (h18:Fd K "behind_row_begin" iJ f18 d18)
  (h19:Fd K "behind_fields_begin" gn f19 d19)
  (h20:Fd K "member_rest" lF f20 d20)
  (h21:Fd K "fault" vP f21 d21)
  (h22:Fd K "_law_cell" p9 f22 d22)
  (h23:Fd K "_law_mix" rL f23 d23)
  (h24:Fd K "_law_whole" oN f24 d24)
  (h25:Fd K "_law_point" oX f25 d25)
  (h26:Fd K "_law_points" mO f26 d26)
  (h27:Fd K "_law_eight" om f27 d27)
  (h28:Fd K "_law_hex" rZ f28 d28)
  (h29:Fd K "_law_sign" qh f29 d29)
  (h30:Fd K "_law_text" qa f30 d30)
  (h31:Fd K "_law_number" nB f31 d31)
  (h32:Fd K "_law_plain" oz f32 d32)
  (h33:Fd K "_law_white" o7 f33 d33)
  (h34:Fd K "_law_plain_value" i4 f34 d34)
  (h35:Fd K "_law_name" qq f35 d35)
  (h36:Fd K "_law_close" o8 f36 d36)
  (h37:Fd K "_law_begin" ou f37 d37)
  (h38:Fd K "_law_built" o6 f38 d38)
  (a39:nsIn K mainGlobals "law" = some (some (.ref f39))) (l39:K.lookup f39 = some ⟨oc39,od39,.func (fnOf "law" "law" (eO yf) (dJ yf) (aA yf) .none kV39 dc39 pm39 an39 cd39 ct39),sl39⟩) (c39:codeIn K cd39 "law" = true) (k39:keepIn K (.ref f39) = true)
  (a40:findIn K (.ref C0) "__init__" = some (some (.ref f40))) (i40:isFn K (.ref f40) = true) (l40:K.lookup f40 = some ⟨oc40,od40,.func (fnOf "__init__" "Walk.__init__" (eO eA) (dJ eA) (aA eA) .none kV40 dc40 pm40 an40 cd40 ct40),sl40⟩) (c40:codeIn K cd40 "Walk.__init__" = true) (k40:keepIn K (.ref f40) = true)
  (a41:findIn K (.ref C0) "take" = some (some (.ref f41))) (i41:isFn K (.ref f41) = true) (l41:K.lookup f41 = some ⟨oc41,od41,.func (fnOf "take" "Walk.take" (eO gQ) (dJ gQ) (aA gQ) .none kV41 dc41 pm41 an41 cd41 ct41),sl41⟩) (c41:codeIn K cd41 "Walk.take" = true) (k41:keepIn K (.ref f41) = true)
  (a42:findIn K (.ref C0) "goes_on" = some (some (.ref f42))) (i42:isFn K (.ref f42) = true) (l42:K.lookup f42 = some ⟨oc42,od42,.func (fnOf "goes_on" "Walk.goes_on" (eO eL) (dJ eL) (aA eL) .none kV42 dc42 pm42 an42 cd42 ct42),sl42⟩) (c42:codeIn K cd42 "Walk.goes_on" = true) (k42:keepIn K (.ref f42) = true)
  (a43:findIn K (.ref C0) "brackets" = some (some (.ref f43))) (i43:isFn K (.ref f43) = true) (l43:K.lookup f43 = some ⟨oc43,od43,.func (fnOf "brackets" "Walk.brackets" (eO eh) (dJ eh) (aA eh) .none kV43 dc43 pm43 an43 cd43 ct43),sl43⟩) (c43:codeIn K cd43 "Walk.brackets" = true) (k43:keepIn K (.ref f43) = true)
  (a44:findIn K (.ref C0) "is_whole" = some (some (.ref f44))) (i44:isFn K (.ref f44) = true) (l44:K.lookup f44 = some ⟨oc44,od44,.func (fnOf "is_whole" "Walk.is_whole" (eO ef) (dJ ef) (aA ef) .none kV44 dc44 pm44 an44 cd44 ct44),sl44⟩) (c44:codeIn K cd44 "Walk.is_whole" = true) (k44:keepIn K (.ref f44) = true)
  (z0:nsIn K mainGlobals "isinstance" = some none)
  (z1:nsIn K mainGlobals "tuple" = some none)
  (z2:nsIn K mainGlobals "len" = some none)
  (z3:nsIn K mainGlobals "int" = some none)
  (z4:nsIn K mainGlobals "bool" = some none)
  (z5:nsIn K mainGlobals "range" = some none)
  (z6:nsIn K mainGlobals "str" = some none)
  (z7:nsIn K mainGlobals "ord" = some none)
  (z8:nsIn K mainGlobals "list" = some none)
  (z9:nsIn K mainGlobals "enumerate" = some none)
  (z10:nsIn K mainGlobals "all" = some none)
  (ca0:nsIn K mainGlobals "Walk" = some (some (.ref C0))) (pg0:plainGet K C0 Str.empty = true) (hd0:hasDictIn K C0 = true) (po0:plainOver K C0 = true) (sa0:findIn K (.ref C0) "__setattr__" = some (some (.builtin "object.__setattr__"))) (mk0:makesIn K C0 = true) (kc0:keepIn K (.ref C0) = true)
  (na0_0:findIn K (.ref C0) "coming" = some none)
  (va0:nsIn K mainGlobals "TAIL" = some (some (.ref v0))) (vl0:K.lookup v0 = some ⟨.type "tuple",vd0,.seq #[.int 128 t0_0,.int 191 t0_1] vn0,vs0⟩)
  (va1:nsIn K mainGlobals "BLANK" = some (some (.int 32 t1)))
  (va2:nsIn K mainGlobals "QUOTE" = some (some (.int 34 t2)))
  (va3:nsIn K mainGlobals "PLUS" = some (some (.int 43 t3)))
  (va4:nsIn K mainGlobals "COMMA" = some (some (.int 44 t4)))
  (va5:nsIn K mainGlobals "MINUS" = some (some (.int 45 t5)))
  (va6:nsIn K mainGlobals "POINT" = some (some (.int 46 t6)))
  (va7:nsIn K mainGlobals "NOUGHT" = some (some (.int 48 t7)))
  (va8:nsIn K mainGlobals "NINE" = some (some (.int 57 t8)))
  (va9:nsIn K mainGlobals "COLON" = some (some (.int 58 t9)))
  (va10:nsIn K mainGlobals "BIG_E" = some (some (.int 69 t10)))
  (va11:nsIn K mainGlobals "ROW_BEGIN" = some (some (.int 91 t11)))
  (va12:nsIn K mainGlobals "BACKSLASH" = some (some (.int 92 t12)))
  (va13:nsIn K mainGlobals "ROW_END" = some (some (.int 93 t13)))
  (va14:nsIn K mainGlobals "SMALL_E" = some (some (.int 101 t14)))
  (va15:nsIn K mainGlobals "SMALL_U" = some (some (.int 117 t15)))
  (va16:nsIn K mainGlobals "FIELDS_BEGIN" = some (some (.int 123 t16)))
  (va17:nsIn K mainGlobals "FIELDS_END" = some (some (.int 125 t17)))
  (va18:nsIn K mainGlobals "WHITE" = some (some (.ref v18))) (vl18:K.lookup v18 = some ⟨.type "tuple",vd18,.seq #[.int 9 t18_0,.int 10 t18_1,.int 13 t18_2,.int 32 t18_3] vn18,vs18⟩)
  (va19:nsIn K mainGlobals "WORDS" = some (some (.ref v19))) (vl19:K.lookup v19 = some ⟨.type "dict",none,.dict #[⟨110,.int 110 tk19_0,.ref w19_0⟩,⟨116,.int 116 tk19_1,.ref w19_1⟩,⟨102,.int 102 tk19_2,.ref w19_2⟩] ep19,#[]⟩)
  (wl19_0:K.lookup w19_0 = some ⟨.type "tuple",wd19_0,.seq #[.int 117 tx19_0_0,.int 108 tx19_0_1,.int 108 tx19_0_2] wn19_0,ws19_0⟩)
  (wl19_1:K.lookup w19_1 = some ⟨.type "tuple",wd19_1,.seq #[.int 114 tx19_1_0,.int 117 tx19_1_1,.int 101 tx19_1_2] wn19_1,ws19_1⟩)
  (wl19_2:K.lookup w19_2 = some ⟨.type "tuple",wd19_2,.seq #[.int 97 tx19_2_0,.int 108 tx19_2_1,.int 115 tx19_2_2,.int 101 tx19_2_3] wn19_2,ws19_2⟩)
  (vm19:(v19 == sysModules) = false)
  (va20:nsIn K mainGlobals "SHORT_ESCAPES" = some (some (.ref v20))) (vl20:K.lookup v20 = some ⟨.type "dict",none,.dict #[⟨34,.int 34 tk20_0,(.int 34 tv20_0)⟩,⟨92,.int 92 tk20_1,(.int 92 tv20_1)⟩,⟨47,.int 47 tk20_2,(.int 47 tv20_2)⟩,⟨98,.int 98 tk20_3,(.int 8 tv20_3)⟩,⟨102,.int 102 tk20_4,(.int 12 tv20_4)⟩,⟨110,.int 110 tk20_5,(.int 10 tv20_5)⟩,⟨114,.int 114 tk20_6,(.int 13 tv20_6)⟩,⟨116,.int 116 tk20_7,(.int 9 tv20_7)⟩] ep20,#[]⟩)
  (vm20:(v20 == sysModules) = false)
  (va21:nsIn K mainGlobals "MOST_BRACKETS" = some (some (.int 64 t21)))
  (va22:nsIn K mainGlobals "LOOSE" = some (some (.ref v22))) (vl22:K.lookup v22 = some ⟨.type "tuple",vd22,.seq #[.str "white" t22_0,.str "figures" t22_1,.str "fraction" t22_2,.str "exponent" t22_3,.str "sign" t22_4] vn22,vs22⟩)
  (va23:nsIn K mainGlobals "UNENDED" = some (some (.ref v23))) (vl23:K.lookup v23 = some ⟨.type "tuple",vd23,.seq #[.str "row" t23_0,.str "more row" t23_1,.str "fields" t23_2,.str "more fields" t23_3] vn23,vs23⟩):
  ∃ fd:FuncData,(∀ (s:Shared) (v:Value),BindsTo s fd ⟨[v],[]⟩ [("_law_script",v)]) /\ ∀ base:Heap,K.In base -> base.Ns mainGlobals mg -> cB l.prog w K mg base (CXE l.prog w) 10 fa fd ["_law_script"] (wx K):=by
 have e:=hfa.symm.trans (PySem.W.mg_of X G a39)
 cases e
 have T:Txt K mg ⟨f0,d0,f1,d1,f2,d2,f3,d3,f4,d4,f5,d5,f6,d6,f7,d7,f8,d8,f9,d9,f10,d10,f11,d11,f12,d12,f13,d13,f14,d14,f15,d15,f16,d16,f17,d17,f18,d18,f19,d19,f20,d20,f21,d21,f22,d22,f23,d23,f24,d24,f25,d25,f26,d26,f27,d27,f28,d28,f29,d29,f30,d30,f31,d31,f32,d32,f33,d33,f34,d34,f35,d35,f36,d36,f37,d37,f38,d38,f39,_,f40,_,f41,_,f42,_,f43,_,f44,_,C0,v0,_,_,_,_,_,_,_,_,_,_,_,_,_,_,_,_,_,v18,v19,v20,_,v22,v23⟩:=⟨h0.e1 X G,
  h1.e1 X G,
  h2.e1 X G,
  h3.e1 X G,
  h4.e1 X G,
  h5.e1 X G,
  h6.e1 X G,
  h7.e1 X G,
  h8.e2 X G,
  h9.e1 X G,
  h10.e1 X G,
  h11.e2 X G,
  h12.e2 X G,
  h13.e1 X G,
  h14.e1 X G,
  h15.e1 X G,
  h16.e2 X G,
  h17.e2 X G,
  h18.e1 X G,
  h19.e1 X G,
  h20.e0 X G,
  h21.e1 X G,
  h22.e2 X G,
  h23.e2 X G,
  h24.e1 X G,
  h25.e1 X G,
  h26.e2 X G,
  h27.e1 X G,
  h28.e2 X G,
  h29.e2 X G,
  h30.e2 X G,
  h31.e1 X G,
  h32.e2 X G,
  h33.e1 X G,
  h34.e2 X G,
  h35.e2 X G,
  h36.e3 X G,
  h37.e5 X G,
  h38.e2 X G,
  (dw a39 l39 c39 k39).e1 X G,
  kM (st:=eA) l40 c40 k40,(kM (st:=eA) l40 c40 k40).binds (ps:=["self"]) fun _ _ _ _ _ _ us hl=>match us,hl with | [_],_=>rfl,
  kM (st:=gQ) l41 c41 k41,⟨a41,i41,k41⟩,(kM (st:=gQ) l41 c41 k41).binds (ps:=["self","row"]) fun _ _ _ _ _ _ us hl=>match us,hl with | [_,_],_=>rfl,
  kM (st:=eL) l42 c42 k42,⟨a42,i42,k42⟩,(kM (st:=eL) l42 c42 k42).binds (ps:=["self","byte"]) fun _ _ _ _ _ _ us hl=>match us,hl with | [_,_],_=>rfl,
  kM (st:=eh) l43 c43 k43,⟨a43,i43,k43⟩,(kM (st:=eh) l43 c43 k43).binds (ps:=["self"]) fun _ _ _ _ _ _ us hl=>match us,hl with | [_],_=>rfl,
  kM (st:=ef) l44 c44 k44,⟨a44,i44,k44⟩,(kM (st:=ef) l44 c44 k44).binds (ps:=["self"]) fun _ _ _ _ _ _ us hl=>match us,hl with | [_],_=>rfl,
  PySem.W.mg_none_of X G z0,
  PySem.W.mg_none_of X G z1,
  PySem.W.mg_none_of X G z2,
  PySem.W.mg_none_of X G z3,
  PySem.W.mg_none_of X G z4,
  PySem.W.mg_none_of X G z5,
  PySem.W.mg_none_of X G z6,
  PySem.W.mg_none_of X G z7,
  PySem.W.mg_none_of X G z8,
  PySem.W.mg_none_of X G z9,
  PySem.W.mg_none_of X G z10,
  PySem.W.mg_of X G ca0,⟨pg0,hd0,po0,sa0⟩,⟨mk0,a40,i40,kc0⟩,
  na0_0,
  PySem.W.mg_of X G va0,rfl,fun H=>.inr ⟨_,_,_,vl0,rfl,rfl,(by show 2 <= sizeLine; decide),.cons ⟨_,rfl⟩ (.cons ⟨_,rfl⟩ (.nil))⟩,
  PySem.W.mg_of X G va1,⟨t1,rfl⟩,
  PySem.W.mg_of X G va2,⟨t2,rfl⟩,
  PySem.W.mg_of X G va3,⟨t3,rfl⟩,
  PySem.W.mg_of X G va4,⟨t4,rfl⟩,
  PySem.W.mg_of X G va5,⟨t5,rfl⟩,
  PySem.W.mg_of X G va6,⟨t6,rfl⟩,
  PySem.W.mg_of X G va7,⟨t7,rfl⟩,
  PySem.W.mg_of X G va8,⟨t8,rfl⟩,
  PySem.W.mg_of X G va9,⟨t9,rfl⟩,
  PySem.W.mg_of X G va10,⟨t10,rfl⟩,
  PySem.W.mg_of X G va11,⟨t11,rfl⟩,
  PySem.W.mg_of X G va12,⟨t12,rfl⟩,
  PySem.W.mg_of X G va13,⟨t13,rfl⟩,
  PySem.W.mg_of X G va14,⟨t14,rfl⟩,
  PySem.W.mg_of X G va15,⟨t15,rfl⟩,
  PySem.W.mg_of X G va16,⟨t16,rfl⟩,
  PySem.W.mg_of X G va17,⟨t17,rfl⟩,
  PySem.W.mg_of X G va18,rfl,fun H=>.inr ⟨_,_,_,vl18,rfl,rfl,(by show 4 <= sizeLine; decide),.cons ⟨_,rfl⟩ (.cons ⟨_,rfl⟩ (.cons ⟨_,rfl⟩ (.cons ⟨_,rfl⟩ (.nil))))⟩,
  PySem.W.mg_of X G va19,rfl,⟨[(110,.ref w19_0),(116,.ref w19_1),(102,.ref w19_2)],⟨vm19,by simp,_,_,vl19,.cons ⟨rfl,⟨_,rfl⟩,rfl⟩ (.cons ⟨rfl,⟨_,rfl⟩,rfl⟩ (.cons ⟨rfl,⟨_,rfl⟩,rfl⟩ (.nil)))⟩,.cons ⟨rfl,fun _=>by unfold Rep; exact ⟨_,[.int 117,.int 108,.int 108],rfl,.inr ⟨_,_,_,wl19_0,rfl,rfl,(by show 3 <= sizeLine; decide),.cons ⟨_,rfl⟩ (.cons ⟨_,rfl⟩ (.cons ⟨_,rfl⟩ (.nil)))⟩,b8.ints (ns:=[117,108,108])⟩⟩ (.cons ⟨rfl,fun _=>by unfold Rep; exact ⟨_,[.int 114,.int 117,.int 101],rfl,.inr ⟨_,_,_,wl19_1,rfl,rfl,(by show 3 <= sizeLine; decide),.cons ⟨_,rfl⟩ (.cons ⟨_,rfl⟩ (.cons ⟨_,rfl⟩ (.nil)))⟩,b8.ints (ns:=[114,117,101])⟩⟩ (.cons ⟨rfl,fun _=>by unfold Rep; exact ⟨_,[.int 97,.int 108,.int 115,.int 101],rfl,.inr ⟨_,_,_,wl19_2,rfl,rfl,(by show 4 <= sizeLine; decide),.cons ⟨_,rfl⟩ (.cons ⟨_,rfl⟩ (.cons ⟨_,rfl⟩ (.cons ⟨_,rfl⟩ (.nil))))⟩,b8.ints (ns:=[97,108,115,101])⟩⟩ (.nil)))⟩,
  PySem.W.mg_of X G va20,rfl,⟨[(34,.int 34),(92,.int 92),(47,.int 47),(98,.int 8),(102,.int 12),(110,.int 10),(114,.int 13),(116,.int 9)],⟨vm20,by simp,_,_,vl20,.cons ⟨rfl,⟨_,rfl⟩,⟨_,rfl⟩⟩ (.cons ⟨rfl,⟨_,rfl⟩,⟨_,rfl⟩⟩ (.cons ⟨rfl,⟨_,rfl⟩,⟨_,rfl⟩⟩ (.cons ⟨rfl,⟨_,rfl⟩,⟨_,rfl⟩⟩ (.cons ⟨rfl,⟨_,rfl⟩,⟨_,rfl⟩⟩ (.cons ⟨rfl,⟨_,rfl⟩,⟨_,rfl⟩⟩ (.cons ⟨rfl,⟨_,rfl⟩,⟨_,rfl⟩⟩ (.cons ⟨rfl,⟨_,rfl⟩,⟨_,rfl⟩⟩ (.nil))))))))⟩,.cons ⟨rfl,fun _=>by unfold Rep; rfl⟩ (.cons ⟨rfl,fun _=>by unfold Rep; rfl⟩ (.cons ⟨rfl,fun _=>by unfold Rep; rfl⟩ (.cons ⟨rfl,fun _=>by unfold Rep; rfl⟩ (.cons ⟨rfl,fun _=>by unfold Rep; rfl⟩ (.cons ⟨rfl,fun _=>by unfold Rep; rfl⟩ (.cons ⟨rfl,fun _=>by unfold Rep; rfl⟩ (.cons ⟨rfl,fun _=>by unfold Rep; rfl⟩ (.nil))))))))⟩,
  PySem.W.mg_of X G va21,⟨t21,rfl⟩,
  PySem.W.mg_of X G va22,rfl,fun H=>.inr ⟨_,_,_,vl22,rfl,rfl,(by show 5 <= sizeLine; decide),.cons ⟨_,rfl⟩ (.cons ⟨_,rfl⟩ (.cons ⟨_,rfl⟩ (.cons ⟨_,rfl⟩ (.cons ⟨_,rfl⟩ (.nil)))))⟩,
  PySem.W.mg_of X G va23,rfl,fun H=>.inr ⟨_,_,_,vl23,rfl,rfl,(by show 4 <= sizeLine; decide),.cons ⟨_,rfl⟩ (.cons ⟨_,rfl⟩ (.cons ⟨_,rfl⟩ (.cons ⟨_,rfl⟩ (.nil))))⟩⟩
 exact ⟨_,fun s v=>.of_eq rfl,fun base _ _=>(IH T).imp (DI fun ns h=>CY ns h)⟩
theorem walk {l:PySem.W.OpenLaw} {q:Program} {loose:List Str} {XP:(Str -> Option Value) -> Heap -> Prop} {YP:World -> Heap -> Prop} {d:DefRec} {K:Params -> PySem.W.Frag} (hn:l.most = some 63) (hdf:d.params.defaults = [])
  (hY:∀ (w:World) (h:Heap),YP w h -> (K w.params).In h)
  (F:∀ (w:World) (mg:Str -> Option Value) (fa:Addr) (h:Heap),(K w.params).In h -> h.Ns mainGlobals mg -> mg d.name = some (.ref fa) ->
    ∃ fd:FuncData,(∀ (s:Shared) (u:Value),BindsTo s fd ⟨[u],[]⟩ [("_law_script",u)]) /\ ∀ base:Heap,(K w.params).In base -> base.Ns mainGlobals mg -> cB l.prog w (K w.params) mg base (CXE l.prog w) 10 fa fd ["_law_script"] (wx (K w.params))):
  PySem.W.WalkO q loose XP YP l.row.toRowW d [] (fun f vs=>PySem.call f vs):=
 L2.Fe (n:=63) (k:=10) (x:="_law_script") (CX:=fun w=>CXE l.prog w) (sp:=fun w=>wx (K w.params)) hn (by decide) hdf ⟨rfl,by decide,by decide⟩ hY F (fun _ _ a ns hl _ hS=>⟨a,ns,rfl,hS,hl,fun _=>rfl⟩) fun _ _ _ _ _ z=>let ⟨_,_,_,_,_,_,_,_,_,_,f⟩:=z; f
end L2.plainglass_k05_texts_taken
open PySem PySem.W PyProof.Rows
namespace PySem.W.Fast
def tw48839127445671964:=0
def tw3313060950256467113:=0
def tw5568563625031946219:=0
def tw9901718638099333068:=0
def tw6875908563963473809:=0
def tw3962193664212632569:=0
def tw13985208388469007167:=0
def tw3472618799935050275:=0
def tw1474430021352780051:=0
def tw1531160171607306836:=0
def tw6698227132835910497:=0
def tw12768772779752285052:=0
def tw1146301161445516200:=0
def tw6267732133641631422:=0
def tw63749364103734984:=0
def tw3579580254364196513:=0
def tw2828154350112814324:=0
def tw18072956464886501328:=0
def tw4465082505621033719:=0
def tw5862716006150788215:=0
def tw14917117037817270939:=0
def tw16765501564234854461:=0
def tw10681331858216846018:=0
def tw10862581564796179398:=0
def tw4141322630956481042:=0
def tw17521491449831219000:=0
def tw5954744582061353698:=0
def tw5376420508090689796:=0
def tw6907837675604645978:=0
def tw13158516850361116481:=0
def tw11286595253345042061:=0
def tw5061898670286578498:=0
def tw18071201056839619637:=0
def tw14584182217267589695:=0
def tw5918586782672910754:=0
def tw16167701618129104641:=0
def tw5646497924091447405:=0
def tw9632750027700535263:=0
def tw1243512134649820040:=0
def tw8970436240296287591:=0
def tw3151762277961888993:=0
def tw6172094770612026996:=0
def tw6508373447117644333:=0
def tw7204128330769178673:=0
def tw13515741678002059258:=0
def tw4791242140720784343:=0
def tw5106766433758813971:=0
def tw11972591524559737577:=0
def tw15487074531556254540:=0
def tw11894811827516090037:=0
def tw10342533077414547772:=0
def tw8376467337596371685:=0
def tw18268612094538312620:=0
def tw8548723323803322552:=0
def tw7673218431599848399:=0
def tw1231131014665575268:=0
def tw6873913956514247708:=0
def tw8733438173825866277:=0
def tw13756436654691118131:=0
def tw15567311753986485124:=0
def tw5064107225341408056:=0
def tw4682583746347959081:=0
def tw16870851854521963442:=0
def tw13305456967010622014:=0
def tw10686934586410134183:=0
def tw1076999122661567543:=0
def tw11975285277705394710:=0
def tw7267554151662855960:=0
def tw14730794832658587191:=0
def tw1007365213995516750:=0
def tw14542913692060461012:=0
def tw622315831621233917:=0
def tw9578074945550877866:=0
def tw9732010481407337813:=0
def tw11801175226939581398:=0
def tw13066123224919005327:=0
def tw12827728424665717824:=0
def tw2866068585618648643:=0
def tw5506807054452732110:=0
def tw3539941861269316375:=0
def tw798705012277295611:=0
def tw13393223003272565919:=0
def tw10352347378382480330:=0
def tw11040794808232481152:=0
def tw1254431204843230331:=0
def tw15858004656952165418:=0
def tw14647198775798185182:=0
def tw13868203931834411220:=0
end PySem.W.Fast
set_option maxRecDepth 100000 in
set_option maxHeartbeats 0 in
theorem PySem.Challenge.cw_plainglass_k05_texts_taken_holds : PySem.Challenge.rw_plainglass_k05_texts_taken.Holds := by
 w_on; o_law; k_head; (case hw=>w_witness2)
 k_fill
 refine L2.plainglass_k05_texts_taken.walk (l:=PySem.Challenge.rw_plainglass_k05_texts_taken) rfl rfl (fun w h Y=>PySem.W.kIn_of Y) ?F
 case F=>
  intro w mg fa h KX G hmg
  refine' L2.plainglass_k05_texts_taken.all_mk KX G hmg (L2.E.dw ?a0 ?l0 ?c0 ?k0) (L2.E.dw ?a1 ?l1 ?c1 ?k1) (L2.E.dw ?a2 ?l2 ?c2 ?k2) (L2.E.dw ?a3 ?l3 ?c3 ?k3) (L2.E.dw ?a4 ?l4 ?c4 ?k4) (L2.E.dw ?a5 ?l5 ?c5 ?k5) (L2.E.dw ?a6 ?l6 ?c6 ?k6) (L2.E.dw ?a7 ?l7 ?c7 ?k7) (L2.E.dw ?a8 ?l8 ?c8 ?k8) (L2.E.dw ?a9 ?l9 ?c9 ?k9) (L2.E.dw ?a10 ?l10 ?c10 ?k10) (L2.E.dw ?a11 ?l11 ?c11 ?k11) (L2.E.dw ?a12 ?l12 ?c12 ?k12) (L2.E.dw ?a13 ?l13 ?c13 ?k13) (L2.E.dw ?a14 ?l14 ?c14 ?k14) (L2.E.dw ?a15 ?l15 ?c15 ?k15) (L2.E.dw ?a16 ?l16 ?c16 ?k16) (L2.E.dw ?a17 ?l17 ?c17 ?k17) (L2.E.dw ?a18 ?l18 ?c18 ?k18) (L2.E.dw ?a19 ?l19 ?c19 ?k19) (L2.E.dw ?a20 ?l20 ?c20 ?k20) (L2.E.dw ?a21 ?l21 ?c21 ?k21) (L2.E.dw ?a22 ?l22 ?c22 ?k22) (L2.E.dw ?a23 ?l23 ?c23 ?k23) (L2.E.dw ?a24 ?l24 ?c24 ?k24) (L2.E.dw ?a25 ?l25 ?c25 ?k25) (L2.E.dw ?a26 ?l26 ?c26 ?k26) (L2.E.dw ?a27 ?l27 ?c27 ?k27) (L2.E.dw ?a28 ?l28 ?c28 ?k28) (L2.E.dw ?a29 ?l29 ?c29 ?k29) (L2.E.dw ?a30 ?l30 ?c30 ?k30) (L2.E.dw ?a31 ?l31 ?c31 ?k31) (L2.E.dw ?a32 ?l32 ?c32 ?k32) (L2.E.dw ?a33 ?l33 ?c33 ?k33) (L2.E.dw ?a34 ?l34 ?c34 ?k34) (L2.E.dw ?a35 ?l35 ?c35 ?k35) (L2.E.dw ?a36 ?l36 ?c36 ?k36) (L2.E.dw ?a37 ?l37 ?c37 ?k37) (L2.E.dw ?a38 ?l38 ?c38 ?k38) ?a39 ?l39 ?c39 ?k39 ?a40 ?i40 ?l40 ?c40 ?k40 ?a41 ?i41 ?l41 ?c41 ?k41 ?a42 ?i42 ?l42 ?c42 ?k42 ?a43 ?i43 ?l43 ?c43 ?k43 ?a44 ?i44 ?l44 ?c44 ?k44 ?z0 ?z1 ?z2 ?z3 ?z4 ?z5 ?z6 ?z7 ?z8 ?z9 ?z10 ?ca0 ?pg0 ?hd0 ?po0 ?sa0 ?mk0 ?kc0 ?na0_0 ?va0 ?vl0 ?va1 ?va2 ?va3 ?va4 ?va5 ?va6 ?va7 ?va8 ?va9 ?va10 ?va11 ?va12 ?va13 ?va14 ?va15 ?va16 ?va17 ?va18 ?vl18 ?va19 ?vl19 ?wl19_0 ?wl19_1 ?wl19_2 ?vm19 ?va20 ?vl20 ?vm20 ?va21 ?va22 ?vl22 ?va23 ?vl23
  (case ca0 | a0 | l0 | c0 | k0 | a1 | l1 | c1 | k1 | a2 | l2 | c2 | k2 | a3 | l3 | c3 | k3 | a4 | l4 | c4 | k4 | a5 | l5 | c5 | k5 | a6 | l6 | c6 | k6 | a7 | l7 | c7 | k7 | a8 | l8 | c8 | k8 | a9 | l9 | c9 | k9 | a10 | l10 | c10 | k10 | a11 | l11 | c11 | k11 | a12 | l12 | c12 | k12 | a13 | l13 | c13 | k13 | a14 | l14 | c14 | k14 | a15 | l15 | c15 | k15 | a16 | l16 | c16 | k16 | a17 | l17 | c17 | k17 | a18 | l18 | c18 | k18 | a19 | l19 | c19 | k19 | a20 | l20 | c20 | k20 | a21 | l21 | c21 | k21 | a22 | l22 | c22 | k22 | a23 | l23 | c23 | k23 | a24 | l24 | c24 | k24 | a25 | l25 | c25 | k25 | a26 | l26 | c26 | k26 | a27 | l27 | c27 | k27 | a28 | l28 | c28 | k28 | a29 | l29 | c29 | k29 | a30 | l30 | c30 | k30 | a31 | l31 | c31 | k31 | a32 | l32 | c32 | k32 | a33 | l33 | c33 | k33 | a34 | l34 | c34 | k34 | a35 | l35 | c35 | k35 | a36 | l36 | c36 | k36 | a37 | l37 | c37 | k37 | a38 | l38 | c38 | k38 | a39 | l39 | c39 | k39 | a40 | i40 | l40 | c40 | k40 | a41 | i41 | l41 | c41 | k41 | a42 | i42 | l42 | c42 | k42 | a43 | i43 | l43 | c43 | k43 | a44 | i44 | l44 | c44 | k44 | z0 | z1 | z2 | z3 | z4 | z5 | z6 | z7 | z8 | z9 | z10 | pg0 | hd0 | po0 | sa0 | mk0 | kc0 | na0_0 | va0 | vl0 | va1 | va2 | va3 | va4 | va5 | va6 | va7 | va8 | va9 | va10 | va11 | va12 | va13 | va14 | va15 | va16 | va17 | va18 | vl18 | va19 | vl19 | wl19_0 | wl19_1 | wl19_2=>k_is)
  (case vm19=>first | decide | rfl)
  (case va20 | vl20=>k_is)
  (case vm20=>first | decide | rfl)
  (case va21 | va22 | vl22 | va23 | vl23=>k_is)
