import PyProof.Rows.All
import Wide.All
import OpenK.AllK
import Wide.FinOn
import Lean
import PyProof.EqAt
import PyProof.EqKinds
import PyProof.TupleCall
import PySem.Challenge.RW_plainglass_k16_texts_told
set_option Elab.async false
set_option linter.all false
set_option maxRecDepth 100000
namespace L2
open PySem PySem.Spec PyProof.Rows
abbrev Key:=Sum Int Str
noncomputable def uA:Key -> Value -> Bool
 | .inl k,v=>Value.isInt k v
 | .inr x,v=>Value.isStrOf x v
noncomputable def La (w:World):Key -> Int
 | .inl k=>hashInt k
 | .inr x=>hashStr w x
theorem fz:∀ {k:Key} {v:Value},uA k v = true -> (∃ i t,k = Sum.inl i /\ v = Value.int i t) \/ (∃ x t,k = Sum.inr x /\ v = Value.str x t)
 | .inl i,v,h=>by
   obtain ⟨t,e⟩:=Value.isInt_shape (k:=i) (v:=v) h
   exact .inl ⟨i,t,rfl,e⟩
 | .inr x,v,h=>by
   obtain ⟨t,e⟩:=Value.isStrOf_shape (x:=x) (v:=v) h
   exact .inr ⟨x,t,rfl,e⟩
theorem Ao (i:Int) (t:Tok):uA (.inl i) (.int i t) = true:=by simp [uA,Value.isInt]
theorem AG (x:Str) (t:Tok):uA (.inr x) (.str x t) = true:=by simp [uA,Value.isStrOf]
theorem Ij (a b:Int):decide ((Sum.inl a:Key) = Sum.inl b) = (a == b):=by
 by_cases e:a = b
 . subst e; simp
 . have h:¬ (Sum.inl a:Key) = Sum.inl b:=fun q=>e (Sum.inl.inj q)
   rw [decide_eq_false h]
   exact (beq_eq_false_iff_ne.mpr e).symm
theorem IH (a b:Str):decide ((Sum.inr a:Key) = Sum.inr b) = decide (a = b):=by
 by_cases e:a = b
 . subst e; simp
 . have h:¬ (Sum.inr a:Key) = Sum.inr b:=fun q=>e (Sum.inr.inj q)
   rw [decide_eq_false h,decide_eq_false e]
theorem Ii (a:Int) (b:Str):decide ((Sum.inl a:Key) = Sum.inr b) = false:=decide_eq_false (fun q=>nomatch q)
theorem GL (a:Str) (b:Int):decide ((Sum.inr a:Key) = Sum.inl b) = false:=decide_eq_false (fun q=>nomatch q)
noncomputable def gB (prog:Program) (w:World):PySem.KeyKind prog w Key where
 is:=uA
 hash:=La w
 inj:=fun v a b ha hb=>by
  rcases fz ha with ⟨i,t,rfl,rfl⟩ | ⟨x,t,rfl,rfl⟩
  . rcases fz hb with ⟨j,u,rfl,e⟩ | ⟨y,u,rfl,e⟩
    . injection e with e1 _; rw [e1]
    . exact nomatch e
  . rcases fz hb with ⟨j,u,rfl,e⟩ | ⟨y,u,rfl,e⟩
    . exact nomatch e
    . injection e with e1 _; rw [e1]
 byValue:=fun k v h=>by
  rcases fz h with ⟨i,t,rfl,rfl⟩ | ⟨x,t,rfl,rfl⟩ <;> rfl
 pyHash:=fun hv h=>by
  rcases fz hv with ⟨i,t,rfl,rfl⟩ | ⟨x,t,rfl,rfl⟩
  . exact wpAny_pyHash_int h
  . exact wpAny_pyHash_str h
 eqBool:=fun hu hv h=>by
  rcases fz hu with ⟨i,t,rfl,rfl⟩ | ⟨x,t,rfl,rfl⟩
  . rcases fz hv with ⟨j,u,rfl,rfl⟩ | ⟨y,u,rfl,rfl⟩
    . rw [Ij] at h; exact wpAny_eqBool_int h
    . rw [Ii] at h; exact SeqAt.EqAt.int_str i t y u _ _ _ _ h
  . rcases fz hv with ⟨j,u,rfl,rfl⟩ | ⟨y,u,rfl,rfl⟩
    . rw [GL] at h; exact SeqAt.EqAt.str_int x t j u _ _ _ _ h
    . rw [IH] at h; exact wpAny_eqBool_str h
 «strs»:=fun k x t v h=>by
  rcases fz h with ⟨i,u,rfl,e⟩ | ⟨y,u,rfl,e⟩
  . exact nomatch e
  . injection e with e1 _
    subst e1
    cases v <;> rfl
theorem xx (prog:Program) (w:World) (i:Int) (t:Tok):(gB prog w).is (.inl i) (.int i t) = true:=Ao i t
theorem xj (prog:Program) (w:World) (x:Str) (t:Tok):(gB prog w).is (.inr x) (.str x t) = true:=AG x t
end L2
namespace L2
open PySem PySem.Spec PyProof.Rows
inductive V where
 | non | bl (b:Bool) | int (i:Int) | str (x:Str) | byt (b:Array UInt8) | flt (b:UInt64) | ref (a:Addr) | ty (n:String)
 deriving DecidableEq
noncomputable def RelV:V -> Value -> Prop
 | .non,u=>u = Value.none
 | .bl b,u=>u = Value.bool b
 | .int i,u=>∃ t,u = Value.int i t
 | .str x,u=>∃ t,u = Value.str x t
 | .byt b,u=>∃ t,u = Value.bytes b t
 | .flt b,u=>∃ t,u = Value.float b t
 | .ref a,u=>u = Value.ref a
 | .ty n,u=>u = Value.type n
abbrev Vals:List V -> List Value -> Prop:=Paired RelV
theorem Vals.length {xs:List V} {us:List Value} (r:Vals xs us):xs.length = us.length:=Paired.length r
theorem Vals.get:∀ {xs:List V} {us:List Value} {i:Nat} {x:V},Vals xs us -> xs[i]? = some x -> ∃ u,us[i]? = some u /\ RelV x u
 | _,_,_,_,.nil,e=>by simp at e
 | _,_,0,_,.cons r _,e=>by simp at e; subst e; exact ⟨_,rfl,r⟩
 | _,_,i + 1,x,.cons _ t,e=>by
   obtain ⟨u,h1,h2⟩:=Vals.get (i:=i) (x:=x) t (by simpa using e)
   exact ⟨u,by simpa using h1,h2⟩
theorem Vals.set {x:V} {u:Value} (r:RelV x u):∀ {xs:List V} {us:List Value} (i:Nat),Vals xs us -> Vals (xs.set i x) (us.set i u)
 | _,_,_,.nil=>.nil
 | _,_,0,.cons _ t=>.cons r t
 | _,_,i + 1,.cons q t=>.cons q (Vals.set r i t)
theorem Vals.append:∀ {xs ys:List V} {us ws:List Value},Vals xs us -> Vals ys ws -> Vals (xs ++ ys) (us ++ ws)
 | _,_,_,_,.nil,s=>s
 | _,_,_,_,.cons r t,s=>.cons r (Vals.append t s)
theorem Vals.take:∀ {xs:List V} {us:List Value} (n:Nat),Vals xs us -> Vals (xs.take n) (us.take n)
 | _,_,0,_=>.nil
 | _,_,_ + 1,.nil=>.nil
 | _,_,n + 1,.cons r t=>.cons r (Vals.take n t)
theorem Vals.drop:∀ {xs:List V} {us:List Value} (n:Nat),Vals xs us -> Vals (xs.drop n) (us.drop n)
 | _,_,0,r=>r
 | _,_,_ + 1,.nil=>.nil
 | _,_,n + 1,.cons _ t=>Vals.drop n t
noncomputable def bI:Option V -> Option Value -> Prop
 | some v,some u=>RelV v u
 | none,none=>True
 | _,_=>False
noncomputable def KV {κ:Type}:List (κ × V) -> List (κ × Value) -> Prop:=Paired fun (p:κ × V) (q:κ × Value)=>p.1 = q.1 /\ RelV p.2 q.2
noncomputable def kV:Key -> V
 | .inl i=>.int i
 | .inr x=>.str x
inductive HO where
  | lst (xs:List V)
  | tup (xs:List V)
  | dK (kvs:List (Key × V)) | dT (kvs:List (List Key × V))
  | set (S:Int -> Bool) (n:Nat)
  | ins (C dx:Addr) (fs:List (Str × V))
  | own (x:Addr)
  | xd (fs:List (Str × V))
  | met (f x:Addr)
  | rng (lo hi:Int)
  | frz (o:Obj) (u:HO)
  | tbl (ps:Array Value)
  | ext (φ:Heap -> Prop)
abbrev Hp:=Addr -> Option HO
noncomputable def upd (H:Hp) (a:Addr) (o:HO):Hp:=fun b=>if b = a then some o else H b
theorem bc {H:Hp} {a:Addr} {o:HO}:upd H a o a = some o:=by unfold upd; rw [if_pos rfl]
theorem bb {H:Hp} {a b:Addr} {o:HO} (h:b ≠ a):upd H a o b = H b:=by unfold upd; rw [if_neg h]
theorem D5 {H:Hp} {a:Addr} {o u:HO}:upd (upd H a o) a u = upd H a u:=by
 funext b; unfold upd; split <;> rfl
theorem cQ {H:Hp} {a b:Addr} {o:HO} (h:H a = some o) (h':H b = none):a ≠ b:=by
 intro e; subst e; rw [h] at h'; cases h'
section
variable (P:Program) (w:World)
noncomputable def fY (H:Hp) (h:Heap) (a:Addr):HO -> Prop
 | .lst xs=>xs.length <= sizeLine /\ ∃ (its:List Value) (n:Nat),Vals xs its /\ h.get? a = some { cls:=.type "list",data:=.seq its.toArray n }
 | .tup xs=>xs.length <= sizeLine /\ ∃ its:List Value,Vals xs its /\ IsTup h a its.toArray
 | .dK kvs=>kvs.length <= sizeLine /\ (a == sysModules) = false /\ ∃ vs,KV kvs vs /\ h.DictOf (gB P w) a vs
 | .dT kvs=>kvs.length <= sizeLine /\ (a == sysModules) = false /\ ∃ xs:List (List Key × Addr × Value),
    Paired (fun (p:List Key × V) (q:List Key × Addr × Value)=>p.1 = q.1 /\ H q.2.1 = some (.tup (p.1.map kV)) /\ RelV p.2 q.2.2) kvs xs /\
    ∃ o es ep,h.get? a = some o /\ o.ExactDict /\ o.data = .dict es ep /\ es.toList = xs.map (entryOfKey (tupleKind (gB P w))) /\ (xs.map (·.1)).Nodup
 | .set S n=>h.SetOf (intKind P w) a S n
 | .ins C dx fs=>H dx = some (.own a) /\ fs.length <= 1000 /\ dx ≠ a /\ h.get? a = some (PySem.W.instObj C dx) /\
    ∃ mA,h.Ns1 dx mA /\ (∀ f,bI (fs.lookup f) (mA f)) /\ PySem.Within mA (fs.map (·.1))
 | .own _=>∃ o,h.get? a = some o
 | .xd fs=>∃ mA,h.Ns1 a mA /\ ∀ f,bI (fs.lookup f) (mA f)
 | .rng lo hi=>∃ t u v,h.get? a = some { cls:=.type "range",data:=.fields #[.int lo t,.int hi u,.int 1 v] }
 | .frz o u=>h.get? a = some o /\ fY H h a u
 | .tbl ps=>h.get? a = some { cls:=.none,data:=.fields ps }
 | .met f x=>h.get? a = some (PySem.W.methodObj (.ref f) (.ref x))
 | .ext φ=>φ h /\ (∃ o,h.get? a = some o) /\ ∀ h1 h2:Heap,φ h1 -> (∀ o,h1.get? a = some o -> h2.get? a = some o) -> φ h2
noncomputable def HOk (H:Hp) (h:Heap):Prop:=∀ a o,H a = some o -> fY P w H h a o
end
section
variable {P:Program} {w:World} {H H':Hp} {h h':Heap} {a:Addr} {o:HO}
theorem fY.lt (x:fY P w H h a o):a < h.objs.size:=by
 cases o with
 | lst xs=>obtain ⟨_,_,_,_,e⟩:=x; exact Heap.lt_size e
 | tup xs=>obtain ⟨_,_,_,p⟩:=x; exact p.lt
 | dK kvs=>obtain ⟨_,_,_,_,o,_,_,e,_⟩:=x; exact Heap.lt_size e
 | dT kvs=>obtain ⟨_,_,_,_,o,_,_,e,_⟩:=x; exact Heap.lt_size e
 | set S n=>obtain ⟨o,_,_,_,e,_⟩:=x; exact Heap.lt_size e
 | ins C dx fs=>obtain ⟨_,_,_,e,_⟩:=x; exact Heap.lt_size e
 | own y=>obtain ⟨_,e⟩:=x; exact Heap.lt_size e
 | xd fs=>obtain ⟨_,⟨_,_,_,e,_⟩,_⟩:=x; exact Heap.lt_size e
 | rng lo hi=>obtain ⟨_,_,_,e⟩:=x; exact Heap.lt_size e
 | frz ob u=>obtain ⟨e,_⟩:=x; exact Heap.lt_size e
 | tbl ps=>exact Heap.lt_size (show h.get? a = some _ from x)
 | met f y=>exact Heap.lt_size (show h.get? a = some _ from x)
 | ext φ=>obtain ⟨_,⟨_,e⟩,_⟩:=x; exact Heap.lt_size e
theorem Paired.Io {α β:Type} {F G:α -> β -> Prop}:∀ {l₁:List α} {l₂:List β},Paired F l₁ l₂ -> (∀ a b,F a b -> G a b) -> Paired G l₁ l₂
 | _,_,.nil,_=>.nil
 | _,_,.cons r t,f=>.cons (f _ _ r) (Paired.Io t f)
theorem fY.o6 (x:fY P w H h a o) (k:∀ b u,(b = a \/ H b = some (.own a)) -> h.get? b = some u -> h'.get? b = some u)
  (ho:∀ b,H b = some (.own a) -> H' b = some (.own a)) (ht:∀ b xs,H b = some (.tup xs) -> H' b = some (.tup xs)):fY P w H' h' a o:=by
 induction o with
 | lst xs=>obtain ⟨z,its,n,r,e⟩:=x; exact ⟨z,its,n,r,k _ _ (.inl rfl) e⟩
 | tup xs=>obtain ⟨z,its,r,ob,e,c⟩:=x; exact ⟨z,its,r,ob,k _ _ (.inl rfl) e,c⟩
 | dK kvs=>obtain ⟨z,y,vs,r,ob,es,ep,e,c⟩:=x; exact ⟨z,y,vs,r,ob,es,ep,k _ _ (.inl rfl) e,c⟩
 | dT kvs=>
   obtain ⟨z,y,xs,r,ob,es,ep,e,c⟩:=x
   exact ⟨z,y,xs,Paired.Io r fun p q z=>⟨z.1,ht _ _ z.2.1,z.2.2⟩,ob,es,ep,k _ _ (.inl rfl) e,c⟩
 | set S n=>obtain ⟨ob,es,ep,t,e,c⟩:=x; exact ⟨ob,es,ep,t,k _ _ (.inl rfl) e,c⟩
 | ins C dx fs=>
   obtain ⟨d,z,ne,e,mA,⟨od,es,ep,e2,c⟩,r⟩:=x
   exact ⟨ho _ d,z,ne,k _ _ (.inl rfl) e,mA,⟨od,es,ep,k _ _ (.inr d) e2,c⟩,r⟩
 | own y=>obtain ⟨ob,e⟩:=x; exact ⟨ob,k _ _ (.inl rfl) e⟩
 | xd fs=>obtain ⟨mA,⟨od,es,ep,e,c⟩,r⟩:=x; exact ⟨mA,⟨od,es,ep,k _ _ (.inl rfl) e,c⟩,r⟩
 | rng lo hi=>obtain ⟨t,u,v,e⟩:=x; exact ⟨t,u,v,k _ _ (.inl rfl) e⟩
 | frz ob u ih=>obtain ⟨e,q⟩:=x; exact ⟨k _ _ (.inl rfl) e,ih q⟩
 | tbl ps=>
   have e:h.get? a = some { cls:=.none,data:=.fields ps }:=x
   show h'.get? a = some { cls:=.none,data:=.fields ps }
   exact k a _ (.inl rfl) e
 | met f y=>
   have e:h.get? a = some (PySem.W.methodObj (.ref f) (.ref y)):=x
   show h'.get? a = some (PySem.W.methodObj (.ref f) (.ref y))
   exact k a _ (.inl rfl) e
 | ext φ=>obtain ⟨p,⟨o,e⟩,st⟩:=x; exact ⟨st _ _ p fun o q=>k _ _ (.inl rfl) q,⟨o,k _ _ (.inl rfl) e⟩,st⟩
theorem HOk.lt (x:HOk P w H h) (e:H a = some o):a < h.objs.size:=(x a o e).lt
theorem HOk.fresh (x:HOk P w H h) (e:h.objs.size <= a):H a = none:=by
 cases q:H a with
 | none=>rfl
 | some u=>exact absurd (Nat.lt_of_lt_of_le (x.lt q) e) (Nat.lt_irrefl _)
theorem HOk.kept (x:HOk P w H h) (k:∀ b u,h.get? b = some u -> h'.get? b = some u):HOk P w H h':=fun a o e=>
 (x a o e).o6 (fun b u _ q=>k b u q) (fun _ q=>q) fun _ _ q=>q
theorem HOk.laid (x:HOk P w H h) (k:∀ b u,h.get? b = some u -> h'.get? b = some u) (hp:h.objs.size <= a) (new:fY P w (upd H a o) h' a o):HOk P w (upd H a o) h':=fun b u e=>by
 have hn:=x.fresh hp
 by_cases hb:b = a
 . subst hb; rw [bc] at e; cases e; exact new
 . rw [bb hb] at e
   exact (x b u e).o6 (fun c v _ q=>k c v q) (fun c q=>by rw [bb (cQ q hn)]; exact q) fun c xs q=>by rw [bb (cQ q hn)]; exact q
end
noncomputable def Rd (H:Hp) (a:Addr) (u:HO):Prop:=H a = some u \/ ∃ o,H a = some (.frz o u)
theorem Rd.ok {P:Program} {w:World} {H:Hp} {h:Heap} {a:Addr} {u:HO} (r:Rd H a u) (x:HOk P w H h):fY P w H h a u:=by
 rcases r with r | ⟨o,r⟩
 . exact x a u r
 . obtain ⟨_,q⟩:=x a _ r
   exact q
noncomputable def Mut:Option HO -> Prop
 | some (.lst _)=>True
 | some (.dK _)=>True
 | some (.dT _)=>True
 | some (.set _ _)=>True
 | some (.ins _ _ _)=>True
 | some (.ext _)=>True
 | _=>False
section
variable {P:Program} {w:World} {H:Hp} {h h':Heap} {x e:Addr} {o':HO}
theorem HOk.write (ok:HOk P w H h) (mu:Mut (H x)) (he:e = x \/ H e = some (.own x)) (k:∀ b u,b ≠ e -> h.get? b = some u -> h'.get? b = some u) (heo:∃ u,h'.get? e = some u)
  (new:fY P w (upd H x o') h' x o'):HOk P w (upd H x o') h':=fun b u q=>by
 have nown:∀ c y,H c = some (.own y) -> c ≠ x:=fun c y r z=>by subst z; rw [r] at mu; exact mu
 have ntup:∀ c xs,H c = some (.tup xs) -> c ≠ x:=fun c xs r z=>by subst z; rw [r] at mu; exact mu
 by_cases hb:b = x
 . subst hb; rw [bc] at q; cases q; exact new
 . rw [bb hb] at q
   by_cases hbe:b = e
   . have q':H b = some (.own x):=by
      rcases he with z | z
      . exact absurd (hbe.trans z) hb
      . rw [hbe]; exact z
     rw [q] at q'; cases q'
     obtain ⟨v,hv⟩:=heo
     exact ⟨v,by rw [hbe]; exact hv⟩
   . refine (ok b u q).o6 (fun c v hc r=>k c v ?_ r) (fun c r=>by rw [bb (nown c b r)]; exact r) fun c xs r=>by rw [bb (ntup c xs r)]; exact r
     rcases hc with rfl | hc
     . exact hbe
     . rintro rfl
       rcases he with z | z
       . exact nown c b hc z
       . rw [hc] at z; cases z; exact hb rfl
end
structure Un (fs ex:List Addr) (H H':Hp) (h h':Heap):Prop where
 keep:∀ b o,h.get? b = some o -> H b = none -> b ∉ fs -> b ∉ ex -> h'.get? b = some o
 slot:∀ b o,h.get? b = some o -> H b = none -> b ∈ fs -> b ∉ ex -> ∃ sl,h'.get? b = some { o with slots:=sl }
 free:∀ b o,h.get? b = some o -> H b = none -> b ∉ ex -> H' b = none
 there:∀ b o,h.get? b = some o -> b ∉ ex -> ∃ o',h'.get? b = some o'
 tups:∀ b xs,H b = some (.tup xs) -> H' b = some (.tup xs)
 frzs:∀ b o u,H b = some (.frz o u) -> H' b = some (.frz o u)
 tbls:∀ b ps,H b = some (.tbl ps) -> ∃ more,H' b = some (.tbl (ps ++ more))
section
variable {fs fs' ex ex':List Addr} {H H1 H2:Hp} {h h1 h2 h':Heap} {a x e:Addr} {o:HO}
theorem Un.any (u:Un fs ex H H1 h h1) {b:Addr} {ob:Obj} (q:h.get? b = some ob) (n:H b = none) (hx:b ∉ ex):∃ sl,h1.get? b = some { ob with slots:=sl }:=by
 by_cases hb:b ∈ fs
 . exact u.slot b ob q n hb hx
 . exact ⟨ob.slots,u.keep b ob q n hb hx⟩
theorem Un.kept (k:∀ b u,h.get? b = some u -> h'.get? b = some u):Un fs ex H H h h':=
 ⟨fun b ob q _ _ _=>k b ob q,fun b ob q _ _ _=>⟨ob.slots,k b ob q⟩,fun _ _ _ n _=>n,fun b ob q _=>⟨ob,k b ob q⟩,fun _ _ q=>q,fun _ _ _ q=>q,fun _ ps q=>⟨#[],by rw [q]; simp⟩⟩
theorem Un.refl:Un fs ex H H h h:=Un.kept fun _ _ q=>q
theorem Un.laid (k:∀ b u,h.get? b = some u -> h'.get? b = some u) (hp:h.objs.size <= a) (hn:H a = none):Un fs ex H (upd H a o) h h' where
 keep:=fun b u q _ _ _=>k b u q
 slot:=fun b u q _ _ _=>⟨u.slots,k b u q⟩
 free:=fun b u q n _=>by rw [bb (Nat.ne_of_lt (Nat.lt_of_lt_of_le (Heap.lt_size q) hp))]; exact n
 there:=fun b u q _=>⟨u,k b u q⟩
 tups:=fun b xs q=>by rw [bb (cQ q hn)]; exact q
 frzs:=fun b u xs q=>by rw [bb (cQ q hn)]; exact q
 tbls:=fun b ps q=>⟨#[],by rw [bb (cQ q hn),q]; simp⟩
theorem Un.write (mu:Mut (H x)) (he:e = x \/ H e = some (.own x)) (k:∀ b u,b ≠ e -> h.get? b = some u -> h'.get? b = some u) (heo:∃ u,h'.get? e = some u):Un fs ex H (upd H x o) h h':=by
 have hx:∀ b,H b = none -> b ≠ x:=fun b n z=>by subst z; rw [n] at mu; exact mu
 have hb:∀ b,H b = none -> b ≠ e:=fun b n z=>by
  subst z
  rcases he with r | r
  . exact hx b n r
  . rw [n] at r; cases r
 have hm:∀ b u,H b = some u -> ¬ Mut (some u) -> b ≠ x:=fun b u q nm z=>by subst z; rw [q] at mu; exact nm mu
 refine ⟨fun b u q n _ _=>k b u (hb b n) q,fun b u q n _ _=>⟨u.slots,k b u (hb b n) q⟩,fun b u q n _=>by rw [bb (hx b n)]; exact n,fun b u q _=>?_,
  fun b xs q=>by rw [bb (hm b _ q fun z=>z)]; exact q,fun b u xs q=>by rw [bb (hm b _ q fun z=>z)]; exact q,fun b ps q=>⟨#[],by rw [bb (hm b _ q fun z=>z),q]; simp⟩⟩
 by_cases hbe:b = e
 . subst hbe; exact heo
 . exact ⟨u,k b u hbe q⟩
end
noncomputable def trk (h:Heap) (H:Hp):List Addr:=(List.range h.objs.size).filter fun a=>(H a).isSome
noncomputable def v7 (h:Heap) (H:Hp):Heap:=PySem.W.hideAll h (trk h H)
theorem A1 (h:Heap) (H:Hp):(v7 h H).objs.size = h.objs.size:=PySem.W.hideAll_size _ _
theorem Cj {h:Heap} {H:Hp} {b:Addr} {o:Obj} (e:h.get? b = some o) (n:H b = none):(v7 h H).get? b = some o:=
 PySem.W.hideAll_get _ e fun hm=>by
  have q:(H b).isSome = true:=(List.mem_filter.mp hm).2
  rw [n] at q; simp at q
theorem Ey {h:Heap} {H:Hp} {b:Addr} {o:Obj} (e:(v7 h H).get? b = some o):h.get? b = some o /\ H b = none:=by
 have e':h.get? b = some o:=PySem.W.of_hideAll (trk h H) e
 refine ⟨e',?_⟩
 cases q:H b with
 | none=>rfl
 | some x=>
   have hm:b ∈ trk h H:=List.mem_filter.mpr ⟨List.mem_range.mpr (Heap.lt_size e'),by simp [q]⟩
   have z:(v7 h H).get? b = none:=PySem.W.hideAll_none (trk h H) hm
   rw [z] at e; cases e
noncomputable def D6 (g h:Heap) (L:Addr):List (Addr × Obj):=(List.range h.objs.size).filterMap fun a=>if a = L \/ (g.get? a).isSome = true then none else (h.get? a).map fun o=>(a,o)
noncomputable def rest (g h:Heap) (L d:Addr):List (Addr × Obj):=(D6 g h L).filter fun p=>decide (p.1 ≠ d)
end L2
namespace L2
open PySem PySem.Spec PyProof.Rows
structure Mod (K:PySem.W.Frag) (mg:Str -> Option Value) (base:Heap):Prop where
 kin:K.In base
 glob:base.Ns mainGlobals mg
 blt:∃ mb,base.Ns builtinsNs mb /\ ∀ x:Str,x ≠ "__name__" -> mb x = bootBuiltins x
 nolimit:base.NoLimit
structure Cx where
 prog:Program
 w:World
 K:PySem.W.Frag
 mg:Str -> Option Value
 base:Heap
 A:Around
 N:List Str
 s₀:Shared
 H₀:Hp
 env:Env
 outer:List Env
 stack:List Env
 ex:List Addr
 fn:Str -> Bool
 calm:Bool
 pn:List (Addr × Obj)
 xe:Value -> Shared -> Prop
noncomputable def frs (l:List Env):List Addr:=l.filterMap (·.frame)
noncomputable abbrev Cx.fs (X:Cx):List Addr:=frs X.outer
noncomputable def Vis (sc:Scope) (x:Str):Prop:=sc.names.lookup x = some .local \/ sc.names.lookup x = some .cell \/ sc.names.lookup x = some .free
noncomputable def Loc (sc:Scope) (x:Str):Prop:=sc.names.lookup x = some .local \/ sc.names.lookup x = some .cell
noncomputable def Look (env:Env) (h:Heap) (m:Str -> Option Value) (x:Str) (u:Value):Prop:=
 (env.kindOf x = some .local /\ m x = some u) \/ ((env.kindOf x = some .cell \/ env.kindOf x = some .free) /\ ∃ c,env.cells.lookup x = some c /\ h.IsCell c (some u))
structure Cx.Ok (X:Cx):Prop where
 mod:Mod X.K X.mg X.base
 kind:X.env.scope.kind = .function
 glob:X.env.globals = mainGlobals
 blt:X.env.builtins = builtinsNs
 above:X.s₀.heap.objs.size <= X.env.locals
 inj:∀ x y c,X.env.cells.lookup x = some c -> X.env.cells.lookup y = some c -> x = y
 has:∀ x,(X.env.kindOf x = some .cell \/ X.env.kindOf x = some .free) -> ∃ c,X.env.cells.lookup x = some c
 cab:∀ x c,X.fn x = true -> X.env.cells.lookup x = some c -> X.s₀.heap.objs.size <= c
 hd:X.calm = true -> X.A.handled = none
 frames:X.A.frames = some X.stack
 stk:X.stack = X.outer \/ (X.stack = X.env ::X.outer /\ X.env.frame = some X.env.locals)
 exf:∀ b ∈ X.ex,b ≠ X.env.locals /\ ∀ x c,X.env.cells.lookup x = some c -> c ≠ b
 bs:∀ b o,X.base.get? b = some o -> X.s₀.heap.get? b = some o /\ X.H₀ b = none
 bsz:X.base.objs.size <= X.s₀.heap.objs.size
 noex:∀ b o,X.base.get? b = some o -> b ∉ X.ex
 exfs:∀ b ∈ X.ex,b ∉ X.fs
 qY:X.s₀.heap.FunFrames X.base X.outer
 frf:∀ b ∈ X.fs,X.H₀ b = none
structure Inv (X:Cx) (pins:List (Addr × Obj)) (σ:List (Option V)) (H:Hp) (s:Shared):Prop where
 ok:X.Ok
 os:s.os = X.s₀.os
 bare:AllBare s.gens
 base:Un X.fs X.ex X.H₀ H X.s₀.heap s.heap
 loc:∃ m,s.heap.Ns X.env.locals m /\ ∀ (i:Nat) (x:Str) (v:V),X.N[i]? = some x -> σ[i]? = some (some v) -> Vis X.env.scope x -> ∃ u,RelV v u /\ Look X.env s.heap m x u
 cell:∀ x c,X.env.cells.lookup x = some c -> ∃ v,s.heap.IsCell c v
 free:H X.env.locals = none
 freeC:∀ x c,X.env.cells.lookup x = some c -> H c = none
 pin:∀ p ∈ X.pn ++ pins,s.heap.get? p.1 = some p.2 /\ H p.1 = none /\ p.1 ≠ X.env.locals /\ p.1 ∉ X.fs /\ ∀ v,p.2.data ≠ .cell v
 hok:HOk X.prog X.w H s.heap
 len:σ.length = X.N.length
section
variable {X:Cx} {pins:List (Addr × Obj)} {σ:List (Option V)} {H H':Hp} {s:Shared} {h':Heap}
theorem Cx.Ok.LG (ok:X.Ok) {b:Addr} {o:Obj} (e:X.base.get? b = some o):b ∉ X.fs:=fun hb=>by
 have:=(ok.qY.mem hb).1
 rw [e] at this; cases this
theorem Inv.bs (I:Inv X pins σ H s):∀ b o,X.base.get? b = some o -> s.heap.get? b = some o /\ H b = none:=fun b o e=>
 ⟨I.base.keep b o (I.ok.bs b o e).1 (I.ok.bs b o e).2 (I.ok.LG e) (I.ok.noex b o e),I.base.free b o (I.ok.bs b o e).1 (I.ok.bs b o e).2 (I.ok.noex b o e)⟩
theorem Inv.bk (I:Inv X pins σ H s):∀ b o,X.base.get? b = some o -> s.heap.get? b = some o:=fun b o e=>(I.bs b o e).1
theorem Inv.mod (I:Inv X pins σ H s):Mod X.K X.mg X.base:=I.ok.mod
theorem Inv.kIn (I:Inv X pins σ H s):X.K.In s.heap:=I.ok.mod.kin.keeps I.bk
theorem Inv.nolimit (I:Inv X pins σ H s):s.heap.NoLimit:=I.ok.mod.nolimit.keeps I.bk
theorem Inv.lt (I:Inv X pins σ H s):X.env.locals < s.heap.objs.size:=let ⟨_,hn,_⟩:=I.loc; hn.lt
theorem Inv.sz (I:Inv X pins σ H s):X.s₀.heap.objs.size <= s.heap.objs.size:=Nat.le_trans I.ok.above (Nat.le_of_lt I.lt)
theorem Inv.KU (I:Inv X pins σ H s) {a:Addr} (h:s.heap.objs.size <= a):a ∉ X.fs:=fun hb=>by
 obtain ⟨_,o,ho,_⟩:=I.ok.qY.mem hb
 exact absurd (Nat.lt_of_lt_of_le (Heap.lt_size ho) (Nat.le_trans I.sz h)) (Nat.lt_irrefl _)
theorem Inv.cne (I:Inv X pins σ H s):∀ x c,X.env.cells.lookup x = some c -> c ≠ X.env.locals:=fun x c e z=>by
 obtain ⟨v,o,ho,hd⟩:=I.cell x c e
 obtain ⟨m,⟨o',es,ep,ho',hd',_⟩,_⟩:=I.loc
 rw [z,ho'] at ho; cases ho; rw [hd'] at hd; cases hd
theorem Inv.qY (I:Inv X pins σ H s):s.heap.FunFrames X.base X.outer:=by
 have all:∀ (l:List Env),(∀ b ∈ frs l,b ∈ X.fs) -> X.s₀.heap.FunFrames X.base l -> s.heap.FunFrames X.base l:=by
  intro l
  induction l with
  | nil=>intro _ _; trivial
  | cons env r ih=>
    intro hs hl
    obtain ⟨hk,⟨L,o,hf,hn,ho,hd⟩,hr⟩:=hl
    have hL:L ∈ X.fs:=hs L (by unfold frs; rw [List.filterMap_cons,hf]; exact List.mem_cons_self)
    obtain ⟨sl,e⟩:=I.base.slot L o ho (I.ok.frf L hL) hL fun z=>I.ok.exfs L z hL
    exact ⟨hk,⟨L,_,hf,hn,e,hd⟩,ih (fun b hb=>hs b (by unfold frs; rw [List.filterMap_cons,hf]; exact List.mem_cons_of_mem _ hb)) hr⟩
 exact all X.outer (fun _ hb=>hb) I.ok.qY
theorem Inv.stack (I:Inv X pins σ H s):s.heap.FunFrames X.base X.stack:=by
 rcases I.ok.stk with e | ⟨e,hf⟩
 . rw [e]; exact I.qY
 . rw [e]
   obtain ⟨m,hn,_⟩:=I.loc
   refine .cons (by rw [I.ok.kind]; decide) hf hn ?_ I.qY
   exact Heap.get?_none_of_le (Nat.le_trans I.ok.bsz I.ok.above)
theorem Inv.yj (I:Inv X pins σ H s):∀ b ∈ frs X.stack,b ∈ X.env.locals ::X.fs:=fun b hb=>by
 rcases I.ok.stk with e | ⟨e,hf⟩
 . rw [e] at hb; exact List.mem_cons_of_mem _ hb
 . rw [e] at hb
   unfold frs at hb
   rw [List.filterMap_cons,hf] at hb
   exact hb
theorem Inv.uZ (I:Inv X pins σ H s):∀ b ∈ frs X.stack,H b = none:=fun b hb=>by
 rcases List.mem_cons.mp (I.yj b hb) with e | hb
 . rw [e]; exact I.free
 . obtain ⟨_,o,ho,_⟩:=I.ok.qY.mem hb
   exact I.base.free b o ho (I.ok.frf b hb) fun z=>I.ok.exfs b z hb
theorem Inv.step {g':Array GenState} {t':Nat} {d':Drawn} {ch:List Addr} (I:Inv X pins σ H s)
  (hch:∀ b ∈ ch,(b ∈ X.ex \/ X.s₀.heap.objs.size <= b) /\ b ≠ X.env.locals /\ (∀ x c,X.env.cells.lookup x = some c -> c ≠ b) /\ ∀ p ∈ X.pn ++ pins,p.1 ≠ b)
  (keep:∀ b o,b ≠ X.env.locals -> b ∉ X.fs -> b ∉ ch -> s.heap.get? b = some o -> H b = none -> h'.get? b = some o)
  (slot:∀ b o,b ≠ X.env.locals -> b ∈ X.fs -> b ∉ ch -> s.heap.get? b = some o -> H b = none -> ∃ sl,h'.get? b = some { o with slots:=sl }) (free:∀ b o,b ∉ ch -> s.heap.get? b = some o -> H b = none -> H' b = none)
  (there:∀ b o,b ∉ ch -> s.heap.get? b = some o -> ∃ o',h'.get? b = some o')
  (tups:∀ b xs,H b = some (.tup xs) -> H' b = some (.tup xs)) (frzs:∀ b o u,H b = some (.frz o u) -> H' b = some (.frz o u)) (tbls:∀ b ps,H b = some (.tbl ps) -> ∃ more,H' b = some (.tbl (ps ++ more)))
  (ns:∀ m,s.heap.Ns X.env.locals m -> h'.Ns X.env.locals m) (hok:HOk X.prog X.w H' h') (hg:AllBare g'):
  Inv X pins σ H' { s with heap:=h',gens:=g',drawn:=d',toks:=t' }:=by
 have neL:∀ b o,X.s₀.heap.get? b = some o -> b ≠ X.env.locals:=fun b o e=>Nat.ne_of_lt (Nat.lt_of_lt_of_le (Heap.lt_size e) I.ok.above)
 have neC:∀ b o,X.s₀.heap.get? b = some o -> b ∉ X.ex -> b ∉ ch:=fun b o e hx hb=>by
  rcases (hch b hb).1 with z | z
  . exact hx z
  . exact absurd (Nat.lt_of_lt_of_le (Heap.lt_size e) z) (Nat.lt_irrefl _)
 have cellK:∀ x c,X.env.cells.lookup x = some c -> ∀ v,s.heap.IsCell c v -> h'.IsCell c v:=fun x c e v ⟨o,ho,hd⟩=>by
  have nch:c ∉ ch:=fun z=>(hch c z).2.2.1 x c e rfl
  by_cases hc:c ∈ X.fs
  . obtain ⟨sl,q⟩:=slot c o (I.cne x c e) hc nch ho (I.freeC x c e)
    exact ⟨_,q,hd⟩
  . exact ⟨o,keep c o (I.cne x c e) hc nch ho (I.freeC x c e),hd⟩
 refine ⟨I.ok,I.os,hg,⟨fun b o e n hb hx=>?_,fun b o e n hb hx=>?_,fun b o e n hx=>?_,fun b o e hx=>?_,fun b xs e=>tups b xs (I.base.tups b xs e),fun b o xs e=>frzs b o xs (I.base.frzs b o xs e),fun b ps e=>?_⟩,?_,fun x c e=>?_,?_,fun x c e=>?_,fun p hp=>?_,hok,I.len⟩
 . exact keep b o (neL b o e) hb (neC b o e hx) (I.base.keep b o e n hb hx) (I.base.free b o e n hx)
 . obtain ⟨sl,e1⟩:=I.base.slot b o e n hb hx
   obtain ⟨sl',e2⟩:=slot b _ (neL b o e) hb (neC b o e hx) e1 (I.base.free b o e n hx)
   exact ⟨sl',e2⟩
 . obtain ⟨o',e1⟩:=I.base.there b o e hx
   exact free b o' (neC b o e hx) e1 (I.base.free b o e n hx)
 . obtain ⟨o',e1⟩:=I.base.there b o e hx
   exact there b o' (neC b o e hx) e1
 . obtain ⟨m1,e1⟩:=I.base.tbls b ps e
   obtain ⟨m2,e2⟩:=tbls b _ e1
   exact ⟨m1 ++ m2,by rw [e2,Array.append_assoc]⟩
 . obtain ⟨m,hn,hl⟩:=I.loc
   refine ⟨m,ns m hn,fun i x v e1 e2 e3=>?_⟩
   obtain ⟨u,r,l⟩:=hl i x v e1 e2 e3
   refine ⟨u,r,?_⟩
   rcases l with l | ⟨k,c,e,z⟩
   . exact .inl l
   . exact .inr ⟨k,c,e,cellK x c e _ z⟩
 . obtain ⟨v,z⟩:=I.cell x c e
   exact ⟨v,cellK x c e v z⟩
 . obtain ⟨m,⟨o,_,_,ho,_⟩,_⟩:=I.loc
   exact free _ o (fun z=>(hch _ z).2.1 rfl) ho I.free
 . obtain ⟨v,o,ho,hd⟩:=I.cell x c e
   exact free c o (fun z=>(hch c z).2.2.1 x c e rfl) ho (I.freeC x c e)
 . obtain ⟨e,n,ne,nf,d⟩:=I.pin p hp
   have nch:p.1 ∉ ch:=fun z=>(hch p.1 z).2.2.2 p hp rfl
   exact ⟨keep p.1 p.2 ne nf nch e n,free p.1 p.2 nch e n,ne,nf,d⟩
theorem Inv.un {t':Nat} (I:Inv X pins σ H s) (u:Un X.fs [] H H' s.heap h') (hok:HOk X.prog X.w H' h'):Inv X pins σ H' { s with heap:=h',toks:=t' }:=by
 obtain ⟨m,⟨o,es,ep,ho,r⟩,_⟩:=id I.loc
 obtain ⟨sl,hL⟩:=u.any ho I.free (by simp)
 exact I.step (g':=s.gens) (d':=s.drawn) (ch:=[]) (fun _ z=>nomatch z) (fun b o _ hb _ e n=>u.keep b o e n hb (by simp)) (fun b o _ hb _ e n=>u.slot b o e n hb (by simp)) (fun b o _ e n=>u.free b o e n (by simp)) (fun b o _ e=>u.there b o e (by simp)) u.tups u.frzs u.tbls (fun m' hm=>by
  obtain ⟨o',es',ep',ho',r'⟩:=hm
  rw [ho] at ho'; cases ho'
  exact ⟨_,es',ep',hL,r'⟩) hok I.bare
theorem Inv.call {g':Array GenState} {t':Nat} {d':Drawn} {ch:List Addr} (I:Inv X pins σ H s) (u:Un (frs X.stack) ch H H' s.heap h') (hok:HOk X.prog X.w H' h') (hg:AllBare g')
  (hch:∀ b ∈ ch,(b ∈ X.ex \/ X.s₀.heap.objs.size <= b) /\ b ≠ X.env.locals /\ (∀ x c,X.env.cells.lookup x = some c -> c ≠ b) /\ ∀ p ∈ X.pn ++ pins,p.1 ≠ b):
  Inv X pins σ H' { s with heap:=h',gens:=g',drawn:=d',toks:=t' }:=by
 obtain ⟨m,⟨o,es,ep,ho,r⟩,_⟩:=id I.loc
 obtain ⟨sl,hL⟩:=u.any ho I.free fun z=>(hch _ z).2.1 rfl
 exact I.step (ch:=ch) hch (fun b o hL hb hc e n=>u.keep b o e n (fun z=>(List.mem_cons.mp (I.yj b z)).elim hL hb) hc) (fun b o _ _ hc e n=>u.any e n hc) (fun b o hc e n=>u.free b o e n hc) (fun b o hc e=>u.there b o e hc) u.tups u.frzs u.tbls (fun m' hm=>by
  obtain ⟨o',es',ep',ho',r'⟩:=hm
  rw [ho] at ho'; cases ho'
  exact ⟨_,es',ep',hL,r'⟩) hok hg
theorem Inv.turned {t':Nat} {it:Addr} (I:Inv X pins σ H s) (k:∀ b o,b ≠ it -> s.heap.get? b = some o -> h'.get? b = some o) (hn:H it = none) (hL:it ≠ X.env.locals)
  (h1:it ∈ X.ex \/ X.s₀.heap.objs.size <= it) (h2:∀ x c,X.env.cells.lookup x = some c -> c ≠ it) (h3:∀ p ∈ X.pn ++ pins,p.1 ≠ it):Inv X pins σ H { s with heap:=h',toks:=t' }:=by
 have nit:∀ b u,H b = some u -> b ≠ it:=fun b u e z=>by rw [z,hn] at e; cases e
 refine I.step (g':=s.gens) (d':=s.drawn) (ch:=[it]) (fun b hb=>?_) (fun b o _ _ hc e _=>k b o (fun z=>hc (by simp [z])) e) (fun b o _ _ hc e _=>⟨o.slots,k b o (fun z=>hc (by simp [z])) e⟩) (fun _ _ _ _ n=>n)
  (fun b o hc e=>⟨o,k b o (fun z=>hc (by simp [z])) e⟩) (fun _ _ e=>e) (fun _ _ _ e=>e) (fun b ps e=>⟨#[],by rw [e]; simp⟩) (fun m hm=>?_) (fun b u e=>?_) I.bare
 . have e:b = it:=by simpa using hb
   subst e
   exact ⟨h1,hL,h2,h3⟩
 . obtain ⟨o,es,ep,ho,r⟩:=hm
   exact ⟨o,es,ep,k _ o (Ne.symm hL) ho,r⟩
 . refine (I.hok b u e).o6 (fun c v hc q=>k c v ?_ q) (fun _ q=>q) fun _ _ q=>q
   rcases hc with z | z
   . rw [z]; exact nit b u e
   . exact nit c _ z
theorem Inv.tok (I:Inv X pins σ H s) (t:Nat):Inv X pins σ H { s with toks:=t }:=I.un (h':=s.heap) (t':=t) Un.refl I.hok
theorem Inv.kept {t':Nat} (I:Inv X pins σ H s) (k:∀ b u,s.heap.get? b = some u -> h'.get? b = some u):Inv X pins σ H { s with heap:=h',toks:=t' }:=I.un (Un.kept k) (I.hok.kept k)
theorem Inv.laid {a:Addr} {o:HO} {t':Nat} (I:Inv X pins σ H s) (k:∀ b u,s.heap.get? b = some u -> h'.get? b = some u) (hp:s.heap.objs.size <= a) (new:fY X.prog X.w (upd H a o) h' a o):
  Inv X pins σ (upd H a o) { s with heap:=h',toks:=t' }:=I.un (Un.laid k hp (I.hok.fresh hp)) (I.hok.laid k hp new)
theorem Inv.write {x e:Addr} {o:HO} {t':Nat} (I:Inv X pins σ H s) (mu:Mut (H x)) (he:e = x \/ H e = some (.own x)) (k:∀ b u,b ≠ e -> s.heap.get? b = some u -> h'.get? b = some u) (heo:∃ u,h'.get? e = some u)
  (new:fY X.prog X.w (upd H x o) h' x o):Inv X pins σ (upd H x o) { s with heap:=h',toks:=t' }:=I.un (Un.write mu he k heo) (I.hok.write mu he k heo new)
theorem Inv.zF {pins':List (Addr × Obj)} (I:Inv X pins σ H s) (h:∀ p ∈ pins',s.heap.get? p.1 = some p.2 /\ H p.1 = none /\ p.1 ≠ X.env.locals /\ p.1 ∉ X.fs /\ ∀ v,p.2.data ≠ .cell v):Inv X pins' σ H s:=
 ⟨I.ok,I.os,I.bare,I.base,I.loc,I.cell,I.free,I.freeC,fun p hp=>(List.mem_append.mp hp).elim (fun z=>I.pin p (List.mem_append_left _ z)) (h p),I.hok,I.len⟩
theorem tu {N:List Str} (hN:N.Nodup) {i j:Nat} {x:Str} (a:N[i]? = some x) (b:N[j]? = some x):i = j:=by
 obtain ⟨h1,e1⟩:=List.getElem?_eq_some_iff.mp a
 obtain ⟨h2,e2⟩:=List.getElem?_eq_some_iff.mp b
 exact (List.getElem_inj hN).mp (e1.trans e2.symm)
theorem Aw {M:Model} {A:Around} {E:Value -> Shared -> Prop} {i:Nat} {x:Str} {v:V} {u:Value} {Q:Unit -> Shared -> Prop} (I:Inv X pins σ H s) (hN:X.N.Nodup) (hi:X.N[i]? = some x) (hx:Loc X.env.scope x) (r:RelV v u)
  (h:∀ s',Inv X pins (σ.set i (some v)) H s' -> (∃ a,Heap.SameBut a s.heap s'.heap /\ (a = X.env.locals \/ X.env.cells.lookup x = some a)) -> Q () s') (hf:X.fn x = true \/ X.env.scope.names.lookup x = some .local:=by first | exact .inl rfl | exact .inr rfl | assumption):wpAny M A (storeName X.env x u) Q E s:=by
 obtain ⟨m,hn,hl⟩:=id I.loc
 have hcls:(X.env.scope.kind == .class || (X.env.scope.kind == .module && X.env.locals != X.env.globals)) = false:=by rw [I.ok.kind]; rfl
 have hiσ:i < σ.length:=by rw [I.len]; exact (List.getElem?_eq_some_iff.mp hi).1
 have cne:=I.cne
 have tracked:∀ {a:Addr} {h':Heap},(∃ o,s.heap.get? a = some o /\ H a = none) -> Heap.SameBut a s.heap h' -> HOk X.prog X.w H h':=fun {a h'} ha hs b ob e=>by
  obtain ⟨_,_,hfree⟩:=ha
  refine (I.hok b ob e).o6 (fun c w' hc q=>(hs.2 c ?_).trans q) (fun _ q=>q) fun _ _ q=>q
  rintro rfl
  rcases hc with rfl | hc
  . rw [hfree] at e; cases e
  . rw [hfree] at hc; cases hc
 rcases hx with hk | hk
 . refine wpAny_storeName_local hk hn (fun h' hn' hs=>?_) hcls
   obtain ⟨oL,_,_,hoL,_⟩:=id hn
   refine h _ ⟨I.ok,I.os,I.bare,⟨fun b o e n hb hx=>?_,fun b o e n hb hx=>?_,I.base.free,fun b o e hx=>?_,I.base.tups,I.base.frzs,I.base.tbls⟩,⟨_,hn',fun j y v' e1 e2 e3=>?_⟩,fun y c e=>?_,I.free,I.freeC,fun p hp=>?_,tracked ⟨oL,hoL,I.free⟩ hs,by simpa using I.len⟩ ⟨_,hs,.inl rfl⟩
   . exact (hs.2 b (Nat.ne_of_lt (Nat.lt_of_lt_of_le (Heap.lt_size e) I.ok.above))).trans (I.base.keep b o e n hb hx)
   . obtain ⟨sl,e1⟩:=I.base.slot b o e n hb hx
     exact ⟨sl,(hs.2 b (Nat.ne_of_lt (Nat.lt_of_lt_of_le (Heap.lt_size e) I.ok.above))).trans e1⟩
   . obtain ⟨o',e1⟩:=I.base.there b o e hx
     exact ⟨o',(hs.2 b (Nat.ne_of_lt (Nat.lt_of_lt_of_le (Heap.lt_size e) I.ok.above))).trans e1⟩
   . by_cases hj:j = i
     . subst hj
       rw [hi] at e1; cases e1
       rw [List.getElem?_set_self hiσ] at e2
       cases e2
       exact ⟨u,r,.inl ⟨hk,by simp⟩⟩
     . rw [List.getElem?_set_ne (Ne.symm hj)] at e2
       obtain ⟨u',r',q⟩:=hl j y v' e1 e2 e3
       refine ⟨u',r',?_⟩
       rcases q with ⟨k,e⟩ | ⟨k,c,e,z⟩
       . refine .inl ⟨k,?_⟩
         have:y ≠ x:=fun e=>hj (tu hN e1 (e ▸ hi))
         simp [this,e]
       . exact .inr ⟨k,c,e,z.sameBut hs (cne y c e)⟩
   . obtain ⟨w',z⟩:=I.cell y c e
     exact ⟨w',z.sameBut hs (cne y c e)⟩
   . obtain ⟨e,n,ne,nf,d⟩:=I.pin p hp
     exact ⟨(hs.2 p.1 ne).trans e,n,ne,nf,d⟩
 . have hfn:X.fn x = true:=by
    rcases hf with z | z
    . exact z
    . rw [z] at hk; cases hk
   obtain ⟨c,hc⟩:=I.ok.has x (.inl hk)
   obtain ⟨w',z⟩:=I.cell x c hc
   refine wpAny_storeName_cell I.ok.kind hk hc z (fun h' hc' hs=>?_)
   obtain ⟨oc,hoc,hocd⟩:=id z
   refine h { s with heap:=h' } ⟨I.ok,I.os,I.bare,⟨fun b o e n hb hx=>?_,fun b o e n hb hx=>?_,I.base.free,fun b o e hx=>?_,I.base.tups,I.base.frzs,I.base.tbls⟩,⟨m,hn.sameBut hs (Ne.symm (cne x c hc)),fun j y v' e1 e2 e3=>?_⟩,fun y c' e=>?_,I.free,I.freeC,fun p hp=>?_,tracked ⟨oc,hoc,I.freeC x c hc⟩ hs,by simpa using I.len⟩ ⟨c,hs,.inr hc⟩
   . exact (hs.2 b (Nat.ne_of_lt (Nat.lt_of_lt_of_le (Heap.lt_size e) (I.ok.cab x c hfn hc)))).trans (I.base.keep b o e n hb hx)
   . obtain ⟨sl,e1⟩:=I.base.slot b o e n hb hx
     exact ⟨sl,(hs.2 b (Nat.ne_of_lt (Nat.lt_of_lt_of_le (Heap.lt_size e) (I.ok.cab x c hfn hc)))).trans e1⟩
   . obtain ⟨o',e1⟩:=I.base.there b o e hx
     exact ⟨o',(hs.2 b (Nat.ne_of_lt (Nat.lt_of_lt_of_le (Heap.lt_size e) (I.ok.cab x c hfn hc)))).trans e1⟩
   . by_cases hj:j = i
     . subst hj
       rw [hi] at e1; cases e1
       rw [List.getElem?_set_self hiσ] at e2
       cases e2
       exact ⟨u,r,.inr ⟨.inl hk,c,hc,hc'⟩⟩
     . rw [List.getElem?_set_ne (Ne.symm hj)] at e2
       obtain ⟨u',r',q⟩:=hl j y v' e1 e2 e3
       refine ⟨u',r',?_⟩
       rcases q with q | ⟨k,c',e,z'⟩
       . exact .inl q
       . refine .inr ⟨k,c',e,z'.sameBut hs ?_⟩
         rintro rfl
         exact hj (tu hN e1 (I.ok.inj _ _ _ e hc ▸ hi))
   . by_cases hcc:c' = c
     . subst hcc; exact ⟨_,hc'⟩
     . obtain ⟨w2,z2⟩:=I.cell y c' e
       exact ⟨w2,z2.sameBut hs hcc⟩
   . obtain ⟨e,n,ne,nf,d⟩:=I.pin p hp
     refine ⟨(hs.2 p.1 ?_).trans e,n,ne,nf,d⟩
     intro q
     rw [q,hoc] at e
     have q':oc = p.2:=Option.some.inj e
     exact d w' (by rw [<- q']; exact hocd)
theorem lW {M:Model} {A:Around} {E:Value -> Shared -> Prop} {i:Nat} {x:Str} {v:V} {u:Value} {Q:Unit -> Shared -> Prop} (I:Inv X pins σ H s) (hN:X.N.Nodup) (hi:X.N[i]? = some x) (hx:Loc X.env.scope x) (r:RelV v u)
  (h:∀ s',Inv X pins (σ.set i (some v)) H s' -> Q () s') (hf:X.fn x = true \/ X.env.scope.names.lookup x = some .local:=by first | exact .inl rfl | exact .inr rfl | assumption):wpAny M A (storeName X.env x u) Q E s:=
 Aw I hN hi hx r (fun s' I' _=>h s' I') hf
theorem Inv.Fs {s':Shared} {ch:List Addr} (I:Inv X pins σ H s) (ho:s'.os = s.os) (u:Un (frs X.stack) ch H H' s.heap s'.heap) (hok:HOk X.prog X.w H' s'.heap) (hg:AllBare s'.gens)
  (hch:∀ b ∈ ch,(b ∈ X.ex \/ X.s₀.heap.objs.size <= b) /\ b ≠ X.env.locals /\ (∀ x c,X.env.cells.lookup x = some c -> c ≠ b) /\ ∀ p ∈ X.pn ++ pins,p.1 ≠ b):Inv X pins σ H' s':=by
 obtain ⟨h',g',d',t',o'⟩:=s'
 have e:o' = s.os:=ho
 subst e
 exact I.call (g':=g') (t':=t') (d':=d') u hok hg hch
end
abbrev XK:=Value -> Option Addr -> Hp -> Prop
abbrev St:=List (Option V)
abbrev VK:=V -> Hp -> Prop
abbrev TE:=St -> Hp -> VK -> Prop
abbrev TT:=St -> Hp -> (Bool -> Hp -> Prop) -> Prop
abbrev TA:=St -> Hp -> (List V -> Hp -> Prop) -> Prop
structure Ends where
 nx:St -> Hp -> Prop
 rt:VK
 bk:St -> Hp -> Prop:=fun _ _=>False
 ct:St -> Hp -> Prop:=fun _ _=>False
abbrev TS:=Ends -> St -> Hp -> Prop
noncomputable def EP (X:Cx) (pins:List (Addr × Obj)) (σ:St) (Q:VK) (u:Value) (s':Shared):Prop:=∃ v H',Inv X pins σ H' s' /\ RelV v u /\ Q v H'
noncomputable def TP (X:Cx) (pins:List (Addr × Obj)) (σ:St) (Q:Bool -> Hp -> Prop) (b:Bool) (s':Shared):Prop:=∃ H',Inv X pins σ H' s' /\ Q b H'
noncomputable def AP (X:Cx) (pins:List (Addr × Obj)) (σ:St) (Q:List V -> Hp -> Prop) (us:List Value) (s':Shared):Prop:=∃ vs H',Inv X pins σ H' s' /\ Vals vs us /\ Q vs H'
noncomputable def SP (X:Cx) (pins:List (Addr × Obj)) (D:Ends) (f:Flow) (s':Shared):Prop:=
 match f with
 | .next=>∃ σ' H',Inv X pins σ' H' s' /\ D.nx σ' H'
 | .brk=>∃ σ' H',Inv X pins σ' H' s' /\ D.bk σ' H'
 | .cont=>∃ σ' H',Inv X pins σ' H' s' /\ D.ct σ' H'
 | .ret u=>∃ v σ' H',Inv X pins σ' H' s' /\ RelV v u /\ D.rt v H'
noncomputable def PE (X:Cx) (e:Expr) (t:TE):Prop:=
 ∀ (pins:List (Addr × Obj)) (s:Shared) (σ:St) (H:Hp) (Q:VK),Inv X pins σ H s -> t σ H Q -> wpAny (model X.prog X.w) X.A (eval e X.env) (EP X pins σ Q) X.xe s
noncomputable def PT (X:Cx) (e:Expr) (t:TT):Prop:=
 ∀ (pins:List (Addr × Obj)) (s:Shared) (σ:St) (H:Hp) (Q:Bool -> Hp -> Prop),Inv X pins σ H s -> t σ H Q -> wpAny (model X.prog X.w) X.A (isTrue e X.env (eval e X.env)) (TP X pins σ Q) X.xe s
noncomputable def PW (X:Cx) (e:Expr) (t:TT):Prop:=
 ∀ (whole:Sem Value) (pins:List (Addr × Obj)) (s:Shared) (σ:St) (H:Hp) (Q:Bool -> Hp -> Prop),Inv X pins σ H s -> t σ H Q -> wpAny (model X.prog X.w) X.A (isTrue e X.env whole) (TP X pins σ Q) X.xe s
theorem PW.pt {X:Cx} {e:Expr} {t:TT} (h:PW X e t):PT X e t:=h _
noncomputable def PA (X:Cx) (es:List Expr) (t:TA):Prop:=
 ∀ (pos:Pos) (pins:List (Addr × Obj)) (s:Shared) (σ:St) (H:Hp) (Q:List V -> Hp -> Prop),Inv X pins σ H s -> t σ H Q -> wpAny (model X.prog X.w) X.A (spliced (backTo pos (starEach es X.env))) (AP X pins σ Q) X.xe s
noncomputable def PS (X:Cx) (st:Stmt) (t:TS):Prop:=
 ∀ (pins:List (Addr × Obj)) (s:Shared) (σ:St) (H:Hp) (D:Ends),Inv X pins σ H s -> t D σ H -> wpAny (model X.prog X.w) X.A (exec st X.env) (SP X pins D) X.xe s
noncomputable def PSs (X:Cx) (st:List Stmt) (t:TS):Prop:=
 ∀ (pins:List (Addr × Obj)) (s:Shared) (σ:St) (H:Hp) (D:Ends),Inv X pins σ H s -> t D σ H -> wpAny (model X.prog X.w) X.A (execs st X.env) (SP X pins D) X.xe s
theorem thn {α:Type} {t:Sem α} {Q Q':α -> Shared -> Prop} {M:Model} {A:Around} {E:Value -> Shared -> Prop} {s:Shared} (h:wpAny M A t Q E s) (hQ:∀ a s,Q a s -> Q' a s):wpAny M A t Q' E s:=wpAny_mono h hQ fun _ _ x=>x
end L2
namespace L2
open PySem PySem.Spec PyProof.Rows
section
variable {X:Cx}
theorem bin {a b:Expr} {ta tb:TE} (ha:PE X a ta) (hb:PE X b tb) {pins:List (Addr × Obj)} {s:Shared} {σ:St} {H:Hp} {R:V -> V -> Hp -> Prop} (I:Inv X pins σ H s) (h:ta σ H fun x H1=>tb σ H1 fun y H2=>R x y H2)
  {α:Type} {Q:α -> Shared -> Prop} {f:Value -> Value -> Sem α}
  (hf:∀ v u s2 x y H2,Inv X pins σ H2 s2 -> RelV x v -> RelV y u -> R x y H2 -> wpAny (model X.prog X.w) X.A (f v u) Q X.xe s2):
  wpAny (model X.prog X.w) X.A (eval a X.env) (fun v s₁=>wpAny (model X.prog X.w) X.A (eval b X.env) (fun u s₂=>wpAny (model X.prog X.w) X.A (f v u) Q X.xe s₂) X.xe s₁) X.xe s:=by
 refine thn (ha pins s σ H _ I h) fun v s1 ⟨x,H1,I1,r1,q1⟩=>?_
 refine thn (hb pins s1 σ H1 _ I1 q1) fun u s2 ⟨y,H2,I2,r2,q2⟩=>?_
 exact hf v u s2 x y H2 I2 r1 r2 q2
noncomputable def qq (i:Nat):TE:=fun σ H Q=>∃ v,σ[i]? = some (some v) /\ Q v H
noncomputable def tC (v:V):TE:=fun _ H Q=>Q v H
theorem Gq {i:Nat} {x:Str} {pos:Pos} (hN:X.N[i]? = some x) (hv:Vis X.env.scope x) (hd:(x == ("__debug__":Str)) = false:=by decide) (hcd:(x == ("__classdict__":Str)) = false:=by decide):PE X (.Name x pos) (qq i):=by
 intro pins s σ H Q I h
 obtain ⟨v,e,h⟩:=h
 obtain ⟨m,hn,hl⟩:=I.loc
 obtain ⟨u,r,l⟩:=hl i x v hN e hv
 have fin:EP X pins σ Q u s:=⟨v,H,I,r,h⟩
 rcases l with ⟨hk,hm⟩ | ⟨hk,c,hc,hcell⟩
 . exact wpAny_Name (wpAny_loadName_local I.ok.kind hk hn hm fin) hd
 . rcases hk with hk | hk
   . exact wpAny_Name (wpAny_loadName_cell I.ok.kind hk hc hcell fin) hd
   . exact wpAny_Name (wpAny_loadName_free I.ok.kind hk hc hcell fin hcd) hd
theorem Ik {i j pos}:PE X (.Constant (.int i) j pos) (tC (.int i)):=fun _ _ _ H _ I h=>wpAny_Constant_int ⟨.int i,H,I.tok _,⟨_,rfl⟩,h⟩
theorem Jy {b j pos}:PE X (.Constant (.bool b) j pos) (tC (.bl b)):=fun _ _ _ H _ I h=>Constant_bool ⟨.bl b,H,I,rfl,h⟩
theorem HQ {j pos}:PE X (.Constant .none j pos) (tC .non):=fun _ _ _ H _ I h=>Constant_none ⟨.non,H,I,rfl,h⟩
theorem Hf {x j pos}:PE X (.Constant (.str x) j pos) (tC (.str x)):=fun _ _ _ H _ I h=>Calls.Constant_str ⟨.str x,H,I.tok _,⟨_,rfl⟩,h⟩
noncomputable def Gl (X:Cx) (x:Str):Prop:=X.env.kindOf x = some .globalImplicit
theorem mL {E:Value -> Shared -> Prop} {pins:List (Addr × Obj)} {s:Shared} {σ:St} {H:Hp} {x:Str} {u:Value} {pos:Pos} {Q:Value -> Shared -> Prop} (I:Inv X pins σ H s) (hg:Gl X x) (hm:X.mg x = some u) (h:Q u s)
  (hd:(x == ("__debug__":Str)) = false:=by decide):wpAny (model X.prog X.w) X.A (eval (.Name x pos) X.env) Q E s:=
 Calls.Name_function_global I.ok.kind hg (Calls.loadGlobal_global (by rw [I.ok.glob]; exact I.mod.glob.keeps I.bk) hm h) hd
theorem sf {E:Value -> Shared -> Prop} {pins:List (Addr × Obj)} {s:Shared} {σ:St} {H:Hp} {x:Str} {u:Value} {pos:Pos} {Q:Value -> Shared -> Prop} (I:Inv X pins σ H s) (hg:Gl X x) (hm:X.mg x = none) (hv:bootBuiltins x = some u) (h:Q u s)
  (hn:x ≠ "__name__":=by decide) (hd:(x == ("__debug__":Str)) = false:=by decide):wpAny (model X.prog X.w) X.A (eval (.Name x pos) X.env) Q E s:=by
 obtain ⟨mb,h1,h2⟩:=I.mod.blt
 exact Calls.Name_function_global I.ok.kind hg (Calls.loadGlobal_builtin (by rw [I.ok.glob]; exact I.mod.glob.keeps I.bk) hm (by rw [I.ok.blt]; exact h1.keeps I.bk) ((h2 x hn).trans hv) h) hd
theorem DP {x:Str} {v:V} {u:Value} {pos:Pos} (hg:Gl X x) (hm:X.mg x = some u) (r:RelV v u) (hd:(x == ("__debug__":Str)) = false:=by decide):PE X (.Name x pos) (tC v):=
 fun _ _ _ H _ I h=>mL I hg hm ⟨v,H,I,r,h⟩ hd
theorem DK {x:Str} {v:V} {u:Value} {pos:Pos} (hg:Gl X x) (hm:X.mg x = none) (hv:bootBuiltins x = some u) (r:RelV v u) (hn:x ≠ "__name__":=by decide) (hd:(x == ("__debug__":Str)) = false:=by decide):PE X (.Name x pos) (tC v):=
 fun _ _ _ H _ I h=>sf I hg hm hv ⟨v,H,I,r,h⟩ hn hd
variable {a b:Expr} {ta tb:TE} {pos:Pos}
noncomputable def PC (X:Cx) (op:CmpOp) (a b:Expr) (t:TE):Prop:=
 ∀ (pins:List (Addr × Obj)) (s:Shared) (σ:St) (H:Hp) (Q:VK),Inv X pins σ H s -> t σ H Q ->
   wpAny (model X.prog X.w) X.A (eval a X.env) (fun v s₁=>wpAny (model X.prog X.w) X.A (eval b X.env) (fun u s₂=>wpAny (model X.prog X.w) X.A (compareOp op v u) (EP X pins σ Q) X.xe s₂) X.xe s₁) X.xe s
theorem xF (b:Expr) {op:CmpOp} (h:op ≠ .In) (h2:op ≠ .NotIn):behindInMarks op b = false:=by
 have e1:(op == CmpOp.In) = false:=by cases op <;> first | rfl | exact absurd rfl h
 have e2:(op == CmpOp.NotIn) = false:=by cases op <;> first | rfl | exact absurd rfl h2
 cases b <;> simp [behindInMarks,e1,e2]
noncomputable def tB (t:TE):TT:=fun σ H Q=>t σ H fun x H1=>∃ c,x = .bl c /\ Q c H1
theorem IK {op:CmpOp} {t:TE} (h:PC X op a b t) (h1:behindInMarks op b = false:=by first | exact xF _ (by decide) (by decide) | rfl):PT X (.Compare a [op] [b] pos) (tB t):=by
 intro pins s σ H Q I hw
 refine wpAny_isTrue_Compare1 (thn (h pins s σ H _ I hw) fun v s1 h1=>thn h1 fun u s2 h2=>thn h2 fun c s3 ⟨x,H1,I1,r1,q1⟩=>?_) h1
 obtain ⟨d,rfl,q⟩:=q1
 cases r1
 exact wpAny_truthy_bool ⟨H1,I1,q⟩
variable {tA tB':TT} {rest:List Expr}
noncomputable def IM (t u:TT):TT:=fun σ H Q=>t σ H fun c H1=>if c = true then u σ H1 Q else Q false H1
noncomputable def tOr (t u:TT):TT:=fun σ H Q=>t σ H fun c H1=>if c = true then Q true H1 else u σ H1 Q
noncomputable def E2 (t:TT):TT:=fun σ H Q=>t σ H fun c H1=>Q (!c) H1
theorem Er (ha:PT X a tA):PW X (.BoolOp .And [a] pos) tA:=by
 intro wh pins s σ H Q I h
 refine isTrue_and (thn (ha pins s σ H Q I h) fun c s1 e=>?_)
 cases c with
 | true=>exact isTrue_and_nil e
 | false=>exact e
theorem Hj (ha:PT X a tA):PW X (.BoolOp .Or [a] pos) tA:=by
 intro wh pins s σ H Q I h
 refine isTrue_or (thn (ha pins s σ H Q I h) fun c s1 e=>?_)
 cases c with
 | false=>exact isTrue_or_nil e
 | true=>exact e
theorem GD (ha:PT X a tA) (hb:PW X (.BoolOp .And (b ::rest) pos) tB'):PW X (.BoolOp .And (a ::b ::rest) pos) (IM tA tB'):=by
 intro wh pins s σ H Q I h
 refine isTrue_and (thn (ha pins s σ H _ I h) fun c s1 ⟨H1,I1,q1⟩=>?_)
 cases c with
 | true=>exact hb wh pins s1 σ H1 Q I1 q1
 | false=>exact ⟨H1,I1,q1⟩
theorem JJ (ha:PT X a tA) (hb:PW X (.BoolOp .Or (b ::rest) pos) tB'):PW X (.BoolOp .Or (a ::b ::rest) pos) (tOr tA tB'):=by
 intro wh pins s σ H Q I h
 refine isTrue_or (thn (ha pins s σ H _ I h) fun c s1 ⟨H1,I1,q1⟩=>?_)
 cases c with
 | true=>exact ⟨H1,I1,q1⟩
 | false=>exact hb wh pins s1 σ H1 Q I1 q1
theorem G7 (ha:PT X a tA):PT X (.UnaryOp .Not a pos) (E2 tA):=by
 intro pins s σ H Q I h
 exact isTrue_not (ha pins s σ H (fun c H1=>Q (!c) H1) I h)
noncomputable def Cs (ta tb:TE):TE:=fun σ H Q=>ta σ H fun x H1=>∃ c,x = .bl c /\ if c = true then tb σ H1 Q else Q (.bl false) H1
noncomputable def Ht (ta tb:TE):TE:=fun σ H Q=>ta σ H fun x H1=>∃ c,x = .bl c /\ if c = true then Q (.bl true) H1 else tb σ H1 Q
noncomputable def CU (ta:TE):TE:=fun σ H Q=>ta σ H fun x H1=>∃ c,x = .bl c /\ Q (.bl (!c)) H1
theorem GZ {op} {t:TE} (h:PE X a t):PE X (.BoolOp op [a] pos) t:=fun pins s σ H Q I hw=>BoolOp_one (h pins s σ H Q I hw)
theorem GK (ha:PE X a ta) (hb:PE X (.BoolOp .And (b ::rest) pos) tb):PE X (.BoolOp .And (a ::b ::rest) pos) (Cs ta tb):=by
 intro pins s σ H Q I h
 refine BoolOp_and (thn (ha pins s σ H _ I h) fun v s1 ⟨x,H1,I1,r1,q1⟩=>?_)
 obtain ⟨c,rfl,q1⟩:=q1
 cases r1
 refine wpAny_truthy_bool ?_
 cases c with
 | true=>exact hb pins s1 σ H1 Q I1 q1
 | false=>exact ⟨.bl false,H1,I1,rfl,q1⟩
theorem JQ (ha:PE X a ta) (hb:PE X (.BoolOp .Or (b ::rest) pos) tb):PE X (.BoolOp .Or (a ::b ::rest) pos) (Ht ta tb):=by
 intro pins s σ H Q I h
 refine BoolOp_or (thn (ha pins s σ H _ I h) fun v s1 ⟨x,H1,I1,r1,q1⟩=>?_)
 obtain ⟨c,rfl,q1⟩:=q1
 cases r1
 refine wpAny_truthy_bool ?_
 cases c with
 | false=>exact hb pins s1 σ H1 Q I1 q1
 | true=>exact ⟨.bl true,H1,I1,rfl,q1⟩
theorem Il (ha:PE X a ta):PE X (.UnaryOp .Not a pos) (CU ta):=by
 intro pins s σ H Q I h
 refine UnaryOp_ (thn (ha pins s σ H _ I h) fun v s1 ⟨x,H1,I1,r1,q1⟩=>?_)
 obtain ⟨c,rfl,q1⟩:=q1
 cases r1
 exact not_of (wpAny_truthy_bool ⟨.bl (!c),H1,I1,rfl,q1⟩)
noncomputable def tIf (t:TT) (ta tb:TE):TE:=fun σ H Q=>t σ H fun c H1=>if c = true then ta σ H1 Q else tb σ H1 Q
theorem DA {c:Expr} (hc:PT X c tA) (ha:PE X a ta) (hb:PE X b tb):PE X (.IfExp c a b pos) (tIf tA ta tb):=by
 intro pins s σ H Q I h
 refine wpAny_IfExp (thn (hc pins s σ H _ I h) fun d s1 ⟨H1,I1,q1⟩=>?_)
 cases d with
 | true=>exact ha pins s1 σ H1 Q I1 q1
 | false=>exact hb pins s1 σ H1 Q I1 q1
end
end L2
namespace L2
open PySem PySem.Spec PyProof.Rows
noncomputable def SqL (K:PySem.W.Frag) (H:Hp) (a:Addr) (xs:List V):Prop:=
 Rd H a (.lst xs) \/
  ∃ (o:Obj) (its:Array Value) (n:Nat),K.lookup a = some o /\ o.cls = .type "list" /\ o.dict = none /\ o.data = .seq its n /\ its.size <= sizeLine /\ Vals xs its.toList
noncomputable def SqT (K:PySem.W.Frag) (H:Hp) (a:Addr) (xs:List V):Prop:=
 Rd H a (.tup xs) \/
  ∃ (o:Obj) (its:Array Value) (n:Nat),K.lookup a = some o /\ o.cls = .type "tuple" /\ o.data = .seq its n /\ its.size <= sizeLine /\ Vals xs its.toList
noncomputable def LN:Value -> Option V
 | .none=>some .non
 | .bool b=>some (.bl b)
 | .int i _=>some (.int i)
 | .str x _=>some (.str x)
 | .bytes b _=>some (.byt b)
 | .float b _=>some (.flt b)
 | .ref a=>some (.ref a)
 | .type n=>some (.ty n)
 | _=>none
theorem RelV.abs {x:V} {u:Value} (r:RelV x u):LN u = some x:=by
 cases x with
 | non=>cases r; rfl
 | bl _=>cases r; rfl
 | int _=>obtain ⟨t,rfl⟩:=r; rfl
 | str _=>obtain ⟨t,rfl⟩:=r; rfl
 | byt _=>obtain ⟨t,rfl⟩:=r; rfl
 | flt _=>obtain ⟨t,rfl⟩:=r; rfl
 | ref _=>cases r; rfl
 | ty _=>cases r; rfl
theorem RelV.inj {x y:V} {u:Value} (r:RelV x u) (q:RelV y u):x = y:=Option.some.inj (r.abs.symm.trans q.abs)
theorem Vals.inj:∀ {xs ys:List V} {us:List Value},Vals xs us -> Vals ys us -> xs = ys
 | _,_,_,.nil,.nil=>rfl
 | _,_,_,.cons r t,.cons r' t'=>by rw [r.inj r',Vals.inj t t']
section
variable {X:Cx} {pins:List (Addr × Obj)} {σ:St} {H:Hp} {s:Shared} {a:Addr} {xs ys:List V}
theorem Inv.list (I:Inv X pins σ H s) (h:SqL X.K H a xs):∃ its:List Value,Vals xs its /\ PlainL s.heap a its.toArray /\ xs.length <= sizeLine:=by
 rcases h with h | ⟨o,its,n,hk,hc,hd,hs,hz,r⟩
 . obtain ⟨z,its,n,r,e⟩:=h.ok I.hok
   exact ⟨its,r,⟨_,n,e,rfl,rfl,rfl⟩,z⟩
 . refine ⟨its.toList,r,⟨o,n,I.kIn a o hk,hc,hd,by simpa using hs⟩,?_⟩
   have e:=r.length
   simp only [Array.length_toList] at e
   omega
theorem Inv.tuple (I:Inv X pins σ H s) (h:SqT X.K H a xs):∃ its:List Value,Vals xs its /\ IsTup s.heap a its.toArray /\ xs.length <= sizeLine:=by
 rcases h with h | ⟨o,its,n,hk,hc,hs,hz,r⟩
 . obtain ⟨z,its,r,p⟩:=h.ok I.hok
   exact ⟨its,r,p,z⟩
 . refine ⟨its.toList,r,⟨o,I.kIn a o hk,hc,n,by simpa using hs⟩,?_⟩
   have e:=r.length
   simp only [Array.length_toList] at e
   omega
theorem Inv.wQ (I:Inv X pins σ H s) (h:SqL X.K H a xs) (h':SqL X.K H a ys):xs = ys:=by
 obtain ⟨its,r,⟨o,n,e,_,_,d⟩,_⟩:=I.list h
 obtain ⟨its',r',⟨o',n',e',_,_,d'⟩,_⟩:=I.list h'
 rw [e] at e'; cases e'
 rw [d] at d'
 injection d' with d1 _
 have:its = its':=by simpa using congrArg Array.toList d1
 subst this
 exact r.inj r'
theorem Inv.Bd (I:Inv X pins σ H s) (h:SqT X.K H a xs) (h':SqT X.K H a ys):xs = ys:=by
 obtain ⟨its,r,⟨o,e,_,n,d⟩,_⟩:=I.tuple h
 obtain ⟨its',r',⟨o',e',_,n',d'⟩,_⟩:=I.tuple h'
 rw [e] at e'; cases e'
 rw [d] at d'
 injection d' with d1 _
 have:its = its':=by simpa using congrArg Array.toList d1
 subst this
 exact r.inj r'
end
section
variable {X:Cx} {st:Stmt} {rest:List Stmt} {t u:TS} {e:Expr} {te:TE} {pos:Pos}
noncomputable def Cf:TS:=fun D σ H=>D.nx σ H
noncomputable def HG (t u:TS):TS:=fun D σ H=>t { D with nx:=u D } σ H
theorem Eg:PSs X [] Cf:=fun _ _ σ H _ I h=>wpAny_execs_nil ⟨σ,H,I,h⟩
theorem BJ (h1:PS X st t) (h2:PSs X rest u):PSs X (st ::rest) (HG t u):=by
 intro pins s σ H D I h
 refine wpAny_execs_cons (thn (h1 pins s σ H { D with nx:=u D } I h) fun f s1 q=>?_)
 cases f with
 | next=>
   obtain ⟨σ',H',I',q⟩:=q
   exact h2 pins s1 σ' H' D I' q
 | ret v=>exact q
 | brk=>exact q
 | cont=>exact q
theorem zy (h1:PS X st t):PSs X [st] t:=by
 intro pins s σ H D I h
 refine wpAny_execs_cons (thn (h1 pins s σ H D I h) fun f s1 q=>?_)
 cases f with
 | next=>exact wpAny_execs_nil q
 | ret v=>exact q
 | brk=>exact q
 | cont=>exact q
theorem Inv.quiet {pins:List (Addr × Obj)} {σ:St} {H:Hp} {s:Shared} (I:Inv X pins σ H s):interactive X.env = false:=by simp [interactive,I.ok.kind]
noncomputable def qV (te:TE):TS:=fun D σ H=>te σ H fun _ H1=>D.nx σ H1
theorem Eu (he:PE X e te) (hs:swapsWith e none pos.line X.env = pure false:=by rfl):PS X (.Expr e pos) (qV te):=by
 intro pins s σ H D I h
 exact wpAny_Expr_any (thn (he pins s σ H _ I h) fun v s1 ⟨x,H1,I1,r1,q1⟩=>⟨σ,H1,I1,q1⟩) I.quiet hs
noncomputable def DH (te:TE):TS:=fun D σ H=>te σ H D.rt
theorem GN (he:PE X e te):PS X (.Return (some e) pos) (DH te):=by
 intro pins s σ H D I h
 exact wpAny_Return_some (thn (he pins s σ H _ I h) fun v s1 ⟨x,H1,I1,r1,q1⟩=>⟨x,σ,H1,I1,r1,q1⟩)
noncomputable def E8 (c:TT) (t u:TS):TS:=fun D σ H=>c σ H fun b H1=>if b = true then t D σ H1 else u D σ H1
theorem JL {c:Expr} {a b:List Stmt} {tc:TT} (hc:PT X c tc) (ha:PSs X a t) (hb:PSs X b u):PS X (.If c a b pos) (E8 tc t u):=by
 intro pins s σ H D I h
 refine wpAny_If (thn (hc pins s σ H _ I h) fun d s1 ⟨H1,I1,q1⟩=>?_)
 cases d with
 | true=>exact ha pins s1 σ H1 D I1 q1
 | false=>exact hb pins s1 σ H1 D I1 q1
end
abbrev TG:=V -> St -> Hp -> (St -> Hp -> Prop) -> Prop
abbrev TGs:=List V -> St -> Hp -> (St -> Hp -> Prop) -> Prop
noncomputable def PG (X:Cx) (target:Expr) (t:TG):Prop:=
 ∀ (pins:List (Addr × Obj)) (s:Shared) (σ:St) (H:Hp) (v:V) (u:Value) (Q:St -> Hp -> Prop),Inv X pins σ H s -> RelV v u -> t v σ H Q ->
   wpAny (model X.prog X.w) X.A (assign target X.env u) (fun _ s'=>∃ σ' H',Inv X pins σ' H' s' /\ Q σ' H') X.xe s
noncomputable def PGs (X:Cx) (ts:List Expr) (t:TGs):Prop:=
 ∀ (pins:List (Addr × Obj)) (s:Shared) (σ:St) (H:Hp) (vs:List V) (us:List Value) (Q:St -> Hp -> Prop),Inv X pins σ H s -> Vals vs us -> t vs σ H Q ->
   wpAny (model X.prog X.w) X.A (assignInOrder ((assignEach ts X.env).map (·.2)) us) (fun _ s'=>∃ σ' H',Inv X pins σ' H' s' /\ Q σ' H') X.xe s
abbrev DN:=V -> V -> V -> Hp -> (Hp -> Prop) -> Prop
noncomputable def Gv (X:Cx) (t:DN):Prop:=
 ∀ (pins:List (Addr × Obj)) (s:Shared) (σ:St) (H:Hp) (o i v:V) (ov iv u:Value) (Q:Hp -> Prop),Inv X pins σ H s -> RelV o ov -> RelV i iv -> RelV v u -> t o i v H Q ->
   wpAny (model X.prog X.w) X.A (setItem ov iv u) (fun _ s'=>∃ H',Inv X pins σ H' s' /\ Q H') X.xe s
abbrev TIp:=V -> V -> Hp -> VK -> Prop
noncomputable def PIp (X:Cx) (op:Operator) (t:TIp):Prop:=
 ∀ (pins:List (Addr × Obj)) (s:Shared) (σ:St) (H:Hp) (x y:V) (v u:Value) (Q:VK),Inv X pins σ H s -> RelV x v -> RelV y u -> t x y H Q ->
   wpAny (model X.prog X.w) X.A (inplaceOp op v u) (EP X pins σ Q) X.xe s
section
variable {X:Cx} {pos:Pos}
noncomputable def nr (i:Nat):TG:=fun v σ H Q=>Q (σ.set i (some v)) H
theorem DE {i:Nat} {x:Str} (hN:X.N.Nodup) (hi:X.N[i]? = some x) (hx:Loc X.env.scope x) (hf:X.fn x = true \/ X.env.scope.names.lookup x = some .local:=by first | exact .inl rfl | exact .inr rfl | assumption):PG X (.Name x pos) (nr i):=by
 intro pins s σ H v u Q I r h
 exact wpAny_assign_Name (lW I hN hi hx r (fun s' I'=>⟨_,H,I',h⟩) hf)
noncomputable def Hk:TGs:=fun vs σ H Q=>vs = [] /\ Q σ H
noncomputable def zH (t:TG) (u:TGs):TGs:=fun vs σ H Q=>∃ v r,vs = v ::r /\ t v σ H fun σ' H'=>u r σ' H' Q
theorem Ec:PGs X [] Hk:=by
 intro pins s σ H vs us Q I r h
 obtain ⟨e,h⟩:=h
 subst e
 cases r
 exact assignInOrder_nil ⟨σ,H,I,h⟩
theorem BN {e:Expr} {es:List Expr} {t:TG} {u:TGs} (h1:PG X e t) (h2:PGs X es u)
  (hs:(assignEach (e ::es) X.env).map (·.2) = assign e X.env ::(assignEach es X.env).map (·.2):=by rfl):PGs X (e ::es) (zH t u):=by
 intro pins s σ H vs us Q I r h
 obtain ⟨v,vr,e1,h⟩:=h
 subst e1
 cases r with
 | cons r rr=>
   rw [hs]
   refine assignInOrder_cons (thn (h1 pins s σ H _ _ _ I r h) fun _ s1 ⟨σ1,H1,I1,q1⟩=>?_)
   exact h2 pins s1 σ1 H1 _ _ Q I1 rr q1
noncomputable def Hh (K:PySem.W.Frag) (n:Nat) (t:TGs):TG:=fun v σ H Q=>∃ a xs,v = .ref a /\ SqT K H a xs /\ xs.length = n /\ t xs σ H Q
theorem HW {es:List Expr} {k:Nat} {t:TGs} {n:Nat} (hc:X.calm = true) (h:PGs X es t)
  (hn:(assignEach es X.env).length = n:=by rfl) (hst:(assignEach es X.env).findIdx? (·.1) = none:=by rfl):PG X (.Tuple es k pos) (Hh X.K n t):=by
 intro pins s σ H v u Q I r hw
 obtain ⟨a,xs,e1,hq,hl,hw⟩:=hw
 subst e1
 cases r
 obtain ⟨its,rv,ht,hz⟩:=I.tuple hq
 refine assign_Tuple_tuple (I.ok.hd hc) ht (by simp [hn,<- hl,rv.length]) hst fun h' hx=>?_
 have I1:Inv X pins σ H { s with heap:=h' }:=I.kept (t':=s.toks) fun b o e=>hx b o (Nat.ne_of_lt (Heap.lt_size e)) e
 exact h pins _ σ H xs _ Q I1 (by simpa using rv) hw
noncomputable def IF (to ti:TE) (t:DN):TG:=fun v σ H Q=>to σ H fun o H1=>ti σ H1 fun i H2=>t o i v H2 fun H3=>Q σ H3
theorem HP {o i:Expr} {to ti:TE} {t:DN} (ho:PE X o to) (hi:PE X i ti) (hs:Gv X t)
  (ha:∀ v,assign (.Subscript o i pos) X.env v = (do
    let ov <- holding [v] (eval o X.env)
    let iv <- holding [v,ov] (eval i X.env)
    standAt pos
    holding [v,ov,iv] (setItem ov iv v)
    release [v,ov,iv] []):=by intro _; rfl):PG X (.Subscript o i pos) (IF to ti t):=by
 intro pins s σ H v u Q I r h
 rw [ha]
 refine wpAny_bind (wpAny_holding (thn (ho pins s σ H _ I h) fun ov s1 ⟨x,H1,I1,r1,q1⟩=>?_))
 refine wpAny_bind (wpAny_holding (thn (hi pins s1 σ H1 _ I1 q1) fun iv s2 ⟨y,H2,I2,r2,q2⟩=>?_))
 refine wpAny_bind (wpAny_standAt (wpAny_bind (wpAny_holding (thn (hs pins s2 σ H2 x y v ov iv u _ I2 r1 r2 r q2) fun _ s3 ⟨H3,I3,q3⟩=>?_))))
 exact wpAny_release ⟨σ,H3,I3,q3⟩
noncomputable def xa (te:TE) (g:TG):TS:=fun D σ H=>te σ H fun x H1=>g x σ H1 D.nx
theorem HY {tg e:Expr} {te:TE} {g:TG} (he:PE X e te) (hg:PG X tg g) (hs:swapsWithSole [tg] e pos.line X.env = pure false:=by rfl) (hw:swappedStores [tg] e X.env = pure none:=by rfl)
  (h1:(assignEach [tg] X.env).map (·.2) = [assign tg X.env]:=by rfl):PS X (.Assign [tg] e pos) (xa te g):=by
 intro pins s σ H D I h
 refine wpAny_Assign_stores (thn (he pins s σ H _ I h) fun v s1 ⟨x,H1,I1,r1,q1⟩=>?_) hs hw
 rw [h1]
 exact thn (hg pins s1 σ H1 x v _ I1 r1 q1) fun _ s2 q=>q
theorem Hy {i:Nat} {x:Str} {e:Expr} {te:TE} {pos':Pos} (hN:X.N.Nodup) (hi:X.N[i]? = some x) (hx:Loc X.env.scope x) (he:PE X e te) (hs:swapsWith e (some (.Name x pos')) pos.line X.env = pure false:=by rfl) (hf:X.fn x = true \/ X.env.scope.names.lookup x = some .local:=by first | exact .inl rfl | exact .inr rfl | assumption):
  PS X (.Assign [.Name x pos'] e pos) (xa te (nr i)):=by
 intro pins s σ H D I h
 refine wpAny_Assign_Name (thn (he pins s σ H _ I h) fun v s1 ⟨y,H1,I1,r1,q1⟩=>?_) hs
 exact lW I1 hN hi hx r1 (fun s2 I2=>⟨_,H1,I2,q1⟩) hf
noncomputable def EO (i:Nat) (te:TE) (ti:TIp):TS:=fun D σ H=>∃ x,σ[i]? = some (some x) /\ te σ H fun y H1=>ti x y H1 fun z H2=>D.nx (σ.set i (some z)) H2
theorem H0 {i:Nat} {x:Str} {e:Expr} {te:TE} {op:Operator} {ti:TIp} {pos':Pos} (hN:X.N.Nodup) (hi:X.N[i]? = some x) (hx:Loc X.env.scope x) (he:PE X e te) (ho:PIp X op ti) (hf:X.fn x = true \/ X.env.scope.names.lookup x = some .local:=by first | exact .inl rfl | exact .inr rfl | assumption):
  PS X (.AugAssign (.Name x pos') op e pos) (EO i te ti):=by
 intro pins s σ H D I h
 obtain ⟨v,e1,h⟩:=h
 obtain ⟨m,hn,hl⟩:=I.loc
 have vis:Vis X.env.scope x:=by rcases hx with k | k; exact .inl k; exact .inr (.inl k)
 obtain ⟨u,r,l⟩:=hl i x v hi e1 vis
 refine wpAny_AugAssign_Name ?_
 have go:wpAny (model X.prog X.w) X.A (eval e X.env) (fun w s₂=>wpAny (model X.prog X.w) X.A (inplaceOp op u w) (fun r s₃=>wpAny (model X.prog X.w) X.A (storeName X.env x r) (fun _=>SP X pins D .next) X.xe s₃) X.xe s₂) X.xe s:=by
  refine thn (he pins s σ H _ I h) fun w s1 ⟨y,H1,I1,r1,q1⟩=>?_
  refine thn (ho pins s1 σ H1 v y u w _ I1 r r1 q1) fun z s2 ⟨zv,H2,I2,r2,q2⟩=>?_
  exact lW I2 hN hi hx r2 (fun s3 I3=>⟨_,H2,I3,q2⟩) hf
 rcases l with ⟨hk,hm⟩ | ⟨hk,c,hc,hcell⟩
 . exact wpAny_loadName_local I.ok.kind hk hn hm go
 . rcases hk with hk | hk
   . exact wpAny_loadName_cell I.ok.kind hk hc hcell go
   . rcases hx with k | k
     . have:X.env.scope.names.lookup x = some .free:=hk
       rw [k] at this; cases this
     . have:X.env.scope.names.lookup x = some .free:=hk
       rw [k] at this; cases this
noncomputable def ipI (f:Int -> Int -> Int):TIp:=fun x y H Q=>∃ i j,x = .int i /\ y = .int j /\ Q (.int (f i j)) H
theorem n6:PIp X .Add (ipI fun i j=>i + j):=by
 intro pins s σ H x y v u Q I r1 r2 h
 obtain ⟨i,j,e1,e2,q⟩:=h
 subst e1; subst e2
 obtain ⟨t,rfl⟩:=r1
 obtain ⟨t',rfl⟩:=r2
 exact iadd_int ⟨.int _,H,I.tok _,⟨_,rfl⟩,q⟩
end
section
variable {X:Cx} {pos:Pos}
noncomputable def yf (c:TT) (tb:TS):TS:=fun D σ H=>∃ W:Nat -> St -> Hp -> Prop,(∃ m,W m σ H) /\ ∀ m σ H,W m σ H ->
 c σ H fun b H1=>if b = true then ∃ N:St -> Hp -> Prop,(∀ σ' H',N σ' H' -> ∃ m',m' < m /\ W m' σ' H') /\ tb { D with nx:=N,ct:=N,bk:=D.nx } σ H1 else D.nx σ H1
theorem B9 {c:Expr} {body:List Stmt} {tc:TT} {tb:TS} (hp:PassesOwn (model X.prog X.w) X.A X.env X.xe) (hc:PT X c tc) (hb:PSs X body tb):PS X (.While c body [] pos) (yf tc tb):=by
 intro pins s σ H D I h
 obtain ⟨W,⟨m0,w0⟩,turn⟩:=h
 refine wpAny_While (codeAny_whileLoop (fun n s'=>∃ σ' H',Inv X pins σ' H' s' /\ W n σ' H') ?_ m0 ⟨σ,H,I,w0⟩)
 rintro n s1 ⟨σ1,H1,I1,w1⟩
 refine wpAny_passesOwn hp (thn (hc pins s1 σ1 H1 _ I1 (turn n σ1 H1 w1)) fun b s2 ⟨H2,I2,q2⟩=>?_)
 cases b with
 | true=>
   obtain ⟨N,hN,q2⟩:=q2
   rw [if_pos rfl]
   refine wpAny_passesOwn hp (thn (hb pins s2 σ1 H2 _ I2 q2) fun f s3 q3=>?_)
   cases f with
   | next=>
     obtain ⟨σ3,H3,I3,n3⟩:=q3
     obtain ⟨m',hm,w3⟩:=hN σ3 H3 n3
     exact ⟨m',hm,σ3,H3,I3,w3⟩
   | cont=>
     obtain ⟨σ3,H3,I3,n3⟩:=q3
     obtain ⟨m',hm,w3⟩:=hN σ3 H3 n3
     exact ⟨m',hm,σ3,H3,I3,w3⟩
   | brk=>exact q3
   | ret v=>exact q3
 | false=>
   rw [if_neg Bool.false_ne_true]
   exact wpAny_execs_nil ⟨σ1,H2,I2,q2⟩
end
structure It where
 go:Nat -> Hp -> Prop
 yld:Nat -> Hp -> V -> Hp -> Prop
 stop:Nat -> Hp -> Prop
noncomputable def qH (X:Cx) (pins:List (Addr × Obj)) (H:Hp) (b:Addr):Prop:=
 H b = none /\ b ≠ X.env.locals /\ b ∉ X.fs /\ (b ∈ X.ex \/ X.s₀.heap.objs.size <= b) /\ (∀ x c,X.env.cells.lookup x = some c -> c ≠ b) /\ ∀ p ∈ X.pn ++ pins,p.1 ≠ b
theorem Inv.EF {X:Cx} {pins:List (Addr × Obj)} {σ:St} {H H':Hp} {s:Shared} {b:Addr} (I:Inv X pins σ H s) (hb:s.heap.objs.size <= b) (hn:H' b = none):qH X pins H' b:=by
 refine ⟨hn,Nat.ne_of_gt (Nat.lt_of_lt_of_le I.lt hb),I.KU hb,.inr (Nat.le_trans I.sz hb),fun x c e z=>?_,fun p hp z=>?_⟩
 . obtain ⟨v,q⟩:=I.cell x c e
   exact absurd (Nat.lt_of_lt_of_le q.lt (by rw [z]; exact hb)) (Nat.lt_irrefl _)
 . exact absurd (Nat.lt_of_lt_of_le (Heap.lt_size (I.pin p hp).1) (by rw [z]; exact hb)) (Nat.lt_irrefl _)
structure Turn (P:Program) (w:World) (K:PySem.W.Frag) (tg:Expr) (J:It) (fp:List Addr) (it:Addr) (tn:Nat -> Heap -> Prop):Prop where
 mem:it ∈ fp
 obj:∀ i h,tn i h -> ∀ b ∈ fp,∃ o,h.get? b = some o /\ ∀ v,o.data ≠ .cell v
 keep:∀ i h h',tn i h -> (∀ b ∈ fp,∀ o,h.get? b = some o -> h'.get? b = some o) -> tn i h'
 item:∀ (X:Cx),X.prog = P -> X.w = w -> X.K = K -> X.calm = true -> ∀ (i:Nat) (pins:List (Addr × Obj)) (s:Shared) (σ:St) (H:Hp) (E:Value -> Shared -> Prop),Inv X pins σ H s -> (∀ b ∈ fp,qH X pins H b) -> tn i s.heap -> J.go i H ->
  wpAny (model P w) X.A (pyNext (.ref it)) (fun r s1=>∃ u,r = some u /\
   wpAny (model P w) X.A (letOwnedTupleGo tg (.ref it) u) (fun _ s2=>∃ x H',Inv X pins σ H' s2 /\ RelV x u /\ J.yld i H x H' /\ tn (i + 1) s2.heap /\ ∀ b ∈ fp,H' b = none) E s1) E s
 done:∀ (X:Cx),X.prog = P -> X.w = w -> X.K = K -> X.calm = true -> ∀ (i:Nat) (pins:List (Addr × Obj)) (s:Shared) (σ:St) (H:Hp) (E:Value -> Shared -> Prop),Inv X pins σ H s -> (∀ b ∈ fp,qH X pins H b) -> tn i s.heap -> J.stop i H ->
  wpAny (model P w) X.A (pyNext (.ref it)) (fun r s1=>r = none /\ Inv X pins σ H s1) E s
 self:∀ (A:Around) (i:Nat) (s:Shared) (Q:Value -> Shared -> Prop) (E:Value -> Shared -> Prop),tn i s.heap -> Q (.ref it) s -> wpAny (model P w) A (pyIter (.ref it)) Q E s
abbrev TI:=St -> Hp -> (It -> Hp -> Prop) -> Prop
noncomputable def PIE (X:Cx) (pins:List (Addr × Obj)) (σ:St) (tg:Expr) (R:It -> Hp -> Prop) (itv:Value) (s2:Shared):Prop:=
 ∃ (it:Addr) (fp:List Addr) (tn:Nat -> Heap -> Prop) (J:It) (H':Hp),itv = .ref it /\ Inv X pins σ H' s2 /\ Turn X.prog X.w X.K tg J fp it tn /\ tn 0 s2.heap /\ (∀ b ∈ fp,qH X pins H' b) /\ R J H'
noncomputable def PI (X:Cx) (tg iter:Expr) (wi:TI):Prop:=
 ∀ (pins:List (Addr × Obj)) (s:Shared) (σ:St) (H:Hp) (R:It -> Hp -> Prop),Inv X pins σ H s -> wi σ H R ->
   wpAny (model X.prog X.w) X.A (eval iter X.env) (fun v s1=>wpAny (model X.prog X.w) X.A (pyIter v) (PIE X pins σ tg R) X.xe s1) X.xe s
theorem CF {M:Model} {A:Around} {E:Value -> Shared -> Prop} {s:Shared} {tg:Expr} {it:Addr} {u:Value} {o:Obj} {n:String} {vs:Array Value} {Q:Unit -> Shared -> Prop} (ho:s.heap.get? it = some o) (hc:o.cls = .type n) (hd:o.data = .fields vs)
  (hn:["enumerate","zip","dict_itemiterator","dict_reverseitemiterator","odict_iterator","itertools.zip_longest","itertools.pairwise"].contains n = false) (hQ:Q () s):wpAny M A (letOwnedTupleGo tg (.ref it) u) Q E s:=by
 unfold letOwnedTupleGo
 cases tg <;> first
  | exact wpAny_pure hQ
  | (cases u <;> first
      | exact wpAny_pure hQ
      | (refine wpAny_bind (wpAny_load ho ?_)
         rw [hc,hd]
         show wpAny M A (if (["enumerate","zip","dict_itemiterator","dict_reverseitemiterator","odict_iterator","itertools.zip_longest","itertools.pairwise"].contains n && vs[0]? == some (rawInt _)) = true then _ else _) Q E s
         rw [if_neg (by intro h; rw [hn,Bool.false_and] at h; cases h)]
         exact wpAny_pure hQ))
noncomputable def Itl (K:PySem.W.Frag) (a:Addr):It:=
 ⟨fun i H=>∃ xs x,SqL K H a xs /\ xs[i]? = some x,fun i H x H'=>H' = H /\ ∀ xs,SqL K H a xs -> xs[i]? = some x,fun i H=>∃ xs,SqL K H a xs /\ xs.length <= i⟩
noncomputable def Itt (K:PySem.W.Frag) (a:Addr):It:=
 ⟨fun i H=>∃ xs x,SqT K H a xs /\ xs[i]? = some x,fun i H x H'=>H' = H /\ ∀ xs,SqT K H a xs -> xs[i]? = some x,fun i H=>∃ xs,SqT K H a xs /\ xs.length <= i⟩
noncomputable def Itr (lo:Int) (n:Nat):It:=⟨fun i _=>i < n,fun i H x H'=>H' = H /\ x = .int (lo + i),fun i _=>n <= i⟩
theorem AY {P:Program} {w:World} {K:PySem.W.Frag} {tg:Expr} (a it:Addr):Turn P w K tg (Itl K a) [it] it (fun i h=>h.IsListIter it a i) where
 mem:=by simp
 obj:=fun i h st b hb=>by
  have e:b = it:=by simpa using hb
  subst e
  obtain ⟨o,e,c,d⟩:=st
  exact ⟨o,e,fun v z=>by rw [d] at z; cases z⟩
 keep:=fun i h h' st k=>st.at fun o e=>k it (by simp) o e
 item:=by
  intro X hP hw hK hc i pins s σ H E I hf st hg
  subst hP hw hK
  obtain ⟨xs,x,hq,hx⟩:=hg
  obtain ⟨its,rv,p,hz⟩:=I.list hq
  obtain ⟨u,hu,ru⟩:=rv.get hx
  obtain ⟨f0,f1,f2,f3,f4,f5⟩:=hf it (by simp)
  refine wpAny_pyNext_list_item st p.isList (x:=u) (by simpa using hu) fun h' st' sb=>?_
  have I1:Inv X pins σ H { s with heap:=h' }:=I.turned (t':=s.toks) (fun b o hb e=>(sb.2 b hb).trans e) f0 f1 f3 f4 f5
  obtain ⟨o,e,c,d⟩:=id st'
  exact ⟨u,rfl,CF (s:={ s with heap:=h' }) e c d (by decide) ⟨x,H,I1,ru,⟨rfl,fun ys hy=>by rw [I.wQ hy hq]; exact hx⟩,st',fun b hb=>(hf b hb).1⟩⟩
 done:=by
  intro X hP hw hK hc i pins s σ H E I hf st hg
  subst hP hw hK
  obtain ⟨xs,hq,hx⟩:=hg
  obtain ⟨its,rv,p,hz⟩:=I.list hq
  obtain ⟨f0,f1,f2,f3,f4,f5⟩:=hf it (by simp)
  have hl:=rv.length
  exact wpAny_pyNext_list_end (I.ok.hd hc) st p.isList (by simp; omega) fun h' eb=>⟨rfl,I.turned (t':=s.toks) (fun b o hb e=>eb b o hb e) f0 f1 f3 f4 f5⟩
 self:=fun _ _ _ _ _ st h=>wpAny_pyIter_listiter st h
theorem yd {P:Program} {w:World} {K:PySem.W.Frag} {tg:Expr} (a it:Addr):Turn P w K tg (Itt K a) [it] it (fun i h=>h.IsTupleIter it a i) where
 mem:=by simp
 obj:=fun i h st b hb=>by
  have e:b = it:=by simpa using hb
  subst e
  obtain ⟨o,e,c,d⟩:=st
  exact ⟨o,e,fun v z=>by rw [d] at z; cases z⟩
 keep:=fun i h h' st k=>st.at fun o e=>k it (by simp) o e
 item:=by
  intro X hP hw hK hc i pins s σ H E I hf st hg
  subst hP hw hK
  obtain ⟨xs,x,hq,hx⟩:=hg
  obtain ⟨its,rv,p,hz⟩:=I.tuple hq
  obtain ⟨u,hu,ru⟩:=rv.get hx
  obtain ⟨f0,f1,f2,f3,f4,f5⟩:=hf it (by simp)
  refine wpAny_pyNext_tuple_item st (show s.heap.IsTuple a its.toArray from p) (x:=u) (by simpa using hu) fun h' st' sb=>?_
  have I1:Inv X pins σ H { s with heap:=h' }:=I.turned (t':=s.toks) (fun b o hb e=>(sb.2 b hb).trans e) f0 f1 f3 f4 f5
  obtain ⟨o,e,c,d⟩:=id st'
  exact ⟨u,rfl,CF (s:={ s with heap:=h' }) e c d (by decide) ⟨x,H,I1,ru,⟨rfl,fun ys hy=>by rw [I.Bd hy hq]; exact hx⟩,st',fun b hb=>(hf b hb).1⟩⟩
 done:=by
  intro X hP hw hK hc i pins s σ H E I hf st hg
  subst hP hw hK
  obtain ⟨xs,hq,hx⟩:=hg
  obtain ⟨its,rv,p,hz⟩:=I.tuple hq
  obtain ⟨f0,f1,f2,f3,f4,f5⟩:=hf it (by simp)
  have hl:=rv.length
  exact wpAny_pyNext_tuple_end (I.ok.hd hc) st (show s.heap.IsTuple a its.toArray from p) (by simp; omega) fun h' eb=>⟨rfl,I.turned (t':=s.toks) (fun b o hb e=>eb b o hb e) f0 f1 f3 f4 f5⟩
 self:=fun _ _ _ _ _ st h=>wpAny_pyIter_tupleiter st h
theorem y0 {P:Program} {w:World} {K:PySem.W.Frag} {tg:Expr} (it:Addr) (lo:Int) (n:Nat):Turn P w K tg (Itr lo n) [it] it (fun i h=>IsRangeIter h it (lo + (i:Nat) * 1) ((n:Int) - (i:Nat)) 1) where
 mem:=by simp
 obj:=fun i h st b hb=>by
  have e:b = it:=by simpa using hb
  subst e
  exact ⟨_,st,fun v z=>by
   have z':Data.fields _ = Data.cell v:=z
   cases z'⟩
 keep:=fun i h h' st k=>k it (by simp) _ st
 item:=by
  intro X hP hw hK hc i pins s σ H E I hf st hg
  subst hP hw hK
  obtain ⟨f0,f1,f2,f3,f4,f5⟩:=hf it (by simp)
  have W:=Walks.range (prog:=X.prog) (w:=X.w) (I.ok.hd hc) it lo 1 n
  refine W.item i s _ _ hg st fun v h' tk hv st' kk=>?_
  obtain ⟨t,rfl⟩:=hv
  have I1:Inv X pins σ H { s with heap:=h',toks:=tk }:=I.turned (fun b o hb e=>kk b o (by simpa using hb) e) f0 f1 f3 f4 f5
  refine ⟨_,rfl,CF (s:={ s with heap:=h',toks:=tk }) (n:="range_iterator") st' rfl rfl (by decide) ⟨.int (lo + i),H,I1,⟨t,?_⟩,⟨rfl,rfl⟩,st',fun b hb=>(hf b hb).1⟩⟩
  rw [Int.mul_one]
 done:=by
  intro X hP hw hK hc i pins s σ H E I hf st hg
  subst hP hw hK
  obtain ⟨f0,f1,f2,f3,f4,f5⟩:=hf it (by simp)
  exact wpAny_pyNext_range_end (I.ok.hd hc) st (by have:n <= i:=hg; omega) fun h' eb=>⟨rfl,I.turned (t':=s.toks) (fun b o hb e=>eb b o hb e) f0 f1 f3 f4 f5⟩
 self:=fun _ _ _ _ _ st h=>wpAny_pyIter_rangeiter st h
end L2
namespace L2
open PySem PySem.Spec PyProof.Rows
section
variable {X:Cx} {tg:Expr}
noncomputable def xU (K:PySem.W.Frag) (tl:TE):TI:=fun σ H R=>tl σ H fun x H1=>∃ a,x = .ref a /\ (∃ xs,SqL K H1 a xs) /\ R (Itl K a) H1
noncomputable def Ig (K:PySem.W.Frag) (tl:TE):TI:=fun σ H R=>tl σ H fun x H1=>∃ a,x = .ref a /\ (∃ xs,SqT K H1 a xs) /\ R (Itt K a) H1
theorem Eb {l:Expr} {tl:TE} (hl:PE X l tl):PI X tg l (xU X.K tl):=by
 intro pins s σ H R I h
 refine thn (hl pins s σ H _ I h) fun v s1 ⟨x,H1,I1,r1,q1⟩=>?_
 obtain ⟨a,e,⟨xs,hq⟩,q⟩:=q1
 subst e
 cases r1
 obtain ⟨its,rv,p,hz⟩:=I1.list hq
 refine wpAny_pyIter_list p.isList ?_
 refine ⟨s1.heap.objs.size,[s1.heap.objs.size],_,_,H1,rfl,I1.kept (t':=s1.toks) fun b o e=>Heap.get?_push_of_some _ e,AY a _,⟨_,Heap.get?_push_size _ rfl,rfl,rfl⟩,fun b hb=>?_,q⟩
 have e:b = s1.heap.objs.size:=by simpa using hb
 subst e
 exact I1.EF (Nat.le_refl _) (I1.hok.fresh (Nat.le_refl _))
theorem Hn {l:Expr} {tl:TE} (hl:PE X l tl):PI X tg l (Ig X.K tl):=by
 intro pins s σ H R I h
 refine thn (hl pins s σ H _ I h) fun v s1 ⟨x,H1,I1,r1,q1⟩=>?_
 obtain ⟨a,e,⟨xs,hq⟩,q⟩:=q1
 subst e
 cases r1
 obtain ⟨its,rv,p,hz⟩:=I1.tuple hq
 refine wpAny_pyIter_tuple (show s1.heap.IsTuple a its.toArray from p) ?_
 refine ⟨s1.heap.objs.size,[s1.heap.objs.size],_,_,H1,rfl,I1.kept (t':=s1.toks) fun b o e=>Heap.get?_push_of_some _ e,yd a _,⟨_,Heap.get?_push_size _ rfl,rfl,rfl⟩,fun b hb=>?_,q⟩
 have e:b = s1.heap.objs.size:=by simpa using hb
 subst e
 exact I1.EF (Nat.le_refl _) (I1.hok.fresh (Nat.le_refl _))
theorem Dn {pins:List (Addr × Obj)} {σ:St} {H:Hp} {s:Shared} {R:It -> Hp -> Prop} {E:Value -> Shared -> Prop} {lo hi:Int} {t u v:Tok} {tk:Nat} (I:Inv X pins σ H s) (h1:-(2 ^ 62) <= lo) (h2:lo < 2 ^ 62) (h3:-(2 ^ 62) <= hi) (h4:hi < 2 ^ 62)
  (q:R (Itr lo (hi - lo).toNat) H):wpAny (model X.prog X.w) X.A (pyIter (.ref s.heap.objs.size)) (PIE X pins σ tg R) E { s with heap:=s.heap.push { cls:=.type "range",data:=.fields #[.int lo t,.int hi u,.int 1 v] },toks:=tk }:=by
 refine wpAny_pyIter_range (IsRange.new ..) (small_one h1 h2 h3 h4) ?_
 have I1:Inv X pins σ H { s with heap:=s.heap.push { cls:=.type "range",data:=.fields #[.int lo t,.int hi u,.int 1 v] },toks:=tk }:=I.kept fun b o e=>Heap.get?_push_of_some _ e
 refine ⟨(s.heap.push { cls:=.type "range",data:=.fields #[.int lo t,.int hi u,.int 1 v] }).objs.size,[(s.heap.push { cls:=.type "range",data:=.fields #[.int lo t,.int hi u,.int 1 v] }).objs.size],_,_,H,rfl,
  I1.kept (t':=tk) fun b o e=>Heap.get?_push_of_some _ e,y0 _ lo (hi - lo).toNat,?_,fun b hb=>?_,q⟩
 . have e1:lo + ((0:Nat):Int) * 1 = lo:=by simp
   have e2:(((hi - lo).toNat:Nat):Int) - ((0:Nat):Int) = Builtin.Range.rangeSize lo hi 1:=by rw [rangeSize_one]; split <;> omega
   show IsRangeIter _ _ (lo + ((0:Nat):Int) * 1) ((((hi - lo).toNat:Nat):Int) - ((0:Nat):Int)) 1
   rw [e1,e2]
   exact Heap.get?_push_size _ rfl
 . have e:b = (s.heap.push { cls:=.type "range",data:=.fields #[.int lo t,.int hi u,.int 1 v] }).objs.size:=by simpa using hb
   subst e
   exact I1.EF (Nat.le_refl _) (I1.hok.fresh (Nat.le_refl _))
noncomputable def zS (ta:TA):TI:=fun σ H R=>ta σ H fun vs H1=>∃ j:Int,vs = [.int j] /\ -(2 ^ 62) <= j /\ j < 2 ^ 62 /\ R (Itr 0 j.toNat) H1
theorem AF {a:Expr} {ta:TA} {p pos:Pos} (hg:Gl X "range") (hm:X.mg "range" = none) (ha:PA X [a] ta) (hs:starEach [a] X.env = [(false,eval a X.env)]:=by rfl):PI X tg (.Call (.Name "range" p) [a] [] pos) (zS ta):=by
 intro pins s σ H R I h
 refine Call_ (sf I hg hm boot_range (PyProof.Rows.callWith_type1 (thn (ha pos pins s σ H _ I h) fun us s1 ⟨vs,H1,I1,r1,q1⟩=>?_) hs rfl))
 obtain ⟨j,e,q1,q2,q⟩:=q1
 subst e
 cases r1 with
 | cons r rr=>
   cases rr
   obtain ⟨t,rfl⟩:=r
   exact call_range_1 (Dn I1 (by omega) (by omega) q1 q2 (by simpa using q))
noncomputable def B4 (wi:TI) (g:TG) (tb:TS):TS:=fun D σ H=>wi σ H fun J H1=>∃ W:Nat -> Nat -> St -> Hp -> Prop,(∃ m,W 0 m σ H1) /\ ∀ i m σ H,W i m σ H ->
 (J.stop i H /\ D.nx σ H) \/ (J.go i H /\ ∃ N:St -> Hp -> Prop,(∀ σ' H',N σ' H' -> ∃ m',m' < m /\ W (i + 1) m' σ' H') /\ ∀ x H',J.yld i H x H' -> g x σ H' fun σ2 H2=>tb { D with nx:=N,ct:=N,bk:=D.nx } σ2 H2)
noncomputable def vO (fp:List Addr) (h:Heap):List (Addr × Obj):=fp.filterMap fun b=>(h.get? b).map fun o=>(b,o)
theorem iu {fp:List Addr} {h:Heap} {b:Addr} {o:Obj} (hb:b ∈ fp) (e:h.get? b = some o):(b,o) ∈ vO fp h:=List.mem_filterMap.mpr ⟨b,hb,by rw [e]; rfl⟩
theorem AS {fp:List Addr} {h:Heap} {p:Addr × Obj} (hp:p ∈ vO fp h):p.1 ∈ fp /\ h.get? p.1 = some p.2:=by
 obtain ⟨b,hb,e⟩:=List.mem_filterMap.mp hp
 cases q:h.get? b with
 | none=>rw [q] at e; cases e
 | some o=>
   rw [q] at e
   have e':(b,o) = p:=Option.some.inj e
   subst e'
   exact ⟨hb,q⟩
theorem Inv.pinned {pins:List (Addr × Obj)} {σ:St} {H:Hp} {s:Shared} {fp:List Addr} (I:Inv X pins σ H s) (hf:∀ b ∈ fp,qH X pins H b) (ho:∀ b ∈ fp,∃ o,s.heap.get? b = some o /\ ∀ v,o.data ≠ .cell v):Inv X (pins ++ vO fp s.heap) σ H s:=
 I.zF fun p hp=>(List.mem_append.mp hp).elim (fun z=>I.pin p (List.mem_append_right _ z)) fun z=>by
  obtain ⟨hb,e⟩:=AS z
  obtain ⟨f0,f1,f2,_⟩:=hf p.1 hb
  obtain ⟨o,e',d⟩:=ho p.1 hb
  rw [e] at e'; cases e'
  exact ⟨e,f0,f1,f2,d⟩
theorem Inv.mi {pins pl:List (Addr × Obj)} {σ:St} {H:Hp} {s:Shared} (I:Inv X (pins ++ pl) σ H s):Inv X pins σ H s:=I.zF fun p hp=>I.pin p (List.mem_append_right _ (List.mem_append_left _ hp))
theorem HX {iter:Expr} {body:List Stmt} {wi:TI} {g:TG} {tb:TS} {pos:Pos} (hp:PassesOwn (model X.prog X.w) X.A X.env X.xe) (hc:X.calm = true) (hi:PI X tg iter wi) (hg:PG X tg g) (hb:PSs X body tb)
  (hs:∀ x,foldedSetIterable iter X.env x = pure x:=by intro _; rfl):PS X (.For tg iter body [] pos) (B4 wi g tb):=by
 intro pins s σ H D I h
 refine wpAny_For (thn (hi pins s σ H _ I h) fun v s1 h1=>thn h1 fun itv s2 h2=>?_) hs
 obtain ⟨it,fp,tn,J,H2,e,I2,T,st2,f2,W,⟨m0,w0⟩,turn⟩:=h2
 subst e
 have stat:∀ {H':Hp},(∀ b ∈ fp,H' b = none) -> ∀ b ∈ fp,qH X pins H' b:=fun hn b hb=>⟨hn b hb,(f2 b hb).2⟩
 refine codeAny_forLoop_any (fun n s'=>∃ i σ' H',Inv X pins σ' H' s' /\ tn i s'.heap /\ (∀ b ∈ fp,H' b = none) /\ W i n σ' H') ?_ m0 ⟨0,σ,H2,I2,st2,fun b hb=>(f2 b hb).1,w0⟩
 rintro n s3 ⟨i,σ3,H3,I3,st3,fr3,w3⟩
 rcases turn i n σ3 H3 w3 with ⟨stop,qn⟩ | ⟨go,N,hN,step⟩
 . refine wpAny_passesOwn hp (thn (T.done X rfl rfl rfl hc i pins s3 σ3 H3 X.xe I3 (stat fr3) st3 stop) fun r s4 ⟨hr,I4⟩=>?_)
   subst hr
   exact wpAny_execs_nil ⟨σ3,H3,I4,qn⟩
 . refine wpAny_passesOwn hp (thn (T.item X rfl rfl rfl hc i pins s3 σ3 H3 X.xe I3 (stat fr3) st3 go) fun r s4 ⟨u,hr,h4⟩=>?_)
   subst hr
   refine wpAny_passesOwn hp (thn h4 fun _ s5 ⟨x,H5,I5,r5,y5,st5,fr5⟩=>?_)
   have I5':=I5.pinned (stat fr5) (T.obj _ _ st5)
   refine wpAny_passesOwn hp (thn (hg _ s5 σ3 H5 x u _ I5' r5 (step x H5 y5)) fun _ s6 ⟨σ6,H6,I6,q6⟩=>?_)
   refine wpAny_passesOwn hp (thn (hb _ s6 σ6 H6 _ I6 q6) fun f s7 q7=>?_)
   have again:∀ {σ7:St} {H7:Hp},Inv X (pins ++ vO fp s5.heap) σ7 H7 s7 -> N σ7 H7 -> ∃ m,m < n /\ ∃ i σ' H',Inv X pins σ' H' s7 /\ tn i s7.heap /\ (∀ b ∈ fp,H' b = none) /\ W i m σ' H':=fun {σ7 H7} I7 n7=>by
    obtain ⟨m',hm,w7⟩:=hN σ7 H7 n7
    refine ⟨m',hm,i + 1,σ7,H7,I7.mi,T.keep _ _ _ st5 fun b hb o e=>(I7.pin (b,o) (List.mem_append_right _ (List.mem_append_right _ (iu hb e)))).1,fun b hb=>?_,w7⟩
    obtain ⟨o,e,d⟩:=T.obj _ _ st5 b hb
    exact (I7.pin (b,o) (List.mem_append_right _ (List.mem_append_right _ (iu hb e)))).2.1
   cases f with
   | next=>obtain ⟨σ7,H7,I7,n7⟩:=q7; exact again I7 n7
   | cont=>obtain ⟨σ7,H7,I7,n7⟩:=q7; exact again I7 n7
   | brk=>obtain ⟨σ7,H7,I7,q7⟩:=q7; exact ⟨σ7,H7,I7.mi,q7⟩
   | ret v=>obtain ⟨x7,σ7,H7,I7,r7,q7⟩:=q7; exact ⟨x7,σ7,H7,I7.mi,r7,q7⟩
end
theorem Cp {K:PySem.W.Frag} {a:Addr} {xs:List V} {g:TG} {tb:TS} {D:Ends} {σ:St} {H:Hp} (Pv:Nat -> St -> Hp -> Prop) (h0:Pv 0 σ H) (hl:∀ i σ H,i <= xs.length -> Pv i σ H -> SqL K H a xs)
  (hs:∀ i x σ H,xs[i]? = some x -> Pv i σ H -> g x σ H fun σ2 H2=>tb { D with nx:=Pv (i + 1),ct:=Pv (i + 1),bk:=D.nx } σ2 H2) (hd:∀ σ H,Pv xs.length σ H -> D.nx σ H):
  ∃ W:Nat -> Nat -> St -> Hp -> Prop,(∃ m,W 0 m σ H) /\ ∀ i m σ H,W i m σ H ->
    ((Itl K a).stop i H /\ D.nx σ H) \/ ((Itl K a).go i H /\ ∃ N:St -> Hp -> Prop,(∀ σ' H',N σ' H' -> ∃ m',m' < m /\ W (i + 1) m' σ' H') /\ ∀ x H',(Itl K a).yld i H x H' -> g x σ H' fun σ2 H2=>tb { D with nx:=N,ct:=N,bk:=D.nx } σ2 H2):=by
 refine ⟨fun i m σ H=>m = xs.length - i /\ i <= xs.length /\ Pv i σ H,⟨xs.length,by simp,Nat.zero_le _,h0⟩,?_⟩
 rintro i m σ H ⟨rfl,hi,p⟩
 have q:=hl i σ H hi p
 by_cases hlt:i < xs.length
 . refine .inr ⟨⟨xs,xs[i],q,by simp [hlt]⟩,Pv (i + 1),fun σ' H' p'=>⟨xs.length - (i + 1),by omega,rfl,hlt,p'⟩,fun x H' y=>?_⟩
   obtain ⟨e,y⟩:=y
   subst e
   exact hs i x σ _ (y xs q) p
 . have e:i = xs.length:=by omega
   subst e
   exact .inl ⟨⟨xs,q,Nat.le_refl _⟩,hd σ H p⟩
theorem Ay {lo:Int} {n:Nat} {g:TG} {tb:TS} {D:Ends} {σ:St} {H:Hp} (Pv:Nat -> St -> Hp -> Prop) (h0:Pv 0 σ H)
  (hs:∀ i σ H,i < n -> Pv i σ H -> g (.int (lo + i)) σ H fun σ2 H2=>tb { D with nx:=Pv (i + 1),ct:=Pv (i + 1),bk:=D.nx } σ2 H2) (hd:∀ σ H,Pv n σ H -> D.nx σ H):
  ∃ W:Nat -> Nat -> St -> Hp -> Prop,(∃ m,W 0 m σ H) /\ ∀ i m σ H,W i m σ H ->
    ((Itr lo n).stop i H /\ D.nx σ H) \/ ((Itr lo n).go i H /\ ∃ N:St -> Hp -> Prop,(∀ σ' H',N σ' H' -> ∃ m',m' < m /\ W (i + 1) m' σ' H') /\ ∀ x H',(Itr lo n).yld i H x H' -> g x σ H' fun σ2 H2=>tb { D with nx:=N,ct:=N,bk:=D.nx } σ2 H2):=by
 refine ⟨fun i m σ H=>m = n - i /\ i <= n /\ Pv i σ H,⟨n,by simp,Nat.zero_le _,h0⟩,?_⟩
 rintro i m σ H ⟨rfl,hi,p⟩
 by_cases hlt:i < n
 . refine .inr ⟨hlt,Pv (i + 1),fun σ' H' p'=>⟨n - (i + 1),by omega,rfl,hlt,p'⟩,fun x H' y=>?_⟩
   obtain ⟨e,y⟩:=y
   subst e y
   exact hs i σ _ hlt p
 . have e:i = n:=by omega
   subst e
   exact .inl ⟨Nat.le_refl _,hd σ H p⟩
end L2
namespace L2
open PySem PySem.Spec PyProof.Rows
abbrev R2:=V -> V -> Hp -> VK -> Prop
noncomputable def OpR (X:Cx) (f:Value -> Value -> Sem Value) (r:R2):Prop:=
 ∀ (pins:List (Addr × Obj)) (s:Shared) (σ:St) (H:Hp) (x y:V) (v u:Value) (Q:VK),Inv X pins σ H s -> RelV x v -> RelV y u -> r x y H Q ->
   wpAny (model X.prog X.w) X.A (f v u) (EP X pins σ Q) X.xe s
noncomputable def UnR (X:Cx) (f:Value -> Sem Value) (r:V -> Hp -> VK -> Prop):Prop:=
 ∀ (pins:List (Addr × Obj)) (s:Shared) (σ:St) (H:Hp) (x:V) (v:Value) (Q:VK),Inv X pins σ H s -> RelV x v -> r x H Q ->
   wpAny (model X.prog X.w) X.A (f v) (EP X pins σ Q) X.xe s
noncomputable def oS (X:Cx) (f:Value) (r:List V -> Hp -> VK -> Prop):Prop:=
 ∀ (pins:List (Addr × Obj)) (s:Shared) (σ:St) (H:Hp) (xs:List V) (us:List Value) (Q:VK),Inv X pins σ H s -> Vals xs us -> r xs H Q ->
   wpAny (model X.prog X.w) X.A (call f us) (EP X pins σ Q) X.xe s
noncomputable def KY (X:Cx) (r:V -> Hp -> (Bool -> Hp -> Prop) -> Prop):Prop:=
 ∀ (pins:List (Addr × Obj)) (s:Shared) (σ:St) (H:Hp) (x:V) (v:Value) (Q:Bool -> Hp -> Prop),Inv X pins σ H s -> RelV x v -> r x H Q ->
   wpAny (model X.prog X.w) X.A (truthy v) (TP X pins σ Q) X.xe s
noncomputable def tOp (r:R2) (ta tb:TE):TE:=fun σ H Q=>ta σ H fun x H1=>tb σ H1 fun y H2=>r x y H2 Q
noncomputable def tUn (r:V -> Hp -> VK -> Prop) (ta:TE):TE:=fun σ H Q=>ta σ H fun x H1=>r x H1 Q
noncomputable def rI (C:Int -> Int -> Prop) (g:Int -> Int -> V):R2:=fun x y H Q=>∃ i j,x = .int i /\ y = .int j /\ C i j /\ Q (g i j) H
noncomputable def rI0 (g:Int -> Int -> V):R2:=fun x y H Q=>∃ i j,x = .int i /\ y = .int j /\ Q (g i j) H
noncomputable def rU (g:Int -> V):V -> Hp -> VK -> Prop:=fun x H Q=>∃ i,x = .int i /\ Q (g i) H
section
variable {X:Cx} {a b c:Expr} {ta tb tc:TE} {pos:Pos}
theorem GR (ha:PE X a ta) (hb:PE X b tb) {pins:List (Addr × Obj)} {s:Shared} {σ:St} {H:Hp} {R:V -> V -> Hp -> Prop} (I:Inv X pins σ H s)
  (h:ta σ H fun x H1=>tb σ H1 fun y H2=>R x y H2) {Q:Value -> Shared -> Prop} {f:Value -> Value -> Sem Value}
  (hf:∀ v u s2 x y H2,Inv X pins σ H2 s2 -> RelV x v -> RelV y u -> R x y H2 -> wpAny (model X.prog X.w) X.A (f v u) Q X.xe s2):
  wpAny (model X.prog X.w) X.A (eval a X.env) (fun v s₁=>wpAny (model X.prog X.w) X.A (eval b X.env) (fun u s₂=>wpAny (model X.prog X.w) X.A (f v u) Q X.xe s₂) X.xe s₁) X.xe s:=by
 refine thn (ha pins s σ H _ I h) fun v s1 ⟨x,H1,I1,r1,q1⟩=>?_
 refine thn (hb pins s1 σ H1 _ I1 q1) fun u s2 ⟨y,H2,I2,r2,q2⟩=>?_
 exact hf v u s2 x y H2 I2 r1 r2 q2
theorem Je {op:Operator} {r:R2} (ho:OpR X (binaryOp op) r) (ha:PE X a ta) (hb:PE X b tb):PE X (.BinOp a op b pos) (tOp r ta tb):=by
 intro pins s σ H Q I h
 exact wpAny_BinOp (GR ha hb I h fun v u s2 x y H2 I2 rx ry q=>ho pins s2 σ H2 x y v u Q I2 rx ry q)
theorem Kc {op:UnaryOp} {r:V -> Hp -> VK -> Prop} (ho:UnR X (unaryOp op) r) (ha:PE X a ta):PE X (.UnaryOp op a pos) (tUn r ta):=by
 intro pins s σ H Q I h
 exact UnaryOp_ (thn (ha pins s σ H _ I h) fun v s1 ⟨x,H1,I1,r1,q1⟩=>ho pins s1 σ H1 x v Q I1 r1 q1)
theorem opI {f:Value -> Value -> Sem Value} {C:Int -> Int -> Prop} {g:Int -> Int -> Int}
  (rule:∀ (i j:Int) (t u:Tok) (s:Shared) (Q:Value -> Shared -> Prop) (E:Value -> Shared -> Prop),C i j -> Q (.int (g i j) s.toks) { s with toks:=s.toks + 1 } -> wpAny (model X.prog X.w) X.A (f (.int i t) (.int j u)) Q E s):
  OpR X f (rI C fun i j=>.int (g i j)):=by
 intro pins s σ H x y v u Q I rx ry h
 obtain ⟨i,j,rfl,rfl,hc,q⟩:=h
 obtain ⟨t,rfl⟩:=rx
 obtain ⟨t',rfl⟩:=ry
 exact rule i j t t' s _ _ hc ⟨.int (g i j),H,I.tok _,⟨_,rfl⟩,q⟩
theorem Ka {f:Value -> Value -> Sem Value} {g:Int -> Int -> Int}
  (rule:∀ (i j:Int) (t u:Tok) (s:Shared) (Q:Value -> Shared -> Prop) (E:Value -> Shared -> Prop),Q (.int (g i j) s.toks) { s with toks:=s.toks + 1 } -> wpAny (model X.prog X.w) X.A (f (.int i t) (.int j u)) Q E s):
  OpR X f (rI0 fun i j=>.int (g i j)):=by
 intro pins s σ H x y v u Q I rx ry h
 obtain ⟨i,j,rfl,rfl,q⟩:=h
 obtain ⟨t,rfl⟩:=rx
 obtain ⟨t',rfl⟩:=ry
 exact rule i j t t' s _ _ ⟨.int (g i j),H,I.tok _,⟨_,rfl⟩,q⟩
theorem EW {f:Value -> Value -> Sem Value} {g:Int -> Int -> Bool}
  (rule:∀ (i j:Int) (t u:Tok) (s:Shared) (Q:Value -> Shared -> Prop) (E:Value -> Shared -> Prop),Q (.bool (g i j)) s -> wpAny (model X.prog X.w) X.A (f (.int i t) (.int j u)) Q E s):
  OpR X f (rI0 fun i j=>.bl (g i j)):=by
 intro pins s σ H x y v u Q I rx ry h
 obtain ⟨i,j,rfl,rfl,q⟩:=h
 obtain ⟨t,rfl⟩:=rx
 obtain ⟨t',rfl⟩:=ry
 exact rule i j t t' s _ _ ⟨.bl (g i j),H,I,rfl,q⟩
noncomputable def Hq (i j:Int):Prop:=0 < j /\ j < 1073741824
noncomputable def BF (i j:Int):Prop:=(-(2 ^ 64) < i /\ i < 2 ^ 64) \/ (-(2 ^ 64) < j /\ j < 2 ^ 64)
theorem BF.ok {i j:Int} (h:BF i j):IntMulOk i j:=by
 rcases h with ⟨h1,h2⟩ | ⟨h1,h2⟩
 . exact .of_left (intBits_le_64 h1 h2)
 . exact .of_right (intBits_le_64 h1 h2)
theorem b7:OpR X (binaryOp .Add) (rI0 fun i j=>.int (i + j)):=Ka fun _ _ _ _ _ _ _ q=>add_int q
theorem kW:OpR X (binaryOp .Sub) (rI0 fun i j=>.int (i - j)):=Ka fun _ _ _ _ _ _ _ q=>sub_int q
theorem mI:OpR X (binaryOp .Mult) (rI BF fun i j=>.int (i * j)):=opI fun _ _ _ _ _ _ _ hc q=>mul_int q hc.ok
theorem jc:OpR X (binaryOp .FloorDiv) (rI Hq fun i j=>.int (i / j)):=opI fun i j _ _ _ _ _ hc q=>by
 have h1:(0:Int) < j:=hc.1
 have h2:j < 1073741824:=hc.2
 exact floordiv_int (by omega) (by rw [Int.fdiv_eq_ediv_of_nonneg i (by omega)]; exact q) (.inl (PyProof.noPylong_small (by omega)))
theorem fk:OpR X (binaryOp .Mod) (rI (fun _ j=>0 < j) fun i j=>.int (i % j)):=opI fun i j _ _ _ _ _ hc q=>by
 have h1:(0:Int) < j:=hc
 exact mod_int' (by omega) (by rw [Int.fmod_eq_emod_of_nonneg i (by omega)]; exact q)
theorem unI {f:Value -> Sem Value} {g:Int -> Int}
  (rule:∀ (i:Int) (t:Tok) (s:Shared) (Q:Value -> Shared -> Prop) (E:Value -> Shared -> Prop),Q (.int (g i) s.toks) { s with toks:=s.toks + 1 } -> wpAny (model X.prog X.w) X.A (f (.int i t)) Q E s):
  UnR X f (rU fun i=>.int (g i)):=by
 intro pins s σ H x v Q I rx h
 obtain ⟨i,rfl,q⟩:=h
 obtain ⟨t,rfl⟩:=rx
 exact rule i t s _ _ ⟨.int (g i),H,I.tok _,⟨_,rfl⟩,q⟩
theorem yV:UnR X (unaryOp .USub) (rU fun i=>.int (-i)):=unI fun _ _ _ _ _ q=>neg_int q
end
noncomputable def Gi:V -> V -> Bool
 | .non,.non=>true | .non,.int _=>true | .int _,.non=>true | .non,.bl _=>true | .bl _,.non=>true | .non,.str _=>true | .str _,.non=>true
 | .int _,.int _=>true | .bl _,.bl _=>true | .str _,.str _=>true | .byt _,.byt _=>true
 | .int _,.str _=>true | .str _,.int _=>true | .bl _,.str _=>true | .str _,.bl _=>true
 | _,_=>false
noncomputable def rEq:R2:=fun x y H Q=>Gi x y = true /\ Q (.bl (decide (x = y))) H
noncomputable def rNe:R2:=fun x y H Q=>Gi x y = true /\ Q (.bl (!decide (x = y))) H
theorem zB {i j:Int}:decide (V.int i = V.int j) = (i == j):=by
 rw [Bool.eq_iff_iff]
 simp
theorem BR {i j:Bool}:decide (V.bl i = V.bl j) = (i == j):=by
 rw [Bool.eq_iff_iff]
 simp
theorem zC {i j:Str}:decide (V.str i = V.str j) = (i == j):=by
 rw [Bool.eq_iff_iff]
 simp
theorem zU {i j:Array UInt8}:decide (V.byt i = V.byt j) = (i.toList == j.toList):=by
 rw [Bool.eq_iff_iff]
 cases i
 cases j
 simp
section
variable {X:Cx} {a b c:Expr} {ta tb tc:TE} {pos:Pos}
theorem cT {pins:List (Addr × Obj)} {σ:St} {H:Hp} {s:Shared} {Q:VK} {k k':Bool} (I:Inv X pins σ H s) (q:Q (.bl k) H) (e:k = k'):EP X pins σ Q (.bool k') s:=by
 subst e
 exact ⟨.bl k,H,I,rfl,q⟩
theorem cw:OpR X (compareOp .Eq) rEq:=by
 intro pins s σ H x y v u Q I rx ry h
 obtain ⟨hs,q⟩:=h
 cases x with
 | non=>
   cases rx
   cases y with
   | non=>cases ry; exact PySem.EqNone.eq_none_none (cT I q (by simp))
   | bl j=>cases ry; exact PySem.EqNone.eq_none_bool (cT I q (by simp))
   | int j=>obtain ⟨t',rfl⟩:=ry; exact PySem.EqNone.eq_none_int (cT I q (by simp))
   | str j=>obtain ⟨t',rfl⟩:=ry; exact PySem.EqNone.eq_none_str (cT I q (by simp))
   | _=>exact absurd (show false = true from hs) Bool.false_ne_true
 | bl i=>
   cases rx
   cases y with
   | non=>cases ry; exact PySem.EqNone.eq_bool_none (cT I q (by simp))
   | bl j=>cases ry; exact eq_bool (cT I q BR)
   | str j=>obtain ⟨t',rfl⟩:=ry; exact PySem.EqMixed.eq_bool_str (cT I q (by simp))
   | _=>exact absurd (show false = true from hs) Bool.false_ne_true
 | int i=>
   obtain ⟨t,rfl⟩:=rx
   cases y with
   | non=>cases ry; exact PySem.EqNone.eq_int_none (cT I q (by simp))
   | int j=>obtain ⟨t',rfl⟩:=ry; exact eq_int (cT I q zB)
   | str j=>obtain ⟨t',rfl⟩:=ry; exact PySem.EqMixed.eq_int_str (cT I q (by simp))
   | _=>exact absurd (show false = true from hs) Bool.false_ne_true
 | str i=>
   obtain ⟨t,rfl⟩:=rx
   cases y with
   | non=>cases ry; exact PySem.EqNone.eq_str_none (cT I q (by simp))
   | bl j=>cases ry; exact PySem.EqMixed.eq_str_bool (cT I q (by simp))
   | int j=>obtain ⟨t',rfl⟩:=ry; exact PySem.EqMixed.eq_str_int (cT I q (by simp))
   | str j=>obtain ⟨t',rfl⟩:=ry; exact eq_str (cT I q zC)
   | _=>exact absurd (show false = true from hs) Bool.false_ne_true
 | byt i=>
   obtain ⟨t,rfl⟩:=rx
   cases y with
   | byt j=>obtain ⟨t',rfl⟩:=ry; exact PySem.W.eq_bytes (cT I q zU)
   | _=>exact absurd (show false = true from hs) Bool.false_ne_true
 | _=>cases y <;> exact absurd (show false = true from hs) Bool.false_ne_true
theorem wR:OpR X (compareOp .NotEq) rNe:=by
 intro pins s σ H x y v u Q I rx ry h
 obtain ⟨hs,q⟩:=h
 cases x with
 | non=>
   cases rx
   cases y with
   | non=>cases ry; exact PySem.EqNone.ne_none_none (cT I q (by simp))
   | bl j=>cases ry; exact PySem.EqNone.ne_none_bool (cT I q (by simp))
   | int j=>obtain ⟨t',rfl⟩:=ry; exact PySem.EqNone.ne_none_int (cT I q (by simp))
   | str j=>obtain ⟨t',rfl⟩:=ry; exact PySem.EqNone.ne_none_str (cT I q (by simp))
   | _=>exact absurd (show false = true from hs) Bool.false_ne_true
 | bl i=>
   cases rx
   cases y with
   | non=>cases ry; exact PySem.EqNone.ne_bool_none (cT I q (by simp))
   | bl j=>cases ry; exact ne_bool (cT I q (congrArg not BR))
   | str j=>obtain ⟨t',rfl⟩:=ry; exact PySem.EqMixed.ne_bool_str (cT I q (by simp))
   | _=>exact absurd (show false = true from hs) Bool.false_ne_true
 | int i=>
   obtain ⟨t,rfl⟩:=rx
   cases y with
   | non=>cases ry; exact PySem.EqNone.ne_int_none (cT I q (by simp))
   | int j=>obtain ⟨t',rfl⟩:=ry; exact ne_int (cT I q (congrArg not zB))
   | str j=>obtain ⟨t',rfl⟩:=ry; exact PySem.EqMixed.ne_int_str (cT I q (by simp))
   | _=>exact absurd (show false = true from hs) Bool.false_ne_true
 | str i=>
   obtain ⟨t,rfl⟩:=rx
   cases y with
   | non=>cases ry; exact PySem.EqNone.ne_str_none (cT I q (by simp))
   | bl j=>cases ry; exact PySem.EqMixed.ne_str_bool (cT I q (by simp))
   | int j=>obtain ⟨t',rfl⟩:=ry; exact PySem.EqMixed.ne_str_int (cT I q (by simp))
   | str j=>obtain ⟨t',rfl⟩:=ry; exact ne_str (cT I q (congrArg not zC))
   | _=>exact absurd (show false = true from hs) Bool.false_ne_true
 | byt i=>
   obtain ⟨t,rfl⟩:=rx
   cases y with
   | byt j=>obtain ⟨t',rfl⟩:=ry; exact PySem.W.ne_bytes (cT I q (congrArg not zU))
   | _=>exact absurd (show false = true from hs) Bool.false_ne_true
 | _=>cases y <;> exact absurd (show false = true from hs) Bool.false_ne_true
theorem gG:OpR X (compareOp .Lt) (rI0 fun i j=>.bl (decide (i < j))):=EW fun _ _ _ _ _ _ _ q=>lt_int q
theorem jB:OpR X (compareOp .LtE) (rI0 fun i j=>.bl (decide (i <= j))):=EW fun _ _ _ _ _ _ _ q=>le_int q
theorem FR:OpR X (compareOp .Gt) (rI0 fun i j=>.bl (decide (j < i))):=EW fun _ _ _ _ _ _ _ q=>gt_int q
theorem Bm:OpR X (compareOp .GtE) (rI0 fun i j=>.bl (decide (j <= i))):=EW fun _ _ _ _ _ _ _ q=>ge_int q
theorem qi:OpR X (compareOp .Is) (fun x y H Q=>y = .non /\ Q (.bl (decide (x = .non))) H):=by
 intro pins s σ H x y v u Q I rx ry h
 obtain ⟨rfl,q⟩:=h
 cases ry
 refine is_none_gen (cT I q ?_)
 cases x <;> first
  | (cases rx; rfl)
  | (obtain ⟨t,rfl⟩:=rx; rfl)
theorem uP:OpR X (compareOp .IsNot) (fun x y H Q=>y = .non /\ Q (.bl (!decide (x = .non))) H):=by
 intro pins s σ H x y v u Q I rx ry h
 obtain ⟨rfl,q⟩:=h
 cases ry
 refine isnot_none_gen (cT I q ?_)
 cases x <;> first
  | (cases rx; rfl)
  | (obtain ⟨t,rfl⟩:=rx; rfl)
theorem aL (b:Expr) {op:CmpOp} (h:op ≠ .In:=by decide) (h2:op ≠ .NotIn:=by decide):behindInMarks op b = false:=by
 have e1:(op == CmpOp.In) = false:=by cases op <;> first | rfl | exact absurd rfl h
 have e2:(op == CmpOp.NotIn) = false:=by cases op <;> first | rfl | exact absurd rfl h2
 cases b <;> simp [behindInMarks,e1,e2]
theorem Ej {op:CmpOp} {r:R2} (ho:OpR X (compareOp op) r) (ha:PE X a ta) (hb:PE X b tb) (hm:behindInMarks op b = false):PE X (.Compare a [op] [b] pos) (tOp r ta tb):=by
 intro pins s σ H Q I h
 exact wpAny_Compare1 (GR ha hb I h fun v u s2 x y H2 I2 rx ry q=>ho pins s2 σ H2 x y v u Q I2 rx ry q) hm
noncomputable def xT (t:TE):TT:=fun σ H Q=>t σ H fun x H'=>∃ k,x = .bl k /\ Q k H'
theorem DG {op:CmpOp} {r:R2} (ho:OpR X (compareOp op) r) (ha:PE X a ta) (hb:PE X b tb) (hm:behindInMarks op b = false):PT X (.Compare a [op] [b] pos) (xT (tOp r ta tb)):=by
 intro pins s σ H Q I h
 refine wpAny_isTrue_Compare1 (thn (ha pins s σ H _ I h) fun v s1 ⟨x,H1,I1,r1,q1⟩=>thn (hb pins s1 σ H1 _ I1 q1) fun u s2 ⟨y,H2,I2,r2,q2⟩=>
  thn (ho pins s2 σ H2 x y v u _ I2 r1 r2 q2) fun c s3 ⟨z,H3,I3,r3,k,e,q3⟩=>?_) hm
 subst e
 cases r3
 exact wpAny_truthy_bool ⟨H3,I3,q3⟩
noncomputable def tm (r r':R2) (ta tb tc:TE):TE:=fun σ H Q=>ta σ H fun x H1=>tb σ H1 fun y H2=>r x y H2 fun z H3=>∃ k,z = .bl k /\
 (if k = true then tc σ H3 fun w' H4=>r' y w' H4 Q else Q (.bl false) H3)
theorem Du {op op':CmpOp} {r r':R2} (ho:OpR X (compareOp op) r) (ho':OpR X (compareOp op') r') (ha:PE X a ta) (hb:PE X b tb) (hc:PE X c tc)
  (hm:lastMarks [op,op'] [b,c] = false:=by with_unfolding_all rfl):PE X (.Compare a [op,op'] [b,c] pos) (tm r r' ta tb tc):=by
 intro pins s σ H Q I h
 refine Compare_chain (thn (ha pins s σ H _ I h) fun v s1 ⟨x,H1,I1,r1,q1⟩=>chain_link (thn (hb pins s1 σ H1 _ I1 q1) fun u s2 ⟨y,H2,I2,r2,q2⟩=>
  thn (ho pins s2 σ H2 x y v u _ I2 r1 r2 q2) fun d s3 ⟨z,H3,I3,r3,k,e,q3⟩=>?_)) hm
 subst e
 cases r3
 refine wpAny_truthy_bool ?_
 cases k with
 | false=>exact ite_ff ⟨.bl false,H3,I3,rfl,q3⟩
 | true=>exact ite_tt (chain_last (thn (hc pins s3 σ H3 _ I3 q3) fun w' s4 ⟨z',H4,I4,r4,q4⟩=>ho' pins s4 σ H4 y z' u w' Q I4 r2 r4 q4))
theorem BC {op op':CmpOp} {r r':R2} (ho:OpR X (compareOp op) r) (ho':OpR X (compareOp op') r') (ha:PE X a ta) (hb:PE X b tb) (hc:PE X c tc)
  (hm:lastMarks [op,op'] [b,c] = false:=by with_unfolding_all rfl):PT X (.Compare a [op,op'] [b,c] pos) (xT (tm r r' ta tb tc)):=by
 intro pins s σ H Q I h
 refine isTrue_chain (thn (ha pins s σ H _ I h) fun v s1 ⟨x,H1,I1,r1,q1⟩=>test_link (thn (hb pins s1 σ H1 _ I1 q1) fun u s2 ⟨y,H2,I2,r2,q2⟩=>
  thn (ho pins s2 σ H2 x y v u _ I2 r1 r2 q2) fun d s3 ⟨z,H3,I3,r3,k,e,q3⟩=>?_)) hm
 subst e
 cases r3
 refine wpAny_truthy_bool ?_
 cases k with
 | false=>
   obtain ⟨k',e',q'⟩:=q3
   cases e'
   exact ite_ff ⟨H3,I3,q'⟩
 | true=>
   refine ite_tt (test_last (thn (hc pins s3 σ H3 _ I3 q3) fun w' s4 ⟨z',H4,I4,r4,q4⟩=>thn (ho' pins s4 σ H4 y z' u w' _ I4 r2 r4 q4) fun d' s5 ⟨z2,H5,I5,r5,k2,e2,q5⟩=>?_))
   subst e2
   cases r5
   exact wpAny_truthy_bool ⟨H5,I5,q5⟩
noncomputable def yW (K:PySem.W.Frag) (x:V) (H:Hp) (k:Bool):Prop:=
 match x with
 | .non=>k = false
 | .bl b=>k = b
 | .int i=>k = (i != 0)
 | .str y=>y.length <= sizeLine /\ k = ((y.length:Int) != 0)
 | .byt y=>y.size <= sizeLine /\ k = ((y.size:Int) != 0)
 | .ref p=>(∃ xs,SqL K H p xs /\ k = !xs.isEmpty) \/ (∃ xs,SqT K H p xs /\ k = !xs.isEmpty) \/ ∃ kvs,H p = some (.dK kvs) /\ k = !kvs.isEmpty
 | _=>False
theorem y2 {κ:Type} {kvs:List (κ × V)} {vs:List (κ × Value)} (r:KV kvs vs):(!vs.isEmpty) = !kvs.isEmpty:=by
 cases r <;> rfl
theorem rR {xs:List V} {its:List Value} (r:Vals xs its):(!its.toArray.isEmpty) = !xs.isEmpty:=by
 cases r <;> simp
theorem sq:(sizeLine:Nat) < 2 ^ 63:=by rw [sizeLine_eq]; decide
theorem Hv:KY X (fun x H Q=>∃ k,yW X.K x H k /\ Q k H):=by
 intro pins s σ H x v Q I rx h
 obtain ⟨k,e,q⟩:=h
 have hl:=sq
 have hs:sizeLine = 16777216:=sizeLine_eq
 cases x with
 | non=>
   cases rx
   have e':k = false:=e
   subst e'
   exact truthy_none ⟨H,I,q⟩
 | bl b=>
   cases rx
   have e':k = b:=e
   subst e'
   exact wpAny_truthy_bool ⟨H,I,q⟩
 | int i=>
   obtain ⟨t,rfl⟩:=rx
   have e':k = (i != 0):=e
   subst e'
   exact PySem.P.truthy_int ⟨H,I,q⟩
 | str y=>
   obtain ⟨t,rfl⟩:=rx
   obtain ⟨hy,e'⟩:y.length <= sizeLine /\ k = ((y.length:Int) != 0):=e
   subst e'
   exact PySem.P.truthy_str (by omega) ⟨H,I.tok _,q⟩
 | byt y=>
   obtain ⟨t,rfl⟩:=rx
   obtain ⟨hy,e'⟩:y.size <= sizeLine /\ k = ((y.size:Int) != 0):=e
   subst e'
   exact PySem.W.truthy_bytes (by omega) ⟨H,I.tok _,q⟩
 | ref p=>
   cases rx
   have e':(∃ xs,SqL X.K H p xs /\ k = !xs.isEmpty) \/ (∃ xs,SqT X.K H p xs /\ k = !xs.isEmpty) \/ ∃ kvs,H p = some (.dK kvs) /\ k = !kvs.isEmpty:=e
   rcases e' with ⟨xs,hx,e'⟩ | ⟨xs,hx,e'⟩ | ⟨kvs,hx,e'⟩
   . subst e'
     obtain ⟨its,r,pl,hz⟩:=I.list hx
     have hlen:=r.length
     exact wpAny_truthy_list pl.isList (by simp only [List.size_toArray]; omega) ⟨H,I.tok _,by rw [rR r]; exact q⟩
   . subst e'
     obtain ⟨its,r,pl,hz⟩:=I.tuple hx
     have hlen:=r.length
     exact truthy_tuple pl (by simp only [List.size_toArray]; omega) ⟨H,I.tok _,by rw [rR r]; exact q⟩
   . subst e'
     obtain ⟨hz,hS,vs,r,m⟩:kvs.length <= sizeLine /\ (p == sysModules) = false /\ ∃ vs,KV kvs vs /\ s.heap.DictOf (gB X.prog X.w) p vs:=I.hok p _ hx
     have hlen:kvs.length = vs.length:=Paired.length r
     exact wpAny_truthy_dict hS m (by omega) ⟨H,I.tok _,by rw [y2 r]; exact q⟩
 | _=>exact (show False from e).elim
theorem Df (ha:PE X a ta) (he:∀ whole,isTrue a X.env whole = (do let v <- whole; standAt a.pos; holding [v] (truthy v))):
  PT X a (fun σ H Q=>ta σ H fun x H'=>∃ k,yW X.K x H' k /\ Q k H'):=by
 intro pins s σ H Q I h
 exact isTrue_plain (thn (ha pins s σ H _ I h) fun v s1 ⟨x,H1,I1,r1,q1⟩=>Hv pins s1 σ H1 x v Q I1 r1 q1) (he _)
theorem vals1 {x:V} {us:List Value} (r:Vals [x] us):∃ u,us = [u] /\ RelV x u:=by
 cases r with
 | cons r1 r2=>cases r2; exact ⟨_,rfl,r1⟩
theorem ot:oS X (.type "int") (fun xs H Q=>(∃ i,xs = [.int i] /\ Q (.int i) H) \/ ∃ k,xs = [.bl k] /\ Q (.int (if k then 1 else 0)) H):=by
 intro pins s σ H xs us Q I r h
 rcases h with ⟨i,rfl,q⟩ | ⟨k,rfl,q⟩
 . obtain ⟨u,rfl,t,rfl⟩:=vals1 r
   exact call_int_int ⟨.int i,H,I,⟨_,rfl⟩,q⟩
 . obtain ⟨u,rfl,r1⟩:=vals1 r
   cases r1
   exact call_int_bool ⟨.int (if k then 1 else 0),H,I.tok _,⟨_,rfl⟩,q⟩
end
end L2
namespace L2
open PySem PySem.Spec PyProof.Rows
structure yl (h:Heap) (x dx C:Addr) (mA:Str -> Option Value):Prop where
 obj:h.get? x = some (PySem.W.instObj C dx)
 ns:h.Ns1 dx mA
 ne:dx ≠ x
theorem Bc {h:Heap} {dx:Addr} {mA:Str -> Option Value} (n:h.Ns1 dx mA):∃ od,h.get? dx = some od /\ ∀ name,PySem.W.lookIn name od = some (mA name):=by
 obtain ⟨o,es,ep,ho,hd,hk,_,hm⟩:=n
 refine ⟨o,ho,fun name=>?_⟩
 have e:=hm name
 unfold nsFind findBy at e
 rw [<- Array.find?_toList] at e
 unfold PySem.W.lookIn
 rw [hd]
 dsimp only
 split
 . rename_i y q
   rw [q] at e
   exact congrArg some e
 . rename_i q
   rw [q] at e
   have a:es.toList.any (·.refKey) = false:=by
    rw [List.any_eq_false]
    intro y hy
    obtain ⟨z,t,hkey⟩:=hk y (Array.mem_toList_iff.mp hy)
    simp [DictEntry.refKey,hkey]
   have a':¬ es.toList.any (·.refKey) = true:=by rw [a]; exact Bool.false_ne_true
   rw [if_neg a']
   exact congrArg some e
theorem yl.look {h:Heap} {x dx C:Addr} {mA:Str -> Option Value} (I:yl h x dx C mA):∃ od,PySem.W.InstAt h x (PySem.W.instObj C dx) C (some od) /\ ∀ name,PySem.W.lookIn name od = some (mA name):=
 let ⟨od,ho,hl⟩:=Bc I.ns
 ⟨od,⟨I.obj,rfl,rfl,ho⟩,hl⟩
section
variable {prog:Program} {w:World} {A:Around} {E:Value -> Shared -> Prop} {s:Shared} {K:PySem.W.Frag} {x dx C f:Addr} {mA:Str -> Option Value} {name:Str} {v:Value}
theorem get_map {expr:Bool} {Q:Value -> Shared -> Prop} (X:K.In s.heap) (I:yl s.heap x dx C mA) (hg:PySem.W.plainGet K C name = true) (hh:PySem.W.hasDictIn K C = true)
  (ha:PySem.W.findIn K (.ref C) name = some none) (hv:mA name = some v) (hv':PySem.W.handedIn v = true) (h:Q v { s with toks:=s.toks + 1 }):
  wpAny (model prog w) A (getAttr (.ref x) name expr) Q E s:=by
 obtain ⟨od,J,hl⟩:=I.look
 exact PySem.W.get_value X J (PySem.W.plainGet_of hg).1 (PySem.W.findObj_own hh ha rfl (by rw [hl,hv])) hv' h
theorem Bp {pl:Sem Bool} {Q:Value × List Value -> Shared -> Prop} (X:K.In s.heap) (I:yl s.heap x dx C mA) (hg:PySem.W.plainGet K C name = true)
  (hf:PySem.W.findIn K (.ref C) name = some (some (.ref f))) (ht:PySem.W.isFn K (.ref f) = true) (hv:mA name = none) (h:Q (.ref f,[.ref x]) s):
  wpAny (model prog w) A (getMethod (.ref x) name pl) Q E s:=by
 obtain ⟨od,J,hl⟩:=I.look
 exact PySem.W.method_fn X J (PySem.W.plainGet_of hg).1 (PySem.W.plainGet_of hg).2 hf (beq_iff_eq.mp ht) (by show (PySem.W.lookIn name od).map (·.isSome) = some false; rw [hl,hv]; rfl) h
theorem EL {ns:List Str} {Q:Unit -> Shared -> Prop} (X:K.In s.heap) (I:yl s.heap x dx C mA)
  (hs:PySem.W.findIn K (.ref C) "__setattr__" = some (some (.builtin "object.__setattr__"))) (hp:PySem.W.plainOver K C = true) (ht:PySem.W.takerIn K C name = some none) (hh:PySem.W.hasDictIn K C = true)
  (hw:PySem.Within mA ns) (hsz:ns.length <= sizeLine)
  (h:∀ h',yl h' x dx C (fun y=>if y = name then some v else mA y) -> Heap.SameBut dx s.heap h' -> Q () { s with heap:=h',toks:=s.toks + 2 }):
  wpAny (model prog w) A (setAttr (.ref x) name v) Q E s:=by
 obtain ⟨od,J,hl⟩:=I.look
 refine PySem.W.set_plain X J hs (PySem.W.osa_open (s:={ s with toks:=s.toks + 1 }) (r:=none) X J hp ht fun b=>?_)
 obtain ⟨cd,hc,hd'⟩:=PySem.W.any_some hh
 have hx:s.heap.get? x = some ⟨.ref C,some dx,.plain,#[]⟩:=I.obj
 refine wpAny_bind (wpAny_pure (wpAny_bind (wpAny_bind (wpAny_loadPart hx (wpAny_bind (PySem.W.Looks.here (s:={ s with toks:=s.toks + 1 }) (PySem.W.looks_clsIn X hc) ?_))))))
 rw [hd']
 refine wpAny_pure (a:=some dx) (wpAny_bind (wpAny_pure (wpAny_bind ?_)))
 refine wpAny_nsSet1 (s:={ s with toks:=s.toks + 1 }) I.ns fun h' hn2 hs2=>?_
 obtain ⟨oD,esD,epD,hoD,hdD,hcD⟩:=hn2.count (PySem.Within.cons name v hw)
 refine wpAny_bind (wpAny_lookBehind hoD (by rw [hdD]; exact pastItsLine_dict (Nat.le_trans hcD (by rw [List.length_cons]; omega))) ?_)
 exact wpAny_pure (h _ ⟨(hs2.2 _ (Ne.symm I.ne)).trans I.obj,hn2,I.ne⟩ hs2)
theorem Dx {R:Result -> Shared -> Prop} {vs:List Value} {kw:List (Str × Value)} (X:K.In s.heap) (hm:PySem.W.makesIn K C = true)
  (hi:PySem.W.findIn K (.ref C) "__init__" = some (some (.ref f))) (hf:PySem.W.typeIn K (.ref f) = some (.type "function"))
  (h:codeAny (model prog w) (A.under (.builtin "type.__call__" ⟨.ref C ::vs,kw⟩)) (.call (.ref f) ⟨.ref (s.heap.objs.size + 1) ::vs,kw⟩) (PySem.W.InitBack (s.heap.objs.size + 1) R)
    { s with heap:=(s.heap.push PySem.W.emptyDict).push (PySem.W.instObj C s.heap.objs.size) }):
  codeAny (model prog w) A (.call (.ref C) ⟨vs,kw⟩) R s:=by
 obtain ⟨hh,g,d,t,os⟩:=s
 exact PySem.W.make_core (PySem.W.makes_of X hm) (PySem.W.looks_findIn X hi) (fun self=>PySem.W.bind_fn X self hf) (.inl rfl) h
end
noncomputable def ki (f:Str) (v:V):List (Str × V) -> List (Str × V)
 | []=>[(f,v)]
 | (g,x) ::r=>if g = f then (g,v) ::r else (g,x) ::ki f v r
theorem qW (f g:Str) (v:V):∀ fs:List (Str × V),(ki f v fs).lookup g = if g = f then some v else fs.lookup g
 | []=>by
   show List.lookup g [(f,v)] = _
   by_cases h:g = f
   . have hb:(g == f) = true:=beq_iff_eq.mpr h
     simp only [List.lookup,hb,if_pos h]
   . have hb:(g == f) = false:=beq_eq_false_iff_ne.mpr h
     simp only [List.lookup,hb,if_neg h]
 | (k,x) ::r=>by
   have ih:=qW f g v r
   rw [show ki f v ((k,x) ::r) = (if k = f then (k,v) ::r else (k,x) ::ki f v r) from rfl]
   by_cases hk:k = f
   . rw [if_pos hk]
     by_cases h:g = k
     . have hb:(g == k) = true:=beq_iff_eq.mpr h
       simp only [List.lookup,hb,if_pos (h.trans hk)]
     . have hb:(g == k) = false:=beq_eq_false_iff_ne.mpr h
       simp only [List.lookup,hb,if_neg (fun e:g = f=>h (e.trans hk.symm))]
   . rw [if_neg hk]
     by_cases h:g = k
     . have hb:(g == k) = true:=beq_iff_eq.mpr h
       simp only [List.lookup,hb,if_neg (fun e:g = f=>hk (h.symm.trans e))]
     . have hb:(g == k) = false:=beq_eq_false_iff_ne.mpr h
       simp only [List.lookup,hb]
       exact ih
theorem qc (f:Str) (v:V):∀ fs:List (Str × V),f ∈ (ki f v fs).map (·.1) /\ ∀ g,g ∈ fs.map (·.1) -> g ∈ (ki f v fs).map (·.1)
 | []=>⟨by simp [ki],fun g h=>by simp at h⟩
 | (k,x) ::r=>by
   obtain ⟨i1,i2⟩:=qc f v r
   rw [show ki f v ((k,x) ::r) = (if k = f then (k,v) ::r else (k,x) ::ki f v r) from rfl]
   by_cases hk:k = f
   . rw [if_pos hk]
     subst hk
     exact ⟨by simp,fun g h=>by simpa using h⟩
   . rw [if_neg hk]
     refine ⟨?_,fun g h=>?_⟩
     . rw [List.map_cons]
       exact List.mem_cons_of_mem _ i1
     . rw [List.map_cons] at h ⊢
       rcases List.mem_cons.mp h with e | e
       . exact List.mem_cons.mpr (.inl e)
       . exact List.mem_cons_of_mem _ (i2 g e)
theorem qN (f:Str) (v:V):∀ fs:List (Str × V),(ki f v fs).length <= fs.length + 1
 | []=>by simp [ki]
 | (k,x) ::r=>by
   have ih:=qN f v r
   rw [show ki f v ((k,x) ::r) = (if k = f then (k,v) ::r else (k,x) ::ki f v r) from rfl]
   by_cases hk:k = f
   . rw [if_pos hk,List.length_cons,List.length_cons]; omega
   . rw [if_neg hk,List.length_cons,List.length_cons]; omega
theorem bI.some_of {v:V} {o:Option Value} (r:bI (some v) o):∃ u,o = some u /\ RelV v u:=by
 cases o with
 | none=>exact (show False from r).elim
 | some u=>exact ⟨u,rfl,r⟩
theorem bI.none_of {o:Option Value} (r:bI none o):o = none:=by
 cases o with
 | none=>rfl
 | some u=>exact (show False from r).elim
theorem AA {v:V} {u:Value} (r:RelV v u):PySem.W.handedIn u = true:=by
 cases v with
 | non=>cases (show u = Value.none from r); rfl
 | bl b=>cases (show u = Value.bool b from r); rfl
 | int i=>obtain ⟨t,e⟩:=(show ∃ t,u = Value.int i t from r); cases e; rfl
 | str x=>obtain ⟨t,e⟩:=(show ∃ t,u = Value.str x t from r); cases e; rfl
 | byt b=>obtain ⟨t,e⟩:=(show ∃ t,u = Value.bytes b t from r); cases e; rfl
 | flt b=>obtain ⟨t,e⟩:=(show ∃ t,u = Value.float b t from r); cases e; rfl
 | ref a=>cases (show u = Value.ref a from r); rfl
 | ty n=>cases (show u = Value.type n from r); rfl
section
variable {P:Program} {w:World} {H H':Hp} {h h':Heap} {a C dx:Addr} {fs fs':List (Str × V)}
theorem uN (hok:HOk P w H h) (e:H a = some (.ins C dx fs)):∃ mA,yl h a dx C mA /\ (∀ f,bI (fs.lookup f) (mA f)) /\ PySem.Within mA (fs.map (·.1)) /\ fs.length <= 1000 /\ H dx = some (.own a):=by
 obtain ⟨d,z,ne,ob,mA,n,r,q⟩:=(show fY P w H h a (.ins C dx fs) from hok a _ e)
 exact ⟨mA,⟨ob,n,ne⟩,r,q,z,d⟩
end
structure Cls (K:PySem.W.Frag) (C:Addr):Prop where
 pg:PySem.W.plainGet K C Str.empty = true
 hd:PySem.W.hasDictIn K C = true
 po:PySem.W.plainOver K C = true
 sa:PySem.W.findIn K (.ref C) "__setattr__" = some (some (.builtin "object.__setattr__"))
theorem Cls.get {K:PySem.W.Frag} {C:Addr} (c:Cls K C) (f:Str):PySem.W.plainGet K C f = true:=c.pg
noncomputable def lO (K:PySem.W.Frag) (C:Addr) (f:Str):Prop:=PySem.W.findIn K (.ref C) f = some none
theorem lO.JC {K:PySem.W.Frag} {C:Addr} {f:Str} (n:lO K C f):PySem.W.takerIn K C f = some none:=by
 unfold PySem.W.takerIn
 rw [show PySem.W.findIn K (.ref C) f = some none from n]
 rfl
structure Meth (K:PySem.W.Frag) (C:Addr) (m:Str) (f:Addr):Prop where
 at_:PySem.W.findIn K (.ref C) m = some (some (.ref f))
 fn:PySem.W.isFn K (.ref f) = true
 kp:PySem.W.keepIn K (.ref f) = true
section
variable {X:Cx} {pins:List (Addr × Obj)} {σ:St} {H:Hp} {s:Shared} {a C dx:Addr} {fs:List (Str × V)} {f:Str} {v:V} {A:Around} {E:Value -> Shared -> Prop}
theorem yF {b:Bool} {Q:Value -> Shared -> Prop} (I:Inv X pins σ H s) (e:H a = some (.ins C dx fs)) (c:Cls X.K C) (n:lO X.K C f) (l:fs.lookup f = some v)
  (h:∀ u s',Inv X pins σ H s' -> RelV v u -> Q u s'):wpAny (model X.prog X.w) A (getAttr (.ref a) f b) Q E s:=by
 obtain ⟨mA,O,r,_,_,_⟩:=uN I.hok e
 obtain ⟨u,hu,ru⟩:=bI.some_of (v:=v) (o:=mA f) (by rw [<- l]; exact r f)
 exact get_map I.kIn O (c.get f) c.hd n hu (AA ru) (h u _ (I.tok _) ru)
theorem sH {m:Str} {g:Addr} {pl:Sem Bool} {Q:Value × List Value -> Shared -> Prop} (I:Inv X pins σ H s) (e:H a = some (.ins C dx fs)) (c:Cls X.K C) (k:Meth X.K C m g) (l:fs.lookup m = none)
  (h:Q (.ref g,[.ref a]) s):wpAny (model X.prog X.w) A (getMethod (.ref a) m pl) Q E s:=by
 obtain ⟨mA,O,r,_,_,_⟩:=uN I.hok e
 have hn:mA m = none:=bI.none_of (by rw [<- l]; exact r m)
 exact Bp I.kIn O (c.get m) k.at_ k.fn hn h
theorem y7 {y:V} {u:Value} {Q:Unit -> Shared -> Prop} (I:Inv X pins σ H s) (e:H a = some (.ins C dx fs)) (c:Cls X.K C) (n:lO X.K C f) (hl:fs.length < 1000) (ry:RelV y u)
  (h:∀ s',Inv X pins σ (upd H a (.ins C dx (ki f y fs))) s' -> Q () s'):wpAny (model X.prog X.w) A (setAttr (.ref a) f u) Q E s:=by
 obtain ⟨mA,O,r,wi,_,ho⟩:=uN I.hok e
 have hz:(fs.map (·.1)).length <= sizeLine:=by rw [List.length_map,sizeLine_eq]; omega
 refine EL I.kIn O c.sa c.po n.JC c.hd wi hz fun h' O' sb=>h _ ?_
 have hd:∃ o,h'.get? dx = some o:=let ⟨o,_,_,e',_⟩:=O'.ns; ⟨o,e'⟩
 refine I.write (x:=a) (e:=dx) (by rw [e]; exact True.intro) (.inr ho) (fun b q hb z=>(sb.2 b hb).trans z) hd ?_
 refine ⟨by rw [bb O.ne]; exact ho,?_,O.ne,O'.obj,_,O'.ns,fun g=>?_,fun g hg=>?_⟩
 . have:=qN f y fs; omega
 . show bI ((ki f y fs).lookup g) (if g = f then some u else mA g)
   rw [qW]
   by_cases q:g = f
   . rw [if_pos q,if_pos q]; exact ry
   . rw [if_neg q,if_neg q]; exact r g
 . by_cases q:g = f
   . rw [q]; exact (qc f y fs).1
   . refine (qc f y fs).2 g (wi g fun z=>hg ?_)
     show (if g = f then some u else mA g) = none
     rw [if_neg q]; exact z
theorem Inv.made (I:Inv X pins σ H s):Inv X pins σ (upd (upd H s.heap.objs.size (.own (s.heap.objs.size + 1))) (s.heap.objs.size + 1) (.ins C s.heap.objs.size []))
  { s with heap:=(s.heap.push PySem.W.emptyDict).push (PySem.W.instObj C s.heap.objs.size) }:=by
 have e1:(s.heap.push PySem.W.emptyDict).get? s.heap.objs.size = some PySem.W.emptyDict:=Heap.get?_push_size s.heap rfl
 have e2:((s.heap.push PySem.W.emptyDict).push (PySem.W.instObj C s.heap.objs.size)).get? (s.heap.objs.size + 1) = some (PySem.W.instObj C s.heap.objs.size):=by
  have:=Heap.get?_push_size (s.heap.push PySem.W.emptyDict) (o:=PySem.W.instObj C s.heap.objs.size) rfl
  rwa [Heap.size_push] at this
 have e3:(s.heap.push PySem.W.emptyDict).Ns s.heap.objs.size (fun _=>none):=⟨PySem.W.emptyDict,#[],_,e1,rfl,(fun e he=>absurd he (by simp)),fun _=>rfl⟩
 have I1:=I.laid (a:=s.heap.objs.size) (o:=.own (s.heap.objs.size + 1)) (h':=s.heap.push PySem.W.emptyDict) (t':=s.toks) (fun b u q=>Heap.get?_push_of_some _ q) (Nat.le_refl _) ⟨_,e1⟩
 refine I1.laid (a:=s.heap.objs.size + 1) (o:=.ins C s.heap.objs.size []) (t':=s.toks) (fun b u q=>Heap.get?_push_of_some _ q) (Nat.le_of_eq (Heap.size_push _ _)) ?_
 have ne:s.heap.objs.size ≠ s.heap.objs.size + 1:=Nat.ne_of_lt (Nat.lt_succ_self _)
 refine ⟨by rw [bb ne,bc],Nat.zero_le _,ne,e2,fun _=>none,(Heap.Ns1.of_empty e3).at fun o q=>Heap.get?_push_of_some _ q,fun _=>True.intro,fun y hy=>absurd rfl hy⟩
theorem D7 {prog:Program} {w:World} {env:Env} {e:Expr} {f:Str} {pos:Pos} {s:Shared} {Q:Value -> Shared -> Prop} (hb:attributeBase e f env (eval e env) = eval e env)
  (h:wpAny (model prog w) A (eval e env) (fun o s₁=>wpAny (model prog w) A (getAttr o f true) Q E s₁) E s):wpAny (model prog w) A (eval (.Attribute e f pos) env) Q E s:=
 Attribute_any_ h (by rw [arm_eval_Attribute,hb])
end
noncomputable def HF (K:PySem.W.Frag) (ta:TE) (f:Str):TE:=fun σ H Q=>ta σ H fun x H1=>∃ a C dx fs v,x = .ref a /\ H1 a = some (.ins C dx fs) /\ Cls K C /\ lO K C f /\ fs.lookup f = some v /\ Q v H1
noncomputable def Iw (K:PySem.W.Frag) (ta tv:TE) (f:Str):TS:=fun D σ H=>tv σ H fun y H1=>ta σ H1 fun x H2=>∃ a C dx fs,x = .ref a /\ H2 a = some (.ins C dx fs) /\ Cls K C /\ lO K C f /\ fs.length < 1000 /\
 D.nx σ (upd H2 a (.ins C dx (ki f y fs)))
section
variable {X:Cx} {o e value:Expr} {f:Str} {pos pos' tpos:Pos} {ta tv:TE}
theorem HH (he:PE X e ta) (hb:attributeBase e f X.env (eval e X.env) = eval e X.env):PE X (.Attribute e f pos) (HF X.K ta f):=by
 intro pins s σ H Q I h
 refine D7 hb (thn (he pins s σ H _ I h) fun u s1 ⟨x,H1,I1,rx,a,C,dx,fs,v,ex,ea,c,n,l,q⟩=>?_)
 subst ex
 obtain rfl:u = Value.ref a:=rx
 exact yF I1 ea c n l fun u' s2 I2 ru=>⟨v,H1,I2,ru,q⟩
theorem Hi (ha:PE X o ta) (hv:PE X value tv) (hs:swapsWith value (some (.Attribute o f pos')) pos.line X.env = pure false):PS X (.Assign [.Attribute o f pos'] value pos) (Iw X.K ta tv f):=by
 intro pins s σ H D I h
 refine plainObj_wpAny_Assign_Attribute (thn (hv pins s σ H _ I h) fun u s1 ⟨y,H1,I1,ry,q⟩=>thn (ha pins s1 σ H1 _ I1 q) fun ov s2 ⟨x,H2,I2,rx,a,C,dx,fs,ex,ea,c,n,l,q2⟩=>?_) hs
 subst ex
 obtain rfl:ov = Value.ref a:=rx
 exact y7 I2 ea c n l ry fun s3 I3=>⟨σ,_,I3,q2⟩
end
end L2
namespace L2
open PySem PySem.Spec PyProof.Rows
structure iO (k:Nat) (A:Around):Prop where
 hd:A.handled = none
 dp:A.depth + 3 * k + 5 < recursionLimit
 un:A.units + 16 * k + 200 < cLine
theorem iO.mono {j k:Nat} {A:Around} (r:iO k A) (h:j <= k):iO j A:=⟨r.hd,by have:=r.dp; omega,by have:=r.un; omega⟩
theorem iO.deeper {k:Nat} {A:Around} (r:iO (k + 1) A) (env:Env):iO k (A.deeper env):=
 ⟨r.hd,by have:=r.dp; show A.depth + 1 + 3 * k + 5 < _; omega,by have:=r.un; show A.units + 3 + 16 * k + 200 < _; omega⟩
theorem yI {A:Around} {C:Addr} {us:List Value} {kw:List (Str × Value)}:(A.under (.builtin "type.__call__" ⟨.ref C ::us,kw⟩)).depth = A.depth + 1:=by
 first | rfl | simp [Around.under,Code.weight,Code.isCreation,Code.isGuard,Code.isCaller,Code.frames,Code.isFrame,guardIds]
theorem yg {A:Around} {C:Addr} {us:List Value} {kw:List (Str × Value)}:(A.under (.builtin "type.__call__" ⟨.ref C ::us,kw⟩)).units = A.units + 1:=by
 first | rfl | simp [Around.under,Code.cUnits,Code.frames,Code.isFrame]
theorem iO.make {k:Nat} {A:Around} (r:iO (k + 1) A) (C:Addr) (us:List Value) (kw:List (Str × Value)):iO k (A.under (.builtin "type.__call__" ⟨.ref C ::us,kw⟩)):=
 ⟨r.hd,by have:=r.dp; rw [yI]; omega,by have:=r.un; rw [yg]; omega⟩
theorem iO.depth {k:Nat} {A:Around} (r:iO k A):A.depth < recursionLimit:=by have:=r.dp; omega
theorem iO.units {k:Nat} {A:Around} (r:iO k A):A.units + 64 < cLine:=by have:=r.un; omega
noncomputable def lK:TA:=fun _ H Q=>Q [] H
noncomputable def jK (ta:TE) (tr:TA):TA:=fun σ H Q=>ta σ H fun x H1=>tr σ H1 fun xs H2=>Q (x ::xs) H2
section
variable {X:Cx} {e:Expr} {es:List Expr} {te:TE} {t:TA} {pos:Pos}
theorem GH:PA X [] lK:=fun _ _ _ _ H Q I h=>Calls.spliced_nil ⟨[],H,I,.nil,h⟩
theorem EX (ha:PE X e te) (hr:PA X es t) (hs:starEach (e ::es) X.env = (false,eval e X.env) ::starEach es X.env:=by rfl):PA X (e ::es) (jK te t):=by
 intro pos pins s σ H Q I h
 rw [hs]
 show wpAny _ _ (spliced ((false,eval e X.env) ::backTo pos (starEach es X.env))) _ _ s
 refine Calls.spliced_cons (thn (ha pins s σ H _ I h) fun u s1 ⟨x,H1,I1,r1,q1⟩=>?_)
 exact thn (hr pos pins s1 σ H1 _ I1 q1) fun us s2 ⟨xs,H2,I2,r2,q2⟩=>⟨x ::xs,H2,I2,.cons r1 r2,q2⟩
noncomputable def Gw (t:TA):TE:=fun σ H Q=>t σ H fun xs H1=>xs.length <= sizeLine /\ ∀ p,H1 p = none -> Q (.ref p) (upd H1 p (.tup xs))
noncomputable def IC (t:TA):TE:=fun σ H Q=>t σ H fun xs H1=>xs.length <= sizeLine /\ ∀ p,H1 p = none -> Q (.ref p) (upd H1 p (.lst xs))
theorem HE {x1} (h:PA X es t):PE X (.Tuple es x1 pos) (Gw t):=by
 intro pins s σ H Q I hq
 refine wpAny_Tuple_spliced (thn (h pos pins s σ H _ I hq) fun us s1 ⟨xs,H1,I1,r,z,q⟩=>⟨by rw [<- r.length]; exact z,?_⟩)
 have hf:H1 s1.heap.objs.size = none:=I1.hok.fresh (Nat.le_refl _)
 refine ⟨.ref s1.heap.objs.size,upd H1 s1.heap.objs.size (.tup xs),I1.laid (t':=s1.toks) (fun b u e=>Heap.get?_push_of_some _ e) (Nat.le_refl _) ?_,rfl,q _ hf⟩
 exact ⟨z,us,r,⟨_,Heap.get?_push_size _ rfl,rfl,_,rfl⟩⟩
theorem HN (h:PA X es t):PE X (.List es pos) (IC t):=by
 intro pins s σ H Q I hq
 refine wpAny_List_spliced (thn (h pos pins s σ H _ I hq) fun us s1 ⟨xs,H1,I1,r,z,q⟩=>⟨by rw [<- r.length]; exact z,?_⟩)
 have hf:H1 s1.heap.objs.size = none:=I1.hok.fresh (Nat.le_refl _)
 refine ⟨.ref s1.heap.objs.size,upd H1 s1.heap.objs.size (.lst xs),I1.laid (t':=s1.toks) (fun b u e=>Heap.get?_push_of_some _ e) (Nat.le_refl _) ?_,rfl,q _ hf⟩
 exact ⟨z,us,0,r,Heap.get?_push_size _ rfl⟩
end
abbrev Sp:=List V -> Hp -> VK -> XK -> Prop
abbrev CXT:=List Env -> Hp -> Shared -> XK -> Value -> Shared -> Prop
structure yM (P:Program) (w:World) (K:PySem.W.Frag) (mg:Str -> Option Value) (base:Heap) (A:Around) (outer:List Env) (s:Shared) (H:Hp):Prop where
 frames:A.frames = some outer
 mod:Mod K mg base
 bs:∀ b o,base.get? b = some o -> s.heap.get? b = some o /\ H b = none
 bsz:base.objs.size <= s.heap.objs.size
 qY:s.heap.FunFrames base outer
 frf:∀ b ∈ frs outer,H b = none
 hok:HOk P w H s.heap
 bare:AllBare s.gens
noncomputable def CE (outer:List Env) (P:Program) (w:World) (H:Hp) (s:Shared) (Q:VK) (u:Value) (s':Shared):Prop:=
 ∃ v H',s'.os = s.os /\ AllBare s'.gens /\ Un (frs outer) [] H H' s.heap s'.heap /\ HOk P w H' s'.heap /\ RelV v u /\ Q v H'
noncomputable def CR (CX:CXT) (outer:List Env) (P:Program) (w:World) (H:Hp) (s:Shared) (Q:VK) (E:XK) (r:Result) (s':Shared):Prop:=
 match r with
 | .ok (.ret u)=>CE outer P w H s Q u s'
 | .ok _=>False
 | .error e=>CX outer H s E e s'
structure bV (P:Program) (w:World) (K:PySem.W.Frag) (mg:Str -> Option Value) (base:Heap) (CX:CXT) (k:Nat) (f:Addr) (fd:FuncData) (ps:List Str) (sp:Sp):Prop where
 len:∀ vs H Q E,sp vs H Q E -> vs.length = ps.length
 run:∀ (A:Around) (outer:List Env) (s:Shared) (H:Hp) (args:Args) (us:List Value) (vs:List V) (Q:VK) (E:XK),iO k A -> yM P w K mg base A outer s H -> BindsTo s fd args (ps.zip us) -> Vals vs us -> sp vs H Q E ->
  codeAny (model P w) A (.call (.ref f) args) (CR CX outer P w H s Q E) s
theorem bV.mono {P:Program} {w:World} {K:PySem.W.Frag} {mg:Str -> Option Value} {base:Heap} {CX:CXT} {j k:Nat} {f:Addr} {fd:FuncData} {ps:List Str} {sp:Sp} (F:bV P w K mg base CX j f fd ps sp) (h:j <= k):
  bV P w K mg base CX k f fd ps sp:=⟨F.len,fun A outer s H args us vs Q E hr=>F.run A outer s H args us vs Q E (hr.mono h)⟩
theorem bV.imp {P:Program} {w:World} {K:PySem.W.Frag} {mg:Str -> Option Value} {base:Heap} {CX:CXT} {k:Nat} {f:Addr} {fd:FuncData} {ps:List Str} {sp sp':Sp} (F:bV P w K mg base CX k f fd ps sp)
  (h:∀ vs H Q E,sp' vs H Q E -> sp vs H Q E):bV P w K mg base CX k f fd ps sp':=
 ⟨fun vs H Q E q=>F.len vs H Q E (h _ _ _ _ q),fun A outer s H args us vs Q E hr he hb hv hs=>F.run A outer s H args us vs Q E hr he hb hv (h _ _ _ _ hs)⟩
theorem yM.make {P:Program} {w:World} {K:PySem.W.Frag} {mg:Str -> Option Value} {base:Heap} {A:Around} {outer:List Env} {s:Shared} {H:Hp} (e:yM P w K mg base A outer s H) (C:Addr) (us:List Value) (kw:List (Str × Value)):
  yM P w K mg base (A.under (.builtin "type.__call__" ⟨.ref C ::us,kw⟩)) outer s H:=⟨by first | exact e.frames | (simpa [Around.under,Code.envs,Code.isFrame,pushEnvs] using e.frames),e.mod,e.bs,e.bsz,e.qY,e.frf,e.hok,e.bare⟩
section
variable {X:Cx} {pins:List (Addr × Obj)} {σ:St} {H:Hp} {s s':Shared}
theorem Inv.HA (I:Inv X pins σ H s):yM X.prog X.w X.K X.mg X.base X.A X.stack s H:=
 ⟨I.ok.frames,I.ok.mod,I.bs,Nat.le_trans I.ok.bsz I.sz,I.stack,I.uZ,I.hok,I.bare⟩
theorem Inv.after {Q:VK} {u:Value} (I:Inv X pins σ H s) (h:CE X.stack X.prog X.w H s Q u s'):EP X pins σ Q u s':=by
 obtain ⟨v,H',os,bare,un,hok,r,q⟩:=h
 obtain ⟨hh,g,d,t,os'⟩:=s'
 obtain rfl:os' = s.os:=os
 exact ⟨v,H',I.call (h':=hh) (g':=g) (d':=d) (t':=t) (ch:=[]) un hok bare (fun b z=>absurd z (by simp)),r,q⟩
end
noncomputable def De (C:Addr) (sp:Sp) (dvs:List V) (E:XK) (t:TA):TE:=fun σ H Q=>t σ H fun vs H1=>∀ x dx,H1 x = none -> H1 dx = none -> dx ≠ x ->
 sp (.ref x ::(vs ++ dvs)) (upd (upd H1 dx (.own x)) x (.ins C dx [])) (fun v H2=>v = .non /\ Q (.ref x) H2) E
noncomputable def Binds (K:PySem.W.Frag) (fd:FuncData) (ps:List Str) (ds:List Value):Prop:=
 ∀ (s:Shared) (us:List Value),K.In s.heap -> (us ++ ds).length = ps.length -> BindsTo s fd ⟨us,[]⟩ (ps.zip (us ++ ds))
theorem Binds.all {K:PySem.W.Frag} {fd:FuncData} {ps:List Str} (h:∀ us:List Value,us.length = ps.length -> bindArgs fd ⟨us,[]⟩ = pure (ps.zip us)):Binds K fd ps []:=fun s us _ hl=>by
 rw [List.append_nil] at hl ⊢
 exact .of_eq (h us hl)
noncomputable def Passes (CX:CXT) (X:Cx) (E:XK):Prop:=∀ (pins:List (Addr × Obj)) (σ:St) (H:Hp) (s:Shared) (e:Value) (s':Shared),Inv X pins σ H s -> CX X.stack H s E e s' -> X.xe e s'
section
variable {X:Cx} {CX:CXT} {k:Nat} {f C:Addr} {fd:FuncData} {ps:List Str} {sp:Sp} {dvs:List V} {ds:List Value} {E:XK} {x m:Str} {p pos apos:Pos} {e o:Expr} {es:List Expr} {ta:TE} {t:TA}
structure Mk (K:PySem.W.Frag) (C f:Addr):Prop where
 makes:PySem.W.makesIn K C = true
 init:PySem.W.findIn K (.ref C) "__init__" = some (some (.ref f))
 fn:PySem.W.isFn K (.ref f) = true
 kp:PySem.W.keepIn K (.ref C) = true
theorem Ct {pins:List (Addr × Obj)} {σ:St} {H:Hp} {s:Shared} {Q:VK} {us:List Value} {vs:List V} (M:Mk X.K C f) (F:bV X.prog X.w X.K X.mg X.base CX k f fd ps sp) (hr:iO (k + 1) X.A) (hb:Binds X.K fd ps ds) (hd:Vals dvs ds)
  (hx:Passes CX X E) (I:Inv X pins σ H s) (r:Vals vs us)
  (h:∀ x dx,H x = none -> H dx = none -> dx ≠ x -> sp (.ref x ::(vs ++ dvs)) (upd (upd H dx (.own x)) x (.ins C dx [])) (fun v H2=>v = .non /\ Q (.ref x) H2) E):
  wpAny (model X.prog X.w) X.A (call (.ref C) us) (EP X pins σ Q) X.xe s:=by
 have hq:=h (s.heap.objs.size + 1) s.heap.objs.size (I.hok.fresh (Nat.le_succ _)) (I.hok.fresh (Nat.le_refl _)) (Nat.ne_of_lt (Nat.lt_succ_self _))
 have I2:=Inv.made (C:=C) I
 have r2:Vals (V.ref (s.heap.objs.size + 1) ::(vs ++ dvs)) (Value.ref (s.heap.objs.size + 1) ::(us ++ ds)):=.cons rfl (r.append hd)
 have hl:(Value.ref (s.heap.objs.size + 1) ::us ++ ds).length = ps.length:=by
  have e:=r2.length
  rw [F.len _ _ _ _ hq] at e
  exact e.symm
 refine wpAny_call (Dx (f:=f) I.kIn M.makes M.init (beq_iff_eq.mp M.fn) (codeAny_mono (F.run _ X.stack _ _ ⟨Value.ref (s.heap.objs.size + 1) ::us,[]⟩ (Value.ref (s.heap.objs.size + 1) ::(us ++ ds)) _ _ E (hr.make C us [])
  (I2.HA.make C us []) (hb _ (Value.ref (s.heap.objs.size + 1) ::us) I2.kIn hl) r2 hq) fun r s' hq'=>?_))
 cases r with
 | error e=>exact hx pins σ _ _ e s' I2 hq'
 | ok fl=>
   cases fl with
   | ret u=>
     obtain ⟨v,H',I3,rv,ev,q3⟩:=I2.after hq'
     subst ev
     exact ⟨rv,⟨V.ref (s.heap.objs.size + 1),H',I3,rfl,q3⟩⟩
   | next=>exact False.elim hq'
   | brk=>exact False.elim hq'
   | cont=>exact False.elim hq'
theorem Bo (M:Mk X.K C f) (F:bV X.prog X.w X.K X.mg X.base CX k f fd ps sp) (hr:iO (k + 1) X.A) (hg:Gl X x) (hm:X.mg x = some (.ref C)) (hb:Binds X.K fd ps ds) (hd:Vals dvs ds) (hx:Passes CX X E)
  (hdb:(x == ("__debug__":Str)) = false:=by decide):PE X (.Call (.Name x p) [] [] pos) (De C sp dvs E lK):=by
 intro pins s σ H Q I h
 refine wpAny_Call_Name_kw (mL I hg hm ?_ hdb)
 exact PySem.W.callWith_K0 I.kIn M.kp (Ct (us:=[]) M F hr hb hd hx I .nil h)
end
structure aS (N P:List Str) (sc:Scope):Prop where
 kind:sc.kind = .function
 co:sc.isCoroutine = false
 gen:sc.isGenerator = false
 nd:N.Nodup
 pre:N.take P.length = P
 par:∀ x ∈ P,sc.names.lookup x = some .local \/ sc.names.lookup x = some .cell
 nofree:∀ y ∈ sc.names,y.2 ≠ .free
theorem uv {kindOf:Str -> Option NameKind} {x:Str}:∀ {binds:List (Str × Value)} {m:Str -> Option Value},(∀ v,(x,v) ∉ binds) -> bindL kindOf binds m x = m x
 | [],_,_=>rfl
 | (n,v) ::r,m,h=>by
   unfold bindL
   rw [uv fun w hw=>h w (List.mem_cons_of_mem _ hw)]
   split
   . have:x ≠ n:=by rintro rfl; exact h v List.mem_cons_self
     simp [this]
   . rfl
theorem uo {kindOf:Str -> Option NameKind} {x:Str}:∀ {binds:List (Str × Value)} {m:Str -> Option Value},(∀ v,(x,v) ∉ binds) -> bindC kindOf binds m x = m x
 | [],_,_=>rfl
 | (n,v) ::r,m,h=>by
   unfold bindC
   rw [uo fun w hw=>h w (List.mem_cons_of_mem _ hw)]
   split
   . rfl
   . have:x ≠ n:=by rintro rfl; exact h v List.mem_cons_self
     simp [this]
theorem uM {kindOf:Str -> Option NameKind} {x:Str} {v:Value}:∀ {P:List Str} {vs:List Value} {i:Nat} {m:Str -> Option Value},P.Nodup -> P[i]? = some x -> vs[i]? = some v -> kindOf x = some .local ->
  bindL kindOf (P.zip vs) m x = some v
 | [],_,_,_,_,h,_,_=>by simp at h
 | _ ::_,[],_,_,_,_,h,_=>by simp at h
 | p ::P,w ::vs,0,m,nd,h1,h2,hk=>by
   simp at h1 h2; subst h1; subst h2
   show bindL kindOf ((p,w) ::P.zip vs) m p = _
   unfold bindL
   rw [uv fun v hv=>(List.nodup_cons.mp nd).1 (List.of_mem_zip hv).1,if_pos hk]
   simp
 | p ::P,w ::vs,i + 1,m,nd,h1,h2,hk=>by
   show bindL kindOf ((p,w) ::P.zip vs) m x = _
   unfold bindL
   exact uM (i:=i) (List.nodup_cons.mp nd).2 (by simpa using h1) (by simpa using h2) hk
theorem uh {kindOf:Str -> Option NameKind} {x:Str} {v:Value}:∀ {P:List Str} {vs:List Value} {i:Nat} {m:Str -> Option Value},P.Nodup -> P[i]? = some x -> vs[i]? = some v -> kindOf x ≠ some .local ->
  bindC kindOf (P.zip vs) m x = some v
 | [],_,_,_,_,h,_,_=>by simp at h
 | _ ::_,[],_,_,_,_,h,_=>by simp at h
 | p ::P,w ::vs,0,m,nd,h1,h2,hk=>by
   simp at h1 h2; subst h1; subst h2
   show bindC kindOf ((p,w) ::P.zip vs) m p = _
   unfold bindC
   rw [uo fun v hv=>(List.nodup_cons.mp nd).1 (List.of_mem_zip hv).1,if_neg hk]
   simp
 | p ::P,w ::vs,i + 1,m,nd,h1,h2,hk=>by
   show bindC kindOf ((p,w) ::P.zip vs) m x = _
   unfold bindC
   exact uh (i:=i) (List.nodup_cons.mp nd).2 (by simpa using h1) (by simpa using h2) hk
noncomputable def start (N:List Str) (vs:List V):St:=vs.map some ++ List.replicate (N.length - vs.length) none
noncomputable def pP (CX:CXT) (P:Program) (w:World) (K:PySem.W.Frag) (mg:Str -> Option Value) (base:Heap) (N:List Str) (qual:Str) (scope:Scope) (f:Addr) (cd:Value) (A:Around) (outer:List Env) (s:Shared) (H:Hp) (E:XK):Cx where
 prog:=P
 w:=w
 K:=K
 mg:=mg
 base:=base
 A:=A.deeper (envOfC qual scope s.heap.objs.size f cd)
 N:=N
 s₀:=s
 H₀:=H
 env:=envOfC qual scope s.heap.objs.size f cd
 outer:=outer
 stack:=envOfC qual scope s.heap.objs.size f cd ::outer
 ex:=[]
 calm:=true
 fn:=fun _=>true
 pn:=[]
 xe:=fun e s'=>wpAny (model P w) (A.deeper (envOfC qual scope s.heap.objs.size f cd)) (leaving (envOfC qual scope s.heap.objs.size f cd) e) (fun _ s''=>CX outer H s E e s'') (fun e' s''=>CX outer H s E e' s'') s'
theorem wF {sc:Scope} {n:Nat} {x:Str} (h:sc.names.lookup x = some .cell):∃ c,(cellsFrom n sc.names []).lookup x = some c:=by
 have q:=PySem.W.cellsFrom_some sc.names n [] (.inl h)
 exact Option.isSome_iff_exists.mp q
theorem Aj {CX:CXT} {P:Program} {w:World} {K:PySem.W.Frag} {mg:Str -> Option Value} {base:Heap} {N ps:List Str} {qual:Str} {scope:Scope} {f:Addr} {cd:Value} {A:Around} {outer:List Env} {s s1:Shared} {H:Hp} {E:XK} {us:List Value} {vs:List V}
  (S:aS N ps scope) (hd:A.handled = none) (e0:yM P w K mg base A outer s H) (hl:vs.length = ps.length) (r:Vals vs us)
  (x:InCallC s s.heap.objs.size (bindL (envOfC qual scope s.heap.objs.size f cd).kindOf (ps.zip us) fun _=>none) (cellsFrom (s.heap.objs.size + 1) scope.names []) (bindC (envOfC qual scope s.heap.objs.size f cd).kindOf (ps.zip us) fun _=>none) s1):
  Inv (pP CX P w K mg base N qual scope f cd A outer s H E) [] (start N vs) H s1:=by
 have hpl:ps.length <= N.length:=by have:=congrArg List.length S.pre; rw [List.length_take] at this; omega
 obtain ⟨h1,tk,rfl,hk⟩:=x.done
 have noA:∀ b:Addr,b ∉ (pP CX P w K mg base N qual scope f cd A outer s H E).ex:=fun b z=>absurd (show b ∈ ([]:List Addr) from z) (by simp)
 refine ⟨⟨e0.mod,S.kind,rfl,rfl,Nat.le_refl _,fun y z c h1 h2=>?_,fun y hy=>?_,fun y c _ h=>?_,fun _=>hd,Around.frames_deeper e0.frames,.inr ⟨rfl,rfl⟩,fun b z=>absurd z (noA b),e0.bs,e0.bsz,fun b _ _=>noA b,fun b z=>absurd z (noA b),e0.qY,e0.frf⟩,
  rfl,e0.bare,Un.kept hk,⟨_,x.toInCall.ns,fun i y v h1 h2 h3=>?_⟩,fun y c h=>⟨_,x.cell y c h⟩,e0.hok.fresh (Nat.le_refl _),fun y c h=>?_,fun p hp=>absurd (show p ∈ ([]:List (Addr × Obj)) from hp) (by simp),e0.hok.kept hk,?_⟩
 . exact name_of_addr x.apart (PySem.mem_of_lookup h1) (PySem.mem_of_lookup h2)
 . have hy:scope.names.lookup y = some .cell \/ scope.names.lookup y = some .free:=hy
   rcases hy with hy | hy
   . exact wF hy
   . exact absurd rfl (S.nofree _ (PySem.mem_of_lookup hy))
 . exact Nat.le_of_lt (x.above y c (PySem.mem_of_lookup h))
 . have hi:i < vs.length:=by
    unfold start at h2
    by_cases hi:i < vs.length
    . exact hi
    . rw [List.getElem?_append_right (by simpa using hi)] at h2
      rw [List.getElem?_replicate] at h2
      split at h2 <;> cases h2
   have ha:vs[i]? = some v:=by
    unfold start at h2
    rw [List.getElem?_append_left (by simpa using hi),List.getElem?_map] at h2
    cases e:vs[i]? with
    | none=>rw [e] at h2; cases h2
    | some a=>rw [e] at h2; cases h2; rfl
   obtain ⟨u,hu,rv⟩:=r.get ha
   have hp:ps[i]? = some y:=by
    rw [<- S.pre,List.getElem?_take_of_lt (by omega)]; exact h1
   have ndP:ps.Nodup:=by rw [<- S.pre]; exact S.nd.sublist (List.take_sublist _ _)
   refine ⟨u,rv,?_⟩
   rcases S.par y (List.mem_of_getElem? hp) with k | k
   . exact .inl ⟨k,uM ndP hp hu k⟩
   . obtain ⟨c,e⟩:=wF (n:=s.heap.objs.size + 1) k
     refine .inr ⟨.inl k,c,e,?_⟩
     have q:=x.cell y c e
     rw [uh ndP hp hu (by show scope.names.lookup y ≠ _; rw [k]; decide)] at q
     exact q
 . exact e0.hok.fresh (Nat.le_of_lt (x.above y c (PySem.mem_of_lookup h)))
 . unfold start
   show _ = N.length
   rw [List.length_append,List.length_map,List.length_replicate]
   omega
theorem Jq {CX:CXT} {P:Program} {w:World} {K:PySem.W.Frag} {mg:Str -> Option Value} {base:Heap} {k:Nat} {f:Addr} {name qual:Str} {params:Arguments} {body:List Stmt} {scope:Scope} {dV kV doc pm cdv ct oc:Value} {an od:Option Addr}
  {osl:Array (Option Value)} {N ps:List Str} {sp:Sp} (lk:K.lookup f = some ⟨oc,od,.func (PySem.W.fnOf name qual params body scope dV kV doc pm an cdv ct),osl⟩) (hcd:PySem.W.codeIn K cdv qual = true) (S:aS N ps scope)
  (len:∀ vs H Q E,sp vs H Q E -> vs.length = ps.length)
  (hbody:∀ (A:Around) (outer:List Env) (s:Shared) (H:Hp) (vs:List V) (Q:VK) (E:XK),iO k (A.deeper (envOfC qual scope s.heap.objs.size f cdv)) -> sp vs H Q E ->
    ∃ t,PSs (pP CX P w K mg base N qual scope f cdv A outer s H E) body t /\ t { nx:=fun _ H'=>Q .non H',rt:=Q } (start N vs) H):
  bV P w K mg base CX (k + 1) f (PySem.W.fnOf name qual params body scope dV kV doc pm an cdv ct) ps sp:=by
 refine ⟨len,fun A outer s H args us vs Q E hr e0 hb r hsp=>?_⟩
 have hl:=len _ _ _ _ hsp
 have KX:K.In s.heap:=e0.mod.kin.keeps fun b o e=>(e0.bs b o e).1
 have lim:s.heap.NoLimit:=e0.mod.nolimit.keeps fun b o e=>(e0.bs b o e).1
 have hkind:∀ y ∈ ps.zip us,scope.names.lookup y.1 = some .local \/ (scope.names.lookup y.1 = some .cell /\ ((cellsFrom (s.heap.objs.size + 1) scope.names []).lookup y.1).isSome = true):=fun ⟨n,v⟩ hy=>by
  rcases S.par n (List.of_mem_zip hy).1 with q | q
  . exact .inl q
  . exact .inr ⟨q,PySem.W.cellsFrom_some _ _ _ (.inl q)⟩
 refine codeAny_call_function hr.depth (KX _ _ lk) rfl S.co S.gen rfl (PySem.W.codeRec_of KX hcd) (hb _ _ _ _ ?_)
 refine wpAny_newFunctionEnv_cells S.kind hkind fun env he s1 x=>?_
 subst he
 refine ⟨lim.keeps x.toInCall.keep,codeAny_func ?_⟩
 obtain ⟨t,ht,hq⟩:=hbody A outer s H vs Q E (hr.deeper _) hsp
 have I:Inv (pP CX P w K mg base N qual scope f cdv A outer s H E) [] (start N vs) H s1:=Aj S hr.hd e0 hl r x
 refine wpAny_mono (ht [] s1 (start N vs) H _ I hq) (fun fl s' hs=>?_) fun e s' hs=>hs
 have fin:∀ {σ':St} {H':Hp} {v:V} {u:Value},Inv (pP CX P w K mg base N qual scope f cdv A outer s H E) [] σ' H' s' -> RelV v u -> Q v H' -> CE outer P w H s Q u s':=
  fun {σ' H' v u} J rv q=>⟨v,H',J.os,J.bare,J.base,J.hok,rv,q⟩
 cases fl with
 | ret u=>
   obtain ⟨v,σ',H',J,rv,q⟩:=hs
   exact fin J rv q
 | next=>
   obtain ⟨σ',H',J,q⟩:=hs
   exact fin (v:=V.non) (u:=Value.none) J rfl q
 | brk=>
   obtain ⟨_,_,_,q⟩:=hs
   exact False.elim q
 | cont=>
   obtain ⟨_,_,_,q⟩:=hs
   exact False.elim q
end L2
namespace L2
open PySem PySem.Spec PyProof.Rows
section
variable {X:Cx} {x:Str} {p pos:Pos} {e:Expr} {es:List Expr} {t:TA} {id T:String} {r:List V -> Hp -> VK -> Prop}
noncomputable def tCB (r:List V -> Hp -> VK -> Prop) (t:TA):TE:=fun σ H Q=>t σ H fun vs H1=>r vs H1 Q
theorem CS (hc:oS X (.builtin id) r) (hg:Gl X x) (hm:X.mg x = none) (hv:bootBuiltins x = some (.builtin id)) (ha:PA X (e ::es) t) (hn:x ≠ "__name__":=by decide) (hdb:(x == ("__debug__":Str)) = false:=by decide)
  (he:starEach (e ::es) X.env = (false,eval e X.env) ::starEach es X.env:=by rfl) (hpl:(backTo pos (starEach es X.env)).any (·.1) = false:=by rfl):PE X (.Call (.Name x p) (e ::es) [] pos) (tCB r t):=by
 intro pins s σ H Q I h
 refine wpAny_Call_Name_kw (sf I hg hm hv ?_ hn hdb)
 exact PyProof.Rows.callWith_builtin1 (thn (ha pos pins s σ H _ I h) fun us s1 ⟨vs,H1,I1,r1,q1⟩=>hc pins s1 σ H1 vs us Q I1 r1 q1) he hpl
theorem A9 (hc:oS X (.type T) r) (hg:Gl X x) (hm:X.mg x = none) (hv:bootBuiltins x = some (.type T)) (ha:PA X (e ::es) t) (hn:x ≠ "__name__":=by decide) (hdb:(x == ("__debug__":Str)) = false:=by decide)
  (he:starEach (e ::es) X.env = (false,eval e X.env) ::starEach es X.env:=by rfl) (hpl:(backTo pos (starEach es X.env)).any (·.1) = false:=by rfl):PE X (.Call (.Name x p) (e ::es) [] pos) (tCB r t):=by
 intro pins s σ H Q I h
 refine wpAny_Call_Name_kw (sf I hg hm hv ?_ hn hdb)
 exact PyProof.Rows.callWith_type1 (thn (ha pos pins s σ H _ I h) fun us s1 ⟨vs,H1,I1,r1,q1⟩=>hc pins s1 σ H1 vs us Q I1 r1 q1) he hpl
end
end L2
namespace HT
open PySem PyProof.Rows
section
open PySem.SeqAt
open PySem.AutoSeq1 (wpAny_loadPart')
open PySem.MeetsSeq PySem.MeetsSeq2 PySem.MeetsSeq3
end
section
variable {prog:Program} {w:World} {A:Around} {E:Value -> Shared -> Prop} {s:Shared}
noncomputable def sIx (n d:Nat):Option Int -> Nat
 | none=>d
 | some v=>if v < 0 then (v + (n:Int)).toNat else min v.toNat n
end
end HT
namespace L2
open PySem PySem.Spec PyProof.Rows
abbrev TO:=St -> Hp -> (Option Int -> Hp -> Prop) -> Prop
noncomputable def PO (X:Cx) (e:Option Expr) (t:TO):Prop:=
 ∀ (pins:List (Addr × Obj)) (s:Shared) (σ:St) (H:Hp) (Q:Option Int -> Hp -> Prop),Inv X pins σ H s -> t σ H Q ->
   wpAny (model X.prog X.w) X.A (evalPart e X.env) (fun u s'=>∃ o H',Inv X pins σ H' s' /\ IsPart u o /\ Q o H') X.xe s
noncomputable def CP (t:TE):TO:=fun σ H Q=>t σ H fun x H1=>∃ i,x = .int i /\ Q (some i) H1
section
variable {X:Cx} {e:Expr} {te:TE} {lo hi:Option Expr} {tl th:TO} {pos p2:Pos}
theorem Fo (h:PE X e te):PO X (some e) (CP te):=by
 intro pins s σ H Q I hw
 rw [evalPart_some]
 refine thn (h pins s σ H _ I hw) fun u s1 ⟨x,H1,I1,r1,q1⟩=>?_
 obtain ⟨i,rfl,q⟩:=q1
 obtain ⟨t,rfl⟩:=r1
 exact ⟨some i,H1,I1,.int i t,q⟩
noncomputable def SlR (X:Cx) (r:V -> Option Int -> Option Int -> Hp -> VK -> Prop):Prop:=
 ∀ (pins:List (Addr × Obj)) (s:Shared) (σ:St) (H:Hp) (x:V) (v vl vu:Value) (lo hi:Option Int) (sl:Addr) (Q:VK),Inv X pins σ H s -> RelV x v -> s.heap.IsSliceOf sl vl vu .none -> IsPart vl lo -> IsPart vu hi -> r x lo hi H Q ->
   ∃ T id,typeLookup (.type T) "__getitem__" = pure (some (.builtin id)) /\ s.TypeIs v T /\ wpAny (model X.prog X.w) X.A (getItem v (.ref sl)) (EP X pins σ Q) X.xe s
noncomputable def tSl (r:V -> Option Int -> Option Int -> Hp -> VK -> Prop) (te:TE) (tl th:TO):TE:=fun σ H Q=>te σ H fun x H1=>tl σ H1 fun l H2=>th σ H2 fun u H3=>r x l u H3 Q
theorem Cg {r:V -> Option Int -> Option Int -> Hp -> VK -> Prop} (hr:SlR X r) (he:PE X e te) (hl:PO X lo tl) (hu:PO X hi th):PE X (.Subscript e (.Slice lo hi none p2) pos) (tSl r te tl th):=by
 intro pins s σ H Q I h
 refine Subscript_ (thn (he pins s σ H _ I h) fun v s1 ⟨x,H1,I1,r1,q1⟩=>?_)
 refine wpAny_Slice (thn (hl pins s1 σ H1 _ I1 q1) fun vl s2 ⟨l,H2,I2,pl,q2⟩=>thn (hu pins s2 σ H2 _ I2 q2) fun vu s3 ⟨u,H3,I3,pu,q3⟩=>?_)
 rw [evalPart_none]
 refine wpAny_pure ?_
 have I4:Inv X pins σ H3 { s3 with heap:=s3.heap.push { cls:=.type "slice",data:=.fields #[vl,vu,.none] } }:=I3.kept (t':=s3.toks) fun b ob q=>Heap.get?_push_of_some _ q
 obtain ⟨T,id,hT,ht,hg⟩:=hr pins { s3 with heap:=s3.heap.push { cls:=.type "slice",data:=.fields #[vl,vu,.none] } } σ H3 x v vl vu l u s3.heap.objs.size Q I4 r1 (Heap.IsSliceOf.new ..) pl pu q3
 show wpAny (model X.prog X.w) X.A (subscriptTail e (.Slice lo hi none p2) v (.ref s3.heap.objs.size)) (EP X pins σ Q) X.xe { s3 with heap:=s3.heap.push { cls:=.type "slice",data:=.fields #[vl,vu,.none] } }
 exact tail_any (ops:=[.ref s3.heap.objs.size,v]) ht hT hg (by with_unfolding_all rfl)
noncomputable def Bh (xs:List V) (lo hi:Option Int):List V:=(xs.drop (HT.sIx xs.length 0 lo)).take (HT.sIx xs.length xs.length hi - HT.sIx xs.length 0 lo)
theorem xl (xs:List V) (lo hi:Option Int):(Bh xs lo hi).length <= xs.length:=by
 unfold Bh
 rw [List.length_take,List.length_drop]
 omega
end
end L2
namespace L2
open PySem PySem.Spec PyProof.Rows
noncomputable def ixN (n:Nat) (i:Int):Option Nat:=if 0 <= i then (if i < n then some i.toNat else none) else if -(n:Int) <= i then some (i + n).toNat else none
noncomputable def atI {α:Type} (xs:List α) (i:Int):Option α:=(ixN xs.length i).bind fun j=>xs[j]?
theorem zN {n:Nat} {i:Int} {j:Nat} (h:ixN n i = some j):seqIndex? i n = some j /\ j < n /\ -(n:Int) <= i /\ i < n:=by
 unfold ixN at h
 by_cases h0:0 <= i
 . rw [if_pos h0] at h
   by_cases h1:i < n
   . rw [if_pos h1] at h
     have e:i.toNat = j:=Option.some.inj h
     exact ⟨by rw [seqIndex_of h0 h1,e],by omega,by omega,h1⟩
   . rw [if_neg h1] at h; cases h
 . rw [if_neg h0] at h
   by_cases h1:-(n:Int) <= i
   . rw [if_pos h1] at h
     have e:(i + n).toNat = j:=Option.some.inj h
     exact ⟨by rw [seqIndex_neg (by omega) h1,e],by omega,h1,by omega⟩
   . rw [if_neg h1] at h; cases h
theorem zi {α:Type} {xs:List α} {i:Int} {v:α} (h:atI xs i = some v):∃ j,seqIndex? i xs.length = some j /\ xs[j]? = some v /\ j < xs.length /\ -(xs.length:Int) <= i /\ i < xs.length:=by
 unfold atI at h
 cases e:ixN xs.length i with
 | none=>rw [e] at h; cases h
 | some j=>
   rw [e] at h
   obtain ⟨h1,h2,h3,h4⟩:=zN e
   exact ⟨j,h1,h,h2,h3,h4⟩
noncomputable def Ab (b:Expr):Prop:=∀ o i,subscripted b false o i = operate [o,i] (getItem o i)
noncomputable def IxR (X:Cx) (r:R2):Prop:=
 ∀ (value slice:Expr) (pins:List (Addr × Obj)) (s:Shared) (σ:St) (H:Hp) (x y:V) (v u:Value) (Q:VK),Inv X pins σ H s -> RelV x v -> RelV y u -> r x y H Q ->
   subscripted slice false v u = operate [v,u] (getItem v u) -> wpAny (model X.prog X.w) X.A (subscriptTail value slice v u) (EP X pins σ Q) X.xe s
noncomputable def MtR (X:Cx) (id:String) (r:V -> List V -> Hp -> VK -> Prop):Prop:=
 ∀ (pins:List (Addr × Obj)) (s:Shared) (σ:St) (H:Hp) (x:V) (xs:List V) (v:Value) (us:List Value) (Q:VK),Inv X pins σ H s -> RelV x v -> Vals xs us -> r x xs H Q ->
   wpAny (model X.prog X.w) X.A (call (.builtin id) (v ::us)) (EP X pins σ Q) X.xe s
section
variable {X:Cx} {a b:Expr} {ta tb:TE} {pos:Pos}
theorem I9 {r:R2} (hr:IxR X r) (ha:PE X a ta) (hb:PE X b tb) (hs:Ab b):PE X (.Subscript a b pos) (tOp r ta tb):=by
 intro pins s σ H Q I h
 exact Subscript_ (GR ha hb I h fun v u s2 x y H2 I2 rx ry q=>hr a b pins s2 σ H2 x y v u Q I2 rx ry q (hs _ _))
noncomputable def Jh (K:PySem.W.Frag):R2:=fun x y H Q=>∃ p xs i v,x = .ref p /\ y = .int i /\ SqL K H p xs /\ atI xs i = some v /\ Q v H
noncomputable def Ji (K:PySem.W.Frag):R2:=fun x y H Q=>∃ p xs i v,x = .ref p /\ y = .int i /\ SqT K H p xs /\ atI xs i = some v /\ Q v H
theorem cW:IxR X (Jh X.K):=by
 intro value slice pins s σ H x y v u Q I rx ry h hs
 obtain ⟨p,xs,i,z,rfl,rfl,hq,he,q⟩:=h
 cases rx
 obtain ⟨t,rfl⟩:=ry
 obtain ⟨its,r,pl,hz⟩:=I.list hq
 obtain ⟨j,h1,h2,h3,h4,h5⟩:=zi he
 obtain ⟨w,ew,rw'⟩:=r.get h2
 have hl:=r.length
 have hn:=sq
 have fin:EP X pins σ Q w s:=⟨z,H,I,rw',q⟩
 by_cases h0:0 <= i
 . have hj:i.toNat = j:=by
    rw [seqIndex_of h0 h5] at h1
    exact Option.some.inj h1
   exact item_listR pl.isList h0 (by omega) (by rw [hj]; simpa using ew) fin hs
 . have hj:(i + (its.toArray.size:Int)).toNat = j:=by
    rw [seqIndex_neg (by omega) h4] at h1
    rw [List.size_toArray,<- hl]
    exact Option.some.inj h1
   exact subscriptTail_builtinR (x:=w) pl.isList.typeIs slot_list_getitem.lookup
    (wpAny_getItem_list_neg (Q:=fun r s'=>r = w /\ EP X pins σ Q r s') pl.isList (by omega) (by rw [List.size_toArray] <;> omega) (by omega) (by rw [hj]; simpa using ew) ⟨rfl,fin⟩) hs
theorem gp:IxR X (Ji X.K):=by
 intro value slice pins s σ H x y v u Q I rx ry h hs
 obtain ⟨p,xs,i,z,rfl,rfl,hq,he,q⟩:=h
 cases rx
 obtain ⟨t,rfl⟩:=ry
 obtain ⟨its,r,pl,hz⟩:=I.tuple hq
 obtain ⟨j,h1,h2,h3,h4,h5⟩:=zi he
 obtain ⟨w,ew,rw'⟩:=r.get h2
 have hl:=r.length
 have hn:=sq
 have fin:EP X pins σ Q w s:=⟨z,H,I,rw',q⟩
 exact subscriptTail_builtinR (x:=w) pl.typeIs slot_tuple_getitem.lookup
  (getItem_tuple (j:=j) (Q:=fun r s'=>r = w /\ EP X pins σ Q r s') pl (by omega) (by omega) (by rw [List.size_toArray,<- hl]; exact h1) (by simpa using ew) ⟨rfl,fin⟩) hs
theorem yn (its:List Value) (n j:Nat) (u:Value):Obj.mapSeq (·.setIfInBounds j u) { cls:=.type "list",data:=.seq its.toArray n } = { cls:=.type "list",data:=.seq (its.set j u).toArray n }:=by
 simp [Obj.mapSeq]
theorem Inv.lst {pins:List (Addr × Obj)} {σ:St} {H:Hp} {s:Shared} {p:Addr} {xs:List V} (I:Inv X pins σ H s) (h:H p = some (.lst xs)):
  ∃ (its:List Value) (n:Nat),Vals xs its /\ s.heap.get? p = some { cls:=.type "list",data:=.seq its.toArray n } /\ xs.length <= sizeLine:=by
 obtain ⟨z,its,n,r,e⟩:=I.hok p _ h
 exact ⟨its,n,r,e,z⟩
theorem Inv.Hc {pins:List (Addr × Obj)} {σ:St} {H:Hp} {s:Shared} {p:Addr} {xs ys:List V} {its its':List Value} {n n':Nat} {f:Obj -> Obj} (I:Inv X pins σ H s) (h:H p = some (.lst xs))
  (ho:s.heap.get? p = some { cls:=.type "list",data:=.seq its.toArray n }) (hf:f { cls:=.type "list",data:=.seq its.toArray n } = { cls:=.type "list",data:=.seq its'.toArray n' }) (r:Vals ys its') (hz:ys.length <= sizeLine) (t:Nat):
  Inv X pins σ (upd H p (.lst ys)) { s with heap:=s.heap.update p f,toks:=t }:=by
 have e:(s.heap.update p f).get? p = some { cls:=.type "list",data:=.seq its'.toArray n' }:=by
  rw [Heap.get?_update_self f ho (by rw [hf] <;> rfl),hf]
 refine I.write (x:=p) (e:=p) (by rw [h]; trivial) (.inl rfl) (fun b u hb q=>(Heap.get?_update_other _ _ (Ne.symm hb)).trans q) ⟨_,e⟩ ?_
 exact ⟨hz,its',n',r,e⟩
noncomputable def Fx:V -> V -> V -> Hp -> (Hp -> Prop) -> Prop:=fun o i v H Q=>∃ p xs k j,o = .ref p /\ i = .int k /\ H p = some (.lst xs) /\ ixN xs.length k = some j /\ Q (upd H p (.lst (xs.set j v)))
theorem set_list:Gv X Fx:=by
 intro pins s σ H o i v ov iv u Q I ro ri rv h
 obtain ⟨p,xs,k,j,rfl,rfl,hp,hj,q⟩:=h
 cases ro
 obtain ⟨t,rfl⟩:=ri
 obtain ⟨its,n,r,ho,hz⟩:=I.lst hp
 obtain ⟨h1,h2,h3,h4⟩:=zN hj
 have hl:=r.length
 have hn:=sq
 have I':Inv X pins σ (upd H p (.lst (xs.set j v))) { s with heap:=s.heap.update p (Obj.mapSeq (·.setIfInBounds j u)) }:=
  I.Hc hp ho (yn its n j u) (r.set rv j) (by rw [List.length_set]; exact hz) s.toks
 by_cases h0:0 <= k
 . have hk:k.toNat = j:=by
    rw [seqIndex_of h0 h4] at h1
    exact Option.some.inj h1
   exact PySem.W.ki_setAt ho h0 (by omega) (by rw [List.size_toArray,<- hl]; exact h4) (by rw [hk]; exact ⟨_,I',q⟩)
 . have hk:(k + (its.toArray.size:Int)).toNat = j:=by
    rw [seqIndex_neg (by omega) h3] at h1
    rw [List.size_toArray,<- hl]
    exact Option.some.inj h1
   exact PySem.W.ki_setBack ho (by omega) (by rw [List.size_toArray,<- hl]; exact h3) (by omega) (by rw [hk]; exact ⟨_,I',q⟩)
theorem vk (lo hi:Option Int) (n:Nat):(sliceBounds lo hi none n).1 = ((HT.sIx n 0 lo:Nat):Int) /\ (sliceBounds lo hi none n).2.1 = ((HT.sIx n n hi:Nat):Int) /\ (sliceBounds lo hi none n).2.2 = 1:=by
 refine ⟨?_,?_,rfl⟩
 . cases lo with
   | none=>simp [sliceBounds,HT.sIx]
   | some i=>
     simp only [sliceBounds,HT.sIx,Option.getD_none,show (1:Int) > 0 by decide,if_true]
     by_cases h:i < 0
     . simp only [h,if_true] <;> omega
     . simp only [h,if_false] <;> omega
 . cases hi with
   | none=>simp [sliceBounds,HT.sIx]
   | some i=>
     simp only [sliceBounds,HT.sIx,Option.getD_none,show (1:Int) > 0 by decide,if_true]
     by_cases h:i < 0
     . simp only [h,if_true] <;> omega
     . simp only [h,if_false] <;> omega
theorem tO (its:List Value) (lo hi:Option Int):slicePick its.toArray lo hi none = ((its.drop (HT.sIx its.length 0 lo)).take (HT.sIx its.length its.length hi - HT.sIx its.length 0 lo)).toArray:=by
 obtain ⟨h1,h2,h3⟩:=vk lo hi its.toArray.size
 unfold slicePick
 rw [h1,h2,h3]
 simp only [sliceRange_one,pick_run,List.size_toArray] <;> rfl
noncomputable def Kh (K:PySem.W.Frag):V -> Option Int -> Option Int -> Hp -> VK -> Prop:=fun x lo hi H Q=>∃ a xs,x = .ref a /\ SqL K H a xs /\ ∀ p,H p = none -> Q (.ref p) (upd H p (.lst (Bh xs lo hi)))
theorem wc:SlR X (Kh X.K):=by
 intro pins s σ H x v vl vu lo hi sl Q I rx hs pl pu h
 obtain ⟨a,xs,rfl,hx,q⟩:=h
 cases rx
 obtain ⟨its,r,ht,hz⟩:=I.list hx
 have hlen:=r.length
 refine ⟨"list",_,slot_list_getitem.lookup,ht.isList.typeIs,?_⟩
 refine wpAny_getItem_list_slice ht.isList hs pl pu .none (by simp) ?_ (by rw [List.size_toArray] <;> omega)
 rw [tO,<- hlen]
 refine ⟨.ref s.heap.objs.size,_,I.laid (t':=s.toks) (o:=.lst (Bh xs lo hi)) (fun b ob q=>Heap.get?_push_of_some _ q) (Nat.le_refl _) ?_,rfl,q _ (I.hok.fresh (Nat.le_refl _))⟩
 exact ⟨Nat.le_trans (xl xs lo hi) hz,_,0,(r.drop (HT.sIx xs.length 0 lo)).take (HT.sIx xs.length xs.length hi - HT.sIx xs.length 0 lo),Heap.get?_push_size _ rfl⟩
noncomputable def oZ:V -> Bool
 | .non=>true
 | .bl _=>true
 | .int _=>true
 | .str _=>true
 | _=>false
noncomputable def eqV:V -> V -> Bool
 | .non,.non=>true
 | .bl a,.bl b=>a == b
 | .bl a,.int b=>(if a then 1 else 0) == b
 | .int a,.bl b=>a == (if b then 1 else 0)
 | .int a,.int b=>a == b
 | .str a,.str b=>a == b
 | _,_=>false
theorem Ia {A:Around} {s:Shared} {y x:V} {u v:Value} (ry:RelV y u) (rx:RelV x v) (fy:oZ y = true) (fx:oZ x = true):SeqAt.EqAt A s u v (eqV y x):=by
 cases y with
 | non=>
   cases ry
   cases x with
   | non=>cases rx; exact SeqAt.EqAt.same _
   | bl b=>cases rx; exact SeqAt.EqAt.none_bool b
   | int b=>obtain ⟨t,rfl⟩:=rx; exact SeqAt.EqAt.none_int b t
   | str b=>obtain ⟨t,rfl⟩:=rx; exact SeqAt.EqAt.none_str b t
   | _=>exact absurd (show false = true from fx) Bool.false_ne_true
 | bl a=>
   cases ry
   cases x with
   | non=>cases rx; exact SeqAt.EqAt.bool_none a
   | bl b=>cases rx; exact SeqAt.EqAt.bool_bool a b
   | int b=>obtain ⟨t,rfl⟩:=rx; exact SeqAt.EqAt.bool_int a b t
   | str b=>obtain ⟨t,rfl⟩:=rx; exact SeqAt.EqAt.bool_str a b t
   | _=>exact absurd (show false = true from fx) Bool.false_ne_true
 | int a=>
   obtain ⟨t',rfl⟩:=ry
   cases x with
   | non=>cases rx; exact SeqAt.EqAt.int_none a t'
   | bl b=>cases rx; exact SeqAt.EqAt.int_bool a t' b
   | int b=>obtain ⟨t,rfl⟩:=rx; exact SeqAt.EqAt.int_int a t' b t
   | str b=>obtain ⟨t,rfl⟩:=rx; exact SeqAt.EqAt.int_str a t' b t
   | _=>exact absurd (show false = true from fx) Bool.false_ne_true
 | str a=>
   obtain ⟨t',rfl⟩:=ry
   cases x with
   | non=>cases rx; exact SeqAt.EqAt.str_none a t'
   | bl b=>cases rx; exact SeqAt.EqAt.str_bool a t' b
   | int b=>obtain ⟨t,rfl⟩:=rx; exact SeqAt.EqAt.str_int a t' b t
   | str b=>obtain ⟨t,rfl⟩:=rx; exact SeqAt.EqAt.str_str a t' b t
   | _=>exact absurd (show false = true from fx) Bool.false_ne_true
 | _=>exact absurd (show false = true from fy) Bool.false_ne_true
noncomputable def eqU (x:V) (u:Value):Bool:=match u with
 | .none=>eqV .non x
 | .bool b=>eqV (.bl b) x
 | .int i _=>eqV (.int i) x
 | .str z _=>eqV (.str z) x
 | _=>false
theorem CY {x y:V} {u:Value} (r:RelV y u) (f:oZ y = true):eqU x u = eqV y x:=by
 cases y with
 | non=>cases r; rfl
 | bl b=>cases r; rfl
 | int i=>obtain ⟨t,rfl⟩:=r; rfl
 | str z=>obtain ⟨t,rfl⟩:=r; rfl
 | _=>exact absurd (show false = true from f) Bool.false_ne_true
theorem pI {x:V}:∀ {xs:List V} {us:List Value},Vals xs us -> xs.all oZ = true -> us.any (eqU x) = xs.any fun y=>eqV y x
 | _,_,.nil,_=>rfl
 | y ::xs,u ::us,.cons r t,f=>by
   rw [List.all_cons,Bool.and_eq_true] at f
   rw [List.any_cons,List.any_cons,CY r f.1,pI t f.2]
theorem nO {A:Around} {s:Shared} {x:V} {v:Value} (rx:RelV x v) (fx:oZ x = true):∀ {xs:List V} {us:List Value},Vals xs us -> xs.all oZ = true -> ∀ u ∈ us,SeqAt.EqAt A s u v (eqU x u)
 | _,_,.nil,_=>fun u hu=>by cases hu
 | y ::xs,u ::us,.cons r t,f=>fun u' hu=>by
   rw [List.all_cons,Bool.and_eq_true] at f
   rcases List.mem_cons.mp hu with rfl | hu
   . rw [CY r f.1]; exact Ia r rx f.1 fx
   . exact nO rx fx t f.2 u' hu
noncomputable def inV (x:V) (xs:List V):Bool:=xs.any fun y=>eqV y x
noncomputable def rIn (K:PySem.W.Frag) (neg:Bool):R2:=fun x y H Q=>∃ p xs,y = .ref p /\ (SqL K H p xs \/ SqT K H p xs) /\ oZ x = true /\ xs.all oZ = true /\ Q (.bl (if neg then !inV x xs else inV x xs)) H
theorem Ag:OpR X (compareOp .In) (rIn X.K false):=by
 intro pins s σ H x y v u Q I rx ry h
 obtain ⟨p,xs,rfl,hq,fx,fs,q⟩:=h
 cases ry
 rcases hq with hq | hq
 . obtain ⟨its,r,pl,hz⟩:=I.list hq
   refine SeqAt.in_listAt (eqU x) pl.isList (fun w hw=>nO rx fx r fs w (by simpa using hw)) ⟨.bl _,H,I,rfl,?_⟩
   rw [show its.toArray.any (eqU x) = its.any (eqU x) by simp,pI r fs]
   exact q
 . obtain ⟨its,r,pl,hz⟩:=I.tuple hq
   refine SeqAt.in_tupleAt (eqU x) pl (fun w hw=>nO rx fx r fs w (by simpa using hw)) ⟨.bl _,H,I,rfl,?_⟩
   rw [show its.toArray.any (eqU x) = its.any (eqU x) by simp,pI r fs]
   exact q
theorem vg:OpR X (compareOp .NotIn) (rIn X.K true):=by
 intro pins s σ H x y v u Q I rx ry h
 obtain ⟨p,xs,rfl,hq,fx,fs,q⟩:=h
 cases ry
 rcases hq with hq | hq
 . obtain ⟨its,r,pl,hz⟩:=I.list hq
   refine SeqAt.notIn_listAt (eqU x) pl.isList (fun w hw=>nO rx fx r fs w (by simpa using hw)) ⟨.bl _,H,I,rfl,?_⟩
   rw [show its.toArray.any (eqU x) = its.any (eqU x) by simp,pI r fs]
   exact q
 . obtain ⟨its,r,pl,hz⟩:=I.tuple hq
   refine SeqAt.notIn_tupleAt (eqU x) pl (fun w hw=>nO rx fx r fs w (by simpa using hw)) ⟨.bl _,H,I,rfl,?_⟩
   rw [show its.toArray.any (eqU x) = its.any (eqU x) by simp,pI r fs]
   exact q
theorem cb:oS X (.builtin "len") (fun xs H Q=>∃ p ys,xs = [.ref p] /\ (SqL X.K H p ys \/ SqT X.K H p ys) /\ Q (.int ys.length) H):=by
 intro pins s σ H xs us Q I r h
 obtain ⟨p,ys,rfl,hq,q⟩:=h
 obtain ⟨u,rfl,rx⟩:=vals1 r
 cases rx
 have hn:=sq
 rcases hq with hq | hq
 . obtain ⟨its,r',pl,hz⟩:=I.list hq
   have hlen:=r'.length
   exact Calls.call_len_list pl.isList (by simp only [List.size_toArray] <;> omega) ⟨.int ys.length,H,I.tok _,⟨s.toks + 1,by rw [List.size_toArray,hlen]⟩,q⟩
 . obtain ⟨its,r',pl,hz⟩:=I.tuple hq
   have hlen:=r'.length
   exact len_tuple pl (by simp only [List.size_toArray] <;> omega) ⟨.int ys.length,H,I.tok _,⟨s.toks + 1,by rw [List.size_toArray,hlen]⟩,q⟩
theorem vS:oS X (.type "list") (fun xs H Q=>∃ p ys,xs = [.ref p] /\ (SqL X.K H p ys \/ SqT X.K H p ys) /\ ∀ l,H l = none -> Q (.ref l) (upd H l (.lst ys))):=by
 intro pins s σ H xs us Q I r h
 obtain ⟨p,ys,rfl,hq,q⟩:=h
 obtain ⟨u,rfl,rx⟩:=vals1 r
 cases rx
 have fin:∀ (its:List Value),Vals ys its -> ys.length <= sizeLine -> ∀ (h':Heap) (c':Nat),(∀ b o',s.heap.get? b = some o' -> h'.get? b = some o') ->
   h'.get? s.heap.objs.size = some { cls:=.type "list",dict:=none,data:=.seq its.toArray c',slots:=#[] } -> EP X pins σ Q (.ref s.heap.objs.size) { s with heap:=h' }:=fun its r' hz h' c' kp e=>
  ⟨.ref s.heap.objs.size,_,I.laid (t':=s.toks) kp (Nat.le_refl _) (show fY X.prog X.w _ h' _ (.lst ys) from ⟨hz,its,c',r',e⟩),rfl,q _ (I.hok.fresh (Nat.le_refl _))⟩
 rcases hq with hq | hq
 . obtain ⟨its,r',pl,hz⟩:=I.list hq
   have hlen:=r'.length
   obtain ⟨o,ho,hc,n,hd⟩:=pl.isList
   exact call_list_seq p (.inl rfl) ho hc hd (fun h' c' kp e=>fin its r' hz h' c' kp e) (by simp only [List.size_toArray] <;> omega)
 . obtain ⟨its,r',pl,hz⟩:=I.tuple hq
   have hlen:=r'.length
   obtain ⟨o,ho,hc,n,hd⟩:=pl
   exact call_list_seq p (.inr rfl) ho hc hd (fun h' c' kp e=>fin its r' hz h' c' kp e) (by simp only [List.size_toArray] <;> omega)
noncomputable def tyV (K:PySem.W.Frag) (T:String) (x:V) (H:Hp):Prop:=match x with
 | .str _=>T = "str"
 | .int _=>T = "int"
 | .ref p=>(T = "list" /\ ∃ xs,SqL K H p xs) \/ (T = "tuple" /\ ∃ o,K.lookup p = some o /\ o.cls = .type "tuple" /\ o.dict = none) \/
    (T = "dict" /\ ((∃ kvs,H p = some (.dK kvs)) \/ ∃ kvs,H p = some (.dT kvs))) \/ (T = "set" /\ ∃ S n,H p = some (.set S n))
 | _=>False
theorem Dg {pins:List (Addr × Obj)} {σ:St} {H:Hp} {s:Shared} {T:String} {x:V} {v:Value} (I:Inv X pins σ H s) (r:RelV x v) (ty:tyV X.K T x H):
  s.TypeIs v T /\ ∀ a,v = .ref a -> ∃ ob,s.heap.get? a = some ob /\ ob.dict = none:=by
 cases x with
 | str z=>
   obtain ⟨t,rfl⟩:=r
   cases (show T = "str" from ty)
   exact ⟨typeIs_str s z t,fun _ e=>nomatch e⟩
 | int i=>
   obtain ⟨t,rfl⟩:=r
   cases (show T = "int" from ty)
   exact ⟨typeIs_int s i t,fun _ e=>nomatch e⟩
 | ref p=>
   cases r
   rcases ty with ⟨rfl,xs,hq⟩ | ⟨rfl,o,hk,hc,hd⟩ | ⟨rfl,hk⟩ | ⟨rfl,S,n,hk⟩
   . obtain ⟨its,_,pl,_⟩:=I.list hq
     refine ⟨pl.isList.typeIs,fun a e=>?_⟩
     cases e
     obtain ⟨o,n,e,c,hd,_⟩:=pl
     exact ⟨o,e,hd⟩
   . refine ⟨⟨o,I.kIn p o hk,hc⟩,fun a e=>?_⟩
     cases e
     exact ⟨o,I.kIn _ o hk,hd⟩
   . have z:∃ o,s.heap.get? p = some o /\ o.ExactDict:=by
      rcases hk with ⟨kvs,hk⟩ | ⟨kvs,hk⟩
      . obtain ⟨_,_,_,_,o,_,_,e,ex,_⟩:=I.hok p _ hk
        exact ⟨o,e,ex⟩
      . obtain ⟨_,_,_,_,o,_,_,e,ex,_⟩:=I.hok p _ hk
        exact ⟨o,e,ex⟩
     obtain ⟨o,e,ex⟩:=z
     refine ⟨⟨o,e,ex.1⟩,fun a e2=>?_⟩
     cases e2
     exact ⟨o,e,ex.2.1⟩
   . obtain ⟨o,_,_,_,e,ex,_⟩:=I.hok p _ hk
     refine ⟨⟨o,e,ex.1⟩,fun a e2=>?_⟩
     cases e2
     exact ⟨o,e,ex.2.1⟩
 | _=>exact False.elim ty
noncomputable def Gj (K:PySem.W.Frag) (T:String) (r:V -> List V -> Hp -> VK -> Prop) (to:TE):TE:=fun σ H Q=>to σ H fun x H1=>tyV K T x H1 /\ r x [] H1 Q
noncomputable def tBM (K:PySem.W.Frag) (T:String) (r:V -> List V -> Hp -> VK -> Prop) (to:TE) (t:TA):TE:=fun σ H Q=>to σ H fun x H1=>tyV K T x H1 /\ t σ H1 fun xs H2=>r x xs H2 Q
variable {o e:Expr} {es:List Expr} {to:TE} {t:TA} {name:Str} {apos cpos:Pos} {T id:String} {r:V -> List V -> Hp -> VK -> Prop}
theorem He (pa:PlainAttrs T) (slot:Slot T name id) (hty:typeOf (.builtin id) = pure (.type "method_descriptor")) (hm:MtR X id r) (ho:PE X o to)
  (hbase:attributeBase o name X.env (eval o X.env) = eval o X.env:=by rfl) (hline:(apos.endLine == cpos.line) = true:=by rfl):PE X (.Call (.Attribute o name apos) [] [] cpos) (Gj X.K T r to):=by
 intro pins s σ H Q I h
 refine wpAny_Call_method0_late hbase hline (thn (ho pins s σ H _ I h) fun v s1 ⟨x,H1,I1,r1,ty,q1⟩=>?_)
 obtain ⟨h1,h2⟩:=Dg I1 r1 ty
 exact ⟨T,id,pa,slot,hty,h1,h2,Calls.callWith_builtin rfl (PySem.evalArgs_none (hm pins s1 σ H1 x [] v [] Q I1 r1 .nil q1))⟩
theorem Jt (pa:PlainAttrs T) (slot:Slot T name id) (hty:typeOf (.builtin id) = pure (.type "method_descriptor")) (hm:MtR X id r) (ho:PE X o to) (ha:PA X (e ::es) t)
  (hbase:attributeBase o name X.env (eval o X.env) = eval o X.env:=by rfl)
  (hfew:((backTo cpos (starEach (e ::es) X.env)).all (fun x=>!x.1) && (backToKw cpos (keywordEach [] X.env)).all (fun x=>x.1.isSome)
    && decide ((e ::es).length + ([]:List Keyword).length + (if ([]:List Keyword).isEmpty then 0 else 1) < 30)) = true:=by rfl)
  (hline:(apos.endLine == cpos.line) = true:=by rfl) (hs:starEach (e ::es) X.env = (false,eval e X.env) ::starEach es X.env:=by rfl) (hplain:(backTo cpos (starEach es X.env)).any (·.1) = false:=by rfl):
  PE X (.Call (.Attribute o name apos) (e ::es) [] cpos) (tBM X.K T r to t):=by
 intro pins s σ H Q I h
 refine wpAny_Call_method_late hbase hfew hline rfl (thn (ho pins s σ H _ I h) fun v s1 ⟨x,H1,I1,r1,ty,q1⟩=>?_)
 obtain ⟨h1,h2⟩:=Dg I1 r1 ty
 refine ⟨T,id,pa,slot,hty,h1,h2,?_⟩
 have hA:=ha cpos pins s1 σ H1 _ I1 q1
 rw [hs] at hA ⊢
 refine Calls.callWith_builtin (by show (false || (backTo cpos (starEach es X.env)).any (·.1)) = false; rw [hplain] <;> rfl) (Calls.evalArgs_plain ?_)
 exact thn hA fun us s2 ⟨vs,H2,I2,r2,q2⟩=>hm pins s2 σ H2 x vs v us Q I2 r1 r2 q2
end
end L2
namespace L2
open PySem PySem.Spec PyProof.Rows
noncomputable def MtM (X:Cx) (id:String) (r:V -> List V -> Hp -> VK -> Prop):Prop:=
 ∀ (pins:List (Addr × Obj)) (s:Shared) (σ:St) (H:Hp) (x:V) (xs:List V) (v:Value) (us:List Value) (Q:VK),Inv X pins σ H s -> RelV x v -> Vals xs us -> r x xs H Q ->
   wpAny (model X.prog X.w) X.A (call (.builtin id) (v ::us)) (EP X pins σ Q) X.xe s
theorem Vals.one:∀ {x:V} {us:List Value},Vals [x] us -> ∃ u,us = [u] /\ RelV x u
 | _,_,.cons r .nil=>⟨_,rfl,r⟩
theorem Vals.two:∀ {x y:V} {us:List Value},Vals [x,y] us -> ∃ u v,us = [u,v] /\ RelV x u /\ RelV y v
 | _,_,_,.cons r (.cons q .nil)=>⟨_,_,rfl,r,q⟩
theorem Vals.zero:∀ {us:List Value},Vals [] us -> us = []
 | _,.nil=>rfl
theorem Vals.dropLast {xs:List V} {us:List Value} (h:Vals xs us):Vals xs.dropLast us.dropLast:=by
 induction h with
 | nil=>exact .nil
 | cons r t ih=>
   cases t with
   | nil=>exact .nil
   | cons q t'=>exact .cons r ih
theorem Vals.eraseIdx:∀ {xs:List V} {us:List Value} (i:Nat),Vals xs us -> Vals (xs.eraseIdx i) (us.eraseIdx i)
 | _,_,_,.nil=>.nil
 | _,_,0,.cons _ t=>t
 | _,_,i + 1,.cons r t=>.cons r (Vals.eraseIdx i t)
theorem yY {α:Type} (l:List α):l.eraseIdx (l.length - 1) = l.dropLast:=by
 induction l with
 | nil=>rfl
 | cons a r ih=>
   cases r with
   | nil=>rfl
   | cons b r=>
     have e:(a ::b ::r).length - 1 = ((b ::r).length - 1) + 1:=by
      have h1:(a ::b ::r).length = r.length + 2:=rfl
      have h2:(b ::r).length = r.length + 1:=rfl
      omega
     rw [e,List.eraseIdx_cons_succ,ih]
     all_goals rfl
section
variable {X:Cx} {pins:List (Addr × Obj)} {σ:St} {H:Hp} {s:Shared} {l b:Addr} {xs ys zs:List V}
theorem Inv.D0 {its its':List Value} {n:Nat} {f:Array Value -> Array Value} {t':Nat} (I:Inv X pins σ H s) (hH:H l = some (.lst xs))
  (e:s.heap.get? l = some { cls:=.type "list",data:=.seq its.toArray n }) (hf:f its.toArray = its'.toArray) (hv:Vals ys its') (hz:ys.length <= sizeLine):
  Inv X pins σ (upd H l (.lst ys)) { s with heap:=s.heap.update l (Obj.mapSeq f),toks:=t' }:=by
 have q:=PySem.IsL.update e f
 rw [hf] at q
 refine I.write (x:=l) (e:=l) (by rw [hH]; exact trivial) (.inl rfl) (fun b' u hb hu=>(Heap.get?_update_other s.heap (Obj.mapSeq f) (Ne.symm hb)).trans hu) ⟨_,q⟩ ?_
 exact ⟨hz,its',_,hv,q⟩
theorem Inv.II {its:List Value} {t':Nat} (I:Inv X pins σ H s) (hv:Vals ys its) (hz:ys.length <= sizeLine):
  Inv X pins σ (upd H s.heap.objs.size (.lst ys)) { s with heap:=s.heap.push { cls:=.type "list",data:=.seq its.toArray },toks:=t' }:=
 I.laid (fun _ _ q=>Heap.get?_push_of_some _ q) (Nat.le_refl _) ⟨hz,its,0,hv,Heap.get?_push_size _ rfl⟩
theorem Inv.fresh (I:Inv X pins σ H s):H s.heap.objs.size = none:=I.hok.fresh (Nat.le_refl _)
theorem Inv.CC (I:Inv X pins σ H s) (hH:H l = some (.lst xs)):xs.length <= sizeLine /\ ∃ (its:List Value) (n:Nat),Vals xs its /\ xs.length = its.length /\ s.heap.get? l = some { cls:=.type "list",data:=.seq its.toArray n }:=by
 obtain ⟨z,its,n,r,e⟩:=I.hok l _ hH
 exact ⟨z,its,n,r,r.length,e⟩
theorem Cm {n:Nat} (h:n <= sizeLine):Builtin.List.listTooLong n = false:=by
 unfold Builtin.List.listTooLong
 exact decide_eq_false (by omega)
end
section
variable {X:Cx}
noncomputable def we:V -> List V -> Hp -> VK -> Prop:=fun x vs H Q=>∃ l xs y,x = .ref l /\ vs = [y] /\ H l = some (.lst xs) /\ xs.length < sizeLine /\ Q .non (upd H l (.lst (xs ++ [y])))
theorem gN:MtM X "list.append" we:=by
 intro pins s σ H x vs v us Q I rx rv h
 obtain ⟨l,xs,y,rfl,rfl,hH,hz,q⟩:=h
 cases rx
 obtain ⟨u,rfl,ru⟩:=rv.one
 obtain ⟨z,its,n,r,hl,e⟩:=I.CC hH
 refine call_meets F.slot_list_append ⟨_,e,rfl⟩ F.entry_list_append (F.args_list_append_2 _ _) (PySem.list_append l its.toArray n u (by rw [List.size_toArray]; omega)) ⟨e,?_⟩
 refine ⟨.non,_,I.D0 (its':=its ++ [u]) hH e (by simp) (r.append (.cons ru .nil)) ?_,rfl,q⟩
 rw [List.length_append,List.length_singleton]
 omega
noncomputable def u4:V -> List V -> Hp -> VK -> Prop:=fun x vs H Q=>∃ l b xs zs,x = .ref l /\ vs = [.ref b] /\ H l = some (.lst xs) /\ H b = some (.lst zs) /\ xs.length + zs.length <= sizeLine /\ Q .non (upd H l (.lst (xs ++ zs)))
theorem uL:MtM X "list.extend" u4:=by
 intro pins s σ H x vs v us Q I rx rv h
 obtain ⟨l,b,xs,zs,rfl,rfl,hH,hB,hz,q⟩:=h
 cases rx
 obtain ⟨u,rfl,ru⟩:=rv.one
 cases ru
 obtain ⟨z,its,n,r,hl,e⟩:=I.CC hH
 obtain ⟨z2,its2,n2,r2,hl2,e2⟩:=I.CC hB
 have hsz:its.toArray.size + its2.toArray.size <= sizeLine:=by rw [List.size_toArray,List.size_toArray]; omega
 have hlong:¬ (!its.toArray.isEmpty && Builtin.List.listTooLong (its.toArray.size + its2.toArray.size)) = true:=by
  rw [Cm hsz,Bool.and_false]
  exact Bool.false_ne_true
 refine call_meets F.slot_list_extend ⟨_,e,rfl⟩ F.entry_list_extend (F.args_list_extend_2 _ _)
  (AutoSeq1.list_extend_list_list_0 l its.toArray n b its2.toArray n2 hlong (by rw [List.size_toArray]; omega) (by omega)) ⟨e,e2,?_⟩
 refine ⟨.non,_,I.D0 (its':=its ++ its2) hH e (by simp) (r.append r2) ?_,rfl,q⟩
 rw [List.length_append]
 omega
noncomputable def JB:V -> List V -> Hp -> VK -> Prop:=fun x vs H Q=>∃ l xs y,x = .ref l /\ vs = [] /\ H l = some (.lst xs) /\ xs[xs.length - 1]? = some y /\ Q y (upd H l (.lst xs.dropLast))
theorem Dw:MtM X "list.pop" JB:=by
 intro pins s σ H x vs v us Q I rx rv h
 obtain ⟨l,xs,y,rfl,rfl,hH,hy,q⟩:=h
 cases rx
 have hus:=rv.zero
 subst hus
 obtain ⟨z,its,n,r,hl,e⟩:=I.CC hH
 obtain ⟨u,hu,ru⟩:=r.get hy
 have hy':its.toArray[its.toArray.size - 1]? = some u:=by
  show its.toArray[its.length - 1]? = some u
  rw [<- Array.getElem?_toList,<- hl]
  exact hu
 refine call_meets F.slot_list_pop ⟨_,e,rfl⟩ F.entry_list_pop (F.args_list_pop_1 _) (MeetsSeq.list_pop_last l its.toArray n u hy' (by rw [List.size_toArray]; omega)) ⟨e,?_⟩
 refine ⟨y,_,I.D0 (its':=its.dropLast) hH e ?_ r.dropLast ?_,ru,q⟩
 . show its.toArray.eraseIdxIfInBounds (its.toArray.size - 1) = its.dropLast.toArray
   rw [List.size_toArray,List.eraseIdxIfInBounds_toArray,yY]
 . rw [List.length_dropLast]
   omega
end
section
variable {prog:Program} {w:World} {A:Around} {E:Value -> Shared -> Prop} {s:Shared}
set_option maxRecDepth 100000 in
end
end L2
namespace Att
open PySem PySem.W PySem.Calls PyProof.Rows
theorem q8 {P:Params} {h:Heap}:∀ (ns:List Int) (vs:List Value),WellAll P h vs (ns.map WData.int) -> IntsAre vs ns:=by
 intro ns
 induction ns with
 | nil=>
   intro vs w
   rw [List.map_nil] at w
   cases w
   exact .nil
 | cons n ns ih=>
   intro vs w
   rw [List.map_cons] at w
   cases w with
   | cons a b=>
     cases a
     exact .cons _ _ (ih _ b)
theorem As {l:OpenLaw} {n:Nat} (hn:l.most = some n) {P:Params} {h:Heap} {args:List WData} {vals:List Value}
  (hpre:l.row.toRowW.claim.pre args = true) (hwl:WellAll P h vals args):
  ∃ a vs ns,vals = [Value.ref a] /\ args = [WData.list (ns.map WData.int)] /\ h.get? a = some { cls:=.type "list",data:=.seq vs.toArray } /\ IntsAre vs ns /\ ns.length <= n:=by
 have hsh:WShape.hasAll [] args [.list .int] = true:=(pre_splitW hpre).1
 have hc:l.pre.holds [] { args:=args } = true:=(pre_splitW hpre).2
 obtain ⟨d,r,rfl,h1,h2⟩:=hasAllW_cons hsh
 obtain rfl:=hasAllW_nil h2
 obtain ⟨xs,rfl,h3⟩:=hasW_list h1
 obtain ⟨ns,rfl⟩:=items_int h3
 have hlen:ns.length <= n:=by
  unfold OpenLaw.pre at hc
  have h4:(WTm.not (.lt (.lit (.int (n:Int))) (.len (.arg 0)))).holds [] { args:=[.list (ns.map .int)] } = true:=by
   have h4:=(holds_andW hc).1
   rw [hn] at h4
   exact h4
  have h5:=condW_of h4 (w_not (w_lt w_lit (w_len_list (w_arg rfl))))
  rw [List.length_map] at h5
  refine Nat.le_of_not_lt fun q=>?_
  have q':(n:Int) < ((ns.length:Nat):Int):=by omega
  first
   | (rw [decide_eq_true q'] at h5; exact absurd h5 (by decide))
   | (simp at h5; omega)
 cases hwl with
 | cons w1 w2=>
   cases w2
   cases w1 with
   | list ho hall=>exact ⟨_,_,ns,rfl,rfl,ho,q8 ns _ hall,hlen⟩
theorem AV (l:OpenLaw) (args:List WData):l.row.toRowW.claim.post args (.bool true) args = true:=
 postW_of (r:=l.row.toRowW) (X:=(true == true))
  (show WShape.has [] (.bool true) .bool = true by first | rfl | decide | simp [WShape.has,WShape.arms,WShape.armsAll])
  (show (WTm.eq .res (.lit (.bool true))).value [] { args:=args,res:=some (.bool true),after:=args } = some (.bool (true == true)) from w_eq_bool (w_res rfl) w_lit) rfl
theorem xw {l:OpenLaw} {n:Nat} {q:Program} {loose:List Str} {XP:(Str -> Option Value) -> Heap -> Prop} {YP:World -> Heap -> Prop} {d:DefRec}
  (hn:l.most = some n) (hdf:d.params.defaults = [])
  (call:∀ (w:World) (s₀ s₁:Shared) (mg mb:Str -> Option Value) (fa:Addr) (o:Obj) (pm cd doc:Value) (a:Addr) (vs:List Value) (ns:List Int),
    Ground q loose [] XP w s₀ mg mb s₁.heap -> YP w s₁.heap ->
    s₁.heap.get? fa = some o -> o.data = .func (docDef d.name d.params d.body d.scope pm cd doc) -> s₁.heap.CodeRec cd d.name -> mg d.name = some (.ref fa) ->
    s₁.heap.get? a = some { cls:=.type "list",data:=.seq vs.toArray } -> IntsAre vs ns -> ns.length <= n -> s₁.gens = #[] ->
    codeAny (model l.prog w) callerA (.call (.ref fa) ⟨[.ref a],[]⟩) (fun r s'=>r = .ok (.ret (.bool true)) /\ OldK s₁.heap s'.heap /\ s'.os = s₁.os /\ AllBare s'.gens) s₁):
  WalkO q loose XP YP l.row.toRowW d [] (fun f vs=>PySem.call f vs):=by
 intro w s₀ s₁ mg mb G Y fa o pm cd doc dV kV ho hd hcd hD hmg hg args vals as hpre hlay hrd hwl hlo
 obtain rfl:dV = .none:=Dflts.none hD hdf
 obtain rfl:kV = .none:=Dflts.noKw hD
 obtain ⟨a,vs,ns,rfl,rfl,hobj,hints,hlen⟩:=As hn hpre hwl
 refine enter_call (codeAny_mono (call w s₀ s₁ mg mb fa o pm cd doc a vs ns G Y ho (fd_plain hd) hcd hmg hobj hints hlen hg) fun r s' hq=>?_)
 obtain ⟨rfl,h2,h3,h4⟩:=hq
 exact ⟨.inl ⟨.bool true,.bool true,[],rfl,fun _=>rfl,.bool true,AV l _,fun _=>⟨List.Pairwise.nil,fun _ hm=>(nomatch hm)⟩⟩,h2,h3,h4⟩
end Att
namespace L2
open PySem PySem.Spec PyProof.Rows
theorem uK:∀ {vs:List Value} {ns:List Int},IntsAre vs ns -> Vals (ns.map V.int) vs
 | _,_,.nil=>.nil
 | _,_,.cons n t h=>.cons ⟨t,rfl⟩ (uK h)
noncomputable def GJ (H:Hp):Prop:=∀ b,H b = none \/ ∃ o xs,H b = some (.frz o (.lst xs))
theorem BV {P:Program} {w:World} {K:PySem.W.Frag} {mg mb:Str -> Option Value} {CX:CXT} {k:Nat} {fa a:Addr} {fd:FuncData} {x:Str} {sp:Sp} {s₁:Shared} {vs:List Value} {ns:List Int}
  (KX:K.In s₁.heap) (hns:s₁.heap.Ns mainGlobals mg) (hb:s₁.heap.Ns builtinsNs mb) (hbb:∀ x:Str,x ≠ "__name__" -> mb x = bootBuiltins x) (hlim:s₁.heap.NoLimit) (hg:s₁.gens = #[])
  (ha:s₁.heap.get? a = some { cls:=.type "list",data:=.seq vs.toArray }) (hi:IntsAre vs ns) (hl:ns.length <= sizeLine) (hr:iO k callerA)
  (F:∀ base:Heap,K.In base -> base.Ns mainGlobals mg -> bV P w K mg base CX k fa fd [x] sp) (hbind:∀ (s:Shared) (u:Value),BindsTo s fd ⟨[u],[]⟩ [(x,u)])
  (hsp:∀ H:Hp,GJ H -> SqL K H a (ns.map V.int) -> sp [.ref a] H (fun v _=>v = .bl true) fun _ _ _=>False)
  (hCX:∀ H e s',CX [] H s₁ (fun _ _ _=>False) e s' -> False):
  codeAny (model P w) callerA (.call (.ref fa) ⟨[.ref a],[]⟩) (fun r s'=>r = .ok (.ret (.bool true)) /\ OldK s₁.heap s'.heap /\ s'.os = s₁.os /\ AllBare s'.gens) s₁:=by
 have rv:=uK hi
 have lenV:=hi.length
 have core:∀ H:Hp,GJ H -> SqL K H a (ns.map V.int) -> HOk P w H s₁.heap -> (∀ b,H b ≠ none -> b = a) -> (H a ≠ none -> K.lookup a = none) ->
   codeAny (model P w) callerA (.call (.ref fa) ⟨[.ref a],[]⟩) (fun r s'=>r = .ok (.ret (.bool true)) /\ OldK s₁.heap s'.heap /\ s'.os = s₁.os /\ AllBare s'.gens) s₁:=by
  intro H hO hS hok hA hK
  have base_of:∀ {b:Addr} {o:Obj},s₁.heap.get? b = some o -> H b = none -> (v7 s₁.heap H).get? b = some o:=fun e n=>Cj e n
  have noA:∀ {b:Addr} {o:Obj} {es:Array DictEntry} {ep:Nat},s₁.heap.get? b = some o -> o.data = .dict es ep -> H b = none:=fun {b o es ep} e d=>by
   cases q:H b with
   | none=>rfl
   | some u=>
     have e':b = a:=hA b (by rw [q]; simp)
     subst e'
     rw [ha] at e; cases e
     have d':Data.seq vs.toArray _ = Data.dict es ep:=d
     cases d'
  have nsK:∀ {b:Addr} {m:Str -> Option Value},s₁.heap.Ns b m -> (v7 s₁.heap H).Ns b m:=fun {b m} ⟨o,es,ep,e,d,r⟩=>⟨o,es,ep,base_of e (noA e d),d,r⟩
  have hKb:K.In (v7 s₁.heap H):=fun b o e=>base_of (KX b o e) (by
   cases q:H b with
   | none=>rfl
   | some u=>
     have e':b = a:=hA b (by rw [q]; simp)
     subst e'
     rw [hK (by rw [q]; simp)] at e; cases e)
  have hM:Mod K mg (v7 s₁.heap H):=⟨hKb,nsK hns,⟨mb,nsK hb,hbb⟩,let ⟨mc,h1,h2⟩:=hlim; ⟨mc,nsK h1,h2⟩⟩
  have e0:yM P w K mg (v7 s₁.heap H) callerA [] s₁ H:=⟨rfl,hM,fun b o e=>Ey e,Nat.le_of_eq (A1 _ _),trivial,fun b hb=>absurd (show b ∈ ([]:List Addr) from hb) (by simp),hok,.of_eq hg⟩
  refine codeAny_mono ((F _ hKb (nsK hns)).run callerA [] s₁ H ⟨[.ref a],[]⟩ [.ref a] [.ref a] _ _ hr e0 (hbind s₁ (.ref a)) (.cons rfl .nil) (hsp H hO hS)) fun r s' h=>?_
  cases r with
  | error e=>exact (hCX H e s' h).elim
  | ok fl=>
    cases fl with
    | next=>exact False.elim h
    | brk=>exact False.elim h
    | cont=>exact False.elim h
    | ret u=>
      obtain ⟨v,H',os,bare,un,hok',r',q⟩:=h
      have q':v = .bl true:=q
      subst q'
      obtain rfl:u = Value.bool true:=r'
      refine ⟨rfl,OldK.of_keep fun b o e=>?_,os,bare⟩
      cases q:H b with
      | none=>exact un.keep b o e q (by intro z; exact absurd (show b ∈ ([]:List Addr) from z) (by simp)) (by simp)
      | some u=>
        rcases hO b with z | ⟨ob,xs,z⟩
        . rw [q] at z; cases z
        . have z2:=un.frzs b ob _ z
          obtain ⟨e1,_⟩:=hok b _ z
          obtain ⟨e2,_⟩:=hok' b _ z2
          rw [e] at e1; cases e1
          exact e2
 cases hk:K.lookup a with
 | some o=>
   have e:=KX a o hk
   rw [ha] at e
   cases e
   refine core (fun _=>none) (fun _=>.inl rfl) (.inr ⟨_,vs.toArray,_,hk,rfl,rfl,rfl,by rw [List.size_toArray,lenV]; exact hl,by simpa using rv⟩) (fun b u z=>by have z':(none:Option HO) = some u:=z; cases z') (fun b z=>absurd rfl z) fun z=>absurd rfl z
 | none=>
   refine core (fun b=>if b = a then some (.frz { cls:=.type "list",data:=.seq vs.toArray } (.lst (ns.map V.int))) else none) (fun b=>?_) (.inl (.inr ⟨{ cls:=.type "list",data:=.seq vs.toArray },if_pos rfl⟩)) (fun b u z=>?_) (fun b z=>?_) fun _=>hk
   . by_cases hb:b = a
     . exact .inr ⟨_,_,if_pos hb⟩
     . exact .inl (if_neg hb)
   . by_cases hb:b = a
     . have z':=(if_pos hb).symm.trans z
       cases z'
       subst hb
       exact ⟨ha,by rw [List.length_map]; exact hl,vs,_,rv,ha⟩
     . have z':=(if_neg hb).symm.trans z
       cases z'
   . by_cases hb:b = a
     . exact hb
     . exact absurd (if_neg hb) z
end L2
namespace L2
open PySem PySem.Spec PyProof.Rows
abbrev KOf {K:PySem.W.Frag} {h:Heap} (_:K.In h):PySem.W.Frag:=K
theorem ES {l:PySem.W.OpenLaw} {n k:Nat} {q:Program} {loose:List Str} {XP:(Str -> Option Value) -> Heap -> Prop} {YP:World -> Heap -> Prop} {d:DefRec} {K:Params -> PySem.W.Frag} {CX:World -> CXT} {sp:World -> Sp} {x:Str}
  (hn:l.most = some n) (hn2:n <= sizeLine) (hdf:d.params.defaults = []) (hr:iO k callerA)
  (hY:∀ (w:World) (h:Heap),YP w h -> (K w.params).In h)
  (F:∀ (w:World) (mg:Str -> Option Value) (fa:Addr) (h:Heap),(K w.params).In h -> h.Ns mainGlobals mg -> mg d.name = some (.ref fa) ->
    ∃ fd:FuncData,(∀ (s:Shared) (u:Value),BindsTo s fd ⟨[u],[]⟩ [(x,u)]) /\
      ∀ base:Heap,(K w.params).In base -> base.Ns mainGlobals mg -> bV l.prog w (K w.params) mg base (CX w) k fa fd [x] (sp w))
  (hsp:∀ (w:World) (H:Hp) (a:Addr) (ns:List Int),ns.length <= n -> GJ H -> SqL (K w.params) H a (ns.map V.int) -> sp w [.ref a] H (fun v _=>v = .bl true) fun _ _ _=>False)
  (hCX:∀ (w:World) (H:Hp) (s:Shared) (e:Value) (s':Shared),CX w [] H s (fun _ _ _=>False) e s' -> False):
  PySem.W.WalkO q loose XP YP l.row.toRowW d [] (fun f vs=>PySem.call f vs):=by
 refine Att.xw hn hdf fun w s₀ s₁ mg mb fa o pm cd doc a vs ns G Y ho hd hcd hmg hobj hints hlen hg=>?_
 have KX:=hY w _ Y
 obtain ⟨fd,hb,hF⟩:=F w mg fa _ KX G.T.g hmg
 exact BV KX G.T.g G.T.b G.T.builtins G.T.nolimit hg hobj hints (Nat.le_trans hlen hn2) hr hF hb (fun H hO hS=>hsp w H a ns hlen hO hS) fun H e s'=>hCX w H s₁ e s'
end L2
namespace L2
open PySem PySem.Spec PyProof.Rows
def inClass (s:Stmt) (j:Nat):Stmt:=match s with
 | .ClassDef _ _ _ body _ _ _ _ _ _ _=>body.getD j (.Pass ⟨0,0,0,0⟩)
 | _=>.Pass ⟨0,0,0,0⟩
noncomputable def aU (s:Stmt):Arguments:=match s with
 | .FunctionDef _ a _ _ _ _ _ _ _ _=>a
 | _=>{ posonlyargs:=[],args:=[],vararg:=none,kwonlyargs:=[],kw_defaults:=[],kwarg:=none,defaults:=[] }
noncomputable def aO (s:Stmt):List Stmt:=match s with
 | .FunctionDef _ _ b _ _ _ _ _ _ _=>b
 | _=>[]
noncomputable def au (s:Stmt):Scope:=match s with
 | .FunctionDef _ _ _ _ _ _ sc _ _ _=>sc
 | _=>{ kind:=.function,names:=[],isGenerator:=false,isCoroutine:=false }
structure Fun (K:PySem.W.Frag) (x qual:Str) (st:Stmt) (f:Addr) (fd:FuncData):Prop where
 ex:∃ (oc:Value) (od:Option Addr) (kV doc pm:Value) (an:Option Addr) (cdv ct:Value) (osl:Array (Option Value)),
  fd = PySem.W.fnOf x qual (aU st) (aO st) (au st) .none kV doc pm an cdv ct /\ K.lookup f = some ⟨oc,od,.func fd,osl⟩ /\ PySem.W.codeIn K cdv qual = true
 kp:PySem.W.keepIn K (.ref f) = true
section
variable {P:Program} {w:World} {K:PySem.W.Frag} {mg:Str -> Option Value} {base:Heap}
theorem Fun.binds {x qual:Str} {st:Stmt} {f:Addr} {fd:FuncData} {ps:List Str} (F:Fun K x qual st f fd)
  (h:∀ (kV doc pm:Value) (an:Option Addr) (cdv ct:Value) (us:List Value),us.length = ps.length -> bindArgs (PySem.W.fnOf x qual (aU st) (aO st) (au st) .none kV doc pm an cdv ct) ⟨us,[]⟩ = pure (ps.zip us)):Binds K fd ps []:=by
 obtain ⟨oc,od,kV,doc,pm,an,cdv,ct,osl,rfl,lk,hcd⟩:=F.ex
 exact .all (h kV doc pm an cdv ct)
theorem aD {x qual:Str} {st:Stmt} {f:Addr} {oc:Value} {od an:Option Addr} {osl:Array (Option Value)} {kV doc pm cdv ct:Value} (l:K.lookup f = some ⟨oc,od,.func (PySem.W.fnOf x qual (aU st) (aO st) (au st) .none kV doc pm an cdv ct),osl⟩)
  (c:PySem.W.codeIn K cdv qual = true) (k:PySem.W.keepIn K (.ref f) = true):Fun K x qual st f (PySem.W.fnOf x qual (aU st) (aO st) (au st) .none kV doc pm an cdv ct):=⟨⟨oc,od,kV,doc,pm,an,cdv,ct,osl,rfl,l,c⟩,k⟩
end
theorem F4 {A:Around} {k:Nat} (hr:iO k A):A.units + 1 < cLine:=Nat.lt_of_le_of_lt (Nat.add_le_add_left (by decide:1 <= 64) _) hr.units
section
variable {X:Cx}
theorem pv (i:Nat) {x:Str} {pos:Pos} (hN:X.N[i]? = some x:=by rfl) (hv:Vis X.env.scope x:=by first | exact Or.inl rfl | exact Or.inr (Or.inl rfl) | exact Or.inr (Or.inr rfl)) (hd:(x == ("__debug__":Str)) = false:=by decide)
  (hcd:(x == ("__classdict__":Str)) = false:=by decide):PE X (.Name x pos) (qq i):=Gq hN hv hd hcd
end
theorem tQ {A B:Prop} (h:B):if false = true then A else B:=by
 rw [if_neg Bool.false_ne_true]
 exact h
theorem tM {A B:Prop} (h:A):if true = true then A else B:=by
 rw [if_pos rfl]
 exact h
noncomputable def aK (H H':Hp):Prop:=∀ b o,H b = some o -> H' b = some o
theorem aK.refl (H:Hp):aK H H:=fun _ _ h=>h
theorem aK.trans {H H1 H2:Hp} (a:aK H H1) (b:aK H1 H2):aK H H2:=fun c o h=>b c o (a c o h)
theorem aK.free {H H':Hp} (e:aK H H') {l:Addr} (h:H' l = Option.none):H l = Option.none:=by
 cases q:H l with
 | none=>rfl
 | some o=>
   rw [e l o q] at h
   cases h
theorem aK.seq {K:PySem.W.Frag} {H H':Hp} {a:Addr} {xs:List V} (e:aK H H') (h:SqL K H a xs):SqL K H' a xs:=by
 rcases h with (h | ⟨o,h⟩) | h
 . exact .inl (.inl (e _ _ h))
 . exact .inl (.inr ⟨o,e _ _ h⟩)
 . exact .inr h
end L2
namespace L2
open PySem PySem.Spec PyProof.Rows
section
variable {κ:Type} [DecidableEq κ]
noncomputable def lH (kvs:List (κ × V)) (k:κ):Option V:=(kvs.find? fun kv=>decide (kv.1 = k)).map (·.2)
noncomputable def putK (kvs:List (κ × V)) (k:κ) (v:V):List (κ × V):=
 if (kvs.any fun kv=>decide (kv.1 = k)) = true then kvs.map (fun kv=>if kv.1 = k then (kv.1,v) else kv) else kvs ++ [(k,v)]
theorem si {p:κ × V} {r:List (κ × V)} {k:κ} (e:p.1 = k):lH (p ::r) k = some p.2:=by simp [lH,List.find?_cons,e]
theorem sO {p:κ × V} {r:List (κ × V)} {k:κ} (e:¬ p.1 = k):lH (p ::r) k = lH r k:=by simp [lH,List.find?_cons,e]
theorem xh (k:κ):∀ kvs:List (κ × V),(kvs.any fun kv=>decide (kv.1 = k)) = (lH kvs k).isSome
 | []=>rfl
 | p ::r=>by
   rw [List.any_cons]
   by_cases e:p.1 = k
   . simp only [si e,decide_eq_true e,Bool.true_or,Option.isSome_some]
   . rw [sO e,decide_eq_false e,Bool.false_or]; exact xh k r
theorem xf (kvs:List (κ × V)) (k:κ) (v:V):(putK kvs k v).length <= kvs.length + 1:=by
 unfold putK
 split
 . rw [List.length_map]; omega
 . rw [List.length_append,List.length_cons,List.length_nil]; omega
theorem CT {kvs:List (κ × V)} {k:κ} (v:V) (h:lH kvs k = none):putK kvs k v = kvs ++ [(k,v)]:=by
 unfold putK
 rw [xh,h]
 exact if_neg (by decide)
theorem bI.uD {o:Option V} {u:Option Value} (r:bI o u):o.isSome = u.isSome:=by
 cases o with
 | none=>cases u with
   | none=>rfl
   | some _=>exact (show False from r).elim
 | some _=>cases u with
   | none=>exact (show False from r).elim
   | some _=>rfl
theorem bI.getD {o:Option V} {u:Option Value} {d:V} {d':Value} (r:bI o u) (rd:RelV d d'):RelV (o.getD d) (u.getD d'):=by
 cases o with
 | none=>cases u with
   | none=>exact rd
   | some _=>exact (show False from r).elim
 | some _=>cases u with
   | none=>exact (show False from r).elim
   | some _=>exact r
theorem KV.val {kvs:List (κ × V)} {vs:List (κ × Value)} (r:KV kvs vs) (k:κ):bI (lH kvs k) (valueAt vs k):=by
 unfold KV at r
 induction r with
 | nil=>exact True.intro
 | @cons p q ps qs h t ih=>
   obtain ⟨h1,h2⟩:=h
   by_cases e:p.1 = k
   . have e':q.1 = k:=h1.symm.trans e
     have b:valueAt (q ::qs) k = some q.2:=by simp [valueAt,List.find?_cons,e']
     rw [si e,b]; exact h2
   . have e':¬ q.1 = k:=fun z=>e (h1.trans z)
     have b:valueAt (q ::qs) k = valueAt qs k:=by simp [valueAt,List.find?_cons,e']
     rw [sO e,b]; exact ih
theorem KV.any {kvs:List (κ × V)} {vs:List (κ × Value)} (r:KV kvs vs) (k:κ):(kvs.any fun kv=>decide (kv.1 = k)) = vs.any fun kv=>decide (kv.1 = k):=by
 unfold KV at r
 induction r with
 | nil=>rfl
 | cons h t ih=>rw [List.any_cons,List.any_cons,ih,h.1]
theorem KV.K8 {kvs:List (κ × V)} {vs:List (κ × Value)} (r:KV kvs vs) (k:κ) {y:V} {u:Value} (ry:RelV y u):
  KV (kvs.map fun kv=>if kv.1 = k then (kv.1,y) else kv) (vs.map fun kv=>if kv.1 = k then (kv.1,u) else kv):=by
 unfold KV at r ⊢
 induction r with
 | nil=>exact .nil
 | @cons p q ps qs h t ih=>
   rw [List.map_cons,List.map_cons]
   refine .cons ?_ ih
   obtain ⟨h1,h2⟩:=h
   by_cases e:p.1 = k
   . rw [if_pos e,if_pos (h1.symm.trans e)]; exact ⟨h1,ry⟩
   . rw [if_neg e,if_neg (fun z=>e (h1.trans z))]; exact ⟨h1,h2⟩
theorem KV.put {kvs:List (κ × V)} {vs:List (κ × Value)} (r:KV kvs vs) (k:κ) {y:V} {u:Value} (ry:RelV y u):KV (putK kvs k y) (stored vs k u):=by
 unfold putK stored
 rw [r.any k]
 by_cases e:(vs.any fun kv=>decide (kv.1 = k)) = true
 . rw [if_pos e,if_pos e]; exact r.K8 k ry
 . rw [if_neg e,if_neg e]; exact Paired.snoc r ⟨rfl,ry⟩
theorem KV.keys {kvs:List (κ × V)} {vs:List (κ × Value)} (r:KV kvs vs):kvs.map (·.1) = vs.map (·.1):=by
 unfold KV at r
 induction r with
 | nil=>rfl
 | cons h t ih=>rw [List.map_cons,List.map_cons,ih,h.1]
end
theorem zm {P:Program} {w:World} {k:Key} {u:Value} (r:RelV (kV k) u):(gB P w).is k u = true:=by
 cases k with
 | inl i=>obtain ⟨t,e⟩:=(show ∃ t,u = Value.int i t from r); subst e; exact xx P w i t
 | inr x=>obtain ⟨t,e⟩:=(show ∃ t,u = Value.str x t from r); subst e; exact xj P w x t
theorem uI {P:Program} {w:World}:∀ {ks:List Key} {us:List Value},Vals (ks.map kV) us -> ItemsAre (gB P w) ks us
 | [],_,r=>by rw [List.map_nil] at r; cases r; exact .nil
 | k ::ks,_,r=>by
   rw [List.map_cons] at r
   cases r with
   | cons h t=>exact .cons (zm h) (uI t)
abbrev KT (H:Hp):List (List Key × V) -> List (List Key × Addr × Value) -> Prop:=Paired fun p q=>p.1 = q.1 /\ H q.2.1 = some (.tup (p.1.map kV)) /\ RelV p.2 q.2.2
theorem KT.val {H:Hp} {kvs:List (List Key × V)} {xs:List (List Key × Addr × Value)} (r:KT H kvs xs) (k:List Key):bI (lH kvs k) ((atKey xs k).map (·.2)):=by
 induction r with
 | nil=>exact True.intro
 | @cons p q ps qs h t ih=>
   obtain ⟨h1,_,h2⟩:=h
   by_cases e:p.1 = k
   . have e':q.1 = k:=h1.symm.trans e
     have b:atKey (q ::qs) k = some q.2:=by simp [atKey,List.find?_cons,e']
     rw [si e,b]; exact h2
   . have e':¬ q.1 = k:=fun z=>e (h1.trans z)
     have b:atKey (q ::qs) k = atKey qs k:=by simp [atKey,List.find?_cons,e']
     rw [sO e,b]; exact ih
theorem KT.keeps {H H':Hp} {kvs:List (List Key × V)} {xs:List (List Key × Addr × Value)} (r:KT H kvs xs) (ht:∀ b ys,H b = some (.tup ys) -> H' b = some (.tup ys)):KT H' kvs xs:=
 Paired.Io r fun _ _ z=>⟨z.1,ht _ _ z.2.1,z.2.2⟩
section
variable {P:Program} {w:World} {H:Hp} {h:Heap} {a:Addr}
theorem FC {u:HO} (ok:HOk P w H h) (e:Rd H a u):fY P w H h a u:=e.ok ok
theorem zx {kvs:List (Key × V)} (ok:HOk P w H h) (e:Rd H a (.dK kvs)):kvs.length <= sizeLine /\ (a == sysModules) = false /\ ∃ vs,KV kvs vs /\ h.DictOf (gB P w) a vs:=
 show fY P w H h a (.dK kvs) from FC ok e
theorem Kb {kvs:List (Key × V)} (ok:HOk P w H h) (e:H a = some (.dK kvs)):kvs.length <= sizeLine /\ (a == sysModules) = false /\ ∃ vs,KV kvs vs /\ h.DictOf (gB P w) a vs:=zx ok (.inl e)
theorem yb {ks:List Key} (ok:HOk P w H h) (e:H a = some (.tup (ks.map kV))):(tupleKind (gB P w)).is h ks a:=by
 obtain ⟨_,its,r,o,h1,h2,n,h3⟩:=(show fY P w H h a (.tup (ks.map kV)) from ok a _ e)
 exact ⟨o,its.toArray,n,h1,h2,h3,by simpa using uI r⟩
theorem CQ {kvs:List (List Key × V)} (ok:HOk P w H h) (e:Rd H a (.dT kvs)):kvs.length <= sizeLine /\ (a == sysModules) = false /\
  ∃ xs,KT H kvs xs /\ h.DictOfH (tupleKind (gB P w)) a xs:=by
 obtain ⟨z,y,xs,r,o,es,ep,h1,h2,h3,h4,h5⟩:=(show fY P w H h a (.dT kvs) from FC ok e)
 refine ⟨z,y,xs,r,o,es,ep,h1,h2,h3,h4,fun x hx=>?_,h5⟩
 have all:∀ {l:List (List Key × V)} {m:List (List Key × Addr × Value)},KT H l m -> ∀ x ∈ m,(tupleKind (gB P w)).is h x.1 x.2.1:=by
  intro l m q
  induction q with
  | nil=>intro x hx; exact nomatch hx
  | @cons p q ps qs hq t ih=>
    intro x hx
    rcases List.mem_cons.mp hx with e | hx
    . subst e
      exact yb ok (by rw [<- hq.1]; exact hq.2.1)
    . exact ih x hx
 exact all r x hx
end
noncomputable def uT (H:Hp) (a:Addr) (y:V) (r:Option V):Prop:=
 (∃ kvs k,Rd H a (.dK kvs) /\ y = kV k /\ r = lH kvs k) \/ ∃ kvs k b,Rd H a (.dT kvs) /\ y = .ref b /\ H b = some (.tup (k.map kV)) /\ r = lH kvs k
theorem uT.k {H:Hp} {a:Addr} {kvs:List (Key × V)} {k:Key} (e:H a = some (.dK kvs)):uT H a (kV k) (lH kvs k):=.inl ⟨kvs,k,.inl e,rfl,rfl⟩
section
variable {X:Cx} {pins:List (Addr × Obj)} {σ:St} {H:Hp} {s:Shared} {a:Addr} {y v:V} {u r:Value} {o:Option V} {A:Around} {E:Value -> Shared -> Prop}
theorem Inv.big (I:Inv X pins σ H s):sysModules < s.heap.objs.size:=by
 have h:mainGlobals < s.heap.objs.size:=(I.mod.glob.keeps I.bk).lt
 exact Nat.lt_trans (by decide) h
theorem Ax {Q:Value -> Shared -> Prop} (hu:A.units + 1 < cLine) (I:Inv X pins σ H s) (g:uT H a y (some v)) (ry:RelV y u) (h:∀ w' s',Inv X pins σ H s' -> RelV v w' -> Q w' s'):
  wpAny (model X.prog X.w) A (getItem (.ref a) u) Q E s:=by
 rcases g with ⟨kvs,k,e,ey,l⟩ | ⟨kvs,k,b,e,ey,eb,l⟩
 . subst ey
   obtain ⟨z,hd,vs,rel,dd⟩:=zx I.hok e
   obtain ⟨w',hw,rw'⟩:=bI.some_of (v:=v) (o:=valueAt vs k) (by rw [l]; exact rel.val k)
   exact wpAny_getItem_of (zm ry) dd.mapOf hw (h w' _ (I.tok _) rw')
 . subst ey
   cases (show u = Value.ref b from ry)
   obtain ⟨z,hd,xs,rel,dd⟩:=CQ I.hok e
   obtain ⟨w',hw,rw'⟩:=bI.some_of (v:=v) (o:=(atKey xs k).map (·.2)) (by rw [l]; exact rel.val k)
   obtain ⟨p,hp,hp2⟩:=Option.map_eq_some_iff.mp hw
   refine wpAny_getItem_heap (tupleKind_room_in1 hu) (yb I.hok eb) dd hp ?_
   rw [hp2]
   exact h w' _ (I.tok _) rw'
theorem LB {Q:Value -> Shared -> Prop} (hu:A.units + 1 < cLine) (I:Inv X pins σ H s) (g:uT H a y o) (ry:RelV y u) (h:∀ s',Inv X pins σ H s' -> Q (.bool o.isSome) s'):
  wpAny (model X.prog X.w) A (compareOp .In u (.ref a)) Q E s:=by
 rcases g with ⟨kvs,k,e,ey,l⟩ | ⟨kvs,k,b,e,ey,eb,l⟩
 . subst ey
   obtain ⟨z,hd,vs,rel,dd⟩:=zx I.hok e
   refine wpAny_in_of (zm ry) hd dd.mapOf ?_
   rw [<- (rel.val k).uD,<- l]
   exact h _ (I.tok _)
 . subst ey
   cases (show u = Value.ref b from ry)
   obtain ⟨z,hd,xs,rel,dd⟩:=CQ I.hok e
   refine wpAny_in_heap (tupleKind_room_in1 hu) (yb I.hok eb) hd dd ?_
   have q:=(rel.val k).uD
   rw [Option.isSome_map] at q
   rw [<- q,<- l]
   exact h _ (I.tok _)
theorem DU {h':Heap} {t':Nat} {ob:HO} (I:Inv X pins σ H s) (mu:Mut (H a)) (hs:Heap.SameBut a s.heap h') (he:∃ q,h'.get? a = some q) (new:fY X.prog X.w (upd H a ob) h' a ob):
  Inv X pins σ (upd H a ob) { s with heap:=h',toks:=t' }:=
 I.write (x:=a) (e:=a) mu (.inl rfl) (fun b q hb z=>(hs.2 b hb).trans z) he new
theorem GG {P:Program} {w:World} {H':Hp} {h':Heap} {kvs:List (Key × V)} {vs:List (Key × Value)} (z:kvs.length <= sizeLine) (hd:(a == sysModules) = false) (rel:KV kvs vs) (dd:h'.DictOf (gB P w) a vs):
  fY P w H' h' a (.dK kvs):=⟨z,hd,vs,rel,dd⟩
end
noncomputable def Ih (i:Expr):Prop:=∀ ov iv,subscripted i false ov iv = operate [ov,iv] (getItem ov iv)
theorem Fd {prog:Program} {w:World} {A:Around} {E:Value -> Shared -> Prop} {s:Shared} {env:Env} {value slice:Expr} {pos:Pos} {T id:String} {Q:Value -> Shared -> Prop}
  (hl:typeLookup (.type T) "__getitem__" = pure (some (.builtin id))) (hs:Ih slice)
  (h:wpAny (model prog w) A (eval value env) (fun o s₁=>wpAny (model prog w) A (eval slice env) (fun i s₂=>s₂.TypeIs o T /\ wpAny (model prog w) A (getItem o i) Q E s₂) E s₁) E s):
  wpAny (model prog w) A (eval (.Subscript value slice pos) env) Q E s:=by
 refine Subscript_ (wpAny_mono h (fun o s₁ h₁=>wpAny_mono h₁ (fun i s₂ h₂=>?_) fun _ _ x=>x) fun _ _ x=>x)
 obtain ⟨hT,h₂⟩:=h₂
 unfold subscriptTail
 refine wpAny_bind ?_
 rw [getitemInPython_of_ne hT.not_modules]
 refine wpAny_bind (wpAny_specialOf hT hl ?_)
 have fin:wpAny (model prog w) A (subscripted slice false o i) (fun r s₃=>wpAny (model prog w) A (letTemporaryGo value o r >>= fun _=>pure r) Q E s₃) E s₂:=by
  rw [hs o i]
  exact wpAny_operating (wpAny_mono h₂ (fun r s₃ h₃=>wpAny_bind (wpAny_letTemporaryGo (wpAny_pure h₃))) fun _ _ x=>x)
 first
  | exact wpAny_pure (wpAny_bind fin)
  | exact wpAny_bind (wpAny_pure (wpAny_bind fin))
  | exact wpAny_bind fin
theorem wK {X:Cx} {pins:List (Addr × Obj)} {σ:St} {H:Hp} {s:Shared} {a:Addr} {y:V} {o:Option V} (I:Inv X pins σ H s) (g:uT H a y o):s.TypeIs (.ref a) "dict":=by
 rcases g with ⟨kvs,k,e,_,_⟩ | ⟨kvs,k,b,e,_,_,_⟩
 . obtain ⟨_,_,vs,_,dd⟩:=zx I.hok e
   exact dd.typeIs
 . obtain ⟨_,_,xs,_,dd⟩:=CQ I.hok e
   exact dd.typeIs
noncomputable def Dq (td ty:TE):TE:=fun σ H Q=>td σ H fun x H1=>ty σ H1 fun y H2=>∃ a v,x = .ref a /\ uT H2 a y (some v) /\ Q v H2
noncomputable def Iu (ty td:TE):TE:=fun σ H Q=>ty σ H fun y H1=>td σ H1 fun x H2=>∃ a o,x = .ref a /\ uT H2 a y o /\ Q (.bl o.isSome) H2
section
variable {X:Cx} {o i e value:Expr} {pos pos' tpos:Pos} {td ty tv:TE}
theorem Eh (hu:X.A.units + 1 < cLine) (ho:PE X o td) (hi:PE X i ty) (hs:Ih i):PE X (.Subscript o i pos) (Dq td ty):=by
 intro pins s σ H Q I h
 refine Fd PySem.F.slot_dict_getitem.lookup hs (thn (ho pins s σ H _ I h) fun u s1 ⟨x,H1,I1,rx,q1⟩=>thn (hi pins s1 σ H1 _ I1 q1) fun iv s2 ⟨y,H2,I2,ry,a,v,ex,g,q2⟩=>?_)
 subst ex
 obtain rfl:u = Value.ref a:=rx
 exact ⟨wK I2 g,Ax hu I2 g ry fun w' s3 I3 rw'=>⟨v,H2,I3,rw',q2⟩⟩
theorem GX (hu:X.A.units + 1 < cLine) (hi:PE X i ty) (ho:PE X o td):PC X .In i o (Iu ty td):=by
 intro pins s σ H Q I h
 refine thn (hi pins s σ H _ I h) fun iv s1 ⟨y,H1,I1,ry,q1⟩=>thn (ho pins s1 σ H1 _ I1 q1) fun u s2 ⟨x,H2,I2,rx,a,ov,ex,g,q2⟩=>?_
 subst ex
 obtain rfl:u = Value.ref a:=rx
 exact LB hu I2 g ry fun s3 I3=>⟨.bl ov.isSome,H2,I3,rfl,q2⟩
end
theorem BA {P:Program} {w:World} {H:Hp} (h:Heap) (hb:sysModules < h.objs.size):fY P w H (h.push { cls:=.type "dict",data:=.dict #[] }) h.objs.size (.dK []):=
 ⟨Nat.zero_le _,beq_eq_false_iff_ne.mpr (Ne.symm (Nat.ne_of_lt hb)),[],.nil,Heap.DictOf.new h⟩
noncomputable def vF:List (TE × TE) -> St -> Hp -> (List (V × V) -> Hp -> Prop) -> Prop
 | [],_,H,Q=>Q [] H
 | (tk,tv) ::r,σ,H,Q=>tk σ H fun x H1=>tv σ H1 fun y H2=>vF r σ H2 fun ps H3=>Q ((x,y) ::ps) H3
abbrev VV:List (V × V) -> List (Value × Value) -> Prop:=Paired fun p q=>RelV p.1 q.1 /\ RelV p.2 q.2
noncomputable def PPs (X:Cx) (pos:Pos) (keys:List (Option Expr)) (values:List Expr) (trs:List (TE × TE)):Prop:=
 ∀ (pins:List (Addr × Obj)) (s:Shared) (σ:St) (H:Hp) (Q:List (V × V) -> Hp -> Prop),Inv X pins σ H s -> vF trs σ H Q ->
   wpAny (model X.prog X.w) X.A (evalPairs (pairTrees keys values X.env pos)) (fun vs s'=>∃ ps H',Inv X pins σ H' s' /\ VV ps vs /\ Q ps H') X.xe s
theorem EH {X:Cx} {pos:Pos}:PPs X pos [] [] []:=fun pins s σ H Q I h=>pairTrees_nil_walk ⟨[],H,I,.nil,h⟩
theorem Cb {X:Cx} {pos:Pos} {k v:Expr} {ks:List (Option Expr)} {vs:List Expr} {tk tv:TE} {trs:List (TE × TE)} (hk:PE X k tk) (hv:PE X v tv) (hr:PPs X pos ks vs trs):
  PPs X pos (some k ::ks) (v ::vs) ((tk,tv) ::trs):=fun pins s σ H Q I h=>
 pairTrees_cons_walk (thn (hk pins s σ H _ I h) fun u s1 ⟨x,H1,I1,rx,q1⟩=>thn (hv pins s1 σ H1 _ I1 q1) fun w2 s2 ⟨y,H2,I2,ry,q2⟩=>
  thn (hr pins s2 σ H2 _ I2 q2) fun ws s3 ⟨ps,H3,I3,rel,q3⟩=>⟨(x,y) ::ps,H3,I3,.cons ⟨rx,ry⟩ rel,q3⟩)
noncomputable def n4 (kvs more:List (Key × V)):List (Key × V):=more.foldl (fun acc kv=>putK acc kv.1 kv.2) kvs
theorem KV.merge:∀ {more:List (Key × V)} {rs:List (Key × Value)} {kvs:List (Key × V)} {vs:List (Key × Value)},KV more rs -> KV kvs vs -> KV (n4 kvs more) (merged vs rs):=by
 intro more rs kvs vs r
 unfold KV at r
 induction r generalizing kvs vs with
 | nil=>intro q; exact q
 | @cons p q ps qs h t ih=>
   intro r0
   have e:KV (putK kvs p.1 p.2) (stored vs q.1 q.2):=by
    have:=r0.put p.1 h.2
    rw [<- h.1]; exact this
   exact ih e
theorem oR:∀ (more kvs:List (Key × V)),(n4 kvs more).length <= kvs.length + more.length
 | [],kvs=>by show kvs.length <= kvs.length + 0; omega
 | p ::r,kvs=>by
   have h1:=oR r (putK kvs p.1 p.2)
   have h2:=xf kvs p.1 p.2
   show (n4 (putK kvs p.1 p.2) r).length <= _
   rw [List.length_cons]; omega
theorem tq {P:Program} {w:World}:∀ {kvs:List (Key × V)} {ws:List (Value × Value)},VV (kvs.map fun kv=>(kV kv.1,kv.2)) ws -> ∃ rs,Carries (gB P w) ws rs /\ KV kvs rs
 | [],_,r=>by rw [List.map_nil] at r; cases r; exact ⟨[],True.intro,.nil⟩
 | p ::kvs,_,r=>by
   rw [List.map_cons] at r
   cases r with
   | @cons a b as bs h t=>
     obtain ⟨rs,c,q⟩:=tq (P:=P) (w:=w) t
     obtain ⟨b1,b2⟩:=b
     exact ⟨(p.1,b2) ::rs,⟨zm h.1,rfl,c⟩,.cons ⟨rfl,h.2⟩ q⟩
noncomputable def CK (trs:List (TE × TE)):TE:=fun σ H Q=>∀ p,H p = none -> vF trs σ (upd H p (.dK [])) fun ps H2=>H2 p = some (.dK []) /\ ∃ kvs:List (Key × V),ps = kvs.map (fun kv=>(kV kv.1,kv.2)) /\ kvs.length <= 15 /\ Q (.ref p) (upd H2 p (.dK (n4 [] kvs)))
theorem Fb {X:Cx} {pos:Pos} {keys:List (Option Expr)} {values:List Expr} {trs:List (TE × TE)} (h:PPs X pos keys values trs) (hall:keys.all (·.isSome) = true) (hl:keys.length = values.length) (h0:keys ≠ [])
  (h15:keys.length <= 15):PE X (.Dict keys values pos) (CK trs):=by
 intro pins s σ H Q I q
 have hn:=I.hok.fresh (Nat.le_refl s.heap.objs.size)
 have I1:=I.laid (a:=s.heap.objs.size) (o:=.dK []) (h':=s.heap.push { cls:=.type "dict",data:=.dict #[] }) (t':=s.toks) (fun _ _ q=>Heap.get?_push_of_some _ q) (Nat.le_refl _) (BA s.heap I.big)
 refine wpAny_Dict_walk (knd:=gB X.prog X.w) hall hl h0 h15 (thn (h pins _ σ _ _ I1 (q _ hn)) fun ws s2 ⟨ps,H2,I2,rel,e,kvs,ep,lk,q2⟩=>?_)
 subst ep
 obtain ⟨rs,c,rk⟩:=tq (P:=X.prog) (w:=X.w) rel
 obtain ⟨z,hd,vs0,r0,dd⟩:=Kb I2.hok e
 cases r0
 refine ⟨rs,c,dd,fun h' dd' hs=>⟨.ref s.heap.objs.size,_,?_,rfl,q2⟩⟩
 have hz:(n4 [] kvs).length <= sizeLine:=by
  have h1:=oR kvs []
  rw [List.length_nil] at h1
  rw [sizeLine_eq]; omega
 have he:∃ q,h'.get? s.heap.objs.size = some q:=let ⟨q,_,_,hq,_⟩:=dd'; ⟨q,hq⟩
 exact DU I2 (by rw [e]; exact True.intro) hs he (GG hz hd (rk.merge .nil) dd')
end L2
namespace L2
open PySem PySem.Spec PyProof.Rows
end L2
set_option maxHeartbeats 4000000
namespace L2.E
open PySem PySem.Spec PyProof.Rows
noncomputable def CJ (a C:Addr) (dx:Option Addr) (h:Heap):Prop:=∃ o vs,h.get? a = some o /\ o.cls = .ref C /\ o.dict = dx /\ o.data = .fields vs /\ vs.size = 6
noncomputable def TbO (T:Addr) (h:Heap):Prop:=∃ o ts,h.get? T = some o /\ o.data = .fields ts /\ 3 < ts.size
noncomputable abbrev oN (a C:Addr) (dx:Option Addr):HO:=.ext (CJ a C dx)
noncomputable abbrev oTb (T:Addr):HO:=.ext (TbO T)
theorem yi {P:Program} {w:World} {H:Hp} {h:Heap} {a C:Addr} {dx:Option Addr} (x:CJ a C dx h):fY P w H h a (oN a C dx):=by
 refine ⟨x,let ⟨o,_,e,_⟩:=x; ⟨o,e⟩,fun h1 h2 p k=>?_⟩
 obtain ⟨o,vs,e,r⟩:=p
 exact ⟨o,vs,k o e,r⟩
theorem FX {P:Program} {w:World} {H:Hp} {h:Heap} {T:Addr} (x:TbO T h):fY P w H h T (oTb T):=by
 refine ⟨x,let ⟨o,_,e,_⟩:=x; ⟨o,e⟩,fun h1 h2 p k=>?_⟩
 obtain ⟨o,vs,e,r⟩:=p
 exact ⟨o,vs,k o e,r⟩
theorem Cv {H:Hp} {a:Addr} {o:HO} (h:H a = some o):upd H a o = H:=by
 funext b
 unfold upd
 split
 . rename_i e
   rw [e,h]
 . rfl
structure Fly (H:Hp) (h:Heap) (a C:Addr) (dx:Option Addr):Prop where
 exc:H a = some (oN a C dx)
 tb:∃ o vs,h.get? a = some o /\ o.data = .fields vs /\ (vs[1]? = some Value.none \/ ∃ T,vs[1]? = some (.ref T) /\ H T = some (oTb T) /\ T ≠ a)
structure vD (H:Hp) (h:Heap) (a C:Addr) (dx:Option Addr):Prop where
 exc:H a = some (oN a C dx)
 tb:∃ o vs T,h.get? a = some o /\ o.data = .fields vs /\ vs[1]? = some (.ref T) /\ H T = some (oTb T) /\ T ≠ a
theorem vD.fly {H:Hp} {h:Heap} {a C:Addr} {dx:Option Addr} (F:vD H h a C dx):Fly H h a C dx:=
 let ⟨o,vs,T,e1,e2,e3,e4,e5⟩:=F.tb
 ⟨F.exc,o,vs,e1,e2,.inr ⟨T,e3,e4,e5⟩⟩
section
variable {X:Cx} {pins:List (Addr × Obj)} {σ:St} {H:Hp} {s:Shared} {a C:Addr} {dx:Option Addr}
theorem Ci {h₁:Heap} (I:Inv X pins σ H s) (k:Heap.SlotsOnly (frs X.stack) s.heap h₁):Un (frs X.stack) [] H H s.heap h₁ where
 keep:=fun b o e _ hb _=>(k.2.1 b hb).trans e
 slot:=fun b o e _ _ _=>k.2.2 b o e
 free:=fun _ _ _ n _=>n
 there:=fun b o e _=>let ⟨_,q⟩:=k.2.2 b o e; ⟨_,q⟩
 tups:=fun _ _ q=>q
 frzs:=fun _ _ _ q=>q
 tbls:=fun _ ps q=>⟨#[],by rw [q]; simp⟩
theorem Am {h₁:Heap} (I:Inv X pins σ H s) (k:Heap.SlotsOnly (frs X.stack) s.heap h₁):HOk X.prog X.w H h₁:=fun b o e=>by
 have nf:∀ c u,H c = some u -> c ∉ frs X.stack:=fun c u q z=>by rw [I.uZ c z] at q; cases q
 refine (I.hok b o e).o6 (fun c v hc q=>(k.2.1 c ?_).trans q) (fun _ q=>q) fun _ _ q=>q
 rcases hc with z | z
 . rw [z]; exact nf b o e
 . exact nf c _ z
theorem EN {i:Nat} {v:Value} (I:Inv X pins σ H s) (e:H a = some (oN a C dx)):
  Inv X pins σ H { s with heap:=s.heap.update a (Obj.mapFields (·.setIfInBounds i v)) }:=by
 obtain ⟨⟨o,vs,ho,hc,hd,hf,hz⟩,_,_⟩:=I.hok a _ e
 have hs:=Heap.get?_update_self (Obj.mapFields (·.setIfInBounds i v)) ho (Obj.isFreed_of_fields (Obj.data_mapFields hf _))
 have q:=I.write (x:=a) (e:=a) (o:=oN a C dx) (t':=s.toks) (h':=s.heap.update a (Obj.mapFields (·.setIfInBounds i v))) (by rw [e]; trivial) (.inl rfl)
  (fun b u hb q=>(Heap.get?_update_other _ _ (Ne.symm hb)).trans q) ⟨_,hs⟩ (yi ⟨_,_,hs,by rw [Obj.cls_mapFields]; exact hc,by obtain ⟨c,d,dt,sl⟩:=o; cases dt <;> exact hd,Obj.data_mapFields hf _,by simpa using hz⟩)
 rw [Cv e] at q
 exact q
theorem C9 {T:Addr} {i:Nat} {v:Value} (I:Inv X pins σ H s) (e:H T = some (oTb T)):
  Inv X pins σ H { s with heap:=s.heap.update T (Obj.mapFields (·.setIfInBounds i v)) }:=by
 obtain ⟨⟨o,vs,ho,hf,hz⟩,_,_⟩:=I.hok T _ e
 have hs:=Heap.get?_update_self (Obj.mapFields (·.setIfInBounds i v)) ho (Obj.isFreed_of_fields (Obj.data_mapFields hf _))
 have q:=I.write (x:=T) (e:=T) (o:=oTb T) (t':=s.toks) (h':=s.heap.update T (Obj.mapFields (·.setIfInBounds i v))) (by rw [e]; trivial) (.inl rfl)
  (fun b u hb q=>(Heap.get?_update_other _ _ (Ne.symm hb)).trans q) ⟨_,hs⟩ (FX ⟨_,_,hs,Obj.data_mapFields hf _,by simpa using hz⟩)
 rw [Cv e] at q
 exact q
theorem wL {L:Addr} {head:Value} {had:Bool} {Q:Unit -> Shared -> Prop} {E:Value -> Shared -> Prop} (I:Inv X pins σ H s) (hst:X.stack = X.env ::X.outer) (hf:X.env.frame = some L) (e:H a = some (oN a C dx))
  (h:∀ s' H',Inv X pins σ H' s' -> aK H H' -> vD H' s'.heap a C dx -> Q () s'):
  wpAny (model X.prog X.w) X.A (do let fr <- frameOf X.env; let pl <- entryPlaceOf L had; let b <- EntryCells.newEntry head fr .none (rawInt L) .none pl; setField (.ref a) 1 b) Q E s:=by
 have hfr:X.A.frames = some (X.env ::X.outer):=by rw [<- hst]; exact I.ok.frames
 have hl:s.heap.FunFrames X.base (X.env ::X.outer):=by rw [<- hst]; exact I.stack
 refine wpAny_bind (wpAny_frameOf_fun hfr hl hf fun h₁ k₁=>?_)
 have k₁':Heap.SlotsOnly (frs X.stack) s.heap h₁:=by rw [hst]; exact k₁
 have I₁:=I.call (g':=s.gens) (t':=s.toks) (d':=s.drawn) (ch:=[]) (Ci I k₁') (Am I k₁') I.bare (fun b z=>absurd z (by simp))
 refine wpAny_bind (wpAny_entryPlaceOf fun pl hpl=>?_)
 unfold EntryCells.newEntry newFields
 refine wpAny_bind (wpAny_newObj_type ?_ (hpl.sizeOk5 _ _ _ _ _))
 have big:3 < ([head,.ref L,.none,rawInt L,.none] ++ (if pl.isEmpty then List.replicate 6 Value.none else pl)).toArray.size:=by
  rw [List.size_toArray,List.length_append]
  show 3 < 5 + _
  omega
 have new:=Heap.get?_push_size h₁ (o:={ cls:=.type "traceback",dict:=none,data:=.fields ([head,.ref L,.none,rawInt L,.none] ++ (if pl.isEmpty then List.replicate 6 Value.none else pl)).toArray }) rfl
 have fr:H h₁.objs.size = none:=I₁.hok.fresh (Nat.le_refl _)
 have ne:h₁.objs.size ≠ a:=fun z=>by rw [z,e] at fr; cases fr
 have I₂:=I₁.laid (a:=h₁.objs.size) (o:=oTb h₁.objs.size) (t':=s.toks) (fun b u q=>Heap.get?_push_of_some _ q) (Nat.le_refl _) (FX ⟨_,_,new,rfl,big⟩)
 have g:aK H (upd H h₁.objs.size (oTb h₁.objs.size)):=fun b u q=>by rw [bb (cQ q fr)]; exact q
 obtain ⟨⟨o,vs,ho,hc,hd,hv,hz⟩,_,_⟩:=I₂.hok a _ (g _ _ e)
 refine wpAny_setField ho hv (by omega) ?_
 refine h _ _ (EN I₂ (g _ _ e)) g ⟨g _ _ e,_,_,h₁.objs.size,Heap.get?_update_self _ ho (Obj.isFreed_of_fields (Obj.data_mapFields hv _)),Obj.data_mapFields hv _,by simp [hz],bc,ne⟩
theorem zq {Q:Unit -> Shared -> Prop} {E:Value -> Shared -> Prop} (I:Inv X pins σ H s) (hst:X.stack = X.env ::X.outer /\ X.env.frame = some X.env.locals) (F:Fly H s.heap a C dx)
  (h:∀ s' H',Inv X pins σ H' s' -> aK H H' -> vD H' s'.heap a C dx -> Q () s'):wpAny (model X.prog X.w) X.A (noteFrame (.ref a) X.env) Q E s:=by
 obtain ⟨o,vs,ho,hv,hw⟩:=F.tb
 unfold noteFrame
 simp only [hst.2]
 rcases hw with h1 | ⟨T,h1,hT,ne⟩
 . refine wpAny_bind (wpAny_field ho hv h1 ?_)
   rw [if_neg (by decide)]
   exact wL I hst.1 hst.2 F.exc h
 . obtain ⟨⟨oT,ts,hoT,hdT,hz⟩,_,_⟩:=I.hok T _ hT
   refine wpAny_bind (wpAny_field ho hv h1 ?_)
   rw [if_pos (show (Value.ref T != Value.none) = true from by simp)]
   have h3:ts[3]? = some ts[3]:=by simp [hz]
   refine wpAny_bind (wpAny_field hoT hdT h3 ?_)
   by_cases c:(ts[3] == rawInt X.env.locals) = true
   . rw [if_pos c]
     exact wpAny_pure (h s H I (aK.refl H) ⟨F.exc,o,vs,T,ho,hv,h1,hT,ne⟩)
   . rw [if_neg c]
     refine wpAny_bind (wpAny_setField hoT hdT hz ?_)
     exact wL (C9 I hT) hst.1 hst.2 F.exc h
theorem oj {x:Option Addr} {Q:Unit -> Shared -> Prop} {E:Value -> Shared -> Prop} (I:Inv X pins σ H s) (F:vD H s.heap a C dx)
  (h:∀ s',Inv X pins σ H s' -> vD H s'.heap a C dx -> Q () s'):wpAny (model X.prog X.w) X.A (setFlight (.ref a) x) Q E s:=by
 obtain ⟨o,vs,T,ho,hv,h1,hT,ne⟩:=F.tb
 unfold setFlight
 obtain ⟨⟨oT,ts,hoT,hdT,hz⟩,_,_⟩:=I.hok T _ hT
 refine wpAny_bind (wpAny_field ho hv h1 ?_)
 rw [if_pos (show (Value.ref T != Value.none) = true from by simp)]
 refine wpAny_setField hoT hdT hz ?_
 exact h _ (C9 I hT) ⟨F.exc,o,vs,T,(Heap.get?_update_other _ _ ne).trans ho,hv,h1,hT,ne⟩
theorem DQ {α:Type} {what:String} {Q:α -> Shared -> Prop} {E:Value -> Shared -> Prop} (I:Inv X pins σ H s) (F:vD H s.heap a C dx)
  (h:∀ s',Inv X pins σ H s' -> vD H s'.heap a C dx -> E (.ref a) s'):wpAny (model X.prog X.w) X.A (PySem.passOn what (.ref a) X.env:Sem α) Q E s:=by
 obtain ⟨o,vs,T,ho,hv,h1,hT,ne⟩:=id F.tb
 unfold PySem.passOn
 refine wpAny_bind (wpAny_field ho hv h1 ?_)
 rw [if_neg (show ¬ (Value.ref T == Value.none) = true from by simp)]
 exact wpAny_bind (oj I F fun s' I' F'=>wpAny_throw (h s' I' F'))
end
noncomputable def CXE (P:Program) (w:World):CXT:=fun outer H s E e s'=>∃ a C dx H',e = .ref a /\ s'.os = s.os /\ AllBare s'.gens /\ Un (frs outer) [] H H' s.heap s'.heap /\ HOk P w H' s'.heap /\ Fly H' s'.heap a C dx /\ E (.ref C) (some a) H'
abbrev XW:=Value -> Option Addr -> St -> Hp -> Prop
noncomputable def Thr (X:Cx) (W:XW):Prop:=∀ (pins:List (Addr × Obj)) (σ:St) (H:Hp) (s:Shared) (a C:Addr) (dx:Option Addr),Inv X pins σ H s -> Fly H s.heap a C dx -> W (.ref C) (some a) σ H -> X.xe (.ref a) s
section
variable {CX:CXT} {P:Program} {w:World} {K:PySem.W.Frag} {mg:Str -> Option Value} {base:Heap} {N:List Str} {qual:Str} {scope:Scope} {f:Addr} {cd:Value} {A:Around} {outer:List Env} {s₀:Shared} {H₀:Hp} {E:XK}
theorem aH:Thr (pP (CXE P w) P w K mg base N qual scope f cd A outer s₀ H₀ E) (fun C a _ H=>∀ H',aK H H' -> E C a H'):=by
 intro pins σ H s a C dx I F hw
 show wpAny _ _ (leaving _ _) _ _ s
 unfold leaving
 refine wpAny_bind (zq I ⟨rfl,rfl⟩ F fun s1 H1 I1 g1 F1=>?_)
 refine oj I1 F1 fun s2 I2 F2=>?_
 exact ⟨a,C,dx,H1,rfl,I2.os,I2.bare,I2.base,I2.hok,F2.fly,hw H1 g1⟩
theorem gV:PassesOwn (model P w) (pP (CXE P w) P w K mg base N qual scope f cd A outer s₀ H₀ E).A (pP (CXE P w) P w K mg base N qual scope f cd A outer s₀ H₀ E).env (pP (CXE P w) P w K mg base N qual scope f cd A outer s₀ H₀ E).xe:=by
 show PassesOwn (model P w) (A.deeper (envOfC qual scope s₀.heap.objs.size f cd)) (envOfC qual scope s₀.heap.objs.size f cd) (fun e s'=>wpAny (model P w) (A.deeper (envOfC qual scope s₀.heap.objs.size f cd)) (leaving (envOfC qual scope s₀.heap.objs.size f cd) e) (fun _ s''=>CXE P w outer H₀ s₀ E e s'') (fun e' s''=>CXE P w outer H₀ s₀ E e' s'') s')
 passes_own
end
section
variable {X:Cx} {k:Nat} {f:Addr} {fd:FuncData} {ps:List Str} {sp:Sp} {dvs:List V} {ds:List Value} {W:XW} {x m:Str} {p pos apos:Pos} {e o:Expr} {es:List Expr} {ta:TE} {t:TA}
noncomputable def rQ (sp:Sp) (dvs:List V) (W:XW) (t:TA):TE:=fun σ H Q=>t σ H fun vs H1=>sp (vs ++ dvs) H1 Q fun C a H'=>W C a σ H'
theorem rO {pins:List (Addr × Obj)} {σ:St} {H:Hp} {s:Shared} {Q:VK} {us:List Value} {vs:List V} (F:bV X.prog X.w X.K X.mg X.base (CXE X.prog X.w) k f fd ps sp) (hr:iO k X.A) (hb:Binds X.K fd ps ds) (hd:Vals dvs ds) (hx:Thr X W)
  (I:Inv X pins σ H s) (r:Vals vs us) (h:sp (vs ++ dvs) H Q fun C a H'=>W C a σ H'):wpAny (model X.prog X.w) X.A (call (.ref f) us) (EP X pins σ Q) X.xe s:=by
 have r2:Vals (vs ++ dvs) (us ++ ds):=r.append hd
 have hl:(us ++ ds).length = ps.length:=by rw [<- r2.length]; exact F.len _ _ _ _ h
 refine wpAny_call (codeAny_mono (F.run X.A X.stack s H ⟨us,[]⟩ (us ++ ds) (vs ++ dvs) Q _ hr I.HA (hb s us I.kIn hl) r2 h) fun r s' hq=>?_)
 cases r with
 | error e=>
   obtain ⟨a,C,dx,H',rfl,ho,bare,un,hok,fl,hw⟩:=hq
   exact hx pins σ H' s' a C dx (I.Fs ho un hok bare fun b z=>absurd z (by simp)) fl hw
 | ok fl=>
   cases fl with
   | ret u=>exact I.after hq
   | next=>exact False.elim hq
   | brk=>exact False.elim hq
   | cont=>exact False.elim hq
theorem Cz (F:bV X.prog X.w X.K X.mg X.base (CXE X.prog X.w) k f fd ps sp) (hr:iO k X.A) (hg:Gl X x) (hm:X.mg x = some (.ref f)) (hk:PySem.W.keepIn X.K (.ref f) = true) (hb:Binds X.K fd ps ds) (hd:Vals dvs ds) (hx:Thr X W)
  (ha:PA X (e ::es) t) (hdb:(x == ("__debug__":Str)) = false:=by decide) (he:starEach (e ::es) X.env = (false,eval e X.env) ::starEach es X.env:=by rfl) (hpl:(backTo pos (starEach es X.env)).any (·.1) = false:=by rfl):
  PE X (.Call (.Name x p) (e ::es) [] pos) (rQ sp dvs W t):=by
 intro pins s σ H Q I h
 refine wpAny_Call_Name_kw (mL I hg hm ?_ hdb)
 refine PySem.W.callWith_K (h₀:=X.base) I.ok.mod.kin hk (thn (ha pos pins s σ H _ I h) fun us s1 ⟨vs,H1,I1,r,q⟩=>⟨I1.kIn,?_⟩) he hpl
 exact rO F hr hb hd hx I1 r q
theorem A5 (F:bV X.prog X.w X.K X.mg X.base (CXE X.prog X.w) k f fd ps sp) (hr:iO k X.A) (hg:Gl X x) (hm:X.mg x = some (.ref f)) (hk:PySem.W.keepIn X.K (.ref f) = true) (hb:Binds X.K fd ps ds) (hd:Vals dvs ds) (hx:Thr X W)
  (hdb:(x == ("__debug__":Str)) = false:=by decide):PE X (.Call (.Name x p) [] [] pos) (rQ sp dvs W lK):=by
 intro pins s σ H Q I h
 refine wpAny_Call_Name_kw (mL I hg hm ?_ hdb)
 exact PySem.W.callWith_K0 I.kIn hk (rO (us:=[]) F hr hb hd hx I .nil h)
end
end L2.E
namespace L2.E
open PySem PySem.Spec PyProof.Rows
theorem CD {P:Program} {w:World} {H:Hp} {h:Heap} {a:Addr} {o:HO} (x:fY P w H h a o):∃ u,h.get? a = some u:=by
 cases o with
 | lst xs=>obtain ⟨_,_,_,_,e⟩:=x; exact ⟨_,e⟩
 | tup xs=>obtain ⟨_,_,_,u,e,_⟩:=x; exact ⟨_,e⟩
 | dK kvs=>obtain ⟨_,_,_,_,o,_,_,e,_⟩:=x; exact ⟨_,e⟩
 | dT kvs=>obtain ⟨_,_,_,_,o,_,_,e,_⟩:=x; exact ⟨_,e⟩
 | set S n=>obtain ⟨o,_,_,_,e,_⟩:=x; exact ⟨_,e⟩
 | ins C dx fs=>obtain ⟨_,_,_,e,_⟩:=x; exact ⟨_,e⟩
 | own y=>exact x
 | xd fs=>obtain ⟨_,⟨_,_,_,e,_⟩,_⟩:=x; exact ⟨_,e⟩
 | rng lo hi=>obtain ⟨_,_,_,e⟩:=x; exact ⟨_,e⟩
 | frz ob u=>obtain ⟨e,_⟩:=x; exact ⟨_,e⟩
 | tbl ps=>exact ⟨_,x⟩
 | met f y=>exact ⟨_,x⟩
 | ext φ=>exact x.2.1
section
variable {X:Cx} {pins:List (Addr × Obj)} {σ:St} {H:Hp} {s:Shared} {h':Heap} {a:Addr} {o:HO}
theorem vt (I:Inv X pins σ H s) (hn:s.heap.get? a = none):H a = none:=by
 cases q:H a with
 | none=>rfl
 | some u=>
   obtain ⟨v,e⟩:=CD (I.hok a u q)
   rw [hn] at e; cases e
theorem Fz (I:Inv X pins σ H s) (k:∀ b u,s.heap.get? b = some u -> h'.get? b = some u) (hn:s.heap.get? a = none) (new:fY X.prog X.w (upd H a o) h' a o):
  Inv X pins σ (upd H a o) { s with heap:=h' }:=by
 have fr:=vt I hn
 have ne:∀ b u,s.heap.get? b = some u -> b ≠ a:=fun b u q z=>by rw [z,hn] at q; cases q
 have un:Un X.fs [] H (upd H a o) s.heap h':=⟨fun b u q _ _ _=>k b u q,fun b u q _ _ _=>⟨u.slots,k b u q⟩,fun b u q n _=>by rw [bb (ne b u q)]; exact n,fun b u q _=>⟨u,k b u q⟩,
  fun b xs q=>by rw [bb (cQ q fr)]; exact q,fun b u xs q=>by rw [bb (cQ q fr)]; exact q,fun b ps q=>⟨#[],by rw [bb (cQ q fr),q]; simp⟩⟩
 refine I.un (t':=s.toks) un fun b u q=>?_
 by_cases hb:b = a
 . subst hb
   rw [bc] at q; cases q
   exact new
 . rw [bb hb] at q
   exact (I.hok b u q).o6 (fun c v _ z=>k c v z) (fun c z=>by rw [bb (cQ z fr)]; exact z) fun c xs z=>by rw [bb (cQ z fr)]; exact z
end
noncomputable def y4 (C:Addr) (W:XW) (t:TA):TS:=fun D σ H=>t σ H fun vs H1=>vs.length <= sizeLine /\ ∀ a,H1 a = none -> W (.ref C) (some a) σ (upd H1 a (oN a C none))
theorem zj {K:PySem.W.Frag} {h₀:Heap} {mg:Str -> Option Value} {x:Str} {C:Addr} {bmB:List Value} {newId:String} (X:K.In h₀) (e:mg x = some (.ref C)) (q:PySem.W.excIn K C bmB newId = true):
  OwnCls x C bmB newId mg h₀:=by
 refine ⟨e,?_⟩
 unfold PySem.W.excIn at q
 split at q
 next dd cd sl ho=>
  split at q
  next C' bm k0 k1 k2 k3 n k5 hm hs=>
   simp only [Bool.and_eq_true,beq_iff_eq,Bool.not_eq_true'] at q
   obtain ⟨⟨⟨⟨⟨e1,e2⟩,del⟩,ht⟩,ok⟩,ini⟩:=q
   subst e1 e2
   cases cd with
   | mk nm bs mro ns qn hd sn sub ab col dl=>
     dsimp only at hm del ok ini
     subst hm del
     have z:sl = #[k0,k1,k2,k3,some (.builtin n),k5]:=by cases sl; simp only at hs; rw [hs]
     subst z
     exact ⟨bm,ns,nm,qn,bs,hd,sn,sub,ab,col,dd,k0,k1,k2,k3,k5,_,X _ _ ho,.of_isNs (PySem.W.isNs_of_in X ok),PySem.W.nsMap_none_of_in X ok ini,PySem.W.tail_of_in X ht⟩
  next=>cases q
 next=>cases q
theorem DZ {X:Cx} {pins:List (Addr × Obj)} {σ:St} {H:Hp} {s:Shared} {h':Heap} {e C:Addr} {us:List Value} (I:Inv X pins σ H s) (hm:Heap.MadeExcOf s.heap h' e (.ref C) us):
  H e = none /\ Inv X pins σ (upd H e (oN e C none)) { s with heap:=h' } /\ Fly (upd H e (oN e C none)) h' e C none:=by
 obtain ⟨t,he,_,_⟩:=hm.there
 refine ⟨vt I hm.new,Fz I hm.keeps hm.new (yi ⟨_,_,he,rfl,rfl,rfl,rfl⟩),bc,_,_,he,rfl,.inl rfl⟩
section
variable {X:Cx} {x:Str} {np cpos pos:Pos} {e₀:Expr} {rest:List Expr} {t:TA} {W:XW} {C:Addr} {B newId initId:String} {bm:List Value}
theorem BB (hT:Thr X W) (hh:X.A.handled = none) (FB:ExcBaseFacts B newId initId bm) (hg:Gl X x) (hm:X.mg x = some (.ref C)) (hC:PySem.W.excIn X.K C bm newId = true) (ha:PA X (e₀ ::rest) t)
  (he:starEach (e₀ ::rest) X.env = (false,eval e₀ X.env) ::starEach rest X.env:=by rfl) (hpl:(backTo cpos (starEach rest X.env)).any (·.1) = false:=by rfl) (hd:(x == ("__debug__":Str)) = false:=by decide):
  PS X (.Raise (some (.Call (.Name x np) (e₀ ::rest) [] cpos)) none pos) (y4 C W t):=by
 intro pins s σ H D I h
 have O:=zj I.mod.kin hm hC
 obtain ⟨tl,N,nm,q,bs,hdct,sn,sub,ab,col,dd,k0,k1,k2,k3,k5,mN,hc,hN,hni,T⟩:=O.obj
 refine wpAny_Raise_call_subT (nm:=nm) (q:=q) (N:=N) (bs:=bs) (hdct:=hdct) (sn:=sn) (sub:=sub)
  (ab:=ab) (col:=col) (dd:=dd) (k0:=k0) (k1:=k1) (k2:=k2) (k3:=k3) (k5:=k5) (mN:=mN) FB (T.hasType FB.hasBase) hh ?_ hni (mL I hg hm ⟨rfl,?_⟩ hd)
 . rw [he]
   show (false || (backTo cpos (starEach rest X.env)).any (·.1)) = false
   rw [hpl]; rfl
 . have hsp:=ha cpos pins s σ H _ I h
   rw [he] at hsp ⊢
   refine Calls.evalArgs_plain (wpAny_mono hsp (fun us s2 ⟨vs,H2,I2,r,z,w⟩=>⟨rfl,by rw [<- r.length]; exact z,I2.bk _ _ hc,hN.keeps I2.bk,T.keeps I2.bk,fun h' e hm=>?_⟩) fun _ _ y=>y)
   obtain ⟨f1,f2,f3⟩:=DZ I2 hm
   exact hT pins σ _ _ e C none f2 f3 (w e f1)
end
noncomputable abbrev hand (X:Cx) (a:Addr):Cx:={ X with A:=X.A.mark (some (.ref a)),calm:=false,xe:=fun _ _=>False }
theorem zZ {X:Cx} {pins:List (Addr × Obj)} {σ:St} {H:Hp} {s:Shared} (I:Inv X pins σ H s) (a:Addr):Inv (hand X a) pins σ H s:=
 ⟨⟨I.ok.mod,I.ok.kind,I.ok.glob,I.ok.blt,I.ok.above,I.ok.inj,I.ok.has,I.ok.cab,fun z=>absurd z Bool.false_ne_true,I.ok.frames,I.ok.stk,I.ok.exf,I.ok.bs,I.ok.bsz,I.ok.noex,I.ok.exfs,I.ok.qY,I.ok.frf⟩,I.os,I.bare,I.base,I.loc,I.cell,I.free,I.freeC,I.pin,I.hok,I.len⟩
theorem p5 {X:Cx} {pins:List (Addr × Obj)} {σ:St} {H:Hp} {s:Shared} {a:Addr} (ok:X.Ok) (I:Inv (hand X a) pins σ H s):Inv X pins σ H s:=
 ⟨ok,I.os,I.bare,I.base,I.loc,I.cell,I.free,I.freeC,I.pin,I.hok,I.len⟩
noncomputable abbrev tE (X:Cx) (pn:List (Addr × Obj)) (xe:Value -> Shared -> Prop):Cx:={ X with pn:=pn,xe:=xe }
theorem GU {X:Cx} {pins:List (Addr × Obj)} {σ:St} {H:Hp} {s:Shared} (I:Inv X pins σ H s) (xe:Value -> Shared -> Prop):Inv (tE X (X.pn ++ pins) xe) [] σ H s:=
 ⟨⟨I.ok.mod,I.ok.kind,I.ok.glob,I.ok.blt,I.ok.above,I.ok.inj,I.ok.has,I.ok.cab,I.ok.hd,I.ok.frames,I.ok.stk,I.ok.exf,I.ok.bs,I.ok.bsz,I.ok.noex,I.ok.exfs,I.ok.qY,I.ok.frf⟩,I.os,I.bare,I.base,I.loc,I.cell,I.free,I.freeC,fun p hp=>I.pin p (by simpa using hp),I.hok,I.len⟩
theorem pM {X:Cx} {pins pins':List (Addr × Obj)} {σ:St} {H:Hp} {s:Shared} {xe:Value -> Shared -> Prop} (ok:X.Ok) (I:Inv (tE X (X.pn ++ pins) xe) pins' σ H s):Inv X pins σ H s:=
 ⟨ok,I.os,I.bare,I.base,I.loc,I.cell,I.free,I.freeC,fun p hp=>I.pin p (List.mem_append_left _ hp),I.hok,I.len⟩
noncomputable def nc (K:PySem.W.Frag) (C:Addr) (bm:List Value):Prop:=bm.contains (.type "BaseException") = true /\ ∃ nm q N bs hdct sn sub ab col dd k0 k1 k2 k3 k5 newId,K.lookup C = some (excClassObj nm q C N bs bm hdct sn sub ab col dd k0 k1 k2 k3 k5 newId)
noncomputable def uE (K:PySem.W.Frag) (T C:Addr) (b:Bool):Prop:=∃ bmC bmT,nc K C bmC /\ nc K T bmT /\ (Value.ref C ::bmC).contains (.ref T) = b
theorem ym {M:Model} {A:Around} {E:Value -> Shared -> Prop} {K:PySem.W.Frag} {s:Shared} {a C T:Addr} {dx:Option Addr} {b:Bool} {Q:Bool -> Shared -> Prop} (X:K.In s.heap) (e:CJ a C dx s.heap) (t:uE K T C b) (hq:Q b s):
  wpAny M A (excMatches (.ref a) (.ref T)) Q E s:=by
 obtain ⟨bmC,bmT,⟨bC,nm,q,N,bs,hdct,sn,sub,ab,col,dd,k0,k1,k2,k3,k5,nid,lC⟩,⟨bT,nm',q',N',bs',hdct',sn',sub',ab',col',dd',k0',k1',k2',k3',k5',nid',lT⟩,hb⟩:=t
 obtain ⟨o,vs,he,hcls,_⟩:=e
 have hC:=X _ _ lC
 have hT:=X _ _ lT
 obtain ⟨hp,g,d,tk,os⟩:=s
 have f:=tc_notTuple
 have cB:(Value.ref T ::bmT).contains (.type "BaseException") = true:=by rw [List.contains_cons,bT,Bool.or_true]
 unfold excMatches
 repeat (first
  | (with_reducible refine wpAny_loadPart_at he ?_; rw [hcls])
  | with_reducible refine wpAny_loadPart_at hT ?_
  | (with_reducible refine wpAny_isSubtype_exc hC ?_; rw [hb])
  | (with_reducible refine wpAny_isSubtype_exc hT ?_; rw [cB])
  | wp_step)
 cases b <;> (wp_walk; exact hq)
end L2.E
namespace L2.E
open PySem PySem.Spec PyProof.Rows
theorem Fj {X:Cx} {pins:List (Addr × Obj)} {σ:St} {H:Hp} {s:Shared} {h':Heap} {t':Nat} {i:Nat} {n:Str} {m:Str -> Option Value} {v:Option Value} (I:Inv X pins σ H s) (hN:X.N.Nodup) (hi:X.N[i]? = some n)
  (hl:∀ (j:Nat) (x:Str) (v:V),X.N[j]? = some x -> σ[j]? = some (some v) -> Vis X.env.scope x -> ∃ u,RelV v u /\ Look X.env s.heap m x u)
  (hs:Heap.SameBut X.env.locals s.heap h') (hn:h'.Ns X.env.locals (fun x=>if x = n then v else m x)):Inv X pins (σ.set i none) H { s with heap:=h',toks:=t' }:=by
 have cne:=I.cne
 refine ⟨I.ok,I.os,I.bare,⟨fun b o e k hb hx=>?_,fun b o e k hb hx=>?_,I.base.free,fun b o e hx=>?_,I.base.tups,I.base.frzs,I.base.tbls⟩,⟨_,hn,fun j y w e1 e2 e3=>?_⟩,fun y c e=>?_,I.free,I.freeC,fun p hp=>?_,fun b ob e=>?_,by simpa using I.len⟩
 . exact (hs.2 b (Nat.ne_of_lt (Nat.lt_of_lt_of_le (Heap.lt_size e) I.ok.above))).trans (I.base.keep b o e k hb hx)
 . obtain ⟨sl,z⟩:=I.base.slot b o e k hb hx
   exact ⟨sl,(hs.2 b (Nat.ne_of_lt (Nat.lt_of_lt_of_le (Heap.lt_size e) I.ok.above))).trans z⟩
 . obtain ⟨o',z⟩:=I.base.there b o e hx
   exact ⟨o',(hs.2 b (Nat.ne_of_lt (Nat.lt_of_lt_of_le (Heap.lt_size e) I.ok.above))).trans z⟩
 . by_cases hj:j = i
   . subst hj
     rw [List.getElem?_set] at e2
     split at e2
     . split at e2 <;> cases e2
     . exact absurd rfl ‹_›
   . rw [List.getElem?_set_ne (Ne.symm hj)] at e2
     obtain ⟨u,r,q⟩:=hl j y w e1 e2 e3
     refine ⟨u,r,?_⟩
     rcases q with ⟨k,e⟩ | ⟨k,c,e,z⟩
     . refine .inl ⟨k,?_⟩
       have:y ≠ n:=fun z=>hj (tu hN e1 (z ▸ hi))
       simp [this,e]
     . exact .inr ⟨k,c,e,z.sameBut hs (cne y c e)⟩
 . obtain ⟨w,z⟩:=I.cell y c e
   exact ⟨w,z.sameBut hs (cne y c e)⟩
 . obtain ⟨e,k,ne,nf,d⟩:=I.pin p hp
   exact ⟨(hs.2 p.1 ne).trans e,k,ne,nf,d⟩
 . refine (I.hok b ob e).o6 (fun c w hc q=>(hs.2 c ?_).trans q) (fun _ q=>q) fun _ _ q=>q
   rintro rfl
   rcases hc with z | z
   . rw [<- z,I.free] at e; cases e
   . rw [I.free] at z; cases z
noncomputable def JZ (i:Option Nat) (a:Option Addr) (σ:St):St:=match i,a with
 | some j,some b=>σ.set j (some (.ref b))
 | _,_=>σ
noncomputable def BE (i:Option Nat) (σ:St):St:=match i with
 | some j=>σ.set j none
 | none=>σ
noncomputable def BU (i:Option Nat) (D:Ends):Ends:={ nx:=fun σ H=>D.nx (BE i σ) H,rt:=D.rt,bk:=fun σ H=>D.bk (BE i σ) H,ct:=fun σ H=>D.ct (BE i σ) H }
noncomputable def JM (K:PySem.W.Frag) (T:Addr) (ts:TS) (i:Option Nat) (W₀:XW) (D:Ends):XW:=fun C a σ H=>∀ H',aK H H' -> ∃ c b,C = .ref c /\ uE K T c b /\ if b = true then ts (BU i D) (JZ i a σ) H' else W₀ C a σ H'
noncomputable def Hu (K:PySem.W.Frag) (tb:XW -> TS) (T:Addr) (ts:TS) (i:Option Nat) (W₀:XW):TS:=fun D σ H=>tb (JM K T ts i W₀ D) D σ H
section
variable {X:Cx} {x n:Str} {np hpos pos:Pos} {body suite:List Stmt} {b₀:Stmt} {tb:XW -> TS} {ts:TS} {T:Addr} {W₀:XW}
theorem E4 {a:Addr} {pins:List (Addr × Obj)} {D:Ends} {f:Flow} {s:Shared} (ok:X.Ok) (h:SP (hand X a) pins D f s):SP X pins D f s:=by
 cases f with
 | next=>obtain ⟨σ',H',I,q⟩:=h; exact ⟨σ',H',p5 ok I,q⟩
 | brk=>obtain ⟨σ',H',I,q⟩:=h; exact ⟨σ',H',p5 ok I,q⟩
 | cont=>obtain ⟨σ',H',I,q⟩:=h; exact ⟨σ',H',p5 ok I,q⟩
 | ret u=>obtain ⟨v,σ',H',I,r,q⟩:=h; exact ⟨v,σ',H',p5 ok I,r,q⟩
theorem GO {pins pins':List (Addr × Obj)} {xe:Value -> Shared -> Prop} {D:Ends} {f:Flow} {s:Shared} (ok:X.Ok) (h:SP (tE X (X.pn ++ pins) xe) pins' D f s):SP X pins D f s:=by
 cases f with
 | next=>obtain ⟨σ',H',I,q⟩:=h; exact ⟨σ',H',pM ok I,q⟩
 | brk=>obtain ⟨σ',H',I,q⟩:=h; exact ⟨σ',H',pM ok I,q⟩
 | cont=>obtain ⟨σ',H',I,q⟩:=h; exact ⟨σ',H',pM ok I,q⟩
 | ret u=>obtain ⟨v,σ',H',I,r,q⟩:=h; exact ⟨v,σ',H',pM ok I,r,q⟩
theorem Bg {pins:List (Addr × Obj)} {σ:St} {H:Hp} {s:Shared} {a C:Addr} {dx:Option Addr} {b:Bool} {R:Result -> Shared -> Prop} (I:Inv X pins σ H s) (F:vD H s.heap a C dx) (hg:Gl X x) (hm:X.mg x = some (.ref T)) (hk:uE X.K T C b)
  (hd:(x == ("__debug__":Str)) = false) (h:R (.ok (if b then .brk else .next)) s):codeAny (model X.prog X.w) (X.A.mark (some (.ref a))) (.handlers (.ref a) [.ExceptHandler (some (.Name x np)) none [] hpos] X.env) R s:=by
 refine codeAny_handlers_test (mL (X:=hand X a) (zZ I a) hg hm ?_ hd)
 obtain ⟨e,_,_⟩:=I.hok a _ F.exc
 exact ym I.kIn e hk h
theorem C5 {i:Nat} (hst:X.stack = X.env ::X.outer /\ X.env.frame = some X.env.locals) (hN:X.N.Nodup) (hi:X.N[i]? = some n) (hl:X.env.scope.names.lookup n = some .local) (hb:∀ pn xe W,Thr (tE X pn xe) W -> PassesOwn (model X.prog X.w) X.A X.env xe -> PSs (tE X pn xe) body (tb W))
  (hg:Gl X x) (hm:X.mg x = some (.ref T)) (hs:∀ a,PSs (hand X a) (b₀ ::suite) ts) (hX:Thr X W₀) (hd:(x == ("__debug__":Str)) = false:=by decide):
  PS X (.Try body [.ExceptHandler (some (.Name x np)) (some n) (b₀ ::suite) hpos] [] [] pos) (Hu X.K tb T ts (some i) W₀):=by
 intro pins s σ H D I h
 have hcls:(X.env.scope.kind == .class || (X.env.scope.kind == .module && X.env.locals != X.env.globals)) = false:=by rw [I.ok.kind]; rfl
 have fin:∀ {σ' H' s'},Inv X pins σ' H' s' -> ∀ {Q:Unit -> Shared -> Prop} {E:Value -> Shared -> Prop},(∀ s'',Inv X pins (σ'.set i none) H' s'' -> Q () s'') -> wpAny (model X.prog X.w) X.A (do bindName X.env n .none; unbindBehindTheSuite X.env n hpos) Q E s':=fun {σ' H' s'} J {Q E} k=>by
  obtain ⟨m,hn,hlk⟩:=id J.loc
  exact wpAny_nameGoes_keeps hl hn hcls fun h2 v hn2 hs2=>k _ (Fj J hN hi hlk hs2 hn2)
 refine wpAny_Try_except ?_
 refine wpAny_mono (hb (X.pn ++ pins) _ (JM X.K T ts (some i) W₀ D) ?_ PassesOwn.looking [] s σ H D (GU I _) h) (fun f s1 h1=>?_) fun _ _ z=>z
 . intro pins' σ' H' s' a C dx I' F' hw
   refine zq (pM (pins:=pins) I.ok I') hst F' fun s1 H1 I1 g1 F1=>?_
   refine oj I1 F1 fun s2 I2 F2=>?_
   obtain ⟨c,b,hc,hk,q⟩:=hw H1 g1
   cases hc
   refine wpAny_handleBy_cons (Bg I2 F2 hg hm hk hd ?_) (by intro z; cases z)
   cases b with
   | true=>
     refine codeAny_handlers_suite_as (oj (X:=hand X a) (zZ I2 a) F2 fun s3 I3 F3=>?_)
     refine lW (X:=hand X a) (v:=.ref a) I3 hN hi (.inl hl) rfl (fun s4 I4=>?_) (.inr hl)
     refine wpAny_mono (hs a pins s4 _ H1 (BU (some i) D) I4 q) (fun f s5 h5=>?_) fun _ _ z=>False.elim z
     have z:=E4 I.ok h5
     show wpAny _ _ _ _ _ s5
     cases f with
     | next=>obtain ⟨σ6,H6,J,r⟩:=z; exact fin J fun s7 J7=>⟨_,_,J7,r⟩
     | brk=>obtain ⟨σ6,H6,J,r⟩:=z; exact fin J fun s7 J7=>⟨_,_,J7,r⟩
     | cont=>obtain ⟨σ6,H6,J,r⟩:=z; exact fin J fun s7 J7=>⟨_,_,J7,r⟩
     | ret u=>obtain ⟨v,σ6,H6,J,rv,r⟩:=z; exact fin J fun s7 J7=>⟨v,_,_,J7,rv,r⟩
   | false=>
     refine wpAny_handleBy_nil (DQ I2 F2 fun s3 I3 F3=>?_)
     exact hX pins σ' H1 s3 a C dx I3 F3.fly q
 . have z:=GO I.ok h1
   cases f with
   | next=>exact wpAny_execs_nil z
   | brk=>exact z
   | cont=>exact z
   | ret u=>exact z
end
end L2.E
namespace L2.E
open PySem PySem.Spec PyProof.Rows
noncomputable abbrev blk (X:Cx) (scope:Scope) (cl:List (Str × Addr)) (N:List Str) (C:Addr) (s₀:Shared) (H₀:Hp) (ex:List Addr):Cx:=
 { prog:=X.prog,w:=X.w,K:=X.K,mg:=X.mg,base:=X.base,A:=X.A,N:=N,s₀:=s₀,H₀:=H₀,env:=compEnvC scope cl C X.env,outer:=X.stack,stack:=X.stack,ex:=ex,fn:=fun _=>false,calm:=X.calm,pn:=[],xe:=fun _ _=>False }
theorem vP {X:Cx}:Thr X (fun _ _ _ _=>False):=fun _ _ _ _ _ _ _ _ _ h=>h.elim
structure o5 (X:Cx) (scope:Scope) (cl:List (Str × Addr)) (M:List Str) (ι:List Nat) (x:Str):Prop where
 clos:closureFor scope X.env = pure cl
 kind:scope.kind = .function
 nocell:(scope.names.all fun p=>p.2 != .cell) = true
 locs:(scope.names.all fun p=>p.2 != .local || scope.names.lookup p.1 == some .local) = true
 var:scope.names.lookup x = some .local
 names:M.map some = ι.map fun i=>X.N[i]?
 cells:M.map (fun y=>scope.names.lookup y) = M.map fun _=>some .free
 kinds:M.map X.env.kindOf = M.map fun _=>some .cell
 same:M.map (fun y=>cl.lookup y) = M.map fun y=>X.env.cells.lookup y
 sub:cl.map (fun p=>X.env.cells.lookup p.1) = cl.map fun p=>some p.2
 all:(scope.names.all fun p=>!(p.2 == .free) || (cl.lookup p.1).isSome) = true
 nd:(M ++ [x]).Nodup
theorem vV {α β:Type} {f g:α -> β} {l:List α} (h:l.map f = l.map g) {a:α} (ha:a ∈ l):f a = g a:=by
 induction l with
 | nil=>cases ha
 | cons b r ih=>
   rw [List.map_cons,List.map_cons] at h
   injection h with h1 h2
   rcases List.mem_cons.mp ha with z | z
   . rw [z]; exact h1
   . exact ih h2 z
theorem vZ {scope:Scope} {env:Env} {y:Str} (h:scope.names.lookup y = some .free):(relabel scope env).names.lookup y = some .cell \/ (relabel scope env).names.lookup y = some .free:=by
 unfold relabel
 dsimp only
 generalize scope.names = l at h
 induction l with
 | nil=>cases h
 | cons p r ih=>
   obtain ⟨n,k⟩:=p
   rw [List.lookup_cons] at h
   rw [List.map_cons]
   by_cases e:(y == n) = true
   . rw [e] at h
     have hk:k = .free:=Option.some.inj h
     subst hk
     dsimp only
     split
     . rw [List.lookup_cons,e]; exact .inl rfl
     . rw [List.lookup_cons,e]; exact .inr rfl
   . have e':(y == n) = false:=by simpa using e
     rw [e'] at h
     dsimp only
     split
     . rw [List.lookup_cons,e']; exact ih h
     . rw [List.lookup_cons,e']; exact ih h
theorem vw {scope:Scope} {env:Env} {y:Str} (hc:(scope.names.all fun p=>p.2 != .cell) = true) (h:(relabel scope env).names.lookup y = some .cell \/ (relabel scope env).names.lookup y = some .free):∃ p ∈ scope.names,p.1 = y /\ p.2 = .free:=by
 unfold relabel at h
 dsimp only at h
 generalize scope.names = l at h hc
 induction l with
 | nil=>rcases h with h | h <;> cases h
 | cons p r ih=>
   obtain ⟨n,k⟩:=p
   rw [List.all_cons,Bool.and_eq_true] at hc
   rw [List.map_cons] at h
   by_cases e:(y == n) = true
   . refine ⟨(n,k),List.mem_cons_self,(beq_iff_eq.mp e).symm,?_⟩
     dsimp only at h ⊢
     split at h
     . rename_i c
       simp only [Bool.and_eq_true,beq_iff_eq] at c
       exact c.1.1
     . rw [List.lookup_cons,e] at h
       have hk:(k != NameKind.cell) = true:=hc.1
       rcases h with h | h
       . have:k = .cell:=Option.some.inj h
         subst this
         exact absurd hk (by decide)
       . exact Option.some.inj h
   . have e':(y == n) = false:=by simpa using e
     have h':(List.map (fun x=>match x with | (n,k)=>if (k == NameKind.free && env.scope.kind == ScopeKind.function && env.kindOf n == some NameKind.cell) = true then (n,NameKind.cell) else (n,k)) r).lookup y = some .cell \/
       (List.map (fun x=>match x with | (n,k)=>if (k == NameKind.free && env.scope.kind == ScopeKind.function && env.kindOf n == some NameKind.cell) = true then (n,NameKind.cell) else (n,k)) r).lookup y = some .free:=by
      dsimp only at h
      split at h
      . rw [List.lookup_cons,e'] at h; exact h
      . rw [List.lookup_cons,e'] at h; exact h
     obtain ⟨q,hq,z⟩:=ih h' hc.2
     exact ⟨q,List.mem_cons_of_mem _ hq,z⟩
noncomputable def pick (ι:List Nat) (σ:St):St:=ι.map fun i=>(σ[i]?).join
noncomputable def wm (wi:TI) (ι:List Nat) (te:TE):TE:=fun σ H Q=>wi σ H fun J H1=>∀ D,H1 D = none -> ∃ W:Nat -> Nat -> List V -> Hp -> Prop,(∃ m,W 0 m [] (upd H1 D (.lst []))) /\ ∀ i m ys H,W i m ys H ->
 H D = some (.lst ys) /\ ((J.stop i H /\ Q (.ref D) H) \/ (J.go i H /\ ∀ x H',J.yld i H x H' -> te (pick ι σ ++ [some x]) H' fun y H2=>H2 D = some (.lst ys) /\ ys.length < sizeLine /\ ∃ m',m' < m /\ W (i + 1) m' (ys ++ [y]) (upd H2 D (.lst (ys ++ [y])))))
section
variable {X:Cx} {scope:Scope} {cl:List (Str × Addr)} {M:List Str} {ι:List Nat} {x:Str}
theorem o5.sE (S:o5 X scope cl M ι x) {y:Str} {c:Addr} (h:cl.lookup y = some c):X.env.cells.lookup y = some c:=vV S.sub (PySem.mem_of_lookup h)
theorem Cn {pins:List (Addr × Obj)} {σ:St} {H:Hp} {s:Shared} {h₁:Heap} {t':Nat} {ex:List Addr} (S:o5 X scope cl M ι x) (I:Inv X pins σ H s) (hex:∀ b ∈ ex,qH X pins H b /\ b < s.heap.objs.size) (hn:h₁.Ns s.heap.objs.size (fun _=>none))
  (hk:∀ b o,s.heap.get? b = some o -> h₁.get? b = some o):Inv (blk X scope cl (M ++ [x]) s.heap.objs.size s H ex) [] (pick ι σ ++ [none]) H { s with heap:=h₁,toks:=t' }:=by
 have noM:∀ b:Addr,b ∈ ex -> b ≠ s.heap.objs.size:=fun b hb=>Nat.ne_of_lt (hex b hb).2
 have fsx:∀ b ∈ ex,b ∉ frs X.stack:=fun b hb z=>by
  obtain ⟨⟨_,f1,f2,_⟩,_⟩:=hex b hb
  rcases List.mem_cons.mp (I.yj b z) with e | e
  . exact f1 e
  . exact f2 e
 have base0:∀ b o,X.base.get? b = some o -> b ∉ ex:=fun b o e z=>by
  obtain ⟨⟨_,_,_,f3,_⟩,_⟩:=hex b z
  rcases f3 with f | f
  . exact I.ok.noex b o e f
  . exact absurd (Nat.lt_of_lt_of_le (Heap.lt_size e) (Nat.le_trans I.ok.bsz f)) (Nat.lt_irrefl _)
 refine ⟨⟨I.ok.mod,S.kind,I.ok.glob,I.ok.blt,Nat.le_refl _,fun y z c h1 h2=>I.ok.inj y z c (S.sE h1) (S.sE h2),fun y hy=>?_,fun y c z=>absurd z Bool.false_ne_true,I.ok.hd,I.ok.frames,.inl rfl,
  fun b hb=>⟨noM b hb,fun y c h z=>(hex b hb).1.2.2.2.2.1 y c (S.sE h) z⟩,I.bs,Nat.le_trans I.ok.bsz I.sz,base0,fsx,I.stack,I.uZ⟩,
  rfl,I.bare,Un.kept hk,⟨_,hn,fun i y v e1 e2 e3=>?_⟩,fun y c h=>?_,I.fresh,fun y c h=>?_,fun p hp=>absurd (show p ∈ ([]:List (Addr × Obj)) from hp) (by simp),I.hok.kept hk,?_⟩
 . obtain ⟨p,hp,rfl,hpf⟩:=vw S.nocell hy
   have q:=List.all_eq_true.mp S.all p hp
   rw [hpf] at q
   have q':(cl.lookup p.1).isSome = true:=by
    cases e:(cl.lookup p.1).isSome with
    | true=>rfl
    | false=>rw [e] at q; exact absurd q (by decide)
   exact Option.isSome_iff_exists.mp q'
 . have hiM:i < M.length:=by
    by_cases hlt:i < M.length
    . exact hlt
    . exfalso
      have hl:(pick ι σ).length = M.length:=by
       have q:=congrArg List.length S.names
       rw [List.length_map,List.length_map] at q
       unfold pick
       rw [List.length_map,q]
      rw [List.getElem?_append_right (by omega),hl] at e2
      have:i - M.length = 0 \/ 1 <= i - M.length:=by omega
      rcases this with z | z
      . rw [z] at e2; cases e2
      . rw [List.getElem?_eq_none (by simpa using z)] at e2; cases e2
   have hl:ι.length = M.length:=by
    have q:=congrArg List.length S.names
    rw [List.length_map,List.length_map] at q
    exact q.symm
   rw [List.getElem?_append_left hiM] at e1
   have hyM:y ∈ M:=List.mem_of_getElem? e1
   have e2':((σ[ι[i]]?).join) = some v:=by
    rw [List.getElem?_append_left (by unfold pick; rw [List.length_map]; omega)] at e2
    unfold pick at e2
    rw [List.getElem?_map,List.getElem?_eq_getElem (by omega)] at e2
    exact Option.some.inj e2
   have e4:σ[ι[i]]? = some (some v):=by
    cases q:σ[ι[i]]? with
    | none=>rw [q] at e2'; cases e2'
    | some w=>rw [q] at e2'; exact congrArg some e2'
   have e5:X.N[ι[i]]? = some y:=by
    have q:=congrArg (fun l=>l[i]?) S.names
    rw [List.getElem?_map,List.getElem?_map,e1,List.getElem?_eq_getElem (by omega)] at q
    exact (Option.some.inj q).symm
   have kc:X.env.kindOf y = some .cell:=vV S.kinds hyM
   obtain ⟨m,hm,hl⟩:=I.loc
   obtain ⟨u,r,q⟩:=hl _ y v e5 e4 (.inr (.inl kc))
   refine ⟨u,r,.inr ⟨?_,?_⟩⟩
   . exact vZ (vV S.cells hyM)
   . rcases q with ⟨k,_⟩ | ⟨_,c,e,o,ho,hd⟩
     . rw [kc] at k; cases k
     . exact ⟨c,(vV S.same hyM).trans e,o,hk _ _ ho,hd⟩
 . obtain ⟨v,o,ho,hd⟩:=I.cell y c (S.sE h)
   exact ⟨v,o,hk _ _ ho,hd⟩
 . exact I.freeC y c (S.sE h)
 . have q:=congrArg List.length S.names
   rw [List.length_map,List.length_map] at q
   show (pick ι σ ++ [none]).length = (M ++ [x]).length
   unfold pick
   rw [List.length_append,List.length_append,List.length_map,q]
   rfl
theorem zR {pins:List (Addr × Obj)} {σ σ':St} {H H':Hp} {s s':Shared} {h':Heap} {ex:List Addr} {C:Addr} (I:Inv X pins σ H s) (hC:C = s.heap.objs.size) (hex:∀ b ∈ ex,qH X pins H b) {N:List Str} (J:Inv (blk X scope cl N C s H ex) [] σ' H' s')
  (hs:Heap.SameBut C s'.heap h'):Inv X pins σ H' { s' with heap:=h' }:=by
 subst hC
 have K:Inv X pins σ H' s':=I.Fs (ch:=ex) J.os J.base J.hok J.bare fun b hb=>by
  obtain ⟨_,f1,_,f3,f4,f5⟩:=hex b hb
  exact ⟨f3,f1,f4,f5⟩
 refine K.turned (t':=s'.toks) (it:=s.heap.objs.size) (fun b o hb e=>(hs.2 b hb).trans e) J.free (Nat.ne_of_gt I.lt) (.inr I.sz) (fun y c e z=>?_) (fun p hp z=>?_)
 . obtain ⟨v,q⟩:=I.cell y c e
   exact absurd (z ▸ q.lt) (Nat.lt_irrefl _)
 . exact absurd (z ▸ Heap.lt_size (I.pin p hp).1) (Nat.lt_irrefl _)
theorem AO (elt target iter:Expr) (scope:Scope) (pos:Pos) (it acc:Value) (env:Env):
  compTurn (.ListComp elt [⟨target,iter,[],0⟩] scope pos) 0 it acc env = (do
   standAt iter.pos
   match <- pyNext it with
   | none=>pure (.done .next)
   | some v=>do
     letOwnedTupleGo target it v
     assign target env v
     (do let x <- eval elt env; let _ <- call (.builtin "list.append") [acc,x]; pure ())
     again (.compLoop (.ListComp elt [⟨target,iter,[],0⟩] scope pos) 0 it acc env)):=by rfl
theorem Ea {elt iter:Expr} {px pos:Pos} {wi:TI} {te:TE} (S:o5 X scope cl M ι x) (hc:X.calm = true) (hi:PI X (.Name x px) iter wi) (he:∀ C s₀ H₀ ex,PE (blk X scope cl (M ++ [x]) C s₀ H₀ ex) elt te)
  (hs:∀ v,foldedSetIterable iter X.env v = pure v:=by intro _; rfl):PE X (.ListComp elt [⟨.Name x px,iter,[],0⟩] scope pos) (wm wi ι te):=by
 intro pins s σ H Q I h
 rw [eval_ListComp]
 refine wpAny_comprehension_free (use:=none) rfl hs S.clos S.kind (fun y hy hl=>?_) (wpAny_mono (hi pins s σ H _ I h) (fun v s1 h1=>wpAny_mono h1 (fun itv s2 h2=>?_) fun _ _ z=>z) fun _ _ z=>z)
 . have q:=List.all_eq_true.mp S.locs y hy
   rw [hl] at q
   simpa using q
 obtain ⟨it,fp,tn,J,H2,rfl,I2,T,st2,f2,hW⟩:=h2
 have I3:=I2.II (ys:=[]) (its:=[]) (t':=s2.toks) .nil (Nat.zero_le _)
 obtain ⟨W,⟨m0,w0⟩,turn⟩:=hW s2.heap.objs.size I2.fresh
 have fpo:∀ b ∈ fp,b < s2.heap.objs.size:=fun b hb=>let ⟨_,e,_⟩:=T.obj _ _ st2 b hb; Heap.lt_size e
 have f3:∀ b ∈ fp,qH X pins (upd H2 s2.heap.objs.size (.lst [])) b:=fun b hb=>by
  obtain ⟨q0,q⟩:=f2 b hb
  exact ⟨by rw [bb (Nat.ne_of_lt (fpo b hb))]; exact q0,q⟩
 show wpAny _ _ (newObj (.type "list") _ none) _ _ s2
 refine wpAny_newObj_type (wpAny_newFunctionEnv (fun y hy=>?_) (by intro y hy; simp at hy) (fun h₁ hn₁ sb₁=>?_) S.kind)
 . have q:=List.all_eq_true.mp S.nocell y hy
   simpa using q
 have hsz:(s2.heap.push { cls:=.type "list",dict:=none,data:=.seq ([]:List Value).toArray }).objs.size = s2.heap.objs.size + 1:=Heap.size_push ..
 have hk₁:∀ b o,(s2.heap.push { cls:=.type "list",dict:=none,data:=.seq ([]:List Value).toArray }).get? b = some o -> h₁.get? b = some o:=fun b o e=>
  (sb₁.2 b (Nat.ne_of_lt (Heap.lt_size e))).trans (Heap.get?_push_of_some _ e)
 have J0:=Cn (t':=s2.toks + ([]:List (Str × Value)).length) S I3 (ex:=fp) (fun b hb=>⟨f3 b hb,Nat.lt_of_lt_of_le (fpo b hb) (by rw [hsz]; exact Nat.le_succ _)⟩) hn₁ hk₁
 have old:∀ b ∈ fp,∀ o,s2.heap.get? b = some o -> h₁.get? b = some o:=fun b _ o e=>hk₁ b o (Heap.get?_push_of_some _ e)
 have st₁:tn 0 h₁:=T.keep _ _ _ st2 old
 have loop:codeAny (model X.prog X.w) X.A (.compLoop (.ListComp elt [⟨.Name x px,iter,[],0⟩] scope pos) 0 (.ref it) (.ref s2.heap.objs.size) (compEnvC scope cl (s2.heap.objs.size + 1) X.env))
   (compPost (model X.prog X.w) X.A X.xe none (EP X pins σ Q) (.ref s2.heap.objs.size) (s2.heap.objs.size + 1)) { s2 with heap:=h₁,toks:=s2.toks + ([]:List (Str × Value)).length }:=by
  rw [hsz] at J0
  refine codeAny_loop rfl (fun n s'=>∃ i H' ys v,Inv (blk X scope cl (M ++ [x]) (s2.heap.objs.size + 1) { s2 with heap:=s2.heap.push { cls:=.type "list",data:=.seq ([]:List Value).toArray },toks:=s2.toks } (upd H2 s2.heap.objs.size (.lst [])) fp) [] (pick ι σ ++ [v]) H' s' /\ tn i s'.heap /\ (∀ b ∈ fp,H' b = none) /\ W i n ys H')
   (fun n s' hI=>?_) m0 ⟨0,_,[],none,J0,st₁,fun b hb=>(f3 b hb).1,w0⟩
  obtain ⟨i,H',ys,v,J',st',fr',w'⟩:=hI
  obtain ⟨hD,alt⟩:=turn i n ys H' w'
  have fpY:∀ {G:Hp},(∀ b ∈ fp,G b = none) -> ∀ b ∈ fp,qH (blk X scope cl (M ++ [x]) (s2.heap.objs.size + 1) { s2 with heap:=s2.heap.push { cls:=.type "list",data:=.seq ([]:List Value).toArray },toks:=s2.toks } (upd H2 s2.heap.objs.size (.lst [])) fp) [] G b:=fun hG b hb=>
   ⟨hG b hb,(J'.ok.exf b hb).1,J'.ok.exfs b hb,.inl hb,(J'.ok.exf b hb).2,fun p hp=>absurd (show p ∈ ([]:List (Addr × Obj)) from hp) (by simp)⟩
  show wpAny _ _ ((compTurn _ 0 (.ref it) (.ref s2.heap.objs.size) (compEnvC scope cl (s2.heap.objs.size + 1) X.env)).onRaise _) _ _ s'
  refine wpAny_noted (wpAny_noRaise ?_)
  rw [AO]
  refine wpAny_bind (wpAny_standAt (wpAny_bind ?_))
  rcases alt with ⟨stop,qn⟩ | ⟨go,step⟩
  . refine thn (T.done (blk X scope cl (M ++ [x]) (s2.heap.objs.size + 1) _ _ fp) rfl rfl rfl hc i [] s' _ H' _ J' (fpY fr') st' stop) fun r s4 ⟨hr,J4⟩=>?_
    subst hr
    refine wpAny_pure ?_
    obtain ⟨m,hm,_⟩:=id J4.loc
    refine ⟨m,hm,fun h' sb=>⟨.ref s2.heap.objs.size,H',zR I3 hsz.symm f3 J4 sb,rfl,qn⟩⟩
  . refine thn (T.item (blk X scope cl (M ++ [x]) (s2.heap.objs.size + 1) _ _ fp) rfl rfl rfl hc i [] s' _ H' _ J' (fpY fr') st' go) fun r s4 ⟨u,hr,h4⟩=>?_
    subst hr
    refine wpAny_bind (thn h4 fun _ s5 ⟨z,H5,J5,r5,y5,st5,fr5⟩=>?_)
    have J5':=J5.pinned (fpY fr5) (T.obj _ _ st5)
    have hxN:(M ++ [x])[M.length]? = some x:=by simp
    refine wpAny_bind ?_
    refine wpAny_assign_Name ?_
    refine lW (X:=blk X scope cl (M ++ [x]) (s2.heap.objs.size + 1) _ _ fp) (i:=M.length) (v:=z) J5' S.nd hxN (.inl (lookup_relabel_local S.var)) r5 (fun s6 J6=>?_) (.inr (lookup_relabel_local S.var))
    have hlp:(pick ι σ).length = M.length:=by
     have q:=congrArg List.length S.names
     rw [List.length_map,List.length_map] at q
     unfold pick
     rw [List.length_map,q]
    have hset:(pick ι σ ++ [v]).set M.length (some z) = pick ι σ ++ [some z]:=by
     rw [<- hlp,List.set_append_right _ _ (Nat.le_refl _),Nat.sub_self]
     rfl
    rw [hset] at J6
    refine wpAny_bind (wpAny_bind (thn (he _ _ _ _ _ s6 _ H5 _ J6 (step z H5 y5)) fun yv s7 ⟨y,H7,J7,r7,hD7,hz7,m',hm',w7⟩=>?_))
    refine wpAny_bind (thn (gN (X:=blk X scope cl (M ++ [x]) (s2.heap.objs.size + 1) _ _ fp) _ s7 _ H7 (.ref s2.heap.objs.size) [y] (.ref s2.heap.objs.size) [yv] (fun _ G=>G = upd H7 s2.heap.objs.size (.lst (ys ++ [y]))) J7 rfl (.cons r7 .nil) ⟨_,_,y,rfl,rfl,hD7,hz7,rfl⟩) fun _ s8 ⟨_,H8,J8,_,e8⟩=>?_)
    subst e8
    refine wpAny_pure (wpAny_pure ⟨rfl,m',hm',i + 1,_,_,some z,J8.mi,?_,fun b hb=>?_,w7⟩)
    . exact T.keep _ _ _ st5 fun b hb o e=>(J8.pin (b,o) (List.mem_append_right _ (List.mem_append_right _ (iu hb e)))).1
    . obtain ⟨o,e,d⟩:=T.obj _ _ st5 b hb
      exact (J8.pin (b,o) (List.mem_append_right _ (List.mem_append_right _ (iu hb e)))).2.1
 rw [hsz] at *
 exact codeAny_compStart_list loop (T.self X.A 0 _ _ _ st₁ loop)
end
end L2.E
namespace L2.E
open PySem PySem.Spec PyProof.Rows
section
variable {X:Cx}
noncomputable def IsV (K:PySem.W.Frag) (T:String) (x:V) (H:Hp) (b:Bool):Prop:=match x with
 | .int _=>(T = "int" /\ b = true) \/ (T = "bool" /\ b = false) \/ (T = "list" /\ b = false) \/ (T = "tuple" /\ b = false) \/ (T = "str" /\ b = false)
 | .bl _=>(T = "int" /\ b = true) \/ (T = "bool" /\ b = true) \/ (T = "list" /\ b = false) \/ (T = "tuple" /\ b = false) \/ (T = "str" /\ b = false)
 | .non=>(T = "int" /\ b = false) \/ (T = "bool" /\ b = false) \/ (T = "list" /\ b = false) \/ (T = "tuple" /\ b = false) \/ (T = "str" /\ b = false)
 | .str _=>(T = "int" /\ b = false) \/ (T = "bool" /\ b = false) \/ (T = "list" /\ b = false) \/ (T = "tuple" /\ b = false) \/ (T = "str" /\ b = true)
 | .ref p=>((∃ xs,SqL K H p xs) /\ ((T = "int" /\ b = false) \/ (T = "bool" /\ b = false) \/ (T = "list" /\ b = true) \/ (T = "tuple" /\ b = false) \/ (T = "str" /\ b = false))) \/
    ((∃ xs,SqT K H p xs) /\ ((T = "int" /\ b = false) \/ (T = "bool" /\ b = false) \/ (T = "list" /\ b = false) \/ (T = "tuple" /\ b = true) \/ (T = "str" /\ b = false)))
 | _=>False
theorem pN:oS X (.builtin "isinstance") (fun xs H Q=>∃ x T b,xs = [x,.ty T] /\ IsV X.K T x H b /\ Q (.bl b) H):=by
 intro pins s σ H vs us Q I rv h
 obtain ⟨x,T,b,rfl,hv,q⟩:=h
 obtain ⟨u,v,rfl,ru,rT⟩:=rv.two
 cases rT
 cases x with
 | int i=>
   obtain ⟨t,rfl⟩:=ru
   rcases hv with ⟨rfl,rfl⟩ | ⟨rfl,rfl⟩ | ⟨rfl,rfl⟩ | ⟨rfl,rfl⟩ | ⟨rfl,rfl⟩
   . exact IsiPair.int_int ⟨.bl _,H,I,rfl,q⟩
   . exact IsiPair.int_bool ⟨.bl _,H,I.tok _,rfl,q⟩
   . exact IsiPair.int_list ⟨.bl _,H,I.tok _,rfl,q⟩
   . exact IsiPair.int_tuple ⟨.bl _,H,I.tok _,rfl,q⟩
   . exact IsiPair.int_str ⟨.bl _,H,I.tok _,rfl,q⟩
 | bl i=>
   cases ru
   rcases hv with ⟨rfl,rfl⟩ | ⟨rfl,rfl⟩ | ⟨rfl,rfl⟩ | ⟨rfl,rfl⟩ | ⟨rfl,rfl⟩
   . exact IsiPair.bool_int ⟨.bl _,H,I,rfl,q⟩
   . exact IsiPair.bool_bool ⟨.bl _,H,I,rfl,q⟩
   . exact IsiPair.bool_list ⟨.bl _,H,I.tok _,rfl,q⟩
   . exact IsiPair.bool_tuple ⟨.bl _,H,I.tok _,rfl,q⟩
   . exact IsiPair.bool_str ⟨.bl _,H,I.tok _,rfl,q⟩
 | non=>
   cases ru
   rcases hv with ⟨rfl,rfl⟩ | ⟨rfl,rfl⟩ | ⟨rfl,rfl⟩ | ⟨rfl,rfl⟩ | ⟨rfl,rfl⟩
   . exact IsiPair.NoneType_int ⟨.bl _,H,I.tok _,rfl,q⟩
   . exact IsiPair.NoneType_bool ⟨.bl _,H,I.tok _,rfl,q⟩
   . exact IsiPair.NoneType_list ⟨.bl _,H,I.tok _,rfl,q⟩
   . exact IsiPair.NoneType_tuple ⟨.bl _,H,I.tok _,rfl,q⟩
   . exact IsiPair.NoneType_str ⟨.bl _,H,I.tok _,rfl,q⟩
 | str i=>
   obtain ⟨t,rfl⟩:=ru
   rcases hv with ⟨rfl,rfl⟩ | ⟨rfl,rfl⟩ | ⟨rfl,rfl⟩ | ⟨rfl,rfl⟩ | ⟨rfl,rfl⟩
   . exact IsiPair.str_int ⟨.bl _,H,I.tok _,rfl,q⟩
   . exact IsiPair.str_bool ⟨.bl _,H,I.tok _,rfl,q⟩
   . exact IsiPair.str_list ⟨.bl _,H,I.tok _,rfl,q⟩
   . exact IsiPair.str_tuple ⟨.bl _,H,I.tok _,rfl,q⟩
   . exact IsiPair.str_str ⟨.bl _,H,I,rfl,q⟩
 | ref p=>
   cases ru
   rcases hv with ⟨⟨xs,hS⟩,hv⟩ | ⟨⟨xs,hS⟩,hv⟩
   . obtain ⟨its,r,pl,hz⟩:=I.list hS
     obtain ⟨o,e,c,_⟩:=pl.isList
     rcases hv with ⟨rfl,rfl⟩ | ⟨rfl,rfl⟩ | ⟨rfl,rfl⟩ | ⟨rfl,rfl⟩ | ⟨rfl,rfl⟩
     . exact IsiPair.list_int e c ⟨.bl _,H,I.tok _,rfl,q⟩
     . exact IsiPair.list_bool e c ⟨.bl _,H,I.tok _,rfl,q⟩
     . exact IsiPair.list_list e c ⟨.bl _,H,I,rfl,q⟩
     . exact IsiPair.list_tuple e c ⟨.bl _,H,I.tok _,rfl,q⟩
     . exact IsiPair.list_str e c ⟨.bl _,H,I.tok _,rfl,q⟩
   . obtain ⟨its,r,pl,hz⟩:=I.tuple hS
     obtain ⟨o,e,c,_⟩:=pl
     rcases hv with ⟨rfl,rfl⟩ | ⟨rfl,rfl⟩ | ⟨rfl,rfl⟩ | ⟨rfl,rfl⟩ | ⟨rfl,rfl⟩
     . exact IsiPair.tuple_int e c ⟨.bl _,H,I.tok _,rfl,q⟩
     . exact IsiPair.tuple_bool e c ⟨.bl _,H,I.tok _,rfl,q⟩
     . exact IsiPair.tuple_list e c ⟨.bl _,H,I.tok _,rfl,q⟩
     . exact IsiPair.tuple_tuple e c ⟨.bl _,H,I,rfl,q⟩
     . exact IsiPair.tuple_str e c ⟨.bl _,H,I.tok _,rfl,q⟩
 | _=>exact hv.elim
theorem Fl:typeOf (.type "ValueError") = pure (.type "type"):=by kernel_rfl
theorem boot_bool:bootBuiltins "bool" = some (.type "bool"):=by decide +kernel
theorem boot_isinstance:bootBuiltins "isinstance" = some (.builtin "isinstance"):=by decide +kernel
theorem boot_all:bootBuiltins "all" = some (.builtin "all"):=by decide +kernel
theorem boot_tuple:bootBuiltins "tuple" = some (.type "tuple"):=by decide +kernel
theorem boot_list:bootBuiltins "list" = some (.type "list"):=by decide +kernel
theorem boot_int:bootBuiltins "int" = some (.type "int"):=by decide +kernel
theorem boot_len:bootBuiltins "len" = some (.builtin "len"):=by decide +kernel
theorem sU {prog:Program} {w:World} {A:Around} {E:Value -> Shared -> Prop} {K:PySem.W.Frag} {s:Shared} {a C:Addr} {T:Value} {dx:Option Addr} {bm:List Value} {k:Value} {dep:Int} {tk:Tok} {Q:Fin -> Shared -> Prop} (hk:k = .int dep tk) (X:K.In s.heap) (e:CJ a C dx s.heap)
  (hC:nc K C bm) (hty:(∃ n,T = .type n /\ typeOf (.type n) = pure (.type "type")) \/ ∃ B bmB,T = .ref B /\ nc K B bmB) (hb:(Value.ref C ::bm).contains T = true) (hq:Q (.done (.ret (.bool true))) s):
  wpAny (model prog w) A (Builtin.«isinstance.nested» ⟨[.ref a,T,k],[]⟩) Q E s:=by
 subst hk
 obtain ⟨_,nm,q,N,bs,hdct,sn,sub,ab,col,dd,k0,k1,k2,k3,k5,nid,lC⟩:=hC
 obtain ⟨o,vs,he,hcls,_⟩:=e
 have hC:=X _ _ lC
 obtain ⟨hp,g,d,tks,os⟩:=s
 by_cases same:(Value.ref C == T) = true
 . rcases hty with ⟨n,rfl,hty⟩ | ⟨B,bmB,rfl,_⟩
   . cases same
   . repeat (first
      | (with_reducible refine wpAny_loadPart_at he ?_; rw [hcls])
      | assumption
      | wp_step)
     all_goals first | assumption | exact hq
 . have same':(Value.ref C == T) = false:=by simpa using same
   rcases hty with ⟨n,rfl,hty⟩ | ⟨B,bmB,rfl,⟨_,nm',q',N',bs',hdct',sn',sub',ab',col',dd',k0',k1',k2',k3',k5',nid',lB⟩⟩
   . repeat (first
      | (with_reducible refine wpAny_loadPart_at he ?_; rw [hcls])
      | (with_reducible refine wpAny_isSubtype_exc hC ?_; rw [hb])
      | assumption
      | wp_step)
     all_goals first | assumption | exact hq
   . have hB:=X _ _ lB
     repeat (first
      | (with_reducible refine wpAny_loadPart_at he ?_; rw [hcls])
      | with_reducible refine wpAny_loadPart_at hB ?_
      | (with_reducible refine wpAny_isSubtype_exc hC ?_; rw [hb])
      | assumption
      | wp_step)
     all_goals first | assumption | exact hq
theorem BH:oS X (.builtin "isinstance") (fun xs H Q=>∃ a T C dx bm,xs = [.ref a,T] /\ H a = some (oN a C dx) /\ nc X.K C bm /\ ((∃ B bmB,T = .ref B /\ nc X.K B bmB /\ (Value.ref C ::bm).contains (.ref B) = true) \/ (T = .ty "ValueError" /\ bm.contains (.type "ValueError") = true)) /\ Q (.bl true) H):=by
 intro pins s σ H vs us Q I rv h
 obtain ⟨a,T,C,dx,bm,rfl,ha,hC,hT,q⟩:=h
 obtain ⟨u,v,rfl,ru,rT⟩:=rv.two
 cases ru
 obtain ⟨e,_,_⟩:=I.hok a _ ha
 rcases hT with ⟨B,bmB,rfl,hB,hb⟩ | ⟨rfl,hb⟩
 . cases rT
   refine call_isinstance (S:=fun _ R s'=>s' = s /\ R (.ok (.ret (.bool true))) s) (fun prog w A R s' hs=>?_) ⟨rfl,?_⟩
   . obtain ⟨rfl,hs⟩:=hs
     exact isinstance_outer (sU rfl I.kIn e hC (.inr ⟨B,bmB,rfl,hB⟩) hb hs) (by intro z; cases z)
   . exact ⟨.bl _,H,I,rfl,q⟩
 . cases rT
   refine call_isinstance (S:=fun _ R s'=>s' = s /\ R (.ok (.ret (.bool true))) s) (fun prog w A R s' hs=>?_) ⟨rfl,?_⟩
   . obtain ⟨rfl,hs⟩:=hs
     exact isinstance_outer (sU rfl I.kIn e hC (.inl ⟨_,rfl,Fl⟩) (by rw [List.contains_cons,hb,Bool.or_true]) hs) (by intro z; cases z)
   . exact ⟨.bl _,H,I,rfl,q⟩
noncomputable def AI (xs:List V) (i:Int) (y:V):List V:=xs.take (if i < 0 then (i + (xs.length:Int)).toNat else min i.toNat xs.length) ++ y ::xs.drop (if i < 0 then (i + (xs.length:Int)).toNat else min i.toNat xs.length)
theorem wY (xs:List V) (i:Int) (y:V):(AI xs i y).length = xs.length + 1:=by
 unfold AI
 rw [List.length_append,List.length_cons,List.length_take,List.length_drop]
 omega
noncomputable def ze:V -> List V -> Hp -> VK -> Prop:=fun x vs H Q=>∃ l xs i y,x = .ref l /\ vs = [.int i,y] /\ H l = some (.lst xs) /\ (-(2 ^ 63) <= i /\ i < 2 ^ 63) /\ xs.length < sizeLine /\ Q .non (upd H l (.lst (AI xs i y)))
theorem AD:MtM X "list.insert" ze:=by
 intro pins s σ H x vs v us Q I rx rv h
 obtain ⟨l,xs,i,y,rfl,rfl,hH,hi,hz,q⟩:=h
 cases rx
 obtain ⟨u,w,rfl,⟨t,rfl⟩,rw'⟩:=rv.two
 obtain ⟨z,its,n,r,hl,e⟩:=I.CC hH
 have hf:¬ (!Builtin.List.listFitsIndex i) = true:=by
  unfold Builtin.List.listFitsIndex
  simp
  omega
 refine call_meets F.slot_list_insert ⟨_,e,rfl⟩ F.entry_list_insert (F.args_list_insert_3 _ _ _) (AutoSeq1.list_insert_list_int_val_1 l its.toArray n i t w hf (by rw [List.size_toArray]; omega)) ⟨e,?_⟩
 refine ⟨.non,_,I.D0 (ys:=AI xs i y) (its':=its.take (if i < 0 then (i + (its.length:Int)).toNat else min i.toNat its.length) ++ w ::its.drop (if i < 0 then (i + (its.length:Int)).toNat else min i.toNat its.length)) hH e ?_ ?_ ?_,rfl,q⟩
 . apply Array.toList_inj.mp
   simp
   exact List.take_of_length_le (by simp)
 . unfold AI
   rw [<- hl]
   exact Vals.append (Vals.take _ r) (.cons rw' (Vals.drop _ r))
 . rw [wY]; omega
theorem pV:∀ {ns:List Int} {its:List Value},Vals (ns.map V.int) its -> IntsAre its ns
 | [],_,.nil=>.nil
 | n ::_,_,.cons ⟨t,e⟩ r=>by subst e; exact .cons n t (pV r)
noncomputable def E7 (K:PySem.W.Frag) (A:Around) (neg:Bool):R2:=fun x y H Q=>∃ (p q:Addr) (ns ms:List Int),x = .ref p /\ y = .ref q /\ SqL K H p (ns.map V.int) /\ SqL K H q (ms.map V.int) /\ A.units + 64 < cLine /\ Q (.bl (if neg then !decide (ns = ms) else decide (ns = ms))) H
theorem G3:OpR X (compareOp .Eq) (E7 X.K X.A false):=by
 intro pins s σ H x y v u Q I rx ry h
 obtain ⟨p,q,ns,ms,rfl,rfl,h1,h2,hu,hq⟩:=h
 cases rx; cases ry
 obtain ⟨its,r,pl,hz⟩:=I.list h1
 obtain ⟨its',r',pl',hz'⟩:=I.list h2
 exact PySem.W.eq_intsK pl.isList (pV r) pl'.isList (pV r') hu ⟨.bl _,H,I,rfl,hq⟩
theorem DC:OpR X (compareOp .NotEq) (E7 X.K X.A true):=by
 intro pins s σ H x y v u Q I rx ry h
 obtain ⟨p,q,ns,ms,rfl,rfl,h1,h2,hu,hq⟩:=h
 cases rx; cases ry
 obtain ⟨its,r,pl,hz⟩:=I.list h1
 obtain ⟨its',r',pl',hz'⟩:=I.list h2
 exact PySem.W.ne_intsK pl.isList (pV r) pl'.isList (pV r') hu ⟨.bl _,H,I,rfl,hq⟩
end
section
variable {P:Program} {w:World} {K:PySem.W.Frag} {mg:Str -> Option Value} {base:Heap}
theorem okX {x qual:Str} {st:Stmt} {f:Addr} {fd:FuncData} {N ps:List Str} {k:Nat} {sp:Sp} (F:Fun K x qual st f fd) (S:aS N ps (au st)) (len:∀ vs H Q E,sp vs H Q E -> vs.length = ps.length)
  (hbody:∀ (cdv:Value) (A:Around) (outer:List Env) (s:Shared) (H:Hp) (vs:List V) (Q:VK) (E:XK),iO k (A.deeper (envOfC qual (au st) s.heap.objs.size f cdv)) -> sp vs H Q E ->
    ∃ t,PSs (pP (CXE P w) P w K mg base N qual (au st) f cdv A outer s H E) (aO st) t /\ t { nx:=fun _ H'=>Q .non H',rt:=Q } (start N vs) H):bV P w K mg base (CXE P w) (k + 1) f fd ps sp:=by
 obtain ⟨oc,od,kV,doc,pm,an,cdv,ct,osl,rfl,lk,hcd⟩:=F.ex
 exact Jq lk hcd S len fun A outer s H vs Q E hr hsp=>hbody cdv A outer s H vs Q E hr hsp
end
end L2.E
namespace L2.E
open PySem PySem.Spec PyProof.Rows
theorem SqL.new {K:PySem.W.Frag} {H:Hp} {p:Addr} {xs:List V} (h:H p = some (.lst xs)):SqL K H p xs:=.inl (.inl h)
theorem SqT.new {K:PySem.W.Frag} {H:Hp} {p:Addr} {xs:List V} (h:H p = some (.tup xs)):SqT K H p xs:=.inl (.inl h)
theorem vi {H:Hp} {p q:Addr} {o:HO} (h:H q = some o) (n:H p = none):q ≠ p:=fun z=>by rw [z,n] at h; cases h
theorem _root_.L2.aK.upd {H H':Hp} {p:Addr} {o:HO} (e:aK H H') (n:H p = none):aK H (upd H' p o):=fun b u h=>by
 rw [bb (vi h n)]; exact e b u h
theorem _root_.L2.aK.new {H:Hp} {p:Addr} {o:HO} (n:H p = none):aK H (L2.upd H p o):=(aK.refl H).upd n
abbrev Goes (H:Hp) (E:XK) (C:Addr) (dx:Option Addr):Prop:=∀ H' a,aK H H' -> H' a = some (oN a C dx) -> E (.ref C) (some a) H'
end L2.E
namespace L2.E
open PySem PySem.Spec PyProof.Rows
theorem takes {K:PySem.W.Frag} {T C:Addr} {b:Bool} {bmC bmT:List Value} (h1:nc K C bmC) (h2:nc K T bmT) (h:(Value.ref C ::bmC).contains (.ref T) = b):uE K T C b:=⟨bmC,bmT,h1,h2,h⟩
end L2.E
namespace L2.E
open PySem PySem.Spec PyProof.Rows
section
variable {X:Cx}
noncomputable def Gg (K:PySem.W.Frag):R2:=fun x y H Q=>∃ l b xs zs,x = .ref l /\ y = .ref b /\ SqL K H l xs /\ SqL K H b zs /\ xs.length + zs.length <= sizeLine /\ ∀ p,H p = none -> Q (.ref p) (upd H p (.lst (xs ++ zs)))
theorem lg:OpR X (binaryOp .Add) (Gg X.K):=by
 intro pins s σ H x y v u Q I rx ry h
 obtain ⟨l,b,xs,zs,rfl,rfl,hH,hB,hz,q⟩:=h
 cases rx
 cases ry
 obtain ⟨its,r,pl,_⟩:=I.list hH
 obtain ⟨its2,r2,pl2,_⟩:=I.list hB
 obtain ⟨⟨cls,dd,data,sl⟩,ho,hc,n,hd⟩:=pl.isList
 obtain ⟨⟨cls2,dd2,data2,sl2⟩,ho2,hc2,n2,hd2⟩:=pl2.isList
 simp only at hc hd hc2 hd2
 subst hc hd hc2 hd2
 have hsz:its.toArray.size + its2.toArray.size <= sizeLine:=by rw [List.size_toArray,List.size_toArray,<- r.length,<- r2.length]; exact hz
 refine concat_meets ⟨_,ho,rfl⟩ ⟨_,ho2,rfl⟩ noFill_list_add seq_list_add PySem.F.slot_list_add PySem.F.entry_list_add (PySem.F.args_list_add_2 _ _) (list_addW l b its.toArray its2.toArray n n2 dd dd2 sl sl2 hsz) ⟨ho,ho2,?_⟩
 have ea:its.toArray ++ its2.toArray = (its ++ its2).toArray:=by simp
 rw [ea]
 exact ⟨.ref _,_,I.II (t':=s.toks) (r.append r2) (by rw [List.length_append]; exact hz),rfl,q _ I.fresh⟩
theorem uu:oS X (.builtin "all") (fun xs H Q=>∃ (p:Addr) (bs:List Bool),xs = [.ref p] /\ SqL X.K H p (bs.map V.bl) /\ X.A.handled = none /\ Q (.bl (bs.all id)) H):=by
 intro pins s σ H vs us Q I rv h
 obtain ⟨p,bs,rfl,hp,hh,q⟩:=h
 obtain ⟨u,rfl,ru⟩:=rv.one
 cases ru
 obtain ⟨its,r,pl,_⟩:=I.list hp
 have hl:=r.length
 have isl:s.heap.IsList p its.toArray:=pl.isList
 obtain ⟨o,e,_⟩:=id isl
 refine call_all_walk (wpAny_pyIter_list isl ?_)
 have ne:p ≠ s.heap.objs.size:=Nat.ne_of_lt (Heap.lt_size e)
 have tv:∀ (i:Nat) (v:Value),its.toArray[i]? = some v -> ∃ b,bs[i]? = some b /\ v = Value.bool b:=fun i v hv=>by
  have hv':its[i]? = some v:=by simpa using hv
  have hi:i < its.length:=(List.getElem?_eq_some_iff.mp hv').1
  rw [<- hl,List.length_map] at hi
  have hx:(bs.map V.bl)[i]? = some (V.bl bs[i]):=by simp [hi]
  obtain ⟨u,hu,ru⟩:=r.get hx
  rw [hv'] at hu; cases hu
  exact ⟨bs[i],by simp [hi],ru⟩
 refine ⟨s.heap.objs.size,_,_,_,_,_,(fun i=>(bs[i]?).getD false),rfl,Walks.list (A:=X.A.in1) hh s.heap.objs.size p ne its.toArray,⟨⟨_,Heap.get?_push_size _ rfl,rfl,rfl⟩,isl.at fun o e=>Heap.get?_push_of_some _ e⟩,fun i v s' Q' E' hP hQ=>?_,fun h' tk hk=>?_⟩
 . obtain ⟨b,hb,rfl⟩:=tv i v hP
   have hQ':Q' ((bs[i]?).getD false) s':=hQ
   rw [hb] at hQ'
   exact wpAny_truthy_bool hQ'
 . have en:its.toArray.size = bs.length:=by rw [List.size_toArray,<- hl,List.length_map]
   have eb:(List.range its.toArray.size).all (fun i=>(bs[i]?).getD false) = bs.all id:=by
    rw [en]
    rw [Bool.eq_iff_iff,List.all_eq_true,List.all_eq_true]
    constructor
    . intro hA b hb
      obtain ⟨i,hi,rfl⟩:=List.mem_iff_getElem.mp hb
      have:=hA i (by simpa using hi)
      simpa [hi] using this
    . intro hA i hi
      have hi':i < bs.length:=by simpa using hi
      have:=hA bs[i] (List.getElem_mem hi')
      simpa [hi'] using this
   rw [eb]
   refine ⟨.bl _,H,I.kept (h':=h') (t':=tk) fun b o e'=>hk b o ?_ (Heap.get?_push_of_some _ e'),rfl,q⟩
   have lt:=Heap.lt_size e'
   intro z
   have z':b = s.heap.objs.size:=by simpa using z
   exact absurd (z' ▸ lt) (Nat.lt_irrefl _)
end
end L2.E
namespace L2.E
open PySem PySem.Spec PyProof.Rows
noncomputable def isStar:Expr -> Bool
 | .Starred ..=>true
 | _=>false
theorem oA {e:Expr} {es:List Expr} {env:Env} (h:isStar e = false):starEach (e ::es) env = (false,eval e env) ::starEach es env:=by
 cases e <;> first | rfl | cases h
theorem Bu {X:Cx} {e:Expr} {es:List Expr} {te:TE} {t:TA} (ha:PE X e te) (hr:PA X es t) (hs:isStar e = false:=by rfl):PA X (e ::es) (jK te t):=EX ha hr (oA hs)
end L2.E
namespace L2.P
open PySem
noncomputable def ixP (n:Nat) (i:Int):Option Nat:=if 0 <= i then (if i < n then some i.toNat else none) else if -(n:Int) <= i then some (i + n).toNat else none
noncomputable def atP {α:Type} (xs:List α) (i:Int):Option α:=(ixP xs.length i).bind fun j=>xs[j]?
noncomputable def va (n d:Nat):Option Int -> Nat
 | none=>d
 | some v=>if v < 0 then (v + (n:Int)).toNat else min v.toNat n
inductive PV where
 | non | bl (b:Bool) | int (i:Int) | str (s:Str) | lst (xs:List PV) | tup (xs:List PV)
inductive OV where
 | sh (x:PV) | ol (ts:List OV) | ob (c:String) (ks:List Str) (ts:List OV)
   | di (kvs:List (Int × PV)) | dt (kvs:List (List Int × PV))
inductive Sl where
 | sh (x:PV) | ow (xs:List PV) | ex (c:String) (fs:List (Str × PV))
   | tr (io:Bool) (t:OV) | bo (t:OV)
abbrev ag:=List (Option Sl)
inductive RV where
 | sh (x:PV) | fr (xs:List PV) | al (xs:List PV)
noncomputable def RV.pv:RV -> PV
 | .sh x=>x
 | .fr xs=>.lst xs
 | .al xs=>.lst xs
abbrev XF:=List (Str × PV)
inductive OE where
 | ok (r:RV) | exc (c:String) (fs:XF) | bad
inductive OT where
 | ok (b:Bool) | exc (c:String) (fs:XF) | bad
inductive OA where
 | ok (xs:List PV) | exc (c:String) (fs:XF) | bad
inductive OS where
 | nx (ρ:ag) | rt (ρ:ag) (r:RV) | bk (ρ:ag) | ct (ρ:ag) | exc (ρ:ag) (c:String) (fs:XF) | bad
noncomputable def OE.bind:OE -> (RV -> OE) -> OE
 | .ok r,f=>f r
 | .exc c fs,_=>.exc c fs
 | .bad,_=>.bad
noncomputable def OE.gE:OE -> (RV -> OT) -> OT
 | .ok r,f=>f r
 | .exc c fs,_=>.exc c fs
 | .bad,_=>.bad
noncomputable def OE.gj:OE -> (RV -> OA) -> OA
 | .ok r,f=>f r
 | .exc c fs,_=>.exc c fs
 | .bad,_=>.bad
noncomputable def OE.bU (ρ:ag):OE -> (RV -> OS) -> OS
 | .ok r,f=>f r
 | .exc c fs,_=>.exc ρ c fs
 | .bad,_=>.bad
noncomputable def OT.bind:OT -> (Bool -> OE) -> OE
 | .ok r,f=>f r
 | .exc c fs,_=>.exc c fs
 | .bad,_=>.bad
noncomputable def OT.gE:OT -> (Bool -> OT) -> OT
 | .ok r,f=>f r
 | .exc c fs,_=>.exc c fs
 | .bad,_=>.bad
noncomputable def OT.bU (ρ:ag):OT -> (Bool -> OS) -> OS
 | .ok r,f=>f r
 | .exc c fs,_=>.exc ρ c fs
 | .bad,_=>.bad
noncomputable def OA.bind:OA -> (List PV -> OE) -> OE
 | .ok r,f=>f r
 | .exc c fs,_=>.exc c fs
 | .bad,_=>.bad
noncomputable def OA.gj:OA -> (List PV -> OA) -> OA
 | .ok r,f=>f r
 | .exc c fs,_=>.exc c fs
 | .bad,_=>.bad
noncomputable def OA.bU (ρ:ag):OA -> (List PV -> OS) -> OS
 | .ok r,f=>f r
 | .exc c fs,_=>.exc ρ c fs
 | .bad,_=>.bad
noncomputable def aw (i:Nat):ag -> OE:=fun ρ=>match ρ[i]? with
 | some (some (.sh x))=>.ok (.sh x)
 | some (some (.ow xs))=>.ok (.al xs)
 | _=>.bad
noncomputable def mC (x:PV):ag -> OE:=fun _=>.ok (.sh x)
noncomputable def oE:Option RV -> OE
 | some r=>.ok r
 | none=>.bad
noncomputable def mOp (g:PV -> PV -> Option RV) (ma mb:ag -> OE):ag -> OE:=fun ρ=>(ma ρ).bind fun a=>(mb ρ).bind fun b=>oE (g a.pv b.pv)
noncomputable def gI (C:Int -> Int -> Bool) (f:Int -> Int -> PV):PV -> PV -> Option RV
 | .int i,.int j=>if C i j then some (.sh (f i j)) else none
 | _,_=>none
noncomputable def d0:=gI (fun _ _=>true) fun i j=>.int (i + j)
noncomputable def qh:=gI (fun _ _=>true) fun i j=>.int (i - j)
noncomputable def sV:=gI (fun i j=>(decide (-(2 ^ 64) < i) && decide (i < 2 ^ 64)) || (decide (-(2 ^ 64) < j) && decide (j < 2 ^ 64))) fun i j=>.int (i * j)
noncomputable def pT:=gI (fun _ j=>decide (0 < j) && decide (j < 1073741824)) fun i j=>.int (i / j)
noncomputable def kf:=gI (fun _ j=>decide (0 < j)) fun i j=>.int (i % j)
noncomputable def LY:=gI (fun i j=>decide (0 <= j) && (decide (j <= 1000000) && decide (i.natAbs < 2 ^ 64))) fun i j=>.int (i ^ j.toNat)
noncomputable def gLt:=gI (fun _ _=>true) fun i j=>.bl (decide (i < j))
noncomputable def gLe:=gI (fun _ _=>true) fun i j=>.bl (decide (i <= j))
noncomputable def gGt:=gI (fun _ _=>true) fun i j=>.bl (decide (j < i))
noncomputable def gGe:=gI (fun _ _=>true) fun i j=>.bl (decide (j <= i))
noncomputable def eqS:PV -> PV -> Option Bool
 | .non,.non=>some true | .non,.int _=>some false | .int _,.non=>some false | .non,.bl _=>some false | .bl _,.non=>some false | .non,.str _=>some false | .str _,.non=>some false
 | .int a,.int b=>some (decide (a = b)) | .bl a,.bl b=>some (decide (a = b)) | .str a,.str b=>some (decide (a = b))
 | .int _,.str _=>some false | .str _,.int _=>some false | .bl _,.str _=>some false | .str _,.bl _=>some false
 | _,_=>none
noncomputable def gEq:PV -> PV -> Option RV:=fun x y=>(eqS x y).map fun b=>.sh (.bl b)
noncomputable def gNe:PV -> PV -> Option RV:=fun x y=>(eqS x y).map fun b=>.sh (.bl (!b))
noncomputable def lL:RV -> Option PV
 | .sh x=>some x
 | .fr xs=>some (.lst xs)
 | .al _=>none
noncomputable def aM:ag -> OA:=fun _=>.ok []
noncomputable def aj (me:ag -> OE) (mr:ag -> OA):ag -> OA:=fun ρ=>(me ρ).gj fun r=>match lL r with
 | some x=>(mr ρ).gj fun xs=>.ok (x ::xs)
 | none=>.bad
noncomputable def lim:Nat:=16777216
noncomputable def cS (ma:ag -> OA):ag -> OE:=fun ρ=>(ma ρ).bind fun xs=>if xs.length <= lim then .ok (.fr xs) else .bad
noncomputable def jV (ma:ag -> OA):ag -> OE:=fun ρ=>(ma ρ).bind fun xs=>if xs.length <= lim then .ok (.sh (.tup xs)) else .bad
noncomputable def bf (f:List PV -> OE) (ma:ag -> OA):ag -> OE:=fun ρ=>(ma ρ).bind f
noncomputable def mUn (g:PV -> Option RV) (ma:ag -> OE):ag -> OE:=fun ρ=>(ma ρ).bind fun a=>oE (g a.pv)
noncomputable def AX:PV -> Option RV
 | .int i=>some (.sh (.int (-i)))
 | _=>none
noncomputable def mJ:PV -> Option RV
 | .lst xs=>some (.sh (.int xs.length))
 | .tup xs=>some (.sh (.int xs.length))
 | _=>none
noncomputable def r6:PV -> Option RV
 | .int i=>some (.sh (.int i))
 | .bl b=>some (.sh (.int (if b then 1 else 0)))
 | _=>none
noncomputable def rH:PV -> Option RV
 | .lst xs=>some (.fr xs)
 | .tup xs=>some (.fr xs)
 | _=>none
noncomputable def jN:PV -> PV -> Option RV
 | .lst xs,.int i=>(atP xs i).map .sh
 | _,_=>none
noncomputable def lb:PV -> PV -> Option RV
 | .tup xs,.int i=>(atP xs i).map .sh
 | _,_=>none
noncomputable def sM:PV -> PV -> Option RV
 | .lst xs,.lst ys=>if xs.length + ys.length <= lim then some (.fr (xs ++ ys)) else none
 | _,_=>none
noncomputable def qt:List PV -> Option (List Int)
 | []=>some []
 | .int i ::r=>(qt r).map (i ::·)
 | _ ::_=>none
noncomputable def Dm:PV -> PV -> Option Bool
 | .lst xs,.lst ys=>match qt xs,qt ys with
   | some a,some b=>some (decide (a = b))
   | _,_=>none
 | _,_=>none
noncomputable def G6:PV -> PV -> Option RV:=fun x y=>(Dm x y).map fun b=>.sh (.bl b)
noncomputable def E6:PV -> PV -> Option RV:=fun x y=>(Dm x y).map fun b=>.sh (.bl (!b))
noncomputable def oq:List PV -> Option (List Bool)
 | []=>some []
 | .bl i ::r=>(oq r).map (i ::·)
 | _ ::_=>none
noncomputable def AQ:PV -> Option RV
 | .lst xs=>(oq xs).map fun bs=>.sh (.bl (bs.all id))
 | _=>none
noncomputable def isP (T:String):PV -> Option Bool
 | .int _=>if T = "int" then some true else if T = "bool" \/ T = "list" \/ T = "tuple" \/ T = "str" then some false else none
 | .bl _=>if T = "int" \/ T = "bool" then some true else if T = "list" \/ T = "tuple" \/ T = "str" then some false else none
 | .non=>if T = "int" \/ T = "bool" \/ T = "list" \/ T = "tuple" \/ T = "str" then some false else none
 | .str _=>if T = "str" then some true else if T = "int" \/ T = "bool" \/ T = "list" \/ T = "tuple" then some false else none
 | .lst _=>if T = "list" then some true else if T = "int" \/ T = "bool" \/ T = "tuple" \/ T = "str" then some false else none
 | .tup _=>if T = "tuple" then some true else if T = "int" \/ T = "bool" \/ T = "list" \/ T = "str" then some false else none
noncomputable def mIs (T:String) (ma:ag -> OE):ag -> OE:=mUn (fun x=>(isP T x).map fun b=>.sh (.bl b)) ma
noncomputable def sR:PV -> Option Bool
 | .non=>some false
 | .bl b=>some b
 | .int i=>some (i != 0)
 | .lst xs=>some (!xs.isEmpty)
 | .tup xs=>some (!xs.isEmpty)
 | .str _=>none
noncomputable def oT:Option Bool -> OT
 | some b=>.ok b
 | none=>.bad
noncomputable def jk (ma:ag -> OE):ag -> OT:=fun ρ=>(ma ρ).gE fun r=>oT (sR r.pv)
noncomputable def aR (ma:ag -> OE):ag -> OT:=fun ρ=>(ma ρ).gE fun r=>match r.pv with
 | .bl b=>.ok b
 | _=>.bad
noncomputable def ux (m:ag -> OT):ag -> OT:=fun ρ=>(m ρ).gE fun b=>.ok (!b)
noncomputable def uf (m n:ag -> OT):ag -> OT:=fun ρ=>(m ρ).gE fun b=>if b = true then n ρ else .ok false
noncomputable def yx (m n:ag -> OT):ag -> OT:=fun ρ=>(m ρ).gE fun b=>if b = true then .ok true else n ρ
noncomputable def xq (m n:ag -> OE):ag -> OE:=fun ρ=>(m ρ).bind fun r=>match r.pv with
 | .bl b=>if b = true then n ρ else .ok (.sh (.bl false))
 | _=>.bad
noncomputable def G9 (m n:ag -> OE):ag -> OE:=fun ρ=>(m ρ).bind fun r=>match r.pv with
 | .bl b=>if b = true then .ok (.sh (.bl true)) else n ρ
 | _=>.bad
noncomputable def B2 (m:ag -> OE):ag -> OE:=fun ρ=>(m ρ).bind fun r=>match r.pv with
 | .bl b=>.ok (.sh (.bl (!b)))
 | _=>.bad
noncomputable def mj (c:ag -> OT) (m n:ag -> OE):ag -> OE:=fun ρ=>(c ρ).bind fun b=>if b = true then m ρ else n ρ
noncomputable def jF (g g':PV -> PV -> Option RV) (ma mb mc:ag -> OE):ag -> OE:=fun ρ=>(ma ρ).bind fun a=>(mb ρ).bind fun b=>(oE (g a.pv b.pv)).bind fun r=>match r.pv with
 | .bl k=>if k = true then (mc ρ).bind fun c=>oE (g' b.pv c.pv) else .ok (.sh (.bl false))
 | _=>.bad
noncomputable def OS.andThen:OS -> (ag -> OS) -> OS
 | .nx ρ,k=>k ρ
 | o,_=>o
noncomputable def OS.turn:OS -> (ag -> OS) -> OS
 | .nx ρ,k=>k ρ
 | .ct ρ,k=>k ρ
 | .bk ρ,_=>.nx ρ
 | o,_=>o
noncomputable def aT (a b:ag -> OS):ag -> OS:=fun ρ=>(a ρ).andThen b
noncomputable def aY:ag -> OS:=fun ρ=>.nx ρ
noncomputable def Iz:ag -> OS:=fun ρ=>.bk ρ
noncomputable def Jr:ag -> OS:=fun ρ=>.ct ρ
noncomputable def BP:RV -> Option Sl
 | .sh x=>some (.sh x)
 | .fr xs=>some (.ow xs)
 | .al _=>none
noncomputable def dW (i:Nat) (me:ag -> OE):ag -> OS:=fun ρ=>(me ρ).bU ρ fun r=>match BP r with
 | some s=>.nx (ρ.set i (some s))
 | none=>.bad
noncomputable def bN (c:ag -> OT) (m n:ag -> OS):ag -> OS:=fun ρ=>(c ρ).bU ρ fun b=>if b = true then m ρ else n ρ
noncomputable def bq (me:ag -> OE):ag -> OS:=fun ρ=>(me ρ).bU ρ fun r=>match r with
 | .al _=>.bad
 | r=>.rt ρ r
noncomputable def gz (i:Nat):ag -> OS:=fun ρ=>match ρ[i]? with
 | some (some (.sh x))=>.rt ρ (.sh x)
 | some (some (.ow xs))=>.rt (ρ.set i none) (.fr xs)
 | _=>.bad
noncomputable def Jx:ag -> OS:=fun ρ=>.rt ρ (.sh .non)
noncomputable def zt (me:ag -> OE):ag -> OS:=fun ρ=>(me ρ).bU ρ fun _=>.nx ρ
noncomputable def j9 (i:Nat) (ρ:ag):ag:=match ρ[i]? with
 | some (some (.ow xs))=>ρ.set i (some (.sh (.lst xs)))
 | _=>ρ
noncomputable def jb (i:Nat) (me:ag -> OE):ag -> OS:=fun ρ=>match ρ[i]? with
 | some (some (.ow xs))=>(me ρ).bU ρ fun r=>match lL r with
   | some y=>if xs.length < lim then .nx (ρ.set i (some (.ow (xs ++ [y])))) else .bad
   | none=>.bad
 | _=>.bad
noncomputable def rK (i:Nat) (me:ag -> OE):ag -> OS:=fun ρ=>match ρ[i]? with
 | some (some (.ow xs))=>(me ρ).bU ρ fun r=>match r with
   | .fr ys=>if xs.length + ys.length <= lim then .nx (ρ.set i (some (.ow (xs ++ ys)))) else .bad
   | _=>.bad
 | _=>.bad
noncomputable def jO (i:Nat) (mb:ag -> OS):List PV -> ag -> OS
 | [],ρ=>.nx ρ
 | x ::xs,ρ=>(mb (ρ.set i (some (.sh x)))).turn (jO i mb xs)
noncomputable def ya:RV -> Option (List PV)
 | .sh (.lst xs)=>some xs
 | .fr xs=>some xs
 | _=>none
noncomputable def qK (i:Nat) (ml:ag -> OE) (mb:ag -> OS):ag -> OS:=fun ρ=>(ml ρ).bU ρ fun r=>match ya r with
 | some xs=>jO i mb xs ρ
 | none=>.bad
noncomputable def eO (n:Nat):List PV:=(List.range n).map fun k:Nat=>PV.int (k:Int)
noncomputable def BG (i:Nat) (me:ag -> OE) (mb:ag -> OS):ag -> OS:=fun ρ=>(me ρ).bU ρ fun r=>match r.pv with
 | .int j=>if -(2 ^ 62) <= j /\ j < 2 ^ 62 then jO i mb (eO j.toNat) ρ else .bad
 | _=>.bad
noncomputable def cy (mc:ag -> OT) (mb:ag -> OS):Nat -> ag -> OS
 | 0,_=>.bad
 | n + 1,ρ=>(mc ρ).bU ρ fun b=>if b = true then (mb ρ).turn (cy mc mb n) else .nx ρ
noncomputable def sk:PV -> Option Int
 | .int i=>some i
 | _=>none
noncomputable def qL (m:ag -> OE):ag -> OE:=fun ρ=>(m ρ).bind fun r=>match r.pv with
 | .int i=>.ok (.sh (.int i))
 | _=>.bad
noncomputable def tS (xs:List PV) (lo hi:Option Int):List PV:=(xs.drop (va xs.length 0 lo)).take (va xs.length xs.length hi - va xs.length 0 lo)
noncomputable def HM (x:PV) (lo hi:Option Int):Option RV:=match x with
 | .lst xs=>some (.fr (tS xs lo hi))
 | _=>none
noncomputable def DB (ma ml mh:ag -> OE):ag -> OE:=fun ρ=>(ma ρ).bind fun a=>(ml ρ).bind fun l=>(mh ρ).bind fun h=>oE (HM a.pv (sk l.pv) (sk h.pv))
noncomputable def dO (ι:List Nat) (ρ:ag):ag:=ι.map fun i=>(ρ[i]?).join
noncomputable def dI (me:ag -> OE) (ρ:ag):List PV -> OA
 | []=>.ok []
 | x ::xs=>(me (ρ ++ [some (.sh x)])).gj fun r=>match lL r with
   | some y=>(dI me ρ xs).gj fun ys=>.ok (y ::ys)
   | none=>.bad
noncomputable def noX:OA -> OE
 | .ok xs=>if xs.length <= lim then .ok (.fr xs) else .bad
 | _=>.bad
noncomputable def vU (ml:ag -> OE) (ι:List Nat) (me:ag -> OE):ag -> OE:=fun ρ=>(ml ρ).bind fun r=>match r.pv with
 | .lst xs=>noX (dI me (dO ι ρ) xs)
 | _=>.bad
noncomputable def u5 (mn:ag -> OE) (ι:List Nat) (me:ag -> OE):ag -> OE:=fun ρ=>(mn ρ).bind fun r=>match r.pv with
 | .int j=>if -(2 ^ 62) <= j /\ j < 2 ^ 62 then noX (dI me (dO ι ρ) (eO j.toNat)) else .bad
 | _=>.bad
noncomputable def vI (c:String) (ma:ag -> OA):ag -> OS:=fun ρ=>(ma ρ).bU ρ fun xs=>if xs.length <= lim then .exc ρ c [] else .bad
noncomputable def xi:OS -> OS
 | .exc _ _ _=>.bad
 | o=>o
noncomputable def K3 (mb:ag -> OS) (takes:String -> Option Bool) (ms:ag -> OS):ag -> OS:=fun ρ=>match mb ρ with
 | .exc ρ' c fs=>(match takes c with
   | some true=>xi (ms ρ')
   | some false=>.exc ρ' c fs
   | none=>.bad)
 | o=>o
noncomputable def GA (i:Nat):OS -> OS
 | .nx ρ=>.nx (ρ.set i none)
 | .bk ρ=>.bk (ρ.set i none)
 | .ct ρ=>.ct (ρ.set i none)
 | o=>o
noncomputable def vB (i:Nat) (mb:ag -> OS) (takes:String -> Option Bool) (ms:ag -> OS):ag -> OS:=fun ρ=>match mb ρ with
 | .exc ρ' c fs=>(match takes c with
   | some true=>GA i (xi (ms (ρ'.set i (some (.ex c fs)))))
   | some false=>.exc ρ' c fs
   | none=>.bad)
 | o=>o
noncomputable def EZ (i:Nat) (under:String -> Bool):ag -> OE:=fun ρ=>match ρ[i]? with
 | some (some (.ex c _))=>if under c = true then .ok (.sh (.bl true)) else .bad
 | _=>.bad
noncomputable def fin:OS -> OE
 | .nx _=>.ok (.sh .non)
 | .rt _ (.al _)=>.bad
 | .rt _ r=>.ok r
 | .exc _ c fs=>.exc c fs
 | _=>.bad
noncomputable def n8 (n:Nat) (xs:List PV):ag:=xs.map (fun x=>some (.sh x)) ++ List.replicate (n - xs.length) none
noncomputable def fnP (np n:Nat) (m:ag -> OS):List PV -> OE:=fun xs=>if xs.length = np then fin (m (n8 n xs)) else .bad
noncomputable def fuel:Nat:=100000
noncomputable def jY (i:Nat) (m:ag -> OS):ag -> OS:=fun ρ=>m (j9 i ρ)
noncomputable def qX (i:Nat) (g:PV -> PV -> Option RV) (me:ag -> OE):ag -> OS:=fun ρ=>match ρ[i]? with
 | some (some (.sh x))=>(me ρ).bU ρ fun r=>match g x r.pv with
   | some (.sh z)=>.nx (ρ.set i (some (.sh z)))
   | _=>.bad
 | _=>.bad
noncomputable def cu:PV -> Bool
 | .non=>true
 | _=>false
noncomputable def sG:PV -> PV -> Option RV
 | x,.non=>some (.sh (.bl (cu x)))
 | _,_=>none
noncomputable def uF:PV -> PV -> Option RV
 | x,.non=>some (.sh (.bl (!cu x)))
 | _,_=>none
noncomputable def Ca (xs:List PV) (i:Int) (y:PV):List PV:=xs.take (if i < 0 then (i + (xs.length:Int)).toNat else min i.toNat xs.length) ++ y ::xs.drop (if i < 0 then (i + (xs.length:Int)).toNat else min i.toNat xs.length)
noncomputable def pH (i:Nat) (mk me:ag -> OE):ag -> OS:=fun ρ=>match ρ[i]? with
 | some (some (.ow xs))=>(aj mk (aj me aM) ρ).bU ρ fun ys=>match ys with
   | [.int k,y]=>if (-(2 ^ 63) <= k /\ k < 2 ^ 63) /\ xs.length < lim then .nx (ρ.set i (some (.ow (Ca xs k y)))) else .bad
   | _=>.bad
 | _=>.bad
@[simp] theorem uY (i:Nat) (ρ:ag):aw i ρ = (match ρ[i]? with
  | some (some (.sh x))=>.ok (.sh x)
  | some (some (.ow xs))=>.ok (.al xs)
  | _=>.bad):=rfl
@[simp] theorem Ju (g:PV -> PV -> Option RV) (ma mb:ag -> OE) (ρ:ag):mOp g ma mb ρ = ((ma ρ).bind fun a=>(mb ρ).bind fun b=>oE (g a.pv b.pv)):=rfl
@[simp] theorem Ac (me:ag -> OE) (mr:ag -> OA) (ρ:ag):aj me mr ρ = ((me ρ).gj fun r=>match lL r with
  | some x=>(mr ρ).gj fun xs=>.ok (x ::xs)
  | none=>.bad):=rfl
@[simp] theorem Cw (ma:ag -> OA) (ρ:ag):cS ma ρ = ((ma ρ).bind fun xs=>if xs.length <= lim then .ok (.fr xs) else .bad):=rfl
@[simp] theorem Lp (ma:ag -> OA) (ρ:ag):jV ma ρ = ((ma ρ).bind fun xs=>if xs.length <= lim then .ok (.sh (.tup xs)) else .bad):=rfl
@[simp] theorem El (f:List PV -> OE) (ma:ag -> OA) (ρ:ag):bf f ma ρ = ((ma ρ).bind f):=rfl
@[simp] theorem CB (g:PV -> Option RV) (ma:ag -> OE) (ρ:ag):mUn g ma ρ = ((ma ρ).bind fun a=>oE (g a.pv)):=rfl
@[simp] theorem BX (ma:ag -> OE) (ρ:ag):jk ma ρ = ((ma ρ).gE fun r=>oT (sR r.pv)):=rfl
@[simp] theorem DO (ma:ag -> OE) (ρ:ag):aR ma ρ = ((ma ρ).gE fun r=>match r.pv with
  | .bl b=>.ok b
  | _=>.bad):=rfl
@[simp] theorem KA (m:ag -> OT) (ρ:ag):ux m ρ = ((m ρ).gE fun b=>.ok (!b)):=rfl
@[simp] theorem Ef (m n:ag -> OT) (ρ:ag):uf m n ρ = ((m ρ).gE fun b=>if b = true then n ρ else .ok false):=rfl
@[simp] theorem Lx (m n:ag -> OT) (ρ:ag):yx m n ρ = ((m ρ).gE fun b=>if b = true then .ok true else n ρ):=rfl
@[simp] theorem Kx (m n:ag -> OE) (ρ:ag):xq m n ρ = ((m ρ).bind fun r=>match r.pv with
  | .bl b=>if b = true then n ρ else .ok (.sh (.bl false))
  | _=>.bad):=rfl
@[simp] theorem Lq (m n:ag -> OE) (ρ:ag):G9 m n ρ = ((m ρ).bind fun r=>match r.pv with
  | .bl b=>if b = true then .ok (.sh (.bl true)) else n ρ
  | _=>.bad):=rfl
@[simp] theorem Ki (m:ag -> OE) (ρ:ag):B2 m ρ = ((m ρ).bind fun r=>match r.pv with
  | .bl b=>.ok (.sh (.bl (!b)))
  | _=>.bad):=rfl
@[simp] theorem Ll (c:ag -> OT) (m n:ag -> OE) (ρ:ag):mj c m n ρ = ((c ρ).bind fun b=>if b = true then m ρ else n ρ):=rfl
@[simp] theorem Jj (g g':PV -> PV -> Option RV) (ma mb mc:ag -> OE) (ρ:ag):jF g g' ma mb mc ρ = ((ma ρ).bind fun a=>(mb ρ).bind fun b=>(oE (g a.pv b.pv)).bind fun r=>match r.pv with
  | .bl k=>if k = true then (mc ρ).bind fun c=>oE (g' b.pv c.pv) else .ok (.sh (.bl false))
  | _=>.bad):=rfl
@[simp] theorem lM (a b:ag -> OS) (ρ:ag):aT a b ρ = ((a ρ).andThen b):=rfl
@[simp] theorem Ky (ρ:ag):aY  ρ = (.nx ρ):=rfl
@[simp] theorem Kg (ρ:ag):Iz  ρ = (.bk ρ):=rfl
@[simp] theorem Kt (ρ:ag):Jr  ρ = (.ct ρ):=rfl
@[simp] theorem wd (i:Nat) (me:ag -> OE) (ρ:ag):dW i me ρ = ((me ρ).bU ρ fun r=>match BP r with
  | some s=>.nx (ρ.set i (some s))
  | none=>.bad):=rfl
@[simp] theorem HV (c:ag -> OT) (m n:ag -> OS) (ρ:ag):bN c m n ρ = ((c ρ).bU ρ fun b=>if b = true then m ρ else n ρ):=rfl
@[simp] theorem BZ (me:ag -> OE) (ρ:ag):bq me ρ = ((me ρ).bU ρ fun r=>match r with
  | .al _=>.bad
  | r=>.rt ρ r):=rfl
@[simp] theorem IT (i:Nat) (ρ:ag):gz i ρ = (match ρ[i]? with
  | some (some (.sh x))=>.rt ρ (.sh x)
  | some (some (.ow xs))=>.rt (ρ.set i none) (.fr xs)
  | _=>.bad):=rfl
@[simp] theorem KD (me:ag -> OE) (ρ:ag):zt me ρ = ((me ρ).bU ρ fun _=>.nx ρ):=rfl
@[simp] theorem IP (i:Nat) (me:ag -> OE) (ρ:ag):jb i me ρ = (match ρ[i]? with
  | some (some (.ow xs))=>(me ρ).bU ρ fun r=>match lL r with
    | some y=>if xs.length < lim then .nx (ρ.set i (some (.ow (xs ++ [y])))) else .bad
    | none=>.bad
  | _=>.bad):=rfl
@[simp] theorem IY (i:Nat) (me:ag -> OE) (ρ:ag):rK i me ρ = (match ρ[i]? with
  | some (some (.ow xs))=>(me ρ).bU ρ fun r=>match r with
    | .fr ys=>if xs.length + ys.length <= lim then .nx (ρ.set i (some (.ow (xs ++ ys)))) else .bad
    | _=>.bad
  | _=>.bad):=rfl
@[simp] theorem DI (i:Nat) (ml:ag -> OE) (mb:ag -> OS) (ρ:ag):qK i ml mb ρ = ((ml ρ).bU ρ fun r=>match ya r with
  | some xs=>jO i mb xs ρ
  | none=>.bad):=rfl
@[simp] theorem Kz (i:Nat) (me:ag -> OE) (mb:ag -> OS) (ρ:ag):BG i me mb ρ = ((me ρ).bU ρ fun r=>match r.pv with
  | .int j=>if -(2 ^ 62) <= j /\ j < 2 ^ 62 then jO i mb (eO j.toNat) ρ else .bad
  | _=>.bad):=rfl
@[simp] theorem Kn (m:ag -> OE) (ρ:ag):qL m ρ = ((m ρ).bind fun r=>match r.pv with
  | .int i=>.ok (.sh (.int i))
  | _=>.bad):=rfl
@[simp] theorem K2 (ma ml mh:ag -> OE) (ρ:ag):DB ma ml mh ρ = ((ma ρ).bind fun a=>(ml ρ).bind fun l=>(mh ρ).bind fun h=>oE (HM a.pv (sk l.pv) (sk h.pv))):=rfl
@[simp] theorem CO (ml:ag -> OE) (ι:List Nat) (me:ag -> OE) (ρ:ag):vU ml ι me ρ = ((ml ρ).bind fun r=>match r.pv with
  | .lst xs=>noX (dI me (dO ι ρ) xs)
  | _=>.bad):=rfl
@[simp] theorem Jo (mn:ag -> OE) (ι:List Nat) (me:ag -> OE) (ρ:ag):u5 mn ι me ρ = ((mn ρ).bind fun r=>match r.pv with
  | .int j=>if -(2 ^ 62) <= j /\ j < 2 ^ 62 then noX (dI me (dO ι ρ) (eO j.toNat)) else .bad
  | _=>.bad):=rfl
@[simp] theorem JV (c:String) (ma:ag -> OA) (ρ:ag):vI c ma ρ = ((ma ρ).bU ρ fun xs=>if xs.length <= lim then .exc ρ c [] else .bad):=rfl
@[simp] theorem Lf (mb:ag -> OS) (takes:String -> Option Bool) (ms:ag -> OS) (ρ:ag):K3 mb takes ms ρ = (match mb ρ with
  | .exc ρ' c fs=>(match takes c with
    | some true=>xi (ms ρ')
    | some false=>.exc ρ' c fs
    | none=>.bad)
  | o=>o):=rfl
@[simp] theorem Jd (i:Nat) (mb:ag -> OS) (takes:String -> Option Bool) (ms:ag -> OS) (ρ:ag):vB i mb takes ms ρ = (match mb ρ with
  | .exc ρ' c fs=>(match takes c with
    | some true=>GA i (xi (ms (ρ'.set i (some (.ex c fs)))))
    | some false=>.exc ρ' c fs
    | none=>.bad)
  | o=>o):=rfl
@[simp] theorem Li (i:Nat) (under:String -> Bool) (ρ:ag):EZ i under ρ = (match ρ[i]? with
  | some (some (.ex c _))=>if under c = true then .ok (.sh (.bl true)) else .bad
  | _=>.bad):=rfl
@[simp] theorem AU (i:Nat) (m:ag -> OS) (ρ:ag):jY i m ρ = (m (j9 i ρ)):=rfl
@[simp] theorem KZ (i:Nat) (g:PV -> PV -> Option RV) (me:ag -> OE) (ρ:ag):qX i g me ρ = (match ρ[i]? with
  | some (some (.sh x))=>(me ρ).bU ρ fun r=>match g x r.pv with
    | some (.sh z)=>.nx (ρ.set i (some (.sh z)))
    | _=>.bad
  | _=>.bad):=rfl
@[simp] theorem I0 (i:Nat) (mk me:ag -> OE) (ρ:ag):pH i mk me ρ = (match ρ[i]? with
  | some (some (.ow xs))=>(aj mk (aj me aM) ρ).bU ρ fun ys=>match ys with
    | [.int k,y]=>if (-(2 ^ 63) <= k /\ k < 2 ^ 63) /\ xs.length < lim then .nx (ρ.set i (some (.ow (Ca xs k y)))) else .bad
    | _=>.bad
  | _=>.bad):=rfl
@[simp] theorem Hl (x:PV) (ρ:ag):mC x ρ = .ok (.sh x):=rfl
@[simp] theorem yJ (ρ:ag):aM ρ = .ok []:=rfl
@[simp] theorem KC (ρ:ag):Jx ρ = .rt ρ (.sh .non):=rfl
@[simp] theorem qd (r:RV) (f:RV -> OE):OE.bind (.ok r) f = f r:=rfl
@[simp] theorem Gp (c:String) (fs:XF) (f:RV -> OE):OE.bind (.exc c fs) f = .exc c fs:=rfl
@[simp] theorem Hw {p:Prop} [Decidable p] (x y:OE) (f:RV -> OE):OE.bind (if p then x else y) f = if p then OE.bind x f else OE.bind y f:=by split <;> rfl
@[simp] theorem IE (r:RV) (f:RV -> OT):OE.gE (.ok r) f = f r:=rfl
@[simp] theorem Gf (c:String) (fs:XF) (f:RV -> OT):OE.gE (.exc c fs) f = .exc c fs:=rfl
@[simp] theorem FJ {p:Prop} [Decidable p] (x y:OE) (f:RV -> OT):OE.gE (if p then x else y) f = if p then OE.gE x f else OE.gE y f:=by split <;> rfl
@[simp] theorem so (r:RV) (f:RV -> OA):OE.gj (.ok r) f = f r:=rfl
@[simp] theorem Gh (c:String) (fs:XF) (f:RV -> OA):OE.gj (.exc c fs) f = .exc c fs:=rfl
@[simp] theorem F8 {p:Prop} [Decidable p] (x y:OE) (f:RV -> OA):OE.gj (if p then x else y) f = if p then OE.gj x f else OE.gj y f:=by split <;> rfl
@[simp] theorem I8 (r:Bool) (f:Bool -> OE):OT.bind (.ok r) f = f r:=rfl
@[simp] theorem Hz (c:String) (fs:XF) (f:Bool -> OE):OT.bind (.exc c fs) f = .exc c fs:=rfl
@[simp] theorem HU {p:Prop} [Decidable p] (x y:OT) (f:Bool -> OE):OT.bind (if p then x else y) f = if p then OT.bind x f else OT.bind y f:=by split <;> rfl
@[simp] theorem IG (r:Bool) (f:Bool -> OT):OT.gE (.ok r) f = f r:=rfl
@[simp] theorem Gb (c:String) (fs:XF) (f:Bool -> OT):OT.gE (.exc c fs) f = .exc c fs:=rfl
@[simp] theorem Ft {p:Prop} [Decidable p] (x y:OT) (f:Bool -> OT):OT.gE (if p then x else y) f = if p then OT.gE x f else OT.gE y f:=by split <;> rfl
@[simp] theorem qg (r:List PV) (f:List PV -> OE):OA.bind (.ok r) f = f r:=rfl
@[simp] theorem G0 (c:String) (fs:XF) (f:List PV -> OE):OA.bind (.exc c fs) f = .exc c fs:=rfl
@[simp] theorem Iv {p:Prop} [Decidable p] (x y:OA) (f:List PV -> OE):OA.bind (if p then x else y) f = if p then OA.bind x f else OA.bind y f:=by split <;> rfl
@[simp] theorem tH (r:List PV) (f:List PV -> OA):OA.gj (.ok r) f = f r:=rfl
@[simp] theorem FP (c:String) (fs:XF) (f:List PV -> OA):OA.gj (.exc c fs) f = .exc c fs:=rfl
@[simp] theorem Ga {p:Prop} [Decidable p] (x y:OA) (f:List PV -> OA):OA.gj (if p then x else y) f = if p then OA.gj x f else OA.gj y f:=by split <;> rfl
@[simp] theorem jl (ρ:ag) (r:RV) (f:RV -> OS):OE.bU ρ (.ok r) f = f r:=rfl
@[simp] theorem F6 (ρ:ag) (c:String) (fs:XF) (f:RV -> OS):OE.bU ρ (.exc c fs) f = .exc ρ c fs:=rfl
@[simp] theorem FY {p:Prop} [Decidable p] (ρ:ag) (x y:OE) (f:RV -> OS):OE.bU ρ (if p then x else y) f = if p then OE.bU ρ x f else OE.bU ρ y f:=by split <;> rfl
@[simp] theorem jf (ρ:ag) (r:Bool) (f:Bool -> OS):OT.bU ρ (.ok r) f = f r:=rfl
@[simp] theorem FQ (ρ:ag) (c:String) (fs:XF) (f:Bool -> OS):OT.bU ρ (.exc c fs) f = .exc ρ c fs:=rfl
@[simp] theorem F9 {p:Prop} [Decidable p] (ρ:ag) (x y:OT) (f:Bool -> OS):OT.bU ρ (if p then x else y) f = if p then OT.bU ρ x f else OT.bU ρ y f:=by split <;> rfl
@[simp] theorem Ho (ρ:ag) (r:List PV) (f:List PV -> OS):OA.bU ρ (.ok r) f = f r:=rfl
@[simp] theorem FO (ρ:ag) (c:String) (fs:XF) (f:List PV -> OS):OA.bU ρ (.exc c fs) f = .exc ρ c fs:=rfl
@[simp] theorem FZ {p:Prop} [Decidable p] (ρ:ag) (x y:OA) (f:List PV -> OS):OA.bU ρ (if p then x else y) f = if p then OA.bU ρ x f else OA.bU ρ y f:=by split <;> rfl
@[simp] theorem ip (ρ:ag) (k:ag -> OS):(OS.nx ρ).andThen k = k ρ:=rfl
@[simp] theorem gW (ρ:ag) (k:ag -> OS):(OS.nx ρ).turn k = k ρ:=rfl
@[simp] theorem GW (ρ:ag) (k:ag -> OS):(OS.bk ρ).andThen k = OS.bk ρ:=rfl
@[simp] theorem KN (ρ:ag) (k:ag -> OS):(OS.bk ρ).turn k = .nx ρ:=rfl
@[simp] theorem GP (ρ:ag) (k:ag -> OS):(OS.ct ρ).andThen k = OS.ct ρ:=rfl
@[simp] theorem Km (ρ:ag) (k:ag -> OS):(OS.ct ρ).turn k = k ρ:=rfl
@[simp] theorem sy (ρ:ag) (r:RV) (k:ag -> OS):(OS.rt ρ r).andThen k = OS.rt ρ r:=rfl
@[simp] theorem zk (ρ:ag) (r:RV) (k:ag -> OS):(OS.rt ρ r).turn k = OS.rt ρ r:=rfl
@[simp] theorem FE (ρ:ag) (c:String) (fs:XF) (k:ag -> OS):(OS.exc ρ c fs).andThen k = OS.exc ρ c fs:=rfl
@[simp] theorem Jn (ρ:ag) (c:String) (fs:XF) (k:ag -> OS):(OS.exc ρ c fs).turn k = OS.exc ρ c fs:=rfl
@[simp] theorem Fy {p:Prop} [Decidable p] (x y:OS) (k:ag -> OS):OS.andThen (if p then x else y) k = if p then x.andThen k else y.andThen k:=by split <;> rfl
@[simp] theorem Ke {p:Prop} [Decidable p] (x y:OS) (k:ag -> OS):OS.turn (if p then x else y) k = if p then x.turn k else y.turn k:=by split <;> rfl
@[simp] theorem Lh (ρ:ag):fin (.nx ρ) = .ok (.sh .non):=rfl
@[simp] theorem Lb (ρ:ag) (x:PV):fin (.rt ρ (.sh x)) = .ok (.sh x):=rfl
@[simp] theorem Lz (ρ:ag) (x:List PV):fin (.rt ρ (.fr x)) = .ok (.fr x):=rfl
@[simp] theorem KG (ρ:ag) (c:String) (fs:XF):fin (.exc ρ c fs) = .exc c fs:=rfl
@[simp] theorem Kv {p:Prop} [Decidable p] (x y:OS):fin (if p then x else y) = if p then fin x else fin y:=by split <;> rfl
@[simp] theorem Mc (x:PV):RV.pv (.sh x) = x:=rfl
@[simp] theorem FL (x:List PV):RV.pv (.fr x) = .lst x:=rfl
@[simp] theorem F5 (x:List PV):RV.pv (.al x) = .lst x:=rfl
@[simp] theorem y9 (r:RV):oE (some r) = .ok r:=rfl
@[simp] theorem Ku (r:Bool):oT (some r) = .ok r:=rfl
@[simp] theorem IQ (i:Nat) (mb:ag -> OS) (ρ:ag):jO i mb [] ρ = .nx ρ:=rfl
@[simp] theorem fM (i:Nat) (mb:ag -> OS) (x:PV) (xs:List PV) (ρ:ag):jO i mb (x ::xs) ρ = (mb (ρ.set i (some (.sh x)))).turn (jO i mb xs):=rfl
@[simp] theorem LM (i j:Int):d0 (.int i) (.int j) = some (.sh (.int (i + j))):=rfl
@[simp] theorem Lo (i j:Int):qh (.int i) (.int j) = some (.sh (.int (i - j))):=rfl
@[simp] theorem LL (i j:Int):sV (.int i) (.int j) = if ((decide (-(2 ^ 64) < i) && decide (i < 2 ^ 64)) || (decide (-(2 ^ 64) < j) && decide (j < 2 ^ 64))) = true then some (.sh (.int (i * j))) else none:=rfl
@[simp] theorem LQ (i j:Int):pT (.int i) (.int j) = if (decide (0 < j) && decide (j < 1073741824)) = true then some (.sh (.int (i / j))) else none:=rfl
@[simp] theorem Lm (i j:Int):kf (.int i) (.int j) = if decide (0 < j) = true then some (.sh (.int (i % j))) else none:=rfl
@[simp] theorem Lj (i j:Int):LY (.int i) (.int j) = if (decide (0 <= j) && (decide (j <= 1000000) && decide (i.natAbs < 2 ^ 64))) = true then some (.sh (.int (i ^ j.toNat))) else none:=rfl
@[simp] theorem L3 (i j:Int):gLt (.int i) (.int j) = some (.sh (.bl (decide (i < j)))):=rfl
@[simp] theorem L0 (i j:Int):gLe (.int i) (.int j) = some (.sh (.bl (decide (i <= j)))):=rfl
@[simp] theorem L9 (i j:Int):gGt (.int i) (.int j) = some (.sh (.bl (decide (j < i)))):=rfl
@[simp] theorem Mj (i j:Int):gGe (.int i) (.int j) = some (.sh (.bl (decide (j <= i)))):=rfl
@[simp] theorem Mg (i j:Int):gEq (.int i) (.int j) = some (.sh (.bl (decide (i = j)))):=rfl
@[simp] theorem Ma (i j:Int):gNe (.int i) (.int j) = some (.sh (.bl (!decide (i = j)))):=rfl
@[simp] theorem Ml (i j:Bool):gEq (.bl i) (.bl j) = some (.sh (.bl (decide (i = j)))):=rfl
@[simp] theorem Mh (i j:Bool):gNe (.bl i) (.bl j) = some (.sh (.bl (!decide (i = j)))):=rfl
@[simp] theorem Ha (xs:List PV):mJ (.lst xs) = some (.sh (.int xs.length)):=rfl
@[simp] theorem LX (xs:List PV):mJ (.tup xs) = some (.sh (.int xs.length)):=rfl
@[simp] theorem LH (xs:List PV) (i:Int):jN (.lst xs) (.int i) = (atP xs i).map .sh:=rfl
@[simp] theorem Ln (xs:List PV) (i:Int):lb (.tup xs) (.int i) = (atP xs i).map .sh:=rfl
@[simp] theorem Le (xs ys:List PV):sM (.lst xs) (.lst ys) = if xs.length + ys.length <= lim then some (.fr (xs ++ ys)) else none:=rfl
@[simp] theorem Lu {p:Prop} [Decidable p] (x y:Option RV):oE (if p then x else y) = if p then oE x else oE y:=by split <;> rfl
@[simp] theorem K9 (b:Bool):sR (.bl b) = some b:=rfl
@[simp] theorem LK (i:Int):sR (.int i) = some (i != 0):=rfl
@[simp] theorem LU (xs:List PV):sR (.lst xs) = some (!xs.isEmpty):=rfl
@[simp] theorem K6 (xs:List PV):sR (.tup xs) = some (!xs.isEmpty):=rfl
@[simp] theorem LW:sR .non = some false:=rfl
@[simp] theorem IS (i:Int):isP "int" (.int i) = some true:=rfl
@[simp] theorem GF (i:Int):isP "bool" (.int i) = some false:=rfl
@[simp] theorem HC (i:Bool):isP "bool" (.bl i) = some true:=rfl
@[simp] theorem Gm (xs:List PV):isP "list" (.lst xs) = some true:=rfl
@[simp] theorem IX (xs:List PV):rH (.lst xs) = some (.fr xs):=rfl
@[simp] theorem IZ (xs:List PV):rH (.tup xs) = some (.fr xs):=rfl
@[simp] theorem KW (xs:List PV) (lo hi:Option Int):HM (.lst xs) lo hi = some (.fr (tS xs lo hi)):=rfl
@[simp] theorem Kr:sk .non = none:=rfl
@[simp] theorem Kj (i:Int):sk (.int i) = some i:=rfl
@[simp] theorem Lc (i:Int):AX (.int i) = some (.sh (.int (-i))):=rfl
@[simp] theorem Kk (i:Int):r6 (.int i) = some (.sh (.int i)):=rfl
@[simp] theorem KI (i:Bool):r6 (.bl i) = some (.sh (.int (if i then 1 else 0))):=rfl
@[simp] theorem zQ (x:PV):lL (.sh x) = some x:=rfl
@[simp] theorem Kw (x:List PV):lL (.fr x) = some (.lst x):=rfl
@[simp] theorem DW (x:PV):BP (.sh x) = some (.sh x):=rfl
@[simp] theorem zp (x:List PV):BP (.fr x) = some (.ow x):=rfl
@[simp] theorem xD (np n:Nat) (m:ag -> OS) (xs:List PV):fnP np n m xs = if xs.length = np then fin (m (n8 n xs)) else .bad:=rfl
@[simp] theorem nQ (n:Nat) (xs:List PV):n8 n xs = xs.map (fun x=>some (.sh x)) ++ List.replicate (n - xs.length) none:=rfl
@[simp] theorem B6 (xs:List PV):ya (.sh (.lst xs)) = some xs:=rfl
@[simp] theorem Kp (xs:List PV):ya (.fr xs) = some xs:=rfl
@[simp] theorem Lr (x:PV):sG x .non = some (.sh (.bl (cu x))):=rfl
@[simp] theorem KJ (x:PV):uF x .non = some (.sh (.bl (!cu x))):=rfl
@[simp] theorem CN (xs:List PV):noX (.ok xs) = if xs.length <= lim then .ok (.fr xs) else .bad:=rfl
@[simp] theorem G1 (me:ag -> OE) (ρ:ag):dI me ρ [] = .ok []:=rfl
@[simp] theorem Iq (f:RV -> OE):OE.bind .bad f = .bad:=rfl
@[simp] theorem Fv (f:RV -> OT):OE.gE .bad f = .bad:=rfl
@[simp] theorem Gd (f:RV -> OA):OE.gj .bad f = .bad:=rfl
@[simp] theorem Gx (f:Bool -> OE):OT.bind .bad f = .bad:=rfl
@[simp] theorem FG (f:Bool -> OT):OT.gE .bad f = .bad:=rfl
@[simp] theorem HI (f:List PV -> OE):OA.bind .bad f = .bad:=rfl
@[simp] theorem FA (f:List PV -> OA):OA.gj .bad f = .bad:=rfl
@[simp] theorem FF (ρ:ag) (f:RV -> OS):OE.bU ρ .bad f = .bad:=rfl
@[simp] theorem FD (ρ:ag) (f:Bool -> OS):OT.bU ρ .bad f = .bad:=rfl
@[simp] theorem F7 (ρ:ag) (f:List PV -> OS):OA.bU ρ .bad f = .bad:=rfl
@[simp] theorem FI (k:ag -> OS):OS.bad.andThen k = .bad:=rfl
@[simp] theorem JH (k:ag -> OS):OS.bad.turn k = .bad:=rfl
@[simp] theorem KP:fin .bad = .bad:=rfl
@[simp] theorem Ks:oE none = .bad:=rfl
@[simp] theorem KQ:oT none = .bad:=rfl
@[simp] theorem KO (x:List PV):lL (.al x) = none:=rfl
@[simp] theorem Kl (x:List PV):BP (.al x) = none:=rfl
@[simp] theorem JN:(0 <= lim) = True:=by simp [lim]
@[simp] theorem Kf:(1 <= lim) = True:=by simp [lim]
@[simp] theorem Me:(2 <= lim) = True:=by simp [lim]
@[simp] theorem L1:(3 <= lim) = True:=by simp [lim]
@[simp] theorem L7:(4 <= lim) = True:=by simp [lim]
@[simp] theorem LZ:(5 <= lim) = True:=by simp [lim]
@[simp] theorem L6:(6 <= lim) = True:=by simp [lim]
@[simp] theorem L5:(7 <= lim) = True:=by simp [lim]
@[simp] theorem Mb:(8 <= lim) = True:=by simp [lim]
@[simp] theorem Md:(9 <= lim) = True:=by simp [lim]
@[simp] theorem LJ:(10 <= lim) = True:=by simp [lim]
@[simp] theorem K1:(11 <= lim) = True:=by simp [lim]
@[simp] theorem Ld:(12 <= lim) = True:=by simp [lim]
@[simp] theorem KS:(13 <= lim) = True:=by simp [lim]
@[simp] theorem LO:(14 <= lim) = True:=by simp [lim]
@[simp] theorem LV:(15 <= lim) = True:=by simp [lim]
@[simp] theorem LR:(16 <= lim) = True:=by simp [lim]
theorem kR {n:Nat} (h:n <= 1000000):n <= lim:=by unfold lim; omega
theorem pf {n:Nat} (h:n <= 1000000):n < lim:=by unfold lim; omega
theorem mH {α:Type} (xs:List α) (k:Nat):atP xs (k:Int) = xs[k]?:=by
 unfold atP ixP
 by_cases h:k < xs.length
 . simp [h]
 . simp [h]
@[simp] theorem Mf {α:Type} (xs:List α):atP xs 0 = xs[0]?:=mH xs 0
@[simp] theorem L8 {α:Type} (xs:List α):atP xs 1 = xs[1]?:=mH xs 1
@[simp] theorem Ko {α:Type} (xs:List α) (n:Nat):atP xs (no_index (OfNat.ofNat n:Int)) = xs[n]?:=mH xs n
theorem Bt {α:Type} (xs:List α) (i:Int) (h:0 <= i):atP xs i = xs[i.toNat]?:=by
 have:=mH xs i.toNat
 rwa [Int.toNat_of_nonneg h] at this
@[simp] theorem L4 (T:String) (ma:ag -> OE) (ρ:ag):mIs T ma ρ = (ma ρ).bind fun a=>oE ((isP T a.pv).map fun b=>.sh (.bl b)):=rfl
@[simp] theorem Ir (ns:List Int):qt (ns.map .int) = some ns:=by
  induction ns with
  | nil=>rfl
  | cons n ns ih=>show (qt (ns.map .int)).map (n ::·) = _; rw [ih]; rfl
@[simp] theorem qP (ns:List Bool):oq (ns.map .bl) = some ns:=by
  induction ns with
  | nil=>rfl
  | cons n ns ih=>show (oq (ns.map .bl)).map (n ::·) = _; rw [ih]; rfl
@[simp] theorem Im (n:Nat):(eO n).length = n:=by simp [eO]
theorem qj {me:ag -> OE} {ρ:ag} {α:Type} {g:α -> PV} {f:α -> PV} (l:List α) (h:∀ a ∈ l,me (ρ ++ [some (.sh (g a))]) = .ok (.sh (f a))):dI me ρ (l.map g) = .ok (l.map f):=by
 induction l with
 | nil=>rfl
 | cons a l ih=>
   have h1:=h a (List.mem_cons_self)
   have h2:=ih fun b hb=>h b (List.mem_cons_of_mem _ hb)
   simp [dI,h1,h2]
noncomputable def BK (b:Bool):PV -> Bool
 | .bl c=>decide (c = b)
 | _=>false
noncomputable def LA:PV -> PV -> Option RV
 | x,.bl b=>some (.sh (.bl (BK b x)))
 | _,_=>none
noncomputable def EJ:PV -> PV -> Option RV
 | x,.bl b=>some (.sh (.bl (!BK b x)))
 | _,_=>none
@[simp] theorem Lw (x:PV) (b:Bool):LA x (.bl b) = some (.sh (.bl (BK b x))):=rfl
@[simp] theorem IV (x:PV) (b:Bool):EJ x (.bl b) = some (.sh (.bl (!BK b x))):=rfl
@[simp] theorem Ls (b c:Bool):BK b (.bl c) = decide (c = b):=rfl
noncomputable def pJ (c:String) (f:Str) (ma:ag -> OA):ag -> OS:=fun ρ=>(ma ρ).bU ρ fun xs=>match xs with
 | [x]=>.exc ρ c [(f,x)]
 | _=>.bad
@[simp] theorem IU (c:String) (f:Str) (ma:ag -> OA) (ρ:ag):pJ c f ma ρ = (ma ρ).bU ρ fun xs=>match xs with
  | [x]=>.exc ρ c [(f,x)]
  | _=>.bad:=rfl
noncomputable def Jb (i:Nat) (f:Str) (under:String -> Bool):ag -> OE:=fun ρ=>match ρ[i]? with
 | some (some (.ex c fs))=>if under c = true then (match fs.lookup f with
   | some x=>.ok (.sh x)
   | none=>.bad) else .bad
 | _=>.bad
@[simp] theorem KH (i:Nat) (f:Str) (under:String -> Bool) (ρ:ag):Jb i f under ρ = match ρ[i]? with
  | some (some (.ex c fs))=>if under c = true then (match fs.lookup f with
    | some x=>.ok (.sh x)
    | none=>.bad) else .bad
  | _=>.bad:=rfl
noncomputable def K7 (ma mb:ag -> OE):ag -> OE:=fun ρ=>(ma ρ).bind fun a=>(mb ρ).bind fun b=>match a,b.pv with
 | .fr xs,.int k=>if (-(2 ^ 63) <= k /\ k < 2 ^ 63) /\ xs.length * k.toNat <= lim then .ok (.fr (List.replicate k.toNat xs).flatten) else .bad
 | _,_=>.bad
@[simp] theorem Lk (ma mb:ag -> OE) (ρ:ag):K7 ma mb ρ = (ma ρ).bind fun a=>(mb ρ).bind fun b=>match a,b.pv with
  | .fr xs,.int k=>if (-(2 ^ 63) <= k /\ k < 2 ^ 63) /\ xs.length * k.toNat <= lim then .ok (.fr (List.replicate k.toNat xs).flatten) else .bad
  | _,_=>.bad:=rfl
noncomputable def DF (i:Nat) (mk mv:ag -> OE):ag -> OS:=fun ρ=>match ρ[i]? with
 | some (some (.ow xs))=>(mv ρ).bU ρ fun r=>match lL r with
   | some y=>(mk ρ).bU ρ fun kk=>match kk.pv with
     | .int k=>match ixP xs.length k with
       | some j=>.nx (ρ.set i (some (.ow (xs.set j y))))
       | none=>.bad
     | _=>.bad
   | none=>.bad
 | _=>.bad
@[simp] theorem Ly (i:Nat) (mk mv:ag -> OE) (ρ:ag):DF i mk mv ρ = match ρ[i]? with
  | some (some (.ow xs))=>(mv ρ).bU ρ fun r=>match lL r with
    | some y=>(mk ρ).bU ρ fun kk=>match kk.pv with
      | .int k=>match ixP xs.length k with
        | some j=>.nx (ρ.set i (some (.ow (xs.set j y))))
        | none=>.bad
      | _=>.bad
    | none=>.bad
  | _=>.bad:=rfl
end L2.P
namespace L2.P
open PySem PySem.Spec PyProof.Rows L2 L2.E
mutual
noncomputable def Rep (K:PySem.W.Frag) (S:Hp):PV -> V -> Prop
 | .non,v=>v = .non
 | .bl b,v=>v = .bl b
 | .int i,v=>v = .int i
 | .str s,v=>v = .str s
 | .lst xs,v=>∃ p vs,v = .ref p /\ SqL K S p vs /\ bS K S xs vs
 | .tup xs,v=>∃ p vs,v = .ref p /\ SqT K S p vs /\ bS K S xs vs
noncomputable def bS (K:PySem.W.Frag) (S:Hp):List PV -> List V -> Prop
 | [],vs=>vs = []
 | x ::xs,vs=>∃ v r,vs = v ::r /\ Rep K S x v /\ bS K S xs r
end
theorem _root_.L2.aK.tup {K:PySem.W.Frag} {H H':Hp} {a:Addr} {xs:List V} (e:aK H H') (h:SqT K H a xs):SqT K H' a xs:=by
 rcases h with (h | ⟨o,h⟩) | h
 . exact .inl (.inl (e _ _ h))
 . exact .inl (.inr ⟨o,e _ _ h⟩)
 . exact .inr h
section
variable {K:PySem.W.Frag} {S S':Hp}
mutual
theorem Rep.mono (s:aK S S'):∀ {x:PV} {v:V},Rep K S x v -> Rep K S' x v
 | .non,_,h=>by unfold Rep at h ⊢; exact h
 | .bl _,_,h=>by unfold Rep at h ⊢; exact h
 | .int _,_,h=>by unfold Rep at h ⊢; exact h
 | .str _,_,h=>by unfold Rep at h ⊢; exact h
 | .lst _,_,h=>by
   unfold Rep at h ⊢
   obtain ⟨p,vs,e,q,r⟩:=h
   exact ⟨p,vs,e,aK.seq s q,bS.mono s r⟩
 | .tup _,_,h=>by
   unfold Rep at h ⊢
   obtain ⟨p,vs,e,q,r⟩:=h
   exact ⟨p,vs,e,aK.tup s q,bS.mono s r⟩
theorem bS.mono (s:aK S S'):∀ {xs:List PV} {vs:List V},bS K S xs vs -> bS K S' xs vs
 | [],_,h=>by unfold bS at h ⊢; exact h
 | _ ::_,_,h=>by
   unfold bS at h ⊢
   obtain ⟨v,r,e,q,t⟩:=h
   exact ⟨v,r,e,Rep.mono s q,bS.mono s t⟩
end
theorem bS.nil:bS K S [] []:=by unfold bS; rfl
theorem bS.cons {x:PV} {xs:List PV} {v:V} {vs:List V} (h:Rep K S x v) (t:bS K S xs vs):bS K S (x ::xs) (v ::vs):=by unfold bS; exact ⟨v,vs,rfl,h,t⟩
theorem bS.nil_inv {vs:List V} (h:bS K S [] vs):vs = []:=by unfold bS at h; exact h
theorem bS.cons_inv {x:PV} {xs:List PV} {vs:List V} (h:bS K S (x ::xs) vs):∃ v r,vs = v ::r /\ Rep K S x v /\ bS K S xs r:=by unfold bS at h; exact h
theorem bS.append {xs ys:List PV} {vs us:List V} (h:bS K S xs vs) (t:bS K S ys us):bS K S (xs ++ ys) (vs ++ us):=by
 induction xs generalizing vs with
 | nil=>rw [h.nil_inv]; exact t
 | cons x xs ih=>
   obtain ⟨v,r,rfl,q,h'⟩:=h.cons_inv
   exact .cons q (ih h')
theorem bS.length {xs:List PV} {vs:List V} (h:bS K S xs vs):vs.length = xs.length:=by
 induction xs generalizing vs with
 | nil=>rw [h.nil_inv]; rfl
 | cons x xs ih=>
   obtain ⟨v,r,rfl,q,h'⟩:=h.cons_inv
   simp [ih h']
theorem bS.get {xs:List PV} {vs:List V} (h:bS K S xs vs):∀ {i:Nat} {x:PV},xs[i]? = some x -> ∃ v,vs[i]? = some v /\ Rep K S x v:=by
 induction xs generalizing vs with
 | nil=>intro i x e; simp at e
 | cons y xs ih=>
   obtain ⟨v,r,rfl,q,h'⟩:=h.cons_inv
   intro i x e
   cases i with
   | zero=>simp at e; subst e; exact ⟨v,rfl,q⟩
   | succ i=>simp at e; obtain ⟨u,e1,e2⟩:=ih h' e; exact ⟨u,by simpa using e1,e2⟩
theorem bS.JW {xs:List PV} {vs:List V} (h:bS K S xs vs) {i:Nat} {v:V} (e:vs[i]? = some v):∃ x,xs[i]? = some x /\ Rep K S x v:=by
 have hi:i < xs.length:=by rw [<- h.length]; exact (List.getElem?_eq_some_iff.mp e).1
 obtain ⟨u,e1,e2⟩:=h.get (i:=i) (x:=xs[i]) (by simp [hi])
 rw [e] at e1; cases e1
 exact ⟨_,by simp [hi],e2⟩
theorem bS.take {xs:List PV} {vs:List V} (h:bS K S xs vs):∀ n,bS K S (xs.take n) (vs.take n):=by
 induction xs generalizing vs with
 | nil=>intro n; rw [h.nil_inv]; simpa using bS.nil
 | cons y xs ih=>
   obtain ⟨v,r,rfl,q,h'⟩:=h.cons_inv
   intro n
   cases n with
   | zero=>exact .nil
   | succ n=>exact .cons q (ih h' n)
theorem bS.drop {xs:List PV} {vs:List V} (h:bS K S xs vs):∀ n,bS K S (xs.drop n) (vs.drop n):=by
 induction xs generalizing vs with
 | nil=>intro n; rw [h.nil_inv]; simpa using bS.nil
 | cons y xs ih=>
   obtain ⟨v,r,rfl,q,h'⟩:=h.cons_inv
   intro n
   cases n with
   | zero=>exact .cons q h'
   | succ n=>exact ih h' n
theorem bS.ints {ns:List Int}:bS K S (ns.map .int) (ns.map V.int):=by
 induction ns with
 | nil=>exact .nil
 | cons n ns ih=>exact .cons (by unfold Rep; rfl) ih
theorem bS.wN {ns:List Int} {vs:List V} (h:bS K S (ns.map .int) vs):vs = ns.map V.int:=by
 induction ns generalizing vs with
 | nil=>exact h.nil_inv
 | cons n ns ih=>
   obtain ⟨v,r,rfl,q,h'⟩:=h.cons_inv
   unfold Rep at q
   rw [ih h',q]; rfl
theorem bS.set {xs:List PV} {vs:List V} {x:PV} {v:V} (h:bS K S xs vs) (q:Rep K S x v):∀ i,bS K S (xs.set i x) (vs.set i v):=by
 induction xs generalizing vs with
 | nil=>intro i; rw [h.nil_inv]; exact .nil
 | cons y xs ih=>
   obtain ⟨u,r,rfl,qu,h'⟩:=h.cons_inv
   intro i
   cases i with
   | zero=>exact .cons q h'
   | succ i=>exact .cons qu (ih h' i)
end
end L2.P
namespace L2.P
open PySem PySem.Spec PyProof.Rows L2 L2.E
noncomputable def n5 (K:PySem.W.Frag) (cls:String -> Option Addr) (S H:Hp) (c:String) (fs:XF) (a C:Addr):Prop:=
 cls c = some C /\ ∃ dx,H a = some (oN a C dx) /\ (fs = [] \/ ∃ d us,dx = some d /\ H d = some (.xd us) /\ fs.map (·.1) = us.map (·.1) /\ bS K S (fs.map (·.2)) (us.map (·.2)))
noncomputable def isX:HO -> Bool
 | .ext _=>true
 | .xd _=>true
 | _=>false
noncomputable def uU (K:PySem.W.Frag) (S:Hp) (kvs:List (Int × PV)) (us:List (Key × V)):Prop:=Paired (fun (p:Int × PV) (q:Key × V)=>q.1 = Sum.inl p.1 /\ Rep K S p.2 q.2) kvs us
noncomputable def wO (K:PySem.W.Frag) (S:Hp) (kvs:List (List Int × PV)) (us:List (List Key × V)):Prop:=Paired (fun (p:List Int × PV) (q:List Key × V)=>q.1 = p.1.map Sum.inl /\ Rep K S p.2 q.2) kvs us
theorem uU.mono {K:PySem.W.Frag} {S S':Hp} (s:aK S S'):∀ {kvs:List (Int × PV)} {us:List (Key × V)},uU K S kvs us -> uU K S' kvs us
 | _,_,.nil=>.nil
 | _,_,.cons h t=>.cons ⟨h.1,Rep.mono s h.2⟩ (uU.mono s t)
theorem wO.mono {K:PySem.W.Frag} {S S':Hp} (s:aK S S'):∀ {kvs:List (List Int × PV)} {us:List (List Key × V)},wO K S kvs us -> wO K S' kvs us
 | _,_,.nil=>.nil
 | _,_,.cons h t=>.cons ⟨h.1,Rep.mono s h.2⟩ (wO.mono s t)
mutual
noncomputable def bI (K:PySem.W.Frag) (cls:String -> Option Addr) (S H:Hp):OV -> V -> List Addr -> Prop
 | .sh x,v,fp=>fp = [] /\ Rep K S x v
 | .ol ts,v,fp=>∃ p vs f,v = .ref p /\ H p = some (.lst vs) /\ fp = p ::f /\ bQ K cls S H ts vs f
 | .ob c ks ts,v,fp=>∃ p C dx us f,v = .ref p /\ cls c = some C /\ H p = some (.ins C dx us) /\ H dx = some (.own p) /\ us.map (·.1) = ks /\ fp = p ::dx ::f /\ bQ K cls S H ts (us.map (·.2)) f
 | .di kvs,v,fp=>∃ p us,v = .ref p /\ H p = some (.dK us) /\ fp = [p] /\ uU K S kvs us
 | .dt kvs,v,fp=>∃ p us,v = .ref p /\ H p = some (.dT us) /\ fp = [p] /\ wO K S kvs us
noncomputable def bQ (K:PySem.W.Frag) (cls:String -> Option Addr) (S H:Hp):List OV -> List V -> List Addr -> Prop
 | [],vs,fp=>vs = [] /\ fp = []
 | t ::ts,vs,fp=>∃ v r f1 f2,vs = v ::r /\ fp = f1 ++ f2 /\ bI K cls S H t v f1 /\ bQ K cls S H ts r f2
end
noncomputable def q9 (K:PySem.W.Frag) (cls:String -> Option Addr) (Av G S H:Hp) (i:Nat):Sl -> V -> List Addr -> Prop
 | .sh x,v,fp=>fp = [] /\ Rep K S x v
 | .ow xs,v,fp=>∃ p vs,v = .ref p /\ fp = [p] /\ G p = none /\ S p = none /\ H p = some (.lst vs) /\ bS K S xs vs
 | .ex c fs,v,fp=>fp = [] /\ ∃ a C,v = .ref a /\ n5 K cls S H c fs a C
 | .tr io t,v,fp=>bI K cls S H t v fp /\ fp.Nodup /\ (∀ a ∈ fp,G a = none /\ S a = none) /\ (io = true -> Av i = some (.lst [v]))
 | .bo t,v,fp=>fp = [] /\ ∃ f,bI K cls S G t v f
noncomputable def F0 (K:PySem.W.Frag) (cls:String -> Option Addr) (G S H:Hp):Sl -> V -> Prop
 | .sh x,v=>Rep K S x v
 | .ow xs,v=>∃ p vs,v = .ref p /\ G p = none /\ S p = none /\ H p = some (.lst vs) /\ bS K S xs vs
 | .ex c fs,v=>∃ a C,v = .ref a /\ n5 K cls S H c fs a C
 | _,_=>True
noncomputable def mm (K:PySem.W.Frag) (B S H:Hp):RV -> V -> Prop
 | .sh x,v=>Rep K S x v
 | .fr xs,v=>∃ p vs,v = .ref p /\ B p = none /\ S p = none /\ H p = some (.lst vs) /\ bS K S xs vs
 | .al xs,v=>∃ p vs,v = .ref p /\ SqL K H p vs /\ bS K S xs vs
noncomputable def RdV (K:PySem.W.Frag) (S H:Hp):PV -> V -> Prop
 | .lst xs,v=>∃ p vs,v = .ref p /\ SqL K H p vs /\ bS K S xs vs
 | x,v=>Rep K S x v
structure SRF (K:PySem.W.Frag) (cls:String -> Option Addr) (Av G S₀:Hp) (ρ:ag) (σ:St) (S H:Hp) (F:Nat -> List Addr):Prop where
 gh:aK G H
 s0:aK S₀ S
 sh:aK S H
 new:∀ b,S b ≠ none -> S₀ b ≠ none \/ G b = none
 own:∀ (i:Nat) (s:Sl),ρ[i]? = some (some s) -> ∃ v,σ[i]? = some (some v) /\ q9 K cls Av G S H i s v (F i)
 apart:∀ i j a,a ∈ F i -> a ∈ F j -> i = j
 live:∀ i a,a ∈ F i -> (∃ o,H a = some o /\ isX o = false) /\ G a = none /\ S a = none
 len:ρ.length = σ.length
noncomputable def SR (K:PySem.W.Frag) (cls:String -> Option Addr) (Av G S₀:Hp) (ρ:ag) (σ:St) (S H:Hp):Prop:=∃ F,SRF K cls Av G S₀ ρ σ S H F
section
variable {K:PySem.W.Frag} {cls:String -> Option Addr} {Av G S₀ S S' H H' B:Hp} {ρ:ag} {σ:St} {F:Nat -> List Addr}
theorem SR.gh (I:SR K cls Av G S₀ ρ σ S H):aK G H:=let ⟨_,J⟩:=I; J.gh
theorem SR.s0 (I:SR K cls Av G S₀ ρ σ S H):aK S₀ S:=let ⟨_,J⟩:=I; J.s0
theorem SR.sh (I:SR K cls Av G S₀ ρ σ S H):aK S H:=let ⟨_,J⟩:=I; J.sh
theorem SR.new (I:SR K cls Av G S₀ ρ σ S H):∀ b,S b ≠ none -> S₀ b ≠ none \/ G b = none:=let ⟨_,J⟩:=I; J.new
theorem SR.len (I:SR K cls Av G S₀ ρ σ S H):ρ.length = σ.length:=let ⟨_,J⟩:=I; J.len
theorem q9.one {i:Nat} {s:Sl} {v:V} {fp:List Addr} (h:q9 K cls Av G S H i s v fp):F0 K cls G S H s v:=by
 cases s with
 | sh x=>exact h.2
 | ow xs=>obtain ⟨p,vs,e,_,r⟩:=h; exact ⟨p,vs,e,r⟩
 | ex c fs=>exact h.2
 | tr io t=>trivial
 | bo t=>trivial
theorem SR.good (I:SR K cls Av G S₀ ρ σ S H) (i:Nat) (s:Sl) (e:ρ[i]? = some (some s)):∃ v,σ[i]? = some (some v) /\ F0 K cls G S H s v:=by
 obtain ⟨F,J⟩:=I
 obtain ⟨v,e1,r⟩:=J.own i s e
 exact ⟨v,e1,r.one⟩
theorem n5.mono {c:String} {fs:XF} {a C:Addr} (h:n5 K cls S H c fs a C) (s:aK S S') (g:aK H H'):n5 K cls S' H' c fs a C:=by
 obtain ⟨h1,dx,h2,h3⟩:=h
 refine ⟨h1,dx,g _ _ h2,?_⟩
 rcases h3 with h3 | ⟨d,us,e1,e2,e3,e4⟩
 . exact .inl h3
 . exact .inr ⟨d,us,e1,g _ _ e2,e3,e4.mono s⟩
theorem n5.Js {c:String} {fs:XF} {a C:Addr} (h:n5 K cls S H c fs a C) (s:aK S S') (g:∀ b o,isX o = true -> H b = some o -> H' b = some o):n5 K cls S' H' c fs a C:=by
 obtain ⟨h1,dx,h2,h3⟩:=h
 refine ⟨h1,dx,g _ _ rfl h2,?_⟩
 rcases h3 with h3 | ⟨d,us,e1,e2,e3,e4⟩
 . exact .inl h3
 . exact .inr ⟨d,us,e1,g _ _ rfl e2,e3,e4.mono s⟩
mutual
theorem bI.mono (s:aK S S'):∀ {t:OV} {v:V} {fp:List Addr},bI K cls S H t v fp -> (∀ a ∈ fp,∀ o,H a = some o -> H' a = some o) -> bI K cls S' H' t v fp
 | .sh _,_,_,h,_=>by unfold bI at h ⊢; exact ⟨h.1,Rep.mono s h.2⟩
 | .ol _,_,_,h,g=>by
   unfold bI at h ⊢
   obtain ⟨p,vs,f,e,q,e2,r⟩:=h
   subst e2
   exact ⟨p,vs,f,e,g p (by simp) _ q,rfl,bQ.mono s r fun a ha=>g a (by simp [ha])⟩
 | .ob _ _ _,_,_,h,g=>by
   unfold bI at h ⊢
   obtain ⟨p,C,dx,us,f,e,c,q,q2,k,e2,r⟩:=h
   subst e2
   exact ⟨p,C,dx,us,f,e,c,g p (by simp) _ q,g dx (by simp) _ q2,k,rfl,bQ.mono s r fun a ha=>g a (by simp [ha])⟩
 | .di _,_,_,h,g=>by
   unfold bI at h ⊢
   obtain ⟨p,us,e,q,e2,r⟩:=h
   subst e2
   exact ⟨p,us,e,g p (by simp) _ q,rfl,r.mono s⟩
 | .dt _,_,_,h,g=>by
   unfold bI at h ⊢
   obtain ⟨p,us,e,q,e2,r⟩:=h
   subst e2
   exact ⟨p,us,e,g p (by simp) _ q,rfl,r.mono s⟩
theorem bQ.mono (s:aK S S'):∀ {ts:List OV} {vs:List V} {fp:List Addr},bQ K cls S H ts vs fp -> (∀ a ∈ fp,∀ o,H a = some o -> H' a = some o) -> bQ K cls S' H' ts vs fp
 | [],_,_,h,_=>by unfold bQ at h ⊢; exact h
 | _ ::_,_,_,h,g=>by
   unfold bQ at h ⊢
   obtain ⟨v,r,f1,f2,e,e2,q,t⟩:=h
   subst e2
   exact ⟨v,r,f1,f2,e,rfl,bI.mono s q fun a ha=>g a (List.mem_append_left _ ha),bQ.mono s t fun a ha=>g a (List.mem_append_right _ ha)⟩
end
mutual
theorem bI.live:∀ {t:OV} {v:V} {fp:List Addr},bI K cls S H t v fp -> ∀ a ∈ fp,∃ o,H a = some o /\ isX o = false
 | .sh _,_,_,h,a,ha=>by unfold bI at h; rw [h.1] at ha; cases ha
 | .ol _,_,_,h,a,ha=>by
   unfold bI at h
   obtain ⟨p,vs,f,e,q,e2,r⟩:=h
   subst e2
   rcases List.mem_cons.mp ha with z | z
   . subst z; exact ⟨_,q,rfl⟩
   . exact bQ.live r a z
 | .ob _ _ _,_,_,h,a,ha=>by
   unfold bI at h
   obtain ⟨p,C,dx,us,f,e,c,q,q2,k,e2,r⟩:=h
   subst e2
   rcases List.mem_cons.mp ha with z | z
   . subst z; exact ⟨_,q,rfl⟩
   . rcases List.mem_cons.mp z with z | z
     . subst z; exact ⟨_,q2,rfl⟩
     . exact bQ.live r a z
 | .di _,_,_,h,a,ha=>by
   unfold bI at h
   obtain ⟨p,us,e,q,e2,r⟩:=h
   subst e2
   have z:a = p:=by simpa using ha
   subst z
   exact ⟨_,q,rfl⟩
 | .dt _,_,_,h,a,ha=>by
   unfold bI at h
   obtain ⟨p,us,e,q,e2,r⟩:=h
   subst e2
   have z:a = p:=by simpa using ha
   subst z
   exact ⟨_,q,rfl⟩
theorem bQ.live:∀ {ts:List OV} {vs:List V} {fp:List Addr},bQ K cls S H ts vs fp -> ∀ a ∈ fp,∃ o,H a = some o /\ isX o = false
 | [],_,_,h,a,ha=>by unfold bQ at h; rw [h.2] at ha; cases ha
 | _ ::_,_,_,h,a,ha=>by
   unfold bQ at h
   obtain ⟨v,r,f1,f2,e,e2,q,t⟩:=h
   subst e2
   rcases List.mem_append.mp ha with z | z
   . exact bI.live q a z
   . exact bQ.live t a z
end
theorem q9.mono {i:Nat} {sl:Sl} {v:V} {fp:List Addr} (h:q9 K cls Av G S H i sl v fp) (s:aK S S') (g:∀ a ∈ fp,∀ o,H a = some o -> H' a = some o) (x:∀ b o,isX o = true -> H b = some o -> H' b = some o) (n:∀ a ∈ fp,S' a = none):q9 K cls Av G S' H' i sl v fp:=by
 cases sl with
 | sh y=>exact ⟨h.1,Rep.mono s h.2⟩
 | ow xs=>
   obtain ⟨p,vs,e,e2,h1,h2,h3,h4⟩:=h
   subst e2
   exact ⟨p,vs,e,rfl,h1,n p (by simp),g p (by simp) _ h3,h4.mono s⟩
 | ex c fs=>obtain ⟨e,a,C,e2,q⟩:=h; exact ⟨e,a,C,e2,q.Js s x⟩
 | tr io t=>exact ⟨h.1.mono s g,h.2.1,fun a ha=>⟨(h.2.2.1 a ha).1,n a ha⟩,h.2.2.2⟩
 | bo t=>obtain ⟨e,f,r⟩:=h; exact ⟨e,f,r.mono s fun _ _ _ z=>z⟩
theorem RdV.mono {x:PV} {v:V} (h:RdV K S H x v) (s:aK S S') (g:aK H H'):RdV K S' H' x v:=by
 cases x with
 | lst xs=>obtain ⟨p,vs,e,q,r⟩:=h; exact ⟨p,vs,e,aK.seq g q,r.mono s⟩
 | non=>exact Rep.mono s h
 | bl b=>exact Rep.mono s h
 | int i=>exact Rep.mono s h
 | str x=>exact Rep.mono s h
 | tup xs=>exact Rep.mono s h
theorem Rep.rd {x:PV} {v:V} (h:Rep K S x v) (g:aK S H):RdV K S H x v:=by
 cases x with
 | lst xs=>unfold Rep at h; obtain ⟨p,vs,e,q,r⟩:=h; exact ⟨p,vs,e,aK.seq g q,r⟩
 | non=>exact h
 | bl b=>exact h
 | int i=>exact h
 | str x=>exact h
 | tup xs=>exact h
theorem mm.rd {r:RV} {v:V} (h:mm K B S H r v) (g:aK S H):RdV K S H r.pv v:=by
 cases r with
 | sh x=>exact Rep.rd h g
 | fr xs=>obtain ⟨p,vs,e,_,_,q,r⟩:=h; exact ⟨p,vs,e,SqL.new q,r⟩
 | al xs=>exact h
theorem SRF.change (I:SRF K cls Av G S₀ ρ σ S H F) (gh:aK G H') (s:aK S S') (sh:aK S' H') (new:∀ b,S' b ≠ none -> S₀ b ≠ none \/ G b = none)
  (g:∀ i a,a ∈ F i -> ∀ o,H a = some o -> H' a = some o) (x:∀ b o,isX o = true -> H b = some o -> H' b = some o) (n:∀ i a,a ∈ F i -> S' a = none):SRF K cls Av G S₀ ρ σ S' H' F where
 gh:=gh
 s0:=I.s0.trans s
 sh:=sh
 new:=new
 own:=fun i t e=>by
  obtain ⟨v,e1,r⟩:=I.own i t e
  exact ⟨v,e1,r.mono s (fun a ha=>g i a ha) x fun a ha=>n i a ha⟩
 apart:=I.apart
 live:=fun i a ha=>by
  obtain ⟨⟨o,h1,h2⟩,h3,_⟩:=I.live i a ha
  exact ⟨⟨o,g i a ha o h1,h2⟩,h3,n i a ha⟩
 len:=I.len
theorem SRF.same (I:SRF K cls Av G S₀ ρ σ S H F) (g:aK H H'):SRF K cls Av G S₀ ρ σ S H' F:=
 I.change (I.gh.trans g) (aK.refl _) (I.sh.trans g) I.new (fun _ _ _ o e=>g _ _ e) (fun _ _ _ e=>g _ _ e) fun i a ha=>(I.live i a ha).2.2
theorem SR.same (I:SR K cls Av G S₀ ρ σ S H) (g:aK H H'):SR K cls Av G S₀ ρ σ S H':=let ⟨F,J⟩:=I; ⟨F,J.same g⟩
theorem set_inv {α:Type} {l:List (Option α)} {i j:Nat} {x:Option α} {s:α} (h:(l.set i x)[j]? = some (some s)):(j = i /\ x = some s /\ i < l.length) \/ (j ≠ i /\ l[j]? = some (some s)):=by
 by_cases e:j = i
 . subst e
   rw [List.getElem?_set] at h
   simp only [if_true] at h
   split at h
   . rename_i hl
     exact .inl ⟨rfl,Option.some.inj h,hl⟩
   . cases h
 . rw [List.getElem?_set_ne (Ne.symm e)] at h
   exact .inr ⟨e,h⟩
theorem HS {α:Type} {l:List (Option α)} {i:Nat} {x:Option α} (h:i < l.length):(l.set i x)[i]? = some x:=by
 rw [List.getElem?_set]; simp [h]
noncomputable def oK (F:Nat -> List Addr) (i:Nat) (fp:List Addr):Nat -> List Addr:=fun j=>if j = i then fp else F j
theorem ka {i:Nat} {fp:List Addr}:oK F i fp i = fp:=by unfold oK; rw [if_pos rfl]
theorem gw {i j:Nat} {fp:List Addr} (h:j ≠ i):oK F i fp j = F j:=by unfold oK; rw [if_neg h]
theorem SRF.put {i:Nat} {s:Option Sl} {u:Option V} {fp:List Addr} (I:SRF K cls Av G S₀ ρ σ S H F) (h:∀ t,s = some t -> ∃ v,u = some v /\ q9 K cls Av G S H i t v fp)
  (hl:∀ a ∈ fp,(∃ o,H a = some o /\ isX o = false) /\ G a = none /\ S a = none) (ap:∀ j a,j ≠ i -> a ∈ fp -> a ∉ F j):SRF K cls Av G S₀ (ρ.set i s) (σ.set i u) S H (oK F i fp) where
 gh:=I.gh
 s0:=I.s0
 sh:=I.sh
 new:=I.new
 own:=fun j t e=>by
  rcases set_inv e with ⟨rfl,e1,hl⟩ | ⟨ne,e1⟩
  . obtain ⟨v,e2,r⟩:=h t e1
    exact ⟨v,by rw [HS (by rw [<- I.len]; exact hl),e2],by rw [ka]; exact r⟩
  . rw [List.getElem?_set_ne (Ne.symm ne),gw ne]
    exact I.own j t e1
 apart:=fun j k a h1 h2=>by
  by_cases ej:j = i
  . by_cases ek:k = i
    . rw [ej,ek]
    . subst ej; rw [ka] at h1; rw [gw ek] at h2; exact absurd h2 (ap k a ek h1)
  . by_cases ek:k = i
    . subst ek; rw [ka] at h2; rw [gw ej] at h1; exact absurd h1 (ap j a ej h2)
    . rw [gw ej] at h1; rw [gw ek] at h2; exact I.apart j k a h1 h2
 live:=fun j a ha=>by
  by_cases ej:j = i
  . subst ej; rw [ka] at ha; exact hl a ha
  . rw [gw ej] at ha; exact I.live j a ha
 len:=by simp [I.len]
theorem SR.wM {i:Nat} {x:PV} {v:V} (I:SR K cls Av G S₀ ρ σ S H) (h:Rep K S x v):SR K cls Av G S₀ (ρ.set i (some (.sh x))) (σ.set i (some v)) S H:=by
 obtain ⟨F,J⟩:=I
 exact ⟨_,J.put (fp:=[]) (fun t e=>by cases e; exact ⟨v,rfl,rfl,h⟩) (fun a ha=>nomatch ha) fun j a _ ha=>nomatch ha⟩
theorem SR.zG {i:Nat} {v:Option V} (I:SR K cls Av G S₀ ρ σ S H):SR K cls Av G S₀ (ρ.set i none) (σ.set i v) S H:=by
 obtain ⟨F,J⟩:=I
 exact ⟨_,J.put (fp:=[]) (fun t e=>nomatch e) (fun a ha=>nomatch ha) fun j a _ ha=>nomatch ha⟩
theorem lV {α:Type} {l:List α} {i:Nat} {x:α} (h:l[i]? = some x):l.set i x = l:=by
 apply List.ext_getElem?
 intro j
 by_cases e:i = j
 . subst e; rw [List.getElem?_set,if_pos rfl,if_pos (List.getElem?_eq_some_iff.mp h).1,h]
 . rw [List.getElem?_set_ne e]
theorem SR.drop {i:Nat} (I:SR K cls Av G S₀ ρ σ S H):SR K cls Av G S₀ (ρ.set i none) σ S H:=by
 cases e:σ[i]? with
 | some v=>have:=I.zG (i:=i) (v:=v); rwa [lV e] at this
 | none=>
   have h1:σ.length <= i:=List.getElem?_eq_none_iff.mp e
   rw [List.set_eq_of_length_le (by rw [I.len]; exact h1)]
   exact I
theorem SR.Jc {i:Nat} {c:String} {fs:XF} {a C:Addr} (I:SR K cls Av G S₀ ρ σ S H) (h:n5 K cls S H c fs a C):SR K cls Av G S₀ (ρ.set i (some (.ex c fs))) (σ.set i (some (.ref a))) S H:=by
 obtain ⟨F,J⟩:=I
 exact ⟨_,J.put (fp:=[]) (fun t e=>by cases e; exact ⟨.ref a,rfl,rfl,a,C,rfl,h⟩) (fun a ha=>nomatch ha) fun j a _ ha=>nomatch ha⟩
theorem SR.mut {i:Nat} {xs ys:List PV} {p:Addr} {us:List V} (I:SR K cls Av G S₀ ρ σ S H) (hi:ρ[i]? = some (some (.ow xs))) (hv:σ[i]? = some (some (.ref p))) (hr:bS K S ys us):SR K cls Av G S₀ (ρ.set i (some (.ow ys))) σ S (upd H p (.lst us)):=by
 obtain ⟨F,J⟩:=I
 obtain ⟨v,e1,q,vs,e2,e3,hG,hS,hH,_⟩:=J.own i _ hi
 rw [hv] at e1
 cases e1
 cases e2
 have J1:SRF K cls Av G S₀ (ρ.set i none) (σ.set i none) S H (oK F i []):=J.put (fun t e=>nomatch e) (fun a ha=>nomatch ha) fun j a _ ha=>nomatch ha
 have off:∀ j a,a ∈ oK F i [] j -> a ≠ p:=fun j a ha z=>by
  by_cases ej:j = i
  . subst ej; rw [ka] at ha; cases ha
  . rw [gw ej] at ha
    exact ej (J.apart j i a ha (by rw [e3,z]; simp))
 have J2:=J1.change (H':=upd H p (.lst us)) (J.gh.upd hG) (aK.refl _) (J.sh.upd hS) J.new (fun j a ha o h=>by rw [bb (off j a ha)]; exact h)
  (fun b o hx h=>by
    rw [bb]
    . exact h
    . intro z; rw [z,hH] at h; cases h; cases hx)
  fun j a ha=>(J1.live j a ha).2.2
 have J3:=J2.put (i:=i) (s:=some (.ow ys)) (u:=some (.ref p)) (fp:=[p]) (fun t e=>by cases e; exact ⟨_,rfl,p,us,rfl,rfl,hG,hS,bc,hr⟩) (fun a ha=>by
  have z:a = p:=by simpa using ha
  subst z
  exact ⟨⟨_,bc,rfl⟩,hG,hS⟩) fun j a hj ha hz=>by
   have z:a = p:=by simpa using ha
   exact off j a hz z
 rw [List.set_set,List.set_set,lV hv] at J3
 exact ⟨_,J3⟩
theorem SR.Jf {i:Nat} {xs:List PV} (I:SR K cls Av G S₀ ρ σ S H) (hi:ρ[i]? = some (some (.ow xs))):∃ S',aK S S' /\ SR K cls Av G S₀ (ρ.set i (some (.sh (.lst xs)))) σ S' H:=by
 obtain ⟨F,J⟩:=I
 obtain ⟨v,hv,p,vs,e2,e3,hG,hS,hH,hr⟩:=J.own i _ hi
 subst e2
 have J1:SRF K cls Av G S₀ (ρ.set i none) (σ.set i none) S H (oK F i []):=J.put (fun t e=>nomatch e) (fun a ha=>nomatch ha) fun j a _ ha=>nomatch ha
 have off:∀ j a,a ∈ oK F i [] j -> a ≠ p:=fun j a ha z=>by
  by_cases ej:j = i
  . subst ej; rw [ka] at ha; cases ha
  . rw [gw ej] at ha
    exact ej (J.apart j i a ha (by rw [e3,z]; simp))
 have J2:=J1.change (S':=upd S p (.lst vs)) (H':=H) J.gh (aK.new hS) (fun b u h=>by
   by_cases e:b = p
   . subst e; rw [bc] at h; cases h; exact hH
   . rw [bb e] at h; exact J.sh b u h) (fun b h=>by
   by_cases e:b = p
   . subst e; exact .inr hG
   . rw [bb e] at h; exact J.new b h) (fun _ _ _ _ h=>h) (fun _ _ _ h=>h) fun j a ha=>by
     rw [bb (off j a ha)]; exact (J1.live j a ha).2.2
 have J3:=J2.put (i:=i) (s:=some (.sh (.lst xs))) (u:=some (.ref p)) (fp:=[]) (fun t e=>by
  cases e
  refine ⟨_,rfl,rfl,?_⟩
  unfold Rep
  exact ⟨p,vs,rfl,SqL.new bc,hr.mono (aK.new hS)⟩) (fun a ha=>nomatch ha) fun j a _ ha=>nomatch ha
 rw [List.set_set,List.set_set,lV hv] at J3
 exact ⟨_,aK.new hS,_,J3⟩
end
end L2.P
namespace L2.P
open PySem PySem.Spec PyProof.Rows L2 L2.E
structure bw (S H S' H':Hp):Prop where
 s:aK S S'
 g:aK H H'
 sh:aK S' H'
 new:∀ b,S' b ≠ none -> S b ≠ none \/ H b = none
theorem bw.refl {S H:Hp} (h:aK S H):bw S H S H:=⟨aK.refl _,aK.refl _,h,fun _ z=>.inl z⟩
theorem bw.trans {S H S1 H1 S2 H2:Hp} (a:bw S H S1 H1) (b:bw S1 H1 S2 H2):bw S H S2 H2:=
 ⟨a.s.trans b.s,a.g.trans b.g,b.sh,fun x h=>by
   rcases b.new x h with z | z
   . exact a.new x z
   . exact .inr (a.g.free z)⟩
theorem SRF.grow {K:PySem.W.Frag} {cls:String -> Option Addr} {Av G S₀ S S' H H':Hp} {ρ:ag} {σ:St} {F:Nat -> List Addr} (I:SRF K cls Av G S₀ ρ σ S H F) (w:bw S H S' H'):SRF K cls Av G S₀ ρ σ S' H' F:=
 I.change (I.gh.trans w.g) w.s w.sh (fun b h=>by
  rcases w.new b h with z | z
  . exact I.new b z
  . exact .inr (I.gh.free z)) (fun i a _ o h=>w.g _ _ h) (fun b o _ h=>w.g _ _ h) fun i a ha=>by
    obtain ⟨⟨o,h1,_⟩,_,h3⟩:=I.live i a ha
    cases q:S' a with
    | none=>rfl
    | some o=>
      rcases w.new a (by rw [q]; simp) with z | z
      . exact absurd h3 z
      . rw [h1] at z; cases z
theorem SR.grow {K:PySem.W.Frag} {cls:String -> Option Addr} {Av G S₀ S S' H H':Hp} {ρ:ag} {σ:St} (I:SR K cls Av G S₀ ρ σ S H) (w:bw S H S' H'):SR K cls Av G S₀ ρ σ S' H':=let ⟨F,J⟩:=I; ⟨F,J.grow w⟩
theorem SR.Ja {K:PySem.W.Frag} {cls:String -> Option Addr} {Av G S₀ S S' H H':Hp} {ρ:ag} {σ:St} {i:Nat} {xs:List PV} {v:V} (I:SR K cls Av G S₀ ρ σ S H) (w:bw S H S' H') (h:mm K H S' H' (.fr xs) v):SR K cls Av G S₀ (ρ.set i (some (.ow xs))) (σ.set i (some v)) S' H':=by
 obtain ⟨F,J⟩:=I
 obtain ⟨p,vs,rfl,hB,hS,hH,hr⟩:=h
 have hG:=J.gh.free hB
 refine ⟨_,(J.grow w).put (fp:=[p]) (fun t e=>by cases e; exact ⟨_,rfl,p,vs,rfl,rfl,hG,hS,hH,hr⟩) (fun a ha=>?_) fun j a _ ha hz=>?_⟩
 . have z:a = p:=by simpa using ha
   subst z
   exact ⟨⟨_,hH,rfl⟩,hG,hS⟩
 . have z:a = p:=by simpa using ha
   subst z
   obtain ⟨⟨o,h1,_⟩,_⟩:=J.live j a hz
   rw [hB] at h1; cases h1
theorem bw.heap {S H:Hp} {p:Addr} {o:HO} (h:aK S H) (hp:H p = none):bw S H S (upd H p o):=⟨aK.refl _,aK.new hp,h.trans (aK.new hp),fun _ z=>.inl z⟩
theorem bw.both {S H:Hp} {p:Addr} {o:HO} (h:aK S H) (hp:H p = none):bw S H (upd S p o) (upd H p o):=by
 have hS:=h.free hp
 refine ⟨aK.new hS,aK.new hp,fun b u z=>?_,fun b z=>?_⟩
 . by_cases e:b = p
   . subst e; rw [bc] at z ⊢; exact z
   . rw [bb e] at z ⊢; exact h b u z
 . by_cases e:b = p
   . subst e; exact .inr hp
   . rw [bb e] at z; exact .inl z
section
variable (K:PySem.W.Frag) (cls:String -> Option Addr) (W:XW)
noncomputable def lr (σ:St) (S H:Hp) (Q:VK):OE -> Prop
 | .ok r=>∀ v S' H',bw S H S' H' -> mm K H S' H' r v -> Q v H'
 | .exc c fs=>∀ a C S' H',bw S H S' H' -> n5 K cls S' H' c fs a C -> W (.ref C) (some a) σ H'
 | .bad=>False
noncomputable def qI (σ:St) (S H:Hp) (Q:Bool -> Hp -> Prop):OT -> Prop
 | .ok b=>∀ S' H',bw S H S' H' -> Q b H'
 | .exc c fs=>∀ a C S' H',bw S H S' H' -> n5 K cls S' H' c fs a C -> W (.ref C) (some a) σ H'
 | .bad=>False
noncomputable def uk (σ:St) (S H:Hp) (Q:List V -> Hp -> Prop):OA -> Prop
 | .ok xs=>∀ vs S' H',bw S H S' H' -> bS K S' xs vs -> Q vs H'
 | .exc c fs=>∀ a C S' H',bw S H S' H' -> n5 K cls S' H' c fs a C -> W (.ref C) (some a) σ H'
 | .bad=>False
noncomputable def i6 (Av G S₀:Hp) (S:Hp) (D:Ends):OS -> Prop
 | .nx ρ=>∀ σ' S' H',SR K cls Av G S₀ ρ σ' S' H' -> aK S S' -> D.nx σ' H'
 | .bk ρ=>∀ σ' S' H',SR K cls Av G S₀ ρ σ' S' H' -> aK S S' -> D.bk σ' H'
 | .ct ρ=>∀ σ' S' H',SR K cls Av G S₀ ρ σ' S' H' -> aK S S' -> D.ct σ' H'
 | .rt ρ r=>∀ v σ' S' H',SR K cls Av G S₀ ρ σ' S' H' -> aK S S' -> mm K G S' H' r v -> D.rt v H'
 | .exc ρ c fs=>∀ a C σ' S' H',SR K cls Av G S₀ ρ σ' S' H' -> aK S S' -> n5 K cls S' H' c fs a C -> W (.ref C) (some a) σ' H'
 | .bad=>False
noncomputable def JE (te:TE) (m:ag -> OE):Prop:=∀ Av G S₀ ρ σ S H Q,SR K cls Av G S₀ ρ σ S H -> lr K cls W σ S H Q (m ρ) -> te σ H Q
noncomputable def JT (te:TT) (m:ag -> OT):Prop:=∀ Av G S₀ ρ σ S H Q,SR K cls Av G S₀ ρ σ S H -> qI K cls W σ S H Q (m ρ) -> te σ H Q
noncomputable def JA (te:TA) (m:ag -> OA):Prop:=∀ Av G S₀ ρ σ S H Q,SR K cls Av G S₀ ρ σ S H -> uk K cls W σ S H Q (m ρ) -> te σ H Q
noncomputable def JS (ts:TS) (m:ag -> OS):Prop:=∀ Av G S₀ ρ σ S H D,SR K cls Av G S₀ ρ σ S H -> i6 K cls W Av G S₀ S D (m ρ) -> ts D σ H
end
section
variable {K:PySem.W.Frag} {cls:String -> Option Addr} {W:XW} {Av G S₀ S S' H H' B B':Hp} {ρ:ag} {σ:St} {Q:VK}
theorem mm.back {r:RV} {v:V} (h:mm K B' S H r v) (g:aK B B'):mm K B S H r v:=by
 cases r with
 | sh x=>exact h
 | fr xs=>obtain ⟨p,vs,e,h1,h2⟩:=h; exact ⟨p,vs,e,g.free h1,h2⟩
 | al xs=>exact h
theorem lr.back {o:OE} {S1 H1:Hp} (w:bw S H S1 H1) (h:lr K cls W σ S H Q o):lr K cls W σ S1 H1 Q o:=by
 cases o with
 | ok r=>exact fun v S' H' w' r=>h v S' H' (w.trans w') (r.back w.g)
 | exc c fs=>exact fun a C S' H' w' r=>h a C S' H' (w.trans w') r
 | bad=>exact h
theorem qI.back {o:OT} {Q:Bool -> Hp -> Prop} {S1 H1:Hp} (w:bw S H S1 H1) (h:qI K cls W σ S H Q o):qI K cls W σ S1 H1 Q o:=by
 cases o with
 | ok r=>exact fun S' H' w'=>h S' H' (w.trans w')
 | exc c fs=>exact fun a C S' H' w' r=>h a C S' H' (w.trans w') r
 | bad=>exact h
theorem uk.back {o:OA} {Q:List V -> Hp -> Prop} {S1 H1:Hp} (w:bw S H S1 H1) (h:uk K cls W σ S H Q o):uk K cls W σ S1 H1 Q o:=by
 cases o with
 | ok r=>exact fun v S' H' w' r=>h v S' H' (w.trans w') r
 | exc c fs=>exact fun a C S' H' w' r=>h a C S' H' (w.trans w') r
 | bad=>exact h
theorem i6.back {o:OS} {D:Ends} {S1:Hp} (s:aK S S1) (h:i6 K cls W Av G S₀ S D o):i6 K cls W Av G S₀ S1 D o:=by
 cases o with
 | nx ρ=>exact fun σ' S' H' I s'=>h σ' S' H' I (s.trans s')
 | bk ρ=>exact fun σ' S' H' I s'=>h σ' S' H' I (s.trans s')
 | ct ρ=>exact fun σ' S' H' I s'=>h σ' S' H' I (s.trans s')
 | rt ρ r=>exact fun v σ' S' H' I s'=>h v σ' S' H' I (s.trans s')
 | exc ρ c fs=>exact fun a C σ' S' H' I s'=>h a C σ' S' H' I (s.trans s')
 | bad=>exact h
theorem JE.go {te:TE} {m:ag -> OE} {f:RV -> OE} {Q':VK} (h:JE K cls W te m) (I:SR K cls Av G S₀ ρ σ S H) (p:lr K cls W σ S H Q ((m ρ).bind f))
  (k:∀ r v S1 H1,SR K cls Av G S₀ ρ σ S1 H1 -> bw S H S1 H1 -> mm K H S1 H1 r v -> lr K cls W σ S1 H1 Q (f r) -> Q' v H1):te σ H Q':=by
 refine h Av G S₀ ρ σ S H Q' I ?_
 cases e:m ρ with
 | ok r=>rw [e] at p; exact fun v S1 H1 w r1=>k r v S1 H1 (I.grow w) w r1 (p.back w)
 | exc c fs=>rw [e] at p; exact p
 | bad=>rw [e] at p; exact p
theorem JE.goT {te:TE} {m:ag -> OE} {f:RV -> OT} {Q':VK} {Q:Bool -> Hp -> Prop} (h:JE K cls W te m) (I:SR K cls Av G S₀ ρ σ S H) (p:qI K cls W σ S H Q ((m ρ).gE f))
  (k:∀ r v S1 H1,SR K cls Av G S₀ ρ σ S1 H1 -> bw S H S1 H1 -> mm K H S1 H1 r v -> qI K cls W σ S1 H1 Q (f r) -> Q' v H1):te σ H Q':=by
 refine h Av G S₀ ρ σ S H Q' I ?_
 cases e:m ρ with
 | ok r=>rw [e] at p; exact fun v S1 H1 w r1=>k r v S1 H1 (I.grow w) w r1 (p.back w)
 | exc c fs=>rw [e] at p; exact p
 | bad=>rw [e] at p; exact p
theorem JE.goS {te:TE} {m:ag -> OE} {f:RV -> OS} {Q':VK} {D:Ends} (h:JE K cls W te m) (I:SR K cls Av G S₀ ρ σ S H) (p:i6 K cls W Av G S₀ S D ((m ρ).bU ρ f))
  (k:∀ r v S1 H1,SR K cls Av G S₀ ρ σ S1 H1 -> bw S H S1 H1 -> mm K H S1 H1 r v -> i6 K cls W Av G S₀ S1 D (f r) -> Q' v H1):te σ H Q':=by
 refine h Av G S₀ ρ σ S H Q' I ?_
 cases e:m ρ with
 | ok r=>rw [e] at p; exact fun v S1 H1 w r1=>k r v S1 H1 (I.grow w) w r1 (p.back w.s)
 | exc c fs=>rw [e] at p; exact fun a C S' H' w x=>p a C σ S' H' (I.grow w) w.s x
 | bad=>rw [e] at p; exact p
theorem JT.go {te:TT} {m:ag -> OT} {f:Bool -> OE} {Q':Bool -> Hp -> Prop} (h:JT K cls W te m) (I:SR K cls Av G S₀ ρ σ S H) (p:lr K cls W σ S H Q ((m ρ).bind f))
  (k:∀ b S1 H1,SR K cls Av G S₀ ρ σ S1 H1 -> bw S H S1 H1 -> lr K cls W σ S1 H1 Q (f b) -> Q' b H1):te σ H Q':=by
 refine h Av G S₀ ρ σ S H Q' I ?_
 cases e:m ρ with
 | ok r=>rw [e] at p; exact fun S1 H1 w=>k r S1 H1 (I.grow w) w (p.back w)
 | exc c fs=>rw [e] at p; exact p
 | bad=>rw [e] at p; exact p
theorem JT.goT {te:TT} {m:ag -> OT} {f:Bool -> OT} {Q Q':Bool -> Hp -> Prop} (h:JT K cls W te m) (I:SR K cls Av G S₀ ρ σ S H) (p:qI K cls W σ S H Q ((m ρ).gE f))
  (k:∀ b S1 H1,SR K cls Av G S₀ ρ σ S1 H1 -> bw S H S1 H1 -> qI K cls W σ S1 H1 Q (f b) -> Q' b H1):te σ H Q':=by
 refine h Av G S₀ ρ σ S H Q' I ?_
 cases e:m ρ with
 | ok r=>rw [e] at p; exact fun S1 H1 w=>k r S1 H1 (I.grow w) w (p.back w)
 | exc c fs=>rw [e] at p; exact p
 | bad=>rw [e] at p; exact p
theorem JT.goS {te:TT} {m:ag -> OT} {f:Bool -> OS} {Q':Bool -> Hp -> Prop} {D:Ends} (h:JT K cls W te m) (I:SR K cls Av G S₀ ρ σ S H) (p:i6 K cls W Av G S₀ S D ((m ρ).bU ρ f))
  (k:∀ b S1 H1,SR K cls Av G S₀ ρ σ S1 H1 -> bw S H S1 H1 -> i6 K cls W Av G S₀ S1 D (f b) -> Q' b H1):te σ H Q':=by
 refine h Av G S₀ ρ σ S H Q' I ?_
 cases e:m ρ with
 | ok r=>rw [e] at p; exact fun S1 H1 w=>k r S1 H1 (I.grow w) w (p.back w.s)
 | exc c fs=>rw [e] at p; exact fun a C S' H' w x=>p a C σ S' H' (I.grow w) w.s x
 | bad=>rw [e] at p; exact p
theorem JA.go {te:TA} {m:ag -> OA} {f:List PV -> OE} {Q':List V -> Hp -> Prop} (h:JA K cls W te m) (I:SR K cls Av G S₀ ρ σ S H) (p:lr K cls W σ S H Q ((m ρ).bind f))
  (k:∀ xs vs S1 H1,SR K cls Av G S₀ ρ σ S1 H1 -> bw S H S1 H1 -> bS K S1 xs vs -> lr K cls W σ S1 H1 Q (f xs) -> Q' vs H1):te σ H Q':=by
 refine h Av G S₀ ρ σ S H Q' I ?_
 cases e:m ρ with
 | ok r=>rw [e] at p; exact fun v S1 H1 w r1=>k r v S1 H1 (I.grow w) w r1 (p.back w)
 | exc c fs=>rw [e] at p; exact p
 | bad=>rw [e] at p; exact p
theorem JA.goA {te:TA} {m:ag -> OA} {f:List PV -> OA} {Q Q':List V -> Hp -> Prop} (h:JA K cls W te m) (I:SR K cls Av G S₀ ρ σ S H) (p:uk K cls W σ S H Q ((m ρ).gj f))
  (k:∀ xs vs S1 H1,SR K cls Av G S₀ ρ σ S1 H1 -> bw S H S1 H1 -> bS K S1 xs vs -> uk K cls W σ S1 H1 Q (f xs) -> Q' vs H1):te σ H Q':=by
 refine h Av G S₀ ρ σ S H Q' I ?_
 cases e:m ρ with
 | ok r=>rw [e] at p; exact fun v S1 H1 w r1=>k r v S1 H1 (I.grow w) w r1 (p.back w)
 | exc c fs=>rw [e] at p; exact p
 | bad=>rw [e] at p; exact p
theorem JA.goS {te:TA} {m:ag -> OA} {f:List PV -> OS} {Q':List V -> Hp -> Prop} {D:Ends} (h:JA K cls W te m) (I:SR K cls Av G S₀ ρ σ S H) (p:i6 K cls W Av G S₀ S D ((m ρ).bU ρ f))
  (k:∀ xs vs S1 H1,SR K cls Av G S₀ ρ σ S1 H1 -> bw S H S1 H1 -> bS K S1 xs vs -> i6 K cls W Av G S₀ S1 D (f xs) -> Q' vs H1):te σ H Q':=by
 refine h Av G S₀ ρ σ S H Q' I ?_
 cases e:m ρ with
 | ok r=>rw [e] at p; exact fun v S1 H1 w r1=>k r v S1 H1 (I.grow w) w r1 (p.back w.s)
 | exc c fs=>rw [e] at p; exact fun a C S' H' w x=>p a C σ S' H' (I.grow w) w.s x
 | bad=>rw [e] at p; exact p
theorem af {i:Nat}:JE K cls W (qq i) (aw i):=by
 intro Av G S₀ ρ σ S H Q I p
 unfold aw at p
 split at p
 . rename_i x e
   obtain ⟨v,e1,r⟩:=I.good i _ e
   exact ⟨v,e1,p v S H (bw.refl I.sh) r⟩
 . rename_i xs e
   obtain ⟨v,e1,a,vs,e2,_,_,h3,h4⟩:=I.good i _ e
   exact ⟨v,e1,p v S H (bw.refl I.sh) ⟨a,vs,e2,SqL.new h3,h4⟩⟩
 . exact p.elim
theorem vm {x:PV} {v:V} (h:∀ S,Rep K S x v):JE K cls W (tC v) (mC x):=fun Av G S₀ ρ σ S H Q I p=>p v S H (bw.refl I.sh) (h S)
theorem ah {n:Int}:JE K cls W (tC (.int n)) (mC (.int n)):=vm fun _=>by unfold Rep; rfl
theorem zO {n:Bool}:JE K cls W (tC (.bl n)) (mC (.bl n)):=vm fun _=>by unfold Rep; rfl
theorem cY:JE K cls W (tC .non) (mC .non):=vm fun _=>by unfold Rep; rfl
theorem aP {n:Str}:JE K cls W (tC (.str n)) (mC (.str n)):=vm fun _=>by unfold Rep; rfl
theorem jE {p:Addr} {ns:List Int} (h:∀ S,SqT K S p (ns.map V.int)):JE K cls W (tC (.ref p)) (mC (.tup (ns.map .int))):=vm fun S=>by unfold Rep; exact ⟨p,_,rfl,h S,bS.ints⟩
noncomputable def JR (K:PySem.W.Frag) (r:R2) (g:PV -> PV -> Option RV):Prop:=∀ S H x y v u rr Q,aK S H -> RdV K S H x v -> RdV K S H y u -> g x y = some rr ->
 (∀ z S' H',bw S H S' H' -> mm K H S' H' rr z -> Q z H') -> r v u H Q
theorem av {r:R2} {g:PV -> PV -> Option RV} {ta tb:TE} {ma mb:ag -> OE} (hr:JR K r g) (ha:JE K cls W ta ma) (hb:JE K cls W tb mb):JE K cls W (tOp r ta tb) (mOp g ma mb):=by
 intro Av G S₀ ρ σ S H Q I p
 refine ha.go I p fun a v S1 H1 I1 w1 r1 p1=>hb.go I1 p1 fun b u S2 H2 I2 w2 r2 p2=>?_
 cases e:g a.pv b.pv with
 | none=>rw [e] at p2; exact p2.elim
 | some rr=>
   rw [e] at p2
   exact hr S2 H2 a.pv b.pv v u rr Q I2.sh ((r1.rd I1.sh).mono w2.s w2.g) (r2.rd I2.sh) e p2
theorem dv {i:Int} {v:V} (h:RdV K S H (.int i) v):v = .int i:=by unfold RdV Rep at h; exact h
theorem ni {i:Bool} {v:V} (h:RdV K S H (.bl i) v):v = .bl i:=by unfold RdV Rep at h; exact h
theorem kQ {i:Str} {v:V} (h:RdV K S H (.str i) v):v = .str i:=by unfold RdV Rep at h; exact h
theorem jy {v:V} (h:RdV K S H .non v):v = .non:=by unfold RdV Rep at h; exact h
theorem iz {xs:List PV} {v:V} (h:RdV K S H (.lst xs) v):∃ p vs,v = .ref p /\ SqL K H p vs /\ bS K S xs vs:=h
theorem my {xs:List PV} {v:V} (h:RdV K S H (.tup xs) v):∃ p vs,v = .ref p /\ SqT K S p vs /\ bS K S xs vs:=by unfold RdV Rep at h; exact h
theorem Ck {C:Int -> Int -> Prop} {c:Int -> Int -> Bool} {f:Int -> Int -> PV} {fv:Int -> Int -> V} (hc:∀ i j,c i j = true -> C i j) (hf:∀ S i j,Rep K S (f i j) (fv i j)):JR K (rI C fv) (gI c f):=by
 intro S H x y v u rr Q I hx hy e k
 unfold gI at e
 split at e
 . rename_i i j
   split at e
   . rename_i hcc
     cases e
     exact ⟨i,j,dv hx,dv hy,hc i j hcc,k _ S H (bw.refl I) (hf S i j)⟩
   . cases e
 . cases e
theorem p8 {f:Int -> Int -> PV} {fv:Int -> Int -> V} (hf:∀ S i j,Rep K S (f i j) (fv i j)):JR K (rI0 fv) (gI (fun _ _=>true) f):=by
 intro S H x y v u rr Q I hx hy e k
 unfold gI at e
 split at e
 . rename_i i j
   simp only [if_true] at e
   cases e
   exact ⟨i,j,dv hx,dv hy,k _ S H (bw.refl I) (hf S i j)⟩
 . cases e
theorem b9:JR K (rI0 fun i j=>.int (i + j)) d0:=p8 fun _ _ _=>by unfold Rep; rfl
theorem kP:JR K (rI0 fun i j=>.int (i - j)) qh:=p8 fun _ _ _=>by unfold Rep; rfl
theorem mV:JR K (rI BF fun i j=>.int (i * j)) sV:=Ck (fun i j h=>by simpa [BF,Bool.or_eq_true,Bool.and_eq_true,decide_eq_true_eq] using h) fun _ _ _=>by unfold Rep; rfl
theorem jd:JR K (rI Hq fun i j=>.int (i / j)) pT:=Ck (fun i j h=>by simpa [Hq,Bool.and_eq_true,decide_eq_true_eq] using h) fun _ _ _=>by unfold Rep; rfl
theorem fj:JR K (rI (fun _ j=>0 < j) fun i j=>.int (i % j)) kf:=Ck (fun i j h=>by simpa using h) fun _ _ _=>by unfold Rep; rfl
theorem gD:JR K (rI0 fun i j=>.bl (decide (i < j))) gLt:=p8 fun _ _ _=>by unfold Rep; rfl
theorem jI:JR K (rI0 fun i j=>.bl (decide (i <= j))) gLe:=p8 fun _ _ _=>by unfold Rep; rfl
theorem Fw:JR K (rI0 fun i j=>.bl (decide (j < i))) gGt:=p8 fun _ _ _=>by unfold Rep; rfl
theorem Dd:JR K (rI0 fun i j=>.bl (decide (j <= i))) gGe:=p8 fun _ _ _=>by unfold Rep; rfl
theorem CW {x y:PV} {v u:V} {b:Bool} (hx:RdV K S H x v) (hy:RdV K S H y u) (e:eqS x y = some b):Gi v u = true /\ decide (v = u) = b:=by
 unfold eqS at e
 split at e
 all_goals first
  | (have h1:=jy hx; subst h1; have h2:=jy hy; subst h2; cases e; exact ⟨rfl,by simp⟩)
  | (have h1:=jy hx; subst h1; have h2:=dv hy; subst h2; cases e; exact ⟨rfl,by simp⟩)
  | (have h1:=dv hx; subst h1; have h2:=jy hy; subst h2; cases e; exact ⟨rfl,by simp⟩)
  | (have h1:=jy hx; subst h1; have h2:=ni hy; subst h2; cases e; exact ⟨rfl,by simp⟩)
  | (have h1:=ni hx; subst h1; have h2:=jy hy; subst h2; cases e; exact ⟨rfl,by simp⟩)
  | (have h1:=jy hx; subst h1; have h2:=kQ hy; subst h2; cases e; exact ⟨rfl,by simp⟩)
  | (have h1:=kQ hx; subst h1; have h2:=jy hy; subst h2; cases e; exact ⟨rfl,by simp⟩)
  | (have h1:=dv hx; subst h1; have h2:=dv hy; subst h2; cases e; exact ⟨rfl,by simp⟩)
  | (have h1:=ni hx; subst h1; have h2:=ni hy; subst h2; cases e; exact ⟨rfl,by simp⟩)
  | (have h1:=kQ hx; subst h1; have h2:=kQ hy; subst h2; cases e; exact ⟨rfl,by simp⟩)
  | (have h1:=dv hx; subst h1; have h2:=kQ hy; subst h2; cases e; exact ⟨rfl,by simp⟩)
  | (have h1:=kQ hx; subst h1; have h2:=dv hy; subst h2; cases e; exact ⟨rfl,by simp⟩)
  | (have h1:=ni hx; subst h1; have h2:=kQ hy; subst h2; cases e; exact ⟨rfl,by simp⟩)
  | (have h1:=kQ hx; subst h1; have h2:=ni hy; subst h2; cases e; exact ⟨rfl,by simp⟩)
  | cases e
theorem cv:JR K rEq gEq:=by
 intro S H x y v u rr Q I hx hy e k
 obtain ⟨b,e1,e2⟩:=Option.map_eq_some_iff.mp e
 obtain ⟨h1,h2⟩:=CW hx hy e1
 refine ⟨h1,k _ S H (bw.refl I) ?_⟩
 subst e2
 show Rep K S _ _
 unfold Rep; rw [h2]
theorem w9:JR K rNe gNe:=by
 intro S H x y v u rr Q I hx hy e k
 obtain ⟨b,e1,e2⟩:=Option.map_eq_some_iff.mp e
 obtain ⟨h1,h2⟩:=CW hx hy e1
 refine ⟨h1,k _ S H (bw.refl I) ?_⟩
 subst e2
 show Rep K S _ _
 unfold Rep; rw [h2]
end
end L2.P
namespace L2.P
open PySem PySem.Spec PyProof.Rows L2 L2.E
section
variable {K:PySem.W.Frag} {cls:String -> Option Addr} {W:XW} {Av G S₀ S S' H H' B B':Hp} {ρ:ag} {σ:St} {Q:VK}
theorem mm.share {S1 H1:Hp} {r:RV} {v:V} {x:PV} (h:mm K H S1 H1 r v) (w:bw S H S1 H1) (e:lL r = some x):∃ S2,bw S H S2 H1 /\ aK S1 S2 /\ Rep K S2 x v:=by
 cases r with
 | sh y=>cases e; exact ⟨S1,w,aK.refl _,h⟩
 | al xs=>cases e
 | fr xs=>
   cases e
   obtain ⟨p,vs,rfl,hB,hS,hH,hr⟩:=h
   refine ⟨upd S1 p (.lst vs),⟨w.s.trans (aK.new hS),w.g,fun b u z=>?_,fun b z=>?_⟩,aK.new hS,?_⟩
   . by_cases e:b = p
     . subst e; rw [bc] at z; cases z; exact hH
     . rw [bb e] at z; exact w.sh b u z
   . by_cases e:b = p
     . subst e; exact .inr hB
     . rw [bb e] at z; exact w.new b z
   . unfold Rep
     exact ⟨p,vs,rfl,SqL.new bc,hr.mono (aK.new hS)⟩
theorem ax:JA K cls W lK aM:=fun Av G S₀ ρ σ S H Q I p=>p [] S H (bw.refl I.sh) .nil
theorem ae {te:TE} {t:TA} {me:ag -> OE} {mr:ag -> OA} (he:JE K cls W te me) (ht:JA K cls W t mr):JA K cls W (jK te t) (aj me mr):=by
 intro Av G S₀ ρ σ S H Q I p
 refine he Av G S₀ ρ σ S H _ I ?_
 unfold aj at p
 cases e:me ρ with
 | exc c fs=>rw [e] at p; exact p
 | bad=>rw [e] at p; exact p
 | ok r=>
   rw [e] at p
   intro v S1 H1 w1 r1
   simp only [OE.gj] at p
   cases es:lL r with
   | none=>rw [es] at p; exact p.elim
   | some x=>
     rw [es] at p
     obtain ⟨S2,w2,s2,rx⟩:=r1.share w1 es
     refine ht.goA (I.grow w2) (p.back w2) fun xs vs S3 H3 I3 w3 r3 p3=>?_
     exact p3 (v ::vs) S3 H3 (bw.refl I3.sh) (.cons (Rep.mono w3.s rx) r3)
theorem yB:lim = sizeLine:=by decide
theorem br {t:TA} {ma:ag -> OA} (h:JA K cls W t ma):JE K cls W (IC t) (cS ma):=by
 intro Av G S₀ ρ σ S H Q I p
 refine h.go I p fun xs vs S1 H1 I1 w1 r1 p1=>?_
 split at p1
 . rename_i hl
   refine ⟨by rw [r1.length]; exact hl,fun q hq=>p1 (.ref q) S1 _ (bw.heap I1.sh hq) ⟨q,vs,rfl,hq,I1.sh.free hq,bc,r1⟩⟩
 . exact p1.elim
theorem eD {t:TA} {ma:ag -> OA} (h:JA K cls W t ma):JE K cls W (Gw t) (jV ma):=by
 intro Av G S₀ ρ σ S H Q I p
 refine h.go I p fun xs vs S1 H1 I1 w1 r1 p1=>?_
 split at p1
 . rename_i hl
   refine ⟨by rw [r1.length]; exact hl,fun q hq=>p1 (.ref q) _ _ (bw.both I1.sh hq) ?_⟩
   show Rep K _ _ _
   unfold Rep
   exact ⟨q,vs,rfl,SqT.new bc,r1.mono (bw.both (o:=.tup vs) I1.sh hq).s⟩
 . exact p1.elim
noncomputable def Jk (K:PySem.W.Frag) (cls:String -> Option Addr) (S H:Hp) (Q:VK) (E:XK):OE -> Prop
 | .ok r=>∀ v S' H',bw S H S' H' -> mm K H S' H' r v -> Q v H'
 | .exc c fs=>∀ a C S' H',bw S H S' H' -> n5 K cls S' H' c fs a C -> E (.ref C) (some a) H'
 | .bad=>False
noncomputable def spP (K:PySem.W.Frag) (cls:String -> Option Addr) (f:List PV -> OE):Sp:=fun vs H Q E=>∃ S xs,aK S H /\ bS K S xs vs /\ Jk K cls S H Q E (f xs)
theorem aJ {t:TA} {ma:ag -> OA} {f:List PV -> OE} (h:JA K cls W t ma):JE K cls W (rQ (spP K cls f) [] W t) (bf f ma):=by
 intro Av G S₀ ρ σ S H Q I p
 refine h.go I p fun xs vs S1 H1 I1 w1 r1 p1=>?_
 show spP K cls f (vs ++ []) H1 Q _
 rw [List.append_nil]
 refine ⟨S1,xs,I1.sh,r1,?_⟩
 cases e:f xs with
 | ok r=>rw [e] at p1; exact p1
 | exc c fs=>rw [e] at p1; exact p1
 | bad=>rw [e] at p1; exact p1
noncomputable def JU (K:PySem.W.Frag) (r:List V -> Hp -> VK -> Prop) (g:PV -> Option RV):Prop:=∀ S H x v rr Q,aK S H -> RdV K S H x v -> g x = some rr ->
 (∀ z S' H',bw S H S' H' -> mm K H S' H' rr z -> Q z H') -> r [v] H Q
theorem eT {r:List V -> Hp -> VK -> Prop} {g:PV -> Option RV} {ta:TE} {ma:ag -> OE} (hr:JU K r g) (ha:JE K cls W ta ma):JE K cls W (tCB r (jK ta lK)) (mUn g ma):=by
 intro Av G S₀ ρ σ S H Q I p
 refine ha.go I p fun a v S1 H1 I1 w1 r1 p1=>?_
 show r [v] H1 Q
 cases e:g a.pv with
 | none=>rw [e] at p1; exact p1.elim
 | some rr=>rw [e] at p1; exact hr S1 H1 a.pv v rr Q I1.sh (r1.rd I1.sh) e p1
theorem CM {r:V -> Hp -> VK -> Prop} {g:PV -> Option RV} {ta:TE} {ma:ag -> OE} (hr:JU K (fun vs H Q=>∃ v,vs = [v] /\ r v H Q) g) (ha:JE K cls W ta ma):JE K cls W (tUn r ta) (mUn g ma):=by
 intro Av G S₀ ρ σ S H Q I p
 refine ha.go I p fun a v S1 H1 I1 w1 r1 p1=>?_
 cases e:g a.pv with
 | none=>rw [e] at p1; exact p1.elim
 | some rr=>
   rw [e] at p1
   obtain ⟨u,e1,h⟩:=hr S1 H1 a.pv v rr Q I1.sh (r1.rd I1.sh) e p1
   cases e1
   exact h
theorem yX:JU K (fun vs H Q=>∃ v,vs = [v] /\ rU (fun i=>.int (-i)) v H Q) AX:=by
 intro S H x v rr Q I hx e k
 cases x with
 | int i=>cases e; exact ⟨v,rfl,i,dv hx,k _ S H (bw.refl I) (by show Rep K S _ _; unfold Rep; rfl)⟩
 | _=>cases e
theorem iT:JU K (fun xs H Q=>∃ p ys,xs = [.ref p] /\ (SqL K H p ys \/ SqT K H p ys) /\ Q (.int ys.length) H) mJ:=by
 intro S H x v rr Q I hx e k
 cases x with
 | lst xs=>
   cases e
   obtain ⟨p,vs,rfl,hq,r⟩:=iz hx
   exact ⟨p,vs,rfl,.inl hq,k _ S H (bw.refl I) (by show Rep K S _ _; unfold Rep; rw [r.length])⟩
 | tup xs=>
   cases e
   obtain ⟨p,vs,rfl,hq,r⟩:=my hx
   exact ⟨p,vs,rfl,.inr (aK.tup I hq),k _ S H (bw.refl I) (by show Rep K S _ _; unfold Rep; rw [r.length])⟩
 | _=>cases e
theorem rC:JU K (fun xs H Q=>(∃ i,xs = [.int i] /\ Q (.int i) H) \/ ∃ k,xs = [.bl k] /\ Q (.int (if k then 1 else 0)) H) r6:=by
 intro S H x v rr Q I hx e k
 cases x with
 | int i=>cases e; exact .inl ⟨i,by rw [dv hx],k _ S H (bw.refl I) (by show Rep K S _ _; unfold Rep; rfl)⟩
 | bl b=>cases e; exact .inr ⟨b,by rw [ni hx],k _ S H (bw.refl I) (by show Rep K S _ _; unfold Rep; rfl)⟩
 | _=>cases e
theorem yz:JU K (fun xs H Q=>∃ p ys,xs = [.ref p] /\ (SqL K H p ys \/ SqT K H p ys) /\ ∀ l,H l = none -> Q (.ref l) (upd H l (.lst ys))) rH:=by
 intro S H x v rr Q I hx e k
 cases x with
 | lst xs=>
   cases e
   obtain ⟨p,vs,rfl,hq,r⟩:=iz hx
   exact ⟨p,vs,rfl,.inl hq,fun l hl=>k _ S _ (bw.heap I hl) ⟨l,vs,rfl,hl,I.free hl,bc,r⟩⟩
 | tup xs=>
   cases e
   obtain ⟨p,vs,rfl,hq,r⟩:=my hx
   exact ⟨p,vs,rfl,.inr (aK.tup I hq),fun l hl=>k _ S _ (bw.heap I hl) ⟨l,vs,rfl,hl,I.free hl,bc,r⟩⟩
 | _=>cases e
theorem Gz {α:Type} (xs:List α) (i:Int):atP xs i = L2.atI xs i:=rfl
theorem bS.atI {xs:List PV} {vs:List V} {i:Int} {x:PV} (h:bS K S xs vs) (e:atP xs i = some x):∃ v,L2.atI vs i = some v /\ Rep K S x v:=by
 rw [Gz] at e
 unfold L2.atI at e ⊢
 rw [h.length]
 cases q:ixN xs.length i with
 | none=>rw [q] at e; cases e
 | some j=>rw [q] at e; exact h.get e
theorem eh:JR K (Jh K) jN:=by
 intro S H x y v u rr Q I hx hy e k
 unfold jN at e
 split at e
 . rename_i xs i
   obtain ⟨z,e1,e2⟩:=Option.map_eq_some_iff.mp e
   obtain ⟨p,vs,rfl,hq,r⟩:=iz hx
   obtain ⟨w,e3,rw'⟩:=r.atI e1
   subst e2
   exact ⟨p,vs,i,w,rfl,dv hy,hq,e3,k _ S H (bw.refl I) rw'⟩
 . cases e
theorem gq:JR K (Ji K) lb:=by
 intro S H x y v u rr Q I hx hy e k
 unfold lb at e
 split at e
 . rename_i xs i
   obtain ⟨z,e1,e2⟩:=Option.map_eq_some_iff.mp e
   obtain ⟨p,vs,rfl,hq,r⟩:=my hx
   obtain ⟨w,e3,rw'⟩:=r.atI e1
   subst e2
   exact ⟨p,vs,i,w,rfl,dv hy,aK.tup I hq,e3,k _ S H (bw.refl I) rw'⟩
 . cases e
end
end L2.P
namespace L2.P
open PySem PySem.Spec PyProof.Rows L2 L2.E
section
variable {K:PySem.W.Frag} {cls:String -> Option Addr} {W:XW} {Av G S₀ S S' H H' B B':Hp} {ρ:ag} {σ:St} {Q:VK}
theorem nX:JR K (Gg K) sM:=by
 intro S H x y v u rr Q I hx hy e k
 unfold sM at e
 split at e
 . rename_i xs ys
   split at e
   . rename_i hl
     cases e
     obtain ⟨p,vs,rfl,hq,r⟩:=iz hx
     obtain ⟨p2,vs2,rfl,hq2,r2⟩:=iz hy
     exact ⟨p,p2,vs,vs2,rfl,rfl,hq,hq2,by rw [r.length,r2.length]; exact hl,fun l hn=>k _ S _ (bw.heap I hn) ⟨l,_,rfl,hn,I.free hn,bc,r.append r2⟩⟩
   . cases e
 . cases e
theorem uy {xs:List PV} {ns:List Int} (h:qt xs = some ns):xs = ns.map .int:=by
 induction xs generalizing ns with
 | nil=>cases h; rfl
 | cons x xs ih=>
   cases x with
   | int i=>
     obtain ⟨ms,e1,e2⟩:=Option.map_eq_some_iff.mp h
     subst e2
     rw [ih e1]; rfl
   | _=>cases h
theorem zo {x y:PV} {v u:V} {b:Bool} (hx:RdV K S H x v) (hy:RdV K S H y u) (e:Dm x y = some b):
  ∃ (p q:Addr) (ns ms:List Int),v = .ref p /\ u = .ref q /\ SqL K H p (ns.map V.int) /\ SqL K H q (ms.map V.int) /\ b = decide (ns = ms):=by
 unfold Dm at e
 split at e
 . rename_i xs ys
   split at e
   . rename_i a b' e1 e2
     cases e
     obtain ⟨p,vs,rfl,hq,r⟩:=iz hx
     obtain ⟨p2,vs2,rfl,hq2,r2⟩:=iz hy
     rw [uy e1] at r
     rw [uy e2] at r2
     rw [r.wN] at hq
     rw [r2.wN] at hq2
     exact ⟨p,p2,a,b',rfl,rfl,hq,hq2,rfl⟩
   . cases e
 . cases e
theorem GB {A:Around} (hu:A.units + 64 < cLine):JR K (E7 K A false) G6:=by
 intro S H x y v u rr Q I hx hy e k
 obtain ⟨b,e1,e2⟩:=Option.map_eq_some_iff.mp e
 obtain ⟨p,q,ns,ms,rfl,rfl,h1,h2,rfl⟩:=zo hx hy e1
 subst e2
 exact ⟨p,q,ns,ms,rfl,rfl,h1,h2,hu,k _ S H (bw.refl I) (by show Rep K S _ _; unfold Rep; simp)⟩
theorem BO {A:Around} (hu:A.units + 64 < cLine):JR K (E7 K A true) E6:=by
 intro S H x y v u rr Q I hx hy e k
 obtain ⟨b,e1,e2⟩:=Option.map_eq_some_iff.mp e
 obtain ⟨p,q,ns,ms,rfl,rfl,h1,h2,rfl⟩:=zo hx hy e1
 subst e2
 exact ⟨p,q,ns,ms,rfl,rfl,h1,h2,hu,k _ S H (bw.refl I) (by show Rep K S _ _; unfold Rep; simp)⟩
theorem yG {xs:List PV} {vs:List V} {bs:List Bool} (h:oq xs = some bs) (r:bS K S xs vs):vs = bs.map V.bl:=by
 induction xs generalizing bs vs with
 | nil=>cases h; exact r.nil_inv
 | cons x xs ih=>
   cases x with
   | bl i=>
     obtain ⟨ms,e1,e2⟩:=Option.map_eq_some_iff.mp h
     subst e2
     obtain ⟨v,t,rfl,h1,h2⟩:=r.cons_inv
     unfold Rep at h1
     rw [ih e1 h2,h1]; rfl
   | _=>cases h
theorem Dr {A:Around} (hh:A.handled = none):JU K (fun xs H Q=>∃ (p:Addr) (bs:List Bool),xs = [.ref p] /\ SqL K H p (bs.map V.bl) /\ A.handled = none /\ Q (.bl (bs.all id)) H) AQ:=by
 intro S H x v rr Q I hx e k
 cases x with
 | lst xs=>
   obtain ⟨bs,e1,e2⟩:=Option.map_eq_some_iff.mp e
   obtain ⟨p,vs,rfl,hq,r⟩:=iz hx
   rw [yG e1 r] at hq
   subst e2
   exact ⟨p,bs,rfl,hq,hh,k _ S H (bw.refl I) (by show Rep K S _ _; unfold Rep; rfl)⟩
 | _=>cases e
theorem Ie {T:String} {x:PV} {v:V} {b:Bool} (s:aK S H) (hx:RdV K S H x v) (e:isP T x = some b):IsV K T v H b:=by
 cases x with
 | int i=>
   have:=dv hx; subst this
   simp only [isP] at e
   split at e
   . cases e; exact .inl ⟨by assumption,rfl⟩
   . split at e
     . rename_i h; cases e; rcases h with h | h | h | h
       . exact .inr (.inl ⟨h,rfl⟩)
       . exact .inr (.inr (.inl ⟨h,rfl⟩))
       . exact .inr (.inr (.inr (.inl ⟨h,rfl⟩)))
       . exact .inr (.inr (.inr (.inr ⟨h,rfl⟩)))
     . cases e
 | bl i=>
   have:=ni hx; subst this
   simp only [isP] at e
   split at e
   . rename_i h; cases e; rcases h with h | h
     . exact .inl ⟨h,rfl⟩
     . exact .inr (.inl ⟨h,rfl⟩)
   . split at e
     . rename_i h; cases e; rcases h with h | h | h
       . exact .inr (.inr (.inl ⟨h,rfl⟩))
       . exact .inr (.inr (.inr (.inl ⟨h,rfl⟩)))
       . exact .inr (.inr (.inr (.inr ⟨h,rfl⟩)))
     . cases e
 | non=>
   have:=jy hx; subst this
   simp only [isP] at e
   split at e
   . rename_i h; cases e; rcases h with h | h | h | h | h
     . exact .inl ⟨h,rfl⟩
     . exact .inr (.inl ⟨h,rfl⟩)
     . exact .inr (.inr (.inl ⟨h,rfl⟩))
     . exact .inr (.inr (.inr (.inl ⟨h,rfl⟩)))
     . exact .inr (.inr (.inr (.inr ⟨h,rfl⟩)))
   . cases e
 | str i=>
   have:=kQ hx; subst this
   simp only [isP] at e
   split at e
   . cases e; exact .inr (.inr (.inr (.inr ⟨by assumption,rfl⟩)))
   . split at e
     . rename_i h; cases e; rcases h with h | h | h | h
       . exact .inl ⟨h,rfl⟩
       . exact .inr (.inl ⟨h,rfl⟩)
       . exact .inr (.inr (.inl ⟨h,rfl⟩))
       . exact .inr (.inr (.inr (.inl ⟨h,rfl⟩)))
     . cases e
 | lst xs=>
   obtain ⟨p,vs,rfl,hq,r⟩:=iz hx
   refine .inl ⟨⟨vs,hq⟩,?_⟩
   simp only [isP] at e
   split at e
   . cases e; exact .inr (.inr (.inl ⟨by assumption,rfl⟩))
   . split at e
     . rename_i h; cases e; rcases h with h | h | h | h
       . exact .inl ⟨h,rfl⟩
       . exact .inr (.inl ⟨h,rfl⟩)
       . exact .inr (.inr (.inr (.inl ⟨h,rfl⟩)))
       . exact .inr (.inr (.inr (.inr ⟨h,rfl⟩)))
     . cases e
 | tup xs=>
   obtain ⟨p,vs,rfl,hq,r⟩:=my hx
   refine .inr ⟨⟨vs,aK.tup s hq⟩,?_⟩
   simp only [isP] at e
   split at e
   . cases e; exact .inr (.inr (.inr (.inl ⟨by assumption,rfl⟩)))
   . split at e
     . rename_i h; cases e; rcases h with h | h | h | h
       . exact .inl ⟨h,rfl⟩
       . exact .inr (.inl ⟨h,rfl⟩)
       . exact .inr (.inr (.inl ⟨h,rfl⟩))
       . exact .inr (.inr (.inr (.inr ⟨h,rfl⟩)))
     . cases e
theorem v9 {T:String} {ta:TE} {ma:ag -> OE} (ha:JE K cls W ta ma):
  JE K cls W (tCB (fun xs H Q=>∃ x T b,xs = [x,.ty T] /\ IsV K T x H b /\ Q (.bl b) H) (jK ta (jK (tC (.ty T)) lK))) (mIs T ma):=by
 intro Av G S₀ ρ σ S H Q I p
 refine ha.go I p fun a v S1 H1 I1 w1 r1 p1=>?_
 show ∃ x T' b,[v,V.ty T] = [x,V.ty T'] /\ _
 dsimp only at p1
 cases e:isP T a.pv with
 | none=>rw [e] at p1; exact p1.elim
 | some b=>
   rw [e] at p1
   exact ⟨v,T,b,rfl,Ie I1.sh (r1.rd I1.sh) e,p1 _ S1 H1 (bw.refl I1.sh) (by show Rep K S1 _ _; unfold Rep; rfl)⟩
end
end L2.P
namespace L2.P
open PySem PySem.Spec PyProof.Rows L2 L2.E
section
variable {K:PySem.W.Frag} {cls:String -> Option Addr} {W:XW} {Av G S₀ S S' H H' B B':Hp} {ρ:ag} {σ:St} {Q:VK}
theorem pY {xs:List PV} {vs:List V} (h:bS K S xs vs):vs.isEmpty = xs.isEmpty:=by
 cases xs with
 | nil=>rw [h.nil_inv]; rfl
 | cons x xs=>obtain ⟨v,r,rfl,_⟩:=h.cons_inv; rfl
theorem zA {x:PV} {v:V} {b:Bool} (s:aK S H) (hx:RdV K S H x v) (e:sR x = some b):yW K v H b:=by
 cases x with
 | non=>have:=jy hx; subst this; cases e; rfl
 | bl c=>have:=ni hx; subst this; cases e; rfl
 | int i=>have:=dv hx; subst this; cases e; rfl
 | str z=>cases e
 | lst xs=>
   obtain ⟨p,vs,rfl,hq,r⟩:=iz hx
   cases e
   exact .inl ⟨vs,hq,by rw [pY r]⟩
 | tup xs=>
   obtain ⟨p,vs,rfl,hq,r⟩:=my hx
   cases e
   exact .inr (.inl ⟨vs,aK.tup s hq,by rw [pY r]⟩)
theorem fU {ta:TE} {ma:ag -> OE} (ha:JE K cls W ta ma):JT K cls W (fun σ H Q=>ta σ H fun x H'=>∃ k,yW K x H' k /\ Q k H') (jk ma):=by
 intro Av G S₀ ρ σ S H Q I p
 refine ha.goT I p fun r v S1 H1 I1 w1 r1 p1=>?_
 cases e:sR r.pv with
 | none=>rw [e] at p1; exact p1.elim
 | some b=>rw [e] at p1; exact ⟨b,zA I1.sh (r1.rd I1.sh) e,p1 S1 H1 (bw.refl I1.sh)⟩
theorem sg {r:RV} {b:Bool} {v:V} {S1 H1:Hp} (h:r.pv = .bl b) (r1:mm K H S1 H1 r v) (s:aK S1 H1):v = .bl b:=by
 have:=r1.rd s
 rw [h] at this
 exact ni this
theorem az {ta:TE} {ma:ag -> OE} (ha:JE K cls W ta ma):JT K cls W (xT ta) (aR ma):=by
 intro Av G S₀ ρ σ S H Q I p
 refine ha.goT I p fun r v S1 H1 I1 w1 r1 p1=>?_
 cases e:r.pv with
 | bl b=>rw [e] at p1; exact ⟨b,sg e r1 I1.sh,p1 S1 H1 (bw.refl I1.sh)⟩
 | _=>rw [e] at p1; exact p1.elim
theorem uQ {ta:TT} {ma:ag -> OT} (ha:JT K cls W ta ma):JT K cls W (E2 ta) (ux ma):=by
 intro Av G S₀ ρ σ S H Q I p
 exact ha.goT I p fun b S1 H1 I1 w1 p1=>p1 S1 H1 (bw.refl I1.sh)
theorem vG {ta tb:TT} {ma mb:ag -> OT} (ha:JT K cls W ta ma) (hb:JT K cls W tb mb):JT K cls W (IM ta tb) (uf ma mb):=by
 intro Av G S₀ ρ σ S H Q I p
 refine ha.goT I p fun b S1 H1 I1 w1 p1=>?_
 cases b with
 | true=>exact tM (hb Av G S₀ ρ σ S1 H1 Q I1 p1)
 | false=>exact tQ (p1 S1 H1 (bw.refl I1.sh))
theorem wI {ta tb:TT} {ma mb:ag -> OT} (ha:JT K cls W ta ma) (hb:JT K cls W tb mb):JT K cls W (tOr ta tb) (yx ma mb):=by
 intro Av G S₀ ρ σ S H Q I p
 refine ha.goT I p fun b S1 H1 I1 w1 p1=>?_
 cases b with
 | false=>exact tQ (hb Av G S₀ ρ σ S1 H1 Q I1 p1)
 | true=>exact tM (p1 S1 H1 (bw.refl I1.sh))
theorem kO {b:Bool}:mm K B S H (.sh (.bl b)) (.bl b):=by show Rep K S _ _; unfold Rep; rfl
theorem y8 {ta tb:TE} {ma mb:ag -> OE} (ha:JE K cls W ta ma) (hb:JE K cls W tb mb):JE K cls W (Cs ta tb) (xq ma mb):=by
 intro Av G S₀ ρ σ S H Q I p
 refine ha.go I p fun r v S1 H1 I1 w1 r1 p1=>?_
 cases e:r.pv with
 | bl b=>
   rw [e] at p1
   refine ⟨b,sg e r1 I1.sh,?_⟩
   cases b with
   | true=>exact tM (hb Av G S₀ ρ σ S1 H1 Q I1 p1)
   | false=>exact tQ (p1 _ S1 H1 (bw.refl I1.sh) kO)
 | _=>rw [e] at p1; exact p1.elim
theorem Kd {ta tb:TE} {ma mb:ag -> OE} (ha:JE K cls W ta ma) (hb:JE K cls W tb mb):JE K cls W (Ht ta tb) (G9 ma mb):=by
 intro Av G S₀ ρ σ S H Q I p
 refine ha.go I p fun r v S1 H1 I1 w1 r1 p1=>?_
 cases e:r.pv with
 | bl b=>
   rw [e] at p1
   refine ⟨b,sg e r1 I1.sh,?_⟩
   cases b with
   | false=>exact tQ (hb Av G S₀ ρ σ S1 H1 Q I1 p1)
   | true=>exact tM (p1 _ S1 H1 (bw.refl I1.sh) kO)
 | _=>rw [e] at p1; exact p1.elim
theorem HZ {ta:TE} {ma:ag -> OE} (ha:JE K cls W ta ma):JE K cls W (CU ta) (B2 ma):=by
 intro Av G S₀ ρ σ S H Q I p
 refine ha.go I p fun r v S1 H1 I1 w1 r1 p1=>?_
 cases e:r.pv with
 | bl b=>rw [e] at p1; exact ⟨b,sg e r1 I1.sh,p1 _ S1 H1 (bw.refl I1.sh) kO⟩
 | _=>rw [e] at p1; exact p1.elim
theorem jP {tc:TT} {ta tb:TE} {mc:ag -> OT} {ma mb:ag -> OE} (hc:JT K cls W tc mc) (ha:JE K cls W ta ma) (hb:JE K cls W tb mb):JE K cls W (tIf tc ta tb) (mj mc ma mb):=by
 intro Av G S₀ ρ σ S H Q I p
 refine hc.go I p fun b S1 H1 I1 w1 p1=>?_
 cases b with
 | true=>exact tM (ha Av G S₀ ρ σ S1 H1 Q I1 p1)
 | false=>exact tQ (hb Av G S₀ ρ σ S1 H1 Q I1 p1)
theorem gC {r r':R2} {g g':PV -> PV -> Option RV} {ta tb tc:TE} {ma mb mc:ag -> OE} (hr:JR K r g) (hr':JR K r' g') (ha:JE K cls W ta ma) (hb:JE K cls W tb mb) (hc:JE K cls W tc mc):
  JE K cls W (tm r r' ta tb tc) (jF g g' ma mb mc):=by
 intro Av G S₀ ρ σ S H Q I p
 refine ha.go I p fun a v S1 H1 I1 w1 r1 p1=>hb.go I1 p1 fun b u S2 H2 I2 w2 r2 p2=>?_
 cases e:g a.pv b.pv with
 | none=>rw [e] at p2; exact p2.elim
 | some rr=>
   rw [e] at p2
   refine hr S2 H2 a.pv b.pv v u rr _ I2.sh ((r1.rd I1.sh).mono w2.s w2.g) (r2.rd I2.sh) e fun z S3 H3 w3 r3=>?_
   have I3:=I2.grow w3
   simp only [oE,OE.bind] at p2
   cases e3:rr.pv with
   | bl k=>
     rw [e3] at p2
     have hz:=sg e3 r3 I3.sh
     refine ⟨k,hz,?_⟩
     cases k with
     | false=>exact tQ (p2 _ S3 H3 w3 kO)
     | true=>
       refine tM (hc.go I3 (p2.back w3) fun c y S4 H4 I4 w4 r4 p4=>?_)
       cases e4:g' b.pv c.pv with
       | none=>rw [e4] at p4; exact p4.elim
       | some r'=>rw [e4] at p4; exact hr' S4 H4 b.pv c.pv u y r' Q I4.sh (((r2.rd I2.sh).mono w3.s w3.g).mono w4.s w4.g) (r4.rd I4.sh) e4 p4
   | _=>rw [e3] at p2; exact p2.elim
theorem ay {ta tb:TS} {ma mb:ag -> OS} (ha:JS K cls W ta ma) (hb:JS K cls W tb mb):JS K cls W (HG ta tb) (aT ma mb):=by
 intro Av G S₀ ρ σ S H D I p
 refine ha Av G S₀ ρ σ S H _ I ?_
 unfold aT at p
 cases e:ma ρ with
 | nx ρ'=>rw [e] at p; exact fun σ' S' H' I' s'=>hb Av G S₀ ρ' σ' S' H' D I' (p.back s')
 | bk ρ'=>rw [e] at p; exact p
 | ct ρ'=>rw [e] at p; exact p
 | rt ρ' r=>rw [e] at p; exact p
 | exc ρ' c fs=>rw [e] at p; exact p
 | bad=>rw [e] at p; exact p
theorem aI:JS K cls W Cf aY:=fun Av G S₀ ρ σ S H D I p=>p σ S H I (aK.refl _)
theorem bz {i:Nat} {te:TE} {me:ag -> OE} (he:JE K cls W te me):JS K cls W (xa te (nr i)) (dW i me):=by
 intro Av G S₀ ρ σ S H D I p
 refine he.goS I p fun r v S1 H1 I1 w1 r1 p1=>?_
 show D.nx (σ.set i (some v)) H1
 cases r with
 | sh x=>exact p1 _ S1 H1 (I1.wM r1) (aK.refl _)
 | fr xs=>exact p1 _ S1 H1 (I.Ja w1 r1) (aK.refl _)
 | al xs=>exact p1.elim
theorem ba {tc:TT} {ta tb:TS} {mc:ag -> OT} {ma mb:ag -> OS} (hc:JT K cls W tc mc) (ha:JS K cls W ta ma) (hb:JS K cls W tb mb):JS K cls W (E8 tc ta tb) (bN mc ma mb):=by
 intro Av G S₀ ρ σ S H D I p
 refine hc.goS I p fun b S1 H1 I1 w1 p1=>?_
 cases b with
 | true=>exact tM (ha Av G S₀ ρ σ S1 H1 D I1 p1)
 | false=>exact tQ (hb Av G S₀ ρ σ S1 H1 D I1 p1)
theorem aC {te:TE} {me:ag -> OE} (he:JE K cls W te me):JS K cls W (DH te) (bq me):=by
 intro Av G S₀ ρ σ S H D I p
 refine he.goS I p fun r v S1 H1 I1 w1 r1 p1=>?_
 cases r with
 | sh x=>exact p1 v σ S1 H1 I1 (aK.refl _) r1
 | fr xs=>exact p1 v σ S1 H1 I1 (aK.refl _) (r1.back I.gh)
 | al xs=>exact p1.elim
theorem fm {i:Nat}:JS K cls W (DH (qq i)) (gz i):=by
 intro Av G S₀ ρ σ S H D I p
 unfold gz at p
 split at p
 . rename_i x e
   obtain ⟨v,e1,r⟩:=I.good i _ e
   exact ⟨v,e1,p v σ S H I (aK.refl _) r⟩
 . rename_i xs e
   obtain ⟨v,e1,a,vs,e2,h1,h2,h3,h4⟩:=I.good i _ e
   exact ⟨v,e1,p v σ S H I.drop (aK.refl _) ⟨a,vs,e2,h1,h2,h3,h4⟩⟩
 . exact p.elim
theorem zl {te:TE} {me:ag -> OE} (he:JE K cls W te me):JS K cls W (qV te) (zt me):=by
 intro Av G S₀ ρ σ S H D I p
 exact he.goS I p fun r v S1 H1 I1 w1 r1 p1=>p1 σ S1 H1 I1 (aK.refl _)
theorem jU {i:Nat} {ts:TS} {m:ag -> OS} (h:JS K cls W ts m):JS K cls W ts (jY i m):=by
 intro Av G S₀ ρ σ S H D I p
 unfold jY j9 at p
 split at p
 . rename_i xs e
   obtain ⟨S',s,J⟩:=I.Jf e
   exact h Av G S₀ _ σ S' H D J (p.back s)
 . exact h Av G S₀ ρ σ S H D I p
theorem jQ {i:Nat} {te:TE} {me:ag -> OE} (he:JE K cls W te me):JS K cls W (qV (tBM K "list" we (qq i) (jK te lK))) (jb i me):=by
 intro Av G S₀ ρ σ S H D I p
 unfold jb at p
 split at p
 . rename_i xs e
   obtain ⟨v,e1,a,vs,rfl,h1,h2,h3,h4⟩:=I.good i _ e
   refine ⟨_,e1,.inl ⟨rfl,_,SqL.new h3⟩,?_⟩
   refine he Av G S₀ ρ σ S H _ I ?_
   cases em:me ρ with
   | exc c fs=>rw [em] at p; exact fun a C S' H' w x=>p a C σ S' H' (I.grow w) w.s x
   | bad=>rw [em] at p; exact p
   | ok r=>
     rw [em] at p
     intro u S1 H1 w1 r1
     simp only [OE.bU] at p
     cases es:lL r with
     | none=>rw [es] at p; exact p.elim
     | some y=>
       rw [es] at p
       dsimp only at p
       split at p
       . rename_i hl
         obtain ⟨S2,w2,s2,rx⟩:=r1.share w1 es
         have I2:=I.grow w2
         refine ⟨a,vs,u,rfl,rfl,w2.g _ _ h3,by rw [h4.length]; exact hl,?_⟩
         exact p σ S2 _ (I2.mut e e1 ((h4.mono w2.s).append (.cons rx .nil))) w2.s
       . exact p.elim
 . exact p.elim
theorem Aq {i:Nat} {te:TE} {me:ag -> OE} (he:JE K cls W te me):JS K cls W (qV (tBM K "list" u4 (qq i) (jK te lK))) (rK i me):=by
 intro Av G S₀ ρ σ S H D I p
 unfold rK at p
 split at p
 . rename_i xs e
   obtain ⟨v,e1,a,vs,rfl,h1,h2,h3,h4⟩:=I.good i _ e
   refine ⟨_,e1,.inl ⟨rfl,_,SqL.new h3⟩,?_⟩
   refine he.goS I p fun r u S1 H1 I1 w1 r1 p1=>?_
   cases r with
   | fr ys=>
     dsimp only at p1
     split at p1
     . rename_i hl
       obtain ⟨b,us,rfl,k1,k2,k3,k4⟩:=r1
       refine ⟨a,b,vs,us,rfl,rfl,w1.g _ _ h3,k3,by rw [h4.length,k4.length]; exact hl,?_⟩
       exact p1 σ S1 _ (I1.mut e e1 ((h4.mono w1.s).append k4)) (aK.refl _)
     . exact p1.elim
   | sh x=>exact p1.elim
   | al ys=>exact p1.elim
 . exact p.elim
theorem uH {i:Nat} {tb:TS} {mb:ag -> OS} {D:Ends} {x:PV} {xs:List PV} {v:V} {N:St -> Hp -> Prop} (hb:JS K cls W tb mb) (I:SR K cls Av G S₀ ρ σ S H) (hx:Rep K S x v)
  (p:i6 K cls W Av G S₀ S D (jO i mb (x ::xs) ρ)) (hN:∀ ρ' σ' S' H',SR K cls Av G S₀ ρ' σ' S' H' -> aK S S' -> i6 K cls W Av G S₀ S' D (jO i mb xs ρ') -> N σ' H'):
  nr i v σ H fun σ2 H2=>tb { D with nx:=N,ct:=N,bk:=D.nx } σ2 H2:=by
 refine hb Av G S₀ _ _ S H _ (I.wM hx) ?_
 rw [fM] at p
 cases e:mb (ρ.set i (some (.sh x))) with
 | nx ρ'=>rw [e] at p; exact fun σ' S' H' I' s'=>hN ρ' σ' S' H' I' s' (p.back s')
 | ct ρ'=>rw [e] at p; exact fun σ' S' H' I' s'=>hN ρ' σ' S' H' I' s' (p.back s')
 | bk ρ'=>rw [e] at p; exact p
 | rt ρ' r=>rw [e] at p; exact p
 | exc ρ' c fs=>rw [e] at p; exact p
 | bad=>rw [e] at p; exact p
theorem pK {i:Nat} {tl:TE} {tb:TS} {ml:ag -> OE} {mb:ag -> OS} (hl:JE K cls W tl ml) (hb:JS K cls W tb mb):JS K cls W (B4 (xU K tl) (nr i) tb) (qK i ml mb):=by
 intro Av G S₀ ρ σ S H D I p
 refine hl Av G S₀ ρ σ S H _ I ?_
 unfold qK at p
 cases em:ml ρ with
 | exc c fs=>rw [em] at p; exact fun a C S' H' w x=>p a C σ S' H' (I.grow w) w.s x
 | bad=>rw [em] at p; exact p
 | ok r=>
   rw [em] at p
   intro v S1 H1 w1 r1
   simp only [OE.bU] at p
   cases ei:ya r with
   | none=>rw [ei] at p; exact p.elim
   | some xs=>
     rw [ei] at p
     have es:lL r = some (.lst xs):=by
      cases r with
      | sh y=>cases y <;> cases ei <;> rfl
      | fr ys=>cases ei; rfl
      | al ys=>cases ei
     obtain ⟨S2,w2,s2,rx⟩:=r1.share w1 es
     have I2:=I.grow w2
     unfold Rep at rx
     obtain ⟨a,vs,rfl,hq,hr⟩:=rx
     refine ⟨a,rfl,⟨vs,aK.seq I2.sh hq⟩,?_⟩
     refine Cp (xs:=vs) (fun k σ' H'=>∃ ρ' S',SR K cls Av G S₀ ρ' σ' S' H' /\ aK S2 S' /\ i6 K cls W Av G S₀ S' D (jO i mb (xs.drop k) ρ'))
      ⟨ρ,S2,I2,aK.refl _,p.back w2.s⟩ ?_ ?_ ?_
     . rintro k σ' H' _ ⟨ρ',S',I',s',_⟩
       exact aK.seq (s'.trans I'.sh) hq
     . rintro k x σ' H' hx ⟨ρ',S',I',s',p'⟩
       obtain ⟨y,hy,ry⟩:=hr.JW hx
       have hd:xs.drop k = y ::xs.drop (k + 1):=by
        have hk:k < xs.length:=(List.getElem?_eq_some_iff.mp hy).1
        rw [List.drop_eq_getElem_cons hk]
        congr 1
        have:=List.getElem?_eq_getElem hk
        rw [hy] at this
        exact (Option.some.inj this).symm
       rw [hd] at p'
       exact uH hb I' (Rep.mono s' ry) p' fun ρ2 σ2 S3 H3 I3 s3 p3=>⟨ρ2,S3,I3,s'.trans s3,p3⟩
     . rintro σ' H' ⟨ρ',S',I',s',p'⟩
       rw [List.drop_of_length_le (by rw [hr.length]; exact Nat.le_refl _)] at p'
       exact p' σ' S' H' I' (aK.refl _)
theorem xO {n k:Nat} (h:k < n):(eO n).drop k = .int (k:Int) ::(eO n).drop (k + 1):=by
 have hk:k < (eO n).length:=by unfold eO; simpa using h
 rw [List.drop_eq_getElem_cons hk]
 congr 1
 simp [eO]
theorem DV {i:Nat} {te:TE} {tb:TS} {me:ag -> OE} {mb:ag -> OS} (he:JE K cls W te me) (hb:JS K cls W tb mb):JS K cls W (B4 (zS (jK te lK)) (nr i) tb) (BG i me mb):=by
 intro Av G S₀ ρ σ S H D I p
 refine he.goS I p fun r v S1 H1 I1 w1 r1 p1=>?_
 cases e:r.pv with
 | int j=>
   rw [e] at p1
   have hv:v = .int j:=by have:=r1.rd I1.sh; rw [e] at this; exact dv this
   subst hv
   dsimp only at p1
   split at p1
   . rename_i hj
     refine ⟨j,rfl,hj.1,hj.2,?_⟩
     refine Ay (n:=j.toNat) (fun k σ' H'=>∃ ρ' S',SR K cls Av G S₀ ρ' σ' S' H' /\ aK S1 S' /\ i6 K cls W Av G S₀ S' D (jO i mb ((eO j.toNat).drop k) ρ'))
      ⟨ρ,S1,I1,aK.refl _,p1⟩ ?_ ?_
     . rintro k σ' H' hk ⟨ρ',S',I',s',p'⟩
       rw [xO hk] at p'
       refine uH hb I' ?_ p' fun ρ2 σ2 S3 H3 I3 s3 p3=>⟨ρ2,S3,I3,s'.trans s3,p3⟩
       unfold Rep
       rw [Int.zero_add]
     . rintro σ' H' ⟨ρ',S',I',s',p'⟩
       rw [List.drop_of_length_le (by unfold eO; simp)] at p'
       exact p' σ' S' H' I' (aK.refl _)
   . exact p1.elim
 | _=>rw [e] at p1; exact p1.elim
theorem kS {tc:TT} {tb:TS} {mc:ag -> OT} {mb:ag -> OS} {n:Nat} (hc:JT K cls W tc mc) (hb:JS K cls W tb mb):JS K cls W (yf tc tb) (cy mc mb n):=by
 intro Av G S₀ ρ σ S H D I p
 refine ⟨fun m σ' H'=>∃ ρ' S',SR K cls Av G S₀ ρ' σ' S' H' /\ aK S S' /\ i6 K cls W Av G S₀ S' D (cy mc mb m ρ'),⟨n,ρ,S,I,aK.refl _,p⟩,?_⟩
 rintro m σ1 H1 ⟨ρ1,S1,I1,s1,p1⟩
 cases m with
 | zero=>exact p1.elim
 | succ m=>
   unfold cy at p1
   refine hc.goS I1 p1 fun b S2 H2 I2 w2 p2=>?_
   cases b with
   | false=>exact tQ (p2 σ1 S2 H2 I2 (aK.refl _))
   | true=>
     refine tM ⟨fun σ' H'=>∃ ρ' S',SR K cls Av G S₀ ρ' σ' S' H' /\ aK S S' /\ i6 K cls W Av G S₀ S' D (cy mc mb m ρ'),fun σ' H' h=>⟨m,Nat.lt_succ_self m,h⟩,?_⟩
     refine hb Av G S₀ ρ1 σ1 S2 H2 _ I2 ?_
     simp only [if_true] at p2
     cases e:mb ρ1 with
     | nx ρ'=>rw [e] at p2; exact fun σ' S' H' I' s'=>⟨ρ',S',I',(s1.trans w2.s).trans s',p2.back s'⟩
     | ct ρ'=>rw [e] at p2; exact fun σ' S' H' I' s'=>⟨ρ',S',I',(s1.trans w2.s).trans s',p2.back s'⟩
     | bk ρ'=>rw [e] at p2; exact p2
     | rt r=>rw [e] at p2; exact p2
     | exc ρ' c fs=>rw [e] at p2; exact p2
     | bad=>rw [e] at p2; exact p2
end
end L2.P
namespace L2.P
open PySem PySem.Spec PyProof.Rows L2 L2.E
section
variable {K:PySem.W.Frag} {cls:String -> Option Addr} {W:XW} {Av G S₀ S S' H H' B B':Hp} {ρ:ag} {σ:St} {Q:VK}
noncomputable def BD:V -> Option Int
 | .int i=>some i
 | _=>none
noncomputable def JO (K:PySem.W.Frag) (cls:String -> Option Addr) (W:XW) (to:TO) (m:ag -> OE):Prop:=∀ Av G S₀ ρ σ S H (Q:Option Int -> Hp -> Prop),SR K cls Av G S₀ ρ σ S H ->
 lr K cls W σ S H (fun v H'=>Q (BD v) H') (m ρ) -> to σ H Q
theorem oo {te:TE} {m:ag -> OE} (h:JE K cls W te m):JO K cls W (CP te) (qL m):=by
 intro Av G S₀ ρ σ S H Q I p
 refine h.go I p fun r v S1 H1 I1 w1 r1 p1=>?_
 cases e:r.pv with
 | int i=>
   rw [e] at p1
   have hv:v = .int i:=by have:=r1.rd I1.sh; rw [e] at this; exact dv this
   exact ⟨i,hv,p1 (.int i) S1 H1 (bw.refl I1.sh) (by show Rep K S1 _ _; unfold Rep; rfl)⟩
 | _=>rw [e] at p1; exact p1.elim
theorem JO.go {to:TO} {m:ag -> OE} {f:RV -> OE} {Q':Option Int -> Hp -> Prop} (h:JO K cls W to m) (I:SR K cls Av G S₀ ρ σ S H) (p:lr K cls W σ S H Q ((m ρ).bind f))
  (k:∀ r v S1 H1,SR K cls Av G S₀ ρ σ S1 H1 -> bw S H S1 H1 -> mm K H S1 H1 r v -> lr K cls W σ S1 H1 Q (f r) -> Q' (BD v) H1):to σ H Q':=by
 refine h Av G S₀ ρ σ S H Q' I ?_
 cases e:m ρ with
 | ok r=>rw [e] at p; exact fun v S1 H1 w r1=>k r v S1 H1 (I.grow w) w r1 (p.back w)
 | exc c fs=>rw [e] at p; exact p
 | bad=>rw [e] at p; exact p
theorem part_of {x:PV} {v:V} (h:RdV K S H x v):BD v = sk x:=by
 cases x with
 | int i=>rw [dv h]; rfl
 | non=>rw [jy h]; rfl
 | bl b=>rw [ni h]; rfl
 | str b=>rw [kQ h]; rfl
 | lst xs=>obtain ⟨p,vs,rfl,_⟩:=iz h; rfl
 | tup xs=>obtain ⟨p,vs,rfl,_⟩:=my h; rfl
theorem bS.cut {xs:List PV} {vs:List V} (h:bS K S xs vs) (lo hi:Option Int):bS K S (tS xs lo hi) (Bh vs lo hi):=by
 have es:∀ n d o,va n d o = HT.sIx n d o:=fun n d o=>by cases o <;> rfl
 unfold tS Bh
 simp only [es]
 rw [h.length]
 exact (h.drop _).take _
theorem yS {te:TE} {tl th:TO} {ma ml mh:ag -> OE} (ha:JE K cls W te ma) (hl:JO K cls W tl ml) (hh:JO K cls W th mh):JE K cls W (tSl (Kh K) te tl th) (DB ma ml mh):=by
 intro Av G S₀ ρ σ S H Q I p
 refine ha.go I p fun a v S1 H1 I1 w1 r1 p1=>hl.go I1 p1 fun l u S2 H2 I2 w2 r2 p2=>hh.go I2 p2 fun h z S3 H3 I3 w3 r3 p3=>?_
 rw [part_of (r2.rd I2.sh),part_of (r3.rd I3.sh)]
 have ra:=((r1.rd I1.sh).mono w2.s w2.g).mono w3.s w3.g
 cases e:a.pv with
 | lst xs=>
   rw [e] at p3 ra
   obtain ⟨q,vs,rfl,hq,hr⟩:=iz ra
   exact ⟨q,vs,rfl,hq,fun b hb=>p3 _ S3 _ (bw.heap I3.sh hb) ⟨b,_,rfl,hb,I3.sh.free hb,bc,hr.cut _ _⟩⟩
 | _=>rw [e] at p3; exact p3.elim
theorem join_some {α:Type} {o:Option (Option α)} {s:α} (h:o.join = some s):o = some (some s):=by
 cases o with
 | none=>cases h
 | some x=>cases x with
   | none=>cases h
   | some y=>rw [show y = s from Option.some.inj h]
theorem EV {α:Type} {l:List (Option α)} {ι:List Nat} {j:Nat} {s:α} (h:(ι.map fun i=>(l[i]?).join)[j]? = some (some s)):∃ i,ι[j]? = some i /\ l[i]? = some (some s):=by
 rw [List.getElem?_map] at h
 cases e:ι[j]? with
 | none=>rw [e] at h; cases h
 | some i=>rw [e] at h; exact ⟨i,rfl,join_some (Option.some.inj h)⟩
noncomputable def FK (ι:List Nat) (Av:Hp):Hp:=fun j=>match ι[j]? with
 | some i=>Av i
 | none=>none
noncomputable def xo (ι:List Nat) (F:Nat -> List Addr):Nat -> List Addr:=fun j=>match ι[j]? with
 | some i=>F i
 | none=>[]
theorem q9.at {i j:Nat} {Av':Hp} {s:Sl} {v:V} {fp:List Addr} (h:q9 K cls Av G S H i s v fp) (e:Av' j = Av i):q9 K cls Av' G S H j s v fp:=by
 cases s with
 | sh x=>exact h
 | ow xs=>exact h
 | ex c fs=>exact h
 | tr io t=>exact ⟨h.1,h.2.1,h.2.2.1,fun z=>by rw [e]; exact h.2.2.2 z⟩
 | bo t=>exact h
theorem SR.pick {ι:List Nat} {x:PV} {v:V} (I:SR K cls Av G S₀ ρ σ S H) (hι:ι.Nodup) (hx:Rep K S x v):SR K cls (FK ι Av) G S₀ (dO ι ρ ++ [some (.sh x)]) (L2.E.pick ι σ ++ [some v]) S H:=by
 obtain ⟨F,J⟩:=I
 have hl:(dO ι ρ).length = (L2.E.pick ι σ).length:=by unfold dO L2.E.pick; simp
 have hp:(dO ι ρ).length = ι.length:=by unfold dO; simp
 refine ⟨xo ι F,J.gh,J.s0,J.sh,J.new,fun j s e=>?_,fun j k a h1 h2=>?_,fun j a h=>?_,by unfold dO L2.E.pick; simp⟩
 . by_cases hj:j < (dO ι ρ).length
   . rw [List.getElem?_append_left hj] at e
     obtain ⟨i,e1,e2⟩:=EV e
     obtain ⟨u,e3,r⟩:=J.own i s e2
     refine ⟨u,?_,?_⟩
     . rw [List.getElem?_append_left (by rw [<- hl]; exact hj)]
       unfold L2.E.pick
       rw [List.getElem?_map,e1]
       show some (σ[i]?).join = _
       rw [e3]; rfl
     . unfold xo
       rw [e1]
       exact r.at (by unfold FK; rw [e1])
   . have hj':(dO ι ρ).length <= j:=Nat.le_of_not_lt hj
     rw [List.getElem?_append_right hj'] at e
     have h0:j - (dO ι ρ).length = 0:=by
      by_cases h:j - (dO ι ρ).length = 0
      . exact h
      . rw [List.getElem?_eq_none (by simp; omega)] at e; cases e
     rw [h0] at e
     cases e
     refine ⟨v,?_,?_,hx⟩
     . rw [List.getElem?_append_right (by rw [<- hl]; exact hj'),<- hl,h0]; rfl
     . unfold xo
       rw [List.getElem?_eq_none (by rw [<- hp]; exact hj')]
 . unfold xo at h1 h2
   cases e1:ι[j]? with
   | none=>rw [e1] at h1; cases h1
   | some i=>
     cases e2:ι[k]? with
     | none=>rw [e2] at h2; cases h2
     | some i'=>
       rw [e1] at h1
       rw [e2] at h2
       have z:=J.apart i i' a h1 h2
       subst z
       obtain ⟨ha,ea⟩:=List.getElem?_eq_some_iff.mp e1
       obtain ⟨hb,eb⟩:=List.getElem?_eq_some_iff.mp e2
       exact (List.getElem_inj hι).mp (ea.trans eb.symm)
 . unfold xo at h
   cases e1:ι[j]? with
   | none=>rw [e1] at h; cases h
   | some i=>rw [e1] at h; exact J.live i a h
theorem Bz {me:ag -> OE} {x:PV} {xs ys:List PV} (h:dI me ρ (x ::xs) = .ok ys):∃ r y zs,me (ρ ++ [some (.sh x)]) = .ok r /\ lL r = some y /\ dI me ρ xs = .ok zs /\ ys = y ::zs:=by
 unfold dI at h
 cases e:me (ρ ++ [some (.sh x)]) with
 | ok r=>
   rw [e] at h
   simp only [OE.gj] at h
   cases e2:lL r with
   | none=>rw [e2] at h; cases h
   | some y=>
     rw [e2] at h
     dsimp only at h
     cases e3:dI me ρ xs with
     | ok zs=>rw [e3] at h; cases h; exact ⟨r,y,zs,rfl,e2,rfl,rfl⟩
     | exc c fs=>rw [e3] at h; cases h
     | bad=>rw [e3] at h; cases h
 | exc c fs=>rw [e] at h; cases h
 | bad=>rw [e] at h; cases h
theorem qm {J:It} {ι:List Nat} {te:TE} {me:ag -> OE} {xs ys:List PV} (hι:ι.Nodup) (he:JE K cls (fun _ _ _ _=>False) te me) (I:SR K cls Av G S₀ ρ σ S H) (hy:dI me (dO ι ρ) xs = .ok ys) (hl:ys.length <= lim)
  (go:∀ k H' x,aK H H' -> xs[k]? = some x -> J.go k H' /\ ∀ v H2,J.yld k H' v H2 -> H2 = H' /\ Rep K S x v) (stop:∀ H',aK H H' -> J.stop xs.length H')
  (hQ:∀ D S' H',bw S H S' H' -> H D = none -> S' D = none -> (∃ us,H' D = some (.lst us) /\ bS K S' ys us) -> Q (.ref D) H'):
  ∀ D,H D = none -> ∃ W:Nat -> Nat -> List V -> Hp -> Prop,(∃ m,W 0 m [] (upd H D (.lst []))) /\ ∀ i m us H',W i m us H' ->
    H' D = some (.lst us) /\ ((J.stop i H' /\ Q (.ref D) H') \/ (J.go i H' /\ ∀ x H2,J.yld i H' x H2 -> te (L2.E.pick ι σ ++ [some x]) H2 fun y H3=>H3 D = some (.lst us) /\ us.length < sizeLine /\ ∃ m',m' < m /\ W (i + 1) m' (us ++ [y]) (upd H3 D (.lst (us ++ [y]))))):=by
 intro D nD
 refine ⟨fun k m us H'=>m + k = xs.length /\ H' D = some (.lst us) /\ ∃ S' zs ws,aK S S' /\ aK H H' /\ aK S' H' /\ (∀ b,S' b ≠ none -> S b ≠ none \/ (H b = none /\ b ≠ D)) /\ bS K S' zs us /\ dI me (dO ι ρ) (xs.drop k) = .ok ws /\ ys = zs ++ ws,
  ⟨xs.length,rfl,bc,S,[],ys,aK.refl _,aK.new nD,I.sh.trans (aK.new nD),fun b z=>.inl z,.nil,hy,rfl⟩,?_⟩
 rintro k m us H' ⟨hm,hD,S',zs,ws,s1,g1,sh1,n1,r1,e1,rfl⟩
 refine ⟨hD,?_⟩
 have hSD:S' D = none:=by
  cases q:S' D with
  | none=>rfl
  | some o=>
    rcases n1 D (by rw [q]; simp) with z | ⟨_,z⟩
    . exact absurd (I.sh.free nD) z
    . exact absurd rfl z
 by_cases hk:k < xs.length
 . refine .inr ?_
   have hx:xs[k]? = some xs[k]:=by simp [hk]
   obtain ⟨hgo,hyld⟩:=go k H' xs[k] g1 hx
   refine ⟨hgo,fun v H2 hv=>?_⟩
   obtain ⟨rfl,rv⟩:=hyld v H2 hv
   rw [List.drop_eq_getElem_cons hk] at e1
   obtain ⟨r,y,zs',em,es,e2,rfl⟩:=Bz e1
   have I1:SR K cls Av G S₀ ρ σ S' H2:=I.grow ⟨s1,g1,sh1,fun b z=>by
    rcases n1 b z with z | ⟨z,_⟩
    . exact .inl z
    . exact .inr z⟩
   refine he _ G S₀ _ _ S' H2 _ (I1.pick hι (Rep.mono s1 rv)) ?_
   rw [em]
   intro u S2 H3 w2 r2
   obtain ⟨S3,w3,s3,ru⟩:=r2.share w2 es
   have hl2:(zs ++ y ::zs').length <= lim:=hl
   have hSD3:S3 D = none:=by
    cases q:S3 D with
    | none=>rfl
    | some o=>
      rcases w3.new D (by rw [q]; simp) with z | z
      . exact absurd hSD z
      . rw [hD] at z; cases z
   refine ⟨w3.g _ _ hD,?_,m - 1,by omega,by omega,bc,S3,zs ++ [y],zs',s1.trans w3.s,(g1.trans w3.g).upd nD,w3.sh.upd hSD3,fun b z=>?_,(r1.mono w3.s).append (.cons ru .nil),e2,by simp⟩
   . rw [r1.length,<- yB]
     rw [List.length_append,List.length_cons] at hl2
     omega
   . rcases w3.new b z with z | z
     . exact n1 b z
     . refine .inr ⟨g1.free z,fun e=>?_⟩
       rw [e,hD] at z; cases z
 . have hk':k = xs.length:=by omega
   subst hk'
   refine .inl ⟨stop H' g1,?_⟩
   rw [List.drop_length] at e1
   cases e1
   exact hQ D S' H' ⟨s1,g1,sh1,fun b z=>by
    rcases n1 b z with z | ⟨z,_⟩
    . exact .inl z
    . exact .inr z⟩ nD hSD ⟨us,hD,by rw [List.append_nil]; exact r1⟩
theorem xS {tl te:TE} {ml me:ag -> OE} {ι:List Nat} (hι:ι.Nodup) (hl:JE K cls W tl ml) (he:JE K cls (fun _ _ _ _=>False) te me):JE K cls W (wm (xU K tl) ι te) (vU ml ι me):=by
 intro Av G S₀ ρ σ S H Q I p
 refine hl.go I p fun r v S1 H1 I1 w1 r1 p1=>?_
 have ra:=r1.rd I1.sh
 cases e:r.pv with
 | lst xs=>
   rw [e] at p1 ra
   obtain ⟨a,vs,rfl,hq,hr⟩:=iz ra
   refine ⟨a,rfl,⟨vs,hq⟩,?_⟩
   dsimp only at p1
   cases em:dI me (dO ι ρ) xs with
   | exc c fs=>rw [em] at p1; exact p1.elim
   | bad=>rw [em] at p1; exact p1.elim
   | ok ys=>
     rw [em] at p1
     simp only [noX] at p1
     split at p1
     . rename_i hlen
       refine qm hι he I1 em hlen (fun k H' x g hx=>?_) (fun H' g=>⟨vs,aK.seq g hq,by rw [hr.length]; exact Nat.le_refl _⟩) fun D S' H' w nD sD ⟨us,hD,rr⟩=>p1 (.ref D) S' H' w ⟨D,us,rfl,nD,sD,hD,rr⟩
       obtain ⟨u,hu,ru⟩:=hr.get hx
       refine ⟨⟨vs,u,aK.seq g hq,hu⟩,?_⟩
       rintro v' H2 ⟨rfl,hv⟩
       have:=hv vs (aK.seq g hq)
       rw [hu] at this
       cases this
       exact ⟨rfl,ru⟩
     . exact p1.elim
 | _=>rw [e] at p1; exact p1.elim
theorem wu {tn te:TE} {mn me:ag -> OE} {ι:List Nat} (hι:ι.Nodup) (hn:JE K cls W tn mn) (he:JE K cls (fun _ _ _ _=>False) te me):JE K cls W (wm (zS (jK tn lK)) ι te) (u5 mn ι me):=by
 intro Av G S₀ ρ σ S H Q I p
 refine hn.go I p fun r v S1 H1 I1 w1 r1 p1=>?_
 have ra:=r1.rd I1.sh
 cases e:r.pv with
 | int j=>
   rw [e] at p1 ra
   have hv:=dv ra
   subst hv
   dsimp only at p1
   split at p1
   . rename_i hj
     refine ⟨j,rfl,hj.1,hj.2,?_⟩
     cases em:dI me (dO ι ρ) (eO j.toNat) with
     | exc c fs=>rw [em] at p1; exact p1.elim
     | bad=>rw [em] at p1; exact p1.elim
     | ok ys=>
       rw [em] at p1
       simp only [noX] at p1
       split at p1
       . rename_i hlen
         have hln:(eO j.toNat).length = j.toNat:=by unfold eO; simp
         refine qm hι he I1 em hlen (fun k H' x g hx=>?_) (fun H' g=>by rw [hln]; exact Nat.le_refl _) fun D S' H' w nD sD ⟨us,hD,rr⟩=>p1 (.ref D) S' H' w ⟨D,us,rfl,nD,sD,hD,rr⟩
         have hk:k < j.toNat:=by rw [<- hln]; exact (List.getElem?_eq_some_iff.mp hx).1
         refine ⟨hk,?_⟩
         rintro v' H2 ⟨rfl,rfl⟩
         refine ⟨rfl,?_⟩
         have:x = .int (k:Int):=by
          unfold eO at hx
          rw [List.getElem?_map,List.getElem?_range hk] at hx
          exact (Option.some.inj hx).symm
         subst this
         unfold Rep
         rw [Int.zero_add]
       . exact p1.elim
   . exact p1.elim
 | _=>rw [e] at p1; exact p1.elim
theorem xH {C:Addr} {c:String} {t:TA} {ma:ag -> OA} (hc:cls c = some C) (ha:JA K cls W t ma):JS K cls W (y4 C W t) (vI c ma):=by
 intro Av G S₀ ρ σ S H D I p
 refine ha.goS I p fun xs vs S1 H1 I1 w1 r1 p1=>?_
 split at p1
 . rename_i hl
   refine ⟨by rw [r1.length]; exact hl,fun a hn=>p1 a C σ S1 _ (I1.grow (bw.heap I1.sh hn)) (aK.refl _) ⟨hc,none,bc,.inl rfl⟩⟩
 . exact p1.elim
theorem Bq {i:Nat} {tb:XW -> TS} {T:Addr} {ts:TS} {mb ms:ag -> OS} {takes:String -> Option Bool} (hb:∀ W,JS K cls W (tb W) mb) (hs:JS K cls (fun _ _ _ _=>False) ts ms) (hT:∀ c C b,cls c = some C -> takes c = some b -> uE K T C b):
  JS K cls W (Hu K tb T ts (some i) W) (vB i mb takes ms):=by
 intro Av G S₀ ρ σ S H D I p
 refine hb _ Av G S₀ ρ σ S H D I ?_
 unfold vB at p
 cases e:mb ρ with
 | exc ρ' c fs=>
   rw [e] at p
   dsimp only at p
   intro a C σ' S' H' I' s' x H2 g2
   cases et:takes c with
   | none=>rw [et] at p; exact p.elim
   | some b=>
     rw [et] at p
     refine ⟨C,b,rfl,hT c C b x.1 et,?_⟩
     have I2:=I'.same g2
     have x2:=x.mono (aK.refl _) g2
     cases b with
     | true=>
       refine tM (hs Av G S₀ _ _ S' H2 _ (I2.Jc (i:=i) x2) ?_)
       dsimp only at p
       cases eo:ms (ρ'.set i (some (.ex c fs))) with
       | exc ρ c fs=>rw [eo] at p; exact p.elim
       | nx ρ=>rw [eo] at p; exact fun σ3 S3 H3 I3 s3=>p (σ3.set i none) S3 H3 I3.zG (s'.trans s3)
       | bk ρ=>rw [eo] at p; exact fun σ3 S3 H3 I3 s3=>p (σ3.set i none) S3 H3 I3.zG (s'.trans s3)
       | ct ρ=>rw [eo] at p; exact fun σ3 S3 H3 I3 s3=>p (σ3.set i none) S3 H3 I3.zG (s'.trans s3)
       | rt ρ r=>rw [eo] at p; exact fun v σ3 S3 H3 I3 s3 r3=>p v σ3 S3 H3 I3 (s'.trans s3) r3
       | bad=>rw [eo] at p; exact p.elim
     | false=>exact tQ (p a C σ' S' H2 I2 s' x2)
 | nx ρ'=>rw [e] at p; exact p
 | bk ρ'=>rw [e] at p; exact p
 | ct ρ'=>rw [e] at p; exact p
 | rt ρ' r=>rw [e] at p; exact p
 | bad=>rw [e] at p; exact p
theorem IB {i:Nat} {T:V} {under:String -> Bool} (hT:∀ c C,cls c = some C -> under c = true -> ∃ bm,nc K C bm /\ ((∃ B bmB,T = .ref B /\ nc K B bmB /\ (Value.ref C ::bm).contains (.ref B) = true) \/ (T = .ty "ValueError" /\ bm.contains (.type "ValueError") = true))):
  JE K cls W (tCB (fun xs H Q=>∃ a T C dx bm,xs = [.ref a,T] /\ H a = some (oN a C dx) /\ nc K C bm /\ ((∃ B bmB,T = .ref B /\ nc K B bmB /\ (Value.ref C ::bm).contains (.ref B) = true) \/ (T = .ty "ValueError" /\ bm.contains (.type "ValueError") = true)) /\ Q (.bl true) H) (jK (qq i) (jK (tC T) lK))) (EZ i under):=by
 intro Av G S₀ ρ σ S H Q I p
 unfold EZ at p
 split at p
 . rename_i c fs e
   obtain ⟨v,e1,a,C,rfl,hc,dx,hx,_⟩:=I.good i _ e
   split at p
   . rename_i hu
     obtain ⟨bm,h1,h2⟩:=hT c C hc hu
     exact ⟨_,e1,a,T,C,dx,bm,rfl,hx,h1,h2,p _ S H (bw.refl I.sh) kO⟩
   . exact p.elim
 . exact p.elim
theorem bS.begin {xs:List PV} {vs:List V} (h:bS K S xs vs) (N:List Str) (i:Nat) (s:Sl) (e:(n8 N.length xs)[i]? = some (some s)):∃ x v,s = .sh x /\ (L2.start N vs)[i]? = some (some v) /\ Rep K S x v:=by
 unfold n8 at e
 by_cases hi:i < xs.length
 . rw [List.getElem?_append_left (by simpa using hi),List.getElem?_map] at e
   have hx:xs[i]? = some xs[i]:=by simp [hi]
   rw [hx] at e
   cases e
   obtain ⟨v,hv,r⟩:=h.get hx
   refine ⟨_,v,rfl,?_,r⟩
   unfold L2.start
   rw [List.getElem?_append_left (by rw [List.length_map,h.length]; exact hi),List.getElem?_map,hv]; rfl
 . rw [List.getElem?_append_right (by simpa using hi)] at e
   rw [List.getElem?_replicate] at e
   split at e <;> cases e
theorem LS {P:Program} {w:World} {mg:Str -> Option Value} {base:Heap} {x qual:Str} {st:Stmt} {f:Addr} {fd:FuncData} {N ps:List Str} {k:Nat} {m:ag -> OS} (F:Fun K x qual st f fd) (Sc:aS N ps (au st))
  (hbody:∀ (cdv:Value) (A:Around) (outer:List Env) (s:Shared) (H:Hp) (E:XK),iO k (A.deeper (envOfC qual (au st) s.heap.objs.size f cdv)) ->
    ∃ t,PSs (pP (CXE P w) P w K mg base N qual (au st) f cdv A outer s H E) (aO st) t /\ JS K cls (fun C a _ H=>∀ H',aK H H' -> E C a H') t m):bV P w K mg base (CXE P w) (k + 1) f fd ps (spP K cls (fnP ps.length N.length m)):=by
 refine okX F Sc (fun vs H Q E h=>?_) fun cdv A outer s H vs Q E hr h=>?_
 . obtain ⟨S,xs,_,r,q⟩:=h
   unfold fnP at q
   split at q
   . rw [r.length]; assumption
   . exact q.elim
 . obtain ⟨S,xs,sS,r,q⟩:=h
   unfold fnP at q
   split at q
   . rename_i hl
     obtain ⟨t,ht,J⟩:=hbody cdv A outer s H E hr
     refine ⟨t,ht,?_⟩
     refine J (fun _=>none) H S (n8 N.length xs) (start N vs) S H _ ⟨fun _=>[],aK.refl _,aK.refl _,sS,fun _ z=>.inl z,fun i s e=>?_,fun i j a h=>(nomatch h),fun i a h=>(nomatch h),?_⟩ ?_
     . obtain ⟨x,v,rfl,e1,rx⟩:=r.begin N i s e
       exact ⟨v,e1,rfl,rx⟩
     . unfold n8 L2.start
       simp [r.length]
     . cases e:m (n8 N.length xs) with
       | nx ρ'=>rw [e] at q; exact fun σ' S' H' I' s'=>q .non S' H' ⟨I'.s0,I'.gh,I'.sh,I'.new⟩ (by show Rep K S' _ _; unfold Rep; rfl)
       | bk ρ'=>rw [e] at q; exact q.elim
       | ct ρ'=>rw [e] at q; exact q.elim
       | bad=>rw [e] at q; exact q.elim
       | rt ρ' r=>
         rw [e] at q
         cases r with
         | al ys=>exact q.elim
         | sh y=>exact fun v σ' S' H' b' s' rr=>q v S' H' ⟨b'.s0,b'.gh,b'.sh,b'.new⟩ rr
         | fr ys=>exact fun v σ' S' H' b' s' rr=>q v S' H' ⟨b'.s0,b'.gh,b'.sh,b'.new⟩ rr
       | exc ρ' c fs=>
         rw [e] at q
         exact fun a C σ' S' H' I' s' x H2 g2=>q a C S' H2 ⟨I'.s0,I'.gh.trans g2,I'.sh.trans g2,I'.new⟩ (x.mono (aK.refl _) g2)
   . exact q.elim
noncomputable def uS (K:PySem.W.Frag):Sp:=fun vs H Q _=>∃ (a:Addr) (ns:List Int),vs = [.ref a] /\ SqL K H a (ns.map V.int) /\ ns.length <= 63 /\ ∀ H',Q (.bl true) H'
theorem EI {f:List PV -> OE} (h:∀ ns:List Int,ns.length <= 63 -> f [.lst (ns.map .int)] = .ok (.sh (.bl true))) (vs:List V) (H:Hp) (Q:VK) (E:XK) (q:uS K vs H Q E):spP K cls f vs H Q E:=by
 obtain ⟨a,ns,rfl,hS,hl,q⟩:=q
 refine ⟨H,[.lst (ns.map .int)],aK.refl _,.cons (by unfold Rep; exact ⟨a,_,rfl,hS,bS.ints⟩) .nil,?_⟩
 rw [h ns hl]
 intro v S' H' w r
 have:v = .bl true:=by have r':Rep K S' (.bl true) v:=r; unfold Rep at r'; exact r'
 subst this
 exact q H'
end
end L2.P
namespace L2.P
open PySem PySem.Spec PyProof.Rows L2 L2.E
section
variable {K:PySem.W.Frag} {cls:String -> Option Addr} {W:XW} {Av G S₀ S S' H H' B B':Hp} {ρ:ag} {σ:St} {Q:VK}
theorem E5 {i:Nat} {te:TE} {me:ag -> OE} {f:Int -> Int -> Int} (he:JE K cls W te me):JS K cls W (EO i te (ipI f)) (qX i (gI (fun _ _=>true) fun i j=>.int (f i j)) me):=by
 intro Av G S₀ ρ σ S H D I p
 unfold qX at p
 split at p
 . rename_i x e
   obtain ⟨v,e1,r⟩:=I.good i _ e
   refine ⟨v,e1,he.goS I p fun rr u S1 H1 I1 w1 r1 p1=>?_⟩
   have ra:=r1.rd I1.sh
   cases x with
   | int a=>
     cases eb:rr.pv with
     | int b=>
       rw [eb] at p1 ra
       have r':Rep K S (.int a) v:=r
       unfold Rep at r'
       subst r'
       exact ⟨a,b,rfl,dv ra,p1 _ S1 H1 (I1.wM (by unfold Rep; rfl)) (aK.refl _)⟩
     | _=>rw [eb] at p1; exact p1.elim
   | _=>cases eb:rr.pv <;> (rw [eb] at p1; exact p1.elim)
 . exact p.elim
theorem hV {i:Nat} {te:TE} {me:ag -> OE} (he:JE K cls W te me):JS K cls W (EO i te (ipI fun i j=>i + j)) (qX i d0 me):=E5 he
theorem uc {x:PV} {v:V} (h:RdV K S H x v):decide (v = .non) = cu x:=by
 cases x with
 | non=>rw [jy h]; rfl
 | bl b=>rw [ni h]; rfl
 | int b=>rw [dv h]; rfl
 | str b=>rw [kQ h]; rfl
 | lst xs=>obtain ⟨p,vs,rfl,_⟩:=iz h; rfl
 | tup xs=>obtain ⟨p,vs,rfl,_⟩:=my h; rfl
theorem p9:JR K (fun x y H Q=>y = .non /\ Q (.bl (decide (x = .non))) H) sG:=by
 intro S H x y v u rr Q I hx hy e k
 unfold sG at e
 split at e
 . cases e
   exact ⟨jy hy,k _ S H (bw.refl I) (by rw [uc hx]; exact kO)⟩
 . cases e
theorem vW:JR K (fun x y H Q=>y = .non /\ Q (.bl (!decide (x = .non))) H) uF:=by
 intro S H x y v u rr Q I hx hy e k
 unfold uF at e
 split at e
 . cases e
   exact ⟨jy hy,k _ S H (bw.refl I) (by rw [uc hx]; exact kO)⟩
 . cases e
theorem AK {i:Nat} {tk te:TE} {mk me:ag -> OE} (hk:JE K cls W tk mk) (he:JE K cls W te me):JS K cls W (qV (tBM K "list" ze (qq i) (jK tk (jK te lK)))) (pH i mk me):=by
 intro Av G S₀ ρ σ S H D I p
 unfold pH at p
 split at p
 . rename_i xs e
   obtain ⟨v,e1,a,vs,rfl,h1,h2,h3,h4⟩:=I.good i _ e
   refine ⟨_,e1,.inl ⟨rfl,_,SqL.new h3⟩,?_⟩
   refine (ae hk (ae he ax)).goS I p fun ys us S1 H1 I1 w1 r1 p1=>?_
   split at p1
   . rename_i k y
     split at p1
     . rename_i hc
       obtain ⟨u1,t1,rfl,q1,r2⟩:=r1.cons_inv
       obtain ⟨u2,t2,rfl,q2,r3⟩:=r2.cons_inv
       rw [r3.nil_inv]
       unfold Rep at q1
       subst q1
       refine ⟨a,vs,k,u2,rfl,rfl,w1.g _ _ h3,hc.1,by rw [h4.length,<- yB]; exact hc.2,?_⟩
       refine p1 σ S1 _ (I1.mut e e1 ?_) (aK.refl _)
       unfold Ca AI
       rw [h4.length]
       exact ((h4.mono w1.s).take _).append (.cons q2 ((h4.mono w1.s).drop _))
     . exact p1.elim
   . exact p1.elim
 . exact p.elim
end
end L2.P
namespace L2
open PySem PySem.Spec PyProof.Rows
structure QE (X:Cx) (e:Expr) (t:TE):Prop where
 out:PE X e t
structure QA (X:Cx) (es:List Expr) (t:TA):Prop where
 out:PA X es t
structure QS (X:Cx) (st:Stmt) (t:TS):Prop where
 out:PS X st t
structure QSs (X:Cx) (st:List Stmt) (t:TS):Prop where
 out:PSs X st t
structure QT (X:Cx) (e:Expr) (t:TT):Prop where
 out:PT X e t
structure QW (X:Cx) (e:Expr) (t:TT):Prop where
 out:PW X e t
structure QI (X:Cx) (tg e:Expr) (t:TI):Prop where
 out:PI X tg e t
structure QG (X:Cx) (e:Expr) (t:TG):Prop where
 out:PG X e t
structure QO (X:Cx) (e:Option Expr) (t:TO):Prop where
 out:PO X e t
end L2
namespace L2.E
open PySem PySem.Spec PyProof.Rows L2
theorem zP {X:L2.Cx} {b:Bool} {j:Nat} {pos:PySem.Pos}:L2.QE X (PySem.Expr.Constant (PySem.Const.bool b) j pos) (L2.tC (L2.V.bl b)):=⟨L2.Jy ⟩
theorem ao {X:L2.Cx} {i:Int} {j:Nat} {pos:PySem.Pos}:L2.QE X (PySem.Expr.Constant (PySem.Const.int i) j pos) (L2.tC (L2.V.int i)):=⟨L2.Ik ⟩
theorem aQ {X:L2.Cx} {x:PySem.Str} {j:Nat} {pos:PySem.Pos}:L2.QE X (PySem.Expr.Constant (PySem.Const.str x) j pos) (L2.tC (L2.V.str x)):=⟨L2.Hf ⟩
theorem da {X:L2.Cx} {j:Nat} {pos:PySem.Pos}:L2.QE X (PySem.Expr.Constant PySem.Const.none j pos) (L2.tC L2.V.non):=⟨L2.HQ ⟩
theorem qv {X:L2.Cx} (h1:Nat) {x:PySem.Str} {pos:PySem.Pos} (h4:X.N[h1]? = Option.some x:=by first | rfl | decide | exact .inl rfl | exact .inr rfl | exact .inr (.inl rfl) | exact .inr (.inr rfl) | assumption | (intro _; rfl) | with_unfolding_all rfl) (h5:L2.Vis X.env.scope x:=by first | rfl | decide | exact .inl rfl | exact .inr rfl | exact .inr (.inl rfl) | exact .inr (.inr rfl) | assumption | (intro _; rfl) | with_unfolding_all rfl) (h6:(x == PySem.Str.ofString "__debug__") = Bool.false:=by first | rfl | decide | exact .inl rfl | exact .inr rfl | exact .inr (.inl rfl) | exact .inr (.inr rfl) | assumption | (intro _; rfl) | with_unfolding_all rfl) (h7:(x == PySem.Str.ofString "__classdict__") = Bool.false:=by first | rfl | decide | exact .inl rfl | exact .inr rfl | exact .inr (.inl rfl) | exact .inr (.inr rfl) | assumption | (intro _; rfl) | with_unfolding_all rfl):L2.QE X (PySem.Expr.Name x pos) (L2.qq h1):=⟨L2.pv h1 h4 h5 h6 h7⟩
theorem aF {X:L2.Cx} {x:PySem.Str} {v:L2.V} {u:PySem.Value} {pos:PySem.Pos} (h5:L2.Gl X x) (h6:X.mg x = Option.some u) (h7:L2.RelV v u) (h8:(x == PySem.Str.ofString "__debug__") = Bool.false:=by first | rfl | decide | exact .inl rfl | exact .inr rfl | exact .inr (.inl rfl) | exact .inr (.inr rfl) | assumption | (intro _; rfl) | with_unfolding_all rfl):L2.QE X (PySem.Expr.Name x pos) (L2.tC v):=⟨L2.DP h5 h6 h7 h8⟩
theorem rA {X:L2.Cx} {x:PySem.Str} {v:L2.V} {u:PySem.Value} {pos:PySem.Pos} (h5:L2.Gl X x) (h6:X.mg x = Option.none) (h7:PySem.bootBuiltins x = Option.some u) (h8:L2.RelV v u) (h9:x ≠ PySem.Str.ofString "__name__":=by first | rfl | decide | exact .inl rfl | exact .inr rfl | exact .inr (.inl rfl) | exact .inr (.inr rfl) | assumption | (intro _; rfl) | with_unfolding_all rfl) (h10:(x == PySem.Str.ofString "__debug__") = Bool.false:=by first | rfl | decide | exact .inl rfl | exact .inr rfl | exact .inr (.inl rfl) | exact .inr (.inr rfl) | assumption | (intro _; rfl) | with_unfolding_all rfl):L2.QE X (PySem.Expr.Name x pos) (L2.tC v):=⟨L2.DK h5 h6 h7 h8 h9 h10⟩
theorem Hd {X:L2.Cx} {a:PySem.Expr} {ta:L2.TE} {pos:PySem.Pos} (h4:L2.QE X a ta):L2.QE X (PySem.Expr.UnaryOp PySem.UnaryOp.Not a pos) (L2.CU ta):=⟨L2.Il h4.out⟩
theorem Br {X:L2.Cx} {a:PySem.Expr} {ta:L2.TE} {pos:PySem.Pos} {op:PySem.UnaryOp} {r:L2.V -> L2.Hp -> L2.VK -> Prop} (h6:L2.UnR X (PySem.unaryOp op) r) (h7:L2.QE X a ta):L2.QE X (PySem.Expr.UnaryOp op a pos) (L2.tUn r ta):=⟨L2.Kc h6 h7.out⟩
theorem aV {X:L2.Cx} {a:PySem.Expr} {b:PySem.Expr} {ta:L2.TE} {tb:L2.TE} {pos:PySem.Pos} {op:PySem.Operator} {r:L2.R2} (h8:L2.OpR X (PySem.binaryOp op) r) (h9:L2.QE X a ta) (h10:L2.QE X b tb):L2.QE X (PySem.Expr.BinOp a op b pos) (L2.tOp r ta tb):=⟨L2.Je h8 h9.out h10.out⟩
theorem j4 {X:L2.Cx} {a:PySem.Expr} {b:PySem.Expr} {ta:L2.TE} {tb:L2.TE} {pos:PySem.Pos} {op:PySem.CmpOp} {r:L2.R2} (h8:L2.OpR X (PySem.compareOp op) r) (h9:L2.QE X a ta) (h10:L2.QE X b tb) (h11:PySem.behindInMarks op b = Bool.false):L2.QE X (PySem.Expr.Compare a [op] [b] pos) (L2.tOp r ta tb):=⟨L2.Ej h8 h9.out h10.out h11⟩
theorem tD {X:L2.Cx} {a:PySem.Expr} {b:PySem.Expr} {c:PySem.Expr} {ta:L2.TE} {tb:L2.TE} {tc:L2.TE} {pos:PySem.Pos} {op:PySem.CmpOp} {op':PySem.CmpOp} {r:L2.R2} {r':L2.R2} (h12:L2.OpR X (PySem.compareOp op) r) (h13:L2.OpR X (PySem.compareOp op') r') (h14:L2.QE X a ta) (h15:L2.QE X b tb) (h16:L2.QE X c tc) (h17:PySem.lastMarks [op,op'] [b,c] = Bool.false:=by first | rfl | decide | exact .inl rfl | exact .inr rfl | exact .inr (.inl rfl) | exact .inr (.inr rfl) | assumption | (intro _; rfl) | with_unfolding_all rfl):L2.QE X (PySem.Expr.Compare a [op,op'] [b,c] pos) (L2.tm r r' ta tb tc):=⟨L2.Du h12 h13 h14.out h15.out h16.out h17⟩
theorem vx {X:L2.Cx} {a:PySem.Expr} {pos:PySem.Pos} {op:PySem.BoolOp} {t:L2.TE} (h5:L2.QE X a t):L2.QE X (PySem.Expr.BoolOp op [a] pos) t:=⟨L2.GZ h5.out⟩
theorem yC {X:L2.Cx} {a:PySem.Expr} {b:PySem.Expr} {ta:L2.TE} {tb:L2.TE} {pos:PySem.Pos} {rest:List PySem.Expr} (h7:L2.QE X a ta) (h8:L2.QE X (PySem.Expr.BoolOp PySem.BoolOp.And (b ::rest) pos) tb):L2.QE X (PySem.Expr.BoolOp PySem.BoolOp.And (a ::b ::rest) pos) (L2.Cs ta tb):=⟨L2.GK h7.out h8.out⟩
theorem JF {X:L2.Cx} {a:PySem.Expr} {b:PySem.Expr} {ta:L2.TE} {tb:L2.TE} {pos:PySem.Pos} {rest:List PySem.Expr} (h7:L2.QE X a ta) (h8:L2.QE X (PySem.Expr.BoolOp PySem.BoolOp.Or (b ::rest) pos) tb):L2.QE X (PySem.Expr.BoolOp PySem.BoolOp.Or (a ::b ::rest) pos) (L2.Ht ta tb):=⟨L2.JQ h7.out h8.out⟩
theorem dN {X:L2.Cx} {a:PySem.Expr} {b:PySem.Expr} {ta:L2.TE} {tb:L2.TE} {pos:PySem.Pos} {tA:L2.TT} {c:PySem.Expr} (h8:L2.QT X c tA) (h9:L2.QE X a ta) (h10:L2.QE X b tb):L2.QE X (PySem.Expr.IfExp c a b pos) (L2.tIf tA ta tb):=⟨L2.DA h8.out h9.out h10.out⟩
theorem bp {X:L2.Cx} {es:List PySem.Expr} {t:L2.TA} {pos:PySem.Pos} (h4:L2.QA X es t):L2.QE X (PySem.Expr.List es pos) (L2.IC t):=⟨L2.HN h4.out⟩
theorem eH {X:L2.Cx} {es:List PySem.Expr} {t:L2.TA} {pos:PySem.Pos} {x1:Nat} (h5:L2.QA X es t):L2.QE X (PySem.Expr.Tuple es x1 pos) (L2.Gw t):=⟨L2.HE h5.out⟩
theorem sL {X:L2.Cx} {e:PySem.Expr} {te:L2.TE} {lo:Option PySem.Expr} {hi:Option PySem.Expr} {tl:L2.TO} {th:L2.TO} {pos:PySem.Pos} {p2:PySem.Pos} {r:L2.V -> Option Int -> Option Int -> L2.Hp -> L2.VK -> Prop} (h10:L2.SlR X r) (h11:L2.QE X e te) (h12:L2.QO X lo tl) (h13:L2.QO X hi th):L2.QE X (PySem.Expr.Subscript e (PySem.Expr.Slice lo hi Option.none p2) pos) (L2.tSl r te tl th):=⟨L2.Cg h10 h11.out h12.out h13.out⟩
theorem cG {X:L2.Cx} {a:PySem.Expr} {b:PySem.Expr} {ta:L2.TE} {tb:L2.TE} {pos:PySem.Pos} {r:L2.R2} (h7:L2.IxR X r) (h8:L2.QE X a ta) (h9:L2.QE X b tb) (h10:L2.Ab b):L2.QE X (PySem.Expr.Subscript a b pos) (L2.tOp r ta tb):=⟨L2.I9 h7 h8.out h9.out h10⟩
theorem pW {X:L2.Cx} {scope:PySem.Scope} {cl:List (PySem.Str × PySem.Addr)} {M:List PySem.Str} {ι:List Nat} {x:PySem.Str} {elt:PySem.Expr} {iter:PySem.Expr} {px:PySem.Pos} {pos:PySem.Pos} {wi:L2.TI} {te:L2.TE} (h12:L2.E.o5 X scope cl M ι x) (h13:X.calm = Bool.true) (h14:L2.QI X (PySem.Expr.Name x px) iter wi) (h15:∀ (C:PySem.Addr) (s₀:PySem.Shared) (H₀:L2.Hp) (ex:List PySem.Addr),L2.QE (L2.E.blk X scope cl (M ++ [x]) C s₀ H₀ ex) elt te) (h16:∀ (v:PySem.Value),PySem.foldedSetIterable iter X.env v = Pure.pure v:=by first | rfl | decide | exact .inl rfl | exact .inr rfl | exact .inr (.inl rfl) | exact .inr (.inr rfl) | assumption | (intro _; rfl) | with_unfolding_all rfl):L2.QE X (PySem.Expr.ListComp elt [PySem.Comprehension.mk (PySem.Expr.Name x px) iter [] 0] scope pos) (L2.E.wm wi ι te):=⟨L2.E.Ea h12 h13 h14.out (fun z0 z1 z2 z3=>(h15 z0 z1 z2 z3).out) h16⟩
theorem aE {X:L2.Cx} {k:Nat} {f:PySem.Addr} {fd:PySem.FuncData} {ps:List PySem.Str} {sp:L2.Sp} {dvs:List L2.V} {ds:List PySem.Value} {W:L2.E.XW} {x:PySem.Str} {p:PySem.Pos} {pos:PySem.Pos} {e:PySem.Expr} {es:List PySem.Expr} {t:L2.TA} (h15:L2.bV X.prog X.w X.K X.mg X.base (L2.E.CXE X.prog X.w) k f fd ps sp) (h16:L2.iO k X.A) (h17:L2.Gl X x) (h18:X.mg x = Option.some (PySem.Value.ref f)) (h19:PySem.W.keepIn X.K (PySem.Value.ref f) = Bool.true) (h20:L2.Binds X.K fd ps ds) (h21:L2.Vals dvs ds) (h22:L2.E.Thr X W) (h23:L2.QA X (e ::es) t) (h24:(x == PySem.Str.ofString "__debug__") = Bool.false:=by first | rfl | decide | exact .inl rfl | exact .inr rfl | exact .inr (.inl rfl) | exact .inr (.inr rfl) | assumption | (intro _; rfl) | with_unfolding_all rfl) (h25:PySem.starEach (e ::es) X.env = (Bool.false,PySem.eval e X.env) ::PySem.starEach es X.env:=by first | rfl | decide | exact .inl rfl | exact .inr rfl | exact .inr (.inl rfl) | exact .inr (.inr rfl) | assumption | (intro _; rfl) | with_unfolding_all rfl) (h26:(List.any (PySem.backTo pos (PySem.starEach es X.env)) fun x=>x.fst) = Bool.false:=by first | rfl | decide | exact .inl rfl | exact .inr rfl | exact .inr (.inl rfl) | exact .inr (.inr rfl) | assumption | (intro _; rfl) | with_unfolding_all rfl):L2.QE X (PySem.Expr.Call (PySem.Expr.Name x p) (e ::es) [] pos) (L2.E.rQ sp dvs W t):=⟨L2.E.Cz h15 h16 h17 h18 h19 h20 h21 h22 h23.out h24 h25 h26⟩
theorem cC {X:L2.Cx} {x:PySem.Str} {p:PySem.Pos} {pos:PySem.Pos} {e:PySem.Expr} {es:List PySem.Expr} {t:L2.TA} {id:String} {r:List L2.V -> L2.Hp -> L2.VK -> Prop} (h9:L2.oS X (PySem.Value.builtin id) r) (h10:L2.Gl X x) (h11:X.mg x = Option.none) (h12:PySem.bootBuiltins x = Option.some (PySem.Value.builtin id)) (h13:L2.QA X (e ::es) t) (h14:x ≠ PySem.Str.ofString "__name__":=by first | rfl | decide | exact .inl rfl | exact .inr rfl | exact .inr (.inl rfl) | exact .inr (.inr rfl) | assumption | (intro _; rfl) | with_unfolding_all rfl) (h15:(x == PySem.Str.ofString "__debug__") = Bool.false:=by first | rfl | decide | exact .inl rfl | exact .inr rfl | exact .inr (.inl rfl) | exact .inr (.inr rfl) | assumption | (intro _; rfl) | with_unfolding_all rfl) (h16:PySem.starEach (e ::es) X.env = (Bool.false,PySem.eval e X.env) ::PySem.starEach es X.env:=by first | rfl | decide | exact .inl rfl | exact .inr rfl | exact .inr (.inl rfl) | exact .inr (.inr rfl) | assumption | (intro _; rfl) | with_unfolding_all rfl) (h17:(List.any (PySem.backTo pos (PySem.starEach es X.env)) fun x=>x.fst) = Bool.false:=by first | rfl | decide | exact .inl rfl | exact .inr rfl | exact .inr (.inl rfl) | exact .inr (.inr rfl) | assumption | (intro _; rfl) | with_unfolding_all rfl):L2.QE X (PySem.Expr.Call (PySem.Expr.Name x p) (e ::es) [] pos) (L2.tCB r t):=⟨L2.CS h9 h10 h11 h12 h13.out h14 h15 h16 h17⟩
theorem lX {X:L2.Cx} {x:PySem.Str} {p:PySem.Pos} {pos:PySem.Pos} {e:PySem.Expr} {es:List PySem.Expr} {t:L2.TA} {T:String} {r:List L2.V -> L2.Hp -> L2.VK -> Prop} (h9:L2.oS X (PySem.Value.type T) r) (h10:L2.Gl X x) (h11:X.mg x = Option.none) (h12:PySem.bootBuiltins x = Option.some (PySem.Value.type T)) (h13:L2.QA X (e ::es) t) (h14:x ≠ PySem.Str.ofString "__name__":=by first | rfl | decide | exact .inl rfl | exact .inr rfl | exact .inr (.inl rfl) | exact .inr (.inr rfl) | assumption | (intro _; rfl) | with_unfolding_all rfl) (h15:(x == PySem.Str.ofString "__debug__") = Bool.false:=by first | rfl | decide | exact .inl rfl | exact .inr rfl | exact .inr (.inl rfl) | exact .inr (.inr rfl) | assumption | (intro _; rfl) | with_unfolding_all rfl) (h16:PySem.starEach (e ::es) X.env = (Bool.false,PySem.eval e X.env) ::PySem.starEach es X.env:=by first | rfl | decide | exact .inl rfl | exact .inr rfl | exact .inr (.inl rfl) | exact .inr (.inr rfl) | assumption | (intro _; rfl) | with_unfolding_all rfl) (h17:(List.any (PySem.backTo pos (PySem.starEach es X.env)) fun x=>x.fst) = Bool.false:=by first | rfl | decide | exact .inl rfl | exact .inr rfl | exact .inr (.inl rfl) | exact .inr (.inr rfl) | assumption | (intro _; rfl) | with_unfolding_all rfl):L2.QE X (PySem.Expr.Call (PySem.Expr.Name x p) (e ::es) [] pos) (L2.tCB r t):=⟨L2.A9 h9 h10 h11 h12 h13.out h14 h15 h16 h17⟩
theorem og {X:L2.Cx} {o:PySem.Expr} {e:PySem.Expr} {es:List PySem.Expr} {to:L2.TE} {t:L2.TA} {name:PySem.Str} {apos:PySem.Pos} {cpos:PySem.Pos} {T:String} {id:String} {r:L2.V -> List L2.V -> L2.Hp -> L2.VK -> Prop} (h12:PySem.PlainAttrs T) (h13:PySem.Slot T name id) (h14:PySem.typeOf (PySem.Value.builtin id) = Pure.pure (PySem.Value.type "method_descriptor")) (h15:L2.MtR X id r) (h16:L2.QE X o to) (h17:L2.QA X (e ::es) t) (h18:PySem.attributeBase o name X.env (PySem.eval o X.env) = PySem.eval o X.env:=by first | rfl | decide | exact .inl rfl | exact .inr rfl | exact .inr (.inl rfl) | exact .inr (.inr rfl) | assumption | (intro _; rfl) | with_unfolding_all rfl) (h19:(((List.all (PySem.backTo cpos (PySem.starEach (e ::es) X.env)) fun x=>!x.fst) && List.all (PySem.backToKw cpos (PySem.keywordEach [] X.env)) fun x=>Option.isSome x.fst) && Decidable.decide ((List.length (e ::es) + List.length ([]:List Keyword) + if List.isEmpty ([]:List Keyword) = Bool.true then 0 else 1) < 30)) = Bool.true:=by first | rfl | decide | exact .inl rfl | exact .inr rfl | exact .inr (.inl rfl) | exact .inr (.inr rfl) | assumption | (intro _; rfl) | with_unfolding_all rfl) (h20:(apos.endLine == cpos.line) = Bool.true:=by first | rfl | decide | exact .inl rfl | exact .inr rfl | exact .inr (.inl rfl) | exact .inr (.inr rfl) | assumption | (intro _; rfl) | with_unfolding_all rfl) (h21:PySem.starEach (e ::es) X.env = (Bool.false,PySem.eval e X.env) ::PySem.starEach es X.env:=by first | rfl | decide | exact .inl rfl | exact .inr rfl | exact .inr (.inl rfl) | exact .inr (.inr rfl) | assumption | (intro _; rfl) | with_unfolding_all rfl) (h22:(List.any (PySem.backTo cpos (PySem.starEach es X.env)) fun x=>x.fst) = Bool.false:=by first | rfl | decide | exact .inl rfl | exact .inr rfl | exact .inr (.inl rfl) | exact .inr (.inr rfl) | assumption | (intro _; rfl) | with_unfolding_all rfl):L2.QE X (PySem.Expr.Call (PySem.Expr.Attribute o name apos) (e ::es) [] cpos) (L2.tBM X.K T r to t):=⟨L2.Jt h12 h13 h14 h15 h16.out h17.out h18 h19 h20 h21 h22⟩
theorem CZ {X:L2.Cx} {o:PySem.Expr} {to:L2.TE} {name:PySem.Str} {apos:PySem.Pos} {cpos:PySem.Pos} {T:String} {id:String} {r:L2.V -> List L2.V -> L2.Hp -> L2.VK -> Prop} (h9:PySem.PlainAttrs T) (h10:PySem.Slot T name id) (h11:PySem.typeOf (PySem.Value.builtin id) = Pure.pure (PySem.Value.type "method_descriptor")) (h12:L2.MtR X id r) (h13:L2.QE X o to) (h14:PySem.attributeBase o name X.env (PySem.eval o X.env) = PySem.eval o X.env:=by first | rfl | decide | exact .inl rfl | exact .inr rfl | exact .inr (.inl rfl) | exact .inr (.inr rfl) | assumption | (intro _; rfl) | with_unfolding_all rfl) (h15:(apos.endLine == cpos.line) = Bool.true:=by first | rfl | decide | exact .inl rfl | exact .inr rfl | exact .inr (.inl rfl) | exact .inr (.inr rfl) | assumption | (intro _; rfl) | with_unfolding_all rfl):L2.QE X (PySem.Expr.Call (PySem.Expr.Attribute o name apos) [] [] cpos) (L2.Gj X.K T r to):=⟨L2.He h9 h10 h11 h12 h13.out h14 h15⟩
theorem oy {X:L2.Cx} {e:PySem.Expr} {te:L2.TE} (h3:L2.QE X e te):L2.QO X (Option.some e) (L2.CP te):=⟨L2.Fo h3.out⟩
theorem ak {X:L2.Cx}:L2.QA X [] L2.lK:=⟨L2.GH ⟩
theorem aa {X:L2.Cx} {e:PySem.Expr} {es:List PySem.Expr} {te:L2.TE} {t:L2.TA} (h5:L2.QE X e te) (h6:L2.QA X es t) (h7:L2.E.isStar e = Bool.false:=by first | rfl | decide | exact .inl rfl | exact .inr rfl | exact .inr (.inl rfl) | exact .inr (.inr rfl) | assumption | (intro _; rfl) | with_unfolding_all rfl):L2.QA X (e ::es) (L2.jK te t):=⟨L2.E.Bu h5.out h6.out h7⟩
theorem aB {X:L2.Cx} {a:PySem.Expr} {b:PySem.Expr} {ta:L2.TE} {tb:L2.TE} {pos:PySem.Pos} {op:PySem.CmpOp} {r:L2.R2} (h8:L2.OpR X (PySem.compareOp op) r) (h9:L2.QE X a ta) (h10:L2.QE X b tb) (h11:PySem.behindInMarks op b = Bool.false):L2.QT X (PySem.Expr.Compare a [op] [b] pos) (L2.xT (L2.tOp r ta tb)):=⟨L2.DG h8 h9.out h10.out h11⟩
theorem jA {X:L2.Cx} {a:PySem.Expr} {b:PySem.Expr} {c:PySem.Expr} {ta:L2.TE} {tb:L2.TE} {tc:L2.TE} {pos:PySem.Pos} {op:PySem.CmpOp} {op':PySem.CmpOp} {r:L2.R2} {r':L2.R2} (h12:L2.OpR X (PySem.compareOp op) r) (h13:L2.OpR X (PySem.compareOp op') r') (h14:L2.QE X a ta) (h15:L2.QE X b tb) (h16:L2.QE X c tc) (h17:PySem.lastMarks [op,op'] [b,c] = Bool.false:=by first | rfl | decide | exact .inl rfl | exact .inr rfl | exact .inr (.inl rfl) | exact .inr (.inr rfl) | assumption | (intro _; rfl) | with_unfolding_all rfl):L2.QT X (PySem.Expr.Compare a [op,op'] [b,c] pos) (L2.xT (L2.tm r r' ta tb tc)):=⟨L2.BC h12 h13 h14.out h15.out h16.out h17⟩
theorem sC {X:L2.Cx} {a:PySem.Expr} {pos:PySem.Pos} {tA:L2.TT} (h4:L2.QT X a tA):L2.QT X (PySem.Expr.UnaryOp PySem.UnaryOp.Not a pos) (L2.E2 tA):=⟨L2.G7 h4.out⟩
theorem eU {X:L2.Cx} {a:PySem.Expr} {ta:L2.TE} (h3:L2.QE X a ta) (h4:∀ (whole:PySem.Sem PySem.Value),
 PySem.isTrue a X.env whole = do
  let v <- whole
  PySem.standAt (PySem.Expr.pos a)
  PySem.holding [v] (PySem.truthy v)):L2.QT X a fun σ H Q=>ta σ H fun x H'=>∃ k,L2.yW X.K x H' k /\ Q k H':=⟨L2.Df h3.out h4⟩
theorem sP {X:L2.Cx} {e:PySem.Expr} {t:L2.TT} (h3:L2.QW X e t):L2.QT X e t:=⟨L2.PW.pt h3.out⟩
theorem vJ {X:L2.Cx} {a:PySem.Expr} {pos:PySem.Pos} {tA:L2.TT} (h4:L2.QT X a tA):L2.QW X (PySem.Expr.BoolOp PySem.BoolOp.And [a] pos) tA:=⟨L2.Er h4.out⟩
theorem ve {X:L2.Cx} {a:PySem.Expr} {pos:PySem.Pos} {tA:L2.TT} (h4:L2.QT X a tA):L2.QW X (PySem.Expr.BoolOp PySem.BoolOp.Or [a] pos) tA:=⟨L2.Hj h4.out⟩
theorem vE {X:L2.Cx} {a:PySem.Expr} {b:PySem.Expr} {pos:PySem.Pos} {tA:L2.TT} {tB':L2.TT} {rest:List PySem.Expr} (h7:L2.QT X a tA) (h8:L2.QW X (PySem.Expr.BoolOp PySem.BoolOp.And (b ::rest) pos) tB'):L2.QW X (PySem.Expr.BoolOp PySem.BoolOp.And (a ::b ::rest) pos) (L2.IM tA tB'):=⟨L2.GD h7.out h8.out⟩
theorem xn {X:L2.Cx} {a:PySem.Expr} {b:PySem.Expr} {pos:PySem.Pos} {tA:L2.TT} {tB':L2.TT} {rest:List PySem.Expr} (h7:L2.QT X a tA) (h8:L2.QW X (PySem.Expr.BoolOp PySem.BoolOp.Or (b ::rest) pos) tB'):L2.QW X (PySem.Expr.BoolOp PySem.BoolOp.Or (a ::b ::rest) pos) (L2.tOr tA tB'):=⟨L2.JJ h7.out h8.out⟩
theorem qz {X:L2.Cx} {tg:PySem.Expr} {a:PySem.Expr} {ta:L2.TA} {p:PySem.Pos} {pos:PySem.Pos} (h6:L2.Gl X (PySem.Str.ofString "range")) (h7:X.mg (PySem.Str.ofString "range") = Option.none) (h8:L2.QA X [a] ta) (h9:PySem.starEach [a] X.env = [(Bool.false,PySem.eval a X.env)]:=by first | rfl | decide | exact .inl rfl | exact .inr rfl | exact .inr (.inl rfl) | exact .inr (.inr rfl) | assumption | (intro _; rfl) | with_unfolding_all rfl):L2.QI X tg (PySem.Expr.Call (PySem.Expr.Name (PySem.Str.ofString "range") p) [a] [] pos) (L2.zS ta):=⟨L2.AF h6 h7 h8.out h9⟩
theorem ly {X:L2.Cx} {tg:PySem.Expr} {l:PySem.Expr} {tl:L2.TE} (h4:L2.QE X l tl):L2.QI X tg l (L2.xU X.K tl):=⟨L2.Eb h4.out⟩
theorem HD {X:L2.Cx} {tg:PySem.Expr} {l:PySem.Expr} {tl:L2.TE} (h4:L2.QE X l tl):L2.QI X tg l (L2.Ig X.K tl):=⟨L2.Hn h4.out⟩
theorem bu {X:L2.Cx} {pos:PySem.Pos} {i:Nat} {x:PySem.Str} {e:PySem.Expr} {te:L2.TE} {pos':PySem.Pos} (h7:List.Nodup X.N) (h8:X.N[i]? = Option.some x) (h9:L2.Loc X.env.scope x) (h10:L2.QE X e te) (h11:PySem.swapsWith e (Option.some (PySem.Expr.Name x pos')) pos.line X.env = Pure.pure Bool.false:=by first | rfl | decide | exact .inl rfl | exact .inr rfl | exact .inr (.inl rfl) | exact .inr (.inr rfl) | assumption | (intro _; rfl) | with_unfolding_all rfl) (h12:X.fn x = Bool.true \/ List.lookup x X.env.scope.names = Option.some PySem.NameKind.local:=by first | rfl | decide | exact .inl rfl | exact .inr rfl | exact .inr (.inl rfl) | exact .inr (.inr rfl) | assumption | (intro _; rfl) | with_unfolding_all rfl):L2.QS X (PySem.Stmt.Assign [PySem.Expr.Name x pos'] e pos) (L2.xa te (L2.nr i)):=⟨L2.Hy h7 h8 h9 h10.out h11 h12⟩
theorem Gs {X:L2.Cx} {pos:PySem.Pos} {tg:PySem.Expr} {e:PySem.Expr} {te:L2.TE} {g:L2.TG} (h6:L2.QE X e te) (h7:L2.QG X tg g) (h8:PySem.swapsWithSole [tg] e pos.line X.env = Pure.pure Bool.false:=by first | rfl | decide | exact .inl rfl | exact .inr rfl | exact .inr (.inl rfl) | exact .inr (.inr rfl) | assumption | (intro _; rfl) | with_unfolding_all rfl) (h9:PySem.swappedStores [tg] e X.env = Pure.pure Option.none:=by first | rfl | decide | exact .inl rfl | exact .inr rfl | exact .inr (.inl rfl) | exact .inr (.inr rfl) | assumption | (intro _; rfl) | with_unfolding_all rfl) (h10:List.map (fun x=>x.snd) (PySem.assignEach [tg] X.env) = [PySem.assign tg X.env]:=by first | rfl | decide | exact .inl rfl | exact .inr rfl | exact .inr (.inl rfl) | exact .inr (.inr rfl) | assumption | (intro _; rfl) | with_unfolding_all rfl):L2.QS X (PySem.Stmt.Assign [tg] e pos) (L2.xa te g):=⟨L2.HY h6.out h7.out h8 h9 h10⟩
theorem oe {X:L2.Cx} {pos:PySem.Pos} {i:Nat} {x:PySem.Str} {e:PySem.Expr} {te:L2.TE} {op:PySem.Operator} {ti:L2.TIp} {pos':PySem.Pos} (h9:List.Nodup X.N) (h10:X.N[i]? = Option.some x) (h11:L2.Loc X.env.scope x) (h12:L2.QE X e te) (h13:L2.PIp X op ti) (h14:X.fn x = Bool.true \/ List.lookup x X.env.scope.names = Option.some PySem.NameKind.local:=by first | rfl | decide | exact .inl rfl | exact .inr rfl | exact .inr (.inl rfl) | exact .inr (.inr rfl) | assumption | (intro _; rfl) | with_unfolding_all rfl):L2.QS X (PySem.Stmt.AugAssign (PySem.Expr.Name x pos') op e pos) (L2.EO i te ti):=⟨L2.H0 h9 h10 h11 h12.out h13 h14⟩
theorem aZ {X:L2.Cx} {t:L2.TS} {u:L2.TS} {pos:PySem.Pos} {c:PySem.Expr} {a:List PySem.Stmt} {b:List PySem.Stmt} {tc:L2.TT} (h8:L2.QT X c tc) (h9:L2.QSs X a t) (h10:L2.QSs X b u):L2.QS X (PySem.Stmt.If c a b pos) (L2.E8 tc t u):=⟨L2.JL h8.out h9.out h10.out⟩
theorem aA {X:L2.Cx} {e:PySem.Expr} {te:L2.TE} {pos:PySem.Pos} (h4:L2.QE X e te):L2.QS X (PySem.Stmt.Return (Option.some e) pos) (L2.DH te):=⟨L2.GN h4.out⟩
theorem iM {X:L2.Cx} {e:PySem.Expr} {te:L2.TE} {pos:PySem.Pos} (h4:L2.QE X e te) (h5:PySem.swapsWith e Option.none pos.line X.env = Pure.pure Bool.false:=by first | rfl | decide | exact .inl rfl | exact .inr rfl | exact .inr (.inl rfl) | exact .inr (.inr rfl) | assumption | (intro _; rfl) | with_unfolding_all rfl):L2.QS X (PySem.Stmt.Expr e pos) (L2.qV te):=⟨L2.Eu h4.out h5⟩
theorem kX {X:L2.Cx} {pos:PySem.Pos} {c:PySem.Expr} {body:List PySem.Stmt} {tc:L2.TT} {tb:L2.TS} (h6:PySem.PassesOwn (PySem.model X.prog X.w) X.A X.env X.xe) (h7:L2.QT X c tc) (h8:L2.QSs X body tb):L2.QS X (PySem.Stmt.While c body [] pos) (L2.yf tc tb):=⟨L2.B9 h6 h7.out h8.out⟩
theorem pk {X:L2.Cx} {tg:PySem.Expr} {iter:PySem.Expr} {body:List PySem.Stmt} {wi:L2.TI} {g:L2.TG} {tb:L2.TS} {pos:PySem.Pos} (h8:PySem.PassesOwn (PySem.model X.prog X.w) X.A X.env X.xe) (h9:X.calm = Bool.true) (h10:L2.QI X tg iter wi) (h11:L2.QG X tg g) (h12:L2.QSs X body tb) (h13:∀ (x:PySem.Value),PySem.foldedSetIterable iter X.env x = Pure.pure x:=by first | rfl | decide | exact .inl rfl | exact .inr rfl | exact .inr (.inl rfl) | exact .inr (.inr rfl) | assumption | (intro _; rfl) | with_unfolding_all rfl):L2.QS X (PySem.Stmt.For tg iter body [] pos) (L2.B4 wi g tb):=⟨L2.HX h8 h9 h10.out h11.out h12.out h13⟩
theorem wD {X:L2.Cx} {x:PySem.Str} {np:PySem.Pos} {cpos:PySem.Pos} {pos:PySem.Pos} {e₀:PySem.Expr} {rest:List PySem.Expr} {t:L2.TA} {W:L2.E.XW} {C:PySem.Addr} {B:String} {newId:String} {initId:String} {bm:List PySem.Value} (h14:L2.E.Thr X W) (h15:X.A.handled = Option.none) (h16:PySem.ExcBaseFacts B newId initId bm) (h17:L2.Gl X x) (h18:X.mg x = Option.some (PySem.Value.ref C)) (h19:PySem.W.excIn X.K C bm newId = Bool.true) (h20:L2.QA X (e₀ ::rest) t) (h21:PySem.starEach (e₀ ::rest) X.env = (Bool.false,PySem.eval e₀ X.env) ::PySem.starEach rest X.env:=by first | rfl | decide | exact .inl rfl | exact .inr rfl | exact .inr (.inl rfl) | exact .inr (.inr rfl) | assumption | (intro _; rfl) | with_unfolding_all rfl) (h22:(List.any (PySem.backTo cpos (PySem.starEach rest X.env)) fun x=>x.fst) = Bool.false:=by first | rfl | decide | exact .inl rfl | exact .inr rfl | exact .inr (.inl rfl) | exact .inr (.inr rfl) | assumption | (intro _; rfl) | with_unfolding_all rfl) (h23:(x == PySem.Str.ofString "__debug__") = Bool.false:=by first | rfl | decide | exact .inl rfl | exact .inr rfl | exact .inr (.inl rfl) | exact .inr (.inr rfl) | assumption | (intro _; rfl) | with_unfolding_all rfl):L2.QS X (PySem.Stmt.Raise (Option.some (PySem.Expr.Call (PySem.Expr.Name x np) (e₀ ::rest) [] cpos)) Option.none pos) (L2.E.y4 C W t):=⟨L2.E.BB h14 h15 h16 h17 h18 h19 h20.out h21 h22 h23⟩
theorem B0 {X:L2.Cx} {x:PySem.Str} {n:PySem.Str} {np:PySem.Pos} {hpos:PySem.Pos} {pos:PySem.Pos} {body:List PySem.Stmt} {suite:List PySem.Stmt} {b₀:PySem.Stmt} {tb:L2.E.XW -> L2.TS} {ts:L2.TS} {T:PySem.Addr} {W₀:L2.E.XW} {i:Nat} (h14:X.stack = X.env ::X.outer /\ X.env.frame = Option.some X.env.locals) (h15:List.Nodup X.N) (h16:X.N[i]? = Option.some n) (h17:List.lookup n X.env.scope.names = Option.some PySem.NameKind.local) (h18:∀ (pn:List (PySem.Addr × PySem.Obj)) (xe:PySem.Value -> PySem.Shared -> Prop) (W:L2.E.XW),L2.E.Thr (L2.E.tE X pn xe) W -> PySem.PassesOwn (PySem.model X.prog X.w) X.A X.env xe -> L2.QSs (L2.E.tE X pn xe) body (tb W)) (h19:L2.Gl X x) (h20:X.mg x = Option.some (PySem.Value.ref T)) (h21:∀ (a:PySem.Addr),L2.QSs (L2.E.hand X a) (b₀ ::suite) ts) (h22:L2.E.Thr X W₀) (h23:(x == PySem.Str.ofString "__debug__") = Bool.false:=by first | rfl | decide | exact .inl rfl | exact .inr rfl | exact .inr (.inl rfl) | exact .inr (.inr rfl) | assumption | (intro _; rfl) | with_unfolding_all rfl):L2.QS X (PySem.Stmt.Try body [PySem.ExceptHandler.ExceptHandler (Option.some (PySem.Expr.Name x np)) (Option.some n) (b₀ ::suite) hpos] [] [] pos) (L2.E.Hu X.K tb T ts (Option.some i) W₀):=⟨L2.E.C5 h14 h15 h16 h17 (fun z0 z1 z2 z3 z4=>(h18 z0 z1 z2 z3 z4).out) h19 h20 (fun z0=>(h21 z0).out) h22 h23⟩
theorem lp {X:L2.Cx} {pos:PySem.Pos} {i:Nat} {x:PySem.Str} (h4:List.Nodup X.N) (h5:X.N[i]? = Option.some x) (h6:L2.Loc X.env.scope x) (h7:X.fn x = Bool.true \/ List.lookup x X.env.scope.names = Option.some PySem.NameKind.local:=by first | rfl | decide | exact .inl rfl | exact .inr rfl | exact .inr (.inl rfl) | exact .inr (.inr rfl) | assumption | (intro _; rfl) | with_unfolding_all rfl):L2.QG X (PySem.Expr.Name x pos) (L2.nr i):=⟨L2.DE h4 h5 h6 h7⟩
theorem aG {X:L2.Cx}:L2.QSs X [] L2.Cf:=⟨L2.Eg ⟩
theorem aq {X:L2.Cx} {st:PySem.Stmt} {t:L2.TS} (h3:L2.QS X st t):L2.QSs X [st] t:=⟨L2.zy h3.out⟩
theorem ai {X:L2.Cx} {st:PySem.Stmt} {rest:List PySem.Stmt} {t:L2.TS} {u:L2.TS} (h5:L2.QS X st t) (h6:L2.QSs X rest u):L2.QSs X (st ::rest) (L2.HG t u):=⟨L2.BJ h5.out h6.out⟩
end L2.E
namespace L2.P
open PySem PySem.Spec PyProof.Rows L2 L2.E
theorem dY {K:PySem.W.Frag} {cls:String -> Option Addr} {P:Program} {w:World} {mg:Str -> Option Value} {base:Heap} {x qual:Str} {st:Stmt} {f:Addr} {fd:FuncData} {N ps:List Str} {k:Nat} {m:ag -> OS} (F:Fun K x qual st f fd) (Sc:aS N ps (au st))
  (hbody:∀ (cdv:Value) (A:Around) (outer:List Env) (s:Shared) (H:Hp) (E:XK),iO k (A.deeper (envOfC qual (au st) s.heap.objs.size f cdv)) ->
    ∃ t,QSs (pP (CXE P w) P w K mg base N qual (au st) f cdv A outer s H E) (aO st) t /\ JS K cls (fun C a _ H=>∀ H',aK H H' -> E C a H') t m):bV P w K mg base (CXE P w) (k + 1) f fd ps (spP K cls (fnP ps.length N.length m)):=
 LS F Sc fun cdv A outer s H E hr=>let ⟨t,h1,h2⟩:=hbody cdv A outer s H E hr; ⟨t,h1.out,h2⟩
end L2.P
namespace L2.E
open PySem PySem.Spec PyProof.Rows L2
end L2.E
namespace L2.P
open PySem PySem.Spec PyProof.Rows L2 L2.E
end L2.P
namespace L2.E
open PySem PySem.Spec PyProof.Rows L2
noncomputable def dr:List Value:=[.type "ValueError",.type "Exception",.type "BaseException",.type "object"]
noncomputable def dD:List Value -> Bool
 | .ref _ ::r=>dD r
 | l=>l == dr
theorem ng {c:Addr} {r:List Value}:dD (.ref c ::r) = dD r:=by simp [dD]
theorem sN:∀ {l:List Value},dD l = true -> l.contains (.type "object") = true /\ l.contains (.type "BaseException") = true /\ l.isEmpty = false
 | .ref c ::r,e=>by
   rw [ng] at e
   obtain ⟨h1,h2,h3⟩:=sN e
   exact ⟨by rw [List.contains_cons,h1,Bool.or_true],by rw [List.contains_cons,h2,Bool.or_true],rfl⟩
 | [],e=>by simp [dD,dr] at e
 | .type n ::r,e=>by
   have e':(Value.type n ::r) = dr:=by simpa [dD] using e
   rw [e']; decide
 | .none ::r,e=>by simp [dD,dr] at e
 | .bool b ::r,e=>by simp [dD,dr] at e
 | .int i t ::r,e=>by simp [dD,dr] at e
 | .str i t ::r,e=>by simp [dD,dr] at e
 | .builtin i ::r,e=>by simp [dD,dr] at e
 | .float i t ::r,e=>by simp [dD,dr] at e
 | .bytes i t ::r,e=>by simp [dD,dr] at e
 | .ellipsis ::r,e=>by simp [dD,dr] at e
theorem r9 (self:Value):∀ {l:List Value},dD l = true -> refuseLoop self "__setattr__" l = pure ()
 | .ref c ::r,e=>by rw [refuseLoop_ref]; exact r9 self (by rw [ng] at e; exact e)
 | [],e=>by simp [dD,dr] at e
 | .type n ::r,e=>by
   have e':(Value.type n ::r) = dr:=by simpa [dD] using e
   rw [e']; exact PySem.F.store_ValueError.passes self
 | .none ::r,e=>by simp [dD,dr] at e
 | .bool b ::r,e=>by simp [dD,dr] at e
 | .int i t ::r,e=>by simp [dD,dr] at e
 | .str i t ::r,e=>by simp [dD,dr] at e
 | .builtin i ::r,e=>by simp [dD,dr] at e
 | .float i t ::r,e=>by simp [dD,dr] at e
 | .bytes i t ::r,e=>by simp [dD,dr] at e
 | .ellipsis ::r,e=>by simp [dD,dr] at e
noncomputable def sI (K:PySem.W.Frag) (C:Addr):Bool:=(PySem.W.clsIn K C).any fun cd=>dD cd.mro
structure yL (K:PySem.W.Frag) (C:Addr) (f:Str):Prop where
 hd:PySem.W.hasDictIn K C = true
 mr:sI K C = true
 sa:PySem.W.findIn K (.ref C) "__setattr__" = some (some (.builtin "object.__setattr__"))
 ga:PySem.W.findIn K (.ref C) "__getattribute__" = some (some (.builtin "BaseException.__getattribute__"))
 gt:PySem.W.findIn K (.ref C) "__getattr__" = some none
 na:PySem.W.findIn K (.ref C) f = some none
section
variable {prog:Program} {w:World} {A:Around} {E:Value -> Shared -> Prop} {s:Shared} {K:PySem.W.Frag} {x C:Addr} {name:Str} {v:Value}
open PySem.W in
theorem LD {ox:Obj} {od:Option Obj} {tk:Tok} {R:Result -> Shared -> Prop} (X:K.In s.heap) (I:InstAt s.heap x ox C od) (c:yL K C name)
  (h:wpAny (model prog w) A.in1 (Builtin.ObjectAttr.storeInOwnDict (.ref x) (.ref C) (.str name tk) name v false)
    (fun fin s'=>match fin with | .done f=>R (.ok f) s' | .again c'=>c'.quiet = true /\ codeAny (model prog w) A c' R s') (fun e s'=>R (.error e) s') s):
  codeAny (model prog w) A (.call (.builtin "object.__setattr__") ⟨[.ref x,.str name tk,v],[]⟩) R s:=by
 have SF:=PySem.F.store_object
 obtain ⟨cd,hc,ho⟩:=any_some (show (clsIn K C).any (fun cd=>dD cd.mro) = true from c.mr)
 obtain ⟨q1,q2,q3⟩:=sN ho
 have sub:Looks (model prog w) s.heap (isInstance (.ref x) (.type "object")) true:=I.type.andThen (looks_mroIn X (by unfold mroIn; rw [hc,Option.bind_some,if_neg (by rw [q3]; decide),q1]))
 refine codeAny_call_builtin SF.slot.plain SF.entry (@check_slot (model prog w) _ _ s "object.__setattr__" "object" "__setattr__" (.ref x) [.str name tk,v] [] _ SF.kind SF.split sub (SF.args (.ref x) (.str name tk) v) ?_)
 have hm:Looks (model prog w) s.heap (mroOf (.ref C)) cd.mro:=(looks_clsIn X hc).andThen .now
 rw [osa_eq,refuse_eq]
 refine wpAny_bind (wpAny_bind (I.type.here (wpAny_bind (hm.here ?_))))
 rw [r9 _ ho]
 exact wpAny_pure (wpAny_bind (I.type.here (wpAny_bind ((looks_findIn X c.na).here (wpAny_bind (Looks.here (r:=none) .now h))))))
open PySem.W in
theorem K0 {ox:Obj} {vs:Array Value} {Q:Unit -> Shared -> Prop} (X:K.In s.heap) (hx:s.heap.get? x = some ox) (hcls:ox.cls = .ref C) (hdict:ox.dict = none) (hdat:ox.data = .fields vs) (c:yL K C name)
  (h:∀ h',h'.get? x = some { ox with dict:=some s.heap.objs.size } -> h'.Ns1 s.heap.objs.size (fun y=>if y = name then some v else none) -> (∀ b o,b ≠ x -> s.heap.get? b = some o -> h'.get? b = some o) -> Q () { s with heap:=h',toks:=s.toks + 2 }):
  wpAny (model prog w) A (setAttr (.ref x) name v) Q E s:=by
 obtain ⟨oc,odi,oda,osl⟩:=ox
 dsimp only at hcls hdict hdat
 subst hcls hdict hdat
 have I:InstAt s.heap x ⟨.ref C,none,.fields vs,osl⟩ C none:=⟨hx,rfl,rfl,trivial⟩
 refine set_plain X I c.sa (LD (s:={ s with toks:=s.toks + 1 }) X I c ?_)
 obtain ⟨cd,hc,hd'⟩:=any_some c.hd
 have ne:s.heap.objs.size ≠ x:=Nat.ne_of_gt (Heap.lt_size hx)
 refine wpAny_bind (wpAny_pure (wpAny_bind (wpAny_bind (wpAny_loadPart hx (wpAny_bind (Looks.here (s:={ s with toks:=s.toks + 1 }) (looks_clsIn X hc) ?_))))))
 rw [hd']
 refine wpAny_bind (wpAny_alloc ?_)
 have hx1:(s.heap.push { cls:=.type "dict",data:=.dict #[] }).get? x = some ⟨.ref C,none,.fields vs,osl⟩:=Heap.get?_push_of_some _ hx
 refine wpAny_bind (wpAny_update hx1 ?_)
 refine wpAny_pure (a:=some s.heap.objs.size) (wpAny_bind (wpAny_pure (wpAny_bind ?_)))
 have e1:(s.heap.push { cls:=.type "dict",data:=.dict #[] }).get? s.heap.objs.size = some { cls:=.type "dict",data:=.dict #[] }:=Heap.get?_push_size s.heap rfl
 have e2:((s.heap.push { cls:=.type "dict",data:=.dict #[] }).update x fun o=>{ o with dict:=some s.heap.objs.size }).get? s.heap.objs.size = some { cls:=.type "dict",data:=.dict #[] }:=
  (Heap.get?_update_other _ _ (Ne.symm ne)).trans e1
 have n1:Heap.Ns1 ((s.heap.push { cls:=.type "dict",data:=.dict #[] }).update x fun o=>{ o with dict:=some s.heap.objs.size }) s.heap.objs.size (fun _=>none):=
  Heap.Ns1.of_empty ⟨_,#[],_,e2,rfl,(fun e he=>absurd he (by simp)),fun _=>rfl⟩
 refine wpAny_nsSet1 n1 fun h' hn2 hs2=>?_
 have hw:PySem.Within (fun _=>(none:Option Value)) ([]:List Str):=fun y hy=>absurd rfl hy
 obtain ⟨oD,esD,epD,hoD,hdD,hcD⟩:=hn2.count (PySem.Within.cons name v hw)
 refine wpAny_bind (wpAny_lookBehind hoD (by rw [hdD]; exact pastItsLine_dict (Nat.le_trans hcD (by simp))) ?_)
 have hx2:((s.heap.push { cls:=.type "dict",data:=.dict #[] }).update x fun o=>{ o with dict:=some s.heap.objs.size }).get? x = some ⟨.ref C,some s.heap.objs.size,.fields vs,osl⟩:=
  Heap.get?_update_self _ hx1 rfl
 exact wpAny_pure (h h' ((hs2.2 _ (Ne.symm ne)).trans hx2) hn2 fun b o hb e=>(hs2.2 b (Nat.ne_of_lt (Heap.lt_size e))).trans ((Heap.get?_update_other _ _ (Ne.symm hb)).trans (Heap.get?_push_of_some _ e)))
end
noncomputable def BY (a C:Addr) (dx:Option Addr) (h:Heap):Prop:=∃ o t,h.get? a = some o /\ o.cls = .ref C /\ o.dict = dx /\ o.data = .fields #[.ref t,.none,.none,.none,.bool false,.none]
noncomputable abbrev lh (a C:Addr) (dx:Option Addr):HO:=.ext (BY a C dx)
theorem zT {P:Program} {w:World} {H:Hp} {h:Heap} {a C:Addr} {dx:Option Addr} (x:BY a C dx h):fY P w H h a (lh a C dx):=by
 refine ⟨x,let ⟨o,_,e,_⟩:=x; ⟨o,e⟩,fun h1 h2 p k=>?_⟩
 obtain ⟨o,vs,e,r⟩:=p
 exact ⟨o,vs,k o e,r⟩
theorem BY.exc {a C:Addr} {dx:Option Addr} {h:Heap} (x:BY a C dx h):CJ a C dx h:=let ⟨o,t,e,c,d,f⟩:=x; ⟨o,_,e,c,d,f,rfl⟩
section
variable {X:Cx} {pins:List (Addr × Obj)} {σ:St} {H:Hp} {s:Shared} {a C:Addr} {f:Str} {A:Around} {E:Value -> Shared -> Prop}
theorem Dt {y:V} {u:Value} {Q:Unit -> Shared -> Prop} (I:Inv X pins σ H s) (e:H a = some (lh a C none)) (c:yL X.K C f) (ry:RelV y u)
  (h:∀ s' d,H d = none -> Inv X pins σ (upd (upd H a (lh a C (some d))) d (.xd [(f,y)])) s' -> Q () s'):wpAny (model X.prog X.w) A (setAttr (.ref a) f u) Q E s:=by
 obtain ⟨⟨o,tv,ho,hc,hd,hv⟩,_,_⟩:=I.hok a _ e
 refine K0 I.kIn ho hc hd hv c fun h' h1 h2 h3=>?_
 have nd:H s.heap.objs.size = none:=I.hok.fresh (Nat.le_refl _)
 have ned:∀ b ob,s.heap.get? b = some ob -> b ≠ s.heap.objs.size:=fun b ob q=>Nat.ne_of_lt (Heap.lt_size q)
 have nea:s.heap.objs.size ≠ a:=Ne.symm (ned a o ho)
 have off:∀ b,b ≠ a -> b ≠ s.heap.objs.size -> (upd (upd H a (lh a C (some s.heap.objs.size))) s.heap.objs.size (.xd [(f,y)])) b = H b:=fun b q1 q2=>by rw [bb q2,bb q1]
 have na:∀ b ob,H b = some ob -> ob ≠ lh a C none -> b ≠ a:=fun b ob q n z=>by rw [z,e] at q; exact n (Option.some.inj q).symm
 have nb:∀ b ob,H b = some ob -> b ≠ s.heap.objs.size:=fun b ob q z=>by rw [z,nd] at q; cases q
 have un:Un (frs X.stack) [] H (upd (upd H a (lh a C (some s.heap.objs.size))) s.heap.objs.size (.xd [(f,y)])) s.heap h':=by
  have keep:∀ b ob,s.heap.get? b = some ob -> H b = none -> h'.get? b = some ob:=fun b ob q n=>h3 b ob (fun z=>by rw [z,e] at n; cases n) q
  refine ⟨fun b ob q n _ _=>keep b ob q n,fun b ob q n _ _=>⟨ob.slots,keep b ob q n⟩,fun b ob q n _=>?_,fun b ob q _=>?_,fun b xs q=>?_,fun b ob xs q=>?_,fun b ps q=>⟨#[],?_⟩⟩
  . rw [off b (fun z=>by rw [z,e] at n; cases n) (ned b ob q)]; exact n
  . by_cases z:b = a
    . subst z; exact ⟨_,h1⟩
    . exact ⟨ob,h3 b ob z q⟩
  . rw [off b (na b _ q (by intro z; cases z)) (nb b _ q)]; exact q
  . rw [off b (na b _ q (by intro z; cases z)) (nb b _ q)]; exact q
  . rw [off b (na b _ q (by intro z; cases z)) (nb b _ q),q]; simp
 have hok:HOk X.prog X.w (upd (upd H a (lh a C (some s.heap.objs.size))) s.heap.objs.size (.xd [(f,y)])) h':=fun b ob q=>by
  by_cases zb:b = s.heap.objs.size
  . subst zb
    rw [bc] at q
    cases q
    refine ⟨_,h2,fun g=>?_⟩
    show bI (List.lookup g [(f,y)]) (if g = f then some u else none)
    by_cases z:g = f
    . subst z; simp [List.lookup,bI,ry]
    . have zz:(g == f) = false:=beq_eq_false_iff_ne.mpr z
      simp [List.lookup,zz,z,bI]
  . rw [bb zb] at q
    by_cases za:b = a
    . subst za
      rw [bc] at q
      cases q
      exact zT ⟨_,tv,h1,hc,rfl,hv⟩
    . rw [bb za] at q
      refine (I.hok b ob q).o6 (fun b' u' hb' r=>h3 b' u' ?_ r) (fun b' r=>?_) fun b' xs r=>?_
      . rcases hb' with z | z
        . rw [z]; exact za
        . exact na b' _ z (by intro z; cases z)
      . rw [off b' (na b' _ r (by intro z; cases z)) (nb b' _ r)]; exact r
      . rw [off b' (na b' _ r (by intro z; cases z)) (nb b' _ r)]; exact r
 exact h _ s.heap.objs.size nd (I.call (g':=s.gens) (t':=s.toks + 2) (d':=s.drawn) (ch:=[]) un hok I.bare (fun b z=>absurd z (by simp)))
end
end L2.E
namespace L2.E
open PySem PySem.Spec PyProof.Rows L2
section
variable {prog:Program} {w:World} {A:Around} {E:Value -> Shared -> Prop} {s:Shared} {K:PySem.W.Frag} {x C:Addr} {name:Str} {v:Value} {tk:Tok}
open PySem.W in
end
section
variable {prog:Program} {w:World} {A:Around} {E:Value -> Shared -> Prop} {hh:Heap} {g:Array GenState} {d:Drawn} {t:Nat} {os:OsState} {K:PySem.W.Frag} {x C:Addr} {name:Str} {v:Value} {tk:Tok}
open PySem.W in
end
section
variable {prog:Program} {w:World} {A:Around} {E:Value -> Shared -> Prop} {s:Shared} {K:PySem.W.Frag} {x C:Addr} {name:Str} {v:Value}
open PySem.W in
end
section
variable {X:Cx} {pins:List (Addr × Obj)} {σ:St} {H:Hp} {s:Shared} {a C d:Addr} {f:Str} {A:Around} {E:Value -> Shared -> Prop}
noncomputable def C6 (K:PySem.W.Frag) (ta tv:TE) (f:Str):TS:=fun D σ H=>tv σ H fun y H1=>ta σ H1 fun x H2=>∃ a C,x = .ref a /\ H2 a = some (lh a C none) /\ yL K C f /\ ∀ d,H2 d = none -> D.nx σ (upd (upd H2 a (lh a C (some d))) d (.xd [(f,y)]))
theorem EB {o value:Expr} {ta tv:TE} {pos pos':Pos} (ha:PE X o ta) (hv:PE X value tv) (hs:swapsWith value (some (.Attribute o f pos')) pos.line X.env = pure false:=by rfl):PS X (.Assign [.Attribute o f pos'] value pos) (C6 X.K ta tv f):=by
 intro pins s σ H D I h
 refine plainObj_wpAny_Assign_Attribute (thn (hv pins s σ H _ I h) fun u s1 ⟨y,H1,I1,ry,q⟩=>thn (ha pins s1 σ H1 _ I1 q) fun ov s2 ⟨x,H2,I2,rx,a,C,ex,ea,c,q2⟩=>?_) hs
 subst ex
 obtain rfl:ov = Value.ref a:=rx
 exact Dt I2 ea c ry fun s3 d nd I3=>⟨σ,_,I3,q2 d nd⟩
end
noncomputable def sj (C:Addr) (f:Str):Sp:=fun vs H Q _=>∃ a v,vs = [.ref a,v] /\ H a = some (lh a C none) /\ ∀ d,H d = none -> Q .non (upd (upd H a (lh a C (some d))) d (.xd [(f,v)]))
end L2.E
namespace L2.E
open PySem PySem.Spec PyProof.Rows L2
section
variable {prog:Program} {w:World} {A:Around} {E:Value -> Shared -> Prop} {h:Heap} {g:Array GenState} {d:Drawn} {t:Nat} {os:OsState} {K:PySem.W.Frag}
variable {nm q:Str} {C N:Addr} {bs bm bmB:List Value} {hdct:Bool} {sn:List Str} {sub:List Value} {ab:Bool} {col:Option Bool} {dd:Option Addr} {k0 k1 k2 k3 k5:Option Value} {B newId initId:String}
open PySem.W in
theorem G2 (F:ExcBaseFacts B newId initId bmB) (T:OwnTail h bmB bm) {rest:List Value} {fI:Addr} {oI:Obj} {Q:Fin -> Shared -> Prop} (X:K.In h)
  (hC:h.get? C = some (excClassObj nm q C N bs bm hdct sn sub ab col dd k0 k1 k2 k3 k5 newId)) (hi:findIn K (.ref C) "__init__" = some (some (.ref fI)))
  (hfI:h.get? fI = some oI) (hfc:oI.cls = .type "function")
  (hq:∀ h' e,Heap.MadeExcOf h h' e (.ref C) rest ->
    wpAny (model prog w) A (call (.ref fI) (.ref e ::rest)) (fun r s'=>r = .none /\ Q (.done (.ret (.ref e))) s') E ⟨h',g,d,t,os⟩) (hrest:rest.length <= sizeLine):
  wpAny (model prog w) A (Builtin.«type.__call__» ⟨.ref C ::rest,[]⟩) Q E ⟨h,g,d,t,os⟩:=by
 repeat (first | with_reducible refine wpAny_loadPart_at hC ?_ | with_reducible refine wpAny_madeBy_exc hC ?_ | wp_step)
 refine codeAny_call_builtin_code (Code.quiet_builtin _ F.quiet) (wpAny_check_new_subT F T hC ?_)
 refine codeAny_exc_new_subT F T hC ?_ hrest
 show wpAny _ _ _ _ _ _
 have hC₁:=Heap.get?_push_of_some { cls:=.ref C,data:=.fields #[.ref h.objs.size,.none,.none,.none,.bool false,.none] }
  (Heap.get?_push_of_some { cls:=.type "tuple",data:=.seq rest.toArray } hC)
 have hfI₁:=Heap.get?_push_of_some { cls:=.ref C,data:=.fields #[.ref h.objs.size,.none,.none,.none,.bool false,.none] }
  (Heap.get?_push_of_some { cls:=.type "tuple",data:=.seq rest.toArray } hfI)
 have X₁:K.In ((h.push { cls:=.type "tuple",data:=.seq rest.toArray }).push { cls:=.ref C,data:=.fields #[.ref h.objs.size,.none,.none,.none,.bool false,.none] }):=
  X.keeps fun b o e=>Heap.get?_push_of_some _ (Heap.get?_push_of_some _ e)
 have hget:((h.push { cls:=.type "tuple",data:=.seq rest.toArray }).push
   { cls:=.ref C,data:=.fields #[.ref h.objs.size,.none,.none,.none,.bool false,.none] }).get? (h.objs.size + 1) = some
   { cls:=.ref C,data:=.fields #[.ref h.objs.size,.none,.none,.none,.bool false,.none] }:=by heap_get
 have hcC:(Value.ref C ::bm).contains (.ref C) = true:=by simp
 unfold isInstance
 repeat (first | with_reducible refine wpAny_loadPart_at hget ?_ | (with_reducible refine wpAny_isSubtype_exc hC₁ ?_; rw [hcC]) | wp_step)
 show wpAny _ _ (typeLookup (.ref C) _) _ _ _
 refine (looks_findIn (M:=model prog w) X₁ hi).at ?_
 refine wpAny_holding (wpAny_bind ?_)
 unfold bindSpecial
 refine wpAny_bind (wpAny_typeOf (T:="function") ⟨_,hfI₁,hfc⟩ ?_)
 rw [if_pos (by decide)]
 refine wpAny_pure (wpAny_bind (wpAny_mono (hq _ (h.objs.size + 1) ⟨fun b o hb=>Heap.get?_push_of_some _ (Heap.get?_push_of_some _ hb),Heap.get?_none_of_le (Nat.le_succ _),h.objs.size,hget,Heap.get?_none_of_le (Nat.le_refl _),?_⟩) (fun r s' hr=>?_) fun _ _ x=>x))
 . exact Heap.get?_push_of_some _ (Heap.get?_push_at rfl rfl)
 . obtain ⟨rfl,hQ⟩:=hr
   wp_walk
   exact hQ
open PySem.W in
theorem BM (F:ExcBaseFacts B newId initId bmB) (T:OwnTail h bmB bm) {rest:List Value} {fI:Addr} {oI:Obj} {Q:Value -> Shared -> Prop} (X:K.In h)
  (hC:h.get? C = some (excClassObj nm q C N bs bm hdct sn sub ab col dd k0 k1 k2 k3 k5 newId)) (hi:findIn K (.ref C) "__init__" = some (some (.ref fI)))
  (hfI:h.get? fI = some oI) (hfc:oI.cls = .type "function")
  (hq:∀ h' e,Heap.MadeExcOf h h' e (.ref C) rest ->
    wpAny (model prog w) (A.under (.builtin "type.__call__" ⟨.ref C ::rest,[]⟩)) (call (.ref fI) (.ref e ::rest)) (fun r s'=>r = .none /\ Q (.ref e) s') E ⟨h',g,d,t,os⟩) (hrest:rest.length <= sizeLine):
  wpAny (model prog w) A (call (.ref C) rest) Q E ⟨h,g,d,t,os⟩:=by
 have f1:=tc_lookup
 have f2:=tc_bind (.ref C)
 have hT:(⟨h,g,d,t,os⟩:Shared).TypeIs (.ref C) "type":=⟨_,hC,rfl⟩
 refine wpAny_call (codeAny_of_tree ?_)
 show wpAny _ _ (callAny (.ref C) _) _ _ _
 repeat (any_goals (first | assumption | with_reducible refine wpAny_loadPart_at hC ?_ | wp_step))
 refine ⟨rfl,?_⟩
 refine codeAny_call_builtin_at (Code.quiet_builtin _ (by decide +kernel)) entry_typeCall (wpAny_check_type_call_sub hC (G2 F T X hC hi hfI hfc (fun h' e hm=>?_) hrest))
 exact hq h' e hm
theorem yT {M:Model} {env:Env} {s:Shared} {x:Sem Value} {Q:Flow -> Shared -> Prop} (hbase:bm.contains (.type "BaseException") = true) (hh:A.handled = none)
  (h:wpAny M A x (fun v s₁=>∃ e dct tt sl,v = .ref e /\ s₁.heap.get? C = some (excClassObj nm q C N bs bm hdct sn sub ab col dd k0 k1 k2 k3 k5 newId) /\
    s₁.heap.get? e = some ⟨.ref C,dct,.fields #[.ref tt,.none,.none,.none,.bool false,.none],sl⟩ /\ E (.ref e) s₁) E s):
  wpAny M A (raiseStmt env (some x) none) Q E s:=by
 have hcB:(Value.ref C ::bm).contains (.type "BaseException") = true:=by rw [List.contains_cons,hbase,Bool.or_true]
 unfold raiseStmt
 refine wpAny_bind (wpAny_mono h (fun v s₁ h₁=>?_) fun _ _ x=>x)
 obtain ⟨e,dct,tt,sl,rfl,hC,he,hE⟩:=h₁
 obtain ⟨hp,g,d,tk,os⟩:=s₁
 repeat (first | with_reducible refine wpAny_loadPart_at he ?_ | with_reducible refine wpAny_loadPart_at hC ?_ | (with_reducible refine wpAny_isSubtype_exc hC ?_; rw [hcB]) | wp_step)
 exact wpAny_raiseNew_none hh hE
end
structure XMk (K:PySem.W.Frag) (mg:Str -> Option Value) (x:Str) (C fI:Addr) (bm:List Value) (f:Str):Prop where
 m:mg x = some (.ref C)
 lk:∃ nm q N bs hdct sn sub ab col dd k0 k1 k2 k3 k5,K.lookup C = some (excClassObj nm q C N bs bm hdct sn sub ab col dd k0 k1 k2 k3 k5 "ValueError.__new__")
 bx:bm.contains (.type "BaseException") = true
 tl:∀ h:Heap,K.In h -> OwnTail h dr bm
 ini:PySem.W.findIn K (.ref C) "__init__" = some (some (.ref fI))
 fn:∃ o,K.lookup fI = some o /\ o.cls = .type "function"
 xc:yL K C f
section
variable {X:Cx} {x f:Str} {np cpos pos:Pos} {e₀:Expr} {t:TA} {W:XW} {C fI:Addr} {bm:List Value} {k:Nat} {fd:FuncData} {ps:List Str}
noncomputable def vq (C:Addr) (f:Str) (W:XW) (t:TA):TS:=fun D σ H=>t σ H fun vs H1=>∃ v,vs = [v] /\ ∀ a d H2,aK H1 H2 -> H2 a = some (oN a C (some d)) -> H2 d = some (.xd [(f,v)]) -> W (.ref C) (some a) σ H2
theorem LP {X:Cx} {pins:List (Addr × Obj)} {σ:St} {H:Hp} {s:Shared} {h':Heap} {e C:Addr} {us:List Value} (I:Inv X pins σ H s) (hm:Heap.MadeExcOf s.heap h' e (.ref C) us):
  H e = none /\ Inv X pins σ (upd H e (lh e C none)) { s with heap:=h' }:=by
 obtain ⟨t,he,_,_⟩:=hm.there
 exact ⟨vt I hm.new,Fz I hm.keeps hm.new (zT ⟨_,t,he,rfl,rfl,rfl⟩)⟩
theorem Bk (M:XMk X.K X.mg x C fI bm f) (F:bV X.prog X.w X.K X.mg X.base (CXE X.prog X.w) k fI fd ps (sj C f)) (hb:Binds X.K fd ps []) (hr:iO (k + 1) X.A) (hT:Thr X W) (hg:Gl X x) (ha:PA X [e₀] t)
  (he:isStar e₀ = false:=by rfl) (hd:(x == ("__debug__":Str)) = false:=by decide):
  PS X (.Raise (some (.Call (.Name x np) [e₀] [] cpos)) none pos) (vq C f W t):=by
 intro pins s σ H D I h
 have FB:=PySem.F.excBase_ValueError
 obtain ⟨nm,q,N,bs,hdct,sn,sub,ab,col,dd,k0,k1,k2,k3,k5,lk⟩:=M.lk
 obtain ⟨oI,lI,cI⟩:=M.fn
 have hpl:(backTo cpos (starEach [e₀] X.env)).any (·.1) = false:=by rw [oA he]; rfl
 have hsp:=ha cpos pins s σ H _ I h
 rw [arm_exec_Raise]
 refine wpAny_bind (wpAny_standAt (yT (C:=C) (nm:=nm) (q:=q) (N:=N) (bs:=bs) (bm:=bm) (hdct:=hdct) (sn:=sn) (sub:=sub) (ab:=ab) (col:=col) (dd:=dd) (k0:=k0) (k1:=k1) (k2:=k2) (k3:=k3) (k5:=k5) (newId:="ValueError.__new__") M.bx hr.hd
  (wpAny_bind (wpAny_mono (wpAny_Call_ofName (mL I hg M.m ?_ hd)) (fun v s₃ h₃=>wpAny_bind (wpAny_standAt (wpAny_pure h₃))) fun _ _ x=>x))))
 unfold callWith
 refine wpAny_bind (wpAny_holding ?_)
 rw [oA he] at hsp
 rw [oA he]
 refine Calls.evalArgs_plain (wpAny_mono hsp (fun us s2 h2=>wpAny_bind (wpAny_standAt ?_)) fun _ _ y=>y)
 obtain ⟨vs,H2,I2,r,v,rfl,wv⟩:=h2
 obtain ⟨u,rfl,ru⟩:=vals1 r
 obtain ⟨hp,g,d,tk,os⟩:=s2
 have hpl':(backTo cpos ((false,eval e₀ X.env) ::starEach [] X.env)).any (·.1) = false:=rfl
 simp only [hpl']
 have hC:=I2.kIn _ _ lk
 refine wpAny_bind (wpAny_keeperOf_exc hC ?_)
 refine wpAny_bind (BM FB (M.tl _ I2.kIn) I2.kIn hC M.ini (I2.kIn _ _ lI) cI (fun h' e hm=>?_) (by show 1 <= sizeLine; decide))
 obtain ⟨nE,I3⟩:=LP I2 hm
 have hsp3:sj C f [.ref e,v] (upd H2 e (lh e C none)) (fun z H4=>z = .non /\ ∃ dd,aK H2 H4 /\ H4 e = some (lh e C (some dd)) /\ H4 dd = some (.xd [(f,v)])) (fun _ _ _=>False):=by
  refine ⟨e,v,rfl,bc,fun dd nd=>⟨rfl,dd,?_,?_,bc⟩⟩
  . have ne:dd ≠ e:=fun z=>by rw [z,bc] at nd; cases nd
    intro b o hb
    have nb:b ≠ e:=vi hb nE
    have nd2:b ≠ dd:=fun z=>by rw [z] at hb; rw [bb ne,hb] at nd; cases nd
    rw [bb nd2,bb nb,bb nb]; exact hb
  . have ne:e ≠ dd:=fun z=>by rw [<- z,bc] at nd; cases nd
    rw [bb ne,bc]
 have hl:([Value.ref e,u] ++ []).length = ps.length:=by
  have e1:=F.len _ _ _ _ hsp3
  rw [<- e1]; rfl
 refine wpAny_call (codeAny_mono (F.run _ X.stack _ _ ⟨[Value.ref e,u],[]⟩ ([Value.ref e,u] ++ []) [.ref e,v] _ _ (hr.make C [u] []) (I3.HA.make C [u] []) (hb _ [Value.ref e,u] I3.kIn hl) (.cons rfl (.cons ru .nil)) hsp3) fun r s' hq'=>?_)
 cases r with
 | error e'=>
   obtain ⟨_,_,_,_,_,_,_,_,_,_,z⟩:=hq'
   exact z.elim
 | ok fl=>
   cases fl with
   | next=>exact False.elim hq'
   | brk=>exact False.elim hq'
   | cont=>exact False.elim hq'
   | ret u'=>
     obtain ⟨z,H4,I4,rz,ez,dd',sm,h4,h5⟩:=I3.after hq'
     subst ez
     obtain ⟨⟨o4,tt,g4,c4,d4,f4⟩,_,_⟩:=I4.hok e _ h4
     refine ⟨rz,wpAny_bind (wpAny_holding (wpAny_point (wpAny_pure ?_)))⟩
     obtain ⟨oc,od,oda,osl⟩:=o4
     dsimp only at c4 d4 f4
     subst c4 d4 f4
     refine ⟨e,some dd',tt,osl,rfl,I4.kIn _ _ lk,g4,?_⟩
     obtain ⟨hh,gg,d2,t2,o2⟩:=s'
     have I5:=I4.write (x:=e) (e:=e) (o:=oN e C (some dd')) (t':=t2) (h':=hh) (by rw [h4]; trivial) (.inl rfl) (fun b u hb q=>q) ⟨_,g4⟩ (yi (BY.exc ⟨_,tt,g4,rfl,rfl,rfl⟩))
     have ned:dd' ≠ e:=fun z=>by rw [z,h4] at h5; cases h5
     have sm2:aK H2 (upd H4 e (oN e C (some dd'))):=fun b o hb=>by
      have nb:b ≠ e:=vi hb nE
      rw [bb nb]; exact sm b o hb
     exact hT pins σ _ _ e C (some dd') I5 ⟨bc,_,_,g4,rfl,.inl rfl⟩ (wv e dd' _ sm2 bc (by rw [bb ned]; exact h5))
end
end L2.E
namespace L2.E
open PySem PySem.Spec PyProof.Rows L2
theorem qw {X:Cx} {x f:Str} {np cpos pos:Pos} {e₀:Expr} {t:TA} {W:XW} {C fI:Addr} {bm:List Value} {k:Nat} {fd:FuncData} {ps:List Str} (M:XMk X.K X.mg x C fI bm f) (F:bV X.prog X.w X.K X.mg X.base (CXE X.prog X.w) k fI fd ps (sj C f)) (hb:Binds X.K fd ps []) (hr:iO (k + 1) X.A) (hT:Thr X W) (hg:Gl X x) (ha:QA X [e₀] t)
  (he:isStar e₀ = false:=by rfl) (hd:(x == ("__debug__":Str)) = false:=by decide):QS X (.Raise (some (.Call (.Name x np) [e₀] [] cpos)) none pos) (vq C f W t):=⟨Bk M F hb hr hT hg ha.out he hd⟩
theorem EK {K:PySem.W.Frag} {G:Addr} {bm:List Value} (eG:nc K G bm) (q:PySem.W.excIn K G dr "ValueError.__new__" = true):∀ h:Heap,K.In h -> OwnTail h dr (.ref G ::bm):=by
 intro h Xh
 have O:=zj (mg:=fun _=>some (.ref G)) (x:="") Xh rfl q
 obtain ⟨tl,N,nm,q',bs,hdct,sn,sub,ab,col,dd,k0,k1,k2,k3,k5,mN,hc,hN,hni,T⟩:=O.obj
 obtain ⟨_,nm2,q2,N2,bs2,hd2,sn2,sub2,ab2,col2,dd2,j0,j1,j2,j3,j5,nid,lG⟩:=eG
 have e:=Xh _ _ lG
 rw [hc] at e
 have e1:tl = bm:=by
  have e':=Option.some.inj e
  unfold excClassObj at e'
  simp only [Obj.mk.injEq,Data.cls.injEq,ClassData.mk.injEq,List.cons.injEq] at e'
  exact e'.2.2.1.2.2.1.2
 subst e1
 exact OwnTail.own hc hN hni T
theorem A7 {K:PySem.W.Frag} {nm q:Str} {C N:Addr} {bs bm:List Value} {hdct:Bool} {sn:List Str} {sub:List Value} {ab:Bool} {col:Option Bool} {dd:Option Addr} {k0 k1 k2 k3 k5:Option Value} {newId:String}
  (l:K.lookup C = some (excClassObj nm q C N bs bm hdct sn sub ab col dd k0 k1 k2 k3 k5 newId)) (h:dD (.ref C ::bm) = true):sI K C = true:=by
 unfold sI PySem.W.clsIn
 rw [l]
 exact h
theorem DJ {P:Program} {w:World} {K:PySem.W.Frag} {mg:Str -> Option Value} {base:Heap} {C fI:Addr} {fd:FuncData} {st:Stmt} {x qual:Str} {n0 n1 f:Str} (F:Fun K x qual st fI fd) (S:aS [n0,n1] [n0,n1] (au st)) (xc:yL K C f)
  (hbody:∀ (cdv:Value) (A:Around) (outer:List Env) (s:Shared) (H:Hp) (E:XK),QSs (pP (CXE P w) P w K mg base [n0,n1] qual (au st) fI cdv A outer s H E) (aO st) (C6 K (qq 0) (qq 1) f)):
  bV P w K mg base (CXE P w) 1 fI fd [n0,n1] (sj C f):=
 okX F S (fun vs H Q E h=>by obtain ⟨a,v,rfl,_⟩:=h; rfl) fun cdv A outer s H vs Q E hr h=>by
  obtain ⟨a,v,rfl,hH,q⟩:=h
  exact ⟨_,(hbody cdv A outer s H E).out,_,rfl,_,rfl,a,C,rfl,hH,xc,fun d nd=>q d nd⟩
theorem Co {X:Cx} {o value:Expr} {ta tv:TE} {f:Str} {pos pos':Pos} (ha:QE X o ta) (hv:QE X value tv) (hs:swapsWith value (some (.Attribute o f pos')) pos.line X.env = pure false:=by rfl):QSs X [.Assign [.Attribute o f pos'] value pos] (C6 X.K ta tv f):=⟨zy (EB ha.out hv.out hs)⟩
theorem G4 {X:Cx} {o i:Expr} {to ti:TE} {t:DN} {pos:Pos} (ho:QE X o to) (hi:QE X i ti) (hs:Gv X t)
  (ha:∀ v,assign (.Subscript o i pos) X.env v = (do
    let ov <- holding [v] (eval o X.env)
    let iv <- holding [v,ov] (eval i X.env)
    standAt pos
    holding [v,ov,iv] (setItem ov iv v)
    release [v,ov,iv] []):=by intro _; rfl):QG X (.Subscript o i pos) (IF to ti t):=⟨HP ho.out hi.out hs ha⟩
end L2.E
namespace L2.P
open PySem PySem.Spec PyProof.Rows L2 L2.E
section
variable {K:PySem.W.Frag} {cls:String -> Option Addr} {W:XW} {S H:Hp}
theorem qD {C:Addr} {c:String} {f:Str} {t:TA} {ma:ag -> OA} (hc:cls c = some C) (ha:JA K cls W t ma):JS K cls W (vq C f W t) (pJ c f ma):=by
 intro Av G S₀ ρ σ S H D I p
 refine ha.goS I p fun xs vs S1 H1 I1 w1 r1 p1=>?_
 match xs,r1,p1 with
 | [x],r1,p1=>
   obtain ⟨v,r,rfl,q1,r2⟩:=r1.cons_inv
   obtain rfl:=r2.nil_inv
   exact ⟨v,rfl,fun a d H2 sm h4 h5=>p1 a C σ S1 H2 (I1.same sm) (aK.refl _) ⟨hc,some d,h4,.inr ⟨d,[(f,v)],rfl,h5,rfl,.cons q1 .nil⟩⟩⟩
 | [],r1,p1=>exact p1.elim
 | _ ::_ ::_,r1,p1=>exact p1.elim
theorem ID {i:Nat} {tk tv:TE} {mk mv:ag -> OE} (hk:JE K cls W tk mk) (hv:JE K cls W tv mv):JS K cls W (xa tv (IF (qq i) tk Fx)) (DF i mk mv):=by
 intro Av G S₀ ρ σ S H D I p
 unfold DF at p
 split at p
 . rename_i xs e
   refine hv Av G S₀ ρ σ S H _ I ?_
   cases em:mv ρ with
   | exc c fs=>rw [em] at p; exact fun a C S' H' w x=>p a C σ S' H' (I.grow w) w.s x
   | bad=>rw [em] at p; exact p
   | ok r=>
     rw [em] at p
     intro u S1 H1 w1 r1
     simp only [OE.bU] at p
     cases es:lL r with
     | none=>rw [es] at p; exact p.elim
     | some y=>
       rw [es] at p
       obtain ⟨S2,w2,s2,rx⟩:=r1.share w1 es
       have I2:=I.grow w2
       obtain ⟨v,e1,a,vs,rfl,h1,h2,h3,h4⟩:=I2.good i _ e
       refine ⟨_,e1,?_⟩
       refine hk.goS I2 (p.back w2.s) fun kk z S3 H3 I3 w3 r3 p3=>?_
       have rk:=r3.rd I3.sh
       cases ek:kk.pv with
       | int k=>
         rw [ek] at p3 rk
         have hz:=dv rk
         subst hz
         dsimp only at p3
         cases ej:ixP xs.length k with
         | none=>rw [ej] at p3; exact p3.elim
         | some j=>
           rw [ej] at p3
           refine ⟨a,vs,k,j,rfl,rfl,w3.g _ _ h3,by rw [h4.length]; exact ej,?_⟩
           exact p3 σ S3 _ (I3.mut e e1 ((h4.mono w3.s).set (Rep.mono w3.s rx) j)) (aK.refl _)
       | _=>rw [ek] at p3; exact p3.elim
 . exact p.elim
end
end L2.P
namespace L2.P
open PySem
inductive Stp where
 | ix (k:Nat) | fd (f:Str)
noncomputable def nT:List Str -> List OV -> Str -> Option OV
 | k ::ks,t ::ts,f=>if k = f then some t else nT ks ts f
 | _,_,_=>none
noncomputable def tP:List Str -> List OV -> Str -> OV -> List OV
 | k ::ks,t ::ts,f,u=>if k = f then u ::ts else t ::tP ks ts f u
 | _,ts,_,_=>ts
noncomputable def OV.at1:OV -> Stp -> Option OV
 | .ol ts,.ix k=>ts[k]?
 | .ob _ ks ts,.fd f=>nT ks ts f
 | _,_=>none
noncomputable def OV.Dk:OV -> Stp -> OV -> OV
 | .ol ts,.ix k,u=>.ol (ts.set k u)
 | .ob c ks ts,.fd f,u=>.ob c ks (tP ks ts f u)
 | t,_,_=>t
noncomputable def OV.get:OV -> List Stp -> Option OV
 | t,[]=>some t
 | t,s ::π=>(t.at1 s).bind fun u=>u.get π
noncomputable def OV.put:OV -> List Stp -> OV -> OV
 | _,[],u=>u
 | t,s ::π,u=>match t.at1 s with
   | some t'=>t.Dk s (t'.put π u)
   | none=>t
noncomputable def slT:Sl -> Option OV
 | .tr _ t=>some t
 | .bo t=>some t
 | _=>none
noncomputable def kq (i:Nat) (ρ:ag):Option OV:=match ρ[i]? with
 | some (some s)=>slT s
 | _=>none
abbrev MP:=ag -> Option (List Stp)
noncomputable def fQ:MP:=fun _=>some []
noncomputable def pIx (i:Nat) (mp:MP) (mk:ag -> OE):MP:=fun ρ=>match kq i ρ with
 | some t=>(match mp ρ with
   | some π=>(match t.get π with
     | some (.ol ts)=>(match mk ρ with
       | .ok r=>(match r.pv with
         | .int k=>(ixP ts.length k).map fun j=>π ++ [.ix j]
         | _=>none)
       | _=>none)
     | _=>none)
   | none=>none)
 | none=>none
noncomputable def subAt (i:Nat) (mp:MP) (ρ:ag):Option OV:=match kq i ρ with
 | some t=>(match mp ρ with
   | some π=>t.get π
   | none=>none)
 | none=>none
noncomputable def pFd (i:Nat) (mp:MP) (f:Str) (ok:String -> Bool):MP:=fun ρ=>match subAt i mp ρ with
 | some (.ob c ks ts)=>if (ok c && (nT ks ts f).isSome) = true then (mp ρ).map fun π=>π ++ [.fd f] else none
 | _=>none
noncomputable def wB:List OV -> Option (List PV)
 | []=>some []
 | .sh x ::r=>(wB r).map (x ::·)
 | _ ::_=>none
@[simp] theorem uJ (xs:List PV):wB (xs.map .sh) = some xs:=by
  induction xs with
  | nil=>rfl
  | cons x xs ih=>show (wB (xs.map .sh)).map (x ::·) = _; rw [ih]; rfl
noncomputable def qT (i:Nat) (mp:MP):ag -> OE:=fun ρ=>match subAt i mp ρ with
 | some (.sh x)=>.ok (.sh x)
 | some (.ol ts)=>(match wB ts with
   | some xs=>.ok (.al xs)
   | none=>.bad)
 | _=>.bad
noncomputable def p7 (i:Nat) (mp:MP):ag -> OT:=fun ρ=>match subAt i mp ρ with
 | some (.ol ts)=>.ok (!ts.isEmpty)
 | _=>.bad
inductive OD where
 | ok (t:OV) | exc (c:String) (fs:XF) | bad
inductive ODs where
 | ok (ts:List OV) | exc (c:String) (fs:XF) | bad
noncomputable def mD (me:ag -> OE):ag -> OD:=fun ρ=>match me ρ with
 | .ok (.sh x)=>.ok (.sh x)
 | .ok (.fr xs)=>.ok (.ol (xs.map .sh))
 | .ok (.al _)=>.bad
 | .exc c fs=>.exc c fs
 | .bad=>.bad
noncomputable def mDc (md:ag -> OD) (mr:ag -> ODs):ag -> ODs:=fun ρ=>match md ρ with
 | .ok t=>(match mr ρ with
   | .ok ts=>.ok (t ::ts)
   | .exc c fs=>.exc c fs
   | .bad=>.bad)
 | .exc c fs=>.exc c fs
 | .bad=>.bad
noncomputable def oW (i:Nat) (md:ag -> OD):ag -> OS:=fun ρ=>match md ρ with
 | .ok t=>.nx (ρ.set i (some (.tr false t)))
 | .exc c fs=>.exc ρ c fs
 | .bad=>.bad
noncomputable def Af (i:Nat) (mp:MP) (ρ:ag) (k:OV -> (OV -> ag) -> OS):OS:=match ρ[i]? with
 | some (some (.tr io t))=>(match mp ρ with
   | some π=>(match t.get π with
     | some u=>k u fun u'=>ρ.set i (some (.tr io (t.put π u')))
     | none=>.bad)
   | none=>.bad)
 | _=>.bad
noncomputable def xJ (i:Nat) (mp:MP) (md:ag -> OD):ag -> OS:=fun ρ=>Af i mp ρ fun u put=>match u with
 | .ol ts=>(match md ρ with
   | .ok x=>if ts.length < lim then .nx (put (.ol (ts ++ [x]))) else .bad
   | .exc c fs=>.exc ρ c fs
   | .bad=>.bad)
 | _=>.bad
noncomputable def nM (i:Nat) (mp:MP) (me:ag -> OE):ag -> OS:=fun ρ=>Af i mp ρ fun u put=>match u with
 | .ol ts=>(me ρ).bU ρ fun r=>(match r with
   | .fr ys=>if ts.length + ys.length <= lim then .nx (put (.ol (ts ++ ys.map .sh))) else .bad
   | _=>.bad)
 | _=>.bad
noncomputable def BW (i:Nat) (mp:MP) (f:Str) (okc:String -> Bool) (md:ag -> OD):ag -> OS:=fun ρ=>match md ρ with
 | .ok x=>Af i mp ρ fun u put=>(match u with
   | .ob c ks ts=>if (okc c && decide (ks.length < 1000)) = true then (if ks.contains f = true then .nx (put (.ob c ks (tP ks ts f x))) else .nx (put (.ob c (ks ++ [f]) (ts ++ [x])))) else .bad
   | _=>.bad)
 | .exc c fs=>.exc ρ c fs
 | .bad=>.bad
inductive OX where
 | ok (ρ:ag) (s:Sl) | exc (ρ:ag) (c:String) (fs:XF) | bad
noncomputable def slO:OV -> Sl
 | .sh x=>.sh x
 | t=>.tr false t
noncomputable def sF (i:Nat) (mp:MP):ag -> OX:=fun ρ=>match ρ[i]? with
 | some (some (.tr io t))=>(match mp ρ with
   | some π=>(match t.get π with
     | some (.ol ts)=>(match ts.getLast? with
       | some x=>.ok (ρ.set i (some (.tr io (t.put π (.ol ts.dropLast))))) (slO x)
       | none=>.bad)
     | _=>.bad)
   | none=>.bad)
 | _=>.bad
noncomputable def nio:Sl -> Bool
 | .tr true _=>false
 | .bo _=>false
 | _=>true
noncomputable def pS (i:Nat) (m:ag -> OX):ag -> OS:=fun ρ=>match m ρ with
 | .ok ρ' s=>if nio s then .nx (ρ'.set i (some s)) else .bad
 | .exc ρ' c fs=>.exc ρ' c fs
 | .bad=>.bad
noncomputable def Fp (neg:Bool) (m:ag -> OX) (a b:ag -> OS):ag -> OS:=fun ρ=>match m ρ with
 | .ok ρ' (.sh x)=>(match sR x with
   | some k=>if (k != neg) = true then a ρ' else b ρ'
   | none=>.bad)
 | .ok _ _=>.bad
 | .exc ρ' c fs=>.exc ρ' c fs
 | .bad=>.bad
mutual
noncomputable def pvO:OV -> Option PV
 | .sh x=>some x
 | .ol ts=>(Jg ts).map .lst
 | .ob _ _ _=>none
 | .di _=>none
 | .dt _=>none
noncomputable def Jg:List OV -> Option (List PV)
 | []=>some []
 | t ::ts=>(pvO t).bind fun x=>(Jg ts).map (x ::·)
end
noncomputable def KL (i:Nat) (ρ:ag):ag:=match ρ[i]? with
 | some (some (.tr false t))=>(match pvO t with
   | some x=>ρ.set i (some (.sh x))
   | none=>ρ)
 | _=>ρ
inductive OI where
 | ok (x:PV) (outs:List (Option OV)) | exc (c:String) (fs:XF) (outs:List (Option OV)) | bad
inductive Arg where
 | e (me:ag -> OE) | t (i:Nat) (mp:MP) | b (i:Nat) (mp:MP)
noncomputable def uB:Option Sl -> Option OV
 | some (.tr true t)=>some t
 | _=>none
noncomputable def yP (np:Nat):OS -> OI
 | .nx ρ=>.ok .non ((ρ.take np).map uB)
 | .rt ρ (.sh x)=>.ok x ((ρ.take np).map uB)
 | .exc ρ c fs=>.exc c fs ((ρ.take np).map uB)
 | _=>.bad
noncomputable def mz (n:Nat) (as:List Sl):ag:=as.map some ++ List.replicate (n - as.length) none
noncomputable def fnI (np n:Nat) (m:ag -> OS) (as:List Sl):OI:=if as.length = np then yP np (m (mz n as)) else .bad
noncomputable def mP (a:Arg) (ρ:ag):Option Sl:=match a with
 | .e me=>(match me ρ with
   | .ok r=>(lL r).map .sh
   | _=>none)
 | .t i mp=>(match ρ[i]? with
   | some (some (.tr _ t))=>((mp ρ).bind fun π=>t.get π).map (.tr true)
   | _=>none)
 | .b i mp=>(subAt i mp ρ).map .bo
noncomputable def mf:List Arg -> ag -> Option (List Sl)
 | [],_=>some []
 | a ::as,ρ=>(mP a ρ).bind fun s=>(mf as ρ).map (s ::·)
noncomputable def lN (ρ₀:ag):Arg -> Option OV -> ag -> ag
 | .t i mp,some u,ρ=>(match ρ[i]? with
   | some (some (.tr io t))=>(match mp ρ₀ with
     | some π=>ρ.set i (some (.tr io (t.put π u)))
     | none=>ρ.set i none)
   | _=>ρ.set i none)
 | .t i _,none,ρ=>ρ.set i none
 | _,_,ρ=>ρ
noncomputable def gQ (ρ₀:ag):List Arg -> List (Option OV) -> ag -> ag
 | [],_,ρ=>ρ
 | a ::as,us,ρ=>gQ ρ₀ as us.tail (lN ρ₀ a us.head?.join ρ)
noncomputable def vc (f:List Sl -> OI) (as:List Arg):ag -> OX:=fun ρ=>match mf as ρ with
 | some ss=>(match f ss with
   | .ok x outs=>.ok (gQ ρ as outs ρ) (.sh x)
   | .exc c fs outs=>.exc (gQ ρ as outs ρ) c fs
   | .bad=>.bad)
 | none=>.bad
noncomputable def vC (f:List Sl -> OI) (as:List Arg):ag -> OE:=fun ρ=>match mf as ρ with
 | some ss=>(match f ss with
   | .ok x _=>.ok (.sh x)
   | .exc c fs _=>.exc c fs
   | .bad=>.bad)
 | none=>.bad
noncomputable def recv (c:String) (m:Str):Option Sl -> Bool
 | some (.tr true (.ob c' ks _))=>c' == c && !ks.contains m
 | some (.bo (.ob c' ks _))=>c' == c && !ks.contains m
 | _=>false
noncomputable def n9 (c:String) (m:Str) (f:List Sl -> OI) (as:List Arg):ag -> OX:=fun ρ=>match as with
 | a ::_=>if recv c m (mP a ρ) = true then vc f as ρ else .bad
 | []=>.bad
noncomputable def mU (c:String) (m:Str) (f:List Sl -> OI) (as:List Arg):ag -> OE:=fun ρ=>match as with
 | a ::_=>if recv c m (mP a ρ) = true then vC f as ρ else .bad
 | []=>.bad
noncomputable def uj (c:String) (f:List Sl -> OI):ag -> OD:=fun _=>match f [.tr true (.ob c [] [])] with
 | .ok .non (some t ::_)=>.ok t
 | _=>.bad
noncomputable def mY (i j:Nat) (mb:ag -> OS):List PV -> ag -> OS
 | [],ρ=>.nx ρ
 | .tup [x,y] ::xs,ρ=>(mb ((ρ.set i (some (.sh x))).set j (some (.sh y)))).turn (mY i j mb xs)
 | _ ::_,_=>.bad
noncomputable def qS (k:Nat):List PV -> List PV
 | []=>[]
 | x ::xs=>.tup [.int k,x] ::qS (k + 1) xs
noncomputable def zL (i j:Nat) (ml:ag -> OE) (mb:ag -> OS):ag -> OS:=fun ρ=>(ml ρ).bU ρ fun r=>match ya r with
 | some xs=>mY i j mb (qS 0 xs) ρ
 | none=>.bad
noncomputable def su (ml:ag -> OE) (ι:List Nat) (me:ag -> OE):ag -> OE:=fun ρ=>(ml ρ).bind fun r=>match r.pv with
 | .tup xs=>noX (dI me (dO ι ρ) xs)
 | _=>.bad
noncomputable def i9 (mc:ag -> OT) (me:ag -> OE) (ρ:ag):List PV -> OA
 | []=>.ok []
 | x ::xs=>(match mc (ρ ++ [some (.sh x)]) with
   | .ok true=>(me (ρ ++ [some (.sh x)])).gj fun r=>(match lL r with
     | some y=>(i9 mc me ρ xs).gj fun ys=>.ok (y ::ys)
     | none=>.bad)
   | .ok false=>i9 mc me ρ xs
   | _=>.bad)
noncomputable def sA (ml:ag -> OE) (ι:List Nat) (mc:ag -> OT) (me:ag -> OE):ag -> OE:=fun ρ=>(ml ρ).bind fun r=>match r.pv with
 | .lst xs=>noX (i9 mc me (dO ι ρ) xs)
 | _=>.bad
noncomputable def Es (ma ms:ag -> OE):ag -> OE:=fun ρ=>(ma ρ).bind fun a=>(ms ρ).bind fun k=>match a.pv,k.pv with
 | .lst xs,.int k=>if k = -1 then .ok (.fr xs.reverse) else .bad
 | _,_=>.bad
noncomputable def Lv:PV -> Option RV
 | .lst xs=>some (.sh (.tup xs))
 | .tup xs=>some (.sh (.tup xs))
 | _=>none
mutual
noncomputable def kJ:PV -> PV -> Bool
 | .non,y=>(match y with | .non=>true | _=>false)
 | .bl a,y=>(match y with | .bl b=>a == b | .int j=>(if a then 1 else 0) == j | _=>false)
 | .int i,y=>(match y with | .bl b=>i == (if b then 1 else 0) | .int j=>i == j | _=>false)
 | .str x,y=>(match y with | .str z=>x == z | _=>false)
 | .lst xs,y=>(match y with | .lst ys=>Bw xs ys | _=>false)
 | .tup xs,y=>(match y with | .tup ys=>Bw xs ys | _=>false)
noncomputable def Bw:List PV -> List PV -> Bool
 | [],ys=>(match ys with | []=>true | _ ::_=>false)
 | x ::xs,ys=>(match ys with | y ::ys=>kJ x y && Bw xs ys | []=>false)
end
mutual
noncomputable def Hr:PV -> Nat -> Bool
 | .str x,_=>x.cps.all (· < 0x110000)
 | .lst xs,n=>(match n with | 0=>false | n + 1=>Dh xs n)
 | .tup xs,n=>(match n with | 0=>false | n + 1=>Dh xs n)
 | _,_=>true
noncomputable def Dh:List PV -> Nat -> Bool
 | [],_=>true
 | x ::xs,n=>Hr x n && Dh xs n
end
noncomputable def cz:PV -> Bool
 | .lst _=>false
 | .tup _=>false
 | _=>true
noncomputable def gP:PV -> PV -> Option Bool
 | x,.tup ys=>if ys.all cz = true then some (ys.any fun y=>kJ y x) else none
 | x,.lst ys=>if ys.all cz = true then some (ys.any fun y=>kJ y x) else none
 | _,_=>none
noncomputable def gIn:PV -> PV -> Option RV:=fun x y=>(gP x y).map fun b=>.sh (.bl b)
noncomputable def pj:PV -> PV -> Option RV:=fun x y=>(gP x y).map fun b=>.sh (.bl (!b))
end L2.P
namespace L2.P
open PySem
noncomputable def wW (kvs:List (Int × PV)):PV -> Option RV
 | .int n=>some (.sh (.bl (kvs.lookup n).isSome))
 | _=>none
noncomputable def tJ (kvs:List (Int × PV)):PV -> Option RV
 | .int n=>(kvs.lookup n).map .sh
 | _=>none
noncomputable def gO (kvs:List (Int × PV)):PV -> Option RV
 | .int n=>some (.sh ((kvs.lookup n).getD .non))
 | _=>none
end L2.P
namespace L2.P
open PySem
end L2.P
namespace L2
open PySem PySem.Spec PyProof.Rows
section
variable {X:Cx} {pins:List (Addr × Obj)} {σ:St} {H:Hp} {s:Shared} {h':Heap}
theorem Inv.A4 {t':Nat} {its:List Addr} {a:Addr} {o:HO} (I:Inv X pins σ H s) (k:∀ b u,b ∉ its -> s.heap.get? b = some u -> h'.get? b = some u) (hf:∀ b ∈ its,qH X pins H b)
  (hp:s.heap.objs.size <= a) (new:fY X.prog X.w (upd H a o) h' a o):Inv X pins σ (upd H a o) { s with heap:=h',toks:=t' }:=by
 have hn:=I.hok.fresh hp
 have nit:∀ b u,H b = some u -> b ∉ its:=fun b u e z=>by rw [(hf b z).1] at e; cases e
 refine I.step (g':=s.gens) (d':=s.drawn) (ch:=its) (fun b hb=>?_) (fun b u _ _ hc e _=>k b u hc e) (fun b u _ _ hc e _=>⟨u.slots,k b u hc e⟩)
  (fun b u _ q n=>by rw [bb (Nat.ne_of_lt (Nat.lt_of_lt_of_le (Heap.lt_size q) hp))]; exact n)
  (fun b u hc e=>⟨u,k b u hc e⟩) (fun b xs q=>by rw [bb (cQ q hn)]; exact q) (fun b u xs q=>by rw [bb (cQ q hn)]; exact q) (fun b ps q=>⟨#[],by rw [bb (cQ q hn),q]; simp⟩) (fun m hm=>?_) (fun b u e=>?_) I.bare
 . obtain ⟨_,f1,f2,f3,f4,f5⟩:=hf b hb
   exact ⟨f3,f1,f4,f5⟩
 . obtain ⟨ob,es,ep,ho,r⟩:=hm
   exact ⟨ob,es,ep,k _ ob (fun z=>(hf _ z).2.1 rfl) ho,r⟩
 . by_cases hb:b = a
   . subst hb; rw [bc] at e; cases e; exact new
   . rw [bb hb] at e
     refine (I.hok b u e).o6 (fun c v hc q=>k c v ?_ q) (fun c q=>by rw [bb (cQ q hn)]; exact q) fun c xs q=>by rw [bb (cQ q hn)]; exact q
     rcases hc with z | z
     . rw [z]; exact nit b u e
     . exact nit c _ z
end
noncomputable def Ite (K:PySem.W.Frag) (a:Addr):It:=
 ⟨fun i H=>∃ xs x,SqL K H a xs /\ xs[i]? = some x,fun i H v H'=>∃ t x,(∀ xs,SqL K H a xs -> xs[i]? = some x) /\ H t = none /\ v = .ref t /\ H' = upd H t (.tup [.int i,x]),fun i H=>∃ xs,SqL K H a xs /\ xs.length <= i⟩
theorem Ar {P:Program} {w:World} {K:PySem.W.Frag} {elts:List Expr} {k:Nat} {pos:Pos} (a e it:Addr) (hei:e ≠ it):
  Turn P w K (.Tuple elts k pos) (Ite K a) [e,it] e (fun i h=>(∃ old,IsEnum h e it i old) /\ h.IsListIter it a i) where
 mem:=by simp
 obj:=fun i h st b hb=>by
  obtain ⟨⟨old,h1⟩,o,h2,c,d⟩:=st
  rcases List.mem_cons.mp hb with z | z
  . subst z; exact ⟨_,h1,fun v z=>by cases z⟩
  . have z':b = it:=by simpa using z
    subst z'; exact ⟨o,h2,fun v z=>by rw [d] at z; cases z⟩
 keep:=fun i h h' st k=>by
  obtain ⟨⟨old,h1⟩,h2⟩:=st
  exact ⟨⟨old,k e (by simp) _ h1⟩,h2.at fun o x=>k it (by simp) o x⟩
 item:=by
  intro X hP hw hK hc i pins s σ H E I hf st hg
  subst hP hw hK
  obtain ⟨xs,x,hq,hx⟩:=hg
  obtain ⟨its,rv,p,hz⟩:=I.list hq
  obtain ⟨u,hu,ru⟩:=rv.get hx
  obtain ⟨⟨old,he⟩,hit⟩:=st
  refine wpAny_pyNext_enum_item he hit p.isList (x:=u) (by simpa using hu) hei fun h1 ho hit1 hT hsz hk=>⟨_,rfl,?_⟩
  refine wpAny_letOwnedTupleGo_enum ho fun h2 he2 hs2=>?_
  have hT2:h2.get? s.heap.objs.size = some { cls:=.type "tuple",data:=.seq #[.int i s.toks,u] }:=(hs2.2 _ (Nat.ne_of_gt (Heap.lt_size he))).trans hT
  have nH:H s.heap.objs.size = none:=I.hok.fresh (Nat.le_refl _)
  refine ⟨.ref s.heap.objs.size,upd H s.heap.objs.size (.tup [.int i,x]),I.A4 (its:=[e,it]) (t':=s.toks + 1) (fun b o hb q=>?_) hf (Nat.le_refl _) ?_,rfl,⟨_,x,fun ys hy=>by rw [I.wQ hy hq]; exact hx,nH,rfl,rfl⟩,⟨⟨u,by simpa using he2⟩,?_⟩,fun b hb=>?_⟩
  . have nb:b ≠ e /\ b ≠ it:=by simpa using hb
    exact (hs2.2 b nb.1).trans (hk b o nb.1 nb.2 q)
  . exact ⟨by show 2 <= sizeLine; decide,[.int i s.toks,u],.cons ⟨_,rfl⟩ (.cons ru .nil),⟨_,hT2,rfl,_,rfl⟩⟩
  . exact hit1.at fun o y=>(hs2.2 it hei.symm).trans y
  . have:b < s.heap.objs.size:=by
     rcases List.mem_cons.mp hb with z | z
     . subst z; exact Heap.lt_size he
     . have z':b = it:=by simpa using z
       subst z'; obtain ⟨_,y,_⟩:=hit; exact Heap.lt_size y
    rw [bb (Nat.ne_of_lt this)]
    exact (hf b hb).1
 done:=by
  intro X hP hw hK hc i pins s σ H E I hf st hg
  subst hP hw hK
  obtain ⟨xs,hq,hx⟩:=hg
  obtain ⟨its,rv,p,hz⟩:=I.list hq
  obtain ⟨⟨old,he⟩,hit⟩:=st
  obtain ⟨f0,f1,f2,f3,f4,f5⟩:=hf it (by simp)
  have hl:=rv.length
  exact wpAny_pyNext_enum_end (I.ok.hd hc) he hit p.isList (by simp; omega) fun h' eb=>⟨rfl,I.turned (t':=s.toks) (fun b o hb e=>eb b o hb e) f0 f1 f3 f4 f5⟩
 self:=fun _ _ _ _ _ st h=>by
  obtain ⟨⟨old,he⟩,_⟩:=st
  exact wpAny_pyIter_enum he h
section
variable {X:Cx}
noncomputable def Cc (K:PySem.W.Frag) (ta:TA):TI:=fun σ H R=>ta σ H fun vs H1=>∃ a,vs = [.ref a] /\ (∃ xs,SqL K H1 a xs) /\ R (Ite K a) H1
theorem D9 {elts:List Expr} {k:Nat} {tp:Pos} {a:Expr} {ta:TA} {p pos:Pos} (hg:Gl X "enumerate") (hm:X.mg "enumerate" = none) (ha:PA X [a] ta) (hs:starEach [a] X.env = [(false,eval a X.env)]:=by rfl):
  PI X (.Tuple elts k tp) (.Call (.Name "enumerate" p) [a] [] pos) (Cc X.K ta):=by
 intro pins s σ H R I h
 refine Call_ (sf I hg hm (show bootBuiltins "enumerate" = some (.type "enumerate") by rfl) (PyProof.Rows.callWith_type1 (thn (ha pos pins s σ H _ I h) fun us s1 ⟨vs,H1,I1,r1,q1⟩=>?_) hs rfl))
 obtain ⟨l,e,⟨xs,hq⟩,q⟩:=q1
 subst e
 cases r1 with
 | cons r rr=>
   cases rr
   cases r
   obtain ⟨its,rv,p,hz⟩:=I1.list hq
   refine call_enumerate_list p.isList fun h' he hit hsz hk=>?_
   refine wpAny_pyIter_enum he ?_
   have I2:Inv X pins σ H1 { s1 with heap:=h' }:=I1.kept (t':=s1.toks) hk
   refine ⟨s1.heap.objs.size + 1,[s1.heap.objs.size + 1,s1.heap.objs.size],_,_,H1,rfl,I2,Ar l _ _ (Nat.succ_ne_self _),⟨⟨.none,he⟩,hit⟩,fun b hb=>?_,q⟩
   have:s1.heap.objs.size <= b:=by
    rcases List.mem_cons.mp hb with z | z
    . subst z; exact Nat.le_succ _
    . have z':b = s1.heap.objs.size:=by simpa using z
      subst z'; exact Nat.le_refl _
   exact I1.EF this (I1.hok.fresh this)
end
theorem Cy {K:PySem.W.Frag} {a:Addr} {xs:List V} {g:TG} {tb:TS} {D:Ends} {σ:St} {H:Hp} (Pv:Nat -> St -> Hp -> Prop) (h0:Pv 0 σ H) (hl:∀ i σ H,i <= xs.length -> Pv i σ H -> SqL K H a xs)
  (hs:∀ i x σ H t,xs[i]? = some x -> Pv i σ H -> H t = none -> g (.ref t) σ (upd H t (.tup [.int i,x])) fun σ2 H2=>tb { D with nx:=Pv (i + 1),ct:=Pv (i + 1),bk:=D.nx } σ2 H2) (hd:∀ σ H,Pv xs.length σ H -> D.nx σ H):
  ∃ W:Nat -> Nat -> St -> Hp -> Prop,(∃ m,W 0 m σ H) /\ ∀ i m σ H,W i m σ H ->
    ((Ite K a).stop i H /\ D.nx σ H) \/ ((Ite K a).go i H /\ ∃ N:St -> Hp -> Prop,(∀ σ' H',N σ' H' -> ∃ m',m' < m /\ W (i + 1) m' σ' H') /\ ∀ x H',(Ite K a).yld i H x H' -> g x σ H' fun σ2 H2=>tb { D with nx:=N,ct:=N,bk:=D.nx } σ2 H2):=by
 refine ⟨fun i m σ H=>m = xs.length - i /\ i <= xs.length /\ Pv i σ H,⟨xs.length,by simp,Nat.zero_le _,h0⟩,?_⟩
 rintro i m σ H ⟨rfl,hi,p⟩
 have q:=hl i σ H hi p
 by_cases hlt:i < xs.length
 . refine .inr ⟨⟨xs,xs[i],q,by simp [hlt]⟩,Pv (i + 1),fun σ' H' p'=>⟨xs.length - (i + 1),by omega,rfl,hlt,p'⟩,fun x H' y=>?_⟩
   obtain ⟨t,z,y1,y3,e1,e2⟩:=y
   subst e1 e2
   exact hs i z σ _ t (y1 xs q) p y3
 . have e:i = xs.length:=by omega
   subst e
   exact .inl ⟨⟨xs,q,Nat.le_refl _⟩,hd σ H p⟩
end L2
namespace L2.P
open PySem PySem.Spec PyProof.Rows L2 L2.E PySem.SeqAt
section
variable {K:PySem.W.Frag} {S H:Hp}
theorem RdV.rep {x:PV} {v:V} (h:RdV K S H x v) (s:aK S H):Rep K H x v:=by
 cases x with
 | lst xs=>obtain ⟨p,vs,e,q,r⟩:=h; unfold Rep; exact ⟨p,vs,e,q,r.mono s⟩
 | non=>exact Rep.mono s h
 | bl b=>exact Rep.mono s h
 | int i=>exact Rep.mono s h
 | str x=>exact Rep.mono s h
 | tup xs=>exact Rep.mono s h
end
end L2.P
namespace L2.P
open PySem PySem.Spec PyProof.Rows L2 L2.E PySem.SeqAt
section
variable {X:Cx} {K:PySem.W.Frag} {S H:Hp}
theorem rS {x:PV} {v:V} (h:Rep K H x v) (f:cz x = true):oZ v = true:=by
 cases x with
 | lst xs=>cases f
 | tup xs=>cases f
 | non=>unfold Rep at h; subst h; rfl
 | bl b=>unfold Rep at h; subst h; rfl
 | int b=>unfold Rep at h; subst h; rfl
 | str b=>unfold Rep at h; subst h; rfl
theorem D4 {x y:PV} {v u:V} (h:Rep K H x v) (k:Rep K H y u) (f:cz x = true) (g:cz y = true):eqV u v = kJ y x:=by
 cases x <;> first | (cases f; done) | skip
 all_goals (unfold Rep at h; subst h; cases y <;> first | (cases g; done) | (unfold Rep at k; subst k; simp [eqV,kJ]))
theorem uq {xs:List PV} {vs:List V} (h:bS K H xs vs) (f:xs.all cz = true):vs.all oZ = true:=by
 induction xs generalizing vs with
 | nil=>rw [h.nil_inv]; rfl
 | cons x xs ih=>
   obtain ⟨v,r,rfl,h1,h2⟩:=h.cons_inv
   rw [List.all_cons,Bool.and_eq_true] at f ⊢
   exact ⟨rS h1 f.1,ih h2 f.2⟩
theorem xN {x:PV} {v:V} {xs:List PV} {vs:List V} (hx:Rep K H x v) (g:cz x = true) (h:bS K H xs vs) (f:xs.all cz = true):inV v vs = xs.any fun y=>kJ y x:=by
 induction xs generalizing vs with
 | nil=>rw [h.nil_inv]; rfl
 | cons y xs ih=>
   obtain ⟨u,r,rfl,h1,h2⟩:=h.cons_inv
   rw [List.all_cons,Bool.and_eq_true] at f
   have:=ih h2 f.2
   unfold inV at this ⊢
   rw [List.any_cons,List.any_cons,this,D4 hx h1 g f.1]
theorem xg {x:PV} {xs:List PV} (g:cz x = false) (f:xs.all cz = true):(xs.any fun y=>kJ y x) = false:=by
 induction xs with
 | nil=>rfl
 | cons y xs ih=>
   rw [List.all_cons,Bool.and_eq_true] at f
   rw [List.any_cons,ih f.2,Bool.or_false]
   have f1:=f.1
   cases y <;> first | (cases f1; done) | (cases x <;> first | (cases g; done) | simp [kJ])
theorem u3 {α:Type} (l:List α):(l.any fun _=>false) = false:=by induction l <;> simp_all
theorem pR {A:Around} {s:Shared} {pins:List (Addr × Obj)} {σ:St} (I:Inv X pins σ H s) (hu:A.units < cLine) {x:PV} {v:V} {a:Value} (hx:Rep X.K H x v) (ra:RelV v a) (g:cz x = false):
  ∀ {xs:List PV} {vs:List V} {us:List Value},bS X.K H xs vs -> Vals vs us -> xs.all cz = true -> ∀ u ∈ us,EqAt A s u a false:=by
 intro xs
 induction xs with
 | nil=>intro vs us h r _ u hu; rw [h.nil_inv] at r; cases r; cases hu
 | cons y xs ih=>
   intro vs us h r f u hm
   obtain ⟨w,t,rfl,h1,h2⟩:=h.cons_inv
   rw [List.all_cons,Bool.and_eq_true] at f
   cases r with
   | cons r1 r2=>
     rcases List.mem_cons.mp hm with rfl | hm
     . cases x with
       | non=>cases g
       | bl b=>cases g
       | int b=>cases g
       | str b=>cases g
       | lst zs=>
         unfold Rep at hx
         obtain ⟨p,us',rfl,hq,_⟩:=hx
         cases ra
         obtain ⟨its,_,pl,_⟩:=I.list hq
         cases y with
         | non=>unfold Rep at h1; subst h1; cases r1; exact EqAt.none_list pl.isList hu
         | bl b=>unfold Rep at h1; subst h1; cases r1; exact EqAt.bool_list b pl.isList hu
         | int b=>unfold Rep at h1; subst h1; obtain ⟨t',rfl⟩:=r1; exact EqAt.int_list b t' pl.isList hu
         | str b=>unfold Rep at h1; subst h1; obtain ⟨t',rfl⟩:=r1; exact EqAt.str_list b t' pl.isList hu
         | lst _=>cases f.1
         | tup _=>cases f.1
       | tup zs=>
         unfold Rep at hx
         obtain ⟨p,us',rfl,hq,_⟩:=hx
         cases ra
         obtain ⟨its,_,pl,_⟩:=I.tuple hq
         cases y with
         | non=>unfold Rep at h1; subst h1; cases r1; exact EqAt.none_tuple pl hu
         | bl b=>unfold Rep at h1; subst h1; cases r1; exact EqAt.bool_tuple b pl hu
         | int b=>unfold Rep at h1; subst h1; obtain ⟨t',rfl⟩:=r1; exact EqAt.int_tuple b t' pl hu
         | str b=>unfold Rep at h1; subst h1; obtain ⟨t',rfl⟩:=r1; exact EqAt.str_tuple b t' pl hu
         | lst _=>cases f.1
         | tup _=>cases f.1
     . exact ih h2 r2 f.2 u hm
noncomputable def B3 (K:PySem.W.Frag) (A:Around) (neg:Bool):R2:=fun v u H Q=>∃ x ys p vs,Rep K H x v /\ u = .ref p /\ (SqL K H p vs \/ SqT K H p vs) /\ bS K H ys vs /\ ys.all cz = true /\ A.units + 64 < cLine /\ Q (.bl (if neg then !(ys.any fun y=>kJ y x) else ys.any fun y=>kJ y x)) H
theorem kh:OpR X (compareOp .In) (B3 X.K X.A false):=by
 intro pins s σ H v u a b Q I rx ry h
 obtain ⟨x,ys,p,vs,hx,rfl,hq,hr,hf,hu,q⟩:=h
 cases g:cz x with
 | true=>exact Ag pins s σ H v _ a b Q I rx ry ⟨p,vs,rfl,hq,rS hx g,uq hr hf,by rw [xN hx g hr hf]; exact q⟩
 | false=>
   rw [xg g hf] at q
   cases ry
   rcases hq with hq | hq
   . obtain ⟨its,r,pl,hz⟩:=I.list hq
     refine SeqAt.in_listAt (fun _=>false) pl.isList (fun w hw=>pR I (by show X.A.units + 1 < cLine; omega) hx rx g hr r hf w (by simpa using hw)) ⟨.bl _,H,I,rfl,?_⟩
     rw [show (its.toArray.any fun _=>false) = false by simp [u3]]
     exact q
   . obtain ⟨its,r,pl,hz⟩:=I.tuple hq
     refine SeqAt.in_tupleAt (fun _=>false) pl (fun w hw=>pR I (by show X.A.units + 1 < cLine; omega) hx rx g hr r hf w (by simpa using hw)) ⟨.bl _,H,I,rfl,?_⟩
     rw [show (its.toArray.any fun _=>false) = false by simp [u3]]
     exact q
theorem qC:OpR X (compareOp .NotIn) (B3 X.K X.A true):=by
 intro pins s σ H v u a b Q I rx ry h
 obtain ⟨x,ys,p,vs,hx,rfl,hq,hr,hf,hu,q⟩:=h
 cases g:cz x with
 | true=>exact vg pins s σ H v _ a b Q I rx ry ⟨p,vs,rfl,hq,rS hx g,uq hr hf,by rw [xN hx g hr hf]; exact q⟩
 | false=>
   rw [xg g hf] at q
   cases ry
   rcases hq with hq | hq
   . obtain ⟨its,r,pl,hz⟩:=I.list hq
     refine SeqAt.notIn_listAt (fun _=>false) pl.isList (fun w hw=>pR I (by show X.A.units + 1 < cLine; omega) hx rx g hr r hf w (by simpa using hw)) ⟨.bl _,H,I,rfl,?_⟩
     rw [show (its.toArray.any fun _=>false) = false by simp [u3]]
     exact q
   . obtain ⟨its,r,pl,hz⟩:=I.tuple hq
     refine SeqAt.notIn_tupleAt (fun _=>false) pl (fun w hw=>pR I (by show X.A.units + 1 < cLine; omega) hx rx g hr r hf w (by simpa using hw)) ⟨.bl _,H,I,rfl,?_⟩
     rw [show (its.toArray.any fun _=>false) = false by simp [u3]]
     exact q
theorem zc {A:Around} {neg:Bool} {x y:PV} {v u:V} {b:Bool} {Q:VK} (hu:A.units + 64 < cLine) (I:aK S H) (hx:RdV K S H x v) (hy:RdV K S H y u) (e:gP x y = some b) (k:∀ z S' H',bw S H S' H' -> mm K H S' H' (.sh (.bl (if neg then !b else b))) z -> Q z H'):B3 K A neg v u H Q:=by
 cases y with
 | tup ys=>
   simp only [gP] at e
   by_cases hf:ys.all cz = true
   . rw [if_pos hf] at e
     cases e
     obtain ⟨p,vs,rfl,hq,hr⟩:=my hy
     exact ⟨x,ys,p,vs,hx.rep I,rfl,.inr (aK.tup I hq),hr.mono I,hf,hu,k _ S H (bw.refl I) kO⟩
   . rw [if_neg hf] at e; cases e
 | lst ys=>
   simp only [gP] at e
   by_cases hf:ys.all cz = true
   . rw [if_pos hf] at e
     cases e
     obtain ⟨p,vs,rfl,hq,hr⟩:=iz hy
     exact ⟨x,ys,p,vs,hx.rep I,rfl,.inl hq,hr.mono I,hf,hu,k _ S H (bw.refl I) kO⟩
   . rw [if_neg hf] at e; cases e
 | _=>simp only [gP] at e; cases e
theorem nu {A:Around} (hu:A.units + 64 < cLine):JR K (B3 K A false) gIn:=by
 intro S H x y v u rr Q I hx hy e k
 obtain ⟨b,e1,e2⟩:=Option.map_eq_some_iff.mp e
 subst e2
 exact zc hu I hx hy e1 k
theorem sW {A:Around} (hu:A.units + 64 < cLine):JR K (B3 K A true) pj:=by
 intro S H x y v u rr Q I hx hy e k
 obtain ⟨b,e1,e2⟩:=Option.map_eq_some_iff.mp e
 subst e2
 exact zc hu I hx hy e1 k
end
end L2.P
namespace L2.P
open PySem PySem.Spec PyProof.Rows L2 L2.E
section
variable {K:PySem.W.Frag} {cls:String -> Option Addr} {W:XW} {Av G S₀ S S' H H' B B':Hp} {ρ:ag} {σ:St} {Q:VK}
noncomputable abbrev g2 (K:PySem.W.Frag) (i j:Nat):TG:=Hh K 2 (zH (nr i) (zH (nr j) Hk))
theorem yr {i j:Nat} {tb:TS} {mb:ag -> OS} {D:Ends} {x y:PV} {xs:List PV} {v u:V} {t:Addr} {N:St -> Hp -> Prop} (hb:JS K cls W tb mb) (I:SR K cls Av G S₀ ρ σ S H) (hx:Rep K S x v) (hy:Rep K S y u) (ht:SqT K H t [v,u])
  (p:i6 K cls W Av G S₀ S D (mY i j mb (.tup [x,y] ::xs) ρ)) (hN:∀ ρ' σ' S' H',SR K cls Av G S₀ ρ' σ' S' H' -> aK S S' -> i6 K cls W Av G S₀ S' D (mY i j mb xs ρ') -> N σ' H'):
  g2 K i j (.ref t) σ H fun σ2 H2=>tb { D with nx:=N,ct:=N,bk:=D.nx } σ2 H2:=by
 refine ⟨t,_,rfl,ht,rfl,_,_,rfl,_,_,rfl,rfl,?_⟩
 refine hb Av G S₀ _ _ S H _ ((I.wM hx).wM hy) ?_
 unfold mY at p
 cases e:mb ((ρ.set i (some (.sh x))).set j (some (.sh y))) with
 | nx ρ'=>rw [e] at p; exact fun σ' S' H' I' s'=>hN ρ' σ' S' H' I' s' (p.back s')
 | ct ρ'=>rw [e] at p; exact fun σ' S' H' I' s'=>hN ρ' σ' S' H' I' s' (p.back s')
 | bk ρ'=>rw [e] at p; exact p
 | rt ρ' r=>rw [e] at p; exact p
 | exc ρ' c fs=>rw [e] at p; exact p
 | bad=>rw [e] at p; exact p
theorem yu (xs:List PV):∀ (k n:Nat) (y:PV),xs[k]? = some y -> qS (n + k) (xs.drop k) = .tup [.int ((n + k:Nat):Int),y] ::qS (n + (k + 1)) (xs.drop (k + 1)):=by
 intro k n y hy
 have hk:k < xs.length:=(List.getElem?_eq_some_iff.mp hy).1
 rw [List.drop_eq_getElem_cons hk]
 have:xs[k] = y:=(List.getElem?_eq_some_iff.mp hy).2
 rw [this]
 rfl
theorem DS {i j:Nat} {tl:TE} {tb:TS} {ml:ag -> OE} {mb:ag -> OS} (hl:JE K cls W tl ml) (hb:JS K cls W tb mb):JS K cls W (B4 (Cc K (jK tl lK)) (g2 K i j) tb) (zL i j ml mb):=by
 intro Av G S₀ ρ σ S H D I p
 refine hl Av G S₀ ρ σ S H _ I ?_
 unfold zL at p
 cases em:ml ρ with
 | exc c fs=>rw [em] at p; exact fun a C S' H' w x=>p a C σ S' H' (I.grow w) w.s x
 | bad=>rw [em] at p; exact p
 | ok r=>
   rw [em] at p
   intro v S1 H1 w1 r1
   simp only [OE.bU] at p
   cases ei:ya r with
   | none=>rw [ei] at p; exact p.elim
   | some xs=>
     rw [ei] at p
     have es:lL r = some (.lst xs):=by
      cases r with
      | sh y=>cases y <;> cases ei <;> rfl
      | fr ys=>cases ei; rfl
      | al ys=>cases ei
     obtain ⟨S2,w2,s2,rx⟩:=r1.share w1 es
     have I2:=I.grow w2
     unfold Rep at rx
     obtain ⟨a,vs,rfl,hq,hr⟩:=rx
     show ∃ a',[V.ref a] = [V.ref a'] /\ _
     refine ⟨a,rfl,⟨vs,aK.seq I2.sh hq⟩,?_⟩
     refine Cy (xs:=vs) (fun k σ' H'=>∃ ρ' S',SR K cls Av G S₀ ρ' σ' S' H' /\ aK S2 S' /\ i6 K cls W Av G S₀ S' D (mY i j mb (qS (0 + k) (xs.drop k)) ρ'))
      ⟨ρ,S2,I2,aK.refl _,p.back w2.s⟩ ?_ ?_ ?_
     . rintro k σ' H' _ ⟨ρ',S',I',s',_⟩
       exact aK.seq (s'.trans I'.sh) hq
     . rintro k x σ' H' t hx ⟨ρ',S',I',s',p'⟩ ht
       obtain ⟨y,hy,ry⟩:=hr.JW hx
       rw [yu xs k 0 y hy] at p'
       have w3:bw S' H' S' (upd H' t (.tup [.int k,x])):=bw.heap I'.sh ht
       refine yr hb (I'.grow w3) (x:=.int ((0 + k:Nat):Int)) (v:=.int k) (by unfold Rep; rw [Nat.zero_add]) (Rep.mono s' ry) (SqT.new bc) p' fun ρ2 σ2 S3 H3 I3 s3 p3=>⟨ρ2,S3,I3,s'.trans s3,p3⟩
     . rintro σ' H' ⟨ρ',S',I',s',p'⟩
       rw [List.drop_of_length_le (by rw [hr.length]; exact Nat.le_refl _)] at p'
       exact p' σ' S' H' I' (aK.refl _)
end
end L2.P
namespace L2.E
open PySem PySem.Spec PyProof.Rows L2
theorem ET {X:Cx} {elts:List Expr} {k:Nat} {tp:Pos} {a:Expr} {ta:TA} {p pos:Pos} (hg:Gl X "enumerate") (hm:X.mg "enumerate" = none) (ha:QA X [a] ta) (hs:starEach [a] X.env = [(false,eval a X.env)]:=by rfl):
  QI X (.Tuple elts k tp) (.Call (.Name "enumerate" p) [a] [] pos) (Cc X.K ta):=⟨D9 hg hm ha.out hs⟩
structure QGs (X:Cx) (es:List Expr) (t:TGs):Prop where
 out:PGs X es t
theorem ER {X:Cx}:QGs X [] Hk:=⟨Ec⟩
theorem xX {X:Cx} {e:Expr} {es:List Expr} {t:TG} {u:TGs} (h1:QG X e t) (h2:QGs X es u)
  (hs:(assignEach (e ::es) X.env).map (·.2) = assign e X.env ::(assignEach es X.env).map (·.2):=by rfl):QGs X (e ::es) (zH t u):=⟨BN h1.out h2.out hs⟩
theorem Hs {X:Cx} {es:List Expr} {k:Nat} {t:TGs} {n:Nat} {pos:Pos} (hc:X.calm = true) (h:QGs X es t)
  (hn:(assignEach es X.env).length = n:=by rfl) (hst:(assignEach es X.env).findIdx? (·.1) = none:=by rfl):QG X (.Tuple es k pos) (Hh X.K n t):=⟨HW hc h.out hn hst⟩
end L2.E
namespace L2.P
open PySem PySem.Spec PyProof.Rows L2 L2.E
section
variable {K:PySem.W.Frag} {cls:String -> Option Addr} {W:XW} {Av G S₀ S S' H H' B B':Hp} {ρ:ag} {σ:St} {Q:VK} {F:Nat -> List Addr}
theorem bQ.length {ts:List OV} {vs:List V} {f:List Addr} (h:bQ K cls S H ts vs f):vs.length = ts.length:=by
 induction ts generalizing vs f with
 | nil=>unfold bQ at h; rw [h.1]; rfl
 | cons t ts ih=>
   unfold bQ at h
   obtain ⟨v,r,f1,f2,rfl,_,_,h2⟩:=h
   simp [ih h2]
theorem bQ.cons_inv {t:OV} {ts:List OV} {vs:List V} {fp:List Addr} (h:bQ K cls S H (t ::ts) vs fp):∃ v r f1 f2,vs = v ::r /\ fp = f1 ++ f2 /\ bI K cls S H t v f1 /\ bQ K cls S H ts r f2:=by unfold bQ at h; exact h
theorem bQ.cons {t:OV} {ts:List OV} {v:V} {vs:List V} {f1 f2:List Addr} (h:bI K cls S H t v f1) (r:bQ K cls S H ts vs f2):bQ K cls S H (t ::ts) (v ::vs) (f1 ++ f2):=by unfold bQ; exact ⟨v,vs,f1,f2,rfl,rfl,h,r⟩
theorem bQ.nil:bQ K cls S H [] [] []:=by unfold bQ; exact ⟨rfl,rfl⟩
theorem bQ.append {ts us:List OV} {vs ws:List V} {f g:List Addr} (h:bQ K cls S H ts vs f) (k:bQ K cls S H us ws g):bQ K cls S H (ts ++ us) (vs ++ ws) (f ++ g):=by
 induction ts generalizing vs f with
 | nil=>unfold bQ at h; rw [h.1,h.2]; exact k
 | cons t ts ih=>
   obtain ⟨v,r,f1,f2,rfl,rfl,h1,h2⟩:=h.cons_inv
   have:=bQ.cons h1 (ih h2)
   rw [List.append_assoc]
   exact this
theorem bQ.shs {xs:List PV} {vs:List V} (h:bS K S xs vs):bQ K cls S H (xs.map .sh) vs []:=by
 induction xs generalizing vs with
 | nil=>rw [h.nil_inv]; exact .nil
 | cons x xs ih=>
   obtain ⟨v,r,rfl,h1,h2⟩:=h.cons_inv
   exact bQ.cons (f1:=[]) (by unfold bI; exact ⟨rfl,h1⟩) (ih h2)
theorem bQ.flat {ts:List OV} {xs:List PV} {vs:List V} {f:List Addr} (e:wB ts = some xs) (h:bQ K cls S H ts vs f):bS K S xs vs /\ f = []:=by
 induction ts generalizing xs vs f with
 | nil=>cases e; unfold bQ at h; rw [h.1,h.2]; exact ⟨.nil,rfl⟩
 | cons t ts ih=>
   cases t with
   | sh x=>
     obtain ⟨ys,e1,e2⟩:=Option.map_eq_some_iff.mp e
     subst e2
     obtain ⟨v,r,f1,f2,rfl,rfl,h1,h2⟩:=h.cons_inv
     unfold bI at h1
     obtain ⟨h3,h4⟩:=ih e1 h2
     exact ⟨.cons h1.2 h3,by rw [h1.1,h4]; rfl⟩
   | ol _=>cases e
   | ob _ _ _=>cases e
   | di _=>cases e
   | dt _=>cases e
theorem bQ.at {ts:List OV} {vs:List V} {f:List Addr} {k:Nat} {u:OV} (h:bQ K cls S H ts vs f) (e:ts[k]? = some u):
  ∃ w f1 rest,vs[k]? = some w /\ bI K cls S H u w f1 /\ f.Perm (f1 ++ rest) /\
    ∀ S' H' u' w' f',aK S S' -> bI K cls S' H' u' w' f' -> (∀ a ∈ rest,∀ o,H a = some o -> H' a = some o) -> ∃ g,bQ K cls S' H' (ts.set k u') (vs.set k w') g /\ g.Perm (f' ++ rest):=by
 induction ts generalizing vs f k with
 | nil=>simp at e
 | cons t ts ih=>
   obtain ⟨v,r,f1,f2,rfl,rfl,h1,h2⟩:=h.cons_inv
   cases k with
   | zero=>
     simp at e
     subst e
     refine ⟨v,f1,f2,rfl,h1,List.Perm.refl _,fun S' H' u' w' f' s r' g=>?_⟩
     exact ⟨f' ++ f2,bQ.cons r' (h2.mono s g),List.Perm.refl _⟩
   | succ k=>
     simp at e
     obtain ⟨w,g1,rest,e1,r1,p1,c1⟩:=ih h2 e
     refine ⟨w,g1,f1 ++ rest,by simpa using e1,r1,?_,fun S' H' u' w' f' s r' g=>?_⟩
     . have:(f1 ++ f2).Perm (f1 ++ (g1 ++ rest)):=List.Perm.append_left f1 p1
       refine this.trans ?_
       rw [<- List.append_assoc,<- List.append_assoc]
       exact List.Perm.append_right rest List.perm_append_comm
     . obtain ⟨g2,r2,p2⟩:=c1 S' H' u' w' f' s r' fun a ha=>g a (List.mem_append_right _ ha)
       refine ⟨f1 ++ g2,bQ.cons (h1.mono s fun a ha=>g a (List.mem_append_left _ ha)) r2,?_⟩
       refine (List.Perm.append_left f1 p2).trans ?_
       rw [<- List.append_assoc,<- List.append_assoc]
       exact List.Perm.append_right rest List.perm_append_comm
theorem zY {ks:List Str} {ts:List OV} {f:Str} {u:OV} (h:nT ks ts f = some u):∃ k,ts[k]? = some u /\ ks[k]? = some f /\ (∀ u',tP ks ts f u' = ts.set k u') /\ ∀ {α:Type} (us:List (Str × α)),us.map (·.1) = ks -> us.lookup f = (us.map (·.2))[k]?:=by
 induction ks generalizing ts with
 | nil=>simp [nT] at h
 | cons g ks ih=>
   cases ts with
   | nil=>simp [nT] at h
   | cons t ts=>
     unfold nT at h
     split at h
     . rename_i e
       subst e
       cases h
       refine ⟨0,rfl,rfl,fun u'=>by simp [tP],fun us eu=>?_⟩
       cases us with
       | nil=>cases eu
       | cons q us=>
         simp at eu
         obtain ⟨a,b⟩:=q
         simp at eu
         rw [<- eu.1]
         simp [List.lookup]
     . rename_i ne
       obtain ⟨k,e1,e2,e3,e4⟩:=ih h
       refine ⟨k + 1,by simpa using e1,by simpa using e2,fun u'=>by simp [tP,ne,e3],fun us eu=>?_⟩
       cases us with
       | nil=>cases eu
       | cons q us=>
         obtain ⟨a,b⟩:=q
         simp at eu
         have:(f == a) = false:=by rw [eu.1]; simpa using Ne.symm ne
         simp [List.lookup,this,e4 us eu.2]
noncomputable def uC (H:Hp):Stp -> V -> V -> Prop
 | .ix k,v,w=>∃ p vs,v = .ref p /\ H p = some (.lst vs) /\ vs[k]? = some w
 | .fd f,v,w=>∃ p C dx us,v = .ref p /\ H p = some (.ins C dx us) /\ us.lookup f = some w
noncomputable def ke (H:Hp):V -> List Stp -> V -> Prop
 | v,[],w=>w = v
 | v,s ::π,w=>∃ u,uC H s v u /\ ke H u π w
theorem uC.inj {s:Stp} {v w w':V} (h:uC H s v w) (k:uC H s v w'):w = w':=by
 cases s with
 | ix n=>
   obtain ⟨p,vs,rfl,e1,e2⟩:=h
   obtain ⟨p',vs',e3,e4,e5⟩:=k
   cases e3
   rw [e1] at e4; cases e4
   rw [e2] at e5; cases e5; rfl
 | fd f=>
   obtain ⟨p,C,dx,us,rfl,e1,e2⟩:=h
   obtain ⟨p',C',dx',us',e3,e4,e5⟩:=k
   cases e3
   rw [e1] at e4; cases e4
   rw [e2] at e5; cases e5; rfl
theorem ke.inj {π:List Stp}:∀ {v w w':V},ke H v π w -> ke H v π w' -> w = w':=by
 induction π with
 | nil=>intro v w w' h k; rw [h,k]
 | cons s π ih=>
   rintro v w w' ⟨u,h1,h2⟩ ⟨u',k1,k2⟩
   have:=h1.inj k1
   subst this
   exact ih h2 k2
theorem ke.snoc {π:List Stp} {s:Stp}:∀ {v w u:V},ke H v π w -> uC H s w u -> ke H v (π ++ [s]) u:=by
 induction π with
 | nil=>intro v w u h k; rw [h] at k; exact ⟨u,k,rfl⟩
 | cons t π ih=>
   rintro v w u ⟨x,h1,h2⟩ k
   exact ⟨x,h1,ih h2 k⟩
theorem ke.mono {π:List Stp} (g:aK H H'):∀ {v w:V},ke H v π w -> ke H' v π w:=by
 induction π with
 | nil=>intro v w h; exact h
 | cons t π ih=>
   rintro v w ⟨x,h1,h2⟩
   refine ⟨x,?_,ih h2⟩
   cases t with
   | ix k=>obtain ⟨p,vs,e,e1,e2⟩:=h1; exact ⟨p,vs,e,g _ _ e1,e2⟩
   | fd f=>obtain ⟨p,C,dx,us,e,e1,e2⟩:=h1; exact ⟨p,C,dx,us,e,g _ _ e1,e2⟩
theorem bI.step {t u:OV} {v:V} {fp:List Addr} {s:Stp} (h:bI K cls S H t v fp) (e:t.at1 s = some u):
  ∃ w f1 rest,uC H s v w /\ bI K cls S H u w f1 /\ fp.Perm (f1 ++ rest) /\
    ∀ S' H' u' f',aK S S' -> bI K cls S' H' u' w f' -> (∀ a ∈ rest,∀ o,H a = some o -> H' a = some o) -> ∃ g,bI K cls S' H' (t.Dk s u') v g /\ g.Perm (f' ++ rest):=by
 cases t with
 | sh x=>cases s <;> cases e
 | di x=>cases s <;> cases e
 | dt x=>cases s <;> cases e
 | ol ts=>
   cases s with
   | fd f=>cases e
   | ix k=>
     unfold bI at h
     obtain ⟨p,vs,f,rfl,hp,rfl,r⟩:=h
     obtain ⟨w,f1,rest,e1,r1,p1,c1⟩:=r.at e
     refine ⟨w,f1,p ::rest,⟨p,vs,rfl,hp,e1⟩,r1,?_,fun S' H' u' f' s r' g=>?_⟩
     . exact (List.Perm.cons p p1).trans (List.perm_middle.symm)
     . obtain ⟨g2,r2,p2⟩:=c1 S' H' u' w f' s r' fun a ha=>g a (by simp [ha])
       refine ⟨p ::g2,?_,(List.Perm.cons p p2).trans List.perm_middle.symm⟩
       rw [lV e1] at r2
       unfold OV.Dk bI
       exact ⟨p,vs,g2,rfl,g p (by simp) _ hp,rfl,r2⟩
 | ob c ks ts=>
   cases s with
   | ix k=>cases e
   | fd f=>
     unfold bI at h
     obtain ⟨p,C,dx,us,ff,rfl,hc,hp,hd,hk,rfl,r⟩:=h
     obtain ⟨k,e1,e2,e3,e4⟩:=zY e
     obtain ⟨w,f1,rest,q1,r1,p1,c1⟩:=r.at e1
     refine ⟨w,f1,p ::dx ::rest,⟨p,C,dx,us,rfl,hp,by rw [e4 us hk]; exact q1⟩,r1,?_,fun S' H' u' f' s r' g=>?_⟩
     . exact ((List.Perm.cons p ((List.Perm.cons dx p1).trans List.perm_middle.symm))).trans List.perm_middle.symm
     . obtain ⟨g2,r2,p2⟩:=c1 S' H' u' w f' s r' fun a ha=>g a (by simp [ha])
       refine ⟨p ::dx ::g2,?_,(List.Perm.cons p ((List.Perm.cons dx p2).trans List.perm_middle.symm)).trans List.perm_middle.symm⟩
       rw [lV q1] at r2
       unfold OV.Dk bI
       exact ⟨p,C,dx,us,g2,rfl,hc,g p (by simp) _ hp,g dx (by simp) _ hd,hk,rfl,by rw [e3]; exact r2⟩
theorem bI.focus {π:List Stp}:∀ {t u:OV} {v:V} {fp:List Addr},bI K cls S H t v fp -> t.get π = some u ->
  ∃ w f1 rest,ke H v π w /\ bI K cls S H u w f1 /\ fp.Perm (f1 ++ rest) /\
    ∀ S' H' u' f',aK S S' -> bI K cls S' H' u' w f' -> (∀ a ∈ rest,∀ o,H a = some o -> H' a = some o) -> ∃ g,bI K cls S' H' (t.put π u') v g /\ g.Perm (f' ++ rest):=by
 induction π with
 | nil=>
   intro t u v fp h e
   cases e
   exact ⟨v,fp,[],rfl,h,by simp,fun S' H' u' f' _ r' _=>⟨f',by unfold OV.put; exact r',by simp⟩⟩
 | cons s π ih=>
   intro t u v fp h e
   unfold OV.get at e
   obtain ⟨t1,e1,e2⟩:=Option.bind_eq_some_iff.mp e
   obtain ⟨w1,f1,rest1,st,r1,p1,c1⟩:=h.step e1
   obtain ⟨w,f2,rest2,wk,r2,p2,c2⟩:=ih r1 e2
   refine ⟨w,f2,rest2 ++ rest1,⟨w1,st,wk⟩,r2,?_,fun S' H' u' f' s' r' g=>?_⟩
   . rw [<- List.append_assoc]
     exact p1.trans (List.Perm.append_right rest1 p2)
   . obtain ⟨g1,q1,k1⟩:=c2 S' H' u' f' s' r' fun a ha=>g a (List.mem_append_left _ ha)
     obtain ⟨g2,q2,k2⟩:=c1 S' H' _ g1 s' q1 fun a ha=>g a (List.mem_append_right _ ha)
     refine ⟨g2,?_,?_⟩
     . unfold OV.put
       rw [e1]
       exact q2
     . rw [<- List.append_assoc]
       exact k2.trans (List.Perm.append_right rest1 k1)
theorem SR.tree {i:Nat} {t:OV} (I:SR K cls Av G S₀ ρ σ S H) (e:kq i ρ = some t):∃ v fp,σ[i]? = some (some v) /\ bI K cls S H t v fp:=by
 obtain ⟨F,J⟩:=I
 unfold kq at e
 cases q:ρ[i]? with
 | none=>rw [q] at e; cases e
 | some o=>
   cases o with
   | none=>rw [q] at e; cases e
   | some s=>
     rw [q] at e
     obtain ⟨v,e1,r⟩:=J.own i s q
     cases s with
     | tr io t'=>cases e; exact ⟨v,_,e1,r.1⟩
     | bo t'=>
       cases e
       obtain ⟨_,f,r⟩:=r
       exact ⟨v,f,e1,r.mono (aK.refl _) fun _ _ _ h=>J.gh _ _ h⟩
     | sh x=>cases e
     | ow xs=>cases e
     | ex c fs=>cases e
noncomputable def JP (K:PySem.W.Frag) (cls:String -> Option Addr) (te:TE) (i:Nat) (mp:MP):Prop:=∀ Av G S₀ ρ σ S H Q v0 t π,SR K cls Av G S₀ ρ σ S H -> kq i ρ = some t -> σ[i]? = some (some v0) -> mp ρ = some π -> (t.get π).isSome = true ->
 (∀ w S' H',bw S H S' H' -> ke H' v0 π w -> Q w H') -> te σ H Q
theorem jG {i:Nat}:JP K cls (qq i) i fQ:=by
 intro Av G S₀ ρ σ S H Q v0 t π I e ev ep _ k
 cases ep
 exact ⟨v0,ev,k v0 S H (bw.refl I.sh) rfl⟩
theorem JP.sub {i:Nat} {te:TE} {mp:MP} {u:OV} {Q:VK} (hp:JP K cls te i mp) (I:SR K cls Av G S₀ ρ σ S H) (e:subAt i mp ρ = some u)
  (k:∀ w S' H' f,bw S H S' H' -> SR K cls Av G S₀ ρ σ S' H' -> bI K cls S' H' u w f -> Q w H'):te σ H Q:=by
 unfold subAt at e
 split at e
 . rename_i t et
   split at e
   . rename_i π eπ
     obtain ⟨v0,fp0,ev,_⟩:=I.tree et
     refine hp Av G S₀ ρ σ S H _ v0 t π I et ev eπ (by rw [e]; rfl) fun w S1 H1 w1 wk=>?_
     obtain ⟨v,fp,ev',ro⟩:=(I.grow w1).tree et
     rw [ev] at ev'; cases ev'
     obtain ⟨w',f1,rest,wk',r',_,_⟩:=ro.focus e
     have:=wk.inj wk'
     subst this
     exact k w S1 H1 f1 w1 (I.grow w1) r'
   . cases e
 . cases e
theorem wx {i:Nat} {te:TE} {mp:MP} {f:Str} {ok:String -> Bool} (hp:JP K cls te i mp) (ha:∀ c C,cls c = some C -> ok c = true -> Cls K C /\ lO K C f):JP K cls (HF K te f) i (pFd i mp f ok):=by
 intro Av G S₀ ρ σ S H Q v0 t π I e ev ep hs k
 unfold pFd at ep
 split at ep
 . rename_i c ks ts es
   split at ep
   . rename_i hok
     rw [Bool.and_eq_true] at hok
     obtain ⟨π0,e0,rfl⟩:=Option.map_eq_some_iff.mp ep
     have e1:t.get π0 = some (.ob c ks ts):=by
      unfold subAt at es
      rw [e] at es
      dsimp only at es
      rw [e0] at es
      exact es
     refine hp Av G S₀ ρ σ S H _ v0 t π0 I e ev e0 (by rw [e1]; rfl) fun w S1 H1 w1 wk=>?_
     have I1:=I.grow w1
     obtain ⟨v,fp,ev',ro⟩:=I1.tree e
     rw [ev] at ev'; cases ev'
     obtain ⟨w',f1,rest,wk',r',_,_⟩:=ro.focus e1
     have:=wk.inj wk'
     subst this
     unfold bI at r'
     obtain ⟨p,C,dx,us,ff,rfl,hcl,hp',hd,hk,rfl,r⟩:=r'
     obtain ⟨a1,a2⟩:=ha c C hcl hok.1
     cases q:nT ks ts f with
     | none=>rw [q] at hok; cases hok.2
     | some u=>
       obtain ⟨n,h1,h2,h3,h4⟩:=zY q
       have hn:n < (us.map (·.2)).length:=by rw [r.length]; exact (List.getElem?_eq_some_iff.mp h1).1
       have hx:us.lookup f = some (us.map (·.2))[n]:=by rw [h4 us hk]; exact List.getElem?_eq_getElem hn
       exact ⟨p,C,dx,us,_,rfl,hp',a1,a2,hx,k _ S1 H1 w1 (wk'.snoc ⟨p,C,dx,us,rfl,hp',hx⟩)⟩
   . cases ep
 . cases ep
theorem zf {i:Nat} {te:TE} {mp:MP} (hp:JP K cls te i mp):JE K cls W te (qT i mp):=by
 intro Av G S₀ ρ σ S H Q I p
 unfold qT at p
 split at p
 . rename_i x e
   refine hp.sub I e fun w S1 H1 f w1 _ r=>?_
   unfold bI at r
   exact p w S1 H1 w1 r.2
 . rename_i ts e
   split at p
   . rename_i xs ex
     refine hp.sub I e fun w S1 H1 f w1 _ r=>?_
     unfold bI at r
     obtain ⟨q,vs,ff,rfl,hq,_,rs⟩:=r
     exact p _ S1 H1 w1 ⟨q,vs,rfl,SqL.new hq,(rs.flat ex).1⟩
   . exact p.elim
 . exact p.elim
theorem A0 {i:Nat} {te:TE} {mp:MP} (hp:JP K cls te i mp):JT K cls W (fun σ H Q=>te σ H fun x H'=>∃ k,yW K x H' k /\ Q k H') (p7 i mp):=by
 intro Av G S₀ ρ σ S H Q I p
 unfold p7 at p
 split at p
 . rename_i ts e
   refine hp.sub I e fun w S1 H1 f w1 _ r=>?_
   unfold bI at r
   obtain ⟨q,vs,ff,rfl,hq,_,rs⟩:=r
   refine ⟨_,.inl ⟨vs,SqL.new hq,rfl⟩,?_⟩
   have:vs.isEmpty = ts.isEmpty:=by
    have:=rs.length
    cases vs <;> cases ts <;> simp_all
   rw [this]
   exact p S1 H1 w1
 . exact p.elim
end
end L2.P
namespace L2.P
open PySem PySem.Spec PyProof.Rows L2 L2.E
section
variable {K:PySem.W.Frag} {cls:String -> Option Addr} {W:XW} {Av G S₀ S S' H H' B B':Hp} {ρ:ag} {σ:St} {Q:VK} {F:Nat -> List Addr}
theorem SRF.part {i:Nat} {io:Bool} {t u:OV} {v0:V} {π:List Stp} (J:SRF K cls Av G S₀ ρ σ S H F) (hi:ρ[i]? = some (some (.tr io t))) (hv:σ[i]? = some (some v0)) (e:t.get π = some u):
  ∃ w f1 rest,ke H v0 π w /\ bI K cls S H u w f1 /\ (F i).Perm (f1 ++ rest) /\ (f1 ++ rest).Nodup /\ (∀ a ∈ f1,G a = none /\ S a = none) /\
    ∀ S' H' u' f',aK S S' -> aK S' H' -> aK G H' -> (∀ b,S' b ≠ none -> S₀ b ≠ none \/ G b = none) -> bI K cls S' H' u' w f' -> f'.Nodup -> (∀ a ∈ f',a ∈ f1 \/ H a = none) -> (∀ a ∈ f',S' a = none) ->
      (∀ a o,a ∉ f1 -> H a = some o -> H' a = some o) -> (∀ a,S' a ≠ none -> S a ≠ none \/ H a = none \/ a ∈ f1) ->
      ∃ g,SRF K cls Av G S₀ (ρ.set i (some (.tr io (t.put π u')))) σ S' H' (oK F i g) /\ g.Perm (f' ++ rest):=by
 obtain ⟨v,ev,ro,nd,gs,hio⟩:=J.own i _ hi
 rw [hv] at ev; cases ev
 obtain ⟨w,f1,rest,wk,r1,p1,c1⟩:=ro.focus e
 have nd1:(f1 ++ rest).Nodup:=p1.nodup_iff.mp nd
 have in1:∀ a,a ∈ f1 -> a ∈ F i:=fun a ha=>p1.mem_iff.mpr (List.mem_append_left _ ha)
 have inr:∀ a,a ∈ rest -> a ∈ F i:=fun a ha=>p1.mem_iff.mpr (List.mem_append_right _ ha)
 have off1:∀ a,a ∈ rest -> a ∉ f1:=fun a ha hb=>(List.nodup_append.mp nd1).2.2 a hb a ha rfl
 refine ⟨w,f1,rest,wk,r1,p1,nd1,fun a ha=>gs a (in1 a ha),fun S' H' u' f' s sh gh new r' nd' fr nS keep nw=>?_⟩
 obtain ⟨g,rg,pg⟩:=c1 S' H' u' f' s r' fun a ha o h=>keep a o (off1 a ha) h
 have noS:∀ j a,a ∈ F j -> a ∉ f1 -> S' a = none:=fun j a ha hb=>by
  cases q:S' a with
  | none=>rfl
  | some o=>
    obtain ⟨⟨o',h1,_⟩,_,h3⟩:=J.live j a ha
    rcases nw a (by rw [q]; simp) with z | z | z
    . exact absurd h3 z
    . rw [h1] at z; cases z
    . exact absurd z hb
 have J1:SRF K cls Av G S₀ (ρ.set i none) (σ.set i none) S H (oK F i []):=J.put (fun t e=>nomatch e) (fun a ha=>nomatch ha) fun j a _ ha=>nomatch ha
 have off:∀ j a,a ∈ oK F i [] j -> a ∉ f1 /\ j ≠ i:=fun j a ha=>by
  by_cases ej:j = i
  . subst ej; rw [ka] at ha; cases ha
  . rw [gw ej] at ha
    exact ⟨fun hb=>ej (J.apart j i a ha (in1 a hb)),ej⟩
 have J2:=J1.change (S':=S') (H':=H') gh s sh new (fun j a ha o h=>keep a o (off j a ha).1 h)
  (fun b o hx h=>keep b o (fun hb=>by
    obtain ⟨⟨o',h1,h2⟩,_⟩:=J.live i b (in1 b hb)
    rw [h] at h1; cases h1; rw [hx] at h2; cases h2) h)
  fun j a ha=>by
   have hj:=off j a ha
   rw [gw hj.2] at ha
   exact noS j a ha hj.1
 have mem:∀ a,a ∈ g -> a ∈ f' \/ a ∈ rest:=fun a ha=>List.mem_append.mp (pg.mem_iff.mp ha)
 have hlive:∀ a ∈ g,(∃ o,H' a = some o /\ isX o = false) /\ G a = none /\ S' a = none:=fun a ha=>by
  refine ⟨rg.live a ha,?_,?_⟩
  . rcases mem a ha with z | z
    . rcases fr a z with y | y
      . exact (gs a (in1 a y)).1
      . exact J.gh.free y
    . exact (gs a (inr a z)).1
  . rcases mem a ha with z | z
    . exact nS a z
    . exact noS i a (inr a z) (off1 a z)
 have ndg:g.Nodup:=pg.nodup_iff.mpr (List.nodup_append.mpr ⟨nd',(List.nodup_append.mp nd1).2.1,fun a ha b hb z=>by
  subst z
  rcases fr a ha with y | y
  . exact off1 a hb y
  . obtain ⟨⟨o',h1,_⟩,_⟩:=J.live i a (inr a hb)
    rw [y] at h1; cases h1⟩)
 have J3:=J2.put (i:=i) (s:=some (.tr io (t.put π u'))) (u:=some v0) (fp:=g) (fun t' e=>by
  cases e
  exact ⟨v0,rfl,rg,ndg,fun a ha=>⟨(hlive a ha).2.1,(hlive a ha).2.2⟩,hio⟩) hlive fun j a hj ha hz=>by
   rw [gw hj] at hz
   rcases mem a ha with z | z
   . rcases fr a z with y | y
     . exact hj (J.apart j i a hz (in1 a y))
     . obtain ⟨⟨o',h1,_⟩,_⟩:=J.live j a hz
       rw [y] at h1; cases h1
   . exact hj (J.apart j i a hz (inr a z))
 rw [List.set_set,List.set_set,lV hv] at J3
 have eF:oK (oK F i []) i g = oK F i g:=by
  funext j
  by_cases ej:j = i
  . subst ej; rw [ka,ka]
  . rw [gw ej,gw ej,gw ej]
 rw [eF] at J3
 exact ⟨g,J3,pg⟩
theorem SRF.more {s:Option Sl} {u:Option V} {fp:List Addr} (I:SRF K cls Av G S₀ ρ σ S H F) (h:∀ t,s = some t -> ∃ v,u = some v /\ q9 K cls Av G S H ρ.length t v fp)
  (hl:∀ a ∈ fp,(∃ o,H a = some o /\ isX o = false) /\ G a = none /\ S a = none) (ap:∀ j a,j < ρ.length -> a ∈ fp -> a ∉ F j):∃ F',SRF K cls Av G S₀ (ρ ++ [s]) (σ ++ [u]) S H F':=by
 refine ⟨fun j=>if j < ρ.length then F j else if j = ρ.length then fp else [],I.gh,I.s0,I.sh,I.new,fun j t e=>?_,fun j k a h1 h2=>?_,fun j a ha=>?_,by simp [I.len]⟩
 . by_cases hj:j < ρ.length
   . rw [List.getElem?_append_left hj] at e
     rw [List.getElem?_append_left (by rw [<- I.len]; exact hj)]
     simp only [hj,if_true]
     exact I.own j t e
   . rw [List.getElem?_append_right (Nat.le_of_not_lt hj)] at e
     have h0:j - ρ.length = 0:=by
      by_cases h:j - ρ.length = 0
      . exact h
      . rw [List.getElem?_eq_none (by simp; omega)] at e; cases e
     rw [h0] at e
     have ej:j = ρ.length:=by omega
     obtain ⟨v,e2,r⟩:=h t (Option.some.inj e)
     refine ⟨v,?_,?_⟩
     . rw [List.getElem?_append_right (by rw [<- I.len]; omega),<- I.len,h0,e2]; rfl
     . subst ej
       simp only [Nat.lt_irrefl,if_false,if_true]
       exact r
 . by_cases hj:j < ρ.length
   . simp only [hj,if_true] at h1
     by_cases hk:k < ρ.length
     . simp only [hk,if_true] at h2; exact I.apart j k a h1 h2
     . simp only [hk,if_false] at h2
       split at h2
       . exact absurd h1 (ap j a hj h2)
       . cases h2
   . simp only [hj,if_false] at h1
     split at h1
     . rename_i ej
       by_cases hk:k < ρ.length
       . simp only [hk,if_true] at h2; exact absurd h2 (ap k a hk h1)
       . simp only [hk,if_false] at h2
         split at h2
         . rename_i ek; rw [ej,ek]
         . cases h2
     . cases h1
 . by_cases hj:j < ρ.length
   . simp only [hj,if_true] at ha; exact I.live j a ha
   . simp only [hj,if_false] at ha
     split at ha
     . exact hl a ha
     . cases ha
theorem SR.fold {i:Nat} {s:Sl} {v:V} (I:SR K cls Av G S₀ (ρ ++ [some s]) (σ ++ [some v]) S H) (hs:nio s = true):SR K cls Av G S₀ (ρ.set i (some s)) (σ.set i (some v)) S H:=by
 obtain ⟨F,J⟩:=I
 have hlen:ρ.length = σ.length:=by have:=J.len; simpa using this
 obtain ⟨v',ev,r⟩:=J.own ρ.length s (by simp)
 have ev':v' = v:=by
  rw [List.getElem?_append_right (by rw [hlen]; exact Nat.le_refl _),hlen,Nat.sub_self] at ev
  cases ev; rfl
 subst ev'
 have J1:SRF K cls Av G S₀ ρ σ S H (fun j=>if j < ρ.length then F j else []):=by
  refine ⟨J.gh,J.s0,J.sh,J.new,fun j t e=>?_,fun j k a h1 h2=>?_,fun j a ha=>?_,hlen⟩
  . have hj:j < ρ.length:=(List.getElem?_eq_some_iff.mp e).1
    obtain ⟨v2,e2,r2⟩:=J.own j t (by rw [List.getElem?_append_left hj]; exact e)
    rw [List.getElem?_append_left (by rw [<- hlen]; exact hj)] at e2
    simp only [hj,if_true]
    exact ⟨v2,e2,r2⟩
  . split at h1
    . split at h2
      . exact J.apart j k a h1 h2
      . cases h2
    . cases h1
  . split at ha
    . exact J.live j a ha
    . cases ha
 refine ⟨_,J1.put (i:=i) (s:=some s) (u:=some v') (fp:=F ρ.length) (fun t e=>?_) (fun a ha=>J.live _ a ha) fun j a hj ha hz=>?_⟩
 . cases e
   refine ⟨v',rfl,?_⟩
   cases s with
   | sh x=>exact r
   | ow xs=>exact r
   | ex c fs=>exact r
   | tr io t=>
     cases io with
     | true=>cases hs
     | false=>exact ⟨r.1,r.2.1,r.2.2.1,fun z=>nomatch z⟩
   | bo t=>cases hs
 . split at hz
   . rename_i hj'
     have:=J.apart j ρ.length a hz ha
     omega
   . cases hz
theorem SR.zE {s:Option Sl} {u:Option V} (I:SR K cls Av G S₀ (ρ ++ [s]) (σ ++ [u]) S H):SR K cls Av G S₀ ρ σ S H:=by
 obtain ⟨F,J⟩:=I
 have hlen:ρ.length = σ.length:=by have:=J.len; simpa using this
 refine ⟨F,J.gh,J.s0,J.sh,J.new,fun j t e=>?_,J.apart,J.live,hlen⟩
 have hj:j < ρ.length:=(List.getElem?_eq_some_iff.mp e).1
 obtain ⟨v2,e2,r2⟩:=J.own j t (by rw [List.getElem?_append_left hj]; exact e)
 rw [List.getElem?_append_left (by rw [<- hlen]; exact hj)] at e2
 exact ⟨v2,e2,r2⟩
noncomputable def Bs (K:PySem.W.Frag) (cls:String -> Option Addr) (B S H:Hp) (t:OV) (v:V):Prop:=∃ fp,bI K cls S H t v fp /\ fp.Nodup /\ ∀ a ∈ fp,B a = none /\ S a = none
noncomputable def Jv (K:PySem.W.Frag) (cls:String -> Option Addr) (W:XW) (σ:St) (S H:Hp) (Q:VK):OD -> Prop
 | .ok t=>∀ v S' H',bw S H S' H' -> Bs K cls H S' H' t v -> Q v H'
 | .exc c fs=>∀ a C S' H',bw S H S' H' -> n5 K cls S' H' c fs a C -> W (.ref C) (some a) σ H'
 | .bad=>False
noncomputable def JD (K:PySem.W.Frag) (cls:String -> Option Addr) (W:XW) (te:TE) (m:ag -> OD):Prop:=∀ Av G S₀ ρ σ S H Q,SR K cls Av G S₀ ρ σ S H -> Jv K cls W σ S H Q (m ρ) -> te σ H Q
theorem Bs.grow {S1 H1:Hp} {t:OV} {v:V} (h:Bs K cls B S H t v) (w:bw S H S1 H1):Bs K cls B S1 H1 t v:=by
 obtain ⟨fp,r,nd,g⟩:=h
 refine ⟨fp,r.mono w.s fun a _ o z=>w.g _ _ z,nd,fun a ha=>⟨(g a ha).1,?_⟩⟩
 obtain ⟨o,h1,_⟩:=r.live a ha
 cases q:S1 a with
 | none=>rfl
 | some o'=>
   rcases w.new a (by rw [q]; simp) with z | z
   . exact absurd (g a ha).2 z
   . rw [h1] at z; cases z
theorem Gk {te:TE} {me:ag -> OE} (h:JE K cls W te me):JD K cls W te (mD me):=by
 intro Av G S₀ ρ σ S H Q I p
 refine h Av G S₀ ρ σ S H Q I ?_
 unfold mD at p
 cases e:me ρ with
 | exc c fs=>rw [e] at p; exact p
 | bad=>rw [e] at p; exact p
 | ok r=>
   rw [e] at p
   cases r with
   | sh x=>exact fun v S' H' w r=>p v S' H' w ⟨[],by unfold bI; exact ⟨rfl,r⟩,List.nodup_nil,fun a ha=>nomatch ha⟩
   | al xs=>exact p.elim
   | fr xs=>
     intro v S' H' w r
     obtain ⟨q,vs,rfl,hB,hS,hH,hr⟩:=r
     refine p _ S' H' w ⟨[q],by unfold bI; exact ⟨q,vs,[],rfl,hH,rfl,.shs hr⟩,by simp,fun a ha=>?_⟩
     have z:a = q:=by simpa using ha
     subst z; exact ⟨hB,hS⟩
theorem SR.Jw {i:Nat} {t:OV} {v:V} (I:SR K cls Av G S₀ ρ σ S H) (w:bw S H S' H') (h:Bs K cls H S' H' t v):SR K cls Av G S₀ (ρ.set i (some (.tr false t))) (σ.set i (some v)) S' H':=by
 obtain ⟨F,J⟩:=I
 obtain ⟨fp,r,nd,g⟩:=h
 refine ⟨_,(J.grow w).put (fp:=fp) (fun t' e=>by cases e; exact ⟨v,rfl,r,nd,fun a ha=>⟨J.gh.free (g a ha).1,(g a ha).2⟩,fun z=>nomatch z⟩) (fun a ha=>⟨r.live a ha,J.gh.free (g a ha).1,(g a ha).2⟩) fun j a _ ha hz=>?_⟩
 obtain ⟨⟨o,h1,_⟩,_⟩:=J.live j a hz
 rw [(g a ha).1] at h1; cases h1
theorem wa {i:Nat} {te:TE} {md:ag -> OD} (h:JD K cls W te md):JS K cls W (xa te (nr i)) (oW i md):=by
 intro Av G S₀ ρ σ S H D I p
 refine h Av G S₀ ρ σ S H _ I ?_
 unfold oW at p
 cases e:md ρ with
 | exc c fs=>rw [e] at p; exact fun a C S' H' w x=>p a C σ S' H' (I.grow w) w.s x
 | bad=>rw [e] at p; exact p
 | ok t=>rw [e] at p; exact fun v S1 H1 w1 r1=>p _ S1 H1 (I.Jw w1 r1) w1.s
end
end L2.P
namespace L2.P
open PySem PySem.Spec PyProof.Rows L2 L2.E
section
variable {K:PySem.W.Frag} {cls:String -> Option Addr} {W:XW} {Av G S₀ S S' H H' B B':Hp} {ρ:ag} {σ:St} {Q:VK} {F:Nat -> List Addr}
theorem bI.Hg {ts:List OV} {v:V} {fp:List Addr} (h:bI K cls S H (.ol ts) v fp):∃ p vs f,v = .ref p /\ H p = some (.lst vs) /\ fp = p ::f /\ bQ K cls S H ts vs f:=by unfold bI at h; exact h
theorem SRF.vp {i:Nat} {io:Bool} {t:OV} {ts:List OV} {v0:V} {π:List Stp} (J:SRF K cls Av G S₀ ρ σ S H F) (hi:ρ[i]? = some (some (.tr io t))) (hv:σ[i]? = some (some v0)) (e:t.get π = some (.ol ts)):
  ∃ q vs ff rest,ke H v0 π (.ref q) /\ H q = some (.lst vs) /\ vs.length = ts.length /\ bQ K cls S H ts vs ff /\ (F i).Perm ((q ::ff) ++ rest) /\ ((q ::ff) ++ rest).Nodup /\
    ∀ S' H' ts' vs' f',bw S H S' H' -> bQ K cls S' H' ts' vs' f' -> f'.Nodup -> (∀ a ∈ f',a ∈ ff \/ (H a = none /\ S' a = none)) ->
      ∃ g,SRF K cls Av G S₀ (ρ.set i (some (.tr io (t.put π (.ol ts'))))) σ S' (upd H' q (.lst vs')) (oK F i g) /\ g.Perm ((q ::f') ++ rest):=by
 obtain ⟨w,f1,rest,wk,r1,p1,nd1,gs,c⟩:=J.part hi hv e
 obtain ⟨q,vs,ff,rfl,hq,rfl,rs⟩:=r1.Hg
 refine ⟨q,vs,ff,rest,wk,hq,rs.length,rs,p1,nd1,fun S' H' ts' vs' f' wg r' nd' fr=>?_⟩
 have hGq:=(gs q (by simp)).1
 have hSq:=(gs q (by simp)).2
 have hS'q:S' q = none:=by
  cases z:S' q with
  | none=>rfl
  | some o=>
    rcases wg.new q (by rw [z]; simp) with y | y
    . exact absurd hSq y
    . rw [hq] at y; cases y
 have nq:q ∉ f':=fun z=>by
  rcases fr q z with y | y
  . exact (List.nodup_cons.mp (List.nodup_append.mp nd1).1).1 y
  . rw [y.1] at hq; cases hq
 have nS:∀ a ∈ f',S' a = none:=fun a ha=>by
  rcases fr a ha with y | y
  . cases z:S' a with
    | none=>rfl
    | some o=>
      obtain ⟨o',h1,_⟩:=rs.live a y
      rcases wg.new a (by rw [z]; simp) with k | k
      . exact absurd (gs a (by simp [y])).2 k
      . rw [h1] at k; cases k
  . exact y.2
 refine c S' (upd H' q (.lst vs')) (.ol ts') (q ::f') wg.s (wg.sh.upd hS'q) ((J.gh.trans wg.g).upd hGq) (fun b h=>?_) ?_ (List.nodup_cons.mpr ⟨nq,nd'⟩) (fun a ha=>?_) (fun a ha=>?_) (fun a o hn h=>?_) fun a h=>?_
 . rcases wg.new b h with z | z
   . exact J.new b z
   . exact .inr (J.gh.free z)
 . unfold bI
   exact ⟨q,vs',f',rfl,bc,rfl,r'.mono (aK.refl _) fun a ha o h=>by rw [bb (fun z=>nq (by rw [<- z]; exact ha))]; exact h⟩
 . rcases List.mem_cons.mp ha with z | z
   . subst z; exact .inl (by simp)
   . rcases fr a z with y | y
     . exact .inl (by simp [y])
     . exact .inr y.1
 . rcases List.mem_cons.mp ha with z | z
   . subst z; exact hS'q
   . exact nS a z
 . rw [bb (fun z=>hn (by rw [z]; simp))]; exact wg.g _ _ h
 . rcases wg.new a h with z | z
   . exact .inl z
   . exact .inr (.inl z)
theorem JP.at {i:Nat} {te:TE} {mp:MP} {io:Bool} {t u:OV} {v0:V} {π:List Stp} {Q:VK} (hp:JP K cls te i mp) (I:SR K cls Av G S₀ ρ σ S H) (hi:ρ[i]? = some (some (.tr io t))) (hv:σ[i]? = some (some v0)) (e0:mp ρ = some π) (e1:t.get π = some u)
  (k:∀ w S' H',bw S H S' H' -> SR K cls Av G S₀ ρ σ S' H' -> ke H' v0 π w -> Q w H'):te σ H Q:=
 hp Av G S₀ ρ σ S H Q v0 t π I (by unfold kq; rw [hi]; rfl) hv e0 (by rw [e1]; rfl) fun w S1 H1 w1 wk=>k w S1 H1 w1 (I.grow w1) wk
theorem sQ {i:Nat} {mp:MP} {k:OV -> (OV -> ag) -> OS} {D:Ends} (p:i6 K cls W Av G S₀ S D (Af i mp ρ k)):∃ io t π u,ρ[i]? = some (some (.tr io t)) /\ mp ρ = some π /\ t.get π = some u /\ i6 K cls W Av G S₀ S D (k u fun u'=>ρ.set i (some (.tr io (t.put π u')))):=by
 unfold Af at p
 split at p
 . rename_i io t hi
   split at p
   . rename_i π e0
     split at p
     . rename_i u e1
       exact ⟨io,t,π,u,hi,e0,e1,p⟩
     . exact p.elim
   . exact p.elim
 . exact p.elim
theorem SR.val {i:Nat} {s:Sl} (I:SR K cls Av G S₀ ρ σ S H) (e:ρ[i]? = some (some s)):∃ v,σ[i]? = some (some v):=let ⟨v,h,_⟩:=I.good i s e; ⟨v,h⟩
theorem yZ {i:Nat} {te tx:TE} {mp:MP} {md:ag -> OD} (hp:JP K cls te i mp) (hx:JD K cls W tx md):JS K cls W (qV (tBM K "list" we te (jK tx lK))) (xJ i mp md):=by
 intro Av G S₀ ρ σ S H D I p
 obtain ⟨io,t,π,u,hi,e0,e1,p⟩:=sQ p
 obtain ⟨v0,hv⟩:=I.val hi
 cases u with
 | sh x=>exact p.elim
 | ob c ks us=>exact p.elim
 | di x=>exact p.elim
 | dt x=>exact p.elim
 | ol ts=>
   dsimp only at p
   refine hp.at I hi hv e0 e1 fun w S1 H1 w1 I1 wk=>?_
   obtain ⟨F,J1⟩:=I1
   obtain ⟨q,vs,ff,rest,wk',hq,hl,rs,_,nd,c⟩:=J1.vp hi hv e1
   have:=wk.inj wk'
   subst this
   refine ⟨.inl ⟨rfl,_,SqL.new hq⟩,?_⟩
   refine hx Av G S₀ ρ σ S1 H1 _ ⟨F,J1⟩ ?_
   cases ed:md ρ with
   | exc c fs=>rw [ed] at p; exact fun a C S' H' w x=>p a C σ S' H' (SR.grow ⟨F,J1⟩ w) (w1.s.trans w.s) x
   | bad=>rw [ed] at p; exact p
   | ok x=>
     rw [ed] at p
     dsimp only at p
     split at p
     . rename_i hlt
       intro v S2 H2 w2 r2
       obtain ⟨fx,rx,ndx,gx⟩:=r2
       refine ⟨q,vs,v,rfl,rfl,w2.g _ _ hq,by rw [hl]; exact hlt,?_⟩
       have ndf:ff.Nodup:=(List.nodup_cons.mp (List.nodup_append.mp nd).1).2
       have apx:∀ a ∈ ff,a ∉ fx:=fun a ha hb=>by
        obtain ⟨o,h1,_⟩:=rs.live a ha
        rw [(gx a hb).1] at h1; cases h1
       obtain ⟨g,J3,_⟩:=c S2 H2 (ts ++ [x]) (vs ++ [v]) (ff ++ (fx ++ [])) w2 ((rs.mono w2.s fun a _ o h=>w2.g _ _ h).append (.cons rx .nil)) (by
         rw [List.append_nil]
         exact List.nodup_append.mpr ⟨ndf,ndx,fun a ha b hb z=>by subst z; exact apx a ha hb⟩) (fun a ha=>by
         rw [List.append_nil] at ha
         rcases List.mem_append.mp ha with z | z
         . exact .inl z
         . exact .inr (gx a z))
       exact p σ S2 _ ⟨_,J3⟩ (w1.s.trans w2.s)
     . exact p.elim
end
end L2.P
namespace L2.P
open PySem PySem.Spec PyProof.Rows L2 L2.E
section
variable {K:PySem.W.Frag} {cls:String -> Option Addr} {W:XW} {Av G S₀ S S' H H' B B':Hp} {ρ:ag} {σ:St} {Q:VK} {F:Nat -> List Addr}
theorem yK {i:Nat} {te tx:TE} {mp:MP} {me:ag -> OE} (hp:JP K cls te i mp) (hx:JE K cls W tx me):JS K cls W (qV (tBM K "list" u4 te (jK tx lK))) (nM i mp me):=by
 intro Av G S₀ ρ σ S H D I p
 obtain ⟨io,t,π,u,hi,e0,e1,p⟩:=sQ p
 obtain ⟨v0,hv⟩:=I.val hi
 cases u with
 | sh x=>exact p.elim
 | ob c ks us=>exact p.elim
 | di x=>exact p.elim
 | dt x=>exact p.elim
 | ol ts=>
   dsimp only at p
   refine hp.at I hi hv e0 e1 fun w S1 H1 w1 I1 wk=>?_
   have p1:=p.back w1.s
   obtain ⟨F,J1⟩:=id I1
   obtain ⟨q,vs,ff,rest,wk',hq,hl,rs,_,nd,c⟩:=J1.vp hi hv e1
   have:=wk.inj wk'
   subst this
   refine ⟨.inl ⟨rfl,_,SqL.new hq⟩,?_⟩
   refine hx.goS I1 p1 fun r v S2 H2 I2 w2 r2 p2=>?_
   cases r with
   | sh x=>exact p2.elim
   | al ys=>exact p2.elim
   | fr ys=>
     dsimp only at p2
     split at p2
     . rename_i hlt
       obtain ⟨b,us,rfl,k1,k2,k3,k4⟩:=r2
       refine ⟨q,b,vs,us,rfl,rfl,w2.g _ _ hq,k3,by rw [hl,k4.length]; exact hlt,?_⟩
       have ndf:ff.Nodup:=(List.nodup_cons.mp (List.nodup_append.mp nd).1).2
       obtain ⟨g,J3,_⟩:=c S2 H2 (ts ++ ys.map .sh) (vs ++ us) (ff ++ []) w2 ((rs.mono w2.s fun a _ o h=>w2.g _ _ h).append (.shs k4)) (by rw [List.append_nil]; exact ndf) fun a ha=>.inl (by simpa using ha)
       exact p2 σ S2 _ ⟨_,J3⟩ (aK.refl _)
     . exact p2.elim
noncomputable def FT (K:PySem.W.Frag) (cls:String -> Option Addr) (W:XW) (Av G S₀:Hp) (σ:St) (S:Hp) (Q:VK):OX -> Prop
 | .ok ρ' s=>∀ v S' H',SR K cls Av G S₀ (ρ' ++ [some s]) (σ ++ [some v]) S' H' -> aK S S' -> Q v H'
 | .exc ρ' c fs=>∀ a C S' H',SR K cls Av G S₀ ρ' σ S' H' -> aK S S' -> n5 K cls S' H' c fs a C -> W (.ref C) (some a) σ H'
 | .bad=>False
noncomputable def JX (K:PySem.W.Frag) (cls:String -> Option Addr) (W:XW) (te:TE) (m:ag -> OX):Prop:=∀ Av G S₀ ρ σ S H Q,SR K cls Av G S₀ ρ σ S H -> FT K cls W Av G S₀ σ S Q (m ρ) -> te σ H Q
theorem vN {i:Nat} {te:TE} {m:ag -> OX} (h:JX K cls W te m):JS K cls W (xa te (nr i)) (pS i m):=by
 intro Av G S₀ ρ σ S H D I p
 refine h Av G S₀ ρ σ S H _ I ?_
 unfold pS at p
 cases e:m ρ with
 | exc ρ' c fs=>rw [e] at p; exact fun a C S' H' I' s' x=>p a C σ S' H' I' s' x
 | bad=>rw [e] at p; exact p
 | ok ρ' s=>
   rw [e] at p
   dsimp only at p
   split at p
   . rename_i hs
     exact fun v S' H' I' s'=>p _ S' H' (I'.fold hs) s'
   . exact p.elim
theorem SR.IA {x:PV} {v:V} (I:SR K cls Av G S₀ (ρ ++ [some (.sh x)]) (σ ++ [some v]) S H):Rep K S x v:=by
 obtain ⟨F,J⟩:=I
 have hlen:ρ.length = σ.length:=by have:=J.len; simpa using this
 obtain ⟨v',ev,r⟩:=J.own ρ.length (.sh x) (by simp)
 rw [List.getElem?_append_right (by rw [hlen]; exact Nat.le_refl _),hlen,Nat.sub_self] at ev
 cases ev
 exact r.2
theorem EY {te:TE} {m:ag -> OX} {ta tb:TS} {ma mb:ag -> OS} (h:JX K cls W te m) (ha:JS K cls W ta ma) (hb:JS K cls W tb mb):
  JS K cls W (E8 (E2 (fun σ H Q=>te σ H fun x H'=>∃ k,yW K x H' k /\ Q k H')) ta tb) (Fp true m ma mb):=by
 intro Av G S₀ ρ σ S H D I p
 refine h Av G S₀ ρ σ S H _ I ?_
 unfold Fp at p
 cases e:m ρ with
 | exc ρ' c fs=>rw [e] at p; exact fun a C S' H' I' s' x=>p a C σ S' H' I' s' x
 | bad=>rw [e] at p; exact p
 | ok ρ' s=>
   rw [e] at p
   cases s with
   | sh x=>
     dsimp only at p
     intro v S' H' I' s'
     cases et:sR x with
     | none=>rw [et] at p; exact p.elim
     | some k=>
       rw [et] at p
       refine ⟨k,zA I'.sh (I'.IA.rd I'.sh) et,?_⟩
       cases k with
       | false=>exact tM (ha Av G S₀ ρ' σ S' H' D I'.zE (p.back s'))
       | true=>exact tQ (hb Av G S₀ ρ' σ S' H' D I'.zE (p.back s'))
   | ow xs=>exact p.elim
   | ex c fs=>exact p.elim
   | tr io t=>exact p.elim
   | bo t=>exact p.elim
theorem bQ.last {ts:List OV} {vs:List V} {f:List Addr} {x:OV} (h:bQ K cls S H ts vs f) (e:ts.getLast? = some x):∃ y f1 f2,vs[vs.length - 1]? = some y /\ bQ K cls S H ts.dropLast vs.dropLast f1 /\ bI K cls S H x y f2 /\ f = f1 ++ f2:=by
 induction ts generalizing vs f with
 | nil=>cases e
 | cons t ts ih=>
   obtain ⟨v,r,f1,f2,rfl,rfl,h1,h2⟩:=h.cons_inv
   cases ts with
   | nil=>
     unfold bQ at h2
     obtain ⟨rfl,rfl⟩:=h2
     simp at e
     subst e
     exact ⟨v,[],f1,rfl,.nil,h1,by simp⟩
   | cons t2 ts2=>
     rw [List.getLast?_cons_cons] at e
     obtain ⟨y,g1,g2,e1,r1,r2,rfl⟩:=ih h2 e
     have hr:r ≠ []:=by intro z; subst z; have:=h2.length; simp at this
     refine ⟨y,f1 ++ g1,g2,?_,?_,r2,by simp⟩
     . cases r with
       | nil=>exact absurd rfl hr
       | cons a r'=>simpa using e1
     . cases r with
       | nil=>exact absurd rfl hr
       | cons a r'=>exact bQ.cons h1 r1
theorem D2 {x:OV} {v:V} {fp:List Addr} {i:Nat} (h:bI K cls S H x v fp) (nd:fp.Nodup) (g:∀ a ∈ fp,G a = none /\ S a = none):q9 K cls Av G S H i (slO x) v fp:=by
 cases x with
 | sh y=>unfold bI at h; exact h
 | ol ts=>exact ⟨h,nd,g,fun z=>nomatch z⟩
 | ob c ks ts=>exact ⟨h,nd,g,fun z=>nomatch z⟩
 | di x=>exact ⟨h,nd,g,fun z=>nomatch z⟩
 | dt x=>exact ⟨h,nd,g,fun z=>nomatch z⟩
theorem zg {i:Nat} {te:TE} {mp:MP} (hp:JP K cls te i mp):JX K cls W (Gj K "list" JB te) (sF i mp):=by
 intro Av G S₀ ρ σ S H Q I p
 unfold sF at p
 split at p
 . rename_i io t hi
   split at p
   . rename_i π e0
     split at p
     . rename_i ts e1
       split at p
       . rename_i x ex
         obtain ⟨v0,hv⟩:=I.val hi
         refine hp.at I hi hv e0 e1 fun w S1 H1 w1 I1 wk=>?_
         obtain ⟨F,J1⟩:=id I1
         obtain ⟨q,vs,ff,rest,wk',hq,hl,rs,pF,nd,c⟩:=J1.vp hi hv e1
         have:=wk.inj wk'
         subst this
         obtain ⟨y,f1,f2,ey,ri,rx,rfl⟩:=rs.last ex
         have ndf:(f1 ++ f2).Nodup:=(List.nodup_cons.mp (List.nodup_append.mp nd).1).2
         have nq:q ∉ f1 ++ f2:=(List.nodup_cons.mp (List.nodup_append.mp nd).1).1
         refine ⟨.inl ⟨rfl,_,SqL.new hq⟩,q,vs,y,rfl,rfl,hq,ey,?_⟩
         obtain ⟨g,J3,pg⟩:=c S1 H1 ts.dropLast vs.dropLast f1 (bw.refl J1.sh) ri (List.nodup_append.mp ndf).1 fun a ha=>.inl (List.mem_append_left _ ha)
         have in2:∀ a ∈ f2,a ∈ F i:=fun a ha=>pF.mem_iff.mpr (by simp [ha])
         have rx':bI K cls S1 (upd H1 q (.lst vs.dropLast)) x y f2:=rx.mono (aK.refl _) fun a ha o h=>by rw [bb (fun z=>nq (by rw [<- z]; simp [ha]))]; exact h
         have gs2:∀ a ∈ f2,G a = none /\ S1 a = none:=fun a ha=>(J1.live i a (in2 a ha)).2
         obtain ⟨F',J4⟩:=J3.more (s:=some (slO x)) (u:=some y) (fp:=f2) (fun t' e=>by cases e; exact ⟨y,rfl,D2 rx' (List.nodup_append.mp ndf).2.1 gs2⟩) (fun a ha=>⟨rx'.live a ha,gs2 a ha⟩) fun j a hj ha hz=>by
          by_cases ej:j = i
          . subst ej
            rw [ka] at hz
            have hm:=pg.mem_iff.mp hz
            have hd:=List.nodup_append.mp nd
            rcases List.mem_append.mp hm with z | z
            . rcases List.mem_cons.mp z with z | z
              . subst z; exact nq (by simp [ha])
              . exact (List.nodup_append.mp ndf).2.2 a z a ha rfl
            . exact hd.2.2 a (by simp [ha]) a z rfl
          . rw [gw ej] at hz
            exact ej (J1.apart j i a hz (in2 a ha))
         exact p y S1 _ ⟨F',J4⟩ w1.s
       . exact p.elim
     . exact p.elim
   . exact p.elim
 . exact p.elim
end
end L2.P
namespace L2.P
open PySem PySem.Spec PyProof.Rows L2 L2.E
section
variable {K:PySem.W.Frag} {cls:String -> Option Addr} {W:XW} {Av G S₀ S S' H H' B B':Hp} {ρ:ag} {σ:St} {Q:VK} {F:Nat -> List Addr}
theorem Em {ks:List Str} {us:List (Str × V)} {f:Str} {y:V} (hk:us.map (·.1) = ks) {k:Nat} (hf:∀ j,ks[j]? = some f -> k <= j) (he:ks[k]? = some f):(ki f y us).map (·.1) = ks /\ (ki f y us).map (·.2) = (us.map (·.2)).set k y:=by
 induction us generalizing ks k with
 | nil=>subst hk; cases he
 | cons q us ih=>
   obtain ⟨g,x⟩:=q
   subst hk
   unfold ki
   by_cases e:g = f
   . rw [if_pos e]
     have k0:k = 0:=by have:=hf 0 (by simp [e]); omega
     subst k0
     exact ⟨rfl,rfl⟩
   . rw [if_neg e]
     cases k with
     | zero=>simp at he; exact absurd he e
     | succ k=>
       obtain ⟨h1,h2⟩:=ih (ks:=us.map (·.1)) (k:=k) rfl (fun j hj=>by have:=hf (j + 1) (by simpa using hj); omega) (by simpa using he)
       simp [h1,h2]
theorem CA {us:List (Str × V)} {f:Str} {y:V} (h:f ∉ us.map (·.1)):ki f y us = us ++ [(f,y)]:=by
 induction us with
 | nil=>rfl
 | cons q us ih=>
   obtain ⟨g,x⟩:=q
   simp at h
   unfold ki
   rw [if_neg (fun z=>h.1 z.symm),ih (by simpa using h.2)]
   rfl
theorem yq {ks:List Str} {ts:List OV} {f:Str} (hl:ts.length = ks.length) (h:f ∈ ks):∃ k,ks[k]? = some f /\ (∀ j,ks[j]? = some f -> k <= j) /\ k < ts.length /\ ∀ u,tP ks ts f u = ts.set k u:=by
 induction ks generalizing ts with
 | nil=>cases h
 | cons g ks ih=>
   cases ts with
   | nil=>cases hl
   | cons t ts=>
     by_cases e:g = f
     . subst e
       exact ⟨0,rfl,fun j _=>Nat.zero_le _,by simp,fun u=>by simp [tP]⟩
     . obtain ⟨k,h1,h2,h3,h4⟩:=ih (ts:=ts) (by simpa using hl) (by
        rcases List.mem_cons.mp h with z | z
        . exact absurd z.symm e
        . exact z)
       refine ⟨k + 1,by simpa using h1,fun j hj=>?_,by simpa using h3,fun u=>by simp [tP,e,h4]⟩
       cases j with
       | zero=>simp at hj; exact absurd hj e
       | succ j=>have:=h2 j (by simpa using hj); omega
theorem EC {i:Nat} {te tx:TE} {mp:MP} {f:Str} {okc:String -> Bool} {md:ag -> OD} (hp:JP K cls te i mp) (hx:JD K cls W tx md) (ha:∀ c C,cls c = some C -> okc c = true -> Cls K C /\ lO K C f):JS K cls W (Iw K te tx f) (BW i mp f okc md):=by
 intro Av G S₀ ρ σ S H D I p
 refine hx Av G S₀ ρ σ S H _ I ?_
 unfold BW at p
 cases ed:md ρ with
 | exc c fs=>rw [ed] at p; exact fun a C S' H' w x=>p a C σ S' H' (I.grow w) w.s x
 | bad=>rw [ed] at p; exact p
 | ok x=>
   rw [ed] at p
   dsimp only at p
   obtain ⟨io,t,π,u,hi,e0,e1,p⟩:=sQ p
   obtain ⟨v0,hv⟩:=I.val hi
   cases u with
   | sh x=>exact p.elim
   | ol ts=>exact p.elim
   | di x=>exact p.elim
   | dt x=>exact p.elim
   | ob c ks ts=>
     dsimp only at p
     split at p
     . rename_i hok
       rw [Bool.and_eq_true,decide_eq_true_eq] at hok
       intro v S1 H1 w1 r1
       refine hp.at (I.grow w1) hi hv e0 e1 fun w S2 H2 w2 I2 wk=>?_
       obtain ⟨F,J⟩:=id I
       obtain ⟨w0,f1,rest,wk',ro,pF,nd,gs,cc⟩:=J.part hi hv e1
       have wg:bw S H S2 H2:=w1.trans w2
       have:=wk.inj (wk'.mono wg.g)
       subst this
       unfold bI at ro
       obtain ⟨q,C,dx,us,ff,rfl,hcl,hq,hd,hk,rfl,rs⟩:=ro
       obtain ⟨a1,a2⟩:=ha c C hcl hok.1
       have nd1:=(List.nodup_append.mp nd).1
       have nq:q ∉ dx ::ff:=(List.nodup_cons.mp nd1).1
       have ndx':dx ∉ ff:=(List.nodup_cons.mp (List.nodup_cons.mp nd1).2).1
       have ndf:ff.Nodup:=(List.nodup_cons.mp (List.nodup_cons.mp nd1).2).2
       have hlen:us.length < 1000:=by have:=congrArg List.length hk; simp at this; omega
       obtain ⟨fx,rx,nx,gx⟩:=r1.grow w2
       refine ⟨q,C,dx,us,rfl,wg.g _ _ hq,a1,a2,hlen,?_⟩
       have noS:∀ a ∈ q ::dx ::ff,S2 a = none:=fun a ha=>by
        cases z:S2 a with
        | none=>rfl
        | some o=>
          obtain ⟨⟨o',h1,_⟩,_,h3⟩:=J.live i a (pF.mem_iff.mpr (List.mem_append_left _ ha))
          rcases wg.new a (by rw [z]; simp) with y | y
          . exact absurd h3 y
          . rw [h1] at y; cases y
       have fin:∀ ks' ts' f',(ki f v us).map (·.1) = ks' -> bQ K cls S2 H2 ts' ((ki f v us).map (·.2)) f' -> f'.Nodup -> (∀ a ∈ f',a ∈ ff \/ (H a = none /\ S2 a = none)) ->
         SR K cls Av G S₀ (ρ.set i (some (.tr io (t.put π (.ob c ks' ts'))))) σ S2 (upd H2 q (.ins C dx (ki f v us))):=by
        intro ks' ts' f' hk' rs' nd' fr
        have nqf:q ∉ f':=fun z=>by
         rcases fr q z with y | y
         . exact nq (by simp [y])
         . rw [y.1] at hq; cases hq
        have ndf':dx ∉ f':=fun z=>by
         rcases fr dx z with y | y
         . exact ndx' y
         . rw [y.1] at hd; cases hd
        have ndq:dx ≠ q:=fun z=>nq (by simp [z])
        obtain ⟨g,J3,_⟩:=cc S2 (upd H2 q (.ins C dx (ki f v us))) (.ob c ks' ts') (q ::dx ::f') wg.s (wg.sh.upd (noS q (by simp))) ((J.gh.trans wg.g).upd (gs q (by simp)).1) (fun b h=>by
          rcases wg.new b h with z | z
          . exact J.new b z
          . exact .inr (J.gh.free z)) (by
          unfold bI
          exact ⟨q,C,dx,_,f',rfl,hcl,bc,by rw [bb ndq]; exact wg.g _ _ hd,hk',rfl,rs'.mono (aK.refl _) fun a ha o h=>by rw [bb (fun z=>nqf (by rw [<- z]; exact ha))]; exact h⟩)
         (List.nodup_cons.mpr ⟨fun z=>by
           rcases List.mem_cons.mp z with z | z
           . exact ndq z.symm
           . exact nqf z,List.nodup_cons.mpr ⟨ndf',nd'⟩⟩) (fun a ha=>by
           rcases List.mem_cons.mp ha with z | z
           . subst z; exact .inl (by simp)
           . rcases List.mem_cons.mp z with z | z
             . subst z; exact .inl (by simp)
             . rcases fr a z with y | y
               . exact .inl (by simp [y])
               . exact .inr y.1) (fun a ha=>by
           rcases List.mem_cons.mp ha with z | z
           . subst z; exact noS _ (by simp)
           . rcases List.mem_cons.mp z with z | z
             . subst z; exact noS _ (by simp)
             . rcases fr a z with y | y
               . exact noS a (by simp [y])
               . exact y.2) (fun a o hn h=>by rw [bb (fun z=>hn (by rw [z]; simp))]; exact wg.g _ _ h) fun a h=>by
           rcases wg.new a h with z | z
           . exact .inl z
           . exact .inr (.inl z)
        exact ⟨_,J3⟩
       have hlts:ts.length = ks.length:=by rw [<- rs.length,<- hk]; simp
       split at p
       . rename_i hc
         obtain ⟨k,h1,h2,h3,h4⟩:=yq hlts (by simpa using hc)
         obtain ⟨k1,k2⟩:=Em (y:=v) hk h2 h1
         obtain ⟨w3,g1,rest3,e3,r3,p3,c3⟩:=rs.at (k:=k) (u:=ts[k]) (by simp [h3])
         obtain ⟨g,rg,pg⟩:=c3 S2 H2 x v fx wg.s rx fun a _ o h=>wg.g _ _ h
         have inff:∀ a ∈ rest3,a ∈ ff:=fun a ha=>p3.mem_iff.mpr (List.mem_append_right _ ha)
         have ndr:rest3.Nodup:=(List.nodup_append.mp (p3.nodup_iff.mp ndf)).2.1
         have ndg:g.Nodup:=pg.nodup_iff.mpr (List.nodup_append.mpr ⟨nx,ndr,fun a ha b hb z=>by
          subst z
          obtain ⟨o,h1,_⟩:=rs.live a (inff a hb)
          rw [(gx a ha).1] at h1; cases h1⟩)
         have q1:=fin ks (ts.set k x) g k1 (by rw [k2]; exact rg) ndg fun a ha=>by
          rcases List.mem_append.mp (pg.mem_iff.mp ha) with z | z
          . exact .inr (gx a z)
          . exact .inl (inff a z)
         rw [h4] at p
         exact p σ S2 _ q1 wg.s
       . rename_i hc
         have hn:f ∉ us.map (·.1):=by rw [hk]; simpa using hc
         have e2:=CA (y:=v) hn
         have ndg:(ff ++ (fx ++ [])).Nodup:=by
          rw [List.append_nil]
          exact List.nodup_append.mpr ⟨ndf,nx,fun a ha b hb z=>by
           subst z
           obtain ⟨o,h1,_⟩:=rs.live a ha
           rw [(gx a hb).1] at h1; cases h1⟩
         have q1:=fin (ks ++ [f]) (ts ++ [x]) (ff ++ (fx ++ [])) (by rw [e2]; simp [hk]) (by rw [e2,List.map_append]; exact (rs.mono wg.s fun a _ o h=>wg.g _ _ h).append (.cons rx .nil)) ndg fun a ha=>by
          rw [List.append_nil] at ha
          rcases List.mem_append.mp ha with z | z
          . exact .inl z
          . exact .inr (gx a z)
         exact p σ S2 _ q1 wg.s
     . exact p.elim
end
end L2.P
namespace L2.P
open PySem PySem.Spec PyProof.Rows L2 L2.E
open Classical in
noncomputable def minus (H:Hp) (Fc:Nat -> List Addr):Hp:=fun a=>if ∃ k,a ∈ Fc k then none else H a
section
variable {K:PySem.W.Frag} {cls:String -> Option Addr} {W:XW} {Av G S₀ S S' H H' B B':Hp} {ρ:ag} {σ:St} {Q:VK} {F Fc Fc':Nat -> List Addr}
theorem wU {a:Addr} {k:Nat} (h:a ∈ Fc k):minus H Fc a = none:=by unfold minus; rw [if_pos ⟨k,h⟩]
theorem jX {a:Addr} (h:∀ k,a ∉ Fc k):minus H Fc a = H a:=by unfold minus; rw [if_neg (fun ⟨k,z⟩=>h k z)]
theorem sd:aK (minus H Fc) H:=fun b u h=>by
 unfold minus at h
 split at h
 . cases h
 . exact h
theorem m8 {a:Addr} (h:minus H Fc a = none):H a = none \/ ∃ k,a ∈ Fc k:=by
 unfold minus at h
 split at h
 . rename_i z; exact .inr z
 . exact .inl h
noncomputable def LC (K:PySem.W.Frag) (cls:String -> Option Addr) (S H Hm:Hp):Sl -> V -> List Addr -> Prop
 | .sh x,v,fp=>fp = [] /\ Rep K S x v
 | .tr true t,v,fp=>bI K cls S H t v fp /\ fp.Nodup
 | .bo t,v,fp=>fp = [] /\ ∃ f,bI K cls S Hm t v f
 | _,_,_=>False
structure BL (K:PySem.W.Frag) (cls:String -> Option Addr) (vs:List V) (S H:Hp) (Fc:Nat -> List Addr) (outs:List (Option OV)) (S' H':Hp) (Fc':Nat -> List Addr):Prop where
 s:aK S S'
 sh:aK S' H'
 keep:aK (minus H Fc) H'
 new:∀ b,S' b ≠ none -> S b ≠ none \/ H b = none \/ ∃ k,b ∈ Fc k
 out:∀ k t',outs[k]? = some (some t') -> ∃ u,vs[k]? = some u /\ bI K cls S' H' t' u (Fc' k) /\ (Fc' k).Nodup
 apart:∀ j k a,a ∈ Fc' j -> a ∈ Fc' k -> j = k
 live:∀ k a,a ∈ Fc' k -> minus H Fc a = none /\ S' a = none
noncomputable def JK (K:PySem.W.Frag) (cls:String -> Option Addr) (vs:List V) (S H:Hp) (Fc:Nat -> List Addr) (Q:VK) (E:XK):OI -> Prop
 | .ok x outs=>∀ v S' H' Fc',BL K cls vs S H Fc outs S' H' Fc' -> Rep K S' x v -> Q v H'
 | .exc c fs outs=>∀ a C S' H' Fc',BL K cls vs S H Fc outs S' H' Fc' -> n5 K cls S' H' c fs a C -> E (.ref C) (some a) H'
 | .bad=>False
structure Bv (K:PySem.W.Frag) (cls:String -> Option Addr) (as:List Sl) (vs:List V) (S H:Hp) (Fc:Nat -> List Addr):Prop where
 sh:aK S H
 len:as.length = vs.length
 rel:∀ (k:Nat) (s:Sl),as[k]? = some s -> ∃ v,vs[k]? = some v /\ LC K cls S H (minus H Fc) s v (Fc k)
 apart:∀ j k a,a ∈ Fc j -> a ∈ Fc k -> j = k
 live:∀ k a,a ∈ Fc k -> (∃ o,H a = some o /\ isX o = false) /\ S a = none
noncomputable def spI (K:PySem.W.Frag) (cls:String -> Option Addr) (f:List Sl -> OI):Sp:=fun vs H Q E=>∃ S as Fc,Bv K cls as vs S H Fc /\ JK K cls vs S H Fc Q E (f as)
theorem Eo {as:List Sl} {vs:List V} {N:List Str} {i:Nat} {s:Sl} (hl:as.length = vs.length) (e:(mz N.length as)[i]? = some (some s)):as[i]? = some s /\ (L2.start N vs)[i]? = some ((vs[i]?)):=by
 unfold mz at e
 by_cases hi:i < as.length
 . rw [List.getElem?_append_left (by simpa using hi),List.getElem?_map] at e
   have hx:as[i]? = some as[i]:=by simp [hi]
   rw [hx] at e
   cases e
   refine ⟨hx,?_⟩
   unfold L2.start
   rw [List.getElem?_append_left (by rw [List.length_map,<- hl]; exact hi),List.getElem?_map]
   have hv:vs[i]? = some (vs[i]'(by rw [<- hl]; exact hi)):=by simp [<- hl,hi]
   rw [hv]; rfl
 . rw [List.getElem?_append_right (by simpa using hi)] at e
   rw [List.getElem?_replicate] at e
   split at e <;> cases e
noncomputable def B7 (vs:List V):Hp:=fun i=>(vs[i]?).map fun v=>.lst [v]
theorem SR.Gy {vs:List V} {np:Nat} {ρ':ag} {σ':St} (A:aK S H) (I:SR K cls (B7 vs) (minus H Fc) S ρ' σ' S' H'):∃ Fc',BL K cls vs S H Fc ((ρ'.take np).map uB) S' H' Fc':=by
 obtain ⟨F,J⟩:=I
 refine ⟨F,J.s0,J.sh,J.gh,fun b h=>?_,fun k t' e=>?_,J.apart,fun k a ha=>(J.live k a ha).2⟩
 . rcases J.new b h with z | z
   . exact .inl z
   . rcases m8 z with y | y
     . exact .inr (.inl y)
     . exact .inr (.inr y)
 . rw [List.getElem?_map] at e
   obtain ⟨s,e1,e2⟩:=Option.map_eq_some_iff.mp e
   have e3:ρ'[k]? = some s:=by
    rw [List.getElem?_take] at e1
    split at e1
    . exact e1
    . cases e1
   cases s with
   | none=>cases e2
   | some s=>
     cases s with
     | tr io t=>
       cases io with
       | false=>cases e2
       | true=>
         cases e2
         obtain ⟨v,ev,ro,nd,_,hio⟩:=J.own k _ e3
         have:=hio rfl
         unfold B7 at this
         obtain ⟨u,eu,e4⟩:=Option.map_eq_some_iff.mp this
         cases e4
         exact ⟨v,eu,ro,nd⟩
     | sh x=>cases e2
     | ow x=>cases e2
     | ex c fs=>cases e2
     | bo t=>cases e2
theorem xu {P:Program} {w:World} {mg:Str -> Option Value} {base:Heap} {x qual:Str} {st:Stmt} {f:Addr} {fd:FuncData} {N ps:List Str} {k:Nat} {m:ag -> OS} (Fn:Fun K x qual st f fd) (Sc:aS N ps (au st))
  (hbody:∀ (cdv:Value) (A:Around) (outer:List Env) (s:Shared) (H:Hp) (E:XK),iO k (A.deeper (envOfC qual (au st) s.heap.objs.size f cdv)) ->
    ∃ t,QSs (pP (CXE P w) P w K mg base N qual (au st) f cdv A outer s H E) (aO st) t /\ JS K cls (fun C a _ H=>∀ H',aK H H' -> E C a H') t m):bV P w K mg base (CXE P w) (k + 1) f fd ps (spI K cls (fnI ps.length N.length m)):=by
 refine okX Fn Sc (fun vs H Q E h=>?_) fun cdv A outer s H vs Q E hr h=>?_
 . obtain ⟨S,as,Fc,a,q⟩:=h
   unfold fnI at q
   split at q
   . rw [<- a.len]; assumption
   . exact q.elim
 . obtain ⟨S,as,Fc,a,q⟩:=h
   unfold fnI at q
   split at q
   . rename_i hl
     obtain ⟨t,ht,J⟩:=hbody cdv A outer s H E hr
     refine ⟨t,ht.out,?_⟩
     have start:SR K cls (B7 vs) (minus H Fc) S (mz N.length as) (L2.start N vs) S H:=by
      refine ⟨Fc,sd,aK.refl _,a.sh,fun _ z=>.inl z,fun i s e=>?_,a.apart,fun i b hb=>⟨(a.live i b hb).1,wU hb,(a.live i b hb).2⟩,?_⟩
      . obtain ⟨e1,e2⟩:=Eo a.len e
        obtain ⟨v,ev,r⟩:=a.rel i s e1
        rw [ev] at e2
        refine ⟨v,e2,?_⟩
        cases s with
        | sh x=>exact r
        | ow x=>exact r.elim
        | ex c fs=>exact r.elim
        | tr io t=>
          cases io with
          | false=>exact r.elim
          | true=>exact ⟨r.1,r.2,fun b hb=>⟨wU hb,(a.live i b hb).2⟩,fun _=>by unfold B7; rw [ev]; rfl⟩
        | bo t=>exact r
      . unfold mz L2.start
        simp [a.len]
     refine J (B7 vs) (minus H Fc) S (mz N.length as) (L2.start N vs) S H _ start ?_
     cases e:m (mz N.length as) with
     | nx ρ'=>rw [e] at q; exact fun σ' S' H' I' s'=>let ⟨Fc',E'⟩:=I'.Gy (np:=ps.length) a.sh; q .non S' H' Fc' E' (by unfold Rep; rfl)
     | bk ρ'=>rw [e] at q; exact q.elim
     | ct ρ'=>rw [e] at q; exact q.elim
     | bad=>rw [e] at q; exact q.elim
     | rt ρ' r=>
       rw [e] at q
       cases r with
       | al ys=>exact q.elim
       | fr ys=>exact q.elim
       | sh y=>exact fun v σ' S' H' I' s' rr=>let ⟨Fc',E'⟩:=I'.Gy (np:=ps.length) a.sh; q v S' H' Fc' E' rr
     | exc ρ' c fs=>
       rw [e] at q
       exact fun b C σ' S' H' I' s' x H2 g2=>let ⟨Fc',E'⟩:=(I'.same g2).Gy (np:=ps.length) a.sh; q b C S' H2 Fc' E' (x.mono (aK.refl _) g2)
   . exact q.elim
noncomputable def AR1 (K:PySem.W.Frag) (S H:Hp) (ρ:ag) (σ:St):Arg -> Sl -> V -> Prop
 | .e _,.sh x,v=>Rep K S x v
 | .t i mp,.tr true u,v=>∃ io t π v0,ρ[i]? = some (some (.tr io t)) /\ mp ρ = some π /\ t.get π = some u /\ σ[i]? = some (some v0) /\ ke H v0 π v
 | .b i mp,.bo u,v=>∃ t π v0,kq i ρ = some t /\ mp ρ = some π /\ t.get π = some u /\ σ[i]? = some (some v0) /\ ke H v0 π v
 | _,_,_=>False
noncomputable def ARs (K:PySem.W.Frag) (S H:Hp) (ρ:ag) (σ:St):List Arg -> List Sl -> List V -> Prop
 | [],ss,vs=>ss = [] /\ vs = []
 | a ::as,ss,vs=>∃ s sr v vr,ss = s ::sr /\ vs = v ::vr /\ AR1 K S H ρ σ a s v /\ ARs K S H ρ σ as sr vr
theorem AR1.mono {a:Arg} {s:Sl} {v:V} (h:AR1 K S H ρ σ a s v) (s1:aK S S') (g:aK H H'):AR1 K S' H' ρ σ a s v:=by
 cases a with
 | e me=>cases s <;> first | exact h.elim | exact Rep.mono s1 h
 | t i mp=>
   cases s with
   | tr io u=>
     cases io with
     | false=>exact h.elim
     | true=>obtain ⟨io,t,π,v0,h1,h2,h3,h4,h5⟩:=h; exact ⟨io,t,π,v0,h1,h2,h3,h4,h5.mono g⟩
   | _=>exact h.elim
 | b i mp=>
   cases s with
   | bo u=>obtain ⟨t,π,v0,h1,h2,h3,h4,h5⟩:=h; exact ⟨t,π,v0,h1,h2,h3,h4,h5.mono g⟩
   | _=>exact h.elim
theorem ARs.at {as:List Arg}:∀ {ss:List Sl} {vs:List V} {k:Nat} {a:Arg},ARs K S H ρ σ as ss vs -> as[k]? = some a -> ∃ s v,ss[k]? = some s /\ vs[k]? = some v /\ AR1 K S H ρ σ a s v:=by
 induction as with
 | nil=>intro ss vs k a _ e; simp at e
 | cons b as ih=>
   rintro ss vs k a ⟨s,sr,v,vr,rfl,rfl,h1,h2⟩ e
   cases k with
   | zero=>simp at e; subst e; exact ⟨s,v,rfl,rfl,h1⟩
   | succ k=>simp at e; obtain ⟨s',v',e1,e2,r⟩:=ih h2 e; exact ⟨s',v',by simpa using e1,by simpa using e2,r⟩
theorem ARs.len {as:List Arg}:∀ {ss:List Sl} {vs:List V},ARs K S H ρ σ as ss vs -> ss.length = as.length /\ vs.length = as.length:=by
 induction as with
 | nil=>intro ss vs h; rw [h.1,h.2]; exact ⟨rfl,rfl⟩
 | cons b as ih=>
   rintro ss vs ⟨s,sr,v,vr,rfl,rfl,h1,h2⟩
   have:=ih h2
   simp [this]
noncomputable def JAI (K:PySem.W.Frag) (cls:String -> Option Addr) (t:TA) (as:List Arg):Prop:=∀ Av G S₀ ρ σ S H Q ss,SR K cls Av G S₀ ρ σ S H -> mf as ρ = some ss -> (∀ vs S' H',bw S H S' H' -> ARs K S' H' ρ σ as ss vs -> Q vs H') -> t σ H Q
noncomputable def JA1 (K:PySem.W.Frag) (cls:String -> Option Addr) (te:TE) (a:Arg):Prop:=∀ Av G S₀ ρ σ S H Q s,SR K cls Av G S₀ ρ σ S H -> mP a ρ = some s -> (∀ v S' H',bw S H S' H' -> AR1 K S' H' ρ σ a s v -> Q v H') -> te σ H Q
theorem Fu {te:TE} {me:ag -> OE} (h:JE K cls W te me):JA1 K cls te (.e me):=by
 intro Av G S₀ ρ σ S H Q s I e k
 unfold mP at e
 dsimp only at e
 refine h Av G S₀ ρ σ S H Q I ?_
 cases em:me ρ with
 | exc c fs=>rw [em] at e; cases e
 | bad=>rw [em] at e; cases e
 | ok r=>
   rw [em] at e
   obtain ⟨x,e1,rfl⟩:=Option.map_eq_some_iff.mp e
   intro v S1 H1 w1 r1
   obtain ⟨S2,w2,s2,rx⟩:=r1.share w1 e1
   exact k v S2 H1 w2 rx
theorem FW {te:TE} {i:Nat} {mp:MP} (h:JP K cls te i mp):JA1 K cls te (.t i mp):=by
 intro Av G S₀ ρ σ S H Q s I e k
 unfold mP at e
 dsimp only at e
 split at e
 . rename_i io t hi
   obtain ⟨u,e1,rfl⟩:=Option.map_eq_some_iff.mp e
   obtain ⟨π,e2,e3⟩:=Option.bind_eq_some_iff.mp e1
   obtain ⟨v0,hv⟩:=I.val hi
   exact h.at I hi hv e2 e3 fun w S1 H1 w1 I1 wk=>k w S1 H1 w1 ⟨io,t,π,v0,hi,e2,e3,hv,wk⟩
 . cases e
theorem FV {te:TE} {i:Nat} {mp:MP} (h:JP K cls te i mp):JA1 K cls te (.b i mp):=by
 intro Av G S₀ ρ σ S H Q s I e k
 unfold mP at e
 dsimp only at e
 obtain ⟨u,e1,rfl⟩:=Option.map_eq_some_iff.mp e
 unfold subAt at e1
 split at e1
 . rename_i t et
   split at e1
   . rename_i π eπ
     obtain ⟨v0,fp,hv,_⟩:=I.tree et
     exact h Av G S₀ ρ σ S H Q v0 t π I et hv eπ (by rw [e1]; rfl) fun w S1 H1 w1 wk=>k w S1 H1 w1 ⟨t,π,v0,et,eπ,e1,hv,wk⟩
   . cases e1
 . cases e1
theorem rB:JAI K cls lK []:=by
 intro Av G S₀ ρ σ S H Q ss I e k
 cases e
 exact k [] S H (bw.refl I.sh) ⟨rfl,rfl⟩
theorem xm {te:TE} {t:TA} {a:Arg} {as:List Arg} (h:JA1 K cls te a) (r:JAI K cls t as):JAI K cls (jK te t) (a ::as):=by
 intro Av G S₀ ρ σ S H Q ss I e k
 unfold mf at e
 obtain ⟨s,e1,e2⟩:=Option.bind_eq_some_iff.mp e
 obtain ⟨sr,e3,rfl⟩:=Option.map_eq_some_iff.mp e2
 refine h Av G S₀ ρ σ S H _ s I e1 fun v S1 H1 w1 h1=>?_
 refine r Av G S₀ ρ σ S1 H1 _ sr (I.grow w1) e3 fun vs S2 H2 w2 h2=>?_
 exact k (v ::vs) S2 H2 (w1.trans w2) ⟨s,sr,v,vs,rfl,rfl,h1.mono w2.s w2.g,h2⟩
end
end L2.P
namespace L2.P
open PySem PySem.Spec PyProof.Rows L2 L2.E
section
variable {K:PySem.W.Frag} {cls:String -> Option Addr} {W:XW} {Av G S₀ S S' H H' B B':Hp} {ρ:ag} {σ:St} {Q:VK} {F Fc Fc':Nat -> List Addr}
noncomputable def du:List Arg -> List Nat
 | []=>[]
 | .t i _ ::as=>i ::du as
 | _ ::as=>du as
noncomputable def qp:List Arg -> List Nat
 | []=>[]
 | .b i _ ::as=>i ::qp as
 | _ ::as=>qp as
noncomputable def argsOk (as:List Arg):Bool:=decide (du as).Nodup && (qp as).all fun i=>!(du as).contains i
theorem iw {as:List Arg} {k i:Nat} {mp:MP} (h:as[k]? = some (.t i mp)):i ∈ du as:=by
 induction as generalizing k with
 | nil=>simp at h
 | cons a as ih=>
   cases k with
   | zero=>simp at h; subst h; simp [du]
   | succ k=>
     simp at h
     have:=ih h
     cases a <;> simp [du,this]
theorem yp {as:List Arg} {k i:Nat} {mp:MP} (h:as[k]? = some (.b i mp)):i ∈ qp as:=by
 induction as generalizing k with
 | nil=>simp at h
 | cons a as ih=>
   cases k with
   | zero=>simp at h; subst h; simp [qp]
   | succ k=>
     simp at h
     have:=ih h
     cases a <;> simp [qp,this]
theorem mR {as:List Arg} (nd:(du as).Nodup) {j k i:Nat} {mp mp':MP} (h:as[j]? = some (.t i mp)) (h':as[k]? = some (.t i mp')):j = k:=by
 induction as generalizing j k with
 | nil=>simp at h
 | cons a as ih=>
   cases j with
   | zero=>
     simp at h
     subst h
     cases k with
     | zero=>rfl
     | succ k=>
       simp at h'
       have:=iw h'
       simp [du] at nd
       exact absurd this nd.1
   | succ j=>
     cases k with
     | zero=>
       simp at h'
       subst h'
       simp at h
       have:=iw h
       simp [du] at nd
       exact absurd this nd.1
     | succ k=>
       simp at h h'
       have nd':(du as).Nodup:=by
        cases a with
        | t i' mp=>simp [du] at nd; exact nd.2
        | e me=>exact nd
        | b i' mp=>exact nd
       rw [ih nd' h h']
theorem ql {as:List Arg} {i:Nat} (h:i ∈ du as):∃ (k:Nat) (mp:MP),as[k]? = some (.t i mp):=by
 induction as with
 | nil=>simp [du] at h
 | cons a as ih=>
   cases a with
   | t j mp=>
     simp [du] at h
     rcases h with h | h
     . subst h; exact ⟨0,mp,rfl⟩
     . obtain ⟨k,mp',e⟩:=ih h; exact ⟨k + 1,mp',by simpa using e⟩
   | e me=>obtain ⟨k,mp',e⟩:=ih h; exact ⟨k + 1,mp',by simpa using e⟩
   | b j mp=>obtain ⟨k,mp',e⟩:=ih h; exact ⟨k + 1,mp',by simpa using e⟩
theorem qJ {as:List Arg} {ρ₀:ag}:∀ {us:List (Option OV)} {ρ:ag} {i:Nat},i ∉ du as -> (gQ ρ₀ as us ρ)[i]? = ρ[i]?:=by
 induction as with
 | nil=>intro us ρ i _; rfl
 | cons a as ih=>
   intro us ρ i h
   unfold gQ
   cases a with
   | e me=>rw [ih h]; rfl
   | b j mp=>rw [ih h]; rfl
   | t j mp=>
     simp [du] at h
     rw [ih h.2]
     have:∀ x:Option Sl,(ρ.set j x)[i]? = ρ[i]?:=fun x=>List.getElem?_set_ne (Ne.symm h.1)
     cases us.head?.join with
     | none=>exact this _
     | some u=>
       unfold lN
       dsimp only
       split
       . split
         . exact this _
         . exact this _
       . exact this _
theorem yR {as:List Arg} {ρ₀:ag}:∀ {us:List (Option OV)} {ρ:ag} {i k:Nat} {mp:MP} {s:Sl},(du as).Nodup -> as[k]? = some (.t i mp) -> (gQ ρ₀ as us ρ)[i]? = some (some s) ->
  ∃ io t π u,us[k]? = some (some u) /\ ρ[i]? = some (some (.tr io t)) /\ mp ρ₀ = some π /\ s = .tr io (t.put π u):=by
 induction as with
 | nil=>intro us ρ i k mp s _ h; simp at h
 | cons a as ih=>
   intro us ρ i k mp s nd h e
   unfold gQ at e
   cases k with
   | zero=>
     simp at h
     subst h
     simp [du] at nd
     rw [qJ nd.1] at e
     cases us with
     | nil=>
       unfold lN at e
       simp at e
       rw [List.getElem?_set] at e
       simp at e
     | cons u us=>
       cases u with
       | none=>
         unfold lN at e
         simp at e
         rw [List.getElem?_set] at e
         simp at e
       | some u=>
         unfold lN at e
         simp only [List.head?_cons,Option.join_some] at e
         split at e
         . rename_i io t hi
           split at e
           . rename_i π hπ
             rw [List.getElem?_set] at e
             simp at e
             exact ⟨io,t,π,u,rfl,hi,hπ,e.2.symm⟩
           . rw [List.getElem?_set] at e
             simp at e
         . rw [List.getElem?_set] at e
           simp at e
   | succ k=>
     simp at h
     have nd':(du as).Nodup:=by
      cases a with
      | t i' mp=>simp [du] at nd; exact nd.2
      | e me=>exact nd
      | b i' mp=>exact nd
     obtain ⟨io,t,π,u,e1,e2,e3,e4⟩:=ih nd' h e
     refine ⟨io,t,π,u,?_,?_,e3,e4⟩
     . cases us with
       | nil=>simp at e1
       | cons _ us=>simpa using e1
     . cases a with
       | e me=>exact e2
       | b j mp=>exact e2
       | t j mp'=>
         have hij:i ≠ j:=by
          intro z
          subst z
          simp [du] at nd
          exact nd.1 (iw h)
         have:∀ x:Option Sl,(ρ.set j x)[i]? = ρ[i]?:=fun x=>List.getElem?_set_ne (Ne.symm hij)
         cases q:us.head?.join with
         | none=>rw [q] at e2; unfold lN at e2; simp only at e2; rw [this] at e2; exact e2
         | some u=>
           rw [q] at e2
           unfold lN at e2
           simp only at e2
           split at e2
           . split at e2
             . rw [this] at e2; exact e2
             . rw [this] at e2; exact e2
           . rw [this] at e2; exact e2
theorem wX {as:List Arg} {ρ₀:ag}:∀ {us:List (Option OV)} {ρ:ag},(gQ ρ₀ as us ρ).length = ρ.length:=by
 induction as with
 | nil=>intro us ρ; rfl
 | cons a as ih=>
   intro us ρ
   unfold gQ
   rw [ih]
   unfold lN
   split
   . split
     . split <;> simp
     . simp
   . simp
   . rfl
theorem SR.Jl {as:List Arg} {ss:List Sl} {vs:List V} (I:SR K cls Av G S₀ ρ σ S H) (ok:argsOk as = true) (h:ARs K S H ρ σ as ss vs):
  ∃ Fc,Bv K cls ss vs S H Fc /\ ∀ outs S' H' Fc',BL K cls vs S H Fc outs S' H' Fc' -> SR K cls Av G S₀ (gQ ρ as outs ρ) σ S' H':=by
 obtain ⟨F,J⟩:=I
 unfold argsOk at ok
 rw [Bool.and_eq_true,decide_eq_true_eq] at ok
 obtain ⟨nd,hb⟩:=ok
 have cell:∀ k:Nat,∃ d:List Addr × List Addr,(∀ i mp,as[k]? = some (.t i mp) -> ∃ io t π u v0 w,ss[k]? = some (.tr true u) /\ vs[k]? = some w /\ ρ[i]? = some (some (.tr io t)) /\ mp ρ = some π /\ t.get π = some u /\ σ[i]? = some (some v0) /\ bI K cls S H u w d.1 /\ (F i).Perm (d.1 ++ d.2) /\ (d.1 ++ d.2).Nodup /\ (io = true -> Av i = some (.lst [v0])) /\
   ∀ S' H' u' f',aK S S' -> bI K cls S' H' u' w f' -> (∀ a ∈ d.2,∀ o,H a = some o -> H' a = some o) -> ∃ g,bI K cls S' H' (t.put π u') v0 g /\ g.Perm (f' ++ d.2)) /\ ((∀ i mp,as[k]? ≠ some (.t i mp)) -> d = ([],[])):=by
  intro k
  by_cases hk:∃ i mp,as[k]? = some (.t i mp)
  . obtain ⟨i,mp,e⟩:=hk
    obtain ⟨s,w,es,ev,r⟩:=h.at e
    cases s with
    | tr io' u=>
      cases io' with
      | false=>exact r.elim
      | true=>
        obtain ⟨io,t,π,v0,h1,h2,h3,h4,h5⟩:=r
        obtain ⟨v,ev',ro,ndf,gs,hio⟩:=J.own i _ h1
        rw [h4] at ev'; cases ev'
        obtain ⟨w',f1,rest,wk,r1,p1,c1⟩:=ro.focus h3
        have:=h5.inj wk
        subst this
        refine ⟨(f1,rest),fun i' mp' e'=>?_,fun z=>absurd e (z i mp)⟩
        rw [e] at e'
        cases e'
        exact ⟨io,t,π,u,v0,w,es,ev,h1,h2,h3,h4,r1,p1,p1.nodup_iff.mp ndf,hio,c1⟩
    | sh x=>exact r.elim
    | ow x=>exact r.elim
    | ex c fs=>exact r.elim
    | bo x=>exact r.elim
  . exact ⟨([],[]),fun i mp e=>absurd ⟨i,mp,e⟩ hk,fun _=>rfl⟩
 obtain ⟨d,hd⟩:=Classical.axiomOfChoice cell
 have tOf:∀ k a,a ∈ (d k).1 -> ∃ i mp,as[k]? = some (.t i mp) /\ a ∈ F i:=by
  intro k a ha
  by_cases hk:∃ i mp,as[k]? = some (.t i mp)
  . obtain ⟨i,mp,e⟩:=hk
    obtain ⟨io,t,π,u,v0,w,_,_,_,_,_,_,_,p1,_⟩:=(hd k).1 i mp e
    exact ⟨i,mp,e,p1.mem_iff.mpr (List.mem_append_left _ ha)⟩
  . rw [(hd k).2 fun i mp e=>hk ⟨i,mp,e⟩] at ha; cases ha
 have hlen:=h.len
 have o6:∀ i a,a ∈ F i -> (∀ k mp,as[k]? = some (.t i mp) -> a ∉ (d k).1) -> ∀ k,a ∉ (d k).1:=by
  intro i a ha hn k hk
  obtain ⟨i',mp,e,ha'⟩:=tOf k a hk
  have:=J.apart i i' a ha ha'
  subst this
  exact hn k mp e hk
 refine ⟨fun k=>(d k).1,⟨J.sh,by rw [hlen.1,hlen.2],fun k s es=>?_,fun j k a h1 h2=>?_,fun k a ha=>?_⟩,fun outs S' H' Fc' E=>?_⟩
 . have hk:k < as.length:=by rw [<- hlen.1]; exact (List.getElem?_eq_some_iff.mp es).1
   obtain ⟨s',w,es',ev,r⟩:=h.at (k:=k) (a:=as[k]) (by simp [hk])
   rw [es] at es'; cases es'
   refine ⟨w,ev,?_⟩
   cases q:as[k] with
   | e me=>
     rw [q] at r
     have hz:=(hd k).2 fun i mp e=>by rw [List.getElem?_eq_getElem hk,q] at e; cases e
     cases s <;> first | exact r.elim | exact ⟨by rw [hz],r⟩
   | t i mp=>
     have eq:as[k]? = some (.t i mp):=by rw [List.getElem?_eq_getElem hk,q]
     obtain ⟨io,t,π,u,v0,w',es',ev',_,_,_,_,r1,_,nd1,_⟩:=(hd k).1 i mp eq
     rw [es] at es'; cases es'
     rw [ev] at ev'; cases ev'
     exact ⟨r1,(List.nodup_append.mp nd1).1⟩
   | b i mp=>
     have eq:as[k]? = some (.b i mp):=by rw [List.getElem?_eq_getElem hk,q]
     rw [q] at r
     have hz:=(hd k).2 fun i mp e=>by rw [eq] at e; cases e
     cases s with
     | bo u=>
       obtain ⟨t,π,v0,h1,h2,h3,h4,h5⟩:=r
       refine ⟨by rw [hz],?_⟩
       have nt:i ∉ du as:=by
        have:=List.all_eq_true.mp hb i (yp eq)
        simpa using this
       have ro:∃ f,bI K cls S (minus H fun k=>(d k).1) t v0 f:=by
        unfold kq at h1
        cases q1:ρ[i]? with
        | none=>rw [q1] at h1; cases h1
        | some o=>
          cases o with
          | none=>rw [q1] at h1; cases h1
          | some s1=>
            rw [q1] at h1
            obtain ⟨v,ev',r⟩:=J.own i s1 q1
            rw [h4] at ev'; cases ev'
            cases s1 with
            | tr io t'=>
              cases h1
              exact ⟨_,r.1.mono (aK.refl _) fun a ha o ho=>by
               rw [jX (o6 i a ha fun k' mp' e'=>absurd (iw e') nt)]; exact ho⟩
            | bo t'=>
              cases h1
              obtain ⟨_,f,r⟩:=r
              exact ⟨f,r.mono (aK.refl _) fun a ha o ho=>by
               rw [jX fun k' hk'=>?_]
               . exact J.gh _ _ ho
               . obtain ⟨i',mp',_,ha'⟩:=tOf k' a hk'
                 rw [(J.live i' a ha').2.1] at ho; cases ho⟩
            | sh x=>cases h1
            | ow x=>cases h1
            | ex c fs=>cases h1
       obtain ⟨f,ro⟩:=ro
       obtain ⟨w',f1,rest,wk,r1,_,_⟩:=ro.focus h3
       have:=h5.inj (wk.mono sd)
       subst this
       exact ⟨f1,r1⟩
     | sh x=>exact r.elim
     | ow x=>exact r.elim
     | ex c fs=>exact r.elim
     | tr io x=>exact r.elim
 . obtain ⟨i,mp,e1,m1⟩:=tOf j a h1
   obtain ⟨i',mp',e2,m2⟩:=tOf k a h2
   have:=J.apart i i' a m1 m2
   subst this
   exact mR nd e1 e2
 . obtain ⟨i,mp,e1,m1⟩:=tOf k a ha
   exact ⟨(J.live i a m1).1,(J.live i a m1).2.2⟩
 .
  have noS:∀ i a,a ∈ F i -> (∀ k,a ∉ (d k).1) -> S' a = none:=fun i a ha hn=>by
   cases z:S' a with
   | none=>rfl
   | some o=>
     obtain ⟨⟨o',h1,_⟩,_,h3⟩:=J.live i a ha
     rcases E.new a (by rw [z]; simp) with y | y | ⟨k,y⟩
     . exact absurd h3 y
     . rw [h1] at y; cases y
     . exact absurd y (hn k)
  have keep:∀ a o,(∀ k,a ∉ (d k).1) -> H a = some o -> H' a = some o:=fun a o hn ho=>E.keep a o (by rw [jX hn]; exact ho)
  have restOff:∀ k i mp,as[k]? = some (.t i mp) -> ∀ a ∈ (d k).2,a ∈ F i /\ ∀ k',a ∉ (d k').1:=fun k i mp e a ha=>by
   obtain ⟨io,t,π,u,v0,w,_,_,_,_,_,_,_,p1,nd1,_⟩:=(hd k).1 i mp e
   have m:a ∈ F i:=p1.mem_iff.mpr (List.mem_append_right _ ha)
   refine ⟨m,o6 i a m fun k' mp' e' hk'=>?_⟩
   have:=mR nd e e'
   subst this
   exact (List.nodup_append.mp nd1).2.2 a hk' a ha rfl
  have gcell:∀ k:Nat,∃ g:List Addr,∀ i mp u',as[k]? = some (.t i mp) -> outs[k]? = some (some u') -> ∀ io t π,ρ[i]? = some (some (.tr io t)) -> mp ρ = some π -> ∃ v0,σ[i]? = some (some v0) /\ (io = true -> Av i = some (.lst [v0])) /\ bI K cls S' H' (t.put π u') v0 g /\ g.Perm (Fc' k ++ (d k).2):=by
   intro k
   by_cases hk:∃ i mp u',as[k]? = some (.t i mp) /\ outs[k]? = some (some u')
   . obtain ⟨i,mp,u',e,eo⟩:=hk
     obtain ⟨io,t,π,u,v0,w,es,ev,h1,h2,h3,h4,r1,p1,nd1,hio,c1⟩:=(hd k).1 i mp e
     obtain ⟨w',ew,r',ndf'⟩:=E.out k u' eo
     rw [ev] at ew; cases ew
     obtain ⟨g,rg,pg⟩:=c1 S' H' u' (Fc' k) E.s r' fun a ha o ho=>keep a o (restOff k i mp e a ha).2 ho
     refine ⟨g,fun i' mp' u'' e' eo' io' t' π' h1' h2'=>?_⟩
     rw [e] at e'; cases e'
     rw [eo] at eo'; cases eo'
     rw [h1] at h1'; cases h1'
     rw [h2] at h2'; cases h2'
     exact ⟨v0,h4,hio,rg,pg⟩
   . exact ⟨[],fun i mp u' e eo=>absurd ⟨i,mp,u',e,eo⟩ hk⟩
  obtain ⟨g,hg⟩:=Classical.axiomOfChoice gcell
  have fcell:∀ i:Nat,∃ f:List Addr,(i ∉ du as -> f = F i) /\ ∀ k mp,as[k]? = some (.t i mp) -> ((∃ io t π u',ρ[i]? = some (some (.tr io t)) /\ mp ρ = some π /\ outs[k]? = some (some u')) -> f = g k) /\ ((¬ ∃ io t π u',ρ[i]? = some (some (.tr io t)) /\ mp ρ = some π /\ outs[k]? = some (some u')) -> f = []):=by
   intro i
   by_cases hi:i ∈ du as
   . obtain ⟨k,mp,e⟩:=ql hi
     by_cases hx:∃ io t π u',ρ[i]? = some (some (.tr io t)) /\ mp ρ = some π /\ outs[k]? = some (some u')
     . refine ⟨g k,fun z=>absurd hi z,fun k' mp' e'=>?_⟩
       have:=mR nd e e'
       subst this
       rw [e] at e'; cases e'
       exact ⟨fun _=>rfl,fun z=>absurd hx z⟩
     . refine ⟨[],fun z=>absurd hi z,fun k' mp' e'=>?_⟩
       have:=mR nd e e'
       subst this
       rw [e] at e'; cases e'
       exact ⟨fun z=>absurd z hx,fun _=>rfl⟩
   . exact ⟨F i,fun _=>rfl,fun k mp e=>absurd (iw e) hi⟩
  obtain ⟨F',hF'⟩:=Classical.axiomOfChoice fcell
  have memF:∀ i a,a ∈ F' i -> (i ∉ du as /\ a ∈ F i /\ ∀ k,a ∉ (d k).1) \/ (∃ k mp,as[k]? = some (.t i mp) /\ F' i = g k /\ ((a ∈ Fc' k) \/ (a ∈ F i /\ ∀ k,a ∉ (d k).1)) /\ ∃ io t π u',ρ[i]? = some (some (.tr io t)) /\ mp ρ = some π /\ outs[k]? = some (some u')):=by
   intro i a ha
   by_cases hi:i ∈ du as
   . obtain ⟨k,mp,e⟩:=ql hi
     by_cases hx:∃ io t π u',ρ[i]? = some (some (.tr io t)) /\ mp ρ = some π /\ outs[k]? = some (some u')
     . have e1:=((hF' i).2 k mp e).1 hx
       refine .inr ⟨k,mp,e,e1,?_,hx⟩
       obtain ⟨io,t,π,u',h1,h2,h3⟩:=hx
       obtain ⟨v0,_,_,rg,pg⟩:=hg k i mp u' e h3 io t π h1 h2
       rw [e1] at ha
       rcases List.mem_append.mp (pg.mem_iff.mp ha) with z | z
       . exact .inl z
       . exact .inr (restOff k i mp e a z)
     . rw [((hF' i).2 k mp e).2 hx] at ha; cases ha
   . have e1:=(hF' i).1 hi
     rw [e1] at ha
     exact .inl ⟨hi,ha,o6 i a ha fun k mp e=>absurd (iw e) hi⟩
  refine ⟨F',?_,J.s0.trans E.s,E.sh,fun b hbn=>?_,fun i s e=>?_,fun i j a h1 h2=>?_,fun i a ha=>?_,?_⟩
  . intro b u hu
    refine keep b u (fun k hk=>?_) (J.gh b u hu)
    obtain ⟨i,mp,_,m⟩:=tOf k b hk
    rw [(J.live i b m).2.1] at hu; cases hu
  . rcases E.new b hbn with z | z | ⟨k,z⟩
    . exact J.new b z
    . exact .inr (J.gh.free z)
    . obtain ⟨i,mp,_,m⟩:=tOf k b z
      exact .inr (J.live i b m).2.1
  . by_cases hi:i ∈ du as
    . obtain ⟨k,mp,ek⟩:=ql hi
      obtain ⟨io,t,π,u,e1,e2,e3,rfl⟩:=yR nd ek e
      obtain ⟨v0,h1,hio,rg,pg⟩:=hg k i mp u ek e1 io t π e2 e3
      have e4:=((hF' i).2 k mp ek).1 ⟨io,t,π,u,e2,e3,e1⟩
      rw [e4]
      obtain ⟨w',ew,r',ndf'⟩:=E.out k u e1
      refine ⟨v0,h1,rg,pg.nodup_iff.mpr (List.nodup_append.mpr ⟨ndf',?_,fun a ha b hb' z=>?_⟩),fun a ha=>?_,hio⟩
      . obtain ⟨_,_,_,_,_,_,_,_,_,_,_,_,_,_,nd1,_⟩:=(hd k).1 i mp ek
        exact (List.nodup_append.mp nd1).2.1
      . subst z
        obtain ⟨m,off⟩:=restOff k i mp ek a hb'
        have:=(E.live k a ha).1
        rw [jX off] at this
        obtain ⟨⟨o,ho,_⟩,_⟩:=J.live i a m
        rw [this] at ho; cases ho
      . rcases List.mem_append.mp (pg.mem_iff.mp ha) with z | z
        . refine ⟨?_,(E.live k a z).2⟩
          rcases m8 (E.live k a z).1 with y | ⟨k',y⟩
          . exact J.gh.free y
          . obtain ⟨i',mp',_,m⟩:=tOf k' a y
            exact (J.live i' a m).2.1
        . obtain ⟨m,off⟩:=restOff k i mp ek a z
          exact ⟨(J.live i a m).2.1,noS i a m off⟩
    . rw [qJ hi] at e
      obtain ⟨v,ev,r⟩:=J.own i s e
      rw [(hF' i).1 hi]
      have off:∀ a ∈ F i,∀ k,a ∉ (d k).1:=fun a ha=>o6 i a ha fun k mp e=>absurd (iw e) hi
      exact ⟨v,ev,r.mono E.s (fun a ha o ho=>keep a o (off a ha) ho) (fun b o hx ho=>keep b o (fun k hk=>by
       obtain ⟨i',mp',_,m⟩:=tOf k b hk
       obtain ⟨⟨o',h1,h2⟩,_⟩:=J.live i' b m
       rw [ho] at h1; cases h1; rw [hx] at h2; cases h2) ho) fun a ha=>noS i a ha (off a ha)⟩
  .
   have key:∀ i j a,a ∈ F' i -> a ∈ F' j -> (∃ k,a ∈ Fc' k) -> ∃ k mp,as[k]? = some (.t i mp) /\ a ∈ Fc' k:=by
    intro i j a ha _ ⟨k0,hk0⟩
    have no:∀ i',a ∈ F i' -> ¬ ∀ k,a ∉ (d k).1:=fun i' m off=>by
     have:=(E.live k0 a hk0).1
     rw [jX off] at this
     obtain ⟨⟨o,ho,_⟩,_⟩:=J.live i' a m
     rw [this] at ho; cases ho
    rcases memF i a ha with ⟨_,m,off⟩ | ⟨k,mp,e,_,z,_⟩
    . exact absurd off (no i m)
    . rcases z with z | ⟨m,off⟩
      . exact ⟨k,mp,e,z⟩
      . exact absurd off (no i m)
   by_cases hk:∃ k,a ∈ Fc' k
   . obtain ⟨k1,mp1,e1,z1⟩:=key i j a h1 h2 hk
     obtain ⟨k2,mp2,e2,z2⟩:=key j i a h2 h1 hk
     have:=E.apart k1 k2 a z1 z2
     subst this
     rw [e1] at e2; cases e2; rfl
   . have fromF:∀ i,a ∈ F' i -> a ∈ F i:=fun i ha=>by
      rcases memF i a ha with ⟨_,m,_⟩ | ⟨k,mp,e,_,z,_⟩
      . exact m
      . rcases z with z | ⟨m,_⟩
        . exact absurd ⟨k,z⟩ hk
        . exact m
     exact J.apart i j a (fromF i h1) (fromF j h2)
  . rcases memF i a ha with ⟨_,m,off⟩ | ⟨k,mp,e,eg,z,io,t,π,u',x1,x2,x3⟩
    . obtain ⟨⟨o,ho,hx⟩,hg',_⟩:=J.live i a m
      exact ⟨⟨o,keep a o off ho,hx⟩,hg',noS i a m off⟩
    . obtain ⟨v0,_,_,rg,pg⟩:=hg k i mp u' e x3 io t π x1 x2
      rw [eg] at ha
      refine ⟨rg.live a ha,?_⟩
      rcases z with z | ⟨m,off⟩
      . refine ⟨?_,(E.live k a z).2⟩
        rcases m8 (E.live k a z).1 with y | ⟨k',y⟩
        . exact J.gh.free y
        . obtain ⟨i',mp',_,m⟩:=tOf k' a y
          exact (J.live i' a m).2.1
      . exact ⟨(J.live i a m).2.1,noS i a m off⟩
  . rw [wX]; exact J.len
end
end L2.P
namespace L2.E
open PySem PySem.Spec PyProof.Rows L2
section
variable {X:Cx} {k:Nat} {f C:Addr} {fd:FuncData} {ps:List Str} {sp:Sp} {ds:List Value} {W:XW} {x m:Str} {p pos apos:Pos} {e o:Expr} {es:List Expr} {ta:TE} {t:TA}
noncomputable def vf (C:Addr) (m:Str) (sp:Sp) (W:XW) (ta:TE) (t:TA):TE:=fun σ H Q=>ta σ H fun x H1=>∃ a dx fs,x = .ref a /\ H1 a = some (.ins C dx fs) /\ fs.lookup m = none /\
 t σ H1 fun vs H2=>sp (x ::vs) H2 Q fun C a H'=>W C a σ H'
theorem xR {pl:Sem Bool} (he:QE X o ta) (c:Cls X.K C) (hm:Meth X.K C m f) (F:bV X.prog X.w X.K X.mg X.base (CXE X.prog X.w) k f fd ps sp) (hr:iO k X.A) (hb:Binds X.K fd ps []) (hx:Thr X W) (ha:QA X (e ::es) t)
  (hst:starEach (e ::es) X.env = (false,eval e X.env) ::starEach es X.env:=by rfl) (hpl:(backTo pos (starEach es X.env)).any (·.1) = false:=by rfl)
  (ht:eval (.Call (.Attribute o m apos) (e ::es) [] pos) X.env = (do
    let ov <- eval o X.env
    standAt apos.atName
    let (f,first) <- holding [ov] (getMethod ov m pl)
    callWith pos f first (backTo pos (starEach (e ::es) X.env)) (backToKw pos (keywordEach [] X.env))):=by rfl):
  QE X (.Call (.Attribute o m apos) (e ::es) [] pos) (vf C m sp W ta t):=⟨by
 intro pins s σ H Q I h
 refine PySem.W.methodCall_KW (pl:=pl) (thn (he.out pins s σ H _ I h) fun u s1 ⟨x,H1,I1,rx,a,dx,fs,ex,ea,l,q⟩=>?_) ht
 subst ex
 obtain rfl:u = Value.ref a:=rx
 refine sH I1 ea c hm l ?_
 refine PySem.W.callWith_K (first:=[.ref a]) (h₀:=X.base) I.ok.mod.kin hm.kp (thn (ha.out pos pins s1 σ H1 _ I1 q) fun us s2 ⟨vs,H2,I2,r,q2⟩=>⟨I2.kIn,?_⟩) hst hpl
 exact rO (us:=.ref a ::us) (vs:=.ref a ::vs) (dvs:=[]) F hr hb .nil hx I2 (.cons rfl r) (by rw [List.append_nil]; exact q2)⟩
theorem uG {pl:Sem Bool} (he:QE X o ta) (c:Cls X.K C) (hm:Meth X.K C m f) (F:bV X.prog X.w X.K X.mg X.base (CXE X.prog X.w) k f fd ps sp) (hr:iO k X.A) (hb:Binds X.K fd ps []) (hx:Thr X W)
  (ht:eval (.Call (.Attribute o m apos) [] [] pos) X.env = (do
    let ov <- eval o X.env
    standAt apos.atName
    let (f,first) <- holding [ov] (getMethod ov m pl)
    callWith pos f first (backTo pos (starEach [] X.env)) (backToKw pos (keywordEach [] X.env))):=by rfl):
  QE X (.Call (.Attribute o m apos) [] [] pos) (vf C m sp W ta lK):=⟨by
 intro pins s σ H Q I h
 refine PySem.W.methodCall_KW (pl:=pl) (thn (he.out pins s σ H _ I h) fun u s1 ⟨x,H1,I1,rx,a,dx,fs,ex,ea,l,q⟩=>?_) ht
 subst ex
 obtain rfl:u = Value.ref a:=rx
 refine sH I1 ea c hm l ?_
 exact PySem.W.callWith_K0 (first:=[.ref a]) I1.kIn hm.kp (rO (us:=[.ref a]) (vs:=[.ref a]) (dvs:=[]) F hr hb .nil hx I1 (.cons rfl .nil) q)⟩
theorem ud {x:Str} (F:bV X.prog X.w X.K X.mg X.base (CXE X.prog X.w) k f fd ps sp) (hr:iO k X.A) (hg:Gl X x) (hm:X.mg x = some (.ref f)) (hk:PySem.W.keepIn X.K (.ref f) = true) (hb:Binds X.K fd ps []) (hx:Thr X W)
  (hdb:(x == ("__debug__":Str)) = false:=by decide):QE X (.Call (.Name x p) [] [] pos) (rQ sp [] W lK):=⟨A5 F hr hg hm hk hb .nil hx hdb⟩
theorem By (M:Mk X.K C f) (F:bV X.prog X.w X.K X.mg X.base (CXE X.prog X.w) k f fd ps sp) (hr:iO (k + 1) X.A) (hg:Gl X x) (hm:X.mg x = some (.ref C)) (hb:Binds X.K fd ps []) (hdb:(x == ("__debug__":Str)) = false:=by decide):
  QE X (.Call (.Name x p) [] [] pos) (De C sp [] (fun _ _ _=>False) lK):=⟨Bo M F hr hg hm hb .nil (fun pins σ H s e s' I h=>by obtain ⟨a,C,dx,H',_,_,_,_,_,_,z⟩:=h; exact z.elim) hdb⟩
theorem tG {f:Str} (he:QE X e ta) (hb:attributeBase e f X.env (eval e X.env) = eval e X.env:=by rfl):QE X (.Attribute e f pos) (HF X.K ta f):=⟨HH he.out hb⟩
theorem IJ {f:Str} {value:Expr} {tv:TE} {pos':Pos} (ha:QE X o ta) (hv:QE X value tv) (hs:swapsWith value (some (.Attribute o f pos')) pos.line X.env = pure false:=by rfl):QS X (.Assign [.Attribute o f pos'] value pos) (Iw X.K ta tv f):=⟨Hi ha.out hv.out hs⟩
end
end L2.E
namespace L2.P
open PySem PySem.Spec PyProof.Rows L2 L2.E
section
variable {K:PySem.W.Frag} {cls:String -> Option Addr} {W:XW} {Av G S₀ S S' H H' B B':Hp} {ρ:ag} {σ:St} {Q:VK} {F Fc Fc':Nat -> List Addr}
theorem SR.more {x:PV} {v:V} (I:SR K cls Av G S₀ ρ σ S H) (h:Rep K S x v):SR K cls Av G S₀ (ρ ++ [some (.sh x)]) (σ ++ [some v]) S H:=by
 obtain ⟨F,J⟩:=I
 exact J.more (fp:=[]) (fun t e=>by cases e; exact ⟨v,rfl,rfl,h⟩) (fun a ha=>nomatch ha) fun j a _ ha=>nomatch ha
theorem yt {f:List Sl -> OI} {as:List Arg} {ss:List Sl} {vs:List V} {S1 H1:Hp} (ok:argsOk as = true) (I:SR K cls Av G S₀ ρ σ S1 H1) (s1:aK S S1) (ar:ARs K S1 H1 ρ σ as ss vs)
  (p:FT K cls W Av G S₀ σ S Q (match f ss with
    | .ok x outs=>.ok (gQ ρ as outs ρ) (.sh x)
    | .exc c fs outs=>.exc (gQ ρ as outs ρ) c fs
    | .bad=>.bad)):spI K cls f vs H1 Q fun C a H'=>W C a σ H':=by
 obtain ⟨Fc,A,fin⟩:=I.Jl ok ar
 refine ⟨S1,ss,Fc,A,?_⟩
 cases e:f ss with
 | bad=>rw [e] at p; exact p
 | ok x outs=>rw [e] at p; exact fun v S' H' Fc' E r=>p v S' H' ((fin outs S' H' Fc' E).more r) (s1.trans E.s)
 | exc c fs outs=>rw [e] at p; exact fun a C S' H' Fc' E r=>p a C S' H' (fin outs S' H' Fc' E) (s1.trans E.s) r
theorem zd {c:String} {m:Str} {C:Addr} {a:Arg} {s:Sl} {v:V} (hc:cls c = some C) (I:SR K cls Av G S₀ ρ σ S H) (r:AR1 K S H ρ σ a s v) (h:recv c m (some s) = true):∃ q dx us,v = .ref q /\ H q = some (.ins C dx us) /\ us.lookup m = none:=by
 have main:∀ (ks:List Str) (ts:List OV) (f:List Addr),(c == c && !ks.contains m) = true -> bI K cls S H (.ob c ks ts) v f -> ∃ q dx us,v = .ref q /\ H q = some (.ins C dx us) /\ us.lookup m = none:=by
  intro ks ts f hk ro
  unfold bI at ro
  obtain ⟨q,C',dx,us,ff,rfl,hcl,hq,hd,hks,rfl,rs⟩:=ro
  rw [hc] at hcl; cases hcl
  refine ⟨q,dx,us,rfl,hq,?_⟩
  have hn:m ∉ us.map (·.1):=by rw [hks]; simpa using hk
  clear hks hk rs hq
  induction us with
  | nil=>rfl
  | cons p us ih=>
    obtain ⟨g,y⟩:=p
    simp at hn
    have:(m == g) = false:=by simpa using hn.1
    simp [List.lookup,this,ih (by simpa using hn.2)]
 cases a with
 | e me=>cases s <;> first | exact r.elim | cases h
 | t i mp=>
   cases s with
   | tr io u=>
     cases io with
     | false=>cases h
     | true=>
       cases u with
       | sh x=>cases h
       | ol ts=>cases h
       | di x=>cases h
       | dt x=>cases h
       | ob c' ks ts=>
         obtain ⟨io,t,π,v0,h1,h2,h3,h4,h5⟩:=r
         have h':(c' == c && !ks.contains m) = true:=h
         have hcc:c' = c:=by rw [Bool.and_eq_true] at h'; simpa using h'.1
         subst hcc
         obtain ⟨v',fp,ev,ro⟩:=I.tree (i:=i) (t:=t) (by unfold kq; rw [h1]; rfl)
         rw [h4] at ev; cases ev
         obtain ⟨w,f1,rest,wk,r1,_,_⟩:=ro.focus h3
         have:=h5.inj wk
         subst this
         exact main ks ts f1 h' r1
   | sh x=>exact r.elim
   | ow x=>exact r.elim
   | ex c fs=>exact r.elim
   | bo x=>exact r.elim
 | b i mp=>
   cases s with
   | bo u=>
     cases u with
     | sh x=>cases h
     | ol ts=>cases h
     | di x=>cases h
     | dt x=>cases h
     | ob c' ks ts=>
       obtain ⟨t,π,v0,h1,h2,h3,h4,h5⟩:=r
       have h':(c' == c && !ks.contains m) = true:=h
       have hcc:c' = c:=by rw [Bool.and_eq_true] at h'; simpa using h'.1
       subst hcc
       obtain ⟨v',fp,ev,ro⟩:=I.tree h1
       rw [h4] at ev; cases ev
       obtain ⟨w,f1,rest,wk,r1,_,_⟩:=ro.focus h3
       have:=h5.inj wk
       subst this
       exact main ks ts f1 h' r1
   | sh x=>exact r.elim
   | ow x=>exact r.elim
   | ex c fs=>exact r.elim
   | tr io x=>exact r.elim
theorem wG {c:String} {m:Str} {C:Addr} {f:List Sl -> OI} {a:Arg} {as:List Arg} {ta:TE} {t:TA} (hc:cls c = some C) (ok:argsOk (a ::as) = true) (ha:JA1 K cls ta a) (h:JAI K cls t as):JX K cls W (vf C m (spI K cls f) W ta t) (n9 c m f (a ::as)):=by
 intro Av G S₀ ρ σ S H Q I p
 unfold n9 at p
 dsimp only at p
 split at p
 . rename_i hr
   unfold vc at p
   cases e:mf (a ::as) ρ with
   | none=>rw [e] at p; exact p.elim
   | some ss=>
     rw [e] at p
     have e':=e
     unfold mf at e'
     obtain ⟨s,e1,e2⟩:=Option.bind_eq_some_iff.mp e'
     obtain ⟨sr,e3,rfl⟩:=Option.map_eq_some_iff.mp e2
     rw [e1] at hr
     refine ha Av G S₀ ρ σ S H _ s I e1 fun v S1 H1 w1 r1=>?_
     have I1:=I.grow w1
     obtain ⟨q,dx,us,rfl,hq,hl⟩:=zd hc I1 r1 hr
     refine ⟨q,dx,us,rfl,hq,hl,?_⟩
     refine h Av G S₀ ρ σ S1 H1 _ sr I1 e3 fun vs S2 H2 w2 ar=>?_
     exact yt (ss:=s ::sr) ok (I1.grow w2) (w1.s.trans w2.s) ⟨s,sr,_,vs,rfl,rfl,r1.mono w2.s w2.g,ar⟩ p
 . exact p.elim
theorem ye {f:List Sl -> OI} {as:List Arg} {ss:List Sl} {vs:List V} (ok:du as = []) (I:SR K cls Av G S₀ ρ σ S H) (ar:ARs K S H ρ σ as ss vs)
  (p:lr K cls W σ S H Q (match f ss with
    | .ok x _=>.ok (.sh x)
    | .exc c fs _=>.exc c fs
    | .bad=>.bad)):spI K cls f vs H Q fun C a H'=>W C a σ H':=by
 have hm:minus H (fun _=>[]) = H:=by funext a; exact jX fun k h=>nomatch h
 have hlen:=ar.len
 refine ⟨S,ss,fun _=>[],⟨I.sh,by rw [hlen.1,hlen.2],fun k s es=>?_,fun j k a h=>(nomatch h),fun k a h=>(nomatch h)⟩,?_⟩
 . have hk:k < as.length:=by rw [<- hlen.1]; exact (List.getElem?_eq_some_iff.mp es).1
   obtain ⟨s',w,es',ev,r⟩:=ar.at (k:=k) (a:=as[k]) (by simp [hk])
   rw [es] at es'; cases es'
   refine ⟨w,ev,?_⟩
   cases q:as[k] with
   | e me=>
     rw [q] at r
     cases s <;> first | exact r.elim | exact ⟨rfl,r⟩
   | t i mp=>
     have:=iw (as:=as) (k:=k) (i:=i) (mp:=mp) (by rw [List.getElem?_eq_getElem hk,q])
     rw [ok] at this; cases this
   | b i mp=>
     rw [q] at r
     cases s with
     | bo u=>
       obtain ⟨t,π,v0,h1,h2,h3,h4,h5⟩:=r
       obtain ⟨v',fp,ev',ro⟩:=I.tree h1
       rw [h4] at ev'; cases ev'
       obtain ⟨w',f1,rest,wk,r1,_,_⟩:=ro.focus h3
       have:=h5.inj wk
       subst this
       exact ⟨rfl,f1,by rw [hm]; exact r1⟩
     | sh x=>exact r.elim
     | ow x=>exact r.elim
     | ex c fs=>exact r.elim
     | tr io x=>exact r.elim
 . have gr:∀ {outs S' H' Fc'},BL K cls vs S H (fun _=>[]) outs S' H' Fc' -> bw S H S' H':=fun {outs S' H' Fc'} E=>⟨E.s,by have:=E.keep; rwa [hm] at this,E.sh,fun b hb=>by
    rcases E.new b hb with z | z | ⟨k,z⟩
    . exact .inl z
    . exact .inr z
    . cases z⟩
   cases e:f ss with
   | bad=>rw [e] at p; exact p
   | ok x outs=>rw [e] at p; exact fun v S' H' Fc' E r=>p v S' H' (gr E) r
   | exc c fs outs=>rw [e] at p; exact fun a C S' H' Fc' E r=>p a C S' H' (gr E) r
theorem xB {c:String} {m:Str} {C:Addr} {f:List Sl -> OI} {a:Arg} {as:List Arg} {ta:TE} {t:TA} (hc:cls c = some C) (ok:du (a ::as) = []) (ha:JA1 K cls ta a) (h:JAI K cls t as):JE K cls W (vf C m (spI K cls f) W ta t) (mU c m f (a ::as)):=by
 intro Av G S₀ ρ σ S H Q I p
 unfold mU at p
 dsimp only at p
 split at p
 . rename_i hr
   unfold vC at p
   cases e:mf (a ::as) ρ with
   | none=>rw [e] at p; exact p.elim
   | some ss=>
     rw [e] at p
     have e':=e
     unfold mf at e'
     obtain ⟨s,e1,e2⟩:=Option.bind_eq_some_iff.mp e'
     obtain ⟨sr,e3,rfl⟩:=Option.map_eq_some_iff.mp e2
     rw [e1] at hr
     refine ha Av G S₀ ρ σ S H _ s I e1 fun v S1 H1 w1 r1=>?_
     have I1:=I.grow w1
     obtain ⟨q,dx,us,rfl,hq,hl⟩:=zd hc I1 r1 hr
     refine ⟨q,dx,us,rfl,hq,hl,?_⟩
     refine h Av G S₀ ρ σ S1 H1 _ sr I1 e3 fun vs S2 H2 w2 ar=>?_
     exact ye (ss:=s ::sr) ok (I1.grow w2) ⟨s,sr,_,vs,rfl,rfl,r1.mono w2.s w2.g,ar⟩ (p.back (w1.trans w2))
 . exact p.elim
theorem Ew {c:String} {C:Addr} {f:List Sl -> OI} (hc:cls c = some C):JD K cls W (De C (spI K cls f) [] (fun _ _ _=>False) lK) (uj c f):=by
 intro Av G S₀ ρ σ S H Q I p
 unfold uj at p
 show ∀ x dx,H x = none -> H dx = none -> dx ≠ x -> _
 intro x dx hx hdx ne
 have gS:∀ a,H a = none -> S a = none:=fun a h=>I.sh.free h
 let H1:=upd (upd H dx (.own x)) x (.ins C dx [])
 have h1x:H1 x = some (.ins C dx []):=bc
 have h1d:H1 dx = some (.own x):=by show upd _ x _ dx = _; rw [bb ne,bc]
 have h1o:∀ a,a ≠ x -> a ≠ dx -> H1 a = H a:=fun a n1 n2=>by show upd _ x _ a = _; rw [bb n1,bb n2]
 let Fc:Nat -> List Addr:=fun k=>if k = 0 then [x,dx] else []
 have mF:∀ k a,a ∈ Fc k -> k = 0 /\ (a = x \/ a = dx):=fun k a h=>by
  have h':a ∈ (if k = 0 then [x,dx] else []):=h
  split at h'
  . rename_i e; exact ⟨e,by simpa using h'⟩
  . cases h'
 have A:Bv K cls [.tr true (.ob c [] [])] [.ref x] S H1 Fc:=by
  refine ⟨fun b u h=>?_,rfl,fun k s e=>?_,fun j k a h1 h2=>?_,fun k a h=>?_⟩
  . have hb:=I.sh b u h
    rw [h1o b (fun z=>by rw [z,hx] at hb; cases hb) (fun z=>by rw [z,hdx] at hb; cases hb)]; exact hb
  . cases k with
    | zero=>
      cases e
      refine ⟨.ref x,rfl,?_,?_⟩
      . unfold bI
        exact ⟨x,C,dx,[],[],rfl,hc,h1x,h1d,rfl,rfl,.nil⟩
      . show [x,dx].Nodup
        simp [Ne.symm ne]
    | succ k=>simp at e
  . rw [(mF j a h1).1,(mF k a h2).1]
  . rcases (mF k a h).2 with z | z
    . subst z; exact ⟨⟨_,h1x,rfl⟩,gS _ hx⟩
    . subst z; exact ⟨⟨_,h1d,rfl⟩,gS _ hdx⟩
 refine ⟨S,_,Fc,A,?_⟩
 have free:∀ a,minus H1 Fc a = none -> H a = none:=fun a h=>by
  rcases m8 h with z | ⟨k,z⟩
  . by_cases n1:a = x
    . rw [n1]; exact hx
    . by_cases n2:a = dx
      . rw [n2]; exact hdx
      . rw [h1o a n1 n2] at z; exact z
  . rcases (mF k a z).2 with y | y
    . rw [y]; exact hx
    . rw [y]; exact hdx
 cases e:f [.tr true (.ob c [] [])] with
 | bad=>rw [e] at p; exact p.elim
 | exc c fs outs=>rw [e] at p; exact p.elim
 | ok y outs=>
   rw [e] at p
   cases y with
   | non=>
     cases outs with
     | nil=>exact p.elim
     | cons o outs=>
       cases o with
       | none=>exact p.elim
       | some t=>
         dsimp only at p
         intro v S' H' Fc' E r
         unfold Rep at r
         refine ⟨r,p (.ref x) S' H' ⟨E.s,fun b u h=>?_,E.sh,fun b h=>?_⟩ ?_⟩
         . have n1:b ≠ x:=fun z=>by rw [z,hx] at h; cases h
           have n2:b ≠ dx:=fun z=>by rw [z,hdx] at h; cases h
           refine E.keep b u ?_
           rw [jX fun k z=>?_]
           . exact (h1o b n1 n2).trans h
           . rcases (mF k b z).2 with y | y
             . exact n1 y
             . exact n2 y
         . rcases E.new b h with z | z | ⟨k,z⟩
           . exact .inl z
           . refine .inr ?_
             by_cases n1:b = x
             . rw [n1]; exact hx
             . by_cases n2:b = dx
               . rw [n2]; exact hdx
               . exact (h1o b n1 n2).symm.trans z
           . rcases (mF k b z).2 with y | y
             . rw [y]; exact .inr hx
             . rw [y]; exact .inr hdx
         . obtain ⟨u,eu,ro,nd⟩:=E.out 0 t rfl
           cases eu
           exact ⟨Fc' 0,ro,nd,fun a ha=>⟨free a (E.live 0 a ha).1,(E.live 0 a ha).2⟩⟩
   | bl b=>exact p.elim
   | int b=>exact p.elim
   | str b=>exact p.elim
   | lst b=>exact p.elim
   | tup b=>exact p.elim
end
end L2.P
namespace L2.E
open PySem PySem.Spec PyProof.Rows L2
noncomputable def vR (wi:TI) (ι:List Nat) (tc:TT) (te:TE):TE:=fun σ H Q=>wi σ H fun J H1=>∀ D,H1 D = none -> ∃ W:Nat -> Nat -> List V -> Hp -> Prop,(∃ m,W 0 m [] (upd H1 D (.lst []))) /\ ∀ i m ys H,W i m ys H ->
 H D = some (.lst ys) /\ ((J.stop i H /\ Q (.ref D) H) \/ (J.go i H /\ ∀ x H',J.yld i H x H' -> tc (pick ι σ ++ [some x]) H' fun b H3=>H3 D = some (.lst ys) /\ if b = true then
   te (pick ι σ ++ [some x]) H3 fun y H2=>H2 D = some (.lst ys) /\ ys.length < sizeLine /\ ∃ m',m' < m /\ W (i + 1) m' (ys ++ [y]) (upd H2 D (.lst (ys ++ [y]))) else ∃ m',m' < m /\ W (i + 1) m' ys H3))
section
variable {X:Cx} {scope:Scope} {cl:List (Str × Addr)} {M:List Str} {ι:List Nat} {x:Str}
theorem Bj {elt iter c:Expr} {px pos:Pos} {wi:TI} {tc:TT} {te:TE} (S:o5 X scope cl M ι x) (hc:X.calm = true) (hi:PI X (.Name x px) iter wi) (hcd:∀ C s₀ H₀ ex,PT (blk X scope cl (M ++ [x]) C s₀ H₀ ex) c tc) (he:∀ C s₀ H₀ ex,PE (blk X scope cl (M ++ [x]) C s₀ H₀ ex) elt te)
  (hs:∀ v,foldedSetIterable iter X.env v = pure v:=by intro _; rfl):PE X (.ListComp elt [⟨.Name x px,iter,[c],0⟩] scope pos) (vR wi ι tc te):=by
 intro pins s σ H Q I h
 rw [eval_ListComp]
 refine wpAny_comprehension_free (use:=none) rfl hs S.clos S.kind (fun y hy hl=>?_) (wpAny_mono (hi pins s σ H _ I h) (fun v s1 h1=>wpAny_mono h1 (fun itv s2 h2=>?_) fun _ _ z=>z) fun _ _ z=>z)
 . have q:=List.all_eq_true.mp S.locs y hy
   rw [hl] at q
   simpa using q
 obtain ⟨it,fp,tn,J,H2,rfl,I2,T,st2,f2,hW⟩:=h2
 have I3:=I2.II (ys:=[]) (its:=[]) (t':=s2.toks) .nil (Nat.zero_le _)
 obtain ⟨W,⟨m0,w0⟩,turn⟩:=hW s2.heap.objs.size I2.fresh
 have fpo:∀ b ∈ fp,b < s2.heap.objs.size:=fun b hb=>let ⟨_,e,_⟩:=T.obj _ _ st2 b hb; Heap.lt_size e
 have f3:∀ b ∈ fp,qH X pins (upd H2 s2.heap.objs.size (.lst [])) b:=fun b hb=>by
  obtain ⟨q0,q⟩:=f2 b hb
  exact ⟨by rw [bb (Nat.ne_of_lt (fpo b hb))]; exact q0,q⟩
 show wpAny _ _ (newObj (.type "list") _ none) _ _ s2
 refine wpAny_newObj_type (wpAny_newFunctionEnv (fun y hy=>?_) (by intro y hy; simp at hy) (fun h₁ hn₁ sb₁=>?_) S.kind)
 . have q:=List.all_eq_true.mp S.nocell y hy
   simpa using q
 have hsz:(s2.heap.push { cls:=.type "list",dict:=none,data:=.seq ([]:List Value).toArray }).objs.size = s2.heap.objs.size + 1:=Heap.size_push ..
 have hk₁:∀ b o,(s2.heap.push { cls:=.type "list",dict:=none,data:=.seq ([]:List Value).toArray }).get? b = some o -> h₁.get? b = some o:=fun b o e=>
  (sb₁.2 b (Nat.ne_of_lt (Heap.lt_size e))).trans (Heap.get?_push_of_some _ e)
 have J0:=Cn (t':=s2.toks + ([]:List (Str × Value)).length) S I3 (ex:=fp) (fun b hb=>⟨f3 b hb,Nat.lt_of_lt_of_le (fpo b hb) (by rw [hsz]; exact Nat.le_succ _)⟩) hn₁ hk₁
 have old:∀ b ∈ fp,∀ o,s2.heap.get? b = some o -> h₁.get? b = some o:=fun b _ o e=>hk₁ b o (Heap.get?_push_of_some _ e)
 have st₁:tn 0 h₁:=T.keep _ _ _ st2 old
 have loop:codeAny (model X.prog X.w) X.A (.compLoop (.ListComp elt [⟨.Name x px,iter,[c],0⟩] scope pos) 0 (.ref it) (.ref s2.heap.objs.size) (compEnvC scope cl (s2.heap.objs.size + 1) X.env))
   (compPost (model X.prog X.w) X.A X.xe none (EP X pins σ Q) (.ref s2.heap.objs.size) (s2.heap.objs.size + 1)) { s2 with heap:=h₁,toks:=s2.toks + ([]:List (Str × Value)).length }:=by
  rw [hsz] at J0
  refine codeAny_loop rfl (fun n s'=>∃ i H' ys v,Inv (blk X scope cl (M ++ [x]) (s2.heap.objs.size + 1) { s2 with heap:=s2.heap.push { cls:=.type "list",data:=.seq ([]:List Value).toArray },toks:=s2.toks } (upd H2 s2.heap.objs.size (.lst [])) fp) [] (pick ι σ ++ [v]) H' s' /\ tn i s'.heap /\ (∀ b ∈ fp,H' b = none) /\ W i n ys H')
   (fun n s' hI=>?_) m0 ⟨0,_,[],none,J0,st₁,fun b hb=>(f3 b hb).1,w0⟩
  obtain ⟨i,H',ys,v,J',st',fr',w'⟩:=hI
  obtain ⟨hD,alt⟩:=turn i n ys H' w'
  have fpY:∀ {G:Hp},(∀ b ∈ fp,G b = none) -> ∀ b ∈ fp,qH (blk X scope cl (M ++ [x]) (s2.heap.objs.size + 1) { s2 with heap:=s2.heap.push { cls:=.type "list",data:=.seq ([]:List Value).toArray },toks:=s2.toks } (upd H2 s2.heap.objs.size (.lst [])) fp) [] G b:=fun hG b hb=>
   ⟨hG b hb,(J'.ok.exf b hb).1,J'.ok.exfs b hb,.inl hb,(J'.ok.exf b hb).2,fun p hp=>absurd (show p ∈ ([]:List (Addr × Obj)) from hp) (by simp)⟩
  show wpAny _ _ ((compTurn _ 0 (.ref it) (.ref s2.heap.objs.size) (compEnvC scope cl (s2.heap.objs.size + 1) X.env)).onRaise _) _ _ s'
  refine wpAny_noted (wpAny_noRaise ?_)
  rw [compTurn_list]
  refine wpAny_bind (wpAny_standAt (wpAny_bind ?_))
  rcases alt with ⟨stop,qn⟩ | ⟨go,step⟩
  . refine thn (T.done (blk X scope cl (M ++ [x]) (s2.heap.objs.size + 1) _ _ fp) rfl rfl rfl hc i [] s' _ H' _ J' (fpY fr') st' stop) fun r s4 ⟨hr,J4⟩=>?_
    subst hr
    refine wpAny_pure ?_
    obtain ⟨m,hm,_⟩:=id J4.loc
    refine ⟨m,hm,fun h' sb=>⟨.ref s2.heap.objs.size,H',zR I3 hsz.symm f3 J4 sb,rfl,qn⟩⟩
  . refine thn (T.item (blk X scope cl (M ++ [x]) (s2.heap.objs.size + 1) _ _ fp) rfl rfl rfl hc i [] s' _ H' _ J' (fpY fr') st' go) fun r s4 ⟨u,hr,h4⟩=>?_
    subst hr
    refine wpAny_bind (thn h4 fun _ s5 ⟨z,H5,J5,r5,y5,st5,fr5⟩=>?_)
    have J5':=J5.pinned (fpY fr5) (T.obj _ _ st5)
    have hxN:(M ++ [x])[M.length]? = some x:=by simp
    refine wpAny_bind ?_
    refine wpAny_assign_Name ?_
    refine lW (X:=blk X scope cl (M ++ [x]) (s2.heap.objs.size + 1) _ _ fp) (i:=M.length) (v:=z) J5' S.nd hxN (.inl (lookup_relabel_local S.var)) r5 (fun s6 J6=>?_) (.inr (lookup_relabel_local S.var))
    have hlp:(pick ι σ).length = M.length:=by
     have q:=congrArg List.length S.names
     rw [List.length_map,List.length_map] at q
     unfold pick
     rw [List.length_map,q]
    have hset:(pick ι σ ++ [v]).set M.length (some z) = pick ι σ ++ [some z]:=by
     rw [<- hlp,List.set_append_right _ _ (Nat.le_refl _),Nat.sub_self]
     rfl
    rw [hset] at J6
    refine wpAny_bind (wpAny_tests_one (thn (hcd _ _ _ _ _ s6 _ H5 _ J6 (step z H5 y5)) fun b s7 ⟨H7,J7,hD7,q7⟩=>?_))
    cases b with
    | true=>
      rw [if_pos rfl] at q7
      refine wpAny_bind (wpAny_bind (thn (he _ _ _ _ _ s7 _ H7 _ J7 q7) fun yv s8 ⟨y,H8,J8,r8,hD8,hz8,m',hm',w8⟩=>?_))
      refine wpAny_bind (thn (gN (X:=blk X scope cl (M ++ [x]) (s2.heap.objs.size + 1) _ _ fp) _ s8 _ H8 (.ref s2.heap.objs.size) [y] (.ref s2.heap.objs.size) [yv] (fun _ G=>G = upd H8 s2.heap.objs.size (.lst (ys ++ [y]))) J8 rfl (.cons r8 .nil) ⟨_,_,y,rfl,rfl,hD8,hz8,rfl⟩) fun _ s9 ⟨_,H9,J9,_,e9⟩=>?_)
      subst e9
      refine wpAny_pure (wpAny_pure ⟨rfl,m',hm',i + 1,_,_,some z,J9.mi,?_,fun b hb=>?_,w8⟩)
      . exact T.keep _ _ _ st5 fun b hb o e=>(J9.pin (b,o) (List.mem_append_right _ (List.mem_append_right _ (iu hb e)))).1
      . obtain ⟨o,e,d⟩:=T.obj _ _ st5 b hb
        exact (J9.pin (b,o) (List.mem_append_right _ (List.mem_append_right _ (iu hb e)))).2.1
    | false=>
      rw [if_neg (by decide)] at q7
      obtain ⟨m',hm',w8⟩:=q7
      refine wpAny_pure ⟨rfl,m',hm',i + 1,_,_,some z,J7.mi,?_,fun b hb=>?_,w8⟩
      . exact T.keep _ _ _ st5 fun b hb o e=>(J7.pin (b,o) (List.mem_append_right _ (List.mem_append_right _ (iu hb e)))).1
      . obtain ⟨o,e,d⟩:=T.obj _ _ st5 b hb
        exact (J7.pin (b,o) (List.mem_append_right _ (List.mem_append_right _ (iu hb e)))).2.1
 rw [hsz] at *
 exact codeAny_compStart_list loop (T.self X.A 0 _ _ _ st₁ loop)
end
end L2.E
namespace L2.E
open PySem PySem.Spec PyProof.Rows L2
theorem Cu (its:List Value):slicePick its.toArray none none (some (-1)) = its.reverse.toArray:=by
 unfold slicePick
 have hb:sliceBounds none none (some (-1)) its.toArray.size = ((its.length:Int) - 1,-1,-1):=by simp [sliceBounds]
 rw [hb]
 congr 1
 have hr:sliceRange ((its.length:Int) - 1) (-1) (-1) = (List.range its.length).map fun i=>its.length - 1 - i:=by
  unfold sliceRange
  rw [if_neg (by decide)]
  have hc:(if ((its.length:Int) - 1) > -1 then (((its.length:Int) - 1) - -1 - -1 - 1) / (- -1) else 0).toNat = its.length:=by
   split
   . rw [show (- -1:Int) = 1 by decide,Int.ediv_one]; omega
   . omega
  dsimp only
  rw [hc]
  refine List.map_congr_left fun k hk=>?_
  have:=List.mem_range.mp hk
  omega
 rw [hr]
 apply List.ext_getElem?
 intro n
 rw [List.filterMap_map]
 have hall:∀ m,m <= its.length -> List.filterMap ((fun x=>its.toArray[x]?) ∘ fun i=>its.length - 1 - i) (List.range m) = (its.reverse).take m:=by
  intro m
  induction m with
  | zero=>intro _; simp
  | succ m ih=>
    intro hm
    rw [List.range_succ,List.filterMap_append,ih (by omega)]
    have h1:its.length - 1 - m < its.length:=by omega
    have h2:m < its.reverse.length:=by rw [List.length_reverse]; omega
    rw [List.take_succ_eq_append_getElem h2]
    congr 1
    simp [h1]
 rw [hall its.length (Nat.le_refl _),List.take_of_length_le (by simp)]
theorem xA:∀ {xs:List V} {us:List Value},Vals xs us -> Vals xs.reverse us.reverse
 | _,_,.nil=>.nil
 | _,_,.cons r t=>by
   rw [List.reverse_cons,List.reverse_cons]
   exact (xA t).append (.cons r .nil)
section
variable {X:Cx} {e st:Expr} {te ts:TE} {pos p2:Pos}
noncomputable def IL (K:PySem.W.Frag) (te ts:TE):TE:=fun σ H Q=>te σ H fun x H1=>ts σ H1 fun k H2=>k = .int (-1) /\ ∃ a xs,x = .ref a /\ SqL K H2 a xs /\ ∀ p,H2 p = none -> Q (.ref p) (upd H2 p (.lst xs.reverse))
theorem Ic (he:PE X e te) (hk:PE X st ts):PE X (.Subscript e (.Slice none none (some st) p2) pos) (IL X.K te ts):=by
 intro pins s σ H Q I h
 refine Subscript_ (thn (he pins s σ H _ I h) fun v s1 ⟨x,H1,I1,r1,q1⟩=>?_)
 refine wpAny_Slice ?_
 rw [evalPart_none]
 refine wpAny_pure (wpAny_pure ?_)
 rw [evalPart_some]
 refine thn (hk pins s1 σ H1 _ I1 q1) fun u s3 ⟨k,H3,I3,r3,q3⟩=>?_
 obtain ⟨rfl,a,xs,rfl,hq,q⟩:=q3
 obtain ⟨t,rfl⟩:=r3
 cases r1
 have I4:Inv X pins σ H3 { s3 with heap:=s3.heap.push { cls:=.type "slice",data:=.fields #[.none,.none,.int (-1) t] } }:=I3.kept (t':=s3.toks) fun b ob q=>Heap.get?_push_of_some _ q
 obtain ⟨its,r,ht,hz⟩:=I4.list hq
 have hlen:=r.length
 show wpAny (model X.prog X.w) X.A (subscriptTail e (.Slice none none (some st) p2) (.ref a) (.ref s3.heap.objs.size)) (EP X pins σ Q) X.xe { s3 with heap:=s3.heap.push { cls:=.type "slice",data:=.fields #[.none,.none,.int (-1) t] } }
 refine tail_any (ops:=[.ref a,.ref s3.heap.objs.size]) ht.isList.typeIs slot_list_getitem.lookup ?_ (by with_unfolding_all rfl)
 refine wpAny_getItem_list_slice ht.isList (Heap.IsSliceOf.new ..) .none .none (.int (-1) t) (by decide) ?_ (by rw [List.size_toArray] <;> omega)
 rw [Cu]
 refine ⟨.ref _,_,I4.laid (t':=s3.toks) (o:=.lst xs.reverse) (fun b ob q=>Heap.get?_push_of_some _ q) (Nat.le_refl _) ?_,rfl,q _ (I4.hok.fresh (Nat.le_refl _))⟩
 refine ⟨by rw [List.length_reverse]; exact hz,its.reverse,0,xA r,Heap.get?_push_size _ rfl⟩
end
end L2.E
namespace L2.E
open PySem PySem.Spec PyProof.Rows L2
end L2.E
namespace L2.P
open PySem PySem.Spec PyProof.Rows L2 L2.E
section
variable {K:PySem.W.Frag} {cls:String -> Option Addr} {W:XW} {Av G S₀ S S' H H' B B':Hp} {ρ:ag} {σ:St} {Q:VK}
theorem CV {tl te:TE} {ml me:ag -> OE} {ι:List Nat} (hι:ι.Nodup) (hl:JE K cls W tl ml) (he:JE K cls (fun _ _ _ _=>False) te me):JE K cls W (wm (Ig K tl) ι te) (su ml ι me):=by
 intro Av G S₀ ρ σ S H Q I p
 refine hl.go I p fun r v S1 H1 I1 w1 r1 p1=>?_
 have ra:=r1.rd I1.sh
 cases e:r.pv with
 | tup xs=>
   rw [e] at p1 ra
   obtain ⟨a,vs,rfl,hq,hr⟩:=my ra
   refine ⟨a,rfl,⟨vs,aK.tup I1.sh hq⟩,?_⟩
   dsimp only at p1
   cases em:dI me (dO ι ρ) xs with
   | exc c fs=>rw [em] at p1; exact p1.elim
   | bad=>rw [em] at p1; exact p1.elim
   | ok ys=>
     rw [em] at p1
     simp only [noX] at p1
     split at p1
     . rename_i hlen
       refine qm hι he I1 em hlen (fun k H' x g hx=>?_) (fun H' g=>⟨vs,aK.tup (I1.sh.trans g) hq,by rw [hr.length]; exact Nat.le_refl _⟩) fun D S' H' w nD sD ⟨us,hD,rr⟩=>p1 (.ref D) S' H' w ⟨D,us,rfl,nD,sD,hD,rr⟩
       obtain ⟨u,hu,ru⟩:=hr.get hx
       refine ⟨⟨vs,u,aK.tup (I1.sh.trans g) hq,hu⟩,?_⟩
       rintro v' H2 ⟨rfl,hv⟩
       have:=hv vs (aK.tup (I1.sh.trans g) hq)
       rw [hu] at this
       cases this
       exact ⟨rfl,ru⟩
     . exact p1.elim
 | _=>rw [e] at p1; exact p1.elim
theorem xE {J:It} {ι:List Nat} {tc:TT} {mc:ag -> OT} {te:TE} {me:ag -> OE} {xs ys:List PV} (hι:ι.Nodup) (hc:JT K cls (fun _ _ _ _=>False) tc mc) (he:JE K cls (fun _ _ _ _=>False) te me) (I:SR K cls Av G S₀ ρ σ S H) (hy:i9 mc me (dO ι ρ) xs = .ok ys) (hl:ys.length <= lim)
  (go:∀ k H' x,aK H H' -> xs[k]? = some x -> J.go k H' /\ ∀ v H2,J.yld k H' v H2 -> H2 = H' /\ Rep K S x v) (stop:∀ H',aK H H' -> J.stop xs.length H')
  (hQ:∀ D S' H',bw S H S' H' -> H D = none -> S' D = none -> (∃ us,H' D = some (.lst us) /\ bS K S' ys us) -> Q (.ref D) H'):
  ∀ D,H D = none -> ∃ W:Nat -> Nat -> List V -> Hp -> Prop,(∃ m,W 0 m [] (upd H D (.lst []))) /\ ∀ i m us H',W i m us H' ->
    H' D = some (.lst us) /\ ((J.stop i H' /\ Q (.ref D) H') \/ (J.go i H' /\ ∀ x H2,J.yld i H' x H2 -> tc (L2.E.pick ι σ ++ [some x]) H2 fun b H4=>H4 D = some (.lst us) /\ if b = true then te (L2.E.pick ι σ ++ [some x]) H4 fun y H3=>H3 D = some (.lst us) /\ us.length < sizeLine /\ ∃ m',m' < m /\ W (i + 1) m' (us ++ [y]) (upd H3 D (.lst (us ++ [y]))) else ∃ m',m' < m /\ W (i + 1) m' us H4)):=by
 intro D nD
 refine ⟨fun k m us H'=>m + k = xs.length /\ H' D = some (.lst us) /\ ∃ S' zs ws,aK S S' /\ aK H H' /\ aK S' H' /\ (∀ b,S' b ≠ none -> S b ≠ none \/ (H b = none /\ b ≠ D)) /\ bS K S' zs us /\ i9 mc me (dO ι ρ) (xs.drop k) = .ok ws /\ ys = zs ++ ws,
  ⟨xs.length,rfl,bc,S,[],ys,aK.refl _,aK.new nD,I.sh.trans (aK.new nD),fun b z=>.inl z,.nil,hy,rfl⟩,?_⟩
 rintro k m us H' ⟨hm,hD,S',zs,ws,s1,g1,sh1,n1,r1,e1,rfl⟩
 refine ⟨hD,?_⟩
 have hSD:S' D = none:=by
  cases q:S' D with
  | none=>rfl
  | some o=>
    rcases n1 D (by rw [q]; simp) with z | ⟨_,z⟩
    . exact absurd (I.sh.free nD) z
    . exact absurd rfl z
 by_cases hk:k < xs.length
 . refine .inr ?_
   have hx:xs[k]? = some xs[k]:=by simp [hk]
   obtain ⟨hgo,hyld⟩:=go k H' xs[k] g1 hx
   refine ⟨hgo,fun v H2 hv=>?_⟩
   obtain ⟨rfl,rv⟩:=hyld v H2 hv
   rw [List.drop_eq_getElem_cons hk] at e1
   have I1:SR K cls Av G S₀ ρ σ S' H2:=I.grow ⟨s1,g1,sh1,fun b z=>by
    rcases n1 b z with z | ⟨z,_⟩
    . exact .inl z
    . exact .inr z⟩
   have Ip:=I1.pick hι (Rep.mono s1 rv)
   refine hc _ G S₀ _ _ S' H2 _ Ip ?_
   unfold i9 at e1
   split at e1
   . rename_i ec
     rw [ec]
     intro S2 H3 w2
     have hSD2:S2 D = none:=by
      cases q:S2 D with
      | none=>rfl
      | some o=>
        rcases w2.new D (by rw [q]; simp) with z | z
        . exact absurd hSD z
        . rw [hD] at z; cases z
     refine ⟨w2.g _ _ hD,?_⟩
     rw [if_pos rfl]
     refine he _ G S₀ _ _ S2 H3 _ (Ip.grow w2) ?_
     cases em:me (dO ι ρ ++ [some (.sh xs[k])]) with
     | exc c fs=>rw [em] at e1; cases e1
     | bad=>rw [em] at e1; cases e1
     | ok r=>
       rw [em] at e1
       simp only [OE.gj] at e1
       cases es:lL r with
       | none=>rw [es] at e1; cases e1
       | some y=>
         rw [es] at e1
         dsimp only at e1
         cases e2:i9 mc me (dO ι ρ) (xs.drop (k + 1)) with
         | exc c fs=>rw [e2] at e1; cases e1
         | bad=>rw [e2] at e1; cases e1
         | ok zs'=>
           rw [e2] at e1
           simp only [OA.gj] at e1
           cases e1
           intro u S4 H4 w4 r4
           obtain ⟨S3,w3,s3,ru⟩:=r4.share w4 es
           have hl2:(zs ++ y ::zs').length <= lim:=hl
           have w5:=w2.trans w3
           have hSD3:S3 D = none:=by
            cases q:S3 D with
            | none=>rfl
            | some o=>
              rcases w3.new D (by rw [q]; simp) with z | z
              . exact absurd hSD2 z
              . rw [w2.g _ _ hD] at z; cases z
           refine ⟨w5.g _ _ hD,?_,m - 1,by omega,by omega,bc,S3,zs ++ [y],zs',s1.trans w5.s,(g1.trans w5.g).upd nD,w3.sh.upd hSD3,fun b z=>?_,(r1.mono w5.s).append (.cons ru .nil),e2,by simp⟩
           . rw [r1.length,<- yB]
             rw [List.length_append,List.length_cons] at hl2
             omega
           . rcases w5.new b z with z | z
             . exact n1 b z
             . refine .inr ⟨g1.free z,fun e=>?_⟩
               rw [e,hD] at z; cases z
   . rename_i ec
     rw [ec]
     intro S2 H3 w2
     refine ⟨w2.g _ _ hD,?_⟩
     rw [if_neg (by decide)]
     refine ⟨m - 1,by omega,by omega,w2.g _ _ hD,S2,zs,ws,s1.trans w2.s,g1.trans w2.g,w2.sh,fun b z=>?_,r1.mono w2.s,e1,rfl⟩
     rcases w2.new b z with z | z
     . exact n1 b z
     . refine .inr ⟨g1.free z,fun e=>?_⟩
       rw [e,hD] at z; cases z
   . cases e1
 . have hk':k = xs.length:=by omega
   subst hk'
   refine .inl ⟨stop H' g1,?_⟩
   rw [List.drop_length] at e1
   cases e1
   exact hQ D S' H' ⟨s1,g1,sh1,fun b z=>by
    rcases n1 b z with z | ⟨z,_⟩
    . exact .inl z
    . exact .inr z⟩ nD hSD ⟨us,hD,by rw [List.append_nil]; exact r1⟩
theorem yo {tl te:TE} {tc:TT} {ml me:ag -> OE} {mc:ag -> OT} {ι:List Nat} (hι:ι.Nodup) (hl:JE K cls W tl ml) (hc:JT K cls (fun _ _ _ _=>False) tc mc) (he:JE K cls (fun _ _ _ _=>False) te me):JE K cls W (vR (xU K tl) ι tc te) (sA ml ι mc me):=by
 intro Av G S₀ ρ σ S H Q I p
 refine hl.go I p fun r v S1 H1 I1 w1 r1 p1=>?_
 have ra:=r1.rd I1.sh
 cases e:r.pv with
 | lst xs=>
   rw [e] at p1 ra
   obtain ⟨a,vs,rfl,hq,hr⟩:=iz ra
   refine ⟨a,rfl,⟨vs,hq⟩,?_⟩
   dsimp only at p1
   cases em:i9 mc me (dO ι ρ) xs with
   | exc c fs=>rw [em] at p1; exact p1.elim
   | bad=>rw [em] at p1; exact p1.elim
   | ok ys=>
     rw [em] at p1
     simp only [noX] at p1
     split at p1
     . rename_i hlen
       refine xE hι hc he I1 em hlen (fun k H' x g hx=>?_) (fun H' g=>⟨vs,aK.seq g hq,by rw [hr.length]; exact Nat.le_refl _⟩) fun D S' H' w nD sD ⟨us,hD,rr⟩=>p1 (.ref D) S' H' w ⟨D,us,rfl,nD,sD,hD,rr⟩
       obtain ⟨u,hu,ru⟩:=hr.get hx
       refine ⟨⟨vs,u,aK.seq g hq,hu⟩,?_⟩
       rintro v' H2 ⟨rfl,hv⟩
       have:=hv vs (aK.seq g hq)
       rw [hu] at this
       cases this
       exact ⟨rfl,ru⟩
     . exact p1.elim
 | _=>rw [e] at p1; exact p1.elim
theorem HL {ta ts:TE} {ma ms:ag -> OE} (ha:JE K cls W ta ma) (hs:JE K cls W ts ms):JE K cls W (IL K ta ts) (Es ma ms):=by
 intro Av G S₀ ρ σ S H Q I p
 refine ha.go I p fun a v S1 H1 I1 w1 r1 p1=>hs.go I1 p1 fun k u S2 H2 I2 w2 r2 p2=>?_
 have ra:=(r1.rd I1.sh).mono w2.s w2.g
 have rk:=r2.rd I2.sh
 split at p2
 . rename_i xs n ea ek
   split at p2
   . rename_i hn
     rw [ea] at ra
     rw [ek] at rk
     obtain ⟨q,vs,rfl,hq,hr⟩:=iz ra
     refine ⟨by rw [dv rk,hn],q,vs,rfl,hq,fun l hl=>?_⟩
     refine p2 _ S2 _ (bw.heap I2.sh hl) ⟨l,_,rfl,hl,I2.sh.free hl,bc,?_⟩
     clear ea p2 hq ra
     induction xs generalizing vs with
     | nil=>rw [hr.nil_inv]; exact .nil
     | cons x xs ih=>
       obtain ⟨y,t,rfl,h1,h2⟩:=hr.cons_inv
       rw [List.reverse_cons,List.reverse_cons]
       exact (ih _ h2).append (.cons h1 .nil)
   . exact p2.elim
 . exact p2.elim
end
end L2.P
namespace L2.E
open PySem PySem.Spec PyProof.Rows L2
theorem A2 {X:Cx} {scope:Scope} {cl:List (Str × Addr)} {M:List Str} {ι:List Nat} {x:Str} {elt iter c:Expr} {px pos:Pos} {wi:TI} {tc:TT} {te:TE} (S:o5 X scope cl M ι x) (hc:X.calm = true) (hi:QI X (.Name x px) iter wi) (hcd:∀ C s₀ H₀ ex,QT (blk X scope cl (M ++ [x]) C s₀ H₀ ex) c tc) (he:∀ C s₀ H₀ ex,QE (blk X scope cl (M ++ [x]) C s₀ H₀ ex) elt te)
  (hs:∀ v,foldedSetIterable iter X.env v = pure v:=by intro _; rfl):QE X (.ListComp elt [⟨.Name x px,iter,[c],0⟩] scope pos) (vR wi ι tc te):=⟨Bj S hc hi.out (fun a b c d=>(hcd a b c d).out) (fun a b c d=>(he a b c d).out) hs⟩
theorem Iy {X:Cx} {e st:Expr} {te ts:TE} {pos p2:Pos} (he:QE X e te) (hk:QE X st ts):QE X (.Subscript e (.Slice none none (some st) p2) pos) (IL X.K te ts):=⟨Ic he.out hk.out⟩
end L2.E
namespace L2.E
open PySem PySem.Spec PyProof.Rows L2
end L2.E
namespace L2.E
open PySem PySem.Spec PyProof.Rows L2
noncomputable def Jm (p:Int × V) (e:DictEntry):Prop:=e.hash = hashInt p.1 /\ (∃ t,e.key = .int p.1 t) /\ RelV p.2 e.val
noncomputable def DKI (K:PySem.W.Frag) (d:Addr) (kvs:List (Int × V)):Prop:=(d == sysModules) = false /\ (kvs.map (·.1)).Nodup /\ ∃ (es:List DictEntry) (ep:Nat),K.lookup d = some ⟨.type "dict",none,.dict es.toArray ep,#[]⟩ /\ Paired Jm kvs es
theorem wZ {prog:Program} {w:World}:∀ {kvs:List (Int × V)} {es:List DictEntry},Paired Jm kvs es ->
  ∃ us:List (Int × Value),us.map (·.1) = kvs.map (·.1) /\ Pairs (intKind prog w) es us /\ (∀ e ∈ es,∃ k,(intKind prog w).is k e.key = true /\ e.hash = (intKind prog w).hash k) /\
    ∀ n,match kvs.lookup n with
      | some v=>∃ u,valueAt us n = some u /\ RelV v u
      | none=>valueAt us n = none
 | _,_,.nil=>⟨[],rfl,.nil,fun e he=>(nomatch he),fun n=>rfl⟩
 | (n,v) ::kvs,e ::es,.cons h t=>by
   obtain ⟨us,h1,h2,h3,h4⟩:=wZ (prog:=prog) (w:=w) t
   obtain ⟨k1,⟨tk,k2⟩,k3⟩:=h
   have hk:(intKind prog w).is n e.key = true:=by rw [k2]; show Value.isInt n (.int n tk) = true; simp [Value.isInt]
   refine ⟨(n,e.val) ::us,by simp [h1],.cons hk rfl h2,fun e' he'=>?_,fun m=>?_⟩
   . rcases List.mem_cons.mp he' with z | z
     . subst z; exact ⟨n,hk,k1⟩
     . exact h3 e' z
   . have:=h4 m
     by_cases hm:m = n
     . subst hm
       simp [List.lookup,valueAt]
       exact k3
     . have hb:(m == n) = false:=by simpa using hm
       have hn:¬ n = m:=fun z=>hm z.symm
       simp only [List.lookup,hb]
       unfold valueAt at this ⊢
       simp only [List.find?_cons,hn,decide_false]
       exact this
theorem DKI.at {X:Cx} {pins:List (Addr × Obj)} {σ:St} {H:Hp} {s:Shared} {d:Addr} {kvs:List (Int × V)} (D:DKI X.K d kvs) (I:Inv X pins σ H s):
  ∃ us:List (Int × Value),s.heap.DictOf (intKind X.prog X.w) d us /\ ∀ n,match kvs.lookup n with
     | some v=>∃ u,valueAt us n = some u /\ RelV v u
     | none=>valueAt us n = none:=by
 obtain ⟨_,nd,es,ep,hk,pr⟩:=D
 obtain ⟨us,h1,h2,h3,h4⟩:=wZ (prog:=X.prog) (w:=X.w) pr
 exact ⟨us,⟨_,es.toArray,ep,I.kIn d _ hk,⟨rfl,rfl,rfl⟩,rfl,fun e he=>h3 e (by simpa using he),by simpa using h2,by rw [h1]; exact nd⟩,h4⟩
section
variable {X:Cx}
noncomputable def Fq (K:PySem.W.Frag) (neg:Bool):R2:=fun v u H Q=>∃ d kvs n,u = .ref d /\ v = .int n /\ DKI K d kvs /\ Q (.bl (if neg then !(kvs.lookup n).isSome else (kvs.lookup n).isSome)) H
theorem A6 {kvs:List (Int × V)} {us:List (Int × Value)} {n:Int} (h:match kvs.lookup n with
        | some v=>∃ u,valueAt us n = some u /\ RelV v u
        | none=>valueAt us n = none):(valueAt us n).isSome = (kvs.lookup n).isSome:=by
 cases q:kvs.lookup n with
 | none=>rw [q] at h; rw [h]; rfl
 | some v=>rw [q] at h; obtain ⟨u,e,_⟩:=h; rw [e]; rfl
theorem DT:OpR X (compareOp .In) (Fq X.K false):=by
 intro pins s σ H x y v u Q I rx ry h
 obtain ⟨d,kvs,n,rfl,rfl,D,q⟩:=h
 obtain ⟨t,rfl⟩:=rx
 cases ry
 obtain ⟨us,dd,hv⟩:=D.at I
 refine wpAny_in_of (knd:=intKind X.prog X.w) (k:=n) (by show Value.isInt n (.int n t) = true; simp [Value.isInt]) D.1 dd.mapOf ⟨.bl _,H,I.tok _,rfl,?_⟩
 rw [A6 (hv n)]
 exact q
noncomputable def FN (K:PySem.W.Frag):R2:=fun x y H Q=>∃ d kvs n v,x = .ref d /\ y = .int n /\ DKI K d kvs /\ kvs.lookup n = some v /\ Q v H
theorem Ge:IxR X (FN X.K):=by
 intro value slice pins s σ H x y v u Q I rx ry h hs
 obtain ⟨d,kvs,n,z,rfl,rfl,D,hl,q⟩:=h
 cases rx
 obtain ⟨t,rfl⟩:=ry
 obtain ⟨us,dd,hv⟩:=D.at I
 have h2:=hv n
 rw [hl] at h2
 obtain ⟨w,e,rw'⟩:=h2
 refine tail_any (ops:=[.ref d,.int n t]) dd.typeIs slot_dict_getitem.lookup ?_ hs
 exact wpAny_getItem_of (knd:=intKind X.prog X.w) (k:=n) (by show Value.isInt n (.int n t) = true; simp [Value.isInt]) dd.mapOf e ⟨z,H,I.tok _,rw',q⟩
noncomputable def Di (K:PySem.W.Frag) (td te:TE):TE:=fun σ H Q=>td σ H fun x H1=>∃ d kvs,x = .ref d /\ DKI K d kvs /\ te σ H1 fun y H2=>∃ n,y = .int n /\ Q ((kvs.lookup n).getD .non) H2
theorem wA {o e:Expr} {td te:TE} {apos cpos:Pos} (ho:QE X o td) (he:QE X e te) (hbase:attributeBase o "get" X.env (eval o X.env) = eval o X.env:=by rfl)
  (few:((backTo cpos (starEach [e] X.env)).all (fun x=>!x.1) && (backToKw cpos (keywordEach [] X.env)).all (fun x=>x.1.isSome) && decide (([e]:List Expr).length + ([]:List Keyword).length + (if ([]:List Keyword).isEmpty then 0 else 1) < 30)) = true:=by rfl)
  (line:(apos.endLine == cpos.line) = true:=by rfl) (trees:backTo cpos (starEach [e] X.env) = [(false,eval e X.env)]:=by rfl):QE X (.Call (.Attribute o "get" apos) [e] [] cpos) (Di X.K td te):=⟨by
 intro pins s σ H Q I h
 refine wpAny_Call_method hbase few line PySem.F.plainAttrs_dict PySem.F.slot_dict_get PySem.F.type_dict_get (thn (ho.out pins s σ H _ I h) fun u s1 ⟨x,H1,I1,rx,d,kvs,ex,D,q1⟩=>?_)
 subst ex
 obtain rfl:u = Value.ref d:=rx
 obtain ⟨us,dd,hv⟩:=D.at I1
 obtain ⟨_,nd,es,ep,hk,pr⟩:=id D
 refine ⟨dd.typeIs,fun b hb=>by cases hb; exact ⟨_,I1.kIn d _ hk,rfl⟩,?_⟩
 rw [trees]
 refine Calls.callWith_builtin rfl (Calls.evalArgs_plain (Calls.spliced_cons (thn (he.out pins s1 σ H1 _ I1 q1) fun iv s2 ⟨y,H2,I2,ry,n,ey,q2⟩=>Calls.spliced_nil ?_)))
 subst ey
 obtain ⟨t,rfl⟩:=ry
 obtain ⟨us2,dd2,hv2⟩:=D.at I2
 refine call_meetsIn PySem.F.slot_dict_get dd2.typeIs PySem.F.entry_dict_get (PySem.F.args_dict_get_2 _ _) (meets_dict_get (intKind X.prog X.w) d (k:=n) (key:=.int n t) (by show Value.isInt n (.int n t) = true; simp [Value.isInt]) D.1) ⟨_,dd2.mapOf,⟨_,H2,I2.tok _,?_,q2⟩⟩
 have h2:=hv2 n
 cases q:kvs.lookup n with
 | none=>rw [q] at h2; rw [h2]; rfl
 | some v=>rw [q] at h2; obtain ⟨u,e,r⟩:=h2; rw [e]; exact r⟩
end
end L2.E
namespace L2.P
open PySem PySem.Spec PyProof.Rows L2 L2.E
section
variable {K:PySem.W.Frag} {cls:String -> Option Addr} {W:XW} {Av G S₀ S S' H H' B B':Hp} {ρ:ag} {σ:St} {Q:VK}
noncomputable def DKP (K:PySem.W.Frag) (d:Addr) (kvs:List (Int × PV)):Prop:=∃ us,DKI K d us /\ Paired (fun (p:Int × PV) (q:Int × V)=>p.1 = q.1 /\ ∀ S,Rep K S p.2 q.2) kvs us
theorem DKP.look {d:Addr}:∀ {kvs:List (Int × PV)} {us:List (Int × V)},Paired (fun (p:Int × PV) (q:Int × V)=>p.1 = q.1 /\ ∀ S,Rep K S p.2 q.2) kvs us -> ∀ n,match kvs.lookup n with
  | some x=>∃ v,us.lookup n = some v /\ ∀ S,Rep K S x v
  | none=>us.lookup n = none
 | _,_,.nil,n=>rfl
 | (k,x) ::kvs,(k',v) ::us,.cons h t,n=>by
   obtain ⟨rfl,hr⟩:=h
   have:=DKP.look (d:=d) t n
   by_cases hm:n = k
   . subst hm
     simp [List.lookup]
     exact hr
   . have hb:(n == k) = false:=by simpa using hm
     simp only [List.lookup,hb]
     exact this
theorem Fm {d:Addr} {kvs:List (Int × PV)} {ta:TE} {ma:ag -> OE} (D:DKP K d kvs) (ha:JE K cls W ta ma):JE K cls W (tOp (Fq K false) ta (tC (.ref d))) (mUn (wW kvs) ma):=by
 intro Av G S₀ ρ σ S H Q I p
 refine ha.go I p fun a v S1 H1 I1 w1 r1 p1=>?_
 have ra:=r1.rd I1.sh
 cases e:a.pv with
 | int n=>
   rw [e] at p1 ra
   obtain ⟨us,D1,pr⟩:=D
   have:=DKP.look (d:=d) pr n
   refine ⟨d,us,n,rfl,dv ra,D1,?_⟩
   have hs:(us.lookup n).isSome = (kvs.lookup n).isSome:=by
    cases q:kvs.lookup n with
    | none=>rw [q] at this; rw [this]; rfl
    | some x=>rw [q] at this; obtain ⟨v,e,_⟩:=this; rw [e]; rfl
   rw [hs]
   exact p1 _ S1 H1 (bw.refl I1.sh) kO
 | _=>rw [e] at p1; exact p1.elim
theorem Ad {d:Addr} {kvs:List (Int × PV)} {ta:TE} {ma:ag -> OE} (D:DKP K d kvs) (ha:JE K cls W ta ma):JE K cls W (tOp (FN K) (tC (.ref d)) ta) (mUn (tJ kvs) ma):=by
 intro Av G S₀ ρ σ S H Q I p
 refine ha.go I p fun a v S1 H1 I1 w1 r1 p1=>?_
 have ra:=r1.rd I1.sh
 cases e:a.pv with
 | int n=>
   rw [e] at p1 ra
   obtain ⟨us,D1,pr⟩:=D
   have:=DKP.look (d:=d) pr n
   simp only [tJ] at p1
   cases q:kvs.lookup n with
   | none=>rw [q] at p1; exact p1.elim
   | some x=>
     rw [q] at p1 this
     obtain ⟨u,eu,hr⟩:=this
     exact ⟨d,us,n,u,rfl,dv ra,D1,eu,p1 _ S1 H1 (bw.refl I1.sh) (hr S1)⟩
 | _=>rw [e] at p1; exact p1.elim
theorem xt {d:Addr} {kvs:List (Int × PV)} {ta:TE} {ma:ag -> OE} (D:DKP K d kvs) (ha:JE K cls W ta ma):JE K cls W (Di K (tC (.ref d)) ta) (mUn (gO kvs) ma):=by
 intro Av G S₀ ρ σ S H Q I p
 obtain ⟨us,D1,pr⟩:=D
 refine ⟨d,us,rfl,D1,?_⟩
 refine ha.go I p fun a v S1 H1 I1 w1 r1 p1=>?_
 have ra:=r1.rd I1.sh
 cases e:a.pv with
 | int n=>
   rw [e] at p1 ra
   have:=DKP.look (d:=d) pr n
   simp only [gO,oE] at p1
   refine ⟨n,dv ra,?_⟩
   cases q:kvs.lookup n with
   | none=>
     rw [q] at p1 this
     rw [this]
     exact p1 _ S1 H1 (bw.refl I1.sh) (by show Rep K S1 _ _; unfold Rep; rfl)
   | some x=>
     rw [q] at p1 this
     obtain ⟨u,eu,hr⟩:=this
     rw [eu]
     exact p1 _ S1 H1 (bw.refl I1.sh) (hr S1)
 | _=>rw [e] at p1; exact p1.elim
end
end L2.P
namespace L2.E
open PySem PySem.Spec PyProof.Rows L2
end L2.E
namespace L2.P
open PySem PySem.Spec PyProof.Rows L2 L2.E
end L2.P
namespace L2.P
open PySem
end L2.P
namespace L2.P
open PySem PySem.Spec PyProof.Rows L2 L2.E
end L2.P
namespace L2.P
open PySem
noncomputable def Jz (x:Str):List PV:=x.cps.toList.map fun c=>.str ⟨#[c]⟩
noncomputable def Hx (ml:ag -> OE) (ι:List Nat) (me:ag -> OE):ag -> OE:=fun ρ=>(ml ρ).bind fun r=>match r.pv with
 | .str x=>noX (dI me (dO ι ρ) (Jz x))
 | _=>.bad
@[simp] theorem JG (ml:ag -> OE) (ι:List Nat) (me:ag -> OE) (ρ:ag):Hx ml ι me ρ = ((ml ρ).bind fun r=>match r.pv with
  | .str x=>noX (dI me (dO ι ρ) (Jz x))
  | _=>.bad):=rfl
end L2.P
namespace L2.P
open PySem
end L2.P
namespace L2
open PySem PySem.Spec PyProof.Rows
end L2
namespace L2.P
open PySem PySem.Spec PyProof.Rows L2 L2.E
end L2.P
namespace HT
open PySem PyProof.Rows
end HT
namespace L2
open PySem PySem.Spec PyProof.Rows
end L2
namespace L2.P
open PySem PySem.Spec PyProof.Rows L2 L2.E
end L2.P
namespace HT
open PySem PyProof.Rows
open AutoSeq1 (wpAny_loadPart')
end HT
namespace L2
open PySem PySem.Spec PyProof.Rows
end L2
namespace L2.P
open PySem PySem.Spec PyProof.Rows L2 L2.E
end L2.P
namespace L2.P
open PySem
noncomputable def mq (kvs:List (Int × PV)) (a b:RV):OE:=match a.pv,b with
 | .int n,.sh d=>.ok (.sh ((kvs.lookup n).getD d))
 | _,_=>.bad
noncomputable def uV (kvs:List (Int × PV)) (ma mb:ag -> OE):ag -> OE:=fun ρ=>(ma ρ).bind fun a=>(mb ρ).bind fun b=>mq kvs a b
@[simp] theorem IW (kvs:List (Int × PV)) (ma mb:ag -> OE) (ρ:ag):uV kvs ma mb ρ = (ma ρ).bind fun a=>(mb ρ).bind fun b=>mq kvs a b:=rfl
noncomputable def Gu (kvs:List (Int × Int)):ag -> OD:=fun _=>.ok (.di (kvs.map fun p=>(p.1,.int p.2)))
noncomputable def qQ (neg:Bool) (me:ag -> OE) (i:Nat) (mp:MP):ag -> OE:=fun ρ=>(me ρ).bind fun r=>match r.pv with
 | .int n=>(match subAt i mp ρ with
   | some (.di kvs)=>.ok (.sh (.bl (if neg then !(kvs.lookup n).isSome else (kvs.lookup n).isSome)))
   | _=>.bad)
 | _=>.bad
noncomputable def zw (i:Nat) (mp:MP) (me:ag -> OE):ag -> OE:=fun ρ=>match subAt i mp ρ with
 | some (.di kvs)=>(me ρ).bind fun r=>(match r.pv with
   | .int n=>oE ((kvs.lookup n).map .sh)
   | _=>.bad)
 | _=>.bad
noncomputable def LI:PV -> Option RV
 | .int i=>some (.sh (.int (if i < 0 then -i else i)))
 | _=>none
@[simp] theorem K5 (i:Int):LI (.int i) = some (.sh (.int (if i < 0 then -i else i))):=rfl
end L2.P
namespace L2
open PySem PySem.Spec PyProof.Rows
end L2
namespace L2.E
open PySem PySem.Spec PyProof.Rows L2
section
variable {X:Cx}
noncomputable def zI (K:PySem.W.Frag) (td te tf:TE):TE:=fun σ H Q=>td σ H fun x H1=>∃ d kvs,x = .ref d /\ DKI K d kvs /\ te σ H1 fun y H2=>tf σ H2 fun z H3=>∃ n,y = .int n /\ Q ((kvs.lookup n).getD z) H3
theorem Ap {o e f:Expr} {td te tf:TE} {apos cpos:Pos} (ho:QE X o td) (he:QE X e te) (hf:QE X f tf) (hbase:attributeBase o "get" X.env (eval o X.env) = eval o X.env:=by rfl)
  (few:((backTo cpos (starEach [e,f] X.env)).all (fun x=>!x.1) && (backToKw cpos (keywordEach [] X.env)).all (fun x=>x.1.isSome) && decide (([e,f]:List Expr).length + ([]:List Keyword).length + (if ([]:List Keyword).isEmpty then 0 else 1) <= 15)) = true:=by rfl)
  (line:(apos.endLine == cpos.line) = true:=by rfl) (trees:backTo cpos (starEach [e,f] X.env) = [(false,eval e X.env),(false,eval f X.env)]:=by rfl):QE X (.Call (.Attribute o "get" apos) [e,f] [] cpos) (zI X.K td te tf):=⟨by
 intro pins s σ H Q I h
 refine wpAny_Call_method hbase few line PySem.F.plainAttrs_dict PySem.F.slot_dict_get PySem.F.type_dict_get (thn (ho.out pins s σ H _ I h) fun u s1 ⟨x,H1,I1,rx,d,kvs,ex,D,q1⟩=>?_)
 subst ex
 obtain rfl:u = Value.ref d:=rx
 obtain ⟨us,dd,hv⟩:=D.at I1
 obtain ⟨_,nd,es,ep,hk,pr⟩:=id D
 refine ⟨dd.typeIs,fun b hb=>by cases hb; exact ⟨_,I1.kIn d _ hk,rfl⟩,?_⟩
 rw [trees]
 refine Calls.callWith_builtin rfl (Calls.evalArgs_plain (Calls.spliced_cons (thn (he.out pins s1 σ H1 _ I1 q1) fun iv s2 ⟨y,H2,I2,ry,q2⟩=>Calls.spliced_cons (thn (hf.out pins s2 σ H2 _ I2 q2) fun fv s3 ⟨z,H3,I3,rz,n,ey,q3⟩=>Calls.spliced_nil ?_))))
 subst ey
 obtain ⟨t,rfl⟩:=ry
 obtain ⟨us2,dd2,hv2⟩:=D.at I3
 refine call_meetsIn PySem.F.slot_dict_get dd2.typeIs PySem.F.entry_dict_get (PySem.F.args_dict_get_3 _ _ _) (meets_dict_get_default (intKind X.prog X.w) d (k:=n) (key:=.int n t) (by show Value.isInt n (.int n t) = true; simp [Value.isInt]) D.1 fv) ⟨_,dd2.mapOf,_,H3,I3.tok _,?_,q3⟩
 have h2:=hv2 n
 cases q:kvs.lookup n with
 | none=>rw [q] at h2; rw [h2]; exact rz
 | some v=>rw [q] at h2; obtain ⟨u,e,r⟩:=h2; rw [e]; exact r⟩
end
end L2.E
namespace L2.P
open PySem PySem.Spec PyProof.Rows L2 L2.E
section
variable {K:PySem.W.Frag} {cls:String -> Option Addr} {W:XW} {S:Hp}
theorem AW {d:Addr} {kvs:List (Int × PV)} {ta tb:TE} {ma mb:ag -> OE} (D:DKP K d kvs) (ha:JE K cls W ta ma) (hb:JE K cls W tb mb):JE K cls W (zI K (tC (.ref d)) ta tb) (uV kvs ma mb):=by
 intro Av G S₀ ρ σ S H Q I p
 obtain ⟨us,D1,pr⟩:=D
 refine ⟨d,us,rfl,D1,?_⟩
 refine ha.go I p fun a v S1 H1 I1 w1 r1 p1=>hb.go I1 p1 fun b u S2 H2 I2 w2 r2 p2=>?_
 have ra:=(r1.rd I1.sh).mono w2.s w2.g
 cases e:a.pv with
 | int n=>
   rw [e] at ra
   have:=DKP.look (d:=d) pr n
   cases b with
   | fr xs=>unfold mq at p2; rw [e] at p2; exact p2.elim
   | al xs=>unfold mq at p2; rw [e] at p2; exact p2.elim
   | sh x=>
     unfold mq at p2
     rw [e] at p2
     refine ⟨n,dv ra,?_⟩
     cases q:kvs.lookup n with
     | none=>
       simp only [q] at p2 this
       rw [this]
       exact p2 _ S2 H2 (bw.refl I2.sh) r2
     | some y=>
       simp only [q] at p2 this
       obtain ⟨u,eu,hr⟩:=this
       rw [eu]
       exact p2 _ S2 H2 (bw.refl I2.sh) (hr S2)
 | _=>unfold mq at p2; rw [e] at p2; exact p2.elim
end
end L2.P
namespace L2.E
open PySem PySem.Spec PyProof.Rows L2
section
variable {X:Cx} {o i:Expr} {td ty:TE} {pos:Pos}
theorem G8 (hu:X.A.units + 1 < cLine) (hi:QE X i ty) (ho:QE X o td) (h1:behindInMarks .In o = false:=by first | exact xF _ (by decide) (by decide) | rfl):QT X (.Compare i [.In] [o] pos) (tB (Iu ty td)):=⟨IK (GX hu hi.out ho.out) h1⟩
theorem Ex (hu:X.A.units + 1 < cLine) (ho:QE X o td) (hi:QE X i ty) (hs:Ih i):QE X (.Subscript o i pos) (Dq td ty):=⟨Eh hu ho.out hi.out hs⟩
structure QPs (X:Cx) (pos:Pos) (keys:List (Option Expr)) (values:List Expr) (trs:List (TE × TE)):Prop where
 out:PPs X pos keys values trs
theorem Ee:QPs X pos [] [] []:=⟨EH⟩
theorem kT {k v:Expr} {ks:List (Option Expr)} {vs:List Expr} {tk tv:TE} {trs:List (TE × TE)} (hk:QE X k tk) (hv:QE X v tv) (hr:QPs X pos ks vs trs):QPs X pos (some k ::ks) (v ::vs) ((tk,tv) ::trs):=⟨Cb hk.out hv.out hr.out⟩
theorem Fe {keys:List (Option Expr)} {values:List Expr} {trs:List (TE × TE)} (h:QPs X pos keys values trs) (hall:keys.all (·.isSome) = true:=by rfl) (hl:keys.length = values.length:=by rfl) (h0:keys ≠ []:=by intro z; cases z) (h15:keys.length <= 15:=by decide):QE X (.Dict keys values pos) (CK trs):=⟨Fb h.out hall hl h0 h15⟩
end
end L2.E
namespace L2.P
open PySem PySem.Spec PyProof.Rows L2 L2.E
section
variable {K:PySem.W.Frag} {cls:String -> Option Addr} {W:XW} {S H:Hp}
theorem xM (kvs:List (Int × Int)) (σ:St):∀ (H:Hp) (R:List (V × V) -> Hp -> Prop),R (kvs.map fun p=>(.int p.1,.int p.2)) H -> vF (kvs.map fun p=>(tC (.int p.1),tC (.int p.2))) σ H R:=by
 induction kvs with
 | nil=>intro H R h; exact h
 | cons p kvs ih=>intro H R h; exact ih H _ h
theorem Ai (more:List (Key × V)):∀ kvs:List (Key × V),((kvs ++ more).map (·.1)).Nodup -> n4 kvs more = kvs ++ more:=by
 induction more with
 | nil=>intro kvs _; simp [n4]
 | cons p more ih=>
   intro kvs h
   have hn:lH kvs p.1 = none:=by
    unfold lH
    rw [Option.map_eq_none_iff,List.find?_eq_none]
    intro q hq e
    have e':q.1 = p.1:=of_decide_eq_true e
    rw [List.map_append,List.nodup_append] at h
    exact h.2.2 q.1 (List.mem_map_of_mem hq) p.1 (by simp) e'
   show n4 (putK kvs p.1 p.2) more = _
   rw [CT _ hn,ih _ (by simpa using h)]
   simp
theorem HK {kvs:List (Int × Int)} (nd:(kvs.map (·.1)).Nodup) (h15:kvs.length <= 15):JD K cls W (CK (kvs.map fun p=>(tC (.int p.1),tC (.int p.2)))) (Gu kvs):=by
 intro Av G S₀ ρ σ S H Q I p
 intro q hq
 refine xM kvs σ _ _ ⟨bc,kvs.map fun p=>(Sum.inl p.1,V.int p.2),by simp [kV],by simpa using h15,?_⟩
 rw [D5,Ai _ [] (by
  rw [List.nil_append,List.map_map]
  have:((fun x:Key × V=>x.1) ∘ fun p:Int × Int=>((Sum.inl p.1:Key),V.int p.2)) = (fun k:Int=>(Sum.inl k:Key)) ∘ fun p:Int × Int=>p.1:=rfl
  rw [this,<- List.map_map]
  exact List.pairwise_map.mpr (List.Pairwise.imp (fun h z=>h (Sum.inl.inj z)) nd)),List.nil_append]
 refine p (.ref q) S _ (bw.heap I.sh hq) ⟨[q],?_,by simp,fun a ha=>?_⟩
 . unfold bI
   refine ⟨q,_,rfl,bc,rfl,?_⟩
   clear nd h15 p
   induction kvs with
   | nil=>exact .nil
   | cons x kvs ih=>exact .cons ⟨rfl,by unfold Rep; rfl⟩ ih
 . have z:a = q:=by simpa using ha
   subst z
   exact ⟨hq,I.sh.free hq⟩
theorem uU.look {kvs:List (Int × PV)} {us:List (Key × V)} (h:uU K S kvs us) (n:Int):match kvs.lookup n with
  | some x=>∃ v,lH us (Sum.inl n:Key) = some v /\ Rep K S x v
  | none=>lH us (Sum.inl n:Key) = none:=by
 induction h with
 | nil=>rfl
 | @cons p q ps qs h t ih=>
   obtain ⟨h1,h2⟩:=h
   obtain ⟨k,x⟩:=p
   obtain ⟨k',v⟩:=q
   dsimp only at h1 h2
   subst h1
   by_cases hm:n = k
   . subst hm
     simp [List.lookup,lH]
     exact h2
   . have hb:(n == k) = false:=by simpa using hm
     have hd:decide ((Sum.inl k:Key) = Sum.inl n) = false:=decide_eq_false fun z=>hm (Sum.inl.inj z).symm
     simp only [List.lookup,hb]
     have e:lH ((Sum.inl k,v) ::qs) (Sum.inl n:Key) = lH qs (Sum.inl n):=by
      unfold lH
      rw [List.find?_cons,hd]
     rw [e]
     exact ih
theorem uU.E0 {kvs:List (Int × PV)} {us:List (Key × V)} (h:uU K S kvs us) (n:Int):(lH us (Sum.inl n:Key)).isSome = (kvs.lookup n).isSome:=by
 have:=h.look n
 cases q:kvs.lookup n with
 | none=>rw [q] at this; rw [this]; rfl
 | some x=>rw [q] at this; obtain ⟨v,e,_⟩:=this; rw [e]; rfl
theorem En {i:Nat} {ta td:TE} {ma:ag -> OE} {mp:MP} (ha:JE K cls W ta ma) (hp:JP K cls td i mp):JE K cls W (Iu ta td) (qQ false ma i mp):=by
 intro Av G S₀ ρ σ S H Q I p
 refine ha.go I p fun a v S1 H1 I1 w1 r1 p1=>?_
 have ra:=r1.rd I1.sh
 cases e:a.pv with
 | int n=>
   rw [e] at p1 ra
   dsimp only at p1
   split at p1
   . rename_i kvs es
     refine hp.sub I1 es fun w S2 H2 f w2 _ r=>?_
     unfold bI at r
     obtain ⟨q,us,rfl,hq,_,hd⟩:=r
     have hv:=dv ra
     subst hv
     refine ⟨q,_,rfl,uT.k (k:=Sum.inl n) hq,?_⟩
     rw [hd.E0 n]
     exact p1 _ S2 H2 w2 kO
   . exact p1.elim
 | _=>rw [e] at p1; exact p1.elim
theorem E9 {i:Nat} {ta td:TE} {ma:ag -> OE} {mp:MP} (hp:JP K cls td i mp) (ha:JE K cls W ta ma):JE K cls W (Dq td ta) (zw i mp ma):=by
 intro Av G S₀ ρ σ S H Q I p
 unfold zw at p
 split at p
 . rename_i kvs es
   refine hp.sub I es fun w S2 H2 f w2 I2 r=>?_
   refine ha.go I2 (p.back w2) fun a v S1 H1 I1 w1 r1 p1=>?_
   have ra:=r1.rd I1.sh
   have r':=r.mono w1.s fun a _ o z=>w1.g _ _ z
   unfold bI at r'
   obtain ⟨q,us,rfl,hq,_,hd⟩:=r'
   cases e:a.pv with
   | int n=>
     rw [e] at p1 ra
     dsimp only at p1
     have hv:=dv ra
     subst hv
     have hl:=hd.look n
     cases el:kvs.lookup n with
     | none=>rw [el] at p1; exact p1.elim
     | some x=>
       rw [el] at p1 hl
       obtain ⟨u,eu,ru⟩:=hl
       refine ⟨q,u,rfl,by have:=uT.k (k:=(Sum.inl n:Key)) hq; rw [eu] at this; exact this,p1 u S1 H1 (bw.refl I1.sh) ru⟩
   | _=>rw [e] at p1; exact p1.elim
 . exact p.elim
end
end L2.P
namespace L2.E
open PySem PySem.Spec PyProof.Rows L2
end L2.E
namespace L2.P
open PySem PySem.Spec PyProof.Rows L2 L2.E
end L2.P
namespace PG
noncomputable def dJ (n:Int):Bool:=(decide (0 <= n) && decide (n < 55296)) || (decide (57343 < n) && decide (n <= 1114111))
noncomputable def aW (n:Int):List Int:=if n < 128 then [n] else if n < 2048 then [192 + n / 64,128 + n % 64] else if n < 65536 then [224 + n / 4096,128 + n / 64 % 64,128 + n % 64] else [240 + n / 262144,128 + n / 4096 % 64,128 + n / 64 % 64,128 + n % 64]
noncomputable def cell (ns:List Int) (k:Int):Int:=if ns = [] then 0 else ns.getD (k % (ns.length:Int)).toNat 0
noncomputable def mix (ns:List Int) (k:Int):Int:=
 let a:=(cell ns k + 104729 * (k + 1)) % 4294967291
 let b:=a * 48271 % 4294967279
 (b / 64 * 69621 + b) % 4294967231
noncomputable def menu:List Int:=[34,92,47,8,12,10,13,9,0,31,127]
noncomputable def point (n:Int):Int:=
 if n % 8 < 2 then 32 + n / 8 % 95 else if n % 8 < 4 then menu.getD (n / 8 % 11).toNat 0 else if n % 8 = 4 then 128 + n / 8 % 1920
 else if n % 8 = 5 then 2048 + n / 8 % 53248 else if n % 8 = 6 then 57344 + n / 8 % 8192 else 65536 + n / 8 % 1048576
noncomputable def tj (ns:List Int) (k:Int):Int:=if mix ns k / 5 % 8 = 3 then mix ns k / 40 % 14 else mix ns k % 5
noncomputable def points (ns:List Int) (k:Int):List Int:=(List.range (tj ns k).toNat).map fun j:Nat=>point (mix ns (k + 1 + (j:Int)))
theorem u7 (ns:List Int) (k:Int):0 <= mix ns k /\ mix ns k < 4294967231:=by unfold mix; dsimp only; omega
theorem xk (ns:List Int) (k:Int):0 <= tj ns k /\ tj ns k < 14:=by
 have:=u7 ns k
 unfold tj; split <;> omega
theorem DX (i:Nat) (h:i < 11):0 <= menu.getD i 0 /\ menu.getD i 0 < 128:=by
 revert h; revert i; decide
theorem Dp (n:Int):dJ (point n) = true:=by
 unfold point dJ
 have h11:=DX (n / 8 % 11).toNat (by omega)
 simp only [Bool.or_eq_true,Bool.and_eq_true,decide_eq_true_eq]
 split
 . omega
 . split
   . omega
   . split
     . omega
     . split
       . omega
       . split <;> omega
theorem Au (ns:List Int) (k:Int):(points ns k).all dJ = true:=by
 rw [List.all_eq_true]
 intro x hx
 unfold points at hx
 obtain ⟨j,_,rfl⟩:=List.mem_map.mp hx
 exact Dp _
theorem yN (ns:List Int) (k:Int):(points ns k).length < 14:=by
 have:=xk ns k
 unfold points
 rw [List.length_map,List.length_range]
 omega
end PG
namespace PG
noncomputable def pL (b:Int):Int × Int:=if b = 224 then (160,191) else if b = 237 then (128,159) else (128,191)
noncomputable def oO (b:Int):Int × Int:=if b = 240 then (144,191) else if b = 244 then (128,143) else (128,191)
noncomputable def spans (b:Int):Option (List (Int × Int)):=if 0 <= b /\ b < 128 then some [] else if 194 <= b /\ b < 224 then some [(128,191)] else if 224 <= b /\ b < 240 then some [pL b,(128,191)] else if 240 <= b /\ b < 245 then some [oO b,(128,191),(128,191)] else none
noncomputable def eat:List (Int × Int) -> List Int -> Option Nat
 | [],_=>none
 | _ ::_,[]=>some 0
 | s ::ss,c ::cs=>if s.1 <= c /\ c <= s.2 then (eat ss cs).map (· + 1) else some 0
noncomputable def eI:List (Int × Int) -> Int -> List Int -> Int
 | [],_,[]=>-1
 | _ ::_,k,[]=>k
 | s ::ws,k,b ::r=>if s.1 <= b /\ b <= s.2 then eI ws (k + 1) r else k
 | [],k,b ::r=>match spans b with
   | some ws=>eI ws (k + 1) r
   | none=>k
theorem tF:∀ (ss:List (Int × Int)) (k:Int) (cs:List Int),eI ss k cs = match eat ss cs with
  | some j=>k + j
  | none=>eI [] (k + ss.length) (cs.drop ss.length)
 | [],k,cs=>by simp [eat]
 | s ::ss,k,[]=>by simp [eI,eat]
 | s ::ss,k,c ::cs=>by
   have ih:=tF ss (k + 1) cs
   by_cases h:s.1 <= c /\ c <= s.2
   . simp only [eI,eat,h,and_self,if_true]
     rw [ih]
     cases e:eat ss cs with
     | none=>simp; congr 1; omega
     | some j=>show k + 1 + (j:Int) = k + ((j + 1:Nat):Int); omega
   . simp [eI,eat,h]
noncomputable def mark (k:Nat):Int:=[0,192,224,240].getD k 0
noncomputable def val (b:Int) (cs:List Int):Int:=cs.foldl (fun n c=>n * 64 + c - 128) (b - mark cs.length)
theorem v8:∀ (ss:List (Int × Int)) (cs:List Int),eat ss cs = none -> ss.length <= cs.length
 | [],cs,_=>by simp
 | s ::ss,[],h=>by simp [eat] at h
 | s ::ss,c ::cs,h=>by
   by_cases hc:s.1 <= c /\ c <= s.2
   . simp only [eat,hc,and_self,if_true,Option.map_eq_none_iff] at h
     have:=v8 ss cs h
     simp; omega
   . simp [eat,hc] at h
theorem wJ {b:Int} {ss:List (Int × Int)} {cs:List Int} (hs:spans b = some ss) (he:eat ss cs = none):dJ (val b (cs.take ss.length)) = true /\ aW (val b (cs.take ss.length)) = b ::cs.take ss.length /\ ss.length <= 3:=by
 unfold spans at hs
 split at hs
 . cases hs
   rename_i h
   refine ⟨?_,?_,by simp⟩
   . simp [val,mark,dJ]; omega
   . simp [val,mark,aW]; omega
 split at hs
 . cases hs
   rename_i h1 h
   match cs,he with
   | [],he=>simp [eat] at he
   | c ::cs,he=>
     have hc:128 <= c /\ c <= 191:=by
      by_cases hc:128 <= c /\ c <= 191
      . exact hc
      . simp [eat,hc] at he
     refine ⟨?_,?_,by simp⟩
     . simp [val,mark,dJ]; omega
     . have e1:¬ (b - 192) * 64 + c - 128 < 128:=by omega
       have e2:(b - 192) * 64 + c - 128 < 2048:=by omega
       simp [val,mark,aW,e1,e2]; omega
 split at hs
 . cases hs
   rename_i h1 h2 h
   match cs,he with
   | [],he=>simp [eat] at he
   | [c],he=>
     exfalso
     by_cases hc:(pL b).1 <= c /\ c <= (pL b).2 <;> simp [eat,hc] at he
   | c ::d ::cs,he=>
     have hc:(pL b).1 <= c /\ c <= (pL b).2:=by
      by_cases hc:(pL b).1 <= c /\ c <= (pL b).2
      . exact hc
      . simp [eat,hc] at he
     have hd:128 <= d /\ d <= 191:=by
      by_cases hd:128 <= d /\ d <= 191
      . exact hd
      . simp [eat,hc,hd] at he
     have hb:128 <= c /\ c <= 191 /\ (b = 224 -> 160 <= c) /\ (b = 237 -> c <= 159):=by
      unfold pL at hc
      split at hc
      . simp at hc; omega
      . split at hc
        . simp at hc; omega
        . simp at hc; omega
     refine ⟨?_,?_,by simp⟩
     . simp [val,mark,dJ]; omega
     . have e1:¬ ((b - 224) * 64 + c - 128) * 64 + d - 128 < 128:=by omega
       have e2:¬ ((b - 224) * 64 + c - 128) * 64 + d - 128 < 2048:=by omega
       have e3:((b - 224) * 64 + c - 128) * 64 + d - 128 < 65536:=by omega
       simp [val,mark,aW,e1,e2,e3]; omega
 split at hs
 . cases hs
   rename_i h1 h2 h3 h
   match cs,he with
   | [],he=>simp [eat] at he
   | [c],he=>
     exfalso
     by_cases hc:(oO b).1 <= c /\ c <= (oO b).2 <;> simp [eat,hc] at he
   | [c,d],he=>
     exfalso
     by_cases hc:(oO b).1 <= c /\ c <= (oO b).2 <;> by_cases hd:128 <= d /\ d <= 191 <;> simp [eat,hc,hd] at he
   | c ::d ::e ::cs,he=>
     have hc:(oO b).1 <= c /\ c <= (oO b).2:=by
      by_cases hc:(oO b).1 <= c /\ c <= (oO b).2
      . exact hc
      . simp [eat,hc] at he
     have hd:128 <= d /\ d <= 191:=by
      by_cases hd:128 <= d /\ d <= 191
      . exact hd
      . simp [eat,hc,hd] at he
     have hE:128 <= e /\ e <= 191:=by
      by_cases hE:128 <= e /\ e <= 191
      . exact hE
      . simp [eat,hc,hd,hE] at he
     have hb:128 <= c /\ c <= 191 /\ (b = 240 -> 144 <= c) /\ (b = 244 -> c <= 143):=by
      unfold oO at hc
      split at hc
      . simp at hc; omega
      . split at hc
        . simp at hc; omega
        . simp at hc; omega
     refine ⟨?_,?_,by simp⟩
     . simp [val,mark,dJ]; omega
     . have e1:¬ (((b - 240) * 64 + c - 128) * 64 + d - 128) * 64 + e - 128 < 128:=by omega
       have e2:¬ (((b - 240) * 64 + c - 128) * 64 + d - 128) * 64 + e - 128 < 2048:=by omega
       have e3:¬ (((b - 240) * 64 + c - 128) * 64 + d - 128) * 64 + e - 128 < 65536:=by omega
       simp [val,mark,aW,e1,e2,e3]; omega
 cases hs
theorem iD {n:Int} (h:dJ n = true):0 <= n /\ n <= 1114111:=by
 unfold dJ at h
 simp only [Bool.or_eq_true,Bool.and_eq_true,decide_eq_true_eq] at h
 omega
theorem AR {n m:Int} {r q:List Int} (hn:dJ n = true) (hm:dJ m = true) (h:aW n ++ r = aW m ++ q):n = m /\ r = q:=by
 have rn:=iD hn
 have rm:=iD hm
 unfold aW at h
 by_cases a1:n < 128 <;> by_cases b1:m < 128 <;> by_cases a2:n < 2048 <;> by_cases b2:m < 2048 <;> by_cases a3:n < 65536 <;> by_cases b3:m < 65536 <;>
  simp only [a1,a2,a3,b1,b2,b3,if_true,if_false,List.cons_append,List.nil_append,List.cons.injEq] at h <;>
  first
   | (exfalso; omega)
   | exact ⟨by omega,by first | exact h.2 | exact h.2.2 | exact h.2.2.2 | exact h.2.2.2.2⟩
theorem x6:∀ {l m:List Int},l.all dJ = true -> m.all dJ = true -> l.flatMap aW = m.flatMap aW -> l = m
 | [],[],_,_,_=>rfl
 | [],b ::m,_,_,h=>by
   exfalso
   rw [List.flatMap_nil,List.flatMap_cons] at h
   have:aW b = []:=(List.append_eq_nil_iff.mp h.symm).1
   unfold aW at this
   repeat' split at this
   all_goals simp at this
 | a ::l,[],_,_,h=>by
   exfalso
   rw [List.flatMap_nil,List.flatMap_cons] at h
   have:aW a = []:=(List.append_eq_nil_iff.mp h).1
   unfold aW at this
   repeat' split at this
   all_goals simp at this
 | a ::l,b ::m,h1,h2,h=>by
   rw [List.all_cons,Bool.and_eq_true] at h1 h2
   rw [List.flatMap_cons,List.flatMap_cons] at h
   obtain ⟨e1,e2⟩:=AR h1.1 h2.1 h
   rw [e1,x6 h1.2 h2.2 e2]
end PG
namespace L2.P
open PySem
@[simp] theorem FU (s:String):(Str.ofString s).cps.all (· < 0x110000) = true:=by
  rw [Str.ofString_eq_toList,List.all_toArray,List.all_map]
  rw [List.all_eq_true]
  intro c _
  have:=c.valid
  simp only [Function.comp,decide_eq_true_eq]
  rcases this with h | ⟨_,h⟩
  . exact Nat.lt_of_lt_of_le h (by decide)
  . exact h
theorem toNat_inj:∀ (xs ys:List Char),xs.map Char.toNat = ys.map Char.toNat -> xs = ys
 | [],[],_=>rfl
 | [],_ ::_,h=>by cases h
 | _ ::_,[],h=>by cases h
 | x ::xs,y ::ys,h=>by
   rw [List.map_cons,List.map_cons] at h
   injection h with h1 h2
   have:x = y:=Char.ext (UInt32.toNat_inj.mp h1)
   rw [this,toNat_inj xs ys h2]
theorem aN (a b:String):Str.ofString a = Str.ofString b ↔ a = b:=by
 constructor
 . intro h
   rw [Str.ofString_eq_toList,Str.ofString_eq_toList] at h
   injection h with h
   have h2:a.toList.map Char.toNat = b.toList.map Char.toNat:=by
    have:=congrArg Array.toList h
    simpa using this
   exact String.toList_inj.mp (toNat_inj _ _ h2)
 . intro h; rw [h]
@[simp] theorem E1 (a b:String):(Str.ofString a == Str.ofString b) = decide (a = b):=by
  by_cases h:a = b
  . subst h; simp
  . have:Str.ofString a ≠ Str.ofString b:=fun z=>h ((aN a b).mp z)
    simp [h,this]
@[simp] theorem KR (a b:String):kJ (.str (Str.ofString a)) (.str (Str.ofString b)) = decide (a = b):=by simp [kJ]
@[simp] theorem K4 (a:String) (n:Nat):Hr (.str (Str.ofString a)) n = true:=by simp [Hr]
end L2.P
namespace L2.P
open PySem
theorem GS (n:Nat):ixP (n + 1) (-1) = some n:=by
 unfold ixP
 rw [if_neg (by decide),if_pos (by omega)]
 congr 1
 omega
@[simp] theorem get_nil (t:OV):t.get [] = some t:=by cases t <;> rfl
@[simp] theorem Kq (t u:OV):t.put [] u = u:=by cases t <;> rfl
end L2.P
namespace L2.P
open PySem
end L2.P
namespace PG
open L2.P PySem
inductive It where
 | sp (lo hi:Int) | white | value | lead | figures | fraction | exponent | sign | text | escape | code | coded | hex | hexd | hexcf | row | mrow | fields | mfields | name
 deriving DecidableEq
noncomputable def bg:It -> PV
 | .sp lo hi=>.tup [.int lo,.int hi]
 | .white=>.str "white" | .value=>.str "value" | .lead=>.str "lead" | .figures=>.str "figures" | .fraction=>.str "fraction" | .exponent=>.str "exponent" | .sign=>.str "sign"
 | .text=>.str "text" | .escape=>.str "escape" | .code=>.str "code" | .coded=>.str "code d" | .hex=>.str "hex" | .hexd=>.str "hex d" | .hexcf=>.str "hex c to f"
 | .row=>.str "row" | .mrow=>.str "more row" | .fields=>.str "fields" | .mfields=>.str "more fields" | .name=>.str "name"
noncomputable def loose:It -> Bool
 | .white=>true | .figures=>true | .fraction=>true | .exponent=>true | .sign=>true
 | _=>false
noncomputable def opn:It -> Bool
 | .row=>true | .mrow=>true | .fields=>true | .mfields=>true
 | _=>false
noncomputable def wht (b:Int):Bool:=decide (9 = b) || (decide (10 = b) || (decide (13 = b) || decide (32 = b)))
noncomputable def fig (b:Int):Bool:=decide (48 <= b) && decide (b <= 57)
noncomputable def dM (b:Int):Option Int:=if 48 <= b /\ b <= 57 then some (b - 48) else if 65 <= b /\ b <= 70 then some (b - 55) else if 97 <= b /\ b <= 102 then some (b - 87) else none
noncomputable def mx (b:Int):Option (List It):=if b = 48 then some [.fraction,.exponent] else if 48 <= b /\ b <= 57 then some [.figures,.fraction,.exponent] else none
noncomputable def nP (b:Int):Option (List It):=
 if b = 91 then some [.white,.row] else if b = 123 then some [.white,.fields] else if b = 34 then some [.text] else if b = 45 then some [.lead]
 else if b = 110 then some [.sp 117 117,.sp 108 108,.sp 108 108] else if b = 116 then some [.sp 114 114,.sp 117 117,.sp 101 101] else if b = 102 then some [.sp 97 97,.sp 108 108,.sp 115 115,.sp 101 101]
 else mx b
noncomputable def sJ:List It:=[.white,.sp 58 58,.white,.value,.white,.mfields]
noncomputable def tls (b:Int):Option (List It):=
 if 0 <= b /\ b < 128 then some [] else if 194 <= b /\ b < 224 then some [.sp 128 191]
 else if 224 <= b /\ b < 240 then some [if b = 224 then .sp 160 191 else if b = 237 then .sp 128 159 else .sp 128 191,.sp 128 191]
 else if 240 <= b /\ b < 245 then some [if b = 240 then .sp 144 191 else if b = 244 then .sp 128 143 else .sp 128 191,.sp 128 191,.sp 128 191]
 else none
noncomputable def qA (b:Int):Option (List It):=if b = 34 then some [] else if b = 92 then some [.escape,.text] else if b < 32 then none else (tls b).map (· ++ [.text])
noncomputable def vv (b:Int):Bool:=b = 34 || b = 92 || b = 47 || b = 98 || b = 102 || b = 110 || b = 114 || b = 116
noncomputable def Dy (b:Int):Option (List It):=if b = 117 then some [.code] else if vv b then some [] else none
noncomputable def yA (w:Int):Option (List It):=if w < 8 then some [.hex,.hex] else if w < 12 then some [.hex,.hex,.sp 92 92,.sp 117 117,.hexd,.hexcf,.hex,.hex] else none
noncomputable def bh:It -> Int -> Option (List It)
 | .sp lo hi,b=>if lo <= b /\ b <= hi then some [] else none
 | .white,b=>if wht b then some [.white] else none
 | .value,b=>nP b
 | .lead,b=>mx b
 | .figures,b=>if 48 <= b /\ b <= 57 then some [.figures] else none
 | .fraction,b=>if b = 46 then some [.sp 48 57,.figures] else none
 | .exponent,b=>if b = 101 \/ b = 69 then some [.sign,.sp 48 57,.figures] else none
 | .sign,b=>if b = 43 \/ b = 45 then some [] else none
 | .text,b=>qA b
 | .escape,b=>Dy b
 | .code,b=>(dM b).bind fun w=>if w = 13 then some [.coded] else some [.hex,.hex,.hex]
 | .coded,b=>(dM b).bind yA
 | .hex,b=>(dM b).map fun _=>[]
 | .hexd,b=>(dM b).bind fun w=>if w = 13 then some [] else none
 | .hexcf,b=>(dM b).bind fun w=>if 12 <= w then some [] else none
 | .row,b=>if b = 93 then some [] else (nP b).map (· ++ [.white,.mrow])
 | .mrow,b=>if b = 44 then some [.white,.value,.white,.mrow] else if b = 93 then some [] else none
 | .fields,b=>if b = 125 then some [] else if b = 34 then some (.text ::sJ) else none
 | .mfields,b=>if b = 44 then some (.white ::.name ::sJ) else if b = 125 then some [] else none
 | .name,b=>if b = 34 then some [.text] else none
noncomputable def cnt (st:List It):Nat:=(st.filter opn).length
noncomputable def gon:List It -> Int -> List It × Bool
 | [],_=>([],false)
 | it ::st,b=>match bh it b with
   | some l=>(l ++ st,decide (cnt (l ++ st) <= 64))
   | none=>if loose it then gon st b else (st,false)
noncomputable def tk:List It -> List Int -> List It × Nat
 | st,[]=>(st,0)
 | st,b ::r=>if (gon st b).2 then ((tk (gon st b).1 r).1,(tk (gon st b).1 r).2 + 1) else ((gon st b).1,0)
noncomputable def st0:List It:=[.white,.value,.white]
noncomputable def flt (row:List Int):Option Nat:=if (tk st0 row).2 = row.length /\ (tk st0 row).1.all loose = true then none else some (tk st0 row).2
noncomputable def wk (st:List It):OV:=.ob "Walk" ["coming"] [.ol ((st.reverse.map bg).map .sh)]
theorem B8 (it:It) (b:Int) (l:List It) (h:bh it b = some l):l.length <= 8:=by
 have hv:∀ l,nP b = some l -> l.length <= 5:=by
  intro l h
  unfold nP mx at h
  repeat' split at h
  all_goals (first | (cases h; done) | (injection h with h; subst h; decide))
 have ht:∀ l,tls b = some l -> l.length <= 5:=by
  intro l h
  unfold tls at h
  repeat' split at h
  all_goals (first | (cases h; done) | (injection h with h; subst h; simp))
 cases it with
 | value=>exact Nat.le_trans (hv l h) (by decide)
 | row=>
   simp only [bh] at h
   split at h
   . injection h with h; subst h; decide
   . cases e:nP b with
     | none=>rw [e] at h; cases h
     | some l'=>rw [e] at h; injection h with h; subst h; have:=hv l' e; simp; omega
 | text=>
   simp only [bh,qA] at h
   repeat' split at h
   all_goals first | (cases h; done) | (injection h with h; subst h; decide) | skip
   cases e:tls b with
   | none=>rw [e] at h; cases h
   | some l'=>rw [e] at h; injection h with h; subst h; have:=ht l' e; simp; omega
 | code=>
   simp only [bh] at h
   cases e:dM b with
   | none=>rw [e] at h; cases h
   | some w=>rw [e] at h; simp only [Option.bind_some] at h; split at h <;> (injection h with h; subst h; decide)
 | coded=>
   simp only [bh] at h
   cases e:dM b with
   | none=>rw [e] at h; cases h
   | some w=>
     rw [e] at h; simp only [Option.bind_some,yA] at h
     repeat' split at h
     all_goals first | (cases h; done) | (injection h with h; subst h; decide)
 | hex=>
   simp only [bh] at h
   cases e:dM b with
   | none=>rw [e] at h; cases h
   | some w=>rw [e] at h; injection h with h; subst h; simp
 | hexd=>
   simp only [bh] at h
   cases e:dM b with
   | none=>rw [e] at h; cases h
   | some w=>rw [e] at h; simp only [Option.bind_some] at h; split at h <;> first | (cases h; done) | (injection h with h; subst h; decide)
 | hexcf=>
   simp only [bh] at h
   cases e:dM b with
   | none=>rw [e] at h; cases h
   | some w=>rw [e] at h; simp only [Option.bind_some] at h; split at h <;> first | (cases h; done) | (injection h with h; subst h; decide)
 | _=>
   simp only [bh,mx,Dy,sJ] at h
   repeat' split at h
   all_goals first | (cases h; done) | (injection h with h; subst h; decide)
theorem zu (st:List It) (b:Int):(gon st b).1.length <= st.length + 8:=by
 induction st with
 | nil=>simp [gon]
 | cons it st ih=>
   unfold gon
   cases e:bh it b with
   | some l=>have:=B8 it b l e; simp; omega
   | none=>
     dsimp only
     split
     . simp; omega
     . simp; omega
end PG
namespace PG
inductive Sg where
 | pl (p:Int) | sh (c p:Int) | hx (a b c d:Int) | pr (a b c d e f g h:Int)
noncomputable def pts:Sg -> List Int
 | .pl p=>[p]
 | .sh c _=>[92,c]
 | .hx a b c d=>[92,117,a,b,c,d]
 | .pr a b c d e f g h=>[92,117,a,b,c,d,92,117,e,f,g,h]
noncomputable def hv (b:Int):Int:=(dM b).getD 0
noncomputable def cod (a b c d:Int):Int:=16 * (16 * (16 * hv a + hv b) + hv c) + hv d
noncomputable def rh:Sg -> Int
 | .pl p=>p
 | .sh _ p=>p
 | .hx a b c d=>cod a b c d
 | .pr a b c d e f g h=>65536 + 1024 * (cod a b c d - 55296) + cod e f g h - 56320
noncomputable def shP:List (Int × Int):=[(34,34),(92,92),(47,47),(98,8),(102,12),(110,10),(114,13),(116,9)]
noncomputable def Sok:Sg -> Prop
 | .pl p=>dJ p = true /\ 32 <= p /\ p ≠ 34 /\ p ≠ 92
 | .sh c p=>(c,p) ∈ shP
 | .hx a b c d=>(dM a).isSome = true /\ (dM b).isSome = true /\ (dM c).isSome = true /\ (dM d).isSome = true /\ ¬ (55296 <= cod a b c d /\ cod a b c d <= 57343)
 | .pr a b c d e f g h=>(dM a = some 13 /\ 8 <= hv b /\ hv b < 12 /\ (dM b).isSome = true /\ (dM c).isSome = true /\ (dM d).isSome = true) /\ dM e = some 13 /\ 12 <= hv f /\ (dM f).isSome = true /\ (dM g).isSome = true /\ (dM h).isSome = true
noncomputable def kl (s:Sg):List Int:=(pts s).flatMap aW
theorem eM {b w:Int} (h:dM b = some w):0 <= w /\ w < 16 /\ 48 <= b /\ b <= 102 /\ b ≠ 92 /\ b ≠ 117:=by
 unfold dM at h
 split at h
 . injection h with h; omega
 . split at h
   . injection h with h; omega
   . split at h
     . injection h with h; omega
     . cases h
theorem iR {b w:Int} (h:dM b = some w):hv b = w:=by unfold hv; rw [h]; rfl
theorem ig {n:Int} (h:n < 128):aW n = [n]:=by unfold aW; rw [if_pos h]
theorem cnt_cons (it:It) (st:List It):cnt (it ::st) = (if opn it then 1 else 0) + cnt st:=by
 unfold cnt
 cases e:opn it <;> simp [e]
 omega
theorem EG (l st:List It):cnt (l ++ st) = cnt l + cnt st:=by
 unfold cnt; rw [List.filter_append,List.length_append]
theorem Lg {st st':List It} {b:Int} {r:List Int} (h:gon st b = (st',true)):tk st (b ::r) = ((tk st' r).1,(tk st' r).2 + 1):=by
 simp [tk,h]
theorem EU {it:It} {st l:List It} {b:Int} {r:List Int} (h:bh it b = some l) (hl:cnt l = 0) (hc:cnt st <= 64):tk (it ::st) (b ::r) = ((tk (l ++ st) r).1,(tk (l ++ st) r).2 + 1):=by
 refine Lg ?_
 have:cnt (l ++ st) <= 64:=by rw [EG]; omega
 simp [gon,h,this]
theorem EM {it:It} {st:List It} {b:Int} {r:List Int} (h:bh it b = none) (hl:loose it = true):tk (it ::st) (b ::r) = tk st (b ::r):=by
 simp [tk,gon,h,hl]
noncomputable def Goes (st:List It) (bs:List Int) (st':List It):Prop:=∀ r,tk st (bs ++ r) = ((tk st' r).1,(tk st' r).2 + bs.length)
theorem Goes.nil (st:List It):Goes st [] st:=fun r=>by simp
theorem Goes.trans {a b c:List It} {xs ys:List Int} (h:Goes a xs b) (k:Goes b ys c):Goes a (xs ++ ys) c:=fun r=>by
 rw [List.append_assoc,h,k,List.length_append]
 congr 1
 omega
theorem Goes.step {it:It} {st l st':List It} {b:Int} {bs:List Int} (h:bh it b = some l) (hl:cnt l = 0) (hc:cnt st <= 64) (k:Goes (l ++ st) bs st'):Goes (it ::st) (b ::bs) st':=fun r=>by
 rw [List.cons_append,EU h hl hc,k,List.length_cons]
 congr 1
theorem EE {p:Int} {st:List It} (h:dJ p = true) (h1:32 <= p) (h2:p ≠ 34) (h3:p ≠ 92) (hc:cnt st <= 64):Goes (.text ::st) (aW p) (.text ::st):=by
 have hr:=iD h
 have hs:p < 55296 \/ 57343 < p:=by
  unfold dJ at h
  simp only [Bool.or_eq_true,Bool.and_eq_true,decide_eq_true_eq] at h
  omega
 have hc1:cnt (.text ::st) <= 64:=by rw [cnt_cons]; simp [opn]; omega
 have hsp:∀ lo hi:Int,cnt (.sp lo hi ::.text ::st) <= 64:=fun lo hi=>by rw [cnt_cons,cnt_cons]; simp [opn]; omega
 have b1:∀ b:Int,b ≠ 34 -> b ≠ 92 -> ¬ b < 32 -> bh .text b = (tls b).map (· ++ [.text]):=fun b g1 g2 g3=>by simp only [bh,qA,g1,g2,g3,if_false]
 unfold aW
 by_cases c1:p < 128
 . rw [if_pos c1]
   refine Goes.step (l:=[.text]) ?_ rfl hc (.nil _)
   rw [b1 p h2 h3 (by omega)]
   unfold tls
   rw [if_pos ⟨by omega,c1⟩]
   rfl
 . rw [if_neg c1]
   by_cases c2:p < 2048
   . rw [if_pos c2]
     refine Goes.step (l:=[.sp 128 191,.text]) ?_ rfl hc ?_
     . rw [b1 _ (by omega) (by omega) (by omega)]
       unfold tls
       rw [if_neg (by omega),if_pos (by omega)]
       rfl
     . refine Goes.step (l:=[]) ?_ rfl hc1 (.nil _)
       simp only [bh]
       rw [if_pos (by omega)]
   . rw [if_neg c2]
     by_cases c3:p < 65536
     . rw [if_pos c3]
       refine Goes.step (l:=[if 224 + p / 4096 = 224 then .sp 160 191 else if 224 + p / 4096 = 237 then .sp 128 159 else .sp 128 191,.sp 128 191,.text]) ?_ ?_ hc ?_
       . rw [b1 _ (by omega) (by omega) (by omega)]
         unfold tls
         rw [if_neg (by omega),if_neg (by omega),if_pos (by omega)]
         rfl
       . split
         . rfl
         . split <;> rfl
       . refine Goes.step (l:=[]) ?_ rfl (hsp _ _) ?_
         . split
           . simp only [bh]; rw [if_pos (by omega)]
           . split
             . simp only [bh]; rw [if_pos (by omega)]
             . simp only [bh]; rw [if_pos (by omega)]
         . refine Goes.step (l:=[]) ?_ rfl hc1 (.nil _)
           simp only [bh]
           rw [if_pos (by omega)]
     . rw [if_neg c3]
       have hsp2:cnt (.sp 128 191 ::.sp 128 191 ::.text ::st) <= 64:=by rw [cnt_cons,cnt_cons,cnt_cons]; simp [opn]; omega
       refine Goes.step (l:=[if 240 + p / 262144 = 240 then .sp 144 191 else if 240 + p / 262144 = 244 then .sp 128 143 else .sp 128 191,.sp 128 191,.sp 128 191,.text]) ?_ ?_ hc ?_
       . rw [b1 _ (by omega) (by omega) (by omega)]
         unfold tls
         rw [if_neg (by omega),if_neg (by omega),if_neg (by omega),if_pos (by omega)]
         rfl
       . split
         . rfl
         . split <;> rfl
       . refine Goes.step (l:=[]) ?_ rfl hsp2 ?_
         . split
           . simp only [bh]; rw [if_pos (by omega)]
           . split
             . simp only [bh]; rw [if_pos (by omega)]
             . simp only [bh]; rw [if_pos (by omega)]
         . refine Goes.step (l:=[]) ?_ rfl (hsp _ _) ?_
           . simp only [bh]; rw [if_pos (by omega)]
           . refine Goes.step (l:=[]) ?_ rfl hc1 (.nil _)
             simp only [bh]
             rw [if_pos (by omega)]
theorem mw {b w:Int} (h:dM b = some w):bh .hex b = some []:=by simp [bh,h]
theorem some_of {b:Int} (h:(dM b).isSome = true):∃ w,dM b = some w:=Option.isSome_iff_exists.mp h
theorem oz {a b c d:Int} (ha:(dM a).isSome = true) (hb:(dM b).isSome = true) (hc:(dM c).isSome = true) (hd:(dM d).isSome = true):aW a = [a] /\ aW b = [b] /\ aW c = [c] /\ aW d = [d]:=by
 obtain ⟨w1,e1⟩:=some_of ha
 obtain ⟨w2,e2⟩:=some_of hb
 obtain ⟨w3,e3⟩:=some_of hc
 obtain ⟨w4,e4⟩:=some_of hd
 have:=eM e1
 have:=eM e2
 have:=eM e3
 have:=eM e4
 exact ⟨ig (by omega),ig (by omega),ig (by omega),ig (by omega)⟩
theorem DD (s:Sg) (h:Sok s) (st:List It) (hc:cnt st <= 64):Goes (.text ::st) (kl s) (.text ::st):=by
 have hc1:cnt (.text ::st) <= 64:=by rw [cnt_cons]; simp [opn]; omega
 have n0:∀ it:It,opn it = false -> ∀ st,cnt st <= 64 -> cnt (it ::st) <= 64:=fun it ho st h=>by rw [cnt_cons,ho]; simp; omega
 cases s with
 | pl p=>
   obtain ⟨h1,h2,h3,h4⟩:=h
   show Goes _ (aW p ++ []) _
   rw [List.append_nil]
   exact EE h1 h2 h3 h4 hc
 | sh c p=>
   have hb:kl (.sh c p) = [92,c] /\ bh .escape c = some []:=by
    simp only [Sok,shP,List.mem_cons,Prod.mk.injEq,List.not_mem_nil,or_false] at h
    rcases h with h | h | h | h | h | h | h | h <;> (obtain ⟨rfl,rfl⟩:=h; exact ⟨rfl,rfl⟩)
   rw [hb.1]
   exact Goes.step (l:=[.escape,.text]) rfl rfl hc (Goes.step (l:=[]) hb.2 rfl hc1 (.nil _))
 | hx a b c d=>
   obtain ⟨ha,hb,hcc,hd,hs⟩:=h
   obtain ⟨e1,e2,e3,e4⟩:=oz ha hb hcc hd
   have hby:kl (.hx a b c d) = [92,117,a,b,c,d]:=by
    show aW 92 ++ (aW 117 ++ (aW a ++ (aW b ++ (aW c ++ (aW d ++ []))))) = _
    rw [e1,e2,e3,e4]; rfl
   rw [hby]
   obtain ⟨w1,f1⟩:=some_of ha
   obtain ⟨w2,f2⟩:=some_of hb
   obtain ⟨w3,f3⟩:=some_of hcc
   obtain ⟨w4,f4⟩:=some_of hd
   refine Goes.step (l:=[.escape,.text]) rfl rfl hc (Goes.step (l:=[.code]) rfl rfl hc1 ?_)
   by_cases hw:w1 = 13
   . have h8:w2 < 8:=by
      have g2:=eM f2
      have g3:=eM f3
      have g4:=eM f4
      simp only [cod,iR f1,iR f2,iR f3,iR f4] at hs
      omega
     refine Goes.step (l:=[.coded]) (by simp [bh,f1,hw]) rfl hc1 (Goes.step (l:=[.hex,.hex]) (by simp [bh,f2,yA,h8]) rfl hc1 ?_)
     exact Goes.step (l:=[]) (mw f3) rfl (n0 _ rfl _ hc1) (Goes.step (l:=[]) (mw f4) rfl hc1 (.nil _))
   . refine Goes.step (l:=[.hex,.hex,.hex]) (by simp [bh,f1,hw]) rfl hc1 ?_
     exact Goes.step (l:=[]) (mw f2) rfl (n0 _ rfl _ (n0 _ rfl _ hc1)) (Goes.step (l:=[]) (mw f3) rfl (n0 _ rfl _ hc1) (Goes.step (l:=[]) (mw f4) rfl hc1 (.nil _)))
 | pr a b c d e f g h'=>
   obtain ⟨⟨f1,hb8,hb12,hb,hcc,hd⟩,f5,hf12,hf,hg,hh⟩:=h
   obtain ⟨e1,e2,e3,e4⟩:=oz (by rw [f1]; rfl) hb hcc hd
   obtain ⟨e5,e6,e7,e8⟩:=oz (by rw [f5]; rfl) hf hg hh
   have hby:kl (.pr a b c d e f g h') = [92,117,a,b,c,d,92,117,e,f,g,h']:=by
    show aW 92 ++ (aW 117 ++ (aW a ++ (aW b ++ (aW c ++ (aW d ++ (aW 92 ++ (aW 117 ++ (aW e ++ (aW f ++ (aW g ++ (aW h' ++ []))))))))))) = _
    rw [e1,e2,e3,e4,e5,e6,e7,e8]; rfl
   rw [hby]
   obtain ⟨w2,f2⟩:=some_of hb
   obtain ⟨w3,f3⟩:=some_of hcc
   obtain ⟨w4,f4⟩:=some_of hd
   obtain ⟨w6,f6⟩:=some_of hf
   obtain ⟨w7,f7⟩:=some_of hg
   obtain ⟨w8,f8⟩:=some_of hh
   rw [iR f2] at hb8 hb12
   rw [iR f6] at hf12
   have hn8:¬ w2 < 8:=by omega
   refine Goes.step (l:=[.escape,.text]) rfl rfl hc (Goes.step (l:=[.code]) rfl rfl hc1 (Goes.step (l:=[.coded]) (by simp [bh,f1]) rfl hc1 (Goes.step (l:=[.hex,.hex,.sp 92 92,.sp 117 117,.hexd,.hexcf,.hex,.hex]) (by simp [bh,f2,yA,hn8,hb12]) rfl hc1 ?_)))
   have k1:=n0 .hex rfl _ hc1
   have k2:=n0 .hex rfl _ k1
   have k3:=n0 .hexcf rfl _ k2
   have k4:=n0 .hexd rfl _ k3
   have k5:=n0 (.sp 117 117) rfl _ k4
   have k6:=n0 (.sp 92 92) rfl _ k5
   have k7:=n0 .hex rfl _ k6
   exact Goes.step (l:=[]) (mw f3) rfl k7 (Goes.step (l:=[]) (mw f4) rfl k6 (Goes.step (l:=[]) rfl rfl k5 (Goes.step (l:=[]) rfl rfl k4 (Goes.step (l:=[]) (by simp [bh,f5]) rfl k3 (Goes.step (l:=[]) (by simp [bh,f6,hf12]) rfl k2 (Goes.step (l:=[]) (mw f7) rfl k1 (Goes.step (l:=[]) (mw f8) rfl hc1 (.nil _))))))))
noncomputable def inner (ss:List Sg):List Int:=ss.flatMap kl
theorem Bn (ss:List Sg) (h:∀ s ∈ ss,Sok s) (st:List It) (hc:cnt st <= 64):Goes (.text ::st) (inner ss) (.text ::st):=by
 induction ss with
 | nil=>exact .nil _
 | cons s ss ih=>exact (DD s (h s List.mem_cons_self) st hc).trans (ih fun x hx=>h x (List.mem_cons_of_mem _ hx))
theorem Az (ss:List Sg) (h:∀ s ∈ ss,Sok s) (st:List It) (hc:cnt st <= 64):Goes (.text ::st) (inner ss ++ [34]) st:=
 (Bn ss h st hc).trans (Goes.step (l:=[]) rfl rfl hc (.nil _))
theorem xC {p:Int} (h:dJ p = true) (k:Int) (r:List Int):eI [] k (aW p ++ r) = eI [] (k + (aW p).length) r:=by
 have hr:=iD h
 have hs:p < 55296 \/ 57343 < p:=by
  unfold dJ at h
  simp only [Bool.or_eq_true,Bool.and_eq_true,decide_eq_true_eq] at h
  omega
 unfold aW
 by_cases c1:p < 128
 . rw [if_pos c1]
   have e:spans p = some []:=by unfold spans; rw [if_pos (by omega)]
   simp [eI,e]
 . rw [if_neg c1]
   by_cases c2:p < 2048
   . rw [if_pos c2]
     have e:spans (192 + p / 64) = some [(128,191)]:=by unfold spans; rw [if_neg (by omega),if_pos (by omega)]
     have i1:(128:Int) <= 128 + p % 64 /\ 128 + p % 64 <= 191:=by omega
     simp [eI,e,i1]
     congr 1
     omega
   . rw [if_neg c2]
     by_cases c3:p < 65536
     . rw [if_pos c3]
       have e:spans (224 + p / 4096) = some [pL (224 + p / 4096),(128,191)]:=by unfold spans; rw [if_neg (by omega),if_neg (by omega),if_pos (by omega)]
       have i1:(pL (224 + p / 4096)).1 <= 128 + p / 64 % 64 /\ 128 + p / 64 % 64 <= (pL (224 + p / 4096)).2:=by
        unfold pL
        split
        . dsimp only; omega
        . split <;> (dsimp only; omega)
       have i2:(128:Int) <= 128 + p % 64 /\ 128 + p % 64 <= 191:=by omega
       simp [eI,e,i1,i2]
       congr 1
       omega
     . rw [if_neg c3]
       have e:spans (240 + p / 262144) = some [oO (240 + p / 262144),(128,191),(128,191)]:=by unfold spans; rw [if_neg (by omega),if_neg (by omega),if_neg (by omega),if_pos (by omega)]
       have i1:(oO (240 + p / 262144)).1 <= 128 + p / 4096 % 64 /\ 128 + p / 4096 % 64 <= (oO (240 + p / 262144)).2:=by
        unfold oO
        split
        . dsimp only; omega
        . split <;> (dsimp only; omega)
       have i2:(128:Int) <= 128 + p / 64 % 64 /\ 128 + p / 64 % 64 <= 191:=by omega
       have i3:(128:Int) <= 128 + p % 64 /\ 128 + p % 64 <= 191:=by omega
       simp [eI,e,i1,i2,i3]
       congr 1
       omega
theorem yh (l:List Int) (h:l.all dJ = true):∀ k,eI [] k (l.flatMap aW) = -1:=by
 induction l with
 | nil=>intro k; rfl
 | cons p l ih=>
   intro k
   simp only [List.all_cons,Bool.and_eq_true] at h
   rw [List.flatMap_cons,xC h.1,ih h.2]
theorem sX (ss:List Sg):inner ss = (ss.flatMap pts).flatMap aW:=by
 unfold inner kl
 induction ss with
 | nil=>rfl
 | cons s ss ih=>rw [List.flatMap_cons,List.flatMap_cons,List.flatMap_append,ih]
theorem ko {b:Int} (h:(dM b).isSome = true):dJ b = true:=by
 obtain ⟨w,e⟩:=some_of h
 have:=eM e
 unfold dJ
 simp only [Bool.or_eq_true,Bool.and_eq_true,decide_eq_true_eq]
 omega
theorem Gr (s:Sg) (h:Sok s):(pts s).all dJ = true:=by
 cases s with
 | pl p=>simp [pts,h.1]
 | sh c p=>
   simp only [Sok,shP,List.mem_cons,Prod.mk.injEq,List.not_mem_nil,or_false] at h
   rcases h with h | h | h | h | h | h | h | h <;> (obtain ⟨rfl,rfl⟩:=h; decide)
 | hx a b c d=>
   obtain ⟨ha,hb,hc,hd,_⟩:=h
   have i1:dJ 92 = true:=rfl
   have i2:dJ 117 = true:=rfl
   simp [pts,ko ha,ko hb,ko hc,ko hd,i1,i2]
 | pr a b c d e f g h'=>
   obtain ⟨⟨f1,_,_,hb,hc,hd⟩,f5,_,hf,hg,hh⟩:=h
   have i1:dJ 92 = true:=rfl
   have i2:dJ 117 = true:=rfl
   simp [pts,ko (b:=a) (by rw [f1]; rfl),ko hb,ko hc,ko hd,ko (b:=e) (by rw [f5]; rfl),ko hf,ko hg,ko hh,i1,i2]
theorem zX (ss:List Sg) (h:∀ s ∈ ss,Sok s):(ss.flatMap pts).all dJ = true:=by
 rw [List.all_eq_true]
 intro x hx
 obtain ⟨s,hs,hxs⟩:=List.mem_flatMap.mp hx
 exact List.all_eq_true.mp (Gr s (h s hs)) x hxs
inductive Skp:List Int -> Prop
 | nil:Skp []
 | one {b:Int} {r:List Int}:b ≠ 34 -> b ≠ 92 -> Skp r -> Skp (b ::r)
 | two {c:Int} {r:List Int}:Skp r -> Skp (92 ::c ::r)
theorem Skp.app {xs ys:List Int} (h:Skp xs) (k:Skp ys):Skp (xs ++ ys):=by
 induction h with
 | nil=>exact k
 | one h1 h2 _ ih=>exact .one h1 h2 ih
 | two _ ih=>exact .two ih
theorem Fi {l:List Int} (h:∀ b ∈ l,b ≠ 34 /\ b ≠ 92):Skp l:=by
 induction l with
 | nil=>exact .nil
 | cons b l ih=>exact .one (h b List.mem_cons_self).1 (h b List.mem_cons_self).2 (ih fun x hx=>h x (List.mem_cons_of_mem _ hx))
theorem je {b:Int} {r:List Int} (h:(dM b).isSome = true) (k:Skp r):Skp (b ::r):=by
 obtain ⟨w,e⟩:=some_of h
 have:=eM e
 exact .one (by omega) (by omega) k
theorem GQ (s:Sg) (h:Sok s):Skp (kl s):=by
 cases s with
 | pl p=>
   obtain ⟨h1,h2,h3,h4⟩:=h
   have hr:=iD h1
   show Skp (aW p ++ [])
   rw [List.append_nil]
   refine Fi fun b hb=>?_
   unfold aW at hb
   split at hb
   . simp at hb; omega
   . split at hb
     . simp at hb; omega
     . split at hb <;> (simp at hb; omega)
 | sh c p=>
   simp only [Sok,shP,List.mem_cons,Prod.mk.injEq,List.not_mem_nil,or_false] at h
   rcases h with h | h | h | h | h | h | h | h <;> (obtain ⟨rfl,rfl⟩:=h; exact .two .nil)
 | hx a b c d=>
   obtain ⟨ha,hb,hcc,hd,hs⟩:=h
   obtain ⟨e1,e2,e3,e4⟩:=oz ha hb hcc hd
   have hby:kl (.hx a b c d) = [92,117,a,b,c,d]:=by
    show aW 92 ++ (aW 117 ++ (aW a ++ (aW b ++ (aW c ++ (aW d ++ []))))) = _
    rw [e1,e2,e3,e4]; rfl
   rw [hby]
   exact .two (je ha (je hb (je hcc (je hd .nil))))
 | pr a b c d e f g h'=>
   obtain ⟨⟨f1,_,_,hb,hcc,hd⟩,f5,_,hf,hg,hh⟩:=h
   have ha:(dM a).isSome = true:=by rw [f1]; rfl
   have he:(dM e).isSome = true:=by rw [f5]; rfl
   obtain ⟨e1,e2,e3,e4⟩:=oz ha hb hcc hd
   obtain ⟨e5,e6,e7,e8⟩:=oz he hf hg hh
   have hby:kl (.pr a b c d e f g h') = [92,117,a,b,c,d,92,117,e,f,g,h']:=by
    show aW 92 ++ (aW 117 ++ (aW a ++ (aW b ++ (aW c ++ (aW d ++ (aW 92 ++ (aW 117 ++ (aW e ++ (aW f ++ (aW g ++ (aW h' ++ []))))))))))) = _
    rw [e1,e2,e3,e4,e5,e6,e7,e8]; rfl
   rw [hby]
   exact .two (je ha (je hb (je hcc (je hd (.two (je he (je hf (je hg (je hh .nil)))))))))
theorem A8 (ss:List Sg) (h:∀ s ∈ ss,Sok s):Skp (inner ss):=by
 induction ss with
 | nil=>exact .nil
 | cons s ss ih=>exact (GQ s (h s List.mem_cons_self)).app (ih fun x hx=>h x (List.mem_cons_of_mem _ hx))
theorem Goes.skip {it:It} {st st':List It} {b:Int} {bs:List Int} (h:bh it b = none) (hl:loose it = true) (k:Goes st (b ::bs) st'):Goes (it ::st) (b ::bs) st':=fun r=>by
 rw [List.cons_append,EM h hl,<- List.cons_append,k]
theorem Goes.flt {row:List Int} {st:List It} (h:Goes st0 row st) (hl:st.all loose = true):flt row = none:=by
 have e:=h []
 rw [List.append_nil] at e
 unfold PG.flt
 rw [e]
 simp [tk,hl]
noncomputable def txt (ss:List Sg):List Int:=34 ::(inner ss ++ [34])
theorem yc {st:List It} (ss:List Sg) (h:∀ s ∈ ss,Sok s) (hc:cnt st <= 64):Goes (.value ::st) (txt ss) st:=
 Goes.step (l:=[.text]) rfl rfl hc (Az ss h st hc)
theorem Ed (ss:List Sg) (h:∀ s ∈ ss,Sok s):flt (txt ss) = none:=
 Goes.flt (st:=[.white]) (Goes.skip rfl rfl (yc ss h (by decide))) rfl
end PG
namespace L2.plainglass_k16_texts_told
open PySem L2.P
noncomputable def iK (c:String):Option Bool:=if c = "GlassError" then some true else if c = "Fault" then some true else if c = "NoPoint" then some true else if c = "NoNode" then some true else none
noncomputable def nJ (c:String):Bool:=c == "Walk"
noncomputable def m7:ag -> OS:=
    (aT (bN (jk (aw 0))
    (bq (mOp jN (aw 0) (mOp kf (aw 1) (mUn mJ (aw 0)))))
    aY)
    (bq (mC (.int 0))))
noncomputable def ia:List PV -> OE:=fnP 2 2 m7
noncomputable def qO:ag -> OS:=
    (bq (mOp kf (mOp d0 (mOp sV (mOp pT (aw 2) (mC (.int 64))) (mC (.int 69621))) (aw 2)) (mC (.int 4294967231))))
noncomputable def qU:ag -> OS:=
    (aT (dW 2 (mOp kf (mOp sV (aw 2) (mC (.int 48271))) (mC (.int 4294967279))))
    qO)
noncomputable def gL:ag -> OS:=
    (aT (dW 2 (mOp kf (mOp d0 (bf ia (aj (aw 0) (aj (aw 1) aM))) (mOp sV (mC (.int 104729)) (mOp d0 (aw 1) (mC (.int 1))))) (mC (.int 4294967291))))
    qU)
noncomputable def dG:List PV -> OE:=fnP 2 3 gL
noncomputable def fK:ag -> OS:=
    (bq (mOp d0 (mC (.int 65536)) (mOp kf (aw 2) (mC (.int 1048576)))))
noncomputable def fD:ag -> OS:=
    (aT (bN (aR (mOp gEq (aw 1) (mC (.int 6))))
    (bq (mOp d0 (mC (.int 57344)) (mOp kf (aw 2) (mC (.int 8192)))))
    aY)
    fK)
noncomputable def fP:ag -> OS:=
    (aT (bN (aR (mOp gEq (aw 1) (mC (.int 5))))
    (bq (mOp d0 (mC (.int 2048)) (mOp kf (aw 2) (mC (.int 53248)))))
    aY)
    fD)
noncomputable def fN:ag -> OS:=
    (aT (bN (aR (mOp gEq (aw 1) (mC (.int 4))))
    (bq (mOp d0 (mC (.int 128)) (mOp kf (aw 2) (mC (.int 1920)))))
    aY)
    fP)
noncomputable def fJ:ag -> OS:=
    (aT (bN (aR (mOp gLt (aw 1) (mC (.int 4))))
    (bq (mOp jN (cS (aj (mC (.int 34)) (aj (mC (.int 92)) (aj (mC (.int 47)) (aj (mC (.int 8)) (aj (mC (.int 12)) (aj (mC (.int 10)) (aj (mC (.int 13)) (aj (mC (.int 9)) (aj (mC (.int 0)) (aj (mC (.int 31)) (aj (mC (.int 127)) aM)))))))))))) (mOp kf (aw 2) (mC (.int 11)))))
    aY)
    fN)
noncomputable def fL:ag -> OS:=
    (aT (bN (aR (mOp gLt (aw 1) (mC (.int 2))))
    (bq (mOp d0 (mC (.int 32)) (mOp kf (aw 2) (mC (.int 95)))))
    aY)
    fJ)
noncomputable def fO:ag -> OS:=
    (aT (dW 2 (mOp pT (aw 0) (mC (.int 8))))
    fL)
noncomputable def fw:ag -> OS:=
    (aT (dW 1 (mOp kf (aw 0) (mC (.int 8))))
    fO)
noncomputable def dq:List PV -> OE:=fnP 1 3 fw
noncomputable def kH:ag -> OE:=
    (bf dq (aj (bf dG (aj (aw 0) (aj (mOp d0 (mOp d0 (aw 1) (mC (.int 1))) (aw 2)) aM))) aM))
noncomputable def kK:ag -> OS:=
    (bq (u5 (aw 3) [0,1] kH))
noncomputable def la:ag -> OS:=
    (aT (bN (aR (mOp gEq (mOp kf (mOp pT (aw 2) (mC (.int 5))) (mC (.int 8))) (mC (.int 3))))
    (dW 3 (mOp kf (mOp pT (aw 2) (mC (.int 40))) (mC (.int 14))))
    aY)
    kK)
noncomputable def kM:ag -> OS:=
    (aT (dW 3 (mOp kf (aw 2) (mC (.int 5))))
    la)
noncomputable def jv:ag -> OS:=
    (aT (dW 2 (bf dG (aj (aw 0) (aj (aw 1) aM))))
    kM)
noncomputable def eP:List PV -> OE:=fnP 2 4 jv
noncomputable def m3:ag -> OS:=
    (bq (G9 (jF gLe gLt (mC (.int 0)) (aw 0) (mC (.int 55296))) (jF gLt gLe (mC (.int 57343)) (aw 0) (mC (.int 1114111)))))
noncomputable def ij:List PV -> OE:=fnP 1 1 m3
noncomputable def mS:ag -> OS:=
    (bq (mOp d0 (mC (.int 128)) (mOp kf (aw 0) (mC (.int 64)))))
noncomputable def jT:List PV -> OE:=fnP 1 1 mS
noncomputable def kF:ag -> OS:=
    (bq (cS (aj (mOp d0 (mOp lb (mC (.tup ([0,192,224,240].map .int))) (mC (.int 3))) (mOp pT (aw 0) (mC (.int 262144)))) (aj (bf jT (aj (mOp pT (aw 0) (mC (.int 4096))) aM)) (aj (bf jT (aj (mOp pT (aw 0) (mC (.int 64))) aM)) (aj (bf jT (aj (aw 0) aM)) aM))))))
noncomputable def kC:ag -> OS:=
    (aT (bN (aR (mOp gLt (aw 0) (mC (.int 65536))))
    (bq (cS (aj (mOp d0 (mOp lb (mC (.tup ([0,192,224,240].map .int))) (mC (.int 2))) (mOp pT (aw 0) (mC (.int 4096)))) (aj (bf jT (aj (mOp pT (aw 0) (mC (.int 64))) aM)) (aj (bf jT (aj (aw 0) aM)) aM)))))
    aY)
    kF)
noncomputable def kG:ag -> OS:=
    (aT (bN (aR (mOp gLt (aw 0) (mC (.int 2048))))
    (bq (cS (aj (mOp d0 (mOp lb (mC (.tup ([0,192,224,240].map .int))) (mC (.int 1))) (mOp pT (aw 0) (mC (.int 64)))) (aj (bf jT (aj (aw 0) aM)) aM))))
    aY)
    kC)
noncomputable def kE:ag -> OS:=
    (aT (bN (aR (mOp gLt (aw 0) (mC (.int 128))))
    (bq (cS (aj (aw 0) aM)))
    aY)
    kG)
noncomputable def lz:ag -> OS:=
    (aT (bN (ux (jk (bf ij (aj (aw 0) aM))))
    (vI "NoPoint" (aj (mC (.str "a number that is no character's")) aM))
    aY)
    kE)
noncomputable def ja:List PV -> OE:=fnP 1 1 lz
noncomputable def hZ:ag -> OS:=
    (bq (mj (aR (mOp gLt (aw 0) (mC (.int 10)))) (mOp d0 (mC (.int 48)) (aw 0)) (mOp d0 (mC (.int 87)) (aw 0))))
noncomputable def dA:List PV -> OE:=fnP 1 1 hZ
noncomputable def i4:ag -> OS:=
    (gz 1)
noncomputable def i8:ag -> OS:=
    (aT (bN (aR (mOp gLt (aw 0) (mC (.int 32))))
    (bq (cS (aj (mC (.int 92)) (aj (mC (.int 117)) (aj (mC (.int 48)) (aj (mC (.int 48)) (aj (bf dA (aj (mOp pT (aw 0) (mC (.int 16))) aM)) (aj (bf dA (aj (mOp kf (aw 0) (mC (.int 16))) aM)) aM))))))))
    aY)
    i4)
noncomputable def iV:ag -> OS:=
    (aT (bN (aR (mUn (wW [(8,.int 98),(9,.int 116),(10,.int 110),(12,.int 102),(13,.int 114),(34,.int 34),(92,.int 92)]) (aw 0)))
    (bq (cS (aj (mC (.int 92)) (aj (mUn (tJ [(8,.int 98),(9,.int 116),(10,.int 110),(12,.int 102),(13,.int 114),(34,.int 34),(92,.int 92)]) (aw 0)) aM))))
    aY)
    i8)
noncomputable def iB:ag -> OS:=
    (aT (dW 1 (bf ja (aj (aw 0) aM)))
    iV)
noncomputable def d8:List PV -> OE:=fnP 1 2 iB
noncomputable def kg:ag -> OS:=
    (rK 1 (bf d8 (aj (aw 2) aM)))
noncomputable def se:ag -> OS:=
    (gz 1)
noncomputable def rX:ag -> OS:=
    (aT (jb 1 (mC (.int 34)))
    se)
noncomputable def sx:ag -> OS:=
    (aT (qK 2 (aw 0)
    kg)
    rX)
noncomputable def qo:ag -> OS:=
    (aT (dW 1 (cS (aj (mC (.int 34)) aM)))
    sx)
noncomputable def kI:List PV -> OE:=fnP 1 3 qo
noncomputable def nz:ag -> OS:=
    (gz 1)
noncomputable def nA:ag -> OS:=
    (aT (vB 2 (zt (bf kI (aj (aw 0) aM))) iK
    (dW 1 (EZ 2 fun c=>c == "NoPoint")))
    nz)
noncomputable def kb:ag -> OS:=
    (aT (dW 1 (mC (.bl false)))
    nA)
noncomputable def eS:List PV -> OE:=fnP 1 3 kb
noncomputable def jq:ag -> OS:=
    (bq (jF gLe gLe (mC (.int 48)) (aw 0) (mC (.int 57))))
noncomputable def eR:List PV -> OE:=fnP 1 1 jq
noncomputable def o3:ag -> OS:=
    (bq (mC .non))
noncomputable def oY:ag -> OS:=
    (aT (bN (aR (jF gLe gLe (mC (.int 97)) (aw 0) (mC (.int 102))))
    (bq (mOp qh (aw 0) (mC (.int 87))))
    aY)
    o3)
noncomputable def oV:ag -> OS:=
    (aT (bN (aR (jF gLe gLe (mC (.int 65)) (aw 0) (mC (.int 70))))
    (bq (mOp qh (aw 0) (mC (.int 55))))
    aY)
    oY)
noncomputable def jr:ag -> OS:=
    (aT (bN (jk (bf eR (aj (aw 0) aM)))
    (bq (mOp qh (aw 0) (mC (.int 48))))
    aY)
    oV)
noncomputable def d7:List PV -> OE:=fnP 1 1 jr
noncomputable def xI:ag -> OS:=
    (dW 2 (mOp d0 (mOp sV (mC (.int 16)) (aw 2)) (bf d7 (aj (aw 3) aM))))
noncomputable def x4:ag -> OS:=
    (gz 2)
noncomputable def xQ:ag -> OS:=
    (aT (qK 3 (DB (aw 0) (qL (mOp d0 (aw 1) (mC (.int 2)))) (qL (mOp d0 (aw 1) (mC (.int 6)))))
    xI)
    x4)
noncomputable def pd:ag -> OS:=
    (aT (dW 2 (mC (.int 0)))
    xQ)
noncomputable def kZ:List PV -> OE:=fnP 2 4 pd
noncomputable def gK:ag -> OS:=
    (bq (mC (.int 6)))
noncomputable def gM:ag -> OS:=
    (aT (bN (aR (jF gLe gLe (mC (.int 55296)) (bf kZ (aj (aw 0) (aj (aw 1) aM))) (mC (.int 57343))))
    (bq (mOp sV (mC (.int 2)) (mC (.int 6))))
    aY)
    gK)
noncomputable def gJ:ag -> OS:=
    (aT (bN (aR (mOp gNe (mOp jN (aw 0) (mOp d0 (aw 1) (mC (.int 1)))) (mC (.int 117))))
    (bq (mC (.int 2)))
    aY)
    gM)
noncomputable def gb:ag -> OS:=
    (aT (bN (aR (mOp gNe (mOp jN (aw 0) (aw 1)) (mC (.int 92))))
    (bq (mC (.int 1)))
    aY)
    gJ)
noncomputable def dH:List PV -> OE:=fnP 2 2 gb
noncomputable def bR:ag -> OS:=
    (bq (mUn (gO [(34,.int 34),(92,.int 92),(47,.int 47),(98,.int 8),(102,.int 12),(110,.int 10),(114,.int 13),(116,.int 9)]) (aw 0)))
noncomputable def bt:List PV -> OE:=fnP 1 1 bR
noncomputable def ib:ag -> OS:=
    (bq (mOp qh (mOp d0 (mOp d0 (mC (.int 65536)) (mOp sV (mC (.int 1024)) (mOp qh (bf kZ (aj (aw 0) (aj (aw 1) aM))) (mC (.int 55296))))) (bf kZ (aj (aw 0) (aj (mOp d0 (aw 1) (mC (.int 6))) aM)))) (mC (.int 56320))))
noncomputable def ik:ag -> OS:=
    (aT (bN (aR (mOp gEq (aw 2) (mC (.int 6))))
    (bq (bf kZ (aj (aw 0) (aj (aw 1) aM))))
    aY)
    ib)
noncomputable def g8:ag -> OS:=
    (aT (bN (aR (mOp gEq (aw 2) (mC (.int 2))))
    (bq (bf bt (aj (mOp jN (aw 0) (mOp d0 (aw 1) (mC (.int 1)))) aM)))
    aY)
    ik)
noncomputable def gn:ag -> OS:=
    (aT (bN (aR (mOp gEq (aw 2) (mC (.int 1))))
    (bq (mOp jN (aw 0) (aw 1)))
    aY)
    g8)
noncomputable def dy:List PV -> OE:=fnP 3 3 gn
noncomputable def eJ:ag -> OT:=
    (aR (mOp gLt (aw 2) (mUn mJ (aw 0))))
noncomputable def fR:ag -> OS:=
    (aT (dW 3 (bf dH (aj (aw 0) (aj (aw 2) aM))))
    (aT (jb 1 (bf dy (aj (aw 0) (aj (aw 2) (aj (aw 3) aM)))))
    (qX 2 d0 (aw 3))))
noncomputable def ku:ag -> OS:=
    (gz 1)
noncomputable def ky:ag -> OS:=
    (aT (cy eJ
    fR fuel)
    ku)
noncomputable def iS:ag -> OS:=
    (aT (dW 2 (mC (.int 0)))
    ky)
noncomputable def gT:ag -> OS:=
    (aT (dW 1 (cS aM))
    iS)
noncomputable def cR:List PV -> OE:=fnP 1 4 gT
noncomputable def eL:ag -> OS:=
    (bq (mC (.tup ([128,191].map .int))))
noncomputable def eK:ag -> OS:=
    (aT (bN (aR (mOp gEq (aw 0) (mC (.int 237))))
    (bq (jV (aj (mC (.int 128)) (aj (mC (.int 159)) aM))))
    aY)
    eL)
noncomputable def dz:ag -> OS:=
    (aT (bN (aR (mOp gEq (aw 0) (mC (.int 224))))
    (bq (jV (aj (mC (.int 160)) (aj (mC (.int 191)) aM))))
    aY)
    eK)
noncomputable def bK:List PV -> OE:=fnP 1 1 dz
noncomputable def fc:ag -> OS:=
    (bq (mC (.tup ([128,191].map .int))))
noncomputable def eV:ag -> OS:=
    (aT (bN (aR (mOp gEq (aw 0) (mC (.int 244))))
    (bq (jV (aj (mC (.int 128)) (aj (mC (.int 143)) aM))))
    aY)
    fc)
noncomputable def dS:ag -> OS:=
    (aT (bN (aR (mOp gEq (aw 0) (mC (.int 240))))
    (bq (jV (aj (mC (.int 144)) (aj (mC (.int 191)) aM))))
    aY)
    eV)
noncomputable def bO:List PV -> OE:=fnP 1 1 dS
noncomputable def fV:ag -> OS:=
    (bq (mC .non))
noncomputable def fS:ag -> OS:=
    (aT (bN (aR (jF gLe gLt (mC (.int 240)) (aw 0) (mC (.int 245))))
    (bq (cS (aj (bf bO (aj (aw 0) aM)) (aj (mC (.tup ([128,191].map .int))) (aj (mC (.tup ([128,191].map .int))) aM)))))
    aY)
    fV)
noncomputable def fZ:ag -> OS:=
    (aT (bN (aR (jF gLe gLt (mC (.int 224)) (aw 0) (mC (.int 240))))
    (bq (cS (aj (bf bK (aj (aw 0) aM)) (aj (mC (.tup ([128,191].map .int))) aM))))
    aY)
    fS)
noncomputable def fT:ag -> OS:=
    (aT (bN (aR (jF gLe gLt (mC (.int 194)) (aw 0) (mC (.int 224))))
    (bq (cS (aj (mC (.tup ([128,191].map .int))) aM)))
    aY)
    fZ)
noncomputable def gU:ag -> OS:=
    (aT (bN (aR (jF gLe gLt (mC (.int 0)) (aw 0) (mC (.int 128))))
    (bq (cS aM))
    aY)
    fT)
noncomputable def eN:List PV -> OE:=fnP 1 1 gU
noncomputable def ef:ag -> OS:=
    (aT (bN (yx (aR (mOp gEq (aw 3) (mUn mJ (aw 0)))) (ux (aR (jF gLe gLe (mOp lb (aw 4) (mC (.int 0))) (mOp jN (aw 0) (aw 3)) (mOp lb (aw 4) (mC (.int 1)))))))
    (pJ "Fault" "at" (aj (aw 3) aM))
    aY)
    (qX 3 d0 (mC (.int 1))))
noncomputable def jM:ag -> OS:=
    (gz 3)
noncomputable def jH:ag -> OS:=
    (aT (jY 2 (qK 4 (aw 2)
    ef))
    jM)
noncomputable def jw:ag -> OS:=
    (aT (dW 3 (mOp d0 (aw 1) (mC (.int 1))))
    jH)
noncomputable def gX:ag -> OS:=
    (aT (bN (aR (mOp sG (aw 2) (mC .non)))
    (pJ "Fault" "at" (aj (aw 1) aM))
    aY)
    jw)
noncomputable def fo:ag -> OS:=
    (aT (dW 2 (bf eN (aj (mOp jN (aw 0) (aw 1)) aM)))
    gX)
noncomputable def cF:List PV -> OE:=fnP 2 5 fo
noncomputable def j6:ag -> OS:=
    (dW 3 (mOp qh (mOp d0 (mOp sV (aw 3) (mC (.int 64))) (aw 4)) (mC (.int 128))))
noncomputable def oU:ag -> OS:=
    (gz 3)
noncomputable def oP:ag -> OS:=
    (aT (qK 4 (DB (aw 0) (qL (mOp d0 (aw 1) (mC (.int 1)))) (qL (aw 2)))
    j6)
    oU)
noncomputable def lA:ag -> OS:=
    (aT (dW 3 (mOp qh (mOp jN (aw 0) (aw 1)) (mOp lb (mC (.tup ([0,192,224,240].map .int))) (mOp qh (mOp qh (aw 2) (aw 1)) (mC (.int 1))))))
    oP)
noncomputable def gc:List PV -> OE:=fnP 3 5 lA
noncomputable def iJ:ag -> OT:=
    (aR (mOp gLt (aw 2) (mUn mJ (aw 0))))
noncomputable def fH:ag -> OS:=
    (aT (dW 3 (bf cF (aj (aw 0) (aj (aw 2) aM))))
    (aT (jb 1 (bf gc (aj (aw 0) (aj (aw 2) (aj (aw 3) aM)))))
    (dW 2 (aw 3))))
noncomputable def pE:ag -> OS:=
    (gz 1)
noncomputable def pe:ag -> OS:=
    (aT (cy iJ
    fH fuel)
    pE)
noncomputable def o7:ag -> OS:=
    (aT (dW 2 (mC (.int 0)))
    pe)
noncomputable def nR:ag -> OS:=
    (aT (dW 1 (cS aM))
    o7)
noncomputable def iZ:List PV -> OE:=fnP 1 4 nR
noncomputable def ui:ag -> OS:=
    (bq (bf cR (aj (bf iZ (aj (DB (aw 0) (qL (mOp d0 (mOp lb (aw 3) (mC (.int 1))) (mC (.int 1)))) (qL (mOp qh (mOp lb (aw 3) (mC (.int 2))) (mC (.int 1))))) aM)) aM)))
noncomputable def uw:ag -> OS:=
    (aT (bN (aR (mOp pj (mOp lb (aw 3) (mC (.int 0))) (jV (aj (mC (.str "text")) (aj (mC (.str "name")) aM)))))
    (vI "NoNode" (aj (mC (.str "a node that is neither a text nor a name")) aM))
    aY)
    ui)
noncomputable def rN:ag -> OS:=
    (aT (dW 3 (mOp jN (aw 1) (aw 2)))
    uw)
noncomputable def lE:List PV -> OE:=fnP 3 4 rN
noncomputable def iY:ag -> OS:=
    (aT (dW 2 (mOp sM (cS (aj (mOp d0 (mC (.int 128)) (mOp kf (aw 0) (mC (.int 64)))) aM)) (aw 2)))
    (dW 0 (mOp pT (aw 0) (mC (.int 64)))))
noncomputable def i7:ag -> OS:=
    (bq (mOp sM (cS (aj (mOp d0 (mOp jN (cS (aj (mC (.int 192)) (aj (mC (.int 224)) (aj (mC (.int 240)) aM)))) (mOp qh (aw 1) (mC (.int 1)))) (aw 0)) aM)) (aw 2)))
noncomputable def i5:ag -> OS:=
    (aT (BG 3 (aw 1)
    iY)
    i7)
noncomputable def iW:ag -> OS:=
    (aT (dW 2 (cS aM))
    i5)
noncomputable def i0:ag -> OS:=
    (aT (dW 1 (mOp d0 (mOp d0 (mC (.int 1)) (mUn r6 (mOp gGe (aw 0) (mC (.int 2048))))) (mUn r6 (mOp gGe (aw 0) (mC (.int 65536))))))
    iW)
noncomputable def hR:ag -> OS:=
    (aT (bN (aR (mOp gLt (aw 0) (mC (.int 128))))
    (bq (cS (aj (aw 0) aM)))
    aY)
    i0)
noncomputable def d5:List PV -> OE:=fnP 1 4 hR
noncomputable def qR:ag -> OS:=
    (bq (bf d5 (aj (aw 0) aM)))
noncomputable def lu:ag -> OS:=
    (aT (bN (aR (mOp gLt (aw 0) (mC (.int 32))))
    (bq (cS (aj (mC (.int 92)) (aj (mC (.int 117)) (aj (mC (.int 48)) (aj (mC (.int 48)) (aj (mC (.int 49)) (aj (mOp d0 (mOp d0 (aw 0) (mC (.int 32))) (mOp sV (mC (.int 39)) (mUn r6 (mOp gGt (aw 0) (mC (.int 25)))))) aM))))))))
    aY)
    qR)
noncomputable def ju:ag -> OS:=
    (aT (bN (aR (mOp gLt (aw 0) (mC (.int 16))))
    (bq (cS (aj (mC (.int 92)) (aj (mC (.int 117)) (aj (mC (.int 48)) (aj (mC (.int 48)) (aj (mC (.int 48)) (aj (mOp d0 (mOp d0 (aw 0) (mC (.int 48))) (mOp sV (mC (.int 39)) (mUn r6 (mOp gGt (aw 0) (mC (.int 9)))))) aM))))))))
    aY)
    lu)
noncomputable def gd:ag -> OS:=
    (aT (bN (aR (qQ false (aw 0) 1 fQ))
    (bq (cS (aj (mC (.int 92)) (aj (zw 1 fQ (aw 0)) aM))))
    aY)
    ju)
noncomputable def om:ag -> OS:=
    (aT (oW 1 (Gu [(34,34),(92,92),(8,98),(12,102),(10,110),(13,114),(9,116)]))
    gd)
noncomputable def jt:List PV -> OE:=fnP 1 2 om
noncomputable def lF:ag -> OS:=
    (bq (xq (mIs "int" (aw 0)) (B2 (mIs "bool" (aw 0)))))
noncomputable def gf:List PV -> OE:=fnP 1 1 lF
noncomputable def kU:ag -> OE:=
    (bf gf (aj (aw 0) aM))
noncomputable def kz:ag -> OS:=
    (bq (xq (mIs "list" (aw 0)) (mUn AQ (vU (aw 0) [] kU))))
noncomputable def ft:List PV -> OE:=fnP 1 1 kz
noncomputable def qZ:ag -> OS:=
    (BW 0 fQ "coming" nJ (mD (cS (aj (mC (.str "white")) (aj (mC (.str "value")) (aj (mC (.str "white")) aM))))))
noncomputable def cX:List Sl -> OI:=fnI 1 1 qZ
noncomputable def hJ:ag -> OS:=
    (bq (mUn (gO [(110,.tup ([117,108,108].map .int)),(116,.tup ([114,117,101].map .int)),(102,.tup ([97,108,115,101].map .int))]) (aw 0)))
noncomputable def eQ:List PV -> OE:=fnP 1 1 hJ
noncomputable def km:ag -> OS:=
    (bq (mC .non))
noncomputable def kn:ag -> OS:=
    (aT (bN (jk (bf eR (aj (aw 0) aM)))
    (bq (cS (aj (mC (.str "figures")) (aj (mC (.str "fraction")) (aj (mC (.str "exponent")) aM)))))
    aY)
    km)
noncomputable def gH:ag -> OS:=
    (aT (bN (aR (mOp gEq (aw 0) (mC (.int 48))))
    (bq (cS (aj (mC (.str "fraction")) (aj (mC (.str "exponent")) aM))))
    aY)
    kn)
noncomputable def dw:List PV -> OE:=fnP 1 1 gH
noncomputable def cM:ag -> OE:=
    (jV (aj (aw 0) (aj (aw 0) aM)))
noncomputable def cO:ag -> OS:=
    (bq (bf dw (aj (aw 0) aM)))
noncomputable def cN:ag -> OS:=
    (aT (bN (aR (mOp uF (aw 1) (mC .non)))
    (bq (su (aw 1) [] cM))
    aY)
    cO)
noncomputable def cP:ag -> OS:=
    (aT (dW 1 (bf eQ (aj (aw 0) aM)))
    cN)
noncomputable def cL:ag -> OS:=
    (aT (bN (aR (mOp gEq (aw 0) (mC (.int 45))))
    (bq (cS (aj (mC (.str "lead")) aM)))
    aY)
    cP)
noncomputable def cH:ag -> OS:=
    (aT (bN (aR (mOp gEq (aw 0) (mC (.int 34))))
    (bq (cS (aj (mC (.str "text")) aM)))
    aY)
    cL)
noncomputable def cJ:ag -> OS:=
    (aT (bN (aR (mOp gEq (aw 0) (mC (.int 123))))
    (bq (cS (aj (mC (.str "white")) (aj (mC (.str "fields")) aM))))
    aY)
    cH)
noncomputable def cq:ag -> OS:=
    (aT (bN (aR (mOp gEq (aw 0) (mC (.int 91))))
    (bq (cS (aj (mC (.str "white")) (aj (mC (.str "row")) aM))))
    aY)
    cJ)
noncomputable def bB:List PV -> OE:=fnP 1 2 cq
noncomputable def bG:ag -> OS:=
    (bq (mj (aR (mOp gIn (aw 1) (jV (aj (mC (.int 43)) (aj (mC (.int 45)) aM))))) (cS aM) (mC .non)))
noncomputable def bE:ag -> OS:=
    (aT (bN (aR (mOp gEq (aw 0) (mC (.str "exponent"))))
    (bq (mj (aR (mOp gIn (aw 1) (jV (aj (mC (.int 101)) (aj (mC (.int 69)) aM))))) (cS (aj (mC (.str "sign")) (aj (jV (aj (mC (.int 48)) (aj (mC (.int 57)) aM))) (aj (mC (.str "figures")) aM)))) (mC .non)))
    aY)
    bG)
noncomputable def bH:ag -> OS:=
    (aT (bN (aR (mOp gEq (aw 0) (mC (.str "fraction"))))
    (bq (mj (aR (mOp gEq (aw 1) (mC (.int 46)))) (cS (aj (jV (aj (mC (.int 48)) (aj (mC (.int 57)) aM))) (aj (mC (.str "figures")) aM))) (mC .non)))
    aY)
    bE)
noncomputable def bF:ag -> OS:=
    (aT (bN (aR (mOp gEq (aw 0) (mC (.str "figures"))))
    (bq (mj (jk (bf eR (aj (aw 1) aM))) (cS (aj (mC (.str "figures")) aM)) (mC .non)))
    aY)
    bH)
noncomputable def bA:ag -> OS:=
    (aT (bN (aR (mOp gEq (aw 0) (mC (.str "lead"))))
    (bq (bf dw (aj (aw 1) aM)))
    aY)
    bF)
noncomputable def aX:List PV -> OE:=fnP 2 2 bA
noncomputable def jC:ag -> OS:=
    (bq (mC .non))
noncomputable def jz:ag -> OS:=
    (aT (bN (aR (mOp gLt (aw 0) (mC (.int 12))))
    (aT (dW 1 (cS (aj (jV (aj (mC (.int 92)) (aj (mC (.int 92)) aM))) (aj (jV (aj (mC (.int 117)) (aj (mC (.int 117)) aM))) (aj (mC (.str "hex d")) (aj (mC (.str "hex c to f")) (aj (mC (.str "hex")) (aj (mC (.str "hex")) aM))))))))
    (bq (mOp sM (cS (aj (mC (.str "hex")) (aj (mC (.str "hex")) aM))) (aw 1))))
    aY)
    jC)
noncomputable def gF:ag -> OS:=
    (aT (bN (aR (mOp gLt (aw 0) (mC (.int 8))))
    (bq (cS (aj (mC (.str "hex")) (aj (mC (.str "hex")) aM))))
    aY)
    jz)
noncomputable def cU:List PV -> OE:=fnP 1 2 gF
noncomputable def dZ:ag -> OS:=
    (bq (mOp sM (aw 1) (cS (aj (mC (.str "text")) aM))))
noncomputable def ee:ag -> OS:=
    (aT (bN (yx (aR (mOp gLt (aw 0) (mC (.int 32)))) (aR (mOp sG (aw 1) (mC .non))))
    (bq (mC .non))
    aY)
    dZ)
noncomputable def d3:ag -> OS:=
    (aT (dW 1 (bf eN (aj (aw 0) aM)))
    ee)
noncomputable def d6:ag -> OS:=
    (aT (bN (aR (mOp gEq (aw 0) (mC (.int 92))))
    (bq (cS (aj (mC (.str "escape")) (aj (mC (.str "text")) aM))))
    aY)
    d3)
noncomputable def cZ:ag -> OS:=
    (aT (bN (aR (mOp gEq (aw 0) (mC (.int 34))))
    (bq (cS aM))
    aY)
    d6)
noncomputable def bL:List PV -> OE:=fnP 1 2 cZ
noncomputable def fi:ag -> OS:=
    (aT (bN (aR (mOp gEq (aw 0) (mC (.int 117))))
    (bq (cS (aj (mC (.str "code")) aM)))
    aY)
    (bq (mj (aR (mOp sG (bf bt (aj (aw 0) aM)) (mC .non))) (mC .non) (cS aM))))
noncomputable def cn:List PV -> OE:=fnP 1 1 fi
noncomputable def dj:ag -> OS:=
    (bq (bf cU (aj (aw 2) aM)))
noncomputable def df:ag -> OS:=
    (aT (bN (aR (mOp gEq (aw 0) (mC (.str "code"))))
    (bq (mj (aR (mOp gEq (aw 2) (mC (.int 13)))) (cS (aj (mC (.str "code d")) aM)) (cS (aj (mC (.str "hex")) (aj (mC (.str "hex")) (aj (mC (.str "hex")) aM))))))
    aY)
    dj)
noncomputable def dn:ag -> OS:=
    (aT (bN (aR (mOp sG (aw 2) (mC .non)))
    (bq (mC .non))
    aY)
    df)
noncomputable def de:ag -> OS:=
    (aT (dW 2 (bf d7 (aj (aw 1) aM)))
    dn)
noncomputable def dm:ag -> OS:=
    (aT (bN (aR (mOp gEq (aw 0) (mC (.str "escape"))))
    (bq (bf cn (aj (aw 1) aM)))
    aY)
    de)
noncomputable def cK:ag -> OS:=
    (aT (bN (aR (mOp gEq (aw 0) (mC (.str "text"))))
    (bq (bf bL (aj (aw 1) aM)))
    aY)
    dm)
noncomputable def bJ:List PV -> OE:=fnP 2 3 cK
noncomputable def iF:ag -> OS:=
    (bq (cS aM))
noncomputable def ir:ag -> OS:=
    (aT (bN (aR (mOp gEq (aw 0) (mC (.str "hex c to f"))))
    (bq (mj (aR (mOp gGe (aw 2) (mC (.int 12)))) (cS aM) (mC .non)))
    aY)
    iF)
noncomputable def gY:ag -> OS:=
    (aT (bN (aR (mOp gEq (aw 0) (mC (.str "hex d"))))
    (bq (mj (aR (mOp gEq (aw 2) (mC (.int 13)))) (cS aM) (mC .non)))
    aY)
    ir)
noncomputable def il:ag -> OS:=
    (aT (bN (aR (mOp sG (aw 2) (mC .non)))
    (bq (mC .non))
    aY)
    gY)
noncomputable def gA:ag -> OS:=
    (aT (dW 2 (bf d7 (aj (aw 1) aM)))
    il)
noncomputable def dB:List PV -> OE:=fnP 2 3 gA
noncomputable def fu:ag -> OS:=
    (bq (mj (aR (mOp sG (aw 1) (mC .non))) (mC .non) (mOp sM (aw 1) (cS (aj (mC (.str "white")) (aj (mC (.str "more row")) aM))))))
noncomputable def fA:ag -> OS:=
    (aT (dW 1 (bf bB (aj (aw 0) aM)))
    fu)
noncomputable def dU:ag -> OS:=
    (aT (bN (aR (mOp gEq (aw 0) (mC (.int 93))))
    (bq (cS aM))
    aY)
    fA)
noncomputable def b5:List PV -> OE:=fnP 1 2 dU
noncomputable def iX:ag -> OS:=
    (bq (cS (aj (mC (.str "white")) (aj (jV (aj (mC (.int 58)) (aj (mC (.int 58)) aM))) (aj (mC (.str "white")) (aj (mC (.str "value")) (aj (mC (.str "white")) (aj (mC (.str "more fields")) aM))))))))
noncomputable def dX:List PV -> OE:=fnP 0 0 iX
noncomputable def dP:ag -> OS:=
    (aT (bN (aR (mOp gEq (aw 0) (mC (.int 125))))
    (bq (cS aM))
    aY)
    (bq (mj (aR (mOp gEq (aw 0) (mC (.int 34)))) (mOp sM (cS (aj (mC (.str "text")) aM)) (bf dX aM)) (mC .non))))
noncomputable def bM:List PV -> OE:=fnP 1 1 dP
noncomputable def cp:ag -> OS:=
    (bq (mj (aR (mOp gEq (aw 1) (mC (.int 125)))) (cS aM) (mC .non)))
noncomputable def cj:ag -> OS:=
    (aT (bN (aR (mOp gEq (aw 1) (mC (.int 44))))
    (bq (mOp sM (cS (aj (mC (.str "white")) (aj (mC (.str "name")) aM))) (bf dX aM)))
    aY)
    cp)
noncomputable def ck:ag -> OS:=
    (aT (bN (aR (mOp gEq (aw 0) (mC (.str "more row"))))
    (aT (bN (aR (mOp gEq (aw 1) (mC (.int 44))))
    (bq (cS (aj (mC (.str "white")) (aj (mC (.str "value")) (aj (mC (.str "white")) (aj (mC (.str "more row")) aM))))))
    aY)
    (bq (mj (aR (mOp gEq (aw 1) (mC (.int 93)))) (cS aM) (mC .non))))
    aY)
    cj)
noncomputable def cg:ag -> OS:=
    (aT (bN (aR (mOp gEq (aw 0) (mC (.str "fields"))))
    (bq (bf bM (aj (aw 1) aM)))
    aY)
    ck)
noncomputable def bP:ag -> OS:=
    (aT (bN (aR (mOp gEq (aw 0) (mC (.str "row"))))
    (bq (bf b5 (aj (aw 1) aM)))
    aY)
    cg)
noncomputable def bj:List PV -> OE:=fnP 2 2 bP
noncomputable def ji:ag -> OS:=
    (bq (mOp gIn (aw 0) (mC (.tup ([9,10,13,32].map .int)))))
noncomputable def fh:List PV -> OE:=fnP 1 1 ji
noncomputable def bX:ag -> OS:=
    (bq (bf bB (aj (aw 1) aM)))
noncomputable def bY:ag -> OS:=
    (aT (bN (aR (mOp gEq (aw 0) (mC (.str "name"))))
    (bq (mj (aR (mOp gEq (aw 1) (mC (.int 34)))) (cS (aj (mC (.str "text")) aM)) (mC .non)))
    aY)
    bX)
noncomputable def bZ:ag -> OS:=
    (aT (bN (aR (mOp gEq (aw 0) (mC (.str "white"))))
    (bq (mj (jk (bf fh (aj (aw 1) aM))) (cS (aj (mC (.str "white")) aM)) (mC .non)))
    aY)
    bY)
noncomputable def b4:ag -> OS:=
    (aT (bN (aR (mOp gIn (aw 0) (mC (.tup [.str "row",.str "more row",.str "fields",.str "more fields"]))))
    (bq (bf bj (aj (aw 0) (aj (aw 1) aM))))
    aY)
    bZ)
noncomputable def b0:ag -> OS:=
    (aT (bN (aR (mOp gIn (aw 0) (jV (aj (mC (.str "hex")) (aj (mC (.str "hex d")) (aj (mC (.str "hex c to f")) aM))))))
    (bq (bf dB (aj (aw 0) (aj (aw 1) aM))))
    aY)
    b4)
noncomputable def b6:ag -> OS:=
    (aT (bN (aR (mOp gIn (aw 0) (jV (aj (mC (.str "text")) (aj (mC (.str "escape")) (aj (mC (.str "code")) (aj (mC (.str "code d")) aM)))))))
    (bq (bf bJ (aj (aw 0) (aj (aw 1) aM))))
    aY)
    b0)
noncomputable def bW:ag -> OS:=
    (aT (bN (aR (mOp gIn (aw 0) (jV (aj (mC (.str "lead")) (aj (mC (.str "figures")) (aj (mC (.str "fraction")) (aj (mC (.str "exponent")) (aj (mC (.str "sign")) aM))))))))
    (bq (bf aX (aj (aw 0) (aj (aw 1) aM))))
    aY)
    b6)
noncomputable def cD:ag -> OS:=
    (aT (bN (jk (mIs "tuple" (aw 0)))
    (bq (mj (aR (jF gLe gLe (mOp lb (aw 0) (mC (.int 0))) (aw 1) (mOp lb (aw 0) (mC (.int 1))))) (cS aM) (mC .non)))
    aY)
    bW)
noncomputable def cf:List PV -> OE:=fnP 2 2 cD
noncomputable def jL:ag -> OE:=
    (aw 0)
noncomputable def gR:ag -> OT:=
    (aR (mOp gIn (aw 0) (mC (.tup [.str "row",.str "more row",.str "fields",.str "more fields"]))))
noncomputable def nh:ag -> OS:=
    (bq (mUn mJ (sA (qT 0 (pFd 0 fQ "coming" nJ)) [] gR jL)))
noncomputable def cE:List Sl -> OI:=fnI 1 1 nh
noncomputable def iN:ag -> OT:=
    (p7 0 (pFd 0 fQ "coming" nJ))
noncomputable def iP:ag -> OS:=
    (aT (pS 2 (sF 0 (pFd 0 fQ "coming" nJ)))
    (aT (dW 3 (bf cf (aj (aw 2) (aj (aw 1) aM))))
    (aT (bN (aR (mOp uF (aw 3) (mC .non)))
    (aT (nM 0 (pFd 0 fQ "coming" nJ) (Es (aw 3) (mUn AX (mC (.int 1)))))
    (bq (mOp gLe (mU "Walk" "brackets" cE [.b 0 fQ]) (mC (.int 64)))))
    aY)
    (bN (aR (mOp pj (aw 2) (mC (.tup [.str "white",.str "figures",.str "fraction",.str "exponent",.str "sign"]))))
    (bq (mC (.bl false)))
    aY))))
noncomputable def jD:ag -> OS:=
    (aT (cy iN
    iP fuel)
    (bq (mC (.bl false))))
noncomputable def d9:List Sl -> OI:=fnI 2 4 jD
noncomputable def jZ:ag -> OS:=
    (Fp true (n9 "Walk" "goes_on" d9 [.t 0 fQ,.e (aw 3)])
    (gz 2)
    aY)
noncomputable def lD:ag -> OS:=
    (aT (zL 2 3 (aw 1)
    jZ)
    (bq (mUn mJ (aw 1))))
noncomputable def gi:List Sl -> OI:=fnI 2 4 lD
noncomputable def jx:ag -> OE:=
    (mOp gIn (aw 0) (mC (.tup [.str "white",.str "figures",.str "fraction",.str "exponent",.str "sign"])))
noncomputable def nB:ag -> OS:=
    (bq (mUn AQ (vU (qT 0 (pFd 0 fQ "coming" nJ)) [] jx)))
noncomputable def cV:List Sl -> OI:=fnI 1 1 nB
noncomputable def qx:ag -> OS:=
    (gz 2)
noncomputable def ug:ag -> OS:=
    (aT (bN (uf (aR (mOp gEq (aw 2) (mUn mJ (aw 0)))) (jk (mU "Walk" "is_whole" cV [.b 1 fQ])))
    (bq (mC .non))
    aY)
    qx)
noncomputable def uz:ag -> OS:=
    (aT (pS 2 (n9 "Walk" "take" gi [.t 1 fQ,.e (aw 0)]))
    ug)
noncomputable def rq:ag -> OS:=
    (aT (oW 1 (uj "Walk" cX))
    uz)
noncomputable def ll:List PV -> OE:=fnP 1 3 rq
noncomputable def ie:ag -> OS:=
    (aT (dW 1 (bf ll (aj (aw 0) aM)))
    (bN (aR (mOp uF (aw 1) (mC .non)))
    (pJ "Fault" "at" (aj (aw 1) aM))
    aY))
noncomputable def dF:List PV -> OE:=fnP 1 2 ie
noncomputable def nv:ag -> OS:=
    (bq (jV (aj (mOp lb (aw 2) (mC (.int 0))) (aj (mOp lb (aw 2) (mC (.int 1))) (aj (mOp lb (aw 2) (mC (.int 2))) (aj (mOp lb (mOp jN (aw 0) (mOp d0 (aw 1) (mC (.int 1)))) (mC (.int 3))) aM))))))
noncomputable def nC:ag -> OS:=
    (aT (bN (aR (mOp gNe (mOp lb (aw 2) (mC (.int 0))) (mC (.str "name"))))
    (gz 2)
    aY)
    nv)
noncomputable def j8:ag -> OS:=
    (aT (dW 2 (mOp jN (aw 0) (aw 1)))
    nC)
noncomputable def fE:List PV -> OE:=fnP 2 3 j8
noncomputable def fq:ag -> OT:=
    (aR (mOp gNe (mOp jN (aw 0) (aw 2)) (mC (.int 34))))
noncomputable def iL:ag -> OS:=
    (qX 2 d0 (mj (aR (mOp gEq (mOp jN (aw 0) (aw 2)) (mC (.int 92)))) (mC (.int 2)) (mC (.int 1))))
noncomputable def p0:ag -> OS:=
    (bq (mOp d0 (aw 2) (mC (.int 1))))
noncomputable def pU:ag -> OS:=
    (aT (cy fq
    iL fuel)
    p0)
noncomputable def mT:ag -> OS:=
    (aT (dW 2 (mOp d0 (aw 1) (mC (.int 1))))
    pU)
noncomputable def iC:List PV -> OE:=fnP 2 3 mT
noncomputable def tT:ag -> OT:=
    (uf (aR (mOp gLt (aw 2) (mUn mJ (aw 0)))) (uf (ux (jk (bf fh (aj (mOp jN (aw 0) (aw 2)) aM)))) (aR (mOp pj (mOp jN (aw 0) (aw 2)) (jV (aj (mC (.int 44)) (aj (mC (.int 93)) (aj (mC (.int 125)) aM))))))))
noncomputable def tY:ag -> OS:=
    (qX 2 d0 (mC (.int 1)))
noncomputable def t5:ag -> OS:=
    (gz 2)
noncomputable def tR:ag -> OS:=
    (aT (cy tT
    tY fuel)
    t5)
noncomputable def oi:ag -> OS:=
    (aT (dW 2 (aw 1))
    tR)
noncomputable def jo:List PV -> OE:=fnP 2 3 oi
noncomputable def kd:ag -> OT:=
    (uf (aR (mOp gLt (aw 1) (mUn mJ (aw 0)))) (jk (bf fh (aj (mOp jN (aw 0) (aw 1)) aM))))
noncomputable def wq:ag -> OS:=
    (qX 1 d0 (mC (.int 1)))
noncomputable def lR:ag -> OS:=
    (aT (cy kd
    wq fuel)
    (bq (xq (mOp gLt (aw 1) (mUn mJ (aw 0))) (mOp gEq (mOp jN (aw 0) (aw 1)) (mC (.int 58))))))
noncomputable def fX:List PV -> OE:=fnP 2 2 lR
noncomputable def wo:ag -> OS:=
    (bq (jV (aj (mj (jk (bf fX (aj (aw 0) (aj (aw 4) aM)))) (mC (.str "name")) (mC (.str "text"))) (aj (aw 1) (aj (aw 4) (aj (mOp d0 (aw 2) (mC (.int 1))) aM))))))
noncomputable def xr:ag -> OS:=
    (aT (dW 4 (bf iC (aj (aw 0) (aj (aw 1) aM))))
    wo)
noncomputable def x8:ag -> OS:=
    (aT (bN (aR (mOp gNe (aw 3) (mC (.str "text"))))
    (bq (jV (aj (aw 3) (aj (aw 1) (aj (bf jo (aj (aw 0) (aj (aw 1) aM))) (aj (mOp d0 (aw 2) (mC (.int 1))) aM))))))
    aY)
    xr)
noncomputable def vy:ag -> OS:=
    (aT (dW 3 (uV [(34,.str "text"),(91,.str "row"),(102,.str "false"),(110,.str "null"),(116,.str "true"),(123,.str "fields")] (mOp jN (aw 0) (aw 1)) (mC (.str "number"))))
    x8)
noncomputable def mG:List PV -> OE:=fnP 3 5 vy
noncomputable def lY:ag -> OT:=
    (aR (mOp gLt (aw 3) (mUn mJ (aw 0))))
noncomputable def lQ:ag -> OS:=
    (aT (dW 4 (mOp jN (aw 0) (aw 3)))
    (bN (aR (mOp gIn (aw 4) (jV (aj (mC (.int 91)) (aj (mC (.int 123)) aM)))))
    (aT (xJ 2 fQ (mD (mUn mJ (aw 1))))
    (aT (jb 1 (jV (aj (mUn (tJ [(34,.str "text"),(91,.str "row"),(102,.str "false"),(110,.str "null"),(116,.str "true"),(123,.str "fields")]) (aw 4)) (aj (aw 3) aM))))
    (qX 3 d0 (mC (.int 1)))))
    (bN (aR (mOp gIn (aw 4) (jV (aj (mC (.int 93)) (aj (mC (.int 125)) aM)))))
    (aT (qX 3 d0 (mC (.int 1)))
    (aT (pS 5 (sF 2 fQ))
    (DF 1 (aw 5) (jV (aj (mOp lb (mOp jN (aw 1) (aw 5)) (mC (.int 0))) (aj (mOp lb (mOp jN (aw 1) (aw 5)) (mC (.int 1))) (aj (aw 3) (aj (mUn mJ (aw 1)) aM))))))))
    (bN (yx (jk (bf fh (aj (aw 4) aM))) (aR (mOp gIn (aw 4) (jV (aj (mC (.int 44)) (aj (mC (.int 58)) aM))))))
    (qX 3 d0 (mC (.int 1)))
    (aT (jb 1 (bf mG (aj (aw 0) (aj (aw 3) (aj (mUn mJ (aw 1)) aM)))))
    (dW 3 (mOp lb (mOp jN (aw 1) (mUn AX (mC (.int 1)))) (mC (.int 2)))))))))
noncomputable def qr:ag -> OE:=
    (bf fE (aj (aw 0) (aj (aw 1) aM)))
noncomputable def qE:ag -> OS:=
    (jY 1 (bq (u5 (mUn mJ (aw 1)) [1] qr)))
noncomputable def ur:ag -> OS:=
    (aT (cy lY
    lQ fuel)
    qE)
noncomputable def um:ag -> OS:=
    (aT (dW 3 (mC (.int 0)))
    ur)
noncomputable def qa:ag -> OS:=
    (aT (oW 2 (mD (cS aM)))
    um)
noncomputable def ue:ag -> OS:=
    (aT (dW 1 (cS aM))
    qa)
noncomputable def rP:ag -> OS:=
    (aT (zt (bf dF (aj (aw 0) aM)))
    ue)
noncomputable def kA:List PV -> OE:=fnP 1 6 rP
noncomputable def rM:ag -> OS:=
    (dW 3 (mOp sM (aw 3) (bf jt (aj (aw 4) aM))))
noncomputable def zK:ag -> OS:=
    (jY 6 (bq (mOp G6 (bf lE (aj (aw 6) (aj (bf kA (aj (aw 6) aM)) (aj (mC (.int 0)) aM)))) (aw 1))))
noncomputable def vn:ag -> OS:=
    (aT (jY 6 (bN (yx (ux (jk (bf ft (aj (aw 6) aM)))) (yx (aR (mOp E6 (aw 6) (aw 3))) (aR (mOp E6 (aw 5) (aw 1)))))
    (bq (mC (.bl false)))
    aY))
    zK)
noncomputable def zW:ag -> OS:=
    (aT (jY 5 (dW 6 (bf kI (aj (aw 5) aM))))
    vn)
noncomputable def zM:ag -> OS:=
    (aT (dW 5 (mUn rH (aw 1)))
    zW)
noncomputable def rF:ag -> OS:=
    (aT (jb 3 (mC (.int 34)))
    zM)
noncomputable def Aa:ag -> OS:=
    (aT (jY 1 (qK 4 (aw 1)
    rM))
    rF)
noncomputable def rG:ag -> OS:=
    (aT (dW 3 (cS (aj (mC (.int 34)) aM)))
    Aa)
noncomputable def rJ:ag -> OS:=
    (aT (bN (aR (mOp gEq (mOp kf (bf dG (aj (aw 0) (aj (mC (.int 0)) aM))) (mC (.int 4))) (mC (.int 1))))
    (aT (dW 2 (mOp jN (cS (aj (mUn AX (mC (.int 1))) (aj (mC (.int 55296)) (aj (mC (.int 57343)) (aj (mC (.int 1114112)) (aj (mC (.int 56320)) aM)))))) (mOp kf (bf dG (aj (aw 0) (aj (mC (.int 1)) aM))) (mC (.int 5)))))
    (aT (pH 1 (mOp kf (bf dG (aj (aw 0) (aj (mC (.int 2)) aM))) (mOp d0 (mUn mJ (aw 1)) (mC (.int 1)))) (aw 2))
    (jY 1 (bq (bf eS (aj (aw 1) aM))))))
    aY)
    rG)
noncomputable def zJ:ag -> OS:=
    (aT (bN (aR (mOp gEq (mOp kf (bf dG (aj (aw 0) (aj (mC (.int 0)) aM))) (mC (.int 3))) (mC (.int 0))))
    (jb 1 (mOp kf (bf dG (aj (aw 0) (aj (mC (.int 1)) aM))) (mC (.int 36))))
    aY)
    rJ)
noncomputable def BI:ag -> OS:=
    (aT (dW 1 (bf eP (aj (aw 0) (aj (mC (.int 3)) aM))))
    zJ)
noncomputable def tI:List PV -> OE:=fnP 1 7 BI
theorem kY (n:Int):ij [.int n] = .ok (.sh (.bl (PG.dJ n))):=by
 unfold ij m3 PG.dJ
 by_cases h1:0 <= n <;> by_cases h2:n < 55296 <;> by_cases h3:57343 < n <;> simp [h1,h2,h3]
theorem tK (n:Int):jT [.int n] = .ok (.sh (.int (128 + n % 64))):=by
 unfold jT mS
 simp
theorem zh (n:Int):ja [.int n] = if PG.dJ n = true then .ok (.fr ((PG.aW n).map .int)) else .exc "NoPoint" []:=by
 unfold PG.aW
 by_cases h:PG.dJ n = true
 . by_cases h1:n < 128
   . simp [kF,kC,kG,kE,lz,ja,kY,tK,h,h1]
   . by_cases h2:n < 2048
     . simp [kF,kC,kG,kE,lz,ja,kY,tK,h,h1,h2]
     . by_cases h3:n < 65536
       . simp [kF,kC,kG,kE,lz,ja,kY,tK,h,h1,h2,h3]
       . simp [kF,kC,kG,kE,lz,ja,kY,tK,h,h1,h2,h3]
 . simp [kF,kC,kG,kE,lz,ja,kY,tK,h]
theorem Bf (n:Int):(PG.aW n).length <= 4:=by
 unfold PG.aW
 repeat' split
 all_goals simp
theorem yH (ns:List Int) (k:Int):ia [.lst (ns.map .int),.int k] = .ok (.sh (.int (PG.cell ns k))):=by
 unfold ia m7 PG.cell
 cases ns with
 | nil=>simp
 | cons n r=>
   have hp:(0:Int) < (r.length:Int) + 1:=by omega
   have hm:0 <= k % ((r.length:Int) + 1):=Int.emod_nonneg _ (by omega)
   have hm2:k % ((r.length:Int) + 1) < (r.length:Int) + 1:=Int.emod_lt_of_pos _ hp
   have hi:(k % ((r.length:Int) + 1)).toNat < (n ::r).length:=by rw [List.length_cons]; omega
   have ha:atP (PV.int n ::r.map .int) (k % ((r.length:Int) + 1)) = some (.int ((n ::r).getD (k % ((r.length:Int) + 1)).toNat 0)):=by
    rw [Bt _ _ hm]
    have:(PV.int n ::r.map .int) = (n ::r).map .int:=rfl
    rw [this,List.getElem?_map,List.getElem?_eq_getElem hi,List.getD_eq_getElem?_getD,List.getElem?_eq_getElem hi]
    rfl
   simp [hp,ha]
theorem kD (ns:List Int) (k:Int):dG [.lst (ns.map .int),.int k] = .ok (.sh (.int (PG.mix ns k))):=by
 unfold PG.mix
 simp [qO,qU,gL,dG,yH]
theorem xG (n:Int):gf [.int n] = .ok (.sh (.bl true)):=by
 unfold gf lF
 simp
theorem vX (ns:List Int):dI kU [] (ns.map .int) = .ok (ns.map fun _=>.bl true):=
 qj _ fun n _=>by simp [kU,xG]
theorem wb (ns:List Int) (h:ns.length <= 1000000):ft [.lst (ns.map .int)] = .ok (.sh (.bl true)):=by
 unfold ft kz
 have e:oq (ns.map fun _=>PV.bl true) = some (ns.map fun _=>true):=by
  have:=qP (ns.map fun _=>true)
  rwa [List.map_map] at this
 simp [vX,dO,kR h,AQ,e]
theorem xK (n:Int):dq [.int n] = .ok (.sh (.int (PG.point n))):=by
 unfold PG.point
 have ha:atP [PV.int 34,.int 92,.int 47,.int 8,.int 12,.int 10,.int 13,.int 9,.int 0,.int 31,.int 127] (n / 8 % 11) = some (.int (PG.menu.getD (n / 8 % 11).toNat 0)):=by
  have h0:0 <= n / 8 % 11:=by omega
  have hi:(n / 8 % 11).toNat < PG.menu.length:=by show _ < 11; omega
  rw [Bt _ _ h0]
  show (PG.menu.map PV.int)[_]? = _
  rw [List.getElem?_map,List.getD_eq_getElem?_getD,List.getElem?_eq_getElem hi]
  rfl
 by_cases h1:n % 8 < 2
 . simp [fK,fD,fP,fN,fJ,fL,fO,fw,dq,h1]
 . by_cases h2:n % 8 < 4
   . simp [fK,fD,fP,fN,fJ,fL,fO,fw,dq,h1,h2,ha]
   . by_cases h3:n % 8 = 4
     . simp [fK,fD,fP,fN,fJ,fL,fO,fw,dq,h3]
     . by_cases h4:n % 8 = 5
       . simp [fK,fD,fP,fN,fJ,fL,fO,fw,dq,h4]
       . by_cases h5:n % 8 = 6
         . simp [fK,fD,fP,fN,fJ,fL,fO,fw,dq,h5]
         . simp [fK,fD,fP,fN,fJ,fL,fO,fw,dq,h1,h2,h3,h4,h5]
theorem vH (ns:List Int) (k:Int):eP [.lst (ns.map .int),.int k] = .ok (.fr ((PG.points ns k).map .int)):=by
 have hs:=PG.xk ns k
 have hm:=PG.u7 ns k
 have el:∀ m:Nat,dI kH [some (.sh (.lst (ns.map .int))),some (.sh (.int k))] (eO m) =
   .ok ((List.range m).map fun j:Nat=>.int (PG.point (PG.mix ns (k + 1 + (j:Int))))):=fun m=>by
  unfold eO
  refine qj _ fun j _=>?_
  simp [kH,kD,xK]
 have hp:(PG.points ns k).map PV.int = (List.range (PG.tj ns k).toNat).map fun j:Nat=>.int (PG.point (PG.mix ns (k + 1 + (j:Int)))):=by
  unfold PG.points
  rw [List.map_map]
  rfl
 rw [hp]
 have hl:(PG.tj ns k).toNat <= lim:=kR (by omega)
 unfold PG.tj at hs hl ⊢
 by_cases h3:PG.mix ns k / 5 % 8 = 3
 . rw [if_pos h3] at hs hl ⊢
   have h1:-4611686018427387904 <= PG.mix ns k / 40 % 14 /\ PG.mix ns k / 40 % 14 < 4611686018427387904:=by omega
   simp [eP,jv,kM,la,kK,kD,h3,dO,el,h1]
   unfold lim; omega
 . rw [if_neg h3] at hs hl ⊢
   have h1:-4611686018427387904 <= PG.mix ns k % 5 /\ PG.mix ns k % 5 < 4611686018427387904:=by omega
   simp [eP,jv,kM,la,kK,kD,h3,dO,el,h1]
   unfold lim; omega
theorem xV (n:Int) (h:PG.dJ n = true):d5 [.int n] = .ok (.fr ((PG.aW n).map .int)):=by
 have hn:0 <= n:=by
  unfold PG.dJ at h
  simp only [Bool.or_eq_true,Bool.and_eq_true,decide_eq_true_eq] at h
  omega
 unfold PG.aW
 by_cases h1:n < 128
 . simp [iY,i7,i5,iW,i0,hR,d5,h1]
 . by_cases h2:n < 2048
   . have g2:¬ 2048 <= n:=by omega
     have g3:¬ 65536 <= n:=by omega
     simp [iY,i7,i5,iW,i0,hR,d5,h1,h2,g2,g3,eO,List.range_succ]
   . by_cases h3:n < 65536
     . have g2:2048 <= n:=by omega
       have g3:¬ 65536 <= n:=by omega
       have e1:n / 64 / 64 = n / 4096:=by omega
       simp [iY,i7,i5,iW,i0,hR,d5,h1,h2,h3,g2,g3,eO,List.range_succ,e1]
     . have g2:2048 <= n:=by omega
       have g3:65536 <= n:=by omega
       have e1:n / 64 / 64 = n / 4096:=by omega
       have e2:n / 4096 / 64 = n / 262144:=by omega
       simp [iY,i7,i5,iW,i0,hR,d5,h1,h2,h3,g2,g3,eO,List.range_succ,e1,e2]
noncomputable def sp (s:Int × Int):PV:=.tup [.int s.1,.int s.2]
theorem Gn (b:Int):bK [.int b] = .ok (.sh (sp (PG.pL b))):=by
 unfold PG.pL sp
 by_cases h1:b = 224
 . simp [eL,eK,dz,bK,h1]
 . by_cases h2:b = 237 <;> simp [eL,eK,dz,bK,h1,h2]
theorem HJ (b:Int):bO [.int b] = .ok (.sh (sp (PG.oO b))):=by
 unfold PG.oO sp
 by_cases h1:b = 240
 . simp [fc,eV,dS,bO,h1]
 . by_cases h2:b = 244 <;> simp [fc,eV,dS,bO,h1,h2]
theorem D3 (b:Int):eN [.int b] = match PG.spans b with
  | some ss=>.ok (.fr (ss.map sp))
  | none=>.ok (.sh .non):=by
 unfold PG.spans
 by_cases h1:0 <= b /\ b < 128
 . simp [fV,fS,fZ,fT,gU,eN,h1]
 . by_cases h2:194 <= b /\ b < 224
   . have g1:0 <= b:=by omega
     have g2:¬ b < 128:=by omega
     simp [fV,fS,fZ,fT,gU,eN,h2,g1,g2,sp]
   . by_cases h3:224 <= b /\ b < 240
     . have g1:0 <= b:=by omega
       have g2:¬ b < 128:=by omega
       have g3:194 <= b:=by omega
       have g4:¬ b < 224:=by omega
       simp [fV,fS,fZ,fT,gU,eN,h3,g1,g2,g3,g4,Gn]
       rfl
     . by_cases h4:240 <= b /\ b < 245
       . have g1:0 <= b:=by omega
         have g2:¬ b < 128:=by omega
         have g3:194 <= b:=by omega
         have g4:¬ b < 224:=by omega
         have g5:224 <= b:=by omega
         have g6:¬ b < 240:=by omega
         simp [fV,fS,fZ,fT,gU,eN,h4,g1,g2,g3,g4,g5,g6,HJ]
         rfl
       . simp only [h1,h2,h3,h4,if_false]
         by_cases k1:0 <= b <;> by_cases k2:b < 128 <;> by_cases k3:194 <= b <;> by_cases k4:b < 224 <;> by_cases k5:224 <= b <;> by_cases k6:b < 240 <;> by_cases k7:240 <= b <;> by_cases k8:b < 245 <;> first
          | (exfalso; omega)
          | simp [fV,fS,fZ,fT,gU,eN,k1,k2,k3,k4,k5,k6,k7,k8]
theorem yQ (pre:List Int) (c:Int) (r:List Int):atP ((pre ++ c ::r).map PV.int) (pre.length:Int) = some (.int c):=by
 rw [mH,List.getElem?_map]
 simp
theorem Fh (pre cs:List Int) (A B:Option Sl) (s:Int × Int):ef [some (.sh (.lst ((pre ++ cs).map .int))),A,B,some (.sh (.int pre.length)),some (.sh (sp s))] = match cs with
  | []=>.exc [some (.sh (.lst ((pre ++ cs).map .int))),A,B,some (.sh (.int pre.length)),some (.sh (sp s))] "Fault" [("at",.int pre.length)]
  | c ::_=>if s.1 <= c /\ c <= s.2 then .nx [some (.sh (.lst ((pre ++ cs).map .int))),A,B,some (.sh (.int (pre.length + 1))),some (.sh (sp s))] else
    .exc [some (.sh (.lst ((pre ++ cs).map .int))),A,B,some (.sh (.int pre.length)),some (.sh (sp s))] "Fault" [("at",.int pre.length)]:=by
 cases cs with
 | nil=>simp [ef,sp]
 | cons c r=>
   have ha:=yQ pre c r
   simp only [List.map_append,List.map_cons] at ha
   have hne:¬ (pre.length:Int) = pre.length + (r.length + 1):=by omega
   by_cases h1:s.1 <= c <;> by_cases h2:c <= s.2 <;> simp [ef,sp,ha,hne,h1,h2]
theorem DM (A B:Option Sl) (ss:List (Int × Int)):∀ (pre cs:List Int) (o:Option Sl),
  (PG.eat ss cs = none -> ∃ o',jO 4 ef (ss.map sp) [some (.sh (.lst ((pre ++ cs).map .int))),A,B,some (.sh (.int pre.length)),o] = .nx [some (.sh (.lst ((pre ++ cs).map .int))),A,B,some (.sh (.int (pre.length + ss.length))),o']) /\
  (∀ k,PG.eat ss cs = some k -> ∃ ρ,jO 4 ef (ss.map sp) [some (.sh (.lst ((pre ++ cs).map .int))),A,B,some (.sh (.int pre.length)),o] = .exc ρ "Fault" [("at",.int (pre.length + k))]):=by
 induction ss with
 | nil=>intro pre cs o; exact ⟨fun _=>⟨o,by simp⟩,fun k h=>by simp [PG.eat] at h⟩
 | cons s ss ih=>
   intro pre cs o
   have ht:=Fh pre cs A B s
   cases cs with
   | nil=>
     refine ⟨fun h=>by simp [PG.eat] at h,fun k h=>?_⟩
     simp [PG.eat] at h
     subst h
     refine ⟨[some (.sh (.lst ((pre ++ []).map .int))),A,B,some (.sh (.int pre.length)),some (.sh (sp s))],?_⟩
     rw [List.map_cons,fM]
     simp only [List.set_cons_succ,List.set_cons_zero]
     rw [ht]
     simp
   | cons c r=>
     by_cases hc:s.1 <= c /\ c <= s.2
     . have e0:pre ++ c ::r = (pre ++ [c]) ++ r:=by simp
       have e1:((pre ++ [c]).length:Int) = pre.length + 1:=by simp
       obtain ⟨i1,i2⟩:=ih (pre ++ [c]) r (some (.sh (sp s)))
       rw [<- e0,e1] at i1 i2
       simp only [hc,and_self,if_true] at ht
       refine ⟨fun h=>?_,fun k h=>?_⟩
       . obtain ⟨o',e⟩:=i1 (by simpa [PG.eat,hc] using h)
         refine ⟨o',?_⟩
         rw [List.map_cons,fM]
         simp only [List.set_cons_succ,List.set_cons_zero]
         rw [ht,gW,e]
         simp; omega
       . obtain ⟨j,hj,hk⟩:∃ j,PG.eat ss r = some j /\ j + 1 = k:=by simpa [PG.eat,hc] using h
         obtain ⟨ρ,e⟩:=i2 j hj
         refine ⟨ρ,?_⟩
         rw [List.map_cons,fM]
         simp only [List.set_cons_succ,List.set_cons_zero]
         rw [ht,gW,e]
         simp; omega
     . refine ⟨fun h=>by simp [PG.eat,hc] at h,fun k h=>?_⟩
       simp [PG.eat,hc] at h
       subst h
       refine ⟨[some (.sh (.lst ((pre ++ c ::r).map .int))),A,B,some (.sh (.int pre.length)),some (.sh (sp s))],?_⟩
       rw [List.map_cons,fM]
       simp only [List.set_cons_succ,List.set_cons_zero]
       rw [ht]
       simp [hc]
theorem LF (pre:List Int) (b:Int) (cs:List Int):cF [.lst ((pre ++ b ::cs).map .int),.int pre.length] = match PG.spans b with
  | none=>.exc "Fault" [("at",.int pre.length)]
  | some ss=>match PG.eat ss cs with
    | none=>.ok (.sh (.int (pre.length + 1 + ss.length)))
    | some k=>.exc "Fault" [("at",.int (pre.length + 1 + k))]:=by
 have ha:=yQ pre b cs
 have e0:pre ++ b ::cs = (pre ++ [b]) ++ cs:=by simp
 have e1:((pre ++ [b]).length:Int) = pre.length + 1:=by simp
 have ht:=D3 b
 cases hs:PG.spans b with
 | none=>
   rw [hs] at ht
   simp only [List.map_append,List.map_cons] at ha ⊢
   simp [cF,fo,gX,ha,ht,cu]
 | some ss=>
   rw [hs] at ht
   obtain ⟨l1,l2⟩:=DM (some (.sh (.int pre.length))) (some (.sh (.lst (ss.map sp)))) ss (pre ++ [b]) cs none
   rw [<- e0,e1] at l1 l2
   simp only [List.map_append,List.map_cons] at ha l1 l2 ⊢
   cases he:PG.eat ss cs with
   | none=>
     obtain ⟨o',l⟩:=l1 he
     simp [cF,fo,gX,jw,jH,jM,ha,ht,j9,sG,cu,l]
   | some k=>
     obtain ⟨ρ,l⟩:=l2 k he
     simp [cF,fo,gX,jw,jH,jM,ha,ht,j9,sG,cu,l]
theorem D8 (A B C:Option Sl) (cs:List Int):∀ (n:Int) (o:Option Sl),∃ o',jO 4 j6 (cs.map .int) [A,B,C,some (.sh (.int n)),o] = .nx [A,B,C,some (.sh (.int (cs.foldl (fun n c=>n * 64 + c - 128) n))),o']:=by
 induction cs with
 | nil=>intro n o; exact ⟨o,by simp⟩
 | cons c cs ih=>
   intro n o
   have hb:j6 [A,B,C,some (.sh (.int n)),some (.sh (.int c))] = .nx [A,B,C,some (.sh (.int (n * 64 + c - 128))),some (.sh (.int c))]:=by simp [j6]
   obtain ⟨o',e⟩:=ih (n * 64 + c - 128) (some (.sh (.int c)))
   refine ⟨o',?_⟩
   rw [List.map_cons,fM]
   simp only [List.set_cons_succ,List.set_cons_zero]
   rw [hb,gW,e]
   rfl
theorem GI (pre:List Int) (b:Int) (cs r:List Int) (h:cs.length <= 3):gc [.lst ((pre ++ b ::(cs ++ r)).map .int),.int pre.length,.int (pre.length + 1 + cs.length)] = .ok (.sh (.int (PG.val b cs))):=by
 have ha:=yQ pre b (cs ++ r)
 have hm:atP [PV.int 0,.int 192,.int 224,.int 240] (cs.length:Int) = some (.int (PG.mark cs.length)):=by
  rw [mH]
  unfold PG.mark
  match cs.length,h with
  | 0,_=>rfl
  | 1,_=>rfl
  | 2,_=>rfl
  | 3,_=>rfl
 have hc:tS ((pre ++ b ::(cs ++ r)).map PV.int) (some (pre.length + 1)) (some (pre.length + 1 + cs.length)) = cs.map .int:=by
  unfold tS va
  dsimp only
  rw [if_neg (by omega),if_neg (by omega)]
  have l1:((pre ++ b ::(cs ++ r)).map PV.int).length = pre.length + 1 + cs.length + r.length:=by simp; omega
  rw [l1]
  have t1:min ((pre.length:Int) + 1).toNat (pre.length + 1 + cs.length + r.length) = pre.length + 1:=by omega
  have t2:min ((pre.length:Int) + 1 + cs.length).toNat (pre.length + 1 + cs.length + r.length) = pre.length + 1 + cs.length:=by omega
  rw [t1,t2,<- List.map_drop,<- List.map_take]
  congr 1
  have d1:(pre ++ b ::(cs ++ r)).drop (pre.length + 1) = cs ++ r:=by
   rw [List.drop_append]
   simp
  rw [d1,show pre.length + 1 + cs.length - (pre.length + 1) = cs.length from by omega]
  simp
 obtain ⟨o',l⟩:=D8 (some (.sh (.lst ((pre ++ b ::(cs ++ r)).map .int)))) (some (.sh (.int pre.length))) (some (.sh (.int (pre.length + 1 + cs.length)))) cs (b - PG.mark cs.length) none
 have e3:(pre.length:Int) + 1 + cs.length - pre.length - 1 = cs.length:=by omega
 generalize (pre ++ b ::(cs ++ r)).map PV.int = row at ha hc l ⊢
 simp [gc,lA,oP,oU,ha,e3,hm,hc,l]
 rfl
theorem CL (pre:List Int) (b:Int) (cs found:List Int) (o:Option Sl) (hl:found.length <= 1000):
  fH [some (.sh (.lst ((pre ++ b ::cs).map .int))),some (.ow (found.map .int)),some (.sh (.int pre.length)),o] = match PG.spans b with
  | none=>.exc [some (.sh (.lst ((pre ++ b ::cs).map .int))),some (.ow (found.map .int)),some (.sh (.int pre.length)),o] "Fault" [("at",.int pre.length)]
  | some ss=>match PG.eat ss cs with
    | none=>.nx [some (.sh (.lst ((pre ++ b ::cs).map .int))),some (.ow ((found ++ [PG.val b (cs.take ss.length)]).map .int)),some (.sh (.int (pre.length + 1 + ss.length))),some (.sh (.int (pre.length + 1 + ss.length)))]
    | some k=>.exc [some (.sh (.lst ((pre ++ b ::cs).map .int))),some (.ow (found.map .int)),some (.sh (.int pre.length)),o] "Fault" [("at",.int (pre.length + 1 + k))]:=by
 have hc:=LF pre b cs
 have hlim:found.length < lim:=pf (by omega)
 cases hs:PG.spans b with
 | none=>
   rw [hs] at hc
   generalize (pre ++ b ::cs).map PV.int = row at hc ⊢
   simp [fH,hc]
 | some ss=>
   rw [hs] at hc
   cases he:PG.eat ss cs with
   | none=>
     dsimp only at hc
     rw [he] at hc
     have hlen:=PG.v8 ss cs he
     obtain ⟨_,_,h3⟩:=PG.wJ hs he
     have hch:=GI pre b (cs.take ss.length) (cs.drop ss.length) (by rw [List.length_take]; omega)
     rw [List.take_append_drop,show (cs.take ss.length).length = ss.length from by rw [List.length_take]; omega] at hch
     dsimp only at hc ⊢
     rw [he]
     generalize (pre ++ b ::cs).map PV.int = row at hc hch ⊢
     simp [fH,hc,hch,hlim]
   | some k=>
     dsimp only at hc
     rw [he] at hc
     dsimp only at hc ⊢
     rw [he]
     generalize (pre ++ b ::cs).map PV.int = row at hc ⊢
     simp [fH,hc]
theorem rV (pre rest:List Int) (A o:Option Sl):iJ [some (.sh (.lst ((pre ++ rest).map .int))),A,some (.sh (.int pre.length)),o] = .ok (!rest.isEmpty):=by
 cases rest with
 | nil=>simp [iJ]
 | cons b r=>simp [iJ]; omega
theorem Dc:∀ (m:Nat) (pre rest found:List Int) (o:Option Sl) (n:Nat),rest.length <= m -> found.length + rest.length <= 1000 -> m < n ->
  (PG.eI [] pre.length rest = -1 -> ∃ L o',L.all PG.dJ = true /\ L.flatMap PG.aW = rest /\ cy iJ fH n [some (.sh (.lst ((pre ++ rest).map .int))),some (.ow (found.map .int)),some (.sh (.int pre.length)),o] =
    .nx [some (.sh (.lst ((pre ++ rest).map .int))),some (.ow ((found ++ L).map .int)),some (.sh (.int (pre.length + rest.length))),o']) /\
  (PG.eI [] pre.length rest ≠ -1 -> 0 <= PG.eI [] pre.length rest /\ ∃ ρ,cy iJ fH n [some (.sh (.lst ((pre ++ rest).map .int))),some (.ow (found.map .int)),some (.sh (.int pre.length)),o] =
    .exc ρ "Fault" [("at",.int (PG.eI [] pre.length rest))]):=by
 intro m
 induction m with
 | zero=>
   intro pre rest found o n hr hf hn
   have:rest = []:=List.length_eq_zero_iff.mp (by omega)
   subst this
   obtain ⟨n',rfl⟩:∃ k,n = k + 1:=⟨n - 1,by omega⟩
   have hc:=rV pre [] (some (.ow (found.map .int))) o
   refine ⟨fun _=>⟨[],o,rfl,rfl,?_⟩,fun h=>absurd rfl h⟩
   unfold cy
   rw [hc]
   simp
 | succ m ih=>
   intro pre rest found o n hr hf hn
   obtain ⟨n',rfl⟩:∃ k,n = k + 1:=⟨n - 1,by omega⟩
   cases rest with
   | nil=>
     have hc:=rV pre [] (some (.ow (found.map .int))) o
     refine ⟨fun _=>⟨[],o,rfl,rfl,?_⟩,fun h=>absurd rfl h⟩
     unfold cy
     rw [hc]
     simp
   | cons b cs=>
     have hc:=rV pre (b ::cs) (some (.ow (found.map .int))) o
     have ht:=CL pre b cs found o (by omega)
     have step:cy iJ fH (n' + 1) [some (.sh (.lst ((pre ++ b ::cs).map .int))),some (.ow (found.map .int)),some (.sh (.int pre.length)),o] = (fH [some (.sh (.lst ((pre ++ b ::cs).map .int))),some (.ow (found.map .int)),some (.sh (.int pre.length)),o]).turn (cy iJ fH n'):=by
      conv=>lhs; unfold cy
      rw [hc]
      simp
     rw [step,ht]
     have hfa:PG.eI [] (pre.length:Int) (b ::cs) = match PG.spans b with
      | some ws=>PG.eI ws (pre.length + 1) cs
      | none=>(pre.length:Int):=rfl
     rw [hfa]
     cases hs:PG.spans b with
     | none=>
       have hp0:(0:Int) <= (pre.length:Int):=Int.natCast_nonneg _
       refine ⟨fun h=>?_,fun h=>⟨hp0,_,rfl⟩⟩
       have h':(pre.length:Int) = -1:=h
       rw [h'] at hp0
       exact absurd hp0 (by decide)
     | some ss=>
       dsimp only
       rw [PG.tF]
       cases he:PG.eat ss cs with
       | some k=>
         have hp0:(0:Int) <= (pre.length:Int) + 1 + (k:Int):=Int.add_nonneg (Int.add_nonneg (Int.natCast_nonneg _) (by decide)) (Int.natCast_nonneg _)
         refine ⟨fun h=>?_,fun h=>⟨hp0,_,rfl⟩⟩
         have h':(pre.length:Int) + 1 + (k:Int) = -1:=h
         rw [h'] at hp0
         exact absurd hp0 (by decide)
       | none=>
         dsimp only
         have hlen:=PG.v8 ss cs he
         obtain ⟨hp,hv,h3⟩:=PG.wJ hs he
         have e0:pre ++ b ::cs = (pre ++ b ::cs.take ss.length) ++ cs.drop ss.length:=by simp
         have e1:((pre ++ b ::cs.take ss.length).length:Int) = pre.length + 1 + ss.length:=by
          rw [List.length_append,List.length_cons,List.length_take]; omega
         rw [List.length_cons] at hr hf
         obtain ⟨i1,i2⟩:=ih (pre ++ b ::cs.take ss.length) (cs.drop ss.length) (found ++ [PG.val b (cs.take ss.length)]) (some (.sh (.int (pre.length + 1 + ss.length)))) n' (by rw [List.length_drop]; omega) (by rw [List.length_append,List.length_drop]; simp; omega) (by omega)
         rw [<- e0,e1] at i1 i2
         refine ⟨fun h=>?_,fun h=>?_⟩
         . obtain ⟨L,o',hL,hfl,e⟩:=i1 h
           refine ⟨PG.val b (cs.take ss.length) ::L,o',by simp [hp,hL],?_,?_⟩
           . rw [List.flatMap_cons,hv,hfl]; simp
           . rw [gW,e]
             have e4:((pre.length:Int) + 1 + ss.length + (cs.drop ss.length).length) = pre.length + (b ::cs).length:=by rw [List.length_drop,List.length_cons]; omega
             rw [e4]
             simp
         . obtain ⟨h0,ρ,e⟩:=i2 h
           exact ⟨h0,ρ,by rw [gW,e]⟩
theorem Dj (row:List Int) (h:row.length <= 500):
  (PG.eI [] 0 row = -1 -> ∃ L:List Int,L.all PG.dJ = true /\ L.flatMap PG.aW = row /\ iZ [.lst (row.map .int)] = .ok (.fr (L.map .int))) /\
  (PG.eI [] 0 row ≠ -1 -> 0 <= PG.eI [] 0 row /\ iZ [.lst (row.map .int)] = .exc "Fault" [("at",.int (PG.eI [] 0 row))]):=by
 obtain ⟨h1,h2⟩:=Dc row.length [] row [] none fuel (Nat.le_refl _) (by simp; omega) (by unfold fuel; omega)
 simp only [List.nil_append,List.length_nil,List.map_nil] at h1 h2
 refine ⟨fun hf=>?_,fun hf=>?_⟩
 . obtain ⟨L,o',hL,hfl,e⟩:=h1 hf
   refine ⟨L,hL,hfl,?_⟩
   simp only [Int.ofNat_zero,Int.cast_ofNat_Int] at e
   simp [iZ,nR,o7,pe,pE,e]
 . obtain ⟨h0,ρ,e⟩:=h2 hf
   refine ⟨h0,?_⟩
   simp only [Int.ofNat_zero,Int.cast_ofNat_Int] at e
   simp [iZ,nR,o7,pe,pE,e]
theorem pG (b:Int):fh [.int b] = .ok (.sh (.bl (PG.wht b))):=by
 simp -implicitDefEqProofs [ji,fh,gIn,gP,cz,kJ,PG.wht]
 simp [Bool.beq_eq_decide_eq]
theorem oh (b:Int):eR [.int b] = .ok (.sh (.bl (PG.fig b))):=by
 by_cases h:48 <= b <;> simp -implicitDefEqProofs [jq,eR,PG.fig,h]
theorem nV (b:Int):d7 [.int b] = .ok (.sh (match PG.dM b with | some w=>.int w | none=>.non)):=by
 unfold PG.dM
 by_cases h1:48 <= b <;> by_cases h2:b <= 57 <;> by_cases h3:65 <= b <;> by_cases h4:b <= 70 <;> by_cases h5:97 <= b <;> by_cases h6:b <= 102 <;> first | omega | simp -implicitDefEqProofs [o3,oY,oV,jr,d7,oh,PG.fig,h1,h2,h3,h4,h5,h6]
theorem Cd (b:Int):eN [.int b] = .ok (match PG.tls b with | some l=>.fr (l.map PG.bg) | none=>.sh .non):=by
 have h3:bK [.int b] = .ok (.sh (PG.bg (if b = 224 then .sp 160 191 else if b = 237 then .sp 128 159 else .sp 128 191))):=by
  by_cases h1:b = 224
  . simp [eL,eK,dz,bK,h1,PG.bg]
  . by_cases h2:b = 237 <;> simp [eL,eK,dz,bK,h1,h2,PG.bg]
 have h4:bO [.int b] = .ok (.sh (PG.bg (if b = 240 then .sp 144 191 else if b = 244 then .sp 128 143 else .sp 128 191))):=by
  by_cases h1:b = 240
  . simp [fc,eV,dS,bO,h1,PG.bg]
  . by_cases h2:b = 244 <;> simp [fc,eV,dS,bO,h1,h2,PG.bg]
 unfold PG.tls
 by_cases h0:0 <= b /\ b < 128
 . simp [fV,fS,fZ,fT,gU,eN,h0.1,h0.2]
 . by_cases ha:194 <= b /\ b < 224
   . have:¬ b < 128:=by omega
     have z:0 <= b:=by omega
     simp [fV,fS,fZ,fT,gU,eN,ha.1,ha.2,z,this,PG.bg]
   . by_cases hb:224 <= b /\ b < 240
     . have z1:¬ b < 128:=by omega
       have z2:¬ b < 224:=by omega
       have z:0 <= b:=by omega
       have z3:194 <= b:=by omega
       simp [fV,fS,fZ,fT,gU,eN,hb.1,hb.2,z,z1,z2,z3,h3]
       simp [PG.bg]
     . by_cases hc:240 <= b /\ b < 245
       . have z1:¬ b < 128:=by omega
         have z2:¬ b < 224:=by omega
         have z:0 <= b:=by omega
         have z3:194 <= b:=by omega
         have z4:224 <= b:=by omega
         have z5:¬ b < 240:=by omega
         simp [fV,fS,fZ,fT,gU,eN,hc.1,hc.2,z,z1,z2,z3,z4,z5,h4]
         simp [PG.bg]
       . simp only [h0,ha,hb,hc,if_false]
         by_cases g0:0 <= b <;> by_cases g1:b < 128 <;> by_cases g2:194 <= b <;> by_cases g3:b < 224 <;> by_cases g4:224 <= b <;> by_cases g5:b < 240 <;> by_cases g6:240 <= b <;> by_cases g7:b < 245 <;> first | omega | simp [fV,fS,fZ,fT,gU,eN,g0,g1,g2,g3,g4,g5,g6,g7]
noncomputable def rI:Option (List PG.It) -> RV
 | some l=>.fr (l.map PG.bg)
 | none=>.sh .non
theorem oX (b:Int):dw [.int b] = .ok (rI (PG.mx b)):=by
 unfold PG.mx
 by_cases h0:b = 48
 . simp [km,kn,gH,dw,h0,rI,PG.bg]
 . by_cases h1:48 <= b <;> by_cases h2:b <= 57 <;> simp [km,kn,gH,dw,h0,h1,h2,oh,PG.fig,rI,PG.bg]
theorem nN (b:Int):bB [.int b] = .ok (rI (PG.nP b)):=by
 unfold PG.nP
 by_cases h1:b = 91
 . simp [cM,cO,cN,cP,cL,cH,cJ,cq,bB,h1,rI,PG.bg]
 by_cases h2:b = 123
 . simp [cM,cO,cN,cP,cL,cH,cJ,cq,bB,h2,rI,PG.bg]
 by_cases h3:b = 34
 . simp [cM,cO,cN,cP,cL,cH,cJ,cq,bB,h3,rI,PG.bg]
 by_cases h4:b = 45
 . simp [cM,cO,cN,cP,cL,cH,cJ,cq,bB,h4,rI,PG.bg]
 by_cases h5:b = 110
 . simp [cM,cO,cN,cP,cL,cH,cJ,cq,bB,h5,rI,PG.bg,hJ,eQ,gO,cu,su,dI,dO,List.lookup]
 by_cases h6:b = 116
 . simp [cM,cO,cN,cP,cL,cH,cJ,cq,bB,h6,rI,PG.bg,hJ,eQ,gO,cu,su,dI,dO,List.lookup]
 by_cases h7:b = 102
 . simp [cM,cO,cN,cP,cL,cH,cJ,cq,bB,h7,rI,PG.bg,hJ,eQ,gO,cu,su,dI,dO,List.lookup]
 have z5:(b == 110) = false:=by simpa using h5
 have z6:(b == 116) = false:=by simpa using h6
 have z7:(b == 102) = false:=by simpa using h7
 simp [cM,cO,cN,cP,cL,cH,cJ,cq,bB,h1,h2,h3,h4,h5,h6,h7,z5,z6,z7,hJ,eQ,gO,cu,List.lookup,oX]
 cases PG.mx b <;> simp [rI]
theorem o1:dX [] = .ok (.fr (PG.sJ.map PG.bg)):=by
 simp [iX,dX,PG.sJ,PG.bg]
theorem lP (it:PG.It) (b:Int) (h:it = .lead \/ it = .figures \/ it = .fraction \/ it = .exponent \/ it = .sign):aX [PG.bg it,.int b] = .ok (rI (PG.bh it b)):=by
 rcases h with rfl | rfl | rfl | rfl | rfl
 . simp [bG,bE,bH,bF,bA,aX,PG.bg,gEq,eqS,aN,oX]
   cases e:PG.mx b <;> simp [PG.bh,rI,e]
 . by_cases h1:48 <= b <;> by_cases h2:b <= 57 <;> simp [bG,bE,bH,bF,bA,aX,PG.bg,gEq,eqS,aN,oh,PG.fig,PG.bh,rI,h1,h2]
 . by_cases h1:b = 46 <;> simp [bG,bE,bH,bF,bA,aX,PG.bg,gEq,eqS,aN,PG.bh,rI,h1]
 . by_cases h1:b = 101
   . simp [bG,bE,bH,bF,bA,aX,PG.bg,gEq,eqS,aN,PG.bh,rI,h1,gIn,gP,cz,kJ]
   . by_cases h2:b = 69
     . simp [bG,bE,bH,bF,bA,aX,PG.bg,gEq,eqS,aN,PG.bh,rI,h2,gIn,gP,cz,kJ]
     . have z1:¬ 101 = b:=fun z=>h1 z.symm
       have z2:¬ 69 = b:=fun z=>h2 z.symm
       simp [bG,bE,bH,bF,bA,aX,PG.bg,gEq,eqS,aN,PG.bh,rI,h1,h2,z1,z2,gIn,gP,cz,kJ]
 . by_cases h1:b = 43
   . simp [bG,bE,bH,bF,bA,aX,PG.bg,gEq,eqS,aN,PG.bh,rI,h1,gIn,gP,cz,kJ]
   . by_cases h2:b = 45
     . simp [bG,bE,bH,bF,bA,aX,PG.bg,gEq,eqS,aN,PG.bh,rI,h2,gIn,gP,cz,kJ]
     . have z1:¬ 43 = b:=fun z=>h1 z.symm
       have z2:¬ 45 = b:=fun z=>h2 z.symm
       simp [bG,bE,bH,bF,bA,aX,PG.bg,gEq,eqS,aN,PG.bh,rI,h1,h2,z1,z2,gIn,gP,cz,kJ]
theorem sY (b:Int):∃ x,bt [.int b] = .ok (.sh x) /\ cu x = !PG.vv b:=by
 unfold PG.vv
 by_cases h1:b = 34
 . exact ⟨.int 34,by simp [bR,bt,gO,List.lookup,h1],by simp [cu,h1]⟩
 by_cases h2:b = 92
 . exact ⟨.int 92,by simp [bR,bt,gO,List.lookup,h2],by simp [cu,h2]⟩
 by_cases h3:b = 47
 . exact ⟨.int 47,by simp [bR,bt,gO,List.lookup,h3],by simp [cu,h3]⟩
 by_cases h4:b = 98
 . exact ⟨.int 8,by simp [bR,bt,gO,List.lookup,h4],by simp [cu,h4]⟩
 by_cases h5:b = 102
 . exact ⟨.int 12,by simp [bR,bt,gO,List.lookup,h5],by simp [cu,h5]⟩
 by_cases h6:b = 110
 . exact ⟨.int 10,by simp [bR,bt,gO,List.lookup,h6],by simp [cu,h6]⟩
 by_cases h7:b = 114
 . exact ⟨.int 13,by simp [bR,bt,gO,List.lookup,h7],by simp [cu,h7]⟩
 by_cases h8:b = 116
 . exact ⟨.int 9,by simp [bR,bt,gO,List.lookup,h8],by simp [cu,h8]⟩
 have zz:∀ k:Int,¬ b = k -> (b == k) = false:=fun k h=>by simpa using h
 exact ⟨.non,by simp [bR,bt,gO,List.lookup,zz _ h1,zz _ h2,zz _ h3,zz _ h4,zz _ h5,zz _ h6,zz _ h7,zz _ h8],by simp [cu,h1,h2,h3,h4,h5,h6,h7,h8]⟩
theorem pb (b:Int):cn [.int b] = .ok (rI (PG.Dy b)):=by
 obtain ⟨x,hx,hn⟩:=sY b
 unfold PG.Dy
 by_cases h1:b = 117
 . simp [fi,cn,h1,rI,PG.bg]
 . cases hs:PG.vv b <;> rw [hs] at hn <;> simp at hn <;> simp [fi,cn,h1,hx,hn,rI]
theorem Ff (b:Int) (l:List PG.It) (h:PG.tls b = some l):l.length <= 3:=by
 unfold PG.tls at h
 repeat' split at h
 all_goals (first | (cases h; done) | (injection h with h; subst h; simp))
theorem ph (b:Int):bL [.int b] = .ok (rI (PG.qA b)):=by
 have ht:=Cd b
 unfold PG.qA
 by_cases h1:b = 34
 . simp [dZ,ee,d3,d6,cZ,bL,h1,rI]
 by_cases h2:b = 92
 . simp [dZ,ee,d3,d6,cZ,bL,h2,rI,PG.bg]
 cases e:PG.tls b with
 | none=>
   rw [e] at ht
   by_cases h3:b < 32 <;> simp [dZ,ee,d3,d6,cZ,bL,h1,h2,h3,rI,ht,cu]
 | some l=>
   rw [e] at ht
   have hl:l.length + 1 <= lim:=kR (by have:=Ff b l e; omega)
   by_cases h3:b < 32 <;> simp [dZ,ee,d3,d6,cZ,bL,h1,h2,h3,rI,ht,cu,hl,PG.bg]
theorem rj (w:Int):cU [.int w] = .ok (rI (PG.yA w)):=by
 unfold PG.yA
 by_cases h1:w < 8
 . simp [jC,jz,gF,cU,h1,rI,PG.bg]
 . by_cases h2:w < 12 <;> simp [jC,jz,gF,cU,h1,h2,rI,PG.bg]
theorem rD (it:PG.It) (b:Int) (h:it = .text \/ it = .escape \/ it = .code \/ it = .coded):bJ [PG.bg it,.int b] = .ok (rI (PG.bh it b)):=by
 have hw:=nV b
 rcases h with rfl | rfl | rfl | rfl
 . simp [dj,df,dn,de,dm,cK,bJ,PG.bg,gEq,eqS,aN,ph]
   cases e:PG.qA b <;> simp [PG.bh,rI,e]
 . simp [dj,df,dn,de,dm,cK,bJ,PG.bg,gEq,eqS,aN,pb]
   cases e:PG.Dy b <;> simp [PG.bh,rI,e]
 . cases e:PG.dM b with
   | none=>
     rw [e] at hw
     simp [dj,df,dn,de,dm,cK,bJ,PG.bg,gEq,eqS,aN,hw,cu,PG.bh,e,rI]
   | some w=>
     rw [e] at hw
     by_cases h13:w = 13 <;> simp [dj,df,dn,de,dm,cK,bJ,PG.bg,gEq,eqS,aN,hw,cu,PG.bh,e,rI,h13]
 . cases e:PG.dM b with
   | none=>
     rw [e] at hw
     simp [dj,df,dn,de,dm,cK,bJ,PG.bg,gEq,eqS,aN,hw,cu,PG.bh,e,rI]
   | some w=>
     rw [e] at hw
     simp [dj,df,dn,de,dm,cK,bJ,PG.bg,gEq,eqS,aN,hw,cu,PG.bh,e,rj]
     cases e2:PG.yA w <;> simp [rI]
theorem y6 (it:PG.It) (b:Int) (h:it = .hex \/ it = .hexd \/ it = .hexcf):dB [PG.bg it,.int b] = .ok (rI (PG.bh it b)):=by
 have hw:=nV b
 cases e:PG.dM b with
 | none=>
   rw [e] at hw
   rcases h with rfl | rfl | rfl <;> simp [iF,ir,gY,il,gA,dB,PG.bg,gEq,eqS,aN,hw,cu,PG.bh,e,rI]
 | some w=>
   rw [e] at hw
   rcases h with rfl | rfl | rfl
   . simp [iF,ir,gY,il,gA,dB,PG.bg,gEq,eqS,aN,hw,cu,PG.bh,e,rI]
   . by_cases h13:w = 13 <;> simp [iF,ir,gY,il,gA,dB,PG.bg,gEq,eqS,aN,hw,cu,PG.bh,e,rI,h13]
   . by_cases h13:12 <= w <;> simp [iF,ir,gY,il,gA,dB,PG.bg,gEq,eqS,aN,hw,cu,PG.bh,e,rI,h13]
theorem AM (b:Int) (l:List PG.It) (h:PG.nP b = some l):l.length <= 5:=by
 unfold PG.nP PG.mx at h
 repeat' split at h
 all_goals (first | (cases h; done) | (injection h with h; subst h; decide))
theorem o8 (b:Int):b5 [.int b] = .ok (rI (PG.bh .row b)):=by
 have hv:=nN b
 by_cases h1:b = 93
 . simp [fu,fA,dU,b5,h1,rI,PG.bh]
 cases e:PG.nP b with
 | none=>rw [e] at hv; simp [fu,fA,dU,b5,h1,hv,rI,PG.bh,e,cu]
 | some l=>
   rw [e] at hv
   have hl:l.length + 2 <= lim:=kR (by have:=AM b l e; omega)
   simp [fu,fA,dU,b5,h1,hv,rI,PG.bh,e,cu,PG.bg,hl]
theorem nL (b:Int):bM [.int b] = .ok (rI (PG.bh .fields b)):=by
 by_cases h1:b = 125
 . simp [dP,bM,h1,rI,PG.bh]
 by_cases h2:b = 34 <;> simp [dP,bM,h1,h2,rI,PG.bh,o1,PG.sJ,PG.bg]
theorem lx (it:PG.It) (b:Int) (h:it = .row \/ it = .mrow \/ it = .fields \/ it = .mfields):bj [PG.bg it,.int b] = .ok (rI (PG.bh it b)):=by
 rcases h with rfl | rfl | rfl | rfl
 . simp [cp,cj,ck,cg,bP,bj,PG.bg,gEq,eqS,aN,o8]
   cases e:PG.bh .row b <;> simp [rI]
 . by_cases h1:b = 44
   . simp [cp,cj,ck,cg,bP,bj,PG.bg,gEq,eqS,aN,h1,PG.bh,rI]
   . by_cases h2:b = 93 <;> simp [cp,cj,ck,cg,bP,bj,PG.bg,gEq,eqS,aN,h1,h2,PG.bh,rI]
 . simp [cp,cj,ck,cg,bP,bj,PG.bg,gEq,eqS,aN,nL]
   cases e:PG.bh .fields b <;> simp [rI]
 . by_cases h1:b = 44
   . simp [cp,cj,ck,cg,bP,bj,PG.bg,gEq,eqS,aN,h1,PG.bh,rI,o1,PG.sJ]
   . by_cases h2:b = 125 <;> simp [cp,cj,ck,cg,bP,bj,PG.bg,gEq,eqS,aN,h1,h2,PG.bh,rI]
theorem Bl (it:PG.It) (b:Int):cf [PG.bg it,.int b] = .ok (rI (PG.bh it b)):=by
 cases it with
 | sp lo hi=>by_cases h1:lo <= b <;> by_cases h2:b <= hi <;> simp [bX,bY,bZ,b4,b0,b6,bW,cD,cf,PG.bg,isP,h1,h2,PG.bh,rI]
 | white=>
   cases h:PG.wht b <;> simp [bX,bY,bZ,b4,b0,b6,bW,cD,cf,PG.bg,isP,gIn,gP,cz,gEq,eqS,aN,pG,h,PG.bh,rI]
 | name=>by_cases h:b = 34 <;> simp [bX,bY,bZ,b4,b0,b6,bW,cD,cf,PG.bg,isP,gIn,gP,cz,gEq,eqS,aN,h,PG.bh,rI]
 | value=>
   have:=nN b
   simp [bX,bY,bZ,b4,b0,b6,bW,cD,cf,PG.bg,isP,gIn,gP,cz,gEq,eqS,aN,this,PG.bh]
   cases PG.nP b <;> simp [rI]
 | lead=>
   have:=lP .lead b (by simp)
   simp only [PG.bg] at this
   simp [bX,bY,bZ,b4,b0,b6,bW,cD,cf,PG.bg,isP,gIn,gP,cz,this]
   cases PG.bh .lead b <;> simp [rI]
 | figures=>
   have:=lP .figures b (by simp)
   simp only [PG.bg] at this
   simp [bX,bY,bZ,b4,b0,b6,bW,cD,cf,PG.bg,isP,gIn,gP,cz,this]
   cases PG.bh .figures b <;> simp [rI]
 | fraction=>
   have:=lP .fraction b (by simp)
   simp only [PG.bg] at this
   simp [bX,bY,bZ,b4,b0,b6,bW,cD,cf,PG.bg,isP,gIn,gP,cz,this]
   cases PG.bh .fraction b <;> simp [rI]
 | exponent=>
   have:=lP .exponent b (by simp)
   simp only [PG.bg] at this
   simp [bX,bY,bZ,b4,b0,b6,bW,cD,cf,PG.bg,isP,gIn,gP,cz,this]
   cases PG.bh .exponent b <;> simp [rI]
 | sign=>
   have:=lP .sign b (by simp)
   simp only [PG.bg] at this
   simp [bX,bY,bZ,b4,b0,b6,bW,cD,cf,PG.bg,isP,gIn,gP,cz,this]
   cases PG.bh .sign b <;> simp [rI]
 | text=>
   have:=rD .text b (by simp)
   simp only [PG.bg] at this
   simp [bX,bY,bZ,b4,b0,b6,bW,cD,cf,PG.bg,isP,gIn,gP,cz,this]
   cases PG.bh .text b <;> simp [rI]
 | escape=>
   have:=rD .escape b (by simp)
   simp only [PG.bg] at this
   simp [bX,bY,bZ,b4,b0,b6,bW,cD,cf,PG.bg,isP,gIn,gP,cz,this]
   cases PG.bh .escape b <;> simp [rI]
 | code=>
   have:=rD .code b (by simp)
   simp only [PG.bg] at this
   simp [bX,bY,bZ,b4,b0,b6,bW,cD,cf,PG.bg,isP,gIn,gP,cz,this]
   cases PG.bh .code b <;> simp [rI]
 | coded=>
   have:=rD .coded b (by simp)
   simp only [PG.bg] at this
   simp [bX,bY,bZ,b4,b0,b6,bW,cD,cf,PG.bg,isP,gIn,gP,cz,this]
   cases PG.bh .coded b <;> simp [rI]
 | hex=>
   have:=y6 .hex b (by simp)
   simp only [PG.bg] at this
   simp [bX,bY,bZ,b4,b0,b6,bW,cD,cf,PG.bg,isP,gIn,gP,cz,this]
   cases PG.bh .hex b <;> simp [rI]
 | hexd=>
   have:=y6 .hexd b (by simp)
   simp only [PG.bg] at this
   simp [bX,bY,bZ,b4,b0,b6,bW,cD,cf,PG.bg,isP,gIn,gP,cz,this]
   cases PG.bh .hexd b <;> simp [rI]
 | hexcf=>
   have:=y6 .hexcf b (by simp)
   simp only [PG.bg] at this
   simp [bX,bY,bZ,b4,b0,b6,bW,cD,cf,PG.bg,isP,gIn,gP,cz,this]
   cases PG.bh .hexcf b <;> simp [rI]
 | row=>
   have:=lx .row b (by simp)
   simp only [PG.bg] at this
   simp [bX,bY,bZ,b4,b0,b6,bW,cD,cf,PG.bg,isP,gIn,gP,cz,this]
   cases PG.bh .row b <;> simp [rI]
 | mrow=>
   have:=lx .mrow b (by simp)
   simp only [PG.bg] at this
   simp [bX,bY,bZ,b4,b0,b6,bW,cD,cf,PG.bg,isP,gIn,gP,cz,this]
   cases PG.bh .mrow b <;> simp [rI]
 | fields=>
   have:=lx .fields b (by simp)
   simp only [PG.bg] at this
   simp [bX,bY,bZ,b4,b0,b6,bW,cD,cf,PG.bg,isP,gIn,gP,cz,this]
   cases PG.bh .fields b <;> simp [rI]
 | mfields=>
   have:=lx .mfields b (by simp)
   simp only [PG.bg] at this
   simp [bX,bY,bZ,b4,b0,b6,bW,cD,cf,PG.bg,isP,gIn,gP,cz,this]
   cases PG.bh .mfields b <;> simp [rI]
noncomputable abbrev cm (st:List PG.It):List PV:=st.reverse.map PG.bg
theorem wy (st:List PG.It):PG.wk st = .ob "Walk" ["coming"] [.ol ((cm st).map .sh)]:=rfl
theorem yy (st:List PG.It):(PG.wk st).get [.fd "coming"] = some (.ol ((cm st).map .sh)):=by
 simp [wy,OV.get,OV.at1,nT]
theorem CI (st:List PG.It) (t:OV):(PG.wk st).put [.fd "coming"] t = .ob "Walk" ["coming"] [t]:=by
 simp [wy,OV.put,OV.at1,OV.Dk,nT,tP]
theorem x9 {ρ:ag} {i:Nat} {s:Sl} {st:List PG.It} (h:ρ[i]? = some (some s)) (hs:slT s = some (PG.wk st)):subAt i fQ ρ = some (PG.wk st):=by
 unfold subAt kq fQ; rw [h]; simp [hs]
theorem yO {ρ:ag} {i:Nat} {s:Sl} {st:List PG.It} (h:ρ[i]? = some (some s)) (hs:slT s = some (PG.wk st)):pFd i fQ "coming" nJ ρ = some [.fd "coming"]:=by
 unfold pFd
 rw [x9 h hs,wy]
 simp [nJ,nT,fQ]
theorem vA {ρ:ag} {i:Nat} {s:Sl} {st:List PG.It} (h:ρ[i]? = some (some s)) (hs:slT s = some (PG.wk st)):subAt i (pFd i fQ "coming" nJ) ρ = some (.ol ((cm st).map .sh)):=by
 unfold subAt kq
 rw [h,yO h hs]
 simp [hs,yy]
theorem Jp (it:PG.It):gR [some (.sh (PG.bg it))] = .ok (PG.opn it):=by
 cases it <;> simp -implicitDefEqProofs [gR,PG.bg,gIn,gP,cz,PG.opn,kJ]
theorem AL (l:List PG.It):i9 gR jL [] (l.map PG.bg) = .ok ((l.filter PG.opn).map PG.bg):=by
 induction l with
 | nil=>rfl
 | cons it l ih=>
   rw [List.map_cons]
   unfold i9
   have h:=Jp it
   have he:jL [some (.sh (PG.bg it))] = .ok (.sh (PG.bg it)):=rfl
   cases e:PG.opn it <;> rw [e] at h <;> simp [h,ih,e,he]
theorem yE (st:List PG.It) (hl:st.length <= 100000):cE [.bo (PG.wk st)] = .ok (.int (PG.cnt st)) [none]:=by
 have hp:qT 0 (pFd 0 fQ "coming" nJ) [some (.bo (PG.wk st))] = .ok (.al (cm st)):=by
  unfold qT
  rw [vA (s:=.bo (PG.wk st)) rfl rfl]
  simp only [uJ]
 have hc:(st.reverse.filter PG.opn).length = PG.cnt st:=by unfold PG.cnt; rw [List.filter_reverse,List.length_reverse]
 have hn:PG.cnt st <= lim:=kR (by unfold PG.cnt; have:=List.length_filter_le PG.opn st; omega)
 have he:=AL st.reverse
 simp -implicitDefEqProofs only [cE,nh,fnI,mz,sA,hp,dO,List.map_nil,he,BZ,CB,List.map_cons,List.length_cons,List.length_nil,List.replicate,List.append_nil,qd,F5,CN,List.length_map,hc,hn,if_true,Ha,y9,jl,FL,Nat.sub_self,yP]
 rfl
theorem Ek (it:PG.It):pj (PG.bg it) (.tup [.str "white",.str "figures",.str "fraction",.str "exponent",.str "sign"]) = some (.sh (.bl (!PG.loose it))):=by
 cases it <;> simp -implicitDefEqProofs [PG.bg,pj,gP,cz,PG.loose,kJ]
theorem Dv (it:PG.It):gIn (PG.bg it) (.tup [.str "white",.str "figures",.str "fraction",.str "exponent",.str "sign"]) = some (.sh (.bl (PG.loose it))):=by
 cases it <;> simp -implicitDefEqProofs [PG.bg,gIn,gP,cz,PG.loose,kJ]
theorem G5 {ρ:ag} {i:Nat} {io:Bool} {it:PG.It} {st:List PG.It} (h:ρ[i]? = some (some (.tr io (PG.wk (it ::st))))):sF i (pFd i fQ "coming" nJ) ρ = .ok (ρ.set i (some (.tr io (PG.wk st)))) (.sh (PG.bg it)):=by
 have hc:(cm (it ::st)).map OV.sh = (cm st).map OV.sh ++ [.sh (PG.bg it)]:=by simp [cm]
 unfold sF
 rw [h,yO h rfl]
 simp only [yy,hc,List.getLast?_concat,List.dropLast_concat,CI]
 rfl
theorem GY {ρ:ag} {i:Nat} {io:Bool} {l st:List PG.It} {me:ag -> OE} (h:ρ[i]? = some (some (.tr io (PG.wk st)))) (he:me ρ = .ok (.fr (l.map PG.bg).reverse)) (hl:st.length + l.length <= 100000):
  nM i (pFd i fQ "coming" nJ) me ρ = .nx (ρ.set i (some (.tr io (PG.wk (l ++ st))))):=by
 have hc:(cm (l ++ st)).map OV.sh = (cm st).map OV.sh ++ (l.map PG.bg).reverse.map .sh:=by simp [cm]
 have hl2:st.length + l.length <= lim:=kR (by omega)
 unfold nM Af
 rw [h,yO h rfl]
 simp only [yy,he,jl,List.length_map,List.length_reverse,hl2,if_true,CI]
 rw [wy,hc]
theorem x5 {ρ:ag} {i:Nat} {io:Bool} {st:List PG.It} (h:ρ[i]? = some (some (.tr io (PG.wk st)))):p7 i (pFd i fQ "coming" nJ) ρ = .ok (!st.isEmpty):=by
 unfold p7
 rw [vA h rfl]
 cases st <;> simp [cm]
theorem EA {ρ:ag} {i:Nat} {io:Bool} {st:List PG.It} (h:ρ[i]? = some (some (.tr io (PG.wk st)))) (hl:st.length <= 100000):mU "Walk" "brackets" cE [.b i fQ] ρ = .ok (.sh (.int (PG.cnt st))):=by
 have ha:mP (.b i fQ) ρ = some (.bo (PG.wk st)):=by
  simp only [mP]
  rw [x9 h rfl]
  rfl
 have hr:recv "Walk" "brackets" (some (.bo (PG.wk st))) = true:=by
  rw [wy]
  simp [recv,aN]
 simp only [mU,ha,hr,if_true,vC,mf,Option.bind_some,Option.map_some,yE st hl]
theorem AZ (b:Int) (it:PG.It) (st:List PG.It) (io:Bool) (x y:Option Sl) (hl:st.length + 8 <= 100000):iP [some (.tr io (PG.wk (it ::st))),some (.sh (.int b)),x,y] =
  match PG.bh it b with
  | some l=>.rt [some (.tr io (PG.wk (l ++ st))),some (.sh (.int b)),some (.sh (PG.bg it)),some (.ow (l.map PG.bg))] (.sh (.bl (decide (PG.cnt (l ++ st) <= 64))))
  | none=>if PG.loose it then .nx [some (.tr io (PG.wk st)),some (.sh (.int b)),some (.sh (PG.bg it)),some (.sh .non)] else .rt [some (.tr io (PG.wk st)),some (.sh (.int b)),some (.sh (PG.bg it)),some (.sh .non)] (.sh (.bl false)):=by
 have h1:pS 2 (sF 0 (pFd 0 fQ "coming" nJ)) [some (.tr io (PG.wk (it ::st))),some (.sh (.int b)),x,y] = .nx [some (.tr io (PG.wk st)),some (.sh (.int b)),some (.sh (PG.bg it)),y]:=by
  unfold pS
  rw [G5 (it:=it) (st:=st) (io:=io) rfl]
  rfl
 have hb:=Bl it b
 have hlo:=Ek it
 unfold iP
 simp only [lM,h1,ip]
 cases e:PG.bh it b with
 | none=>
   rw [e] at hb
   cases e2:PG.loose it <;> rw [e2] at hlo <;> simp -implicitDefEqProofs [hb,rI,cu,hlo]
 | some l=>
   rw [e] at hb
   have hll:=PG.B8 it b l e
   have h2:nM 0 (pFd 0 fQ "coming" nJ) (Es (aw 3) (mUn AX (mC (.int 1)))) [some (.tr io (PG.wk st)),some (.sh (.int b)),some (.sh (PG.bg it)),some (.ow (l.map PG.bg))] = .nx [some (.tr io (PG.wk (l ++ st))),some (.sh (.int b)),some (.sh (PG.bg it)),some (.ow (l.map PG.bg))]:=
    GY (io:=io) rfl (by simp [Es]) (by omega)
   have h3:mU "Walk" "brackets" cE [.b 0 fQ] [some (.tr io (PG.wk (l ++ st))),some (.sh (.int b)),some (.sh (PG.bg it)),some (.ow (l.map PG.bg))] = .ok (.sh (.int (PG.cnt (l ++ st)))):=EA (io:=io) rfl (by simp; omega)
   have h4:(decide ((PG.cnt (l ++ st):Int) <= 64)) = decide (PG.cnt (l ++ st) <= 64):=by rw [decide_eq_decide]; omega
   simp -implicitDefEqProofs [hb,rI,cu,h2,h3,h4]
theorem AJ (b:Int) (io:Bool) (st:List PG.It):∀ (n:Nat) (x y:Option Sl),st.length < n -> st.length + 8 <= 100000 ->
  ∃ x' y',(cy iN iP n [some (.tr io (PG.wk st)),some (.sh (.int b)),x,y]).andThen (bq (mC (.bl false))) = .rt [some (.tr io (PG.wk (PG.gon st b).1)),some (.sh (.int b)),x',y'] (.sh (.bl (PG.gon st b).2)):=by
 induction st with
 | nil=>
   intro n x y hn hl
   obtain ⟨m,rfl⟩:∃ m,n = m + 1:=⟨n - 1,by simp at hn; omega⟩
   refine ⟨x,y,?_⟩
   have hc:iN [some (.tr io (PG.wk [])),some (.sh (.int b)),x,y] = .ok false:=x5 (i:=0) (ρ:=[some (.tr io (PG.wk [])),some (.sh (.int b)),x,y]) (io:=io) (st:=[]) rfl
   simp [cy,hc,PG.gon]
 | cons it st ih=>
   intro n x y hn hl
   obtain ⟨m,rfl⟩:∃ m,n = m + 1:=⟨n - 1,by simp at hn; omega⟩
   have hc:iN [some (.tr io (PG.wk (it ::st))),some (.sh (.int b)),x,y] = .ok true:=x5 (i:=0) (ρ:=[some (.tr io (PG.wk (it ::st))),some (.sh (.int b)),x,y]) (io:=io) (st:=it ::st) rfl
   have ht:=AZ b it st io x y (by simp at hl; omega)
   unfold PG.gon
   cases e:PG.bh it b with
   | some l=>
     rw [e] at ht
     exact ⟨some (.sh (PG.bg it)),some (.ow (l.map PG.bg)),by simp only [cy,hc,jf,if_true,ht,zk,sy]⟩
   | none=>
     rw [e] at ht
     dsimp only at ht ⊢
     cases e2:PG.loose it with
     | false=>
       rw [e2] at ht
       exact ⟨some (.sh (PG.bg it)),some (.sh .non),by simp only [cy,hc,jf,if_true,ht,zk,sy,Bool.false_eq_true,if_false]⟩
     | true=>
       rw [e2] at ht
       obtain ⟨x',y',h⟩:=ih m (some (.sh (PG.bg it))) (some (.sh .non)) (by simp at hn; omega) (by simp at hl; omega)
       exact ⟨x',y',by simp only [cy,hc,jf,if_true,ht,gW,h]⟩
theorem Be (b:Int) (st:List PG.It) (hl:st.length + 8 < 100000):d9 [.tr true (PG.wk st),.sh (.int b)] = .ok (.bl (PG.gon st b).2) [some (PG.wk (PG.gon st b).1),none]:=by
 obtain ⟨x',y',h⟩:=AJ b true st fuel none none (by unfold fuel; omega) (by omega)
 have e:jD [some (.tr true (PG.wk st)),some (.sh (.int b)),none,none] = _:=h
 show fnI 2 4 jD _ = _
 unfold fnI
 rw [if_pos (by rfl)]
 show yP 2 (jD [some (.tr true (PG.wk st)),some (.sh (.int b)),none,none]) = _
 rw [e]
 rfl
theorem Al (io:Bool) (rw:PV) (row:List Int):∀ (k:Nat) (st:List PG.It) (x y:Option Sl),st.length + 8 * row.length + 8 < 100000 ->
  ∃ x' y',mY 2 3 jZ (qS k (row.map .int)) [some (.tr io (PG.wk st)),some (.sh rw),x,y] = if (PG.tk st row).2 = row.length then .nx [some (.tr io (PG.wk (PG.tk st row).1)),some (.sh rw),x',y'] else .rt [some (.tr io (PG.wk (PG.tk st row).1)),some (.sh rw),x',y'] (.sh (.int ((k + (PG.tk st row).2:Nat):Int))):=by
 induction row with
 | nil=>intro k st x y hl; exact ⟨x,y,by simp [qS,mY,PG.tk]⟩
 | cons b row ih=>
   intro k st x y hl
   simp only [List.length_cons] at hl
   have hg:=Be b st (by omega)
   have hlen:=PG.zu st b
   have ht:jZ [some (.tr io (PG.wk st)),some (.sh rw),some (.sh (.int k)),some (.sh (.int b))] = if (PG.gon st b).2 then .nx [some (.tr io (PG.wk (PG.gon st b).1)),some (.sh rw),some (.sh (.int k)),some (.sh (.int b))] else .rt [some (.tr io (PG.wk (PG.gon st b).1)),some (.sh rw),some (.sh (.int k)),some (.sh (.int b))] (.sh (.int k)):=by
    have ha:mP (.t 0 fQ) [some (.tr io (PG.wk st)),some (.sh rw),some (.sh (.int k)),some (.sh (.int b))] = some (.tr true (PG.wk st)):=by simp [mP,fQ]
    have ha2:mP (.e (aw 3)) [some (.tr io (PG.wk st)),some (.sh rw),some (.sh (.int k)),some (.sh (.int b))] = some (.sh (.int b)):=by simp [mP]
    have hr:recv "Walk" "goes_on" (some (.tr true (PG.wk st))) = true:=by rw [wy]; simp [recv,aN]
    have hx:n9 "Walk" "goes_on" d9 [.t 0 fQ,.e (aw 3)] [some (.tr io (PG.wk st)),some (.sh rw),some (.sh (.int k)),some (.sh (.int b))] = .ok [some (.tr io (PG.wk (PG.gon st b).1)),some (.sh rw),some (.sh (.int k)),some (.sh (.int b))] (.sh (.bl (PG.gon st b).2)):=by
     simp only [n9,ha,hr,if_true,vc,mf,ha2,Option.bind_some,Option.map_some,hg]
     simp [gQ,lN,fQ]
    unfold jZ Fp
    rw [hx]
    cases (PG.gon st b).2 <;> simp
   unfold PG.tk
   simp only [List.map_cons,qS,mY,List.set_cons_succ,List.set_cons_zero,ht]
   cases e:(PG.gon st b).2 with
   | false=>exact ⟨some (.sh (.int k)),some (.sh (.int b)),by simp⟩
   | true=>
     obtain ⟨x',y',h⟩:=ih (k + 1) (PG.gon st b).1 (some (.sh (.int k))) (some (.sh (.int b))) (by omega)
     refine ⟨x',y',?_⟩
     simp only [if_true,gW,h,List.length_cons,Nat.add_right_cancel_iff]
     have:k + 1 + (PG.tk (PG.gon st b).1 row).2 = k + ((PG.tk (PG.gon st b).1 row).2 + 1):=by omega
     rw [this]
theorem HB (st:List PG.It) (row:List Int) (hl:st.length + 8 * row.length + 8 < 100000):gi [.tr true (PG.wk st),.sh (.lst (row.map .int))] = .ok (.int (PG.tk st row).2) [some (PG.wk (PG.tk st row).1),none]:=by
 obtain ⟨x',y',h⟩:=Al true (.lst (row.map .int)) row 0 st none none hl
 show fnI 2 4 lD _ = _
 unfold fnI
 rw [if_pos (by rfl)]
 show yP 2 (lD [some (.tr true (PG.wk st)),some (.sh (.lst (row.map .int))),none,none]) = _
 unfold lD zL
 simp only [lM,uY,List.getElem?_cons_succ,List.getElem?_cons_zero,jl,B6,h]
 by_cases e:(PG.tk st row).2 = row.length
 . simp [e,yP,uB]
 . simp [e,yP,uB]
theorem yD (st:List PG.It) (hl:st.length <= 100000):cV [.bo (PG.wk st)] = .ok (.bl (st.all PG.loose)) [none]:=by
 have hp:qT 0 (pFd 0 fQ "coming" nJ) [some (.bo (PG.wk st))] = .ok (.al (cm st)):=by
  unfold qT
  rw [vA (s:=.bo (PG.wk st)) rfl rfl]
  simp only [uJ]
 have hn:st.length <= lim:=kR (by omega)
 have he:dI jx [] (cm st) = .ok ((st.reverse.map PG.loose).map .bl):=by
  rw [List.map_map]
  refine qj _ fun it _=>?_
  simp [jx,Dv]
 have hb:AQ (.lst ((st.reverse.map PG.loose).map .bl)) = some (.sh (.bl (st.all PG.loose))):=by
  simp only [AQ,qP,Option.map_some]
  congr 3
  rw [List.all_map,List.all_reverse]
  rfl
 simp -implicitDefEqProofs only [cV,nB,fnI,mz,CO,hp,dO,List.map_nil,he,BZ,CB,List.map_cons,List.length_cons,List.length_nil,List.replicate,List.append_nil,qd,F5,CN,List.length_map,List.length_reverse,hn,if_true,hb,y9,jl,FL,Nat.sub_self,yP]
 rfl
theorem Hb:cX [.tr true (.ob "Walk" [] [])] = .ok .non [some (PG.wk PG.st0)]:=by
 rfl
theorem GC (row:List Int):∀ st,(PG.tk st row).1.length <= st.length + 8 * row.length + 8:=by
 induction row with
 | nil=>intro st; simp [PG.tk]
 | cons b row ih=>
   intro st
   have:=PG.zu st b
   have h2:=ih (PG.gon st b).1
   unfold PG.tk
   split <;> simp only [List.length_cons] <;> omega
noncomputable def ofO:Option Nat -> PV
 | some k=>.int k
 | none=>.non
theorem Fg (row:List Int) (hl:8 * row.length + 20 < 100000):ll [.lst (row.map .int)] = .ok (.sh (ofO (PG.flt row))):=by
 have ht:=HB PG.st0 row (by simp [PG.st0]; omega)
 have hlen:=GC row PG.st0
 have hw:=yD (PG.tk PG.st0 row).1 (by have:PG.st0.length = 3:=rfl; omega)
 have h0:uj "Walk" cX [some (.sh (.lst (row.map .int))),none,none] = .ok (PG.wk PG.st0):=by unfold uj; rw [Hb]
 have h1:pS 2 (n9 "Walk" "take" gi [.t 1 fQ,.e (aw 0)]) [some (.sh (.lst (row.map .int))),some (.tr false (PG.wk PG.st0)),none] = .nx [some (.sh (.lst (row.map .int))),some (.tr false (PG.wk (PG.tk PG.st0 row).1)),some (.sh (.int (PG.tk PG.st0 row).2))]:=by
  have ha:mP (.t 1 fQ) [some (.sh (.lst (row.map .int))),some (.tr false (PG.wk PG.st0)),none] = some (.tr true (PG.wk PG.st0)):=by simp [mP,fQ]
  have ha2:mP (.e (aw 0)) [some (.sh (.lst (row.map .int))),some (.tr false (PG.wk PG.st0)),none] = some (.sh (.lst (row.map .int))):=by simp [mP]
  have hr:recv "Walk" "take" (some (.tr true (PG.wk PG.st0))) = true:=by rw [wy]; simp [recv,aN]
  unfold pS
  simp only [n9,ha,hr,if_true,vc,mf,ha2,Option.bind_some,Option.map_some,ht]
  simp [gQ,lN,fQ,nio]
 have h2:mU "Walk" "is_whole" cV [.b 1 fQ] [some (.sh (.lst (row.map .int))),some (.tr false (PG.wk (PG.tk PG.st0 row).1)),some (.sh (.int (PG.tk PG.st0 row).2))] = .ok (.sh (.bl ((PG.tk PG.st0 row).1.all PG.loose))):=by
  have ha:mP (.b 1 fQ) [some (.sh (.lst (row.map .int))),some (.tr false (PG.wk (PG.tk PG.st0 row).1)),some (.sh (.int (PG.tk PG.st0 row).2))] = some (.bo (PG.wk (PG.tk PG.st0 row).1)):=by
   simp only [mP]
   rw [x9 (s:=.tr false (PG.wk (PG.tk PG.st0 row).1)) rfl rfl]
   rfl
  have hr:recv "Walk" "is_whole" (some (.bo (PG.wk (PG.tk PG.st0 row).1))) = true:=by rw [wy]; simp [recv,aN]
  simp only [mU,ha,hr,if_true,vC,mf,Option.bind_some,Option.map_some,hw]
 unfold PG.flt
 have hd:oW 1 (uj "Walk" cX) [some (.sh (.lst (row.map .int))),none,none] = .nx [some (.sh (.lst (row.map .int))),some (.tr false (PG.wk PG.st0)),none]:=by
  unfold oW; rw [h0]; rfl
 simp -implicitDefEqProofs only [ll,xD,nQ,rq,List.map_cons,List.map_nil,List.length_cons,List.length_nil,List.cons_append,List.nil_append,List.replicate,lM,hd,ip,uz,h1,ug,HV,Ef,DO,Ju,uY,List.getElem?_cons_succ,List.getElem?_cons_zero,CB,qd,BX,h2]
 by_cases e:(PG.tk PG.st0 row).2 = row.length
 . cases e2:(PG.tk PG.st0 row).1.all PG.loose <;> simp [e,qx,ofO]
 . have e3:¬ ((PG.tk PG.st0 row).2:Int) = (row.length:Int):=by omega
   simp [e,e3,qx,ofO]
theorem B1 (row:List Int) (hl:8 * row.length + 20 < 100000):dF [.lst (row.map .int)] = match PG.flt row with
  | some k=>.exc "Fault" [("at",.int k)]
  | none=>.ok (.sh .non):=by
 have h:=Fg row hl
 cases e:PG.flt row with
 | none=>rw [e] at h; simp -implicitDefEqProofs [ie,dF,h,ofO,cu]
 | some k=>rw [e] at h; simp -implicitDefEqProofs [ie,dF,h,ofO,cu]
theorem zr (xs ys zs:List Int):tS ((xs ++ ys ++ zs).map PV.int) (some (xs.length:Int)) (some ((xs.length:Int) + ys.length)) = ys.map .int:=by
 have e1:va ((xs ++ ys ++ zs).map PV.int).length 0 (some (xs.length:Int)) = xs.length:=by
  unfold va
  dsimp only
  rw [if_neg (by omega)]
  simp
 have e2:va ((xs ++ ys ++ zs).map PV.int).length ((xs ++ ys ++ zs).map PV.int).length (some ((xs.length:Int) + ys.length)) = xs.length + ys.length:=by
  unfold va
  dsimp only
  rw [if_neg (by omega)]
  simp
  omega
 unfold tS
 rw [e1,e2,<- List.map_drop,<- List.map_take,List.append_assoc,List.drop_left]
 congr 1
 rw [Nat.add_sub_cancel_left]
 simp
theorem lZ {l:List Int} {xs ys:List Int} {x:Int} (h:l = xs ++ x ::ys) {i:Int} (hi:i = xs.length):atP (l.map PV.int) i = some (.int x):=by
 rw [hi,mH,List.getElem?_map,h]; simp
theorem u6 {b w:Int} (h:PG.dM b = some w):d7 [.int b] = .ok (.sh (.int w)):=by rw [nV,h]
theorem yU {signs pre post:List Int} {a b c d:Int} {i:Int} (hs:signs = pre ++ 92 ::117 ::a ::b ::c ::d ::post) (hi:i = pre.length) (ha:(PG.dM a).isSome = true) (hb:(PG.dM b).isSome = true) (hc:(PG.dM c).isSome = true) (hd:(PG.dM d).isSome = true):
  kZ [.lst (signs.map .int),.int i] = .ok (.sh (.int (PG.cod a b c d))):=by
 obtain ⟨w1,f1⟩:=PG.some_of ha
 obtain ⟨w2,f2⟩:=PG.some_of hb
 obtain ⟨w3,f3⟩:=PG.some_of hc
 obtain ⟨w4,f4⟩:=PG.some_of hd
 have hcut:tS (signs.map PV.int) (some (i + 2)) (some (i + 6)) = [.int a,.int b,.int c,.int d]:=by
  have e:signs = (pre ++ [92,117]) ++ [a,b,c,d] ++ post:=by rw [hs]; simp
  have:=zr (pre ++ [92,117]) [a,b,c,d] post
  rw [<- e] at this
  have e1:((pre ++ [92,117]:List Int).length:Int) = i + 2:=by rw [hi]; simp
  have e2:i + 2 + (([a,b,c,d]:List Int).length:Int) = i + 6:=by simp; omega
  rw [e1,e2] at this
  exact this
 have hm:∀ x:Int,(2:Int) ^ 64 = 18446744073709551616:=fun _=>by decide
 simp -implicitDefEqProofs [xI,x4,xQ,pd,kZ,hcut,u6 f1,u6 f2,u6 f3,u6 f4,PG.cod,PG.iR f1,PG.iR f2,PG.iR f3,PG.iR f4]
theorem DY {a b c d:Int} (ha:(PG.dM a).isSome = true) (hb:(PG.dM b).isSome = true) (hc:(PG.dM c).isSome = true) (hd:(PG.dM d).isSome = true):0 <= PG.cod a b c d /\ PG.cod a b c d < 65536:=by
 obtain ⟨w1,f1⟩:=PG.some_of ha
 obtain ⟨w2,f2⟩:=PG.some_of hb
 obtain ⟨w3,f3⟩:=PG.some_of hc
 obtain ⟨w4,f4⟩:=PG.some_of hd
 have:=PG.eM f1
 have:=PG.eM f2
 have:=PG.eM f3
 have:=PG.eM f4
 simp only [PG.cod,PG.iR f1,PG.iR f2,PG.iR f3,PG.iR f4]
 omega
theorem E3 {c p:Int} (h:(c,p) ∈ PG.shP):bt [.int c] = .ok (.sh (.int p)) /\ c ≠ 117:=by
 simp only [PG.shP,List.mem_cons,Prod.mk.injEq,List.not_mem_nil,or_false] at h
 rcases h with h | h | h | h | h | h | h | h <;> (obtain ⟨rfl,rfl⟩:=h; exact ⟨by simp -implicitDefEqProofs [bR,bt,gO,List.lookup],by decide⟩)
theorem AN (s:PG.Sg) (h:PG.Sok s) {signs pre post:List Int} (hs:signs = pre ++ (PG.pts s ++ post)):
  dH [.lst (signs.map .int),.int (pre.length:Int)] = .ok (.sh (.int ((PG.pts s).length:Int))) /\ dy [.lst (signs.map .int),.int (pre.length:Int),.int ((PG.pts s).length:Int)] = .ok (.sh (.int (PG.rh s))):=by
 cases s with
 | pl p=>
   obtain ⟨h1,h2,h3,h4⟩:=h
   have ha:atP (signs.map PV.int) (pre.length:Int) = some (.int p):=lZ (xs:=pre) (ys:=post) hs rfl
   exact ⟨by simp -implicitDefEqProofs [gK,gM,gJ,gb,dH,ha,h4,PG.pts],by simp -implicitDefEqProofs [ib,ik,g8,gn,dy,ha,PG.pts,PG.rh]⟩
 | sh c p=>
   obtain ⟨h1,h2⟩:=E3 h
   have ha:atP (signs.map PV.int) (pre.length:Int) = some (.int 92):=lZ (xs:=pre) (ys:=c ::post) hs rfl
   have hb:atP (signs.map PV.int) ((pre.length:Int) + 1) = some (.int c):=lZ (xs:=pre ++ [92]) (ys:=post) (by rw [hs]; simp [PG.pts]) (by simp)
   exact ⟨by simp -implicitDefEqProofs [gK,gM,gJ,gb,dH,ha,hb,h2,PG.pts],by simp -implicitDefEqProofs [ib,ik,g8,gn,dy,hb,h1,PG.pts,PG.rh]⟩
 | hx a b c d=>
   obtain ⟨ha,hb,hc,hd,hn⟩:=h
   have e1:atP (signs.map PV.int) (pre.length:Int) = some (.int 92):=lZ (xs:=pre) (ys:=117 ::a ::b ::c ::d ::post) hs rfl
   have e2:atP (signs.map PV.int) ((pre.length:Int) + 1) = some (.int 117):=lZ (xs:=pre ++ [92]) (ys:=a ::b ::c ::d ::post) (by rw [hs]; simp [PG.pts]) (by simp)
   have e3:=yU (signs:=signs) (pre:=pre) (post:=post) (i:=pre.length) (by rw [hs]; simp [PG.pts]) rfl ha hb hc hd
   refine ⟨?_,by simp -implicitDefEqProofs [ib,ik,g8,gn,dy,e3,PG.pts,PG.rh]⟩
   by_cases h1:55296 <= PG.cod a b c d
   . have h2:¬ PG.cod a b c d <= 57343:=fun z=>hn ⟨h1,z⟩
     simp -implicitDefEqProofs [gK,gM,gJ,gb,dH,e1,e2,e3,PG.pts,h1,h2]
   . simp -implicitDefEqProofs [gK,gM,gJ,gb,dH,e1,e2,e3,PG.pts,h1]
 | pr a b c d e f g h'=>
   obtain ⟨⟨f1,b8,b12,hb,hc,hd⟩,f5,hf12,hf,hg,hh⟩:=h
   have ha:(PG.dM a).isSome = true:=by rw [f1]; rfl
   have he:(PG.dM e).isSome = true:=by rw [f5]; rfl
   have e1:atP (signs.map PV.int) (pre.length:Int) = some (.int 92):=lZ (xs:=pre) (ys:=117 ::a ::b ::c ::d ::92 ::117 ::e ::f ::g ::h' ::post) hs rfl
   have e2:atP (signs.map PV.int) ((pre.length:Int) + 1) = some (.int 117):=lZ (xs:=pre ++ [92]) (ys:=a ::b ::c ::d ::92 ::117 ::e ::f ::g ::h' ::post) (by rw [hs]; simp [PG.pts]) (by simp)
   have e3:=yU (signs:=signs) (pre:=pre) (post:=92 ::117 ::e ::f ::g ::h' ::post) (i:=pre.length) (by rw [hs]; simp [PG.pts]) rfl ha hb hc hd
   have e4:=yU (signs:=signs) (pre:=pre ++ [92,117,a,b,c,d]) (post:=post) (i:=(pre.length:Int) + 6) (by rw [hs]; simp [PG.pts]) (by simp) he hf hg hh
   have hr:55296 <= PG.cod a b c d /\ PG.cod a b c d <= 57343:=by
    obtain ⟨w2,g2⟩:=PG.some_of hb
    obtain ⟨w3,g3⟩:=PG.some_of hc
    obtain ⟨w4,g4⟩:=PG.some_of hd
    have:=PG.eM g2
    have:=PG.eM g3
    have:=PG.eM g4
    rw [PG.iR g2] at b8 b12
    simp only [PG.cod,PG.iR f1,PG.iR g2,PG.iR g3,PG.iR g4]
    omega
   have hc2:=DY he hf hg hh
   refine ⟨by simp -implicitDefEqProofs [gK,gM,gJ,gb,dH,e1,e2,e3,PG.pts,hr.1,hr.2],?_⟩
   simp -implicitDefEqProofs [ib,ik,g8,gn,dy,e3,e4,PG.pts,PG.rh]
theorem Ep (s:PG.Sg):0 < (PG.pts s).length:=by cases s <;> simp [PG.pts]
theorem vd (ss:List PG.Sg) (signs:List Int):∀ (pre found:List Int) (n:Nat) (z:Option Sl),(∀ s ∈ ss,PG.Sok s) -> signs = pre ++ ss.flatMap PG.pts -> found.length + ss.length <= 100000 -> ss.length < n ->
  ∃ z',cy eJ fR n [some (.sh (.lst (signs.map .int))),some (.ow (found.map .int)),some (.sh (.int (pre.length:Int))),z] = .nx [some (.sh (.lst (signs.map .int))),some (.ow ((found ++ ss.map PG.rh).map .int)),some (.sh (.int (signs.length:Int))),z']:=by
 induction ss with
 | nil=>
   intro pre found n z _ hs _ hn
   obtain ⟨m,rfl⟩:∃ m,n = m + 1:=⟨n - 1,by simp at hn; omega⟩
   have e:signs = pre:=by simpa using hs
   subst e
   exact ⟨z,by simp [cy,eJ]⟩
 | cons s ss ih=>
   intro pre found n z hok hs hl hn
   simp only [List.length_cons] at hl hn
   obtain ⟨m,rfl⟩:∃ m,n = m + 1:=⟨n - 1,by omega⟩
   have hs':signs = pre ++ (PG.pts s ++ ss.flatMap PG.pts):=by rw [hs,List.flatMap_cons]
   obtain ⟨t1,t2⟩:=AN s (hok s List.mem_cons_self) hs'
   have hlt:pre.length < signs.length:=by rw [hs']; have:=Ep s; simp; omega
   have hc:eJ [some (.sh (.lst (signs.map .int))),some (.ow (found.map .int)),some (.sh (.int (pre.length:Int))),z] = .ok true:=by simp [eJ,hlt]
   have hfl:found.length < lim:=pf (by omega)
   have hb:fR [some (.sh (.lst (signs.map .int))),some (.ow (found.map .int)),some (.sh (.int (pre.length:Int))),z] = .nx [some (.sh (.lst (signs.map .int))),some (.ow ((found ++ [PG.rh s]).map .int)),some (.sh (.int ((pre ++ PG.pts s).length:Int))),some (.sh (.int ((PG.pts s).length:Int)))]:=by
    simp -implicitDefEqProofs [fR,t1,t2,hfl]
   obtain ⟨z',h⟩:=ih (pre ++ PG.pts s) (found ++ [PG.rh s]) m (some (.sh (.int ((PG.pts s).length:Int)))) (fun x hx=>hok x (List.mem_cons_of_mem _ hx)) (by rw [hs']; simp) (by simp; omega) (by omega)
   refine ⟨z',?_⟩
   simp only [cy,hc,jf,if_true,hb,gW,h]
   simp
theorem A3 (ss:List PG.Sg) (hok:∀ s ∈ ss,PG.Sok s) (hl:ss.length <= 90000):cR [.lst ((ss.flatMap PG.pts).map .int)] = .ok (.fr ((ss.map PG.rh).map .int)):=by
 obtain ⟨z',h⟩:=vd ss (ss.flatMap PG.pts) [] [] fuel none hok (by simp) (by simp; omega) (by unfold fuel; omega)
 simp only [List.map_nil,List.nil_append,List.length_nil,Int.ofNat_zero,Int.cast_ofNat_Int] at h
 generalize ss.flatMap PG.pts = signs at *
 simp -implicitDefEqProofs only [cR,gT,xD,nQ,List.map_cons,List.map_nil,List.length_cons,List.length_nil,List.replicate,List.cons_append,List.nil_append,lM,wd,Cw,yJ,qg,iS,JN]
 simp -implicitDefEqProofs [iS,ky,h,ku]
theorem BQ (ss:List PG.Sg):ss.length <= (PG.inner ss).length:=by
 induction ss with
 | nil=>simp
 | cons s ss ih=>
   have:0 < (PG.kl s).length:=by
    have h8:∀ p:Int,0 < (PG.aW p).length:=fun p=>by unfold PG.aW; repeat' split
                                                    all_goals simp
    cases s with
    | pl p=>show 0 < (PG.aW p ++ []).length; rw [List.append_nil]; exact h8 p
    | sh c p=>show 0 < (PG.aW 92 ++ _).length; rw [List.length_append]; have:=h8 92; omega
    | hx a b c d=>show 0 < (PG.aW 92 ++ _).length; rw [List.length_append]; have:=h8 92; omega
    | pr a b c d e f g h=>show 0 < (PG.aW 92 ++ _).length; rw [List.length_append]; have:=h8 92; omega
   show _ <= (PG.kl s ++ PG.inner ss).length
   rw [List.length_append,List.length_cons]
   omega
theorem Ei (ss:List PG.Sg) (hok:∀ s ∈ ss,PG.Sok s) (row pre post:List Int) (tree:List PV) (k:Int) (nm:String) (n:Int) (hr:row = pre ++ 34 ::(PG.inner ss ++ 34 ::post)) (hl:row.length <= 500) (hn:nm = "text" \/ nm = "name")
  (ht:atP tree k = some (.tup [.str (Str.ofString nm),.int pre.length,.int ((pre.length:Int) + (PG.inner ss).length + 2),.int n])):lE [.lst (row.map .int),.lst tree,.int k] = .ok (.fr ((ss.map PG.rh).map .int)):=by
 have hcut:tS (row.map PV.int) (some ((pre.length:Int) + 1)) (some ((pre.length:Int) + (PG.inner ss).length + 2 - 1)) = (PG.inner ss).map .int:=by
  have e:row = (pre ++ [34]) ++ PG.inner ss ++ (34 ::post):=by rw [hr]; simp
  have:=zr (pre ++ [34]) (PG.inner ss) (34 ::post)
  rw [<- e] at this
  have e1:((pre ++ [34]:List Int).length:Int) = (pre.length:Int) + 1:=by simp
  have e2:(pre.length:Int) + 1 + ((PG.inner ss).length:Int) = (pre.length:Int) + (PG.inner ss).length + 2 - 1:=by omega
  rw [e1,e2] at this
  exact this
 have hin:(PG.inner ss).length <= 500:=by rw [hr] at hl; simp at hl; omega
 obtain ⟨p1,_⟩:=Dj (PG.inner ss) hin
 have hfa:PG.eI [] 0 (PG.inner ss) = -1:=by rw [PG.sX]; exact PG.yh _ (PG.zX ss hok) 0
 obtain ⟨L,hL,hLf,hp⟩:=p1 hfa
 have hLe:L = ss.flatMap PG.pts:=PG.x6 hL (PG.zX ss hok) (by rw [hLf,PG.sX])
 rw [hLe] at hp
 have hsl:ss.length <= 90000:=by
  have h1:=BQ ss
  omega
 have hw:=A3 ss hok hsl
 rcases hn with rfl | rfl <;> simp -implicitDefEqProofs [ui,uw,rN,lE,ht,pj,gP,cz,hcut,hp,hw]
theorem Ce {m:Nat} (h:m <= 90000):m < fuel:=by unfold fuel; omega
theorem Et (row:List Int) (a:Option Sl) {body:List Int} (hb:PG.Skp body):∀ (pre post:List Int) (n:Nat),row = pre ++ (body ++ 34 ::post) -> body.length < n ->
  cy fq iL n [some (.sh (.lst (row.map .int))),a,some (.sh (.int (pre.length:Int)))] = .nx [some (.sh (.lst (row.map .int))),a,some (.sh (.int ((pre.length:Int) + body.length)))]:=by
 induction hb with
 | nil=>
   intro pre post n hr hn
   obtain ⟨m,rfl⟩:∃ m,n = m + 1:=⟨n - 1,by simp at hn; omega⟩
   have ha:atP (row.map PV.int) (pre.length:Int) = some (.int 34):=lZ (xs:=pre) (ys:=post) hr rfl
   have hc:fq [some (.sh (.lst (row.map .int))),a,some (.sh (.int (pre.length:Int)))] = .ok false:=by simp [fq,ha]
   simp [cy,hc]
 | @one b r h1 h2 _ ih=>
   intro pre post n hr hn
   obtain ⟨m,rfl⟩:∃ m,n = m + 1:=⟨n - 1,by simp at hn; omega⟩
   have ha:atP (row.map PV.int) (pre.length:Int) = some (.int b):=lZ (xs:=pre) (ys:=r ++ 34 ::post) (by rw [hr]; simp) rfl
   have hc:fq [some (.sh (.lst (row.map .int))),a,some (.sh (.int (pre.length:Int)))] = .ok true:=by simp [fq,ha,h1]
   have hb:iL [some (.sh (.lst (row.map .int))),a,some (.sh (.int (pre.length:Int)))] = .nx [some (.sh (.lst (row.map .int))),a,some (.sh (.int ((pre ++ [b]).length:Int)))]:=by simp [iL,ha,h2]
   have:=ih (pre ++ [b]) post m (by rw [hr]; simp) (by simp at hn; omega)
   simp only [cy,hc,jf,if_true,hb,gW,this]
   congr 6
   simp
   omega
 | @two c r _ ih=>
   intro pre post n hr hn
   obtain ⟨m,rfl⟩:∃ m,n = m + 1:=⟨n - 1,by simp at hn; omega⟩
   have ha:atP (row.map PV.int) (pre.length:Int) = some (.int 92):=lZ (xs:=pre) (ys:=c ::(r ++ 34 ::post)) (by rw [hr]; simp) rfl
   have hc:fq [some (.sh (.lst (row.map .int))),a,some (.sh (.int (pre.length:Int)))] = .ok true:=by simp [fq,ha]
   have hb:iL [some (.sh (.lst (row.map .int))),a,some (.sh (.int (pre.length:Int)))] = .nx [some (.sh (.lst (row.map .int))),a,some (.sh (.int ((pre ++ [92,c]).length:Int)))]:=by simp [iL,ha]
   have:=ih (pre ++ [92,c]) post m (by rw [hr]; simp) (by simp at hn; omega)
   simp only [cy,hc,jf,if_true,hb,gW,this]
   congr 6
   simp
   omega
theorem AH (row pre post body:List Int) (hb:PG.Skp body) (hr:row = pre ++ 34 ::(body ++ 34 ::post)) (hl:row.length <= 90000):iC [.lst (row.map .int),.int pre.length] = .ok (.sh (.int ((pre.length:Int) + body.length + 2))):=by
 have h:=Et row (some (.sh (.int pre.length))) hb (pre ++ [34]) post fuel (by rw [hr]; simp) (Ce (by rw [hr] at hl; simp at hl; omega))
 have e1:((pre ++ [34]:List Int).length:Int) = (pre.length:Int) + 1:=by simp
 rw [e1] at h
 have e2:(pre.length:Int) + 1 + (body.length:Int) + 1 = (pre.length:Int) + body.length + 2:=by omega
 simp -implicitDefEqProofs [p0,pU,mT,iC,h,e2]
noncomputable def esc:List (Int × Int):=[(8,98),(9,116),(10,110),(12,102),(13,114),(34,34),(92,92)]
noncomputable def fg (w:Int):Int:=if w < 10 then 48 + w else 87 + w
noncomputable def m9 (p:Int):PG.Sg:=match esc.lookup p with
 | some c=>.sh c p
 | none=>if p < 32 then .hx 48 48 (fg (p / 16)) (fg (p % 16)) else .pl p
theorem zV {w:Int} (h:0 <= w /\ w < 16):PG.dM (fg w) = some w:=by
 unfold fg PG.dM
 by_cases h1:w < 10
 . rw [if_pos h1,if_pos (by omega)]; congr 1; omega
 . rw [if_neg h1,if_neg (by omega),if_neg (by omega),if_pos (by omega)]; congr 1; omega
theorem xZ {p c:Int} (h:esc.lookup p = some c):(c,p) ∈ PG.shP /\ c < 128 /\ 0 <= p /\ p < 128:=by
 unfold esc at h
 simp only [List.lookup] at h
 repeat' split at h
 all_goals first
  | (cases h; done)
  | (rename_i e; injection h with h; have e':=eq_of_beq e; subst e'; subst h; decide)
theorem FH {p:Int} (h:PG.dJ p = true):PG.Sok (m9 p) /\ PG.rh (m9 p) = p:=by
 have hr:=PG.iD h
 unfold m9
 cases e:esc.lookup p with
 | some c=>exact ⟨(xZ e).1,rfl⟩
 | none=>
   dsimp only
   have h34:p ≠ 34:=fun z=>by subst z; cases e
   have h92:p ≠ 92:=fun z=>by subst z; cases e
   by_cases h1:p < 32
   . rw [if_pos h1]
     have e1:=zV (w:=p / 16) (by omega)
     have e2:=zV (w:=p % 16) (by omega)
     have e0:PG.dM 48 = some 0:=rfl
     have hc:PG.cod 48 48 (fg (p / 16)) (fg (p % 16)) = p:=by
      simp only [PG.cod,PG.iR e0,PG.iR e1,PG.iR e2]
      omega
     exact ⟨⟨rfl,rfl,by rw [e1]; rfl,by rw [e2]; rfl,by rw [hc]; omega⟩,hc⟩
   . rw [if_neg h1]
     exact ⟨⟨h,by omega,h34,h92⟩,rfl⟩
theorem vb {p:Int} (h:PG.dJ p = true):PG.kl (m9 p) = match esc.lookup p with
  | some c=>[92,c]
  | none=>if p < 32 then [92,117,48,48,fg (p / 16),fg (p % 16)] else PG.aW p:=by
 have hr:=PG.iD h
 unfold m9
 cases e:esc.lookup p with
 | some c=>
   show PG.aW 92 ++ (PG.aW c ++ []) = _
   rw [PG.ig (n:=c) (xZ e).2.1]
   rfl
 | none=>
   dsimp only
   by_cases h1:p < 32
   . rw [if_pos h1,if_pos h1]
     have l1:fg (p / 16) < 128:=by unfold fg; split <;> omega
     have l2:fg (p % 16) < 128:=by unfold fg; split <;> omega
     show PG.aW 92 ++ (PG.aW 117 ++ (PG.aW 48 ++ (PG.aW 48 ++ (PG.aW (fg (p / 16)) ++ (PG.aW (fg (p % 16)) ++ []))))) = _
     rw [PG.ig l1,PG.ig l2]
     rfl
   . rw [if_neg h1,if_neg h1]
     show PG.aW p ++ [] = _
     simp
theorem pO (p:Int) (h:PG.dJ p = true):(PG.kl (m9 p)).length <= 6:=by
 rw [vb h]
 cases esc.lookup p with
 | some c=>simp
 | none=>dsimp only; split
         . simp
         . have:=Bf p; omega
theorem Ez (w:Int):dA [.int w] = .ok (.sh (.int (fg w))):=by
 unfold fg
 by_cases h:w < 10 <;> simp -implicitDefEqProofs [hZ,dA,h]
noncomputable abbrev JY:List (Int × PV):=[(8,.int 98),(9,.int 116),(10,.int 110),(12,.int 102),(13,.int 114),(34,.int 34),(92,.int 92)]
theorem Ib (p:Int):JY.lookup p = (esc.lookup p).map .int:=by
 unfold esc
 simp only [JY,List.lookup]
 repeat' split
 all_goals rfl
theorem qM (p:Int):d8 [.int p] = if PG.dJ p = true then .ok (.fr ((PG.kl (m9 p)).map .int)) else .exc "NoPoint" []:=by
 by_cases h:PG.dJ p = true
 . rw [if_pos h]
   have he:=zh p
   rw [if_pos h] at he
   have hl:=Ib p
   rw [vb h]
   cases e:esc.lookup p with
   | some c=>
     rw [e] at hl
     simp only [Option.map_some] at hl
     simp -implicitDefEqProofs [i4,i8,iV,iB,d8,he,wW,tJ,hl]
   | none=>
     rw [e] at hl
     simp only [Option.map_none] at hl
     by_cases h1:p < 32
     . simp -implicitDefEqProofs [i4,i8,iV,iB,d8,he,wW,tJ,hl,h1,Ez]
     . simp -implicitDefEqProofs [i4,i8,iV,iB,d8,he,wW,tJ,hl,h1]
 . rw [if_neg h]
   have he:=zh p
   rw [if_neg h] at he
   simp -implicitDefEqProofs [i4,i8,iV,iB,d8,he]
noncomputable abbrev sgs (l:List Int):List PG.Sg:=l.map m9
theorem Ba (l:List Int):∀ (row:List Int) (a x:Option Sl),l.all PG.dJ = true -> row.length + 6 * l.length <= 1000 -> ∃ x',jO 2 kg (l.map .int) [a,some (.ow (row.map .int)),x] = .nx [a,some (.ow ((row ++ PG.inner (sgs l)).map .int)),x']:=by
 induction l with
 | nil=>intro row a x _ _; exact ⟨x,by simp [PG.inner]⟩
 | cons p l ih=>
   intro row a x hp hl
   simp only [List.all_cons,Bool.and_eq_true] at hp
   simp only [List.length_cons] at hl
   have hb:=pO p hp.1
   have he:=qM p
   rw [if_pos hp.1] at he
   have hlim:row.length + (PG.kl (m9 p)).length <= lim:=kR (by omega)
   obtain ⟨x',h⟩:=ih (row ++ PG.kl (m9 p)) a (some (.sh (.int p))) hp.2 (by simp; omega)
   refine ⟨x',?_⟩
   have ht:kg [a,some (.ow (row.map .int)),some (.sh (.int p))] = .nx [a,some (.ow ((row ++ PG.kl (m9 p)).map .int)),some (.sh (.int p))]:=by
    simp -implicitDefEqProofs [kg,he,hlim]
   rw [List.map_cons,fM]
   simp only [List.set_cons_succ,List.set_cons_zero,ht,gW,h]
   simp [PG.inner]
theorem Bx (l:List Int):∀ (row:List Int) (a x:Option Sl),l.all PG.dJ = false -> row.length + 6 * l.length <= 1000 -> ∃ ρ,jO 2 kg (l.map .int) [a,some (.ow (row.map .int)),x] = .exc ρ "NoPoint" []:=by
 induction l with
 | nil=>intro row a x h _; simp at h
 | cons p l ih=>
   intro row a x hp hl
   simp only [List.length_cons] at hl
   have he:=qM p
   by_cases h1:PG.dJ p = true
   . rw [if_pos h1] at he
     have hb:=pO p h1
     have hlim:row.length + (PG.kl (m9 p)).length <= lim:=kR (by omega)
     have hp2:l.all PG.dJ = false:=by simpa [h1] using hp
     obtain ⟨ρ,h⟩:=ih (row ++ PG.kl (m9 p)) a (some (.sh (.int p))) hp2 (by simp; omega)
     refine ⟨ρ,?_⟩
     have ht:kg [a,some (.ow (row.map .int)),some (.sh (.int p))] = .nx [a,some (.ow ((row ++ PG.kl (m9 p)).map .int)),some (.sh (.int p))]:=by
      simp -implicitDefEqProofs [kg,he,hlim]
     rw [List.map_cons,fM]
     simp only [List.set_cons_succ,List.set_cons_zero,ht,gW,h]
   . rw [if_neg h1] at he
     refine ⟨[a,some (.ow (row.map .int)),some (.sh (.int p))],?_⟩
     rw [List.map_cons,fM]
     simp -implicitDefEqProofs [kg,he]
theorem xY (l:List Int) (h:l.all PG.dJ = true):(PG.inner (sgs l)).length <= 6 * l.length:=by
 induction l with
 | nil=>simp [PG.inner]
 | cons p l ih=>
   simp only [List.all_cons,Bool.and_eq_true] at h
   have:=pO p h.1
   have:=ih h.2
   show (PG.kl (m9 p) ++ PG.inner (sgs l)).length <= _
   rw [List.length_append,List.length_cons]
   omega
theorem GV (l:List Int) (h:l.all PG.dJ = true) (hl:l.length <= 100):kI [.lst (l.map .int)] = .ok (.fr ((PG.txt (sgs l)).map .int)):=by
 obtain ⟨x',h1⟩:=Ba l [34] (some (.sh (.lst (l.map .int)))) none h (by simp; omega)
 have hin:=xY l h
 have hlim:(PG.inner (sgs l)).length + 1 < lim:=pf (by omega)
 simp only [List.map_cons,List.map_nil] at h1
 simp -implicitDefEqProofs only [kI,qo,xD,nQ,List.map_cons,List.map_nil,List.length_cons,List.length_nil,List.replicate,List.cons_append,List.nil_append,lM]
 simp -implicitDefEqProofs [sx,h1,rX,se,hlim,PG.txt]
theorem CG (l:List Int) (h:l.all PG.dJ = false) (hl:l.length <= 100):kI [.lst (l.map .int)] = .exc "NoPoint" []:=by
 obtain ⟨ρ,h1⟩:=Bx l [34] (some (.sh (.lst (l.map .int)))) none h (by simp; omega)
 simp only [List.map_cons,List.map_nil] at h1
 simp -implicitDefEqProofs [se,rX,sx,qo,kI,h1]
theorem tV (row:List Int):fX [.lst (row.map .int),.int (row.length:Int)] = .ok (.sh (.bl false)):=by
 have hc:kd [some (.sh (.lst (row.map .int))),some (.sh (.int (row.length:Int)))] = .ok false:=by simp [kd]
 obtain ⟨n,hn⟩:∃ n,fuel = n + 1:=⟨99999,rfl⟩
 simp -implicitDefEqProofs [lR,fX,hn,cy,hc]
theorem DL (row pre post:List Int) (b:Int) (hr:row = pre ++ b ::post) (hw:PG.wht b = false):fX [.lst (row.map .int),.int (pre.length:Int)] = .ok (.sh (.bl (decide (b = 58)))):=by
 have ha:atP (row.map PV.int) (pre.length:Int) = some (.int b):=lZ (xs:=pre) (ys:=post) hr rfl
 have hl:pre.length < row.length:=by rw [hr]; simp
 have hc:kd [some (.sh (.lst (row.map .int))),some (.sh (.int (pre.length:Int)))] = .ok false:=by simp [kd,ha,pG,hw]
 obtain ⟨n,hn⟩:∃ n,fuel = n + 1:=⟨99999,rfl⟩
 simp -implicitDefEqProofs [lR,fX,hn,cy,hc,ha,hl]
theorem xp (row pre post:List Int) (ss:List PG.Sg) (hok:∀ s ∈ ss,PG.Sok s) (i:Int) (nm:Bool) (hr:row = pre ++ (PG.txt ss ++ post)) (hl:row.length <= 90000)
  (hn:fX [.lst (row.map .int),.int ((pre.length:Int) + (PG.inner ss).length + 2)] = .ok (.sh (.bl nm))):mG [.lst (row.map .int),.int pre.length,.int i] = .ok (.sh (.tup [.str (if nm then "name" else "text"),.int pre.length,.int ((pre.length:Int) + (PG.inner ss).length + 2),.int (i + 1)])):=by
 have hr':row = pre ++ 34 ::(PG.inner ss ++ 34 ::post):=by rw [hr]; simp [PG.txt]
 have ha:atP (row.map PV.int) (pre.length:Int) = some (.int 34):=lZ (xs:=pre) (ys:=PG.inner ss ++ 34 ::post) hr' rfl
 have hte:=AH row pre post (PG.inner ss) (PG.A8 ss hok) hr' hl
 cases nm <;> simp -implicitDefEqProofs [wo,xr,x8,vy,mG,ha,mq,List.lookup,gNe,eqS,hte,hn]
theorem C7 {xs:List PV} {x:PV}:atP (xs ++ [x]) (-1) = some x:=by
 unfold atP
 rw [show (xs ++ [x]).length = xs.length + 1 by simp,GS]
 simp
noncomputable abbrev NS0 (row:List Int) (tree:List PV) (un:List OV) (p:Int) (b i:Option Sl):ag:=[some (.sh (.lst (row.map .int))),some (.ow tree),some (.tr false (.ol un)),some (.sh (.int p)),b,i]
theorem Bi {row:List Int} {tree:List PV} {un:List OV} {p e n:Int} {b:Int} {x y:Option Sl} {nm:Str} (ha:atP (row.map PV.int) p = some (.int b)) (h1:b ≠ 91) (h2:b ≠ 123) (h3:b ≠ 93) (h4:b ≠ 125) (h5:PG.wht b = false) (h6:b ≠ 44) (h7:b ≠ 58) (ht:tree.length <= 90000)
  (hleaf:mG [.lst (row.map .int),.int p,.int tree.length] = .ok (.sh (.tup [.str nm,.int p,.int e,.int n]))):
  lQ (NS0 row tree un p x y) = .nx (NS0 row (tree ++ [.tup [.str nm,.int p,.int e,.int n]]) un e (some (.sh (.int b))) y):=by
 have hl:tree.length < lim:=pf (by omega)
 have z:∀ k:Int,b ≠ k -> (k == b) = false:=fun k h=>by simpa using fun q=>h q.symm
 have hlast:=C7 (xs:=tree) (x:=.tup [.str nm,.int p,.int e,.int n])
 simp -implicitDefEqProofs [lQ,ha,gIn,gP,cz,kJ,z _ h1,z _ h2,z _ h3,z _ h4,z _ h6,z _ h7,pG,h5,hleaf,hl,hlast]
theorem xP (row:List Int) (tree:List PV) (un:List OV) (p:Int) (b i:Option Sl):lY (NS0 row tree un p b i) = .ok (decide (p < row.length)):=by
 simp [lY]
theorem Ae (row:List Int) (tree:List PV) (p:Int) (b i:Option Sl) (ys:List PV) (hf:PG.flt row = none) (hl:8 * row.length + 20 < 100000) (ht:tree.length <= 90000)
  (hw:cy lY lQ fuel (NS0 row [] [] 0 none none) = .nx (NS0 row tree [] p b i)) (hy:dI qr [some (.sh (.lst tree))] (eO tree.length) = .ok ys) (hyl:ys.length = tree.length):kA [.lst (row.map .int)] = .ok (.fr ys):=by
 have hr:=B1 row hl
 rw [hf] at hr
 have hlim:tree.length <= lim:=kR (by omega)
 have hb:-4611686018427387904 <= (tree.length:Int) /\ (tree.length:Int) < 4611686018427387904:=by omega
 have e5:qE (NS0 row tree [] p b i) = .rt [some (.sh (.lst (row.map .int))),some (.sh (.lst tree)),some (.tr false (.ol [])),some (.sh (.int p)),b,i] (.fr ys):=by
  have hfz:j9 1 (NS0 row tree [] p b i) = [some (.sh (.lst (row.map .int))),some (.sh (.lst tree)),some (.tr false (.ol [])),some (.sh (.int p)),b,i]:=rfl
  simp -implicitDefEqProofs [qE,hfz,dO,hb,hy,hyl,hlim]
 have e2:qa [some (.sh (.lst (row.map .int))),some (.ow []),none,none,none,none] = .rt [some (.sh (.lst (row.map .int))),some (.sh (.lst tree)),some (.tr false (.ol [])),some (.sh (.int p)),b,i] (.fr ys):=by
  have hsd:oW 2 (mD (cS aM)) [some (.sh (.lst (row.map .int))),some (.ow []),none,none,none,none] = .nx [some (.sh (.lst (row.map .int))),some (.ow []),some (.tr false (.ol [])),none,none,none]:=by simp [oW,mD]
  simp -implicitDefEqProofs only [qa,lM,hsd,ip,um,wd,Hl,jl,DW,List.set_cons_succ,List.set_cons_zero,ur,hw,e5]
 simp -implicitDefEqProofs [kA,rP,hr,ue,e2]
theorem wt (ss:List PG.Sg) (hok:∀ s ∈ ss,PG.Sok s) (hl:(PG.txt ss).length <= 10000):kA [.lst ((PG.txt ss).map .int)] = .ok (.fr [.tup [.str "text",.int 0,.int ((PG.inner ss).length + 2),.int 1]]):=by
 have hlen:((PG.txt ss).length:Int) = ((PG.inner ss).length:Int) + 2:=by simp [PG.txt]; omega
 have hleaf:=xp (PG.txt ss) [] [] ss hok 0 false (by simp) (by omega) (by have:=tV (PG.txt ss); rw [hlen] at this; simpa using this)
 simp only [List.length_nil,Int.ofNat_zero,Int.cast_ofNat_Int,Int.zero_add,Bool.false_eq_true,if_false] at hleaf
 have ha:atP ((PG.txt ss).map PV.int) 0 = some (.int 34):=lZ (xs:=[]) (ys:=PG.inner ss ++ [34]) rfl rfl
 have ht:=Bi (row:=PG.txt ss) (tree:=[]) (un:=[]) (p:=0) (x:=none) (y:=none) ha (by decide) (by decide) (by decide) (by decide) rfl (by decide) (by decide) (by simp) hleaf
 have hw:cy lY lQ fuel (NS0 (PG.txt ss) [] [] 0 none none) = .nx (NS0 (PG.txt ss) [.tup [.str "text",.int 0,.int ((PG.inner ss).length + 2),.int 1]] [] ((PG.inner ss).length + 2) (some (.sh (.int 34))) none):=by
  obtain ⟨n,hn⟩:∃ n,fuel = n + 2:=⟨99998,rfl⟩
  rw [hn]
  have c1:=xP (PG.txt ss) [] [] 0 none none
  have c2:=xP (PG.txt ss) [.tup [.str "text",.int 0,.int ((PG.inner ss).length + 2),.int 1]] [] ((PG.inner ss).length + 2) (some (.sh (.int 34))) none
  rw [show decide ((0:Int) < (PG.txt ss).length) = true by rw [hlen]; simp; omega] at c1
  rw [show decide ((((PG.inner ss).length:Int) + 2) < (PG.txt ss).length) = false by rw [hlen]; simp] at c2
  simp only [List.nil_append] at ht
  simp only [cy,c1,jf,if_true,ht,gW,c2,Bool.false_eq_true,if_false]
 refine Ae (PG.txt ss) _ _ _ _ _ (PG.Ed ss hok) (by omega) (by simp) hw ?_ rfl
 simp -implicitDefEqProofs [eO,List.range,List.range.loop,dI,qr,nv,nC,j8,fE,gNe,eqS,aN]
theorem AB (l:List Int) (h:l.all PG.dJ = true):(sgs l).map PG.rh = l:=by
 rw [List.map_map]
 conv=>rhs; rw [<- List.map_id l]
 refine List.map_congr_left fun p hp=>?_
 exact (FH (List.all_eq_true.mp h p hp)).2
theorem Ds (l:List Int) (h:l.all PG.dJ = true):∀ s ∈ sgs l,PG.Sok s:=fun s hs=>by
 obtain ⟨p,hp,rfl⟩:=List.mem_map.mp hs
 exact (FH (List.all_eq_true.mp h p hp)).1
theorem Ak (p:Int) (h:PG.dJ p = true):jt [.int p] = .ok (.fr ((PG.kl (m9 p)).map .int)):=by
 have hr:=PG.iD h
 have h8:=xV p h
 have hsub:∀ a,subAt 1 fQ [some (.sh a),some (.tr false (.di (([(34,34),(92,92),(8,98),(12,102),(10,110),(13,114),(9,116)]:List (Int × Int)).map fun p=>(p.1,PV.int p.2))))] = some (.di (([(34,34),(92,92),(8,98),(12,102),(10,110),(13,114),(9,116)]:List (Int × Int)).map fun p=>(p.1,PV.int p.2))):=fun a=>by
  simp [subAt,kq,slT,fQ]
 have hl:(([(34,34),(92,92),(8,98),(12,102),(10,110),(13,114),(9,116)]:List (Int × Int)).map fun p=>(p.1,PV.int p.2)).lookup p = (esc.lookup p).map .int:=by
  unfold esc
  simp only [List.map,List.lookup]
  by_cases g1:p = 34
  . subst g1; rfl
  by_cases g2:p = 92
  . subst g2; rfl
  by_cases g3:p = 8
  . subst g3; rfl
  by_cases g4:p = 12
  . subst g4; rfl
  by_cases g5:p = 10
  . subst g5; rfl
  by_cases g6:p = 13
  . subst g6; rfl
  by_cases g7:p = 9
  . subst g7; rfl
  have z:∀ k:Int,p ≠ k -> (p == k) = false:=fun k h=>by simpa using h
  simp [z _ g1,z _ g2,z _ g3,z _ g4,z _ g5,z _ g6,z _ g7]
 generalize hkv:(([(34,34),(92,92),(8,98),(12,102),(10,110),(13,114),(9,116)]:List (Int × Int)).map fun p=>(p.1,PV.int p.2)) = kv at hsub hl
 have hset:oW 1 (Gu [(34,34),(92,92),(8,98),(12,102),(10,110),(13,114),(9,116)]) [some (.sh (.int p)),none] = .nx [some (.sh (.int p)),some (.tr false (.di kv))]:=by rw [<- hkv]; rfl
 have hi:=hsub (.int p)
 rw [vb h]
 have e0:fin (gd [some (.sh (.int p)),some (.tr false (.di kv))]) = .ok (.fr ((match esc.lookup p with
  | some c=>[92,c]
  | none=>if p < 32 then [92,117,48,48,fg (p / 16),fg (p % 16)] else PG.aW p).map .int)):=by
  cases e:esc.lookup p with
  | some c=>
    rw [e] at hl
    simp only [Option.map_some] at hl
    simp -implicitDefEqProofs [gd,qQ,zw,hi,hl]
  | none=>
    rw [e] at hl
    simp only [Option.map_none] at hl
    by_cases h16:p < 16
    . have g1:p / 16 = 0:=by omega
      have g2:p % 16 = p:=by omega
      have g3:p < 32:=by omega
      by_cases h9:9 < p
      . have g4:¬ p < 10:=by omega
        have g5:p + 48 + 39 = 87 + p:=by omega
        simp -implicitDefEqProofs [gd,qQ,hi,hl,ju,h16,g1,g2,g3,h9,fg,g4,g5]
      . have g4:p < 10:=by omega
        have g5:p + 48 = 48 + p:=by omega
        simp -implicitDefEqProofs [gd,qQ,hi,hl,ju,h16,g1,g2,g3,h9,fg,g4,g5]
    . by_cases h32:p < 32
      . have g1:p / 16 = 1:=by omega
        have g2:p % 16 = p - 16:=by omega
        by_cases h9:25 < p
        . have g4:¬ p - 16 < 10:=by omega
          have g5:p + 32 + 39 = 87 + (p - 16):=by omega
          simp -implicitDefEqProofs [gd,qQ,hi,hl,ju,lu,h16,h32,g1,g2,h9,fg,g4,g5]
        . have g4:p - 16 < 10:=by omega
          have g5:p + 32 = 48 + (p - 16):=by omega
          simp -implicitDefEqProofs [gd,qQ,hi,hl,ju,lu,h16,h32,g1,g2,h9,fg,g4,g5]
      . simp -implicitDefEqProofs [gd,qQ,hi,hl,ju,lu,qR,h16,h32,h8]
 simp -implicitDefEqProofs only [jt,om,xD,nQ,List.map_cons,List.map_nil,List.length_cons,List.length_nil,List.replicate,List.cons_append,List.nil_append,lM,Nat.sub,hset,ip]
 exact e0
theorem BS (l:List Int):∀ (due:List Int) (s p w x h f:Option Sl),l.all PG.dJ = true -> due.length + 6 * l.length <= 1000 -> ∃ x',jO 4 rM (l.map .int) [s,p,w,some (.ow (due.map .int)),x,h,f] = .nx [s,p,w,some (.ow ((due ++ PG.inner (sgs l)).map .int)),x',h,f]:=by
 induction l with
 | nil=>intro due s p w x h f _ _; exact ⟨x,by simp [PG.inner]⟩
 | cons q l ih=>
   intro due s p w x h f hp hl
   simp only [List.all_cons,Bool.and_eq_true] at hp
   simp only [List.length_cons] at hl
   have hb:=pO q hp.1
   have he:=Ak q hp.1
   have hlim:due.length + (PG.kl (m9 q)).length <= lim:=kR (by omega)
   obtain ⟨x',hx⟩:=ih (due ++ PG.kl (m9 q)) s p w (some (.sh (.int q))) h f hp.2 (by simp; omega)
   refine ⟨x',?_⟩
   have ht:rM [s,p,w,some (.ow (due.map .int)),some (.sh (.int q)),h,f] = .nx [s,p,w,some (.ow ((due ++ PG.kl (m9 q)).map .int)),some (.sh (.int q)),h,f]:=by
    simp -implicitDefEqProofs [rM,he,hlim]
   rw [List.map_cons,fM]
   simp only [List.set_cons_succ,List.set_cons_zero,ht,gW,hx]
   simp [PG.inner]
theorem Dz (l:List Int) (ha:l.all PG.dJ = true) (hl:l.length <= 20) (s:Option Sl):fin (rG [s,some (.ow (l.map .int)),none,none,none,none,none]) = .ok (.sh (.bl true)):=by
 obtain ⟨x',h1⟩:=BS l [34] s (some (.sh (.lst (l.map .int)))) none none none none ha (by simp; omega)
 simp only [List.map_cons,List.map_nil] at h1
 have hin:=xY l ha
 have hlim:(PG.inner (sgs l)).length + 1 < lim:=pf (by omega)
 have htold:=GV l ha (by omega)
 have htl:(PG.txt (sgs l)).length <= 500:=by simp [PG.txt]; omega
 have hnodes:=wt (sgs l) (Ds l ha) (by omega)
 have hmeant:=Ei (sgs l) (Ds l ha) (PG.txt (sgs l)) [] [] [.tup [.str "text",.int 0,.int ((PG.inner (sgs l)).length + 2),.int 1]] 0 "text" 1 rfl htl (.inl rfl) (by simp)
 rw [AB l ha] at hmeant
 have hwh:=wb (PG.txt (sgs l)) (by omega)
 have hdue:(34 ::PG.inner (sgs l)) ++ [34] = PG.txt (sgs l):=by simp [PG.txt]
 have e8:∀ x,fin (vn [s,some (.sh (.lst (l.map .int))),none,some (.ow ((PG.txt (sgs l)).map .int)),x,some (.sh (.lst (l.map .int))),some (.ow ((PG.txt (sgs l)).map .int))]) = .ok (.sh (.bl true)):=fun x=>by
  generalize PG.txt (sgs l) = t at *
  simp -implicitDefEqProofs [vn,j9,hwh,E6,Dm,zK,hnodes,hmeant,G6]
 have e5:fin (rF [s,some (.sh (.lst (l.map .int))),none,some (.ow ((34 ::PG.inner (sgs l)).map .int)),x',none,none]) = .ok (.sh (.bl true)):=by
  have h2:jb 3 (mC (.int 34)) [s,some (.sh (.lst (l.map .int))),none,some (.ow ((34 ::PG.inner (sgs l)).map .int)),x',none,none] = .nx [s,some (.sh (.lst (l.map .int))),none,some (.ow ((PG.txt (sgs l)).map .int)),x',none,none]:=by
   rw [<- hdue]
   simp -implicitDefEqProofs [hlim]
  simp -implicitDefEqProofs only [rF,lM,h2,ip]
  have e7:=e8 x'
  generalize PG.txt (sgs l) = t at *
  simp -implicitDefEqProofs [zM,zW,j9,htold,e7]
 have h3:rG [s,some (.ow (l.map .int)),none,none,none,none,none] = rF [s,some (.sh (.lst (l.map .int))),none,some (.ow ((34 ::PG.inner (sgs l)).map .int)),x',none,none]:=by
  simp -implicitDefEqProofs only [rG,lM,wd,Cw,Ac,Hl,yJ,so,zQ,tH,qg,List.length_cons,List.length_nil,Kf,if_true,jl,zp,List.set_cons_succ,List.set_cons_zero,ip,Aa,AU,j9,List.getElem?_cons_succ,List.getElem?_cons_zero,DI,uY,B6,Nat.zero_add]
  simp only [List.cons_append,List.nil_append,List.map_cons] at h1
  simp only [h1,ip]
  rfl
 rw [h3]
 exact e5
theorem AE (l:List Int) (i w:Int):∃ l':List Int,Ca (l.map PV.int) i (.int w) = l'.map .int /\ w ∈ l' /\ l'.length = l.length + 1:=by
 unfold Ca
 refine ⟨l.take (if i < 0 then (i + (l.length:Int)).toNat else min i.toNat l.length) ++ w ::l.drop (if i < 0 then (i + (l.length:Int)).toNat else min i.toNat l.length),?_,by simp,?_⟩
 . rw [List.map_append,List.map_cons,List.map_take,List.map_drop,List.length_map]
 . rw [List.length_append,List.length_cons,List.length_take,List.length_drop]; omega
theorem JI (ns:List Int) (_:ns.length <= 63):tI [.lst (ns.map .int)] = .ok (.sh (.bl true)):=by
 have hp:=PG.Au ns 3
 have hpl:=PG.yN ns 3
 have hm1:=PG.u7 ns 1
 have hm2:=PG.u7 ns 2
 obtain ⟨l,hl⟩:∃ l:List Int,l = PG.points ns 3 ++ (if PG.mix ns 0 % 3 = 0 then [PG.mix ns 1 % 36] else []):=⟨_,rfl⟩
 have hla:l.all PG.dJ = true:=by
  rw [hl,List.all_append,hp]
  split
  . simp [PG.dJ]; omega
  . rfl
 have hll:l.length <= 15:=by rw [hl]; split <;> simp <;> omega
 have hlim:(PG.points ns 3).length < lim:=pf (by omega)
 have h1:bN (aR (mOp gEq (mOp kf (bf dG (aj (aw 0) (aj (mC (.int 0)) aM))) (mC (.int 3))) (mC (.int 0)))) (jb 1 (mOp kf (bf dG (aj (aw 0) (aj (mC (.int 1)) aM))) (mC (.int 36)))) aY [some (.sh (.lst (ns.map .int))),some (.ow ((PG.points ns 3).map .int)),none,none,none,none,none] = .nx [some (.sh (.lst (ns.map .int))),some (.ow (l.map .int)),none,none,none,none,none]:=by
  rw [hl]
  by_cases h0:PG.mix ns 0 % 3 = 0 <;> simp -implicitDefEqProofs [kD,h0,hlim]
 have e2:fin (rJ [some (.sh (.lst (ns.map .int))),some (.ow (l.map .int)),none,none,none,none,none]) = .ok (.sh (.bl true)):=by
  by_cases h4:PG.mix ns 0 % 4 = 1
  . have hk:PG.mix ns 1 % 5 = 0 \/ PG.mix ns 1 % 5 = 1 \/ PG.mix ns 1 % 5 = 2 \/ PG.mix ns 1 % 5 = 3 \/ PG.mix ns 1 % 5 = 4:=by omega
    obtain ⟨w,hw,hwn⟩:∃ w:Int,atP [PV.int (-1),.int 55296,.int 57343,.int 1114112,.int 56320] (PG.mix ns 1 % 5) = some (.int w) /\ PG.dJ w = false:=by
     rcases hk with h | h | h | h | h <;> rw [h]
     . exact ⟨-1,rfl,rfl⟩
     . exact ⟨55296,rfl,rfl⟩
     . exact ⟨57343,rfl,rfl⟩
     . exact ⟨1114112,rfl,rfl⟩
     . exact ⟨56320,rfl,rfl⟩
    obtain ⟨l',hi,hwm,hl'⟩:=AE l (PG.mix ns 2 % ((l.length:Int) + 1)) w
    have hna:l'.all PG.dJ = false:=by
     rw [List.all_eq_false]
     exact ⟨w,hwm,by rw [hwn]; decide⟩
    have hx:=CG l' hna (by omega)
    have hpos:(0:Int) < (l.length:Int) + 1:=by omega
    have hrng:0 <= PG.mix ns 2 % ((l.length:Int) + 1) /\ PG.mix ns 2 % ((l.length:Int) + 1) < (l.length:Int) + 1:=⟨Int.emod_nonneg _ (by omega),Int.emod_lt_of_pos _ hpos⟩
    have hbd:(-9223372036854775808:Int) <= PG.mix ns 2 % ((l.length:Int) + 1) /\ PG.mix ns 2 % ((l.length:Int) + 1) < 9223372036854775808:=by omega
    have hl1:l.length < lim:=pf (by omega)
    have href:eS [.lst (l'.map .int)] = .ok (.sh (.bl true)):=by
     simp -implicitDefEqProofs [nz,nA,kb,eS,hx,iK,xi,GA]
    simp -implicitDefEqProofs [rJ,kD,h4,hw,hpos,pH,hi,j9,href,hl1,hbd]
  . simp -implicitDefEqProofs [rJ,kD,h4,Dz l hla (by omega)]
 have hpts:=vH ns 3
 simp -implicitDefEqProofs only [tI,BI,xD,nQ,List.map_cons,List.map_nil,List.length_cons,List.length_nil,List.replicate,List.cons_append,List.nil_append,lM,wd,El,Ac,uY,List.getElem?_cons_zero,so,zQ,Hl,yJ,tH,qg,hpts,jl,zp,List.set_cons_succ,List.set_cons_zero,ip,zJ,h1]
 exact e2
end L2.plainglass_k16_texts_told
namespace L2.plainglass_k16_texts_told
open PySem PySem.Spec PyProof.Rows L2.E L2.P
def top (i:Nat):Stmt:=PySem.Challenge.pw_plainglass_k16_texts_told.main.body.getD i (.Pass ⟨0,0,0,0⟩)
abbrev jj:Stmt:=top 13
theorem xW:aS ["point"] ["point"] (au jj):=⟨rfl,rfl,rfl,by decide +kernel,rfl,by decide +kernel,by decide +kernel⟩
abbrev mK:Stmt:=top 14
theorem Dl:aS ["point"] ["point"] (au mK):=⟨rfl,rfl,rfl,by decide +kernel,rfl,by decide +kernel,by decide +kernel⟩
abbrev pD:Stmt:=top 15
theorem ED:aS ["bits"] ["bits"] (au pD):=⟨rfl,rfl,rfl,by decide +kernel,rfl,by decide +kernel,by decide +kernel⟩
abbrev kN:Stmt:=top 16
theorem lU:aS ["row","found","at","end"] ["row"] (au kN):=⟨rfl,rfl,rfl,by decide +kernel,rfl,by decide +kernel,by decide +kernel⟩
abbrev eA:Stmt:=top 17
theorem fW:aS ["row","at","spans","end","span"] ["row","at"] (au eA):=⟨rfl,rfl,rfl,by decide +kernel,rfl,by decide +kernel,by decide +kernel⟩
abbrev mE:Stmt:=top 18
theorem CH:aS ["byte"] ["byte"] (au mE):=⟨rfl,rfl,rfl,by decide +kernel,rfl,by decide +kernel,by decide +kernel⟩
abbrev dE:Stmt:=top 19
theorem pC:aS ["byte"] ["byte"] (au dE):=⟨rfl,rfl,rfl,by decide +kernel,rfl,by decide +kernel,by decide +kernel⟩
abbrev dQ:Stmt:=top 20
theorem pQ:aS ["byte"] ["byte"] (au dQ):=⟨rfl,rfl,rfl,by decide +kernel,rfl,by decide +kernel,by decide +kernel⟩
abbrev gZ:Stmt:=top 21
theorem kB:aS ["row","at","end","number","byte"] ["row","at","end"] (au gZ):=⟨rfl,rfl,rfl,by decide +kernel,rfl,by decide +kernel,by decide +kernel⟩
abbrev jm:Stmt:=top 43
theorem xv:aS ["byte"] ["byte"] (au jm):=⟨rfl,rfl,rfl,by decide +kernel,rfl,by decide +kernel,by decide +kernel⟩
abbrev iG:Stmt:=top 44
theorem vT:aS ["byte"] ["byte"] (au iG):=⟨rfl,rfl,rfl,by decide +kernel,rfl,by decide +kernel,by decide +kernel⟩
abbrev iy:Stmt:=top 45
theorem vh:aS ["byte"] ["byte"] (au iy):=⟨rfl,rfl,rfl,by decide +kernel,rfl,by decide +kernel,by decide +kernel⟩
abbrev iq:Stmt:=top 46
theorem vQ:aS ["byte"] ["byte"] (au iq):=⟨rfl,rfl,rfl,by decide +kernel,rfl,by decide +kernel,by decide +kernel⟩
abbrev eW:Stmt:=top 47
theorem rb:aS ["byte"] ["byte"] (au eW):=⟨rfl,rfl,rfl,by decide +kernel,rfl,by decide +kernel,by decide +kernel⟩
abbrev m5:Stmt:=top 51
theorem xb:aS ["row","tree","i","node"] ["row","tree","i"] (au m5):=⟨rfl,rfl,rfl,by decide +kernel,rfl,by decide +kernel,by decide +kernel⟩
abbrev dC:Stmt:=top 52
theorem eY:aS ["signs","found","at","size"] ["signs"] (au dC):=⟨rfl,rfl,rfl,by decide +kernel,rfl,by decide +kernel,by decide +kernel⟩
abbrev iA:Stmt:=top 53
theorem u9:aS ["signs","at"] ["signs","at"] (au iA):=⟨rfl,rfl,rfl,by decide +kernel,rfl,by decide +kernel,by decide +kernel⟩
abbrev gm:Stmt:=top 54
theorem tZ:aS ["signs","at","size"] ["signs","at","size"] (au gm):=⟨rfl,rfl,rfl,by decide +kernel,rfl,by decide +kernel,by decide +kernel⟩
abbrev pB:Stmt:=top 55
theorem rL:aS ["signs","at","number","figure"] ["signs","at"] (au pB):=⟨rfl,rfl,rfl,by decide +kernel,rfl,by decide +kernel,by decide +kernel⟩
abbrev pw:Stmt:=top 56
theorem uW:aS ["numbers","row","point"] ["numbers"] (au pw):=⟨rfl,rfl,rfl,by decide +kernel,rfl,by decide +kernel,by decide +kernel⟩
abbrev hU:Stmt:=top 57
theorem pZ:aS ["point","row"] ["point"] (au hU):=⟨rfl,rfl,rfl,by decide +kernel,rfl,by decide +kernel,by decide +kernel⟩
abbrev fb:Stmt:=top 58
theorem rl:aS ["worth"] ["worth"] (au fb):=⟨rfl,rfl,rfl,by decide +kernel,rfl,by decide +kernel,by decide +kernel⟩
abbrev kL:Stmt:=top 64
theorem Ah:aS ["item","byte"] ["item","byte"] (au kL):=⟨rfl,rfl,rfl,by decide +kernel,rfl,by decide +kernel,by decide +kernel⟩
abbrev eZ:Stmt:=top 65
theorem ny:aS ["byte","rest"] ["byte"] (au eZ):=⟨rfl,rfl,rfl,by decide +kernel,rfl,by decide +kernel,by decide +kernel⟩
abbrev fC:Stmt:=top 66
theorem sZ:aS ["byte"] ["byte"] (au fC):=⟨rfl,rfl,rfl,by decide +kernel,rfl,by decide +kernel,by decide +kernel⟩
abbrev dk:Stmt:=top 67
theorem oF:aS ["item","byte"] ["item","byte"] (au dk):=⟨rfl,rfl,rfl,by decide +kernel,rfl,by decide +kernel,by decide +kernel⟩
abbrev dR:Stmt:=top 68
theorem lj:aS ["item","byte","worth"] ["item","byte"] (au dR):=⟨rfl,rfl,rfl,by decide +kernel,rfl,by decide +kernel,by decide +kernel⟩
abbrev dh:Stmt:=top 69
theorem kr:aS ["byte","spans"] ["byte"] (au dh):=⟨rfl,rfl,rfl,by decide +kernel,rfl,by decide +kernel,by decide +kernel⟩
abbrev dg:Stmt:=top 70
theorem oJ:aS ["byte"] ["byte"] (au dg):=⟨rfl,rfl,rfl,by decide +kernel,rfl,by decide +kernel,by decide +kernel⟩
abbrev eC:Stmt:=top 71
theorem lS:aS ["worth","second"] ["worth"] (au eC):=⟨rfl,rfl,rfl,by decide +kernel,rfl,by decide +kernel,by decide +kernel⟩
abbrev gv:Stmt:=top 72
theorem oQ:aS ["item","byte","worth"] ["item","byte"] (au gv):=⟨rfl,rfl,rfl,by decide +kernel,rfl,by decide +kernel,by decide +kernel⟩
abbrev cA:Stmt:=top 73
theorem nK:aS ["item","byte"] ["item","byte"] (au cA):=⟨rfl,rfl,rfl,by decide +kernel,rfl,by decide +kernel,by decide +kernel⟩
abbrev dc:Stmt:=top 74
theorem kx:aS ["byte","items"] ["byte"] (au dc):=⟨rfl,rfl,rfl,by decide +kernel,rfl,by decide +kernel,by decide +kernel⟩
abbrev cx:Stmt:=top 75
theorem mB:aS ["byte"] ["byte"] (au cx):=⟨rfl,rfl,rfl,by decide +kernel,rfl,by decide +kernel,by decide +kernel⟩
abbrev fG:Stmt:=top 76
theorem rW:aS [] [] (au fG):=⟨rfl,rfl,rfl,by decide +kernel,rfl,by decide +kernel,by decide +kernel⟩
abbrev mW:Stmt:=top 78
theorem rZ:aS ["row","walk","at"] ["row"] (au mW):=⟨rfl,rfl,rfl,by decide +kernel,rfl,by decide +kernel,by decide +kernel⟩
abbrev fe:Stmt:=top 79
theorem nk:aS ["row","at"] ["row"] (au fe):=⟨rfl,rfl,rfl,by decide +kernel,rfl,by decide +kernel,by decide +kernel⟩
abbrev mZ:Stmt:=top 82
theorem iU:aS ["row","tree","unended","at","byte","i"] ["row"] (au mZ):=⟨rfl,rfl,rfl,by decide +kernel,rfl,by decide +kernel,by decide +kernel⟩
abbrev o9:Stmt:=top 83
theorem u0:aS ["row","at","i","kind","end"] ["row","at","i"] (au o9):=⟨rfl,rfl,rfl,by decide +kernel,rfl,by decide +kernel,by decide +kernel⟩
abbrev ic:Stmt:=top 84
theorem mO:aS ["row","at","end"] ["row","at"] (au ic):=⟨rfl,rfl,rfl,by decide +kernel,rfl,by decide +kernel,by decide +kernel⟩
abbrev jg:Stmt:=top 85
theorem oa:aS ["row","at","end"] ["row","at"] (au jg):=⟨rfl,rfl,rfl,by decide +kernel,rfl,by decide +kernel,by decide +kernel⟩
abbrev jW:Stmt:=top 86
theorem rY:aS ["row","end"] ["row","end"] (au jW):=⟨rfl,rfl,rfl,by decide +kernel,rfl,by decide +kernel,by decide +kernel⟩
abbrev fB:Stmt:=top 87
theorem nU:aS ["tree","i","node"] ["tree","i"] (au fB):=⟨rfl,rfl,rfl,by decide +kernel,rfl,by decide +kernel,by decide +kernel⟩
abbrev jh:Stmt:=top 89
theorem wj:aS ["_law_script","_law_k"] ["_law_script","_law_k"] (au jh):=⟨rfl,rfl,rfl,by decide +kernel,rfl,by decide +kernel,by decide +kernel⟩
abbrev jR:Stmt:=top 90
theorem pq:aS ["_law_script","_law_k","_law_number"] ["_law_script","_law_k"] (au jR):=⟨rfl,rfl,rfl,by decide +kernel,rfl,by decide +kernel,by decide +kernel⟩
abbrev iH:Stmt:=top 91
theorem uR:aS ["_law_found"] ["_law_found"] (au iH):=⟨rfl,rfl,rfl,by decide +kernel,rfl,by decide +kernel,by decide +kernel⟩
abbrev gk:Stmt:=top 92
theorem tN:aS ["_law_found"] ["_law_found"] (au gk):=⟨rfl,rfl,rfl,by decide +kernel,rfl,by decide +kernel,by decide +kernel⟩
abbrev iE:Stmt:=top 93
theorem m4:aS ["_law_number","_law_kind","_law_rest"] ["_law_number"] (au iE):=⟨rfl,rfl,rfl,by decide +kernel,rfl,by decide +kernel,by decide +kernel⟩
abbrev gy:Stmt:=top 94
theorem j7:aS ["_law_script","_law_k","_law_number","_law_size_here"] ["_law_script","_law_k"] (au gy):=⟨rfl,rfl,rfl,by decide +kernel,rfl,by decide +kernel,by decide +kernel⟩
abbrev g9:Stmt:=top 95
theorem iQ:aS ["_law_point_here","_law_many_here","_law_found","_law_k"] ["_law_point_here"] (au g9):=⟨rfl,rfl,rfl,by decide +kernel,rfl,by decide +kernel,by decide +kernel⟩
abbrev jS:Stmt:=top 96
theorem tw:aS ["_law_point_here","_law_short"] ["_law_point_here"] (au jS):=⟨rfl,rfl,rfl,by decide +kernel,rfl,by decide +kernel,by decide +kernel⟩
abbrev fF:Stmt:=top 97
theorem jJ:aS ["_law_points_here","_law_refused_here","e"] ["_law_points_here"] (au fF):=⟨rfl,rfl,rfl,by decide +kernel,rfl,by decide +kernel,by decide +kernel⟩
abbrev sv:Stmt:=top 98
theorem nZ:aS ["_law_script","_law_points_here","_law_wrong","_law_due_here","_law_point_here","_law_handed","_law_found"] ["_law_script"] (au sv):=⟨rfl,rfl,rfl,by decide +kernel,rfl,by decide +kernel,by decide +kernel⟩
abbrev er:Stmt:=inClass (top 63) 0
theorem qb:aS ["self"] ["self"] (au er):=⟨rfl,rfl,rfl,by decide +kernel,rfl,by decide +kernel,by decide +kernel⟩
abbrev iI:Stmt:=inClass (top 63) 1
theorem mX:aS ["self","row","at","byte"] ["self","row"] (au iI):=⟨rfl,rfl,rfl,by decide +kernel,rfl,by decide +kernel,by decide +kernel⟩
abbrev eX:Stmt:=inClass (top 63) 2
theorem kj:aS ["self","byte","item","items"] ["self","byte"] (au eX):=⟨rfl,rfl,rfl,by decide +kernel,rfl,by decide +kernel,by decide +kernel⟩
abbrev eB:Stmt:=inClass (top 63) 3
theorem qG:aS ["self"] ["self"] (au eB):=⟨rfl,rfl,rfl,by decide +kernel,rfl,by decide +kernel,by decide +kernel⟩
abbrev eE:Stmt:=inClass (top 63) 5
theorem qk:aS ["self"] ["self"] (au eE):=⟨rfl,rfl,rfl,by decide +kernel,rfl,by decide +kernel,by decide +kernel⟩
abbrev gu:Stmt:=inClass (top 3) 0
theorem tX:aS ["self","at"] ["self","at"] (au gu):=⟨rfl,rfl,rfl,by decide +kernel,rfl,by decide +kernel,by decide +kernel⟩
set_option genInjectivity false in
set_option genSizeOf false in
structure Adr where
 ij:Addr
 d_is_point:FuncData
 ja:Addr
 d_eight:FuncData
 jT:Addr
 d_tail:FuncData
 iZ:Addr
 d_points:FuncData
 cF:Addr
 d_character_end:FuncData
 eN:Addr
 d_tails:FuncData
 bK:Addr
 d_second_of_three:FuncData
 bO:Addr
 d_second_of_four:FuncData
 gc:Addr
 d_character:FuncData
 fh:Addr
 d_is_white:FuncData
 eR:Addr
 d_is_figure:FuncData
 d7:Addr
 d_hex_worth:FuncData
 eQ:Addr
 d_word_rest:FuncData
 bt:Addr
 d_short_escape:FuncData
 lE:Addr
 d_meant:FuncData
 cR:Addr
 d_without_escapes:FuncData
 dH:Addr
 d_sign_size:FuncData
 dy:Addr
 d_sign_meant:FuncData
 kZ:Addr
 d_code:FuncData
 kI:Addr
 d_told:FuncData
 d8:Addr
 d_told_sign:FuncData
 dA:Addr
 d_small_figure:FuncData
 cf:Addr
 d_behind:FuncData
 bB:Addr
 d_behind_value:FuncData
 dw:Addr
 d_behind_lead:FuncData
 aX:Addr
 d_behind_in_number:FuncData
 bJ:Addr
 d_behind_in_text:FuncData
 bL:Addr
 d_behind_character:FuncData
 cn:Addr
 d_behind_backslash:FuncData
 cU:Addr
 d_behind_code_d:FuncData
 dB:Addr
 d_behind_hex:FuncData
 bj:Addr
 d_behind_in_brackets:FuncData
 b5:Addr
 d_behind_row_begin:FuncData
 bM:Addr
 d_behind_fields_begin:FuncData
 dX:Addr
 d_member_rest:FuncData
 ll:Addr
 d_fault:FuncData
 dF:Addr
 d_refuse_fault:FuncData
 kA:Addr
 d_nodes:FuncData
 mG:Addr
 d_leaf:FuncData
 jo:Addr
 d_plain_end:FuncData
 iC:Addr
 d_text_end:FuncData
 fX:Addr
 d_is_name:FuncData
 fE:Addr
 d_with_member:FuncData
 ia:Addr
 d_law_cell:FuncData
 dG:Addr
 d_law_mix:FuncData
 gf:Addr
 d_law_whole:FuncData
 ft:Addr
 d_law_wholes:FuncData
 dq:Addr
 d_law_point:FuncData
 eP:Addr
 d_law_points:FuncData
 d5:Addr
 d_law_eight:FuncData
 jt:Addr
 d_law_due:FuncData
 eS:Addr
 d_law_refused:FuncData
 tI:Addr
 d_law:FuncData
 cX:Addr
 d_Walk___init__:FuncData
 gi:Addr
 d_Walk_take:FuncData
 d9:Addr
 d_Walk_goes_on:FuncData
 cE:Addr
 d_Walk_brackets:FuncData
 cV:Addr
 d_Walk_is_whole:FuncData
 C_GlassError:Addr
 C_Fault:Addr
 f_Fault_init:Addr
 d_Fault_init:FuncData
 C_NoPoint:Addr
 C_NoNode:Addr
 C_Walk:Addr
 v_LAST_POINT:Value
 v_FIRST_PAIRED:Value
 v_LAST_PAIRED:Value
 v_MARKS:Addr
 v_TAIL_MARK:Value
 v_TAIL:Addr
 v_BLANK:Value
 v_QUOTE:Value
 v_PLUS:Value
 v_COMMA:Value
 v_MINUS:Value
 v_POINT:Value
 v_NOUGHT:Value
 v_NINE:Value
 v_COLON:Value
 v_BIG_E:Value
 v_ROW_BEGIN:Value
 v_BACKSLASH:Value
 v_ROW_END:Value
 v_SMALL_E:Value
 v_SMALL_U:Value
 v_FIELDS_BEGIN:Value
 v_FIELDS_END:Value
 v_WHITE:Addr
 v_WORDS:Addr
 v_SHORT_ESCAPES:Addr
 v_ESCAPED:Addr
 v_CODE_SIZE:Value
 v_MOST_BRACKETS:Value
 v_LOOSE:Addr
 v_UNENDED:Addr
 v_KINDS:Addr
structure Txt (K:PySem.W.Frag) (mg:Str -> Option Value) (t:Adr):Prop where
 F_is_point:Fun K "is_point" "is_point" jj t.ij t.d_is_point
 m3:mg "is_point" = some (.ref t.ij)
 b_is_point:Binds K t.d_is_point ["point"] []
 F_eight:Fun K "eight" "eight" mK t.ja t.d_eight
 lz:mg "eight" = some (.ref t.ja)
 b_eight:Binds K t.d_eight ["point"] []
 F_tail:Fun K "tail" "tail" pD t.jT t.d_tail
 mS:mg "tail" = some (.ref t.jT)
 b_tail:Binds K t.d_tail ["bits"] []
 F_points:Fun K "points" "points" kN t.iZ t.d_points
 nR:mg "points" = some (.ref t.iZ)
 b_points:Binds K t.d_points ["row"] []
 F_character_end:Fun K "character_end" "character_end" eA t.cF t.d_character_end
 fo:mg "character_end" = some (.ref t.cF)
 b_character_end:Binds K t.d_character_end ["row","at"] []
 F_tails:Fun K "tails" "tails" mE t.eN t.d_tails
 gU:mg "tails" = some (.ref t.eN)
 b_tails:Binds K t.d_tails ["byte"] []
 F_second_of_three:Fun K "second_of_three" "second_of_three" dE t.bK t.d_second_of_three
 dz:mg "second_of_three" = some (.ref t.bK)
 b_second_of_three:Binds K t.d_second_of_three ["byte"] []
 F_second_of_four:Fun K "second_of_four" "second_of_four" dQ t.bO t.d_second_of_four
 dS:mg "second_of_four" = some (.ref t.bO)
 b_second_of_four:Binds K t.d_second_of_four ["byte"] []
 F_character:Fun K "character" "character" gZ t.gc t.d_character
 lA:mg "character" = some (.ref t.gc)
 b_character:Binds K t.d_character ["row","at","end"] []
 F_is_white:Fun K "is_white" "is_white" jm t.fh t.d_is_white
 ji:mg "is_white" = some (.ref t.fh)
 b_is_white:Binds K t.d_is_white ["byte"] []
 F_is_figure:Fun K "is_figure" "is_figure" iG t.eR t.d_is_figure
 jq:mg "is_figure" = some (.ref t.eR)
 b_is_figure:Binds K t.d_is_figure ["byte"] []
 F_hex_worth:Fun K "hex_worth" "hex_worth" iy t.d7 t.d_hex_worth
 jr:mg "hex_worth" = some (.ref t.d7)
 b_hex_worth:Binds K t.d_hex_worth ["byte"] []
 F_word_rest:Fun K "word_rest" "word_rest" iq t.eQ t.d_word_rest
 hJ:mg "word_rest" = some (.ref t.eQ)
 b_word_rest:Binds K t.d_word_rest ["byte"] []
 F_short_escape:Fun K "short_escape" "short_escape" eW t.bt t.d_short_escape
 bR:mg "short_escape" = some (.ref t.bt)
 b_short_escape:Binds K t.d_short_escape ["byte"] []
 F_meant:Fun K "meant" "meant" m5 t.lE t.d_meant
 rN:mg "meant" = some (.ref t.lE)
 b_meant:Binds K t.d_meant ["row","tree","i"] []
 F_without_escapes:Fun K "without_escapes" "without_escapes" dC t.cR t.d_without_escapes
 gT:mg "without_escapes" = some (.ref t.cR)
 b_without_escapes:Binds K t.d_without_escapes ["signs"] []
 F_sign_size:Fun K "sign_size" "sign_size" iA t.dH t.d_sign_size
 gb:mg "sign_size" = some (.ref t.dH)
 b_sign_size:Binds K t.d_sign_size ["signs","at"] []
 F_sign_meant:Fun K "sign_meant" "sign_meant" gm t.dy t.d_sign_meant
 gn:mg "sign_meant" = some (.ref t.dy)
 b_sign_meant:Binds K t.d_sign_meant ["signs","at","size"] []
 F_code:Fun K "code" "code" pB t.kZ t.d_code
 pd:mg "code" = some (.ref t.kZ)
 b_code:Binds K t.d_code ["signs","at"] []
 F_told:Fun K "told" "told" pw t.kI t.d_told
 qo:mg "told" = some (.ref t.kI)
 b_told:Binds K t.d_told ["numbers"] []
 F_told_sign:Fun K "told_sign" "told_sign" hU t.d8 t.d_told_sign
 iB:mg "told_sign" = some (.ref t.d8)
 b_told_sign:Binds K t.d_told_sign ["point"] []
 F_small_figure:Fun K "small_figure" "small_figure" fb t.dA t.d_small_figure
 hZ:mg "small_figure" = some (.ref t.dA)
 b_small_figure:Binds K t.d_small_figure ["worth"] []
 F_behind:Fun K "behind" "behind" kL t.cf t.d_behind
 cD:mg "behind" = some (.ref t.cf)
 b_behind:Binds K t.d_behind ["item","byte"] []
 F_behind_value:Fun K "behind_value" "behind_value" eZ t.bB t.d_behind_value
 cq:mg "behind_value" = some (.ref t.bB)
 b_behind_value:Binds K t.d_behind_value ["byte"] []
 F_behind_lead:Fun K "behind_lead" "behind_lead" fC t.dw t.d_behind_lead
 gH:mg "behind_lead" = some (.ref t.dw)
 b_behind_lead:Binds K t.d_behind_lead ["byte"] []
 F_behind_in_number:Fun K "behind_in_number" "behind_in_number" dk t.aX t.d_behind_in_number
 bA:mg "behind_in_number" = some (.ref t.aX)
 b_behind_in_number:Binds K t.d_behind_in_number ["item","byte"] []
 F_behind_in_text:Fun K "behind_in_text" "behind_in_text" dR t.bJ t.d_behind_in_text
 cK:mg "behind_in_text" = some (.ref t.bJ)
 b_behind_in_text:Binds K t.d_behind_in_text ["item","byte"] []
 F_behind_character:Fun K "behind_character" "behind_character" dh t.bL t.d_behind_character
 cZ:mg "behind_character" = some (.ref t.bL)
 b_behind_character:Binds K t.d_behind_character ["byte"] []
 F_behind_backslash:Fun K "behind_backslash" "behind_backslash" dg t.cn t.d_behind_backslash
 fi:mg "behind_backslash" = some (.ref t.cn)
 b_behind_backslash:Binds K t.d_behind_backslash ["byte"] []
 F_behind_code_d:Fun K "behind_code_d" "behind_code_d" eC t.cU t.d_behind_code_d
 gF:mg "behind_code_d" = some (.ref t.cU)
 b_behind_code_d:Binds K t.d_behind_code_d ["worth"] []
 F_behind_hex:Fun K "behind_hex" "behind_hex" gv t.dB t.d_behind_hex
 gA:mg "behind_hex" = some (.ref t.dB)
 b_behind_hex:Binds K t.d_behind_hex ["item","byte"] []
 F_behind_in_brackets:Fun K "behind_in_brackets" "behind_in_brackets" cA t.bj t.d_behind_in_brackets
 bP:mg "behind_in_brackets" = some (.ref t.bj)
 b_behind_in_brackets:Binds K t.d_behind_in_brackets ["item","byte"] []
 F_behind_row_begin:Fun K "behind_row_begin" "behind_row_begin" dc t.b5 t.d_behind_row_begin
 dU:mg "behind_row_begin" = some (.ref t.b5)
 b_behind_row_begin:Binds K t.d_behind_row_begin ["byte"] []
 F_behind_fields_begin:Fun K "behind_fields_begin" "behind_fields_begin" cx t.bM t.d_behind_fields_begin
 dP:mg "behind_fields_begin" = some (.ref t.bM)
 b_behind_fields_begin:Binds K t.d_behind_fields_begin ["byte"] []
 F_member_rest:Fun K "member_rest" "member_rest" fG t.dX t.d_member_rest
 iX:mg "member_rest" = some (.ref t.dX)
 b_member_rest:Binds K t.d_member_rest [] []
 F_fault:Fun K "fault" "fault" mW t.ll t.d_fault
 rq:mg "fault" = some (.ref t.ll)
 b_fault:Binds K t.d_fault ["row"] []
 F_refuse_fault:Fun K "refuse_fault" "refuse_fault" fe t.dF t.d_refuse_fault
 ie:mg "refuse_fault" = some (.ref t.dF)
 b_refuse_fault:Binds K t.d_refuse_fault ["row"] []
 F_nodes:Fun K "nodes" "nodes" mZ t.kA t.d_nodes
 rP:mg "nodes" = some (.ref t.kA)
 b_nodes:Binds K t.d_nodes ["row"] []
 F_leaf:Fun K "leaf" "leaf" o9 t.mG t.d_leaf
 vy:mg "leaf" = some (.ref t.mG)
 b_leaf:Binds K t.d_leaf ["row","at","i"] []
 F_plain_end:Fun K "plain_end" "plain_end" ic t.jo t.d_plain_end
 oi:mg "plain_end" = some (.ref t.jo)
 b_plain_end:Binds K t.d_plain_end ["row","at"] []
 F_text_end:Fun K "text_end" "text_end" jg t.iC t.d_text_end
 mT:mg "text_end" = some (.ref t.iC)
 b_text_end:Binds K t.d_text_end ["row","at"] []
 F_is_name:Fun K "is_name" "is_name" jW t.fX t.d_is_name
 lR:mg "is_name" = some (.ref t.fX)
 b_is_name:Binds K t.d_is_name ["row","end"] []
 F_with_member:Fun K "with_member" "with_member" fB t.fE t.d_with_member
 j8:mg "with_member" = some (.ref t.fE)
 b_with_member:Binds K t.d_with_member ["tree","i"] []
 F_law_cell:Fun K "_law_cell" "_law_cell" jh t.ia t.d_law_cell
 m7:mg "_law_cell" = some (.ref t.ia)
 b_law_cell:Binds K t.d_law_cell ["_law_script","_law_k"] []
 F_law_mix:Fun K "_law_mix" "_law_mix" jR t.dG t.d_law_mix
 gL:mg "_law_mix" = some (.ref t.dG)
 b_law_mix:Binds K t.d_law_mix ["_law_script","_law_k"] []
 F_law_whole:Fun K "_law_whole" "_law_whole" iH t.gf t.d_law_whole
 lF:mg "_law_whole" = some (.ref t.gf)
 b_law_whole:Binds K t.d_law_whole ["_law_found"] []
 F_law_wholes:Fun K "_law_wholes" "_law_wholes" gk t.ft t.d_law_wholes
 kz:mg "_law_wholes" = some (.ref t.ft)
 b_law_wholes:Binds K t.d_law_wholes ["_law_found"] []
 F_law_point:Fun K "_law_point" "_law_point" iE t.dq t.d_law_point
 fw:mg "_law_point" = some (.ref t.dq)
 b_law_point:Binds K t.d_law_point ["_law_number"] []
 F_law_points:Fun K "_law_points" "_law_points" gy t.eP t.d_law_points
 jv:mg "_law_points" = some (.ref t.eP)
 b_law_points:Binds K t.d_law_points ["_law_script","_law_k"] []
 F_law_eight:Fun K "_law_eight" "_law_eight" g9 t.d5 t.d_law_eight
 hR:mg "_law_eight" = some (.ref t.d5)
 b_law_eight:Binds K t.d_law_eight ["_law_point_here"] []
 F_law_due:Fun K "_law_due" "_law_due" jS t.jt t.d_law_due
 om:mg "_law_due" = some (.ref t.jt)
 b_law_due:Binds K t.d_law_due ["_law_point_here"] []
 F_law_refused:Fun K "_law_refused" "_law_refused" fF t.eS t.d_law_refused
 kb:mg "_law_refused" = some (.ref t.eS)
 b_law_refused:Binds K t.d_law_refused ["_law_points_here"] []
 F_law:Fun K "law" "law" sv t.tI t.d_law
 BI:mg "law" = some (.ref t.tI)
 b_law:Binds K t.d_law ["_law_script"] []
 F_Walk___init__:Fun K "__init__" "Walk.__init__" er t.cX t.d_Walk___init__
 b_Walk___init__:Binds K t.d_Walk___init__ ["self"] []
 F_Walk_take:Fun K "take" "Walk.take" iI t.gi t.d_Walk_take
 h_Walk_take:Meth K t.C_Walk "take" t.gi
 b_Walk_take:Binds K t.d_Walk_take ["self","row"] []
 F_Walk_goes_on:Fun K "goes_on" "Walk.goes_on" eX t.d9 t.d_Walk_goes_on
 h_Walk_goes_on:Meth K t.C_Walk "goes_on" t.d9
 b_Walk_goes_on:Binds K t.d_Walk_goes_on ["self","byte"] []
 F_Walk_brackets:Fun K "brackets" "Walk.brackets" eB t.cE t.d_Walk_brackets
 h_Walk_brackets:Meth K t.C_Walk "brackets" t.cE
 b_Walk_brackets:Binds K t.d_Walk_brackets ["self"] []
 F_Walk_is_whole:Fun K "is_whole" "Walk.is_whole" eE t.cV t.d_Walk_is_whole
 h_Walk_is_whole:Meth K t.C_Walk "is_whole" t.cV
 b_Walk_is_whole:Binds K t.d_Walk_is_whole ["self"] []
 n_len:mg "len" = none
 n_isinstance:mg "isinstance" = none
 n_tuple:mg "tuple" = none
 n_range:mg "range" = none
 n_int:mg "int" = none
 n_bool:mg "bool" = none
 n_list:mg "list" = none
 n_all:mg "all" = none
 n_enumerate:mg "enumerate" = none
 n_ValueError:mg "ValueError" = none
 m_Walk:mg "Walk" = some (.ref t.C_Walk)
 c_Walk:Cls K t.C_Walk
 k_Walk:Mk K t.C_Walk t.cX
 na_Walk_coming:lO K t.C_Walk "coming"
 m_GlassError:mg "GlassError" = some (.ref t.C_GlassError)
 e_GlassError:nc K t.C_GlassError [.type "ValueError",.type "Exception",.type "BaseException",.type "object"]
 x_GlassError:PySem.W.excIn K t.C_GlassError [.type "ValueError",.type "Exception",.type "BaseException",.type "object"] "ValueError.__new__" = true
 m_Fault:mg "Fault" = some (.ref t.C_Fault)
 e_Fault:nc K t.C_Fault [.ref t.C_GlassError,.type "ValueError",.type "Exception",.type "BaseException",.type "object"]
 F_Fault_init:Fun K "__init__" "Fault.__init__" gu t.f_Fault_init t.d_Fault_init
 b_Fault_init:Binds K t.d_Fault_init ["self","at"] []
 k_Fault:XMk K mg "Fault" t.C_Fault t.f_Fault_init [.ref t.C_GlassError,.type "ValueError",.type "Exception",.type "BaseException",.type "object"] "at"
 m_NoPoint:mg "NoPoint" = some (.ref t.C_NoPoint)
 e_NoPoint:nc K t.C_NoPoint [.ref t.C_GlassError,.type "ValueError",.type "Exception",.type "BaseException",.type "object"]
 x_NoPoint:PySem.W.excIn K t.C_NoPoint [.type "ValueError",.type "Exception",.type "BaseException",.type "object"] "ValueError.__new__" = true
 m_NoNode:mg "NoNode" = some (.ref t.C_NoNode)
 e_NoNode:nc K t.C_NoNode [.ref t.C_GlassError,.type "ValueError",.type "Exception",.type "BaseException",.type "object"]
 x_NoNode:PySem.W.excIn K t.C_NoNode [.type "ValueError",.type "Exception",.type "BaseException",.type "object"] "ValueError.__new__" = true
 m_LAST_POINT:mg "LAST_POINT" = some t.v_LAST_POINT
 r_LAST_POINT:RelV (.int 1114111) t.v_LAST_POINT
 m_FIRST_PAIRED:mg "FIRST_PAIRED" = some t.v_FIRST_PAIRED
 r_FIRST_PAIRED:RelV (.int 55296) t.v_FIRST_PAIRED
 m_LAST_PAIRED:mg "LAST_PAIRED" = some t.v_LAST_PAIRED
 r_LAST_PAIRED:RelV (.int 57343) t.v_LAST_PAIRED
 m_MARKS:mg "MARKS" = some (.ref t.v_MARKS)
 r_MARKS:RelV (.ref t.v_MARKS) (.ref t.v_MARKS)
 q_MARKS:∀ H,SqT K H t.v_MARKS [.int 0,.int 192,.int 224,.int 240]
 m_TAIL_MARK:mg "TAIL_MARK" = some t.v_TAIL_MARK
 r_TAIL_MARK:RelV (.int 128) t.v_TAIL_MARK
 m_TAIL:mg "TAIL" = some (.ref t.v_TAIL)
 r_TAIL:RelV (.ref t.v_TAIL) (.ref t.v_TAIL)
 q_TAIL:∀ H,SqT K H t.v_TAIL [.int 128,.int 191]
 m_BLANK:mg "BLANK" = some t.v_BLANK
 r_BLANK:RelV (.int 32) t.v_BLANK
 m_QUOTE:mg "QUOTE" = some t.v_QUOTE
 r_QUOTE:RelV (.int 34) t.v_QUOTE
 m_PLUS:mg "PLUS" = some t.v_PLUS
 r_PLUS:RelV (.int 43) t.v_PLUS
 m_COMMA:mg "COMMA" = some t.v_COMMA
 r_COMMA:RelV (.int 44) t.v_COMMA
 m_MINUS:mg "MINUS" = some t.v_MINUS
 r_MINUS:RelV (.int 45) t.v_MINUS
 m_POINT:mg "POINT" = some t.v_POINT
 r_POINT:RelV (.int 46) t.v_POINT
 m_NOUGHT:mg "NOUGHT" = some t.v_NOUGHT
 r_NOUGHT:RelV (.int 48) t.v_NOUGHT
 m_NINE:mg "NINE" = some t.v_NINE
 r_NINE:RelV (.int 57) t.v_NINE
 m_COLON:mg "COLON" = some t.v_COLON
 r_COLON:RelV (.int 58) t.v_COLON
 m_BIG_E:mg "BIG_E" = some t.v_BIG_E
 r_BIG_E:RelV (.int 69) t.v_BIG_E
 m_ROW_BEGIN:mg "ROW_BEGIN" = some t.v_ROW_BEGIN
 r_ROW_BEGIN:RelV (.int 91) t.v_ROW_BEGIN
 m_BACKSLASH:mg "BACKSLASH" = some t.v_BACKSLASH
 r_BACKSLASH:RelV (.int 92) t.v_BACKSLASH
 m_ROW_END:mg "ROW_END" = some t.v_ROW_END
 r_ROW_END:RelV (.int 93) t.v_ROW_END
 m_SMALL_E:mg "SMALL_E" = some t.v_SMALL_E
 r_SMALL_E:RelV (.int 101) t.v_SMALL_E
 m_SMALL_U:mg "SMALL_U" = some t.v_SMALL_U
 r_SMALL_U:RelV (.int 117) t.v_SMALL_U
 m_FIELDS_BEGIN:mg "FIELDS_BEGIN" = some t.v_FIELDS_BEGIN
 r_FIELDS_BEGIN:RelV (.int 123) t.v_FIELDS_BEGIN
 m_FIELDS_END:mg "FIELDS_END" = some t.v_FIELDS_END
 r_FIELDS_END:RelV (.int 125) t.v_FIELDS_END
 m_WHITE:mg "WHITE" = some (.ref t.v_WHITE)
 r_WHITE:RelV (.ref t.v_WHITE) (.ref t.v_WHITE)
 q_WHITE:∀ H,SqT K H t.v_WHITE [.int 9,.int 10,.int 13,.int 32]
 m_WORDS:mg "WORDS" = some (.ref t.v_WORDS)
 r_WORDS:RelV (.ref t.v_WORDS) (.ref t.v_WORDS)
 q_WORDS:DKP K t.v_WORDS [(110,.tup ([117,108,108].map .int)),(116,.tup ([114,117,101].map .int)),(102,.tup ([97,108,115,101].map .int))]
 m_SHORT_ESCAPES:mg "SHORT_ESCAPES" = some (.ref t.v_SHORT_ESCAPES)
 r_SHORT_ESCAPES:RelV (.ref t.v_SHORT_ESCAPES) (.ref t.v_SHORT_ESCAPES)
 q_SHORT_ESCAPES:DKP K t.v_SHORT_ESCAPES [(34,.int 34),(92,.int 92),(47,.int 47),(98,.int 8),(102,.int 12),(110,.int 10),(114,.int 13),(116,.int 9)]
 m_ESCAPED:mg "ESCAPED" = some (.ref t.v_ESCAPED)
 r_ESCAPED:RelV (.ref t.v_ESCAPED) (.ref t.v_ESCAPED)
 q_ESCAPED:DKP K t.v_ESCAPED [(8,.int 98),(9,.int 116),(10,.int 110),(12,.int 102),(13,.int 114),(34,.int 34),(92,.int 92)]
 m_CODE_SIZE:mg "CODE_SIZE" = some t.v_CODE_SIZE
 r_CODE_SIZE:RelV (.int 6) t.v_CODE_SIZE
 m_MOST_BRACKETS:mg "MOST_BRACKETS" = some t.v_MOST_BRACKETS
 r_MOST_BRACKETS:RelV (.int 64) t.v_MOST_BRACKETS
 m_LOOSE:mg "LOOSE" = some (.ref t.v_LOOSE)
 r_LOOSE:RelV (.ref t.v_LOOSE) (.ref t.v_LOOSE)
 q_LOOSE:∀ H,SqT K H t.v_LOOSE [.str "white",.str "figures",.str "fraction",.str "exponent",.str "sign"]
 m_UNENDED:mg "UNENDED" = some (.ref t.v_UNENDED)
 r_UNENDED:RelV (.ref t.v_UNENDED) (.ref t.v_UNENDED)
 q_UNENDED:∀ H,SqT K H t.v_UNENDED [.str "row",.str "more row",.str "fields",.str "more fields"]
 m_KINDS:mg "KINDS" = some (.ref t.v_KINDS)
 r_KINDS:RelV (.ref t.v_KINDS) (.ref t.v_KINDS)
 q_KINDS:DKP K t.v_KINDS [(34,.str "text"),(91,.str "row"),(102,.str "false"),(110,.str "null"),(116,.str "true"),(123,.str "fields")]
noncomputable def bD (t:Adr) (c:String):Option Addr:=if c = "GlassError" then some t.C_GlassError else if c = "Fault" then some t.C_Fault else if c = "NoPoint" then some t.C_NoPoint else if c = "NoNode" then some t.C_NoNode else if c = "Walk" then some t.C_Walk else none
theorem oB {K:PySem.W.Frag} {mg:Str -> Option Value} {t:Adr} (T:Txt K mg t):∀ c C b,bD t c = some C -> iK c = some b -> uE K t.C_GlassError C b:=by
 intro c C b h1 h2
 unfold bD at h1
 unfold iK at h2
 by_cases e:c = "GlassError"
 . subst e; simp at h1 h2; subst h1; subst h2; exact takes T.e_GlassError T.e_GlassError (by simp)
 rw [if_neg e] at h1
 by_cases e:c = "Fault"
 . subst e; simp at h1 h2; subst h1; subst h2; exact takes T.e_Fault T.e_GlassError (by simp)
 rw [if_neg e] at h1
 by_cases e:c = "NoPoint"
 . subst e; simp at h1 h2; subst h1; subst h2; exact takes T.e_NoPoint T.e_GlassError (by simp)
 rw [if_neg e] at h1
 by_cases e:c = "NoNode"
 . subst e; simp at h1 h2; subst h1; subst h2; exact takes T.e_NoNode T.e_GlassError (by simp)
 rw [if_neg e] at h1
 by_cases e:c = "Walk"
 . subst e; simp at h2
 rw [if_neg e] at h1
 cases h1
theorem wV {K:PySem.W.Frag} {mg:Str -> Option Value} {t:Adr} (T:Txt K mg t):∀ c C,bD t c = some C -> (c == "NoPoint") = true -> ∃ bm,nc K C bm /\ ((∃ B bmB,(.ref t.C_NoPoint:V) = .ref B /\ nc K B bmB /\ (Value.ref C ::bm).contains (.ref B) = true) \/ ((.ref t.C_NoPoint:V) = .ty "ValueError" /\ bm.contains (.type "ValueError") = true)):=by
 intro c C h1 h2
 unfold bD at h1
 by_cases e:c = "GlassError"
 . subst e; simp at h2
 rw [if_neg e] at h1
 by_cases e:c = "Fault"
 . subst e; simp at h2
 rw [if_neg e] at h1
 by_cases e:c = "NoPoint"
 . subst e; simp at h1; subst h1; exact ⟨_,T.e_NoPoint,.inl ⟨_,_,rfl,T.e_NoPoint,by simp⟩⟩
 rw [if_neg e] at h1
 by_cases e:c = "NoNode"
 . subst e; simp at h2
 rw [if_neg e] at h1
 by_cases e:c = "Walk"
 . subst e; simp at h2
 rw [if_neg e] at h1
 cases h1
theorem js {K:PySem.W.Frag} {mg:Str -> Option Value} {t:Adr} (T:Txt K mg t):∀ c C,bD t c = some C -> nJ c = true -> Cls K C /\ lO K C "coming":=by
 intro c C h1 h2
 unfold bD at h1
 unfold nJ at h2
 by_cases e:c = "GlassError"
 . subst e; simp at h2
 rw [if_neg e] at h1
 by_cases e:c = "Fault"
 . subst e; simp at h2
 rw [if_neg e] at h1
 by_cases e:c = "NoPoint"
 . subst e; simp at h2
 rw [if_neg e] at h1
 by_cases e:c = "NoNode"
 . subst e; simp at h2
 rw [if_neg e] at h1
 by_cases e:c = "Walk"
 . subst e; simp at h1; subst h1; exact ⟨T.c_Walk,T.na_Walk_coming⟩
 rw [if_neg e] at h1
 cases h1
theorem Mi {K:PySem.W.Frag} {mg:Str -> Option Value} {t:Adr} (T:Txt K mg t):∀ c C,bD t c = some C -> (c == "Fault") = true -> yL K C "at":=by
 intro c C h1 h2
 unfold bD at h1
 by_cases e:c = "GlassError"
 . subst e; simp at h2
 rw [if_neg e] at h1
 by_cases e:c = "Fault"
 . subst e; simp at h1; subst h1; exact T.k_Fault.xc
 rw [if_neg e] at h1
 by_cases e:c = "NoPoint"
 . subst e; simp at h2
 rw [if_neg e] at h1
 by_cases e:c = "NoNode"
 . subst e; simp at h2
 rw [if_neg e] at h1
 by_cases e:c = "Walk"
 . subst e; simp at h2
 rw [if_neg e] at h1
 cases h1
section
variable {P:Program} {w:World} {K:PySem.W.Frag} {mg:Str -> Option Value} {base:Heap} {t:Adr}
theorem lJ (T:Txt K mg t):bV P w K mg base (CXE P w) 1 t.f_Fault_init t.d_Fault_init ["self","at"] (sj t.C_Fault "at"):=DJ T.F_Fault_init tX T.k_Fault.xc fun _ _ _ _ _ _=>Co (qv 0) (qv 1)
theorem wC (T:Txt K mg t):bV P w K mg base (CXE P w) 1 t.ia t.d_law_cell ["_law_script","_law_k"] (spP K (bD t) ia):=
 dY T.F_law_cell wj fun cdv A outer s H E hr=>⟨_,(ai (aZ (eU (qv 0) (fun _=>rfl)) (aq (aA (cG cW (qv 0) (aV fk (qv 1) (cC cb rfl T.n_len L2.E.boot_len (aa (qv 0) ak))) (fun _ _=>rfl)))) aG)
   (aq (aA ao))),
  (ay (ba (fU af) (aC (av eh af (av fj af (eT iT af)))) aI)
    (aC ah))⟩
theorem jn (T:Txt K mg t):bV P w K mg base (CXE P w) 2 t.dG t.d_law_mix ["_law_script","_law_k"] (spP K (bD t) dG):=
 dY T.F_law_mix pq fun cdv A outer s H E hr=>⟨_,(ai (bu (i:=2) pq.nd rfl (by first | exact Or.inl rfl | exact Or.inr rfl) (aV fk (aV b7 (aE ((wC T).mono (by decide)) hr rfl T.m7 T.F_law_cell.kp T.b_law_cell .nil aH (aa (qv 0) (aa (qv 1) ak))) (aV mI ao (aV b7 (qv 1) ao))) ao))
   (ai (bu (i:=2) pq.nd rfl (by first | exact Or.inl rfl | exact Or.inr rfl) (aV fk (aV mI (qv 2) ao) ao))
   (aq (aA (aV fk (aV b7 (aV mI (aV jc (qv 2) ao) ao) (qv 2)) ao))))),
  (ay (bz (av fj (av b9 (aJ (ae af (ae af ax))) (av mV ah (av b9 af ah))) ah))
    (ay (bz (av fj (av mV af ah) ah))
    (aC (av fj (av b9 (av mV (av jd af ah) ah) af) ah))))⟩
theorem vo (T:Txt K mg t):bV P w K mg base (CXE P w) 1 t.dq t.d_law_point ["_law_number"] (spP K (bD t) dq):=
 dY T.F_law_point m4 fun cdv A outer s H E hr=>⟨_,(ai (bu (i:=1) m4.nd rfl (by first | exact Or.inl rfl | exact Or.inr rfl) (aV fk (qv 0) ao))
   (ai (bu (i:=2) m4.nd rfl (by first | exact Or.inl rfl | exact Or.inr rfl) (aV jc (qv 0) ao))
   (ai (aZ (aB gG (qv 1) ao (aL _)) (aq (aA (aV b7 ao (aV fk (qv 2) ao)))) aG)
   (ai (aZ (aB gG (qv 1) ao (aL _)) (aq (aA (cG cW (bp (aa ao (aa ao (aa ao (aa ao (aa ao (aa ao (aa ao (aa ao (aa ao (aa ao (aa ao ak)))))))))))) (aV fk (qv 2) ao) (fun _ _=>rfl)))) aG)
   (ai (aZ (aB cw (qv 1) ao (aL _)) (aq (aA (aV b7 ao (aV fk (qv 2) ao)))) aG)
   (ai (aZ (aB cw (qv 1) ao (aL _)) (aq (aA (aV b7 ao (aV fk (qv 2) ao)))) aG)
   (ai (aZ (aB cw (qv 1) ao (aL _)) (aq (aA (aV b7 ao (aV fk (qv 2) ao)))) aG)
   (aq (aA (aV b7 ao (aV fk (qv 2) ao))))))))))),
  (ay (bz (av fj af ah))
    (ay (bz (av jd af ah))
    (ay (ba (az (av gD af ah)) (aC (av b9 ah (av fj af ah))) aI)
    (ay (ba (az (av gD af ah)) (aC (av eh (br (ae ah (ae ah (ae ah (ae ah (ae ah (ae ah (ae ah (ae ah (ae ah (ae ah (ae ah ax)))))))))))) (av fj af ah))) aI)
    (ay (ba (az (av cv af ah)) (aC (av b9 ah (av fj af ah))) aI)
    (ay (ba (az (av cv af ah)) (aC (av b9 ah (av fj af ah))) aI)
    (ay (ba (az (av cv af ah)) (aC (av b9 ah (av fj af ah))) aI)
    (aC (av b9 ah (av fj af ah))))))))))⟩
theorem tW (T:Txt K mg t):bV P w K mg base (CXE P w) 3 t.eP t.d_law_points ["_law_script","_law_k"] (spP K (bD t) eP):=
 dY T.F_law_points j7 fun cdv A outer s H E hr=>⟨_,(ai (bu (i:=2) j7.nd rfl (by first | exact Or.inl rfl | exact Or.inr rfl) (aE ((jn T).mono (by decide)) hr rfl T.gL T.F_law_mix.kp T.b_law_mix .nil aH (aa (qv 0) (aa (qv 1) ak))))
   (ai (bu (i:=3) j7.nd rfl (by first | exact Or.inl rfl | exact Or.inr rfl) (aV fk (qv 2) ao))
   (ai (aZ (aB cw (aV fk (aV jc (qv 2) ao) ao) ao (aL _)) (aq (bu (i:=3) j7.nd rfl (by first | exact Or.inl rfl | exact Or.inr rfl) (aV fk (aV jc (qv 2) ao) ao))) aG)
   (aq (aA (pW (M:=["_law_script","_law_k"]) (ι:=[0,1]) (x:="_law_j") ⟨rfl,rfl,rfl,rfl,rfl,rfl,rfl,rfl,rfl,rfl,rfl,by decide +kernel⟩ rfl (qz rfl T.n_range (aa (qv 3) ak)) fun _ _ _ _=>(aE ((vo T).mono (by decide)) hr rfl T.fw T.F_law_point.kp T.b_law_point .nil vP (aa (aE ((jn T).mono (by decide)) hr rfl T.gL T.F_law_mix.kp T.b_law_mix .nil vP (aa (qv 0) (aa (aV b7 (aV b7 (qv 1) ao) (qv 2)) ak))) ak)))))))),
  (ay (bz (aJ (ae af (ae af ax))))
    (ay (bz (av fj af ah))
    (ay (ba (az (av cv (av fj (av jd af ah) ah) ah)) (bz (av fj (av jd af ah) ah)) aI)
    (aC (wu (by decide) af (aJ (ae (aJ (ae af (ae (av b9 (av b9 af ah) af) ax))) ax)))))))⟩
theorem wH (T:Txt K mg t):bV P w K mg base (CXE P w) 1 t.ij t.d_is_point ["point"] (spP K (bD t) ij):=
 dY T.F_is_point xW fun cdv A outer s H E hr=>⟨_,(aq (aA (JF (tD jB gG ao (qv 0) (aF rfl T.m_FIRST_PAIRED T.r_FIRST_PAIRED)) (vx (tD gG jB (aF rfl T.m_LAST_PAIRED T.r_LAST_PAIRED) (qv 0) (aF rfl T.m_LAST_POINT T.r_LAST_POINT)))))),
  (aC (Kd (gC jI gD ah af ah) (gC gD jI ah af ah)))⟩
theorem ou (T:Txt K mg t):bV P w K mg base (CXE P w) 1 t.jT t.d_tail ["bits"] (spP K (bD t) jT):=
 dY T.F_tail ED fun cdv A outer s H E hr=>⟨_,(aq (aA (aV b7 (aF rfl T.m_TAIL_MARK T.r_TAIL_MARK) (aV fk (qv 0) ao)))),
  (aC (av b9 ah (av fj af ah)))⟩
theorem C8 (T:Txt K mg t):bV P w K mg base (CXE P w) 2 t.ja t.d_eight ["point"] (spP K (bD t) ja):=
 dY T.F_eight Dl fun cdv A outer s H E hr=>⟨_,(ai (aZ (sC (eU (aE ((wH T).mono (by decide)) hr rfl T.m3 T.F_is_point.kp T.b_is_point .nil aH (aa (qv 0) ak)) (fun _=>rfl))) (aq (wD aH hr.hd PySem.F.excBase_ValueError rfl T.m_NoPoint T.x_NoPoint (aa aQ ak))) aG)
   (ai (aZ (aB gG (qv 0) ao (aL _)) (aq (aA (bp (aa (qv 0) ak)))) aG)
   (ai (aZ (aB gG (qv 0) ao (aL _)) (aq (aA (bp (aa (aV b7 (cG gp (aF rfl T.m_MARKS T.r_MARKS) ao (fun _ _=>rfl)) (aV jc (qv 0) ao)) (aa (aE ((ou T).mono (by decide)) hr rfl T.mS T.F_tail.kp T.b_tail .nil aH (aa (qv 0) ak)) ak))))) aG)
   (ai (aZ (aB gG (qv 0) ao (aL _)) (aq (aA (bp (aa (aV b7 (cG gp (aF rfl T.m_MARKS T.r_MARKS) ao (fun _ _=>rfl)) (aV jc (qv 0) ao)) (aa (aE ((ou T).mono (by decide)) hr rfl T.mS T.F_tail.kp T.b_tail .nil aH (aa (aV jc (qv 0) ao) ak)) (aa (aE ((ou T).mono (by decide)) hr rfl T.mS T.F_tail.kp T.b_tail .nil aH (aa (qv 0) ak)) ak)))))) aG)
   (aq (aA (bp (aa (aV b7 (cG gp (aF rfl T.m_MARKS T.r_MARKS) ao (fun _ _=>rfl)) (aV jc (qv 0) ao)) (aa (aE ((ou T).mono (by decide)) hr rfl T.mS T.F_tail.kp T.b_tail .nil aH (aa (aV jc (qv 0) ao) ak)) (aa (aE ((ou T).mono (by decide)) hr rfl T.mS T.F_tail.kp T.b_tail .nil aH (aa (aV jc (qv 0) ao) ak)) (aa (aE ((ou T).mono (by decide)) hr rfl T.mS T.F_tail.kp T.b_tail .nil aH (aa (qv 0) ak)) ak))))))))))),
  (ay (ba (uQ (fU (aJ (ae af ax)))) (xH rfl (ae aP ax)) aI)
    (ay (ba (az (av gD af ah)) (aC (br (ae af ax))) aI)
    (ay (ba (az (av gD af ah)) (aC (br (ae (av b9 (av gq (jE T.q_MARKS) ah) (av jd af ah)) (ae (aJ (ae af ax)) ax)))) aI)
    (ay (ba (az (av gD af ah)) (aC (br (ae (av b9 (av gq (jE T.q_MARKS) ah) (av jd af ah)) (ae (aJ (ae (av jd af ah) ax)) (ae (aJ (ae af ax)) ax))))) aI)
    (aC (br (ae (av b9 (av gq (jE T.q_MARKS) ah) (av jd af ah)) (ae (aJ (ae (av jd af ah) ax)) (ae (aJ (ae (av jd af ah) ax)) (ae (aJ (ae af ax)) ax))))))))))⟩
theorem nF (T:Txt K mg t):bV P w K mg base (CXE P w) 1 t.dA t.d_small_figure ["worth"] (spP K (bD t) dA):=
 dY T.F_small_figure rl fun cdv A outer s H E hr=>⟨_,(aq (aA (dN (by exact (aB gG (qv 0) ao (aL _))) (aV b7 (aF rfl T.m_NOUGHT T.r_NOUGHT) (qv 0)) (aV b7 ao (qv 0))))),
  (aC (jP (az (av gD af ah)) (av b9 ah af) (av b9 ah af)))⟩
theorem vj (T:Txt K mg t):bV P w K mg base (CXE P w) 3 t.d8 t.d_told_sign ["point"] (spP K (bD t) d8):=
 dY T.F_told_sign pZ fun cdv A outer s H E hr=>⟨_,(ai (bu (i:=1) pZ.nd rfl (by first | exact Or.inl rfl | exact Or.inr rfl) (aE ((C8 T).mono (by decide)) hr rfl T.lz T.F_eight.kp T.b_eight .nil aH (aa (qv 0) ak)))
   (ai (aZ (aB DT (qv 0) (aF rfl T.m_ESCAPED T.r_ESCAPED) rfl) (aq (aA (bp (aa (aF rfl T.m_BACKSLASH T.r_BACKSLASH) (aa (cG Ge (aF rfl T.m_ESCAPED T.r_ESCAPED) (qv 0) (fun _ _=>rfl)) ak))))) aG)
   (ai (aZ (aB gG (qv 0) (aF rfl T.m_BLANK T.r_BLANK) (aL _)) (aq (aA (bp (aa (aF rfl T.m_BACKSLASH T.r_BACKSLASH) (aa (aF rfl T.m_SMALL_U T.r_SMALL_U) (aa (aF rfl T.m_NOUGHT T.r_NOUGHT) (aa (aF rfl T.m_NOUGHT T.r_NOUGHT) (aa (aE ((nF T).mono (by decide)) hr rfl T.hZ T.F_small_figure.kp T.b_small_figure .nil aH (aa (aV jc (qv 0) ao) ak)) (aa (aE ((nF T).mono (by decide)) hr rfl T.hZ T.F_small_figure.kp T.b_small_figure .nil aH (aa (aV fk (qv 0) ao) ak)) ak))))))))) aG)
   (aq (aA (qv 1)))))),
  (ay (bz (aJ (ae af ax)))
    (ay (ba (az (Fm T.q_ESCAPED af)) (aC (br (ae ah (ae (Ad T.q_ESCAPED af) ax)))) aI)
    (ay (ba (az (av gD af ah)) (aC (br (ae ah (ae ah (ae ah (ae ah (ae (aJ (ae (av jd af ah) ax)) (ae (aJ (ae (av fj af ah) ax)) ax)))))))) aI)
    fm)))⟩
theorem zD (T:Txt K mg t):bV P w K mg base (CXE P w) 4 t.kI t.d_told ["numbers"] (spP K (bD t) kI):=
 dY T.F_told uW fun cdv A outer s H E hr=>⟨_,(ai (bu (i:=1) uW.nd rfl (by first | exact Or.inl rfl | exact Or.inr rfl) (bp (aa (aF rfl T.m_QUOTE T.r_QUOTE) ak)))
   (ai (pk gV rfl (ly (qv 0)) (lp (i:=2) uW.nd rfl (by first | exact Or.inl rfl | exact Or.inr rfl)) (aq (iM (og PySem.F.plainAttrs_list PySem.F.slot_list_extend PySem.F.type_list_extend uL (qv 1) (aa (aE ((vj T).mono (by decide)) hr rfl T.iB T.F_told_sign.kp T.b_told_sign .nil aH (aa (qv 2) ak)) ak)))))
   (ai (iM (og PySem.F.plainAttrs_list PySem.F.slot_list_append PySem.F.type_list_append gN (qv 1) (aa (aF rfl T.m_QUOTE T.r_QUOTE) ak)))
   (aq (aA (qv 1)))))),
  (ay (bz (br (ae ah ax)))
    (ay (pK af (Aq (aJ (ae af ax))))
    (ay (jQ ah)
    fm)))⟩
theorem sT (T:Txt K mg t):bV P w K mg base (CXE P w) 5 t.eS t.d_law_refused ["_law_points_here"] (spP K (bD t) eS):=
 dY T.F_law_refused jJ fun cdv A outer s H E hr=>⟨_,(ai (bu (i:=1) jJ.nd rfl (by first | exact Or.inl rfl | exact Or.inr rfl) zP)
   (ai (B0 (i:=2) ⟨rfl,rfl⟩ jJ.nd rfl rfl (fun _ _ _ hW hO=>(aq (iM (aE ((zD T).mono (by decide)) hr rfl T.qo T.F_told.kp T.b_told .nil hW (aa (qv 0) ak))))) rfl T.m_GlassError (fun _=>(aq (bu (i:=1) jJ.nd rfl (by first | exact Or.inl rfl | exact Or.inr rfl) (cC BH rfl T.n_isinstance L2.E.boot_isinstance (aa (qv 2) (aa (aF (v:=.ref _) rfl T.m_NoPoint rfl) ak)))))) aH)
   (aq (aA (qv 1))))),
  (ay (bz zO)
    (ay (Bq (fun _=>(zl (aJ (ae af ax)))) (bz (IB (wV T))) (oB T))
    fm))⟩
theorem mQ (T:Txt K mg t):bV P w K mg base (CXE P w) 1 t.eR t.d_is_figure ["byte"] (spP K (bD t) eR):=
 dY T.F_is_figure vT fun cdv A outer s H E hr=>⟨_,(aq (aA (tD jB jB (aF rfl T.m_NOUGHT T.r_NOUGHT) (qv 0) (aF rfl T.m_NINE T.r_NINE)))),
  (aC (gC jI jI ah af ah))⟩
theorem m6 (T:Txt K mg t):bV P w K mg base (CXE P w) 2 t.d7 t.d_hex_worth ["byte"] (spP K (bD t) d7):=
 dY T.F_hex_worth vh fun cdv A outer s H E hr=>⟨_,(ai (aZ (eU (aE ((mQ T).mono (by decide)) hr rfl T.jq T.F_is_figure.kp T.b_is_figure .nil aH (aa (qv 0) ak)) (fun _=>rfl)) (aq (aA (aV kW (qv 0) (aF rfl T.m_NOUGHT T.r_NOUGHT)))) aG)
   (ai (aZ (jA jB jB ao (qv 0) ao) (aq (aA (aV kW (qv 0) ao))) aG)
   (ai (aZ (jA jB jB ao (qv 0) ao) (aq (aA (aV kW (qv 0) ao))) aG)
   (aq (aA da))))),
  (ay (ba (fU (aJ (ae af ax))) (aC (av kP af ah)) aI)
    (ay (ba (az (gC jI jI ah af ah)) (aC (av kP af ah)) aI)
    (ay (ba (az (gC jI jI ah af ah)) (aC (av kP af ah)) aI)
    (aC cY))))⟩
theorem rE (T:Txt K mg t):bV P w K mg base (CXE P w) 3 t.kZ t.d_code ["signs","at"] (spP K (bD t) kZ):=
 dY T.F_code rL fun cdv A outer s H E hr=>⟨_,(ai (bu (i:=2) rL.nd rfl (by first | exact Or.inl rfl | exact Or.inr rfl) ao)
   (ai (pk gV rfl (ly (sL wc (qv 0) (oy (aV b7 (qv 1) ao)) (oy (aV b7 (qv 1) (aF rfl T.m_CODE_SIZE T.r_CODE_SIZE))))) (lp (i:=3) rL.nd rfl (by first | exact Or.inl rfl | exact Or.inr rfl)) (aq (bu (i:=2) rL.nd rfl (by first | exact Or.inl rfl | exact Or.inr rfl) (aV b7 (aV mI ao (qv 2)) (aE ((m6 T).mono (by decide)) hr rfl T.jr T.F_hex_worth.kp T.b_hex_worth .nil aH (aa (qv 3) ak))))))
   (aq (aA (qv 2))))),
  (ay (bz ah)
    (ay (pK (yS af (oo (av b9 af ah)) (oo (av b9 af ah))) (bz (av b9 (av mV ah af) (aJ (ae af ax)))))
    fm))⟩
theorem vL (T:Txt K mg t):bV P w K mg base (CXE P w) 4 t.dH t.d_sign_size ["signs","at"] (spP K (bD t) dH):=
 dY T.F_sign_size u9 fun cdv A outer s H E hr=>⟨_,(ai (aZ (aB wR (cG cW (qv 0) (qv 1) (fun _ _=>rfl)) (aF rfl T.m_BACKSLASH T.r_BACKSLASH) (aL _)) (aq (aA ao)) aG)
   (ai (aZ (aB wR (cG cW (qv 0) (aV b7 (qv 1) ao) (fun _ _=>rfl)) (aF rfl T.m_SMALL_U T.r_SMALL_U) (aL _)) (aq (aA ao)) aG)
   (ai (aZ (jA jB jB (aF rfl T.m_FIRST_PAIRED T.r_FIRST_PAIRED) (aE ((rE T).mono (by decide)) hr rfl T.pd T.F_code.kp T.b_code .nil aH (aa (qv 0) (aa (qv 1) ak))) (aF rfl T.m_LAST_PAIRED T.r_LAST_PAIRED)) (aq (aA (aV mI ao (aF rfl T.m_CODE_SIZE T.r_CODE_SIZE)))) aG)
   (aq (aA (aF rfl T.m_CODE_SIZE T.r_CODE_SIZE)))))),
  (ay (ba (az (av w9 (av eh af af) ah)) (aC ah) aI)
    (ay (ba (az (av w9 (av eh af (av b9 af ah)) ah)) (aC ah) aI)
    (ay (ba (az (gC jI jI ah (aJ (ae af (ae af ax))) ah)) (aC (av mV ah ah)) aI)
    (aC ah))))⟩
theorem nj (T:Txt K mg t):bV P w K mg base (CXE P w) 1 t.bt t.d_short_escape ["byte"] (spP K (bD t) bt):=
 dY T.F_short_escape rb fun cdv A outer s H E hr=>⟨_,(aq (aA (wA (aF rfl T.m_SHORT_ESCAPES T.r_SHORT_ESCAPES) (qv 0)))),
  (aC (xt T.q_SHORT_ESCAPES af))⟩
theorem ub (T:Txt K mg t):bV P w K mg base (CXE P w) 4 t.dy t.d_sign_meant ["signs","at","size"] (spP K (bD t) dy):=
 dY T.F_sign_meant tZ fun cdv A outer s H E hr=>⟨_,(ai (aZ (aB cw (qv 2) ao (aL _)) (aq (aA (cG cW (qv 0) (qv 1) (fun _ _=>rfl)))) aG)
   (ai (aZ (aB cw (qv 2) ao (aL _)) (aq (aA (aE ((nj T).mono (by decide)) hr rfl T.bR T.F_short_escape.kp T.b_short_escape .nil aH (aa (cG cW (qv 0) (aV b7 (qv 1) ao) (fun _ _=>rfl)) ak)))) aG)
   (ai (aZ (aB cw (qv 2) (aF rfl T.m_CODE_SIZE T.r_CODE_SIZE) (aL _)) (aq (aA (aE ((rE T).mono (by decide)) hr rfl T.pd T.F_code.kp T.b_code .nil aH (aa (qv 0) (aa (qv 1) ak))))) aG)
   (aq (aA (aV kW (aV b7 (aV b7 ao (aV mI ao (aV kW (aE ((rE T).mono (by decide)) hr rfl T.pd T.F_code.kp T.b_code .nil aH (aa (qv 0) (aa (qv 1) ak))) ao))) (aE ((rE T).mono (by decide)) hr rfl T.pd T.F_code.kp T.b_code .nil aH (aa (qv 0) (aa (aV b7 (qv 1) (aF rfl T.m_CODE_SIZE T.r_CODE_SIZE)) ak)))) ao)))))),
  (ay (ba (az (av cv af ah)) (aC (av eh af af)) aI)
    (ay (ba (az (av cv af ah)) (aC (aJ (ae (av eh af (av b9 af ah)) ax))) aI)
    (ay (ba (az (av cv af ah)) (aC (aJ (ae af (ae af ax)))) aI)
    (aC (av kP (av b9 (av b9 ah (av mV ah (av kP (aJ (ae af (ae af ax))) ah))) (aJ (ae af (ae (av b9 af ah) ax)))) ah)))))⟩
theorem pz (T:Txt K mg t):bV P w K mg base (CXE P w) 5 t.cR t.d_without_escapes ["signs"] (spP K (bD t) cR):=
 dY T.F_without_escapes eY fun cdv A outer s H E hr=>⟨_,(ai (bu (i:=1) eY.nd rfl (by first | exact Or.inl rfl | exact Or.inr rfl) (bp ak))
   (ai (bu (i:=2) eY.nd rfl (by first | exact Or.inl rfl | exact Or.inr rfl) ao)
   (ai (kX gV (aB gG (qv 2) (cC cb rfl T.n_len L2.E.boot_len (aa (qv 0) ak)) (aL _)) (ai (bu (i:=3) eY.nd rfl (by first | exact Or.inl rfl | exact Or.inr rfl) (aE ((vL T).mono (by decide)) hr rfl T.gb T.F_sign_size.kp T.b_sign_size .nil aH (aa (qv 0) (aa (qv 2) ak))))
   (ai (iM (og PySem.F.plainAttrs_list PySem.F.slot_list_append PySem.F.type_list_append gN (qv 1) (aa (aE ((ub T).mono (by decide)) hr rfl T.gn T.F_sign_meant.kp T.b_sign_meant .nil aH (aa (qv 0) (aa (qv 2) (aa (qv 3) ak)))) ak)))
   (aq (oe (i:=2) eY.nd rfl (Or.inl rfl) (qv 3) n6)))))
   (aq (aA (qv 1)))))),
  (ay (bz (br ax))
    (ay (bz ah)
    (ay (kS (az (av gD af (eT iT af))) (ay (bz (aJ (ae af (ae af ax))))
    (ay (jQ (aJ (ae af (ae af (ae af ax)))))
    (hV af))))
    fm)))⟩
theorem pA (T:Txt K mg t):bV P w K mg base (CXE P w) 1 t.bK t.d_second_of_three ["byte"] (spP K (bD t) bK):=
 dY T.F_second_of_three pC fun cdv A outer s H E hr=>⟨_,(ai (aZ (aB cw (qv 0) ao (aL _)) (aq (aA (eH (aa ao (aa ao ak))))) aG)
   (ai (aZ (aB cw (qv 0) ao (aL _)) (aq (aA (eH (aa ao (aa ao ak))))) aG)
   (aq (aA (aF rfl T.m_TAIL T.r_TAIL))))),
  (ay (ba (az (av cv af ah)) (aC (eD (ae ah (ae ah ax)))) aI)
    (ay (ba (az (av cv af ah)) (aC (eD (ae ah (ae ah ax)))) aI)
    (aC (jE T.q_TAIL))))⟩
theorem pX (T:Txt K mg t):bV P w K mg base (CXE P w) 1 t.bO t.d_second_of_four ["byte"] (spP K (bD t) bO):=
 dY T.F_second_of_four pQ fun cdv A outer s H E hr=>⟨_,(ai (aZ (aB cw (qv 0) ao (aL _)) (aq (aA (eH (aa ao (aa ao ak))))) aG)
   (ai (aZ (aB cw (qv 0) ao (aL _)) (aq (aA (eH (aa ao (aa ao ak))))) aG)
   (aq (aA (aF rfl T.m_TAIL T.r_TAIL))))),
  (ay (ba (az (av cv af ah)) (aC (eD (ae ah (ae ah ax)))) aI)
    (ay (ba (az (av cv af ah)) (aC (eD (ae ah (ae ah ax)))) aI)
    (aC (jE T.q_TAIL))))⟩
theorem xy (T:Txt K mg t):bV P w K mg base (CXE P w) 2 t.eN t.d_tails ["byte"] (spP K (bD t) eN):=
 dY T.F_tails CH fun cdv A outer s H E hr=>⟨_,(ai (aZ (jA jB gG ao (qv 0) ao) (aq (aA (bp ak))) aG)
   (ai (aZ (jA jB gG ao (qv 0) ao) (aq (aA (bp (aa (aF rfl T.m_TAIL T.r_TAIL) ak)))) aG)
   (ai (aZ (jA jB gG ao (qv 0) ao) (aq (aA (bp (aa (aE ((pA T).mono (by decide)) hr rfl T.dz T.F_second_of_three.kp T.b_second_of_three .nil aH (aa (qv 0) ak)) (aa (aF rfl T.m_TAIL T.r_TAIL) ak))))) aG)
   (ai (aZ (jA jB gG ao (qv 0) ao) (aq (aA (bp (aa (aE ((pX T).mono (by decide)) hr rfl T.dS T.F_second_of_four.kp T.b_second_of_four .nil aH (aa (qv 0) ak)) (aa (aF rfl T.m_TAIL T.r_TAIL) (aa (aF rfl T.m_TAIL T.r_TAIL) ak)))))) aG)
   (aq (aA da)))))),
  (ay (ba (az (gC jI gD ah af ah)) (aC (br ax)) aI)
    (ay (ba (az (gC jI gD ah af ah)) (aC (br (ae (jE T.q_TAIL) ax))) aI)
    (ay (ba (az (gC jI gD ah af ah)) (aC (br (ae (aJ (ae af ax)) (ae (jE T.q_TAIL) ax)))) aI)
    (ay (ba (az (gC jI gD ah af ah)) (aC (br (ae (aJ (ae af ax)) (ae (jE T.q_TAIL) (ae (jE T.q_TAIL) ax))))) aI)
    (aC cY)))))⟩
theorem qy (T:Txt K mg t):bV P w K mg base (CXE P w) 3 t.cF t.d_character_end ["row","at"] (spP K (bD t) cF):=
 dY T.F_character_end fW fun cdv A outer s H E hr=>⟨_,(ai (bu (i:=2) fW.nd rfl (by first | exact Or.inl rfl | exact Or.inr rfl) (aE ((xy T).mono (by decide)) hr rfl T.gU T.F_tails.kp T.b_tails .nil aH (aa (cG cW (qv 0) (qv 1) (fun _ _=>rfl)) ak)))
   (ai (aZ (aB qi (qv 2) da (aL _)) (aq (qw T.k_Fault (lJ T) T.b_Fault_init (hr.mono (by decide)) aH rfl (aa (qv 1) ak))) aG)
   (ai (bu (i:=3) fW.nd rfl (by first | exact Or.inl rfl | exact Or.inr rfl) (aV b7 (qv 1) ao))
   (ai (pk gV rfl (ly (qv 2)) (lp (i:=4) fW.nd rfl (by first | exact Or.inl rfl | exact Or.inr rfl)) (ai (aZ (sP (xn (aB cw (qv 3) (cC cb rfl T.n_len L2.E.boot_len (aa (qv 0) ak)) (aL _)) (ve (sC (jA jB jB (cG gp (qv 4) ao (fun _ _=>rfl)) (cG cW (qv 0) (qv 3) (fun _ _=>rfl)) (cG gp (qv 4) ao (fun _ _=>rfl))))))) (aq (qw T.k_Fault (lJ T) T.b_Fault_init (hr.mono (by decide)) aH rfl (aa (qv 3) ak))) aG)
   (aq (oe (i:=3) fW.nd rfl (Or.inl rfl) ao n6))))
   (aq (aA (qv 3))))))),
  (ay (bz (aJ (ae (av eh af af) ax)))
    (ay (ba (az (av p9 af cY)) (qD rfl (ae af ax)) aI)
    (ay (bz (av b9 af ah))
    (ay (jU (i:=2) (pK af (ay (ba (wI (az (av cv af (eT iT af))) (uQ (az (gC jI jI (av gq af ah) (av eh af af) (av gq af ah))))) (qD rfl (ae af ax)) aI)
    (hV ah))))
    fm))))⟩
theorem vY (T:Txt K mg t):bV P w K mg base (CXE P w) 1 t.gc t.d_character ["row","at","end"] (spP K (bD t) gc):=
 dY T.F_character kB fun cdv A outer s H E hr=>⟨_,(ai (bu (i:=3) kB.nd rfl (by first | exact Or.inl rfl | exact Or.inr rfl) (aV kW (cG cW (qv 0) (qv 1) (fun _ _=>rfl)) (cG gp (aF rfl T.m_MARKS T.r_MARKS) (aV kW (aV kW (qv 2) (qv 1)) ao) (fun _ _=>rfl))))
   (ai (pk gV rfl (ly (sL wc (qv 0) (oy (aV b7 (qv 1) ao)) (oy (qv 2)))) (lp (i:=4) kB.nd rfl (by first | exact Or.inl rfl | exact Or.inr rfl)) (aq (bu (i:=3) kB.nd rfl (by first | exact Or.inl rfl | exact Or.inr rfl) (aV kW (aV b7 (aV mI (qv 3) ao) (qv 4)) (aF rfl T.m_TAIL_MARK T.r_TAIL_MARK)))))
   (aq (aA (qv 3))))),
  (ay (bz (av kP (av eh af af) (av gq (jE T.q_MARKS) (av kP (av kP af af) ah))))
    (ay (pK (yS af (oo (av b9 af ah)) (oo af)) (bz (av kP (av b9 (av mV af ah) af) ah)))
    fm))⟩
theorem Bb (T:Txt K mg t):bV P w K mg base (CXE P w) 4 t.iZ t.d_points ["row"] (spP K (bD t) iZ):=
 dY T.F_points lU fun cdv A outer s H E hr=>⟨_,(ai (bu (i:=1) lU.nd rfl (by first | exact Or.inl rfl | exact Or.inr rfl) (bp ak))
   (ai (bu (i:=2) lU.nd rfl (by first | exact Or.inl rfl | exact Or.inr rfl) ao)
   (ai (kX gV (aB gG (qv 2) (cC cb rfl T.n_len L2.E.boot_len (aa (qv 0) ak)) (aL _)) (ai (bu (i:=3) lU.nd rfl (by first | exact Or.inl rfl | exact Or.inr rfl) (aE ((qy T).mono (by decide)) hr rfl T.fo T.F_character_end.kp T.b_character_end .nil aH (aa (qv 0) (aa (qv 2) ak))))
   (ai (iM (og PySem.F.plainAttrs_list PySem.F.slot_list_append PySem.F.type_list_append gN (qv 1) (aa (aE ((vY T).mono (by decide)) hr rfl T.lA T.F_character.kp T.b_character .nil aH (aa (qv 0) (aa (qv 2) (aa (qv 3) ak)))) ak)))
   (aq (bu (i:=2) lU.nd rfl (by first | exact Or.inl rfl | exact Or.inr rfl) (qv 3))))))
   (aq (aA (qv 1)))))),
  (ay (bz (br ax))
    (ay (bz ah)
    (ay (kS (az (av gD af (eT iT af))) (ay (bz (aJ (ae af (ae af ax))))
    (ay (jQ (aJ (ae af (ae af (ae af ax)))))
    (bz af))))
    fm)))⟩
theorem Cr (T:Txt K mg t):bV P w K mg base (CXE P w) 6 t.lE t.d_meant ["row","tree","i"] (spP K (bD t) lE):=
 dY T.F_meant xb fun cdv A outer s H E hr=>⟨_,(ai (bu (i:=3) xb.nd rfl (by first | exact Or.inl rfl | exact Or.inr rfl) (cG cW (qv 1) (qv 2) (fun _ _=>rfl)))
   (ai (aZ (aB qC (cG gp (qv 3) ao (fun _ _=>rfl)) (eH (aa aQ (aa aQ ak))) rfl) (aq (wD aH hr.hd PySem.F.excBase_ValueError rfl T.m_NoNode T.x_NoNode (aa aQ ak))) aG)
   (aq (aA (aE ((pz T).mono (by decide)) hr rfl T.gT T.F_without_escapes.kp T.b_without_escapes .nil aH (aa (aE ((Bb T).mono (by decide)) hr rfl T.nR T.F_points.kp T.b_points .nil aH (aa (sL wc (qv 0) (oy (aV b7 (cG gp (qv 3) ao (fun _ _=>rfl)) ao)) (oy (aV kW (cG gp (qv 3) ao (fun _ _=>rfl)) ao))) ak)) ak)))))),
  (ay (bz (av eh af af))
    (ay (ba (az (av (sW hr.units) (av gq af ah) (eD (ae aP (ae aP ax))))) (xH rfl (ae aP ax)) aI)
    (aC (aJ (ae (aJ (ae (yS af (oo (av b9 (av gq af ah) ah)) (oo (av kP (av gq af ah) ah))) ax)) ax)))))⟩
theorem uX (T:Txt K mg t):bV P w K mg base (CXE P w) 1 t.d5 t.d_law_eight ["_law_point_here"] (spP K (bD t) d5):=
 dY T.F_law_eight iQ fun cdv A outer s H E hr=>⟨_,(ai (aZ (aB gG (qv 0) ao (aL _)) (aq (aA (bp (aa (qv 0) ak)))) aG)
   (ai (bu (i:=1) iQ.nd rfl (by first | exact Or.inl rfl | exact Or.inr rfl) (aV b7 (aV b7 ao (lX ot rfl T.n_int L2.E.boot_int (aa (j4 Bm (qv 0) ao (aL _)) ak))) (lX ot rfl T.n_int L2.E.boot_int (aa (j4 Bm (qv 0) ao (aL _)) ak))))
   (ai (bu (i:=2) iQ.nd rfl (by first | exact Or.inl rfl | exact Or.inr rfl) (bp ak))
   (ai (pk gV rfl (qz rfl T.n_range (aa (qv 1) ak)) (lp (i:=3) iQ.nd rfl (by first | exact Or.inl rfl | exact Or.inr rfl)) (ai (bu (i:=2) iQ.nd rfl (by first | exact Or.inl rfl | exact Or.inr rfl) (aV lg (bp (aa (aV b7 ao (aV fk (qv 0) ao)) ak)) (qv 2)))
   (aq (bu (i:=0) iQ.nd rfl (by first | exact Or.inl rfl | exact Or.inr rfl) (aV jc (qv 0) ao)))))
   (aq (aA (aV lg (bp (aa (aV b7 (cG cW (bp (aa ao (aa ao (aa ao ak)))) (aV kW (qv 1) ao) (fun _ _=>rfl)) (qv 0)) ak)) (qv 2)))))))),
  (ay (ba (az (av gD af ah)) (aC (br (ae af ax))) aI)
    (ay (bz (av b9 (av b9 ah (eT rC (av Dd af ah))) (eT rC (av Dd af ah))))
    (ay (bz (br ax))
    (ay (DV af (ay (bz (av nX (br (ae (av b9 ah (av fj af ah)) ax)) af))
    (bz (av jd af ah))))
    (aC (av nX (br (ae (av b9 (av eh (br (ae ah (ae ah (ae ah ax)))) (av kP af ah)) af) ax)) af))))))⟩
theorem yw (T:Txt K mg t):bV P w K mg base (CXE P w) 2 t.jt t.d_law_due ["_law_point_here"] (spP K (bD t) jt):=
 dY T.F_law_due tw fun cdv A outer s H E hr=>⟨_,(ai (bu (i:=1) tw.nd rfl (by first | exact Or.inl rfl | exact Or.inr rfl) (Fe (kT ao ao (kT ao ao (kT ao ao (kT ao ao (kT ao ao (kT ao ao (kT ao ao Ee)))))))))
   (ai (aZ (G8 (F4 hr) (qv 0) (qv 1)) (aq (aA (bp (aa ao (aa (Ex (F4 hr) (qv 1) (qv 0) (fun _ _=>rfl)) ak))))) aG)
   (ai (aZ (aB gG (qv 0) ao (aL _)) (aq (aA (bp (aa ao (aa ao (aa ao (aa ao (aa ao (aa (aV b7 (aV b7 (qv 0) ao) (aV mI ao (lX ot rfl T.n_int L2.E.boot_int (aa (j4 FR (qv 0) ao (aL _)) ak)))) ak))))))))) aG)
   (ai (aZ (aB gG (qv 0) ao (aL _)) (aq (aA (bp (aa ao (aa ao (aa ao (aa ao (aa ao (aa (aV b7 (aV b7 (qv 0) ao) (aV mI ao (lX ot rfl T.n_int L2.E.boot_int (aa (j4 FR (qv 0) ao (aL _)) ak)))) ak))))))))) aG)
   (aq (aA (aE ((uX T).mono (by decide)) hr rfl T.hR T.F_law_eight.kp T.b_law_eight .nil aH (aa (qv 0) ak)))))))),
  (ay (wa (HK (kvs:=[(34,34),(92,92),(8,98),(12,102),(10,110),(13,114),(9,116)]) (by decide) (by decide)))
    (ay (ba (az (En af jG)) (aC (br (ae ah (ae (E9 jG af) ax)))) aI)
    (ay (ba (az (av gD af ah)) (aC (br (ae ah (ae ah (ae ah (ae ah (ae ah (ae (av b9 (av b9 af ah) (av mV ah (eT rC (av Fw af ah)))) ax)))))))) aI)
    (ay (ba (az (av gD af ah)) (aC (br (ae ah (ae ah (ae ah (ae ah (ae ah (ae (av b9 (av b9 af ah) (av mV ah (eT rC (av Fw af ah)))) ax)))))))) aI)
    (aC (aJ (ae af ax)))))))⟩
theorem vK (T:Txt K mg t):bV P w K mg base (CXE P w) 1 t.gf t.d_law_whole ["_law_found"] (spP K (bD t) gf):=
 dY T.F_law_whole uR fun cdv A outer s H E hr=>⟨_,(aq (aA (yC (cC pN rfl T.n_isinstance L2.E.boot_isinstance (aa (qv 0) (aa (rA (v:=.ty _) rfl T.n_int L2.E.boot_int rfl) ak))) (vx (Hd (cC pN rfl T.n_isinstance L2.E.boot_isinstance (aa (qv 0) (aa (rA (v:=.ty _) rfl T.n_bool L2.E.boot_bool rfl) ak)))))))),
  (aC (y8 (v9 af) (HZ (v9 af))))⟩
theorem ua (T:Txt K mg t):bV P w K mg base (CXE P w) 2 t.ft t.d_law_wholes ["_law_found"] (spP K (bD t) ft):=
 dY T.F_law_wholes tN fun cdv A outer s H E hr=>⟨_,(aq (aA (yC (cC pN rfl T.n_isinstance L2.E.boot_isinstance (aa (qv 0) (aa (rA (v:=.ty _) rfl T.n_list L2.E.boot_list rfl) ak))) (vx (cC uu rfl T.n_all L2.E.boot_all (aa (pW (M:=[]) (ι:=[]) (x:="_law_one") ⟨rfl,rfl,rfl,rfl,rfl,rfl,rfl,rfl,rfl,rfl,rfl,by decide +kernel⟩ rfl (ly (qv 0)) fun _ _ _ _=>(aE ((vK T).mono (by decide)) hr rfl T.lF T.F_law_whole.kp T.b_law_whole .nil vP (aa (qv 0) ak))) ak)))))),
  (aC (y8 (v9 af) (eT (Dr hr.hd) (xS (by decide) af (aJ (ae af ax))))))⟩
theorem qf (T:Txt K mg t):bV P w K mg base (CXE P w) 1 t.cX t.d_Walk___init__ ["self"] (spI K (bD t) cX):=
 xu T.F_Walk___init__ qb fun cdv A outer s H E hr=>⟨_,(aq (IJ (qv 0) (bp (aa aQ (aa aQ (aa aQ ak)))))),
  (EC jG (Gk (br (ae aP (ae aP (ae aP ax))))) (js T))⟩
theorem uO (T:Txt K mg t):bV P w K mg base (CXE P w) 1 t.eQ t.d_word_rest ["byte"] (spP K (bD t) eQ):=
 dY T.F_word_rest vQ fun cdv A outer s H E hr=>⟨_,(aq (aA (wA (aF rfl T.m_WORDS T.r_WORDS) (qv 0)))),
  (aC (xt T.q_WORDS af))⟩
theorem nY (T:Txt K mg t):bV P w K mg base (CXE P w) 2 t.dw t.d_behind_lead ["byte"] (spP K (bD t) dw):=
 dY T.F_behind_lead sZ fun cdv A outer s H E hr=>⟨_,(ai (aZ (aB cw (qv 0) (aF rfl T.m_NOUGHT T.r_NOUGHT) (aL _)) (aq (aA (bp (aa aQ (aa aQ ak))))) aG)
   (ai (aZ (eU (aE ((mQ T).mono (by decide)) hr rfl T.jq T.F_is_figure.kp T.b_is_figure .nil aH (aa (qv 0) ak)) (fun _=>rfl)) (aq (aA (bp (aa aQ (aa aQ (aa aQ ak)))))) aG)
   (aq (aA da)))),
  (ay (ba (az (av cv af ah)) (aC (br (ae aP (ae aP ax)))) aI)
    (ay (ba (fU (aJ (ae af ax))) (aC (br (ae aP (ae aP (ae aP ax))))) aI)
    (aC cY)))⟩
theorem nG (T:Txt K mg t):bV P w K mg base (CXE P w) 3 t.bB t.d_behind_value ["byte"] (spP K (bD t) bB):=
 dY T.F_behind_value ny fun cdv A outer s H E hr=>⟨_,(ai (aZ (aB cw (qv 0) (aF rfl T.m_ROW_BEGIN T.r_ROW_BEGIN) (aL _)) (aq (aA (bp (aa aQ (aa aQ ak))))) aG)
   (ai (aZ (aB cw (qv 0) (aF rfl T.m_FIELDS_BEGIN T.r_FIELDS_BEGIN) (aL _)) (aq (aA (bp (aa aQ (aa aQ ak))))) aG)
   (ai (aZ (aB cw (qv 0) (aF rfl T.m_QUOTE T.r_QUOTE) (aL _)) (aq (aA (bp (aa aQ ak)))) aG)
   (ai (aZ (aB cw (qv 0) (aF rfl T.m_MINUS T.r_MINUS) (aL _)) (aq (aA (bp (aa aQ ak)))) aG)
   (ai (bu (i:=1) ny.nd rfl (by first | exact Or.inl rfl | exact Or.inr rfl) (aE ((uO T).mono (by decide)) hr rfl T.hJ T.F_word_rest.kp T.b_word_rest .nil aH (aa (qv 0) ak)))
   (ai (aZ (aB uP (qv 1) da (aL _)) (aq (aA (pW (M:=[]) (ι:=[]) (x:="sign") ⟨rfl,rfl,rfl,rfl,rfl,rfl,rfl,rfl,rfl,rfl,rfl,by decide +kernel⟩ rfl (HD (qv 1)) fun _ _ _ _=>(eH (aa (qv 0) (aa (qv 0) ak)))))) aG)
   (aq (aA (aE ((nY T).mono (by decide)) hr rfl T.gH T.F_behind_lead.kp T.b_behind_lead .nil aH (aa (qv 0) ak)))))))))),
  (ay (ba (az (av cv af ah)) (aC (br (ae aP (ae aP ax)))) aI)
    (ay (ba (az (av cv af ah)) (aC (br (ae aP (ae aP ax)))) aI)
    (ay (ba (az (av cv af ah)) (aC (br (ae aP ax))) aI)
    (ay (ba (az (av cv af ah)) (aC (br (ae aP ax))) aI)
    (ay (bz (aJ (ae af ax)))
    (ay (ba (az (av vW af cY)) (aC (CV (by decide) af (eD (ae af (ae af ax))))) aI)
    (aC (aJ (ae af ax)))))))))⟩
theorem oH (T:Txt K mg t):bV P w K mg base (CXE P w) 3 t.aX t.d_behind_in_number ["item","byte"] (spP K (bD t) aX):=
 dY T.F_behind_in_number oF fun cdv A outer s H E hr=>⟨_,(ai (aZ (aB cw (qv 0) aQ (aL _)) (aq (aA (aE ((nY T).mono (by decide)) hr rfl T.gH T.F_behind_lead.kp T.b_behind_lead .nil aH (aa (qv 1) ak)))) aG)
   (ai (aZ (aB cw (qv 0) aQ (aL _)) (aq (aA (dN (by exact (eU (aE ((mQ T).mono (by decide)) hr rfl T.jq T.F_is_figure.kp T.b_is_figure .nil aH (aa (qv 1) ak)) (fun _=>rfl))) (bp (aa aQ ak)) da))) aG)
   (ai (aZ (aB cw (qv 0) aQ (aL _)) (aq (aA (dN (by exact (aB cw (qv 1) (aF rfl T.m_POINT T.r_POINT) (aL _))) (bp (aa (eH (aa (aF rfl T.m_NOUGHT T.r_NOUGHT) (aa (aF rfl T.m_NINE T.r_NINE) ak))) (aa aQ ak))) da))) aG)
   (ai (aZ (aB cw (qv 0) aQ (aL _)) (aq (aA (dN (by exact (aB kh (qv 1) (eH (aa (aF rfl T.m_SMALL_E T.r_SMALL_E) (aa (aF rfl T.m_BIG_E T.r_BIG_E) ak))) rfl)) (bp (aa aQ (aa (eH (aa (aF rfl T.m_NOUGHT T.r_NOUGHT) (aa (aF rfl T.m_NINE T.r_NINE) ak))) (aa aQ ak)))) da))) aG)
   (aq (aA (dN (by exact (aB kh (qv 1) (eH (aa (aF rfl T.m_PLUS T.r_PLUS) (aa (aF rfl T.m_MINUS T.r_MINUS) ak))) rfl)) (bp ak) da))))))),
  (ay (ba (az (av cv af aP)) (aC (aJ (ae af ax))) aI)
    (ay (ba (az (av cv af aP)) (aC (jP (fU (aJ (ae af ax))) (br (ae aP ax)) cY)) aI)
    (ay (ba (az (av cv af aP)) (aC (jP (az (av cv af ah)) (br (ae (eD (ae ah (ae ah ax))) (ae aP ax))) cY)) aI)
    (ay (ba (az (av cv af aP)) (aC (jP (az (av (nu hr.units) af (eD (ae ah (ae ah ax))))) (br (ae aP (ae (eD (ae ah (ae ah ax))) (ae aP ax)))) cY)) aI)
    (aC (jP (az (av (nu hr.units) af (eD (ae ah (ae ah ax))))) (br ax) cY))))))⟩
theorem qe (T:Txt K mg t):bV P w K mg base (CXE P w) 1 t.cU t.d_behind_code_d ["worth"] (spP K (bD t) cU):=
 dY T.F_behind_code_d lS fun cdv A outer s H E hr=>⟨_,(ai (aZ (aB gG (qv 0) ao (aL _)) (aq (aA (bp (aa aQ (aa aQ ak))))) aG)
   (ai (aZ (aB gG (qv 0) ao (aL _)) (ai (bu (i:=1) lS.nd rfl (by first | exact Or.inl rfl | exact Or.inr rfl) (bp (aa (eH (aa (aF rfl T.m_BACKSLASH T.r_BACKSLASH) (aa (aF rfl T.m_BACKSLASH T.r_BACKSLASH) ak))) (aa (eH (aa (aF rfl T.m_SMALL_U T.r_SMALL_U) (aa (aF rfl T.m_SMALL_U T.r_SMALL_U) ak))) (aa aQ (aa aQ (aa aQ (aa aQ ak))))))))
   (aq (aA (aV lg (bp (aa aQ (aa aQ ak))) (qv 1))))) aG)
   (aq (aA da)))),
  (ay (ba (az (av gD af ah)) (aC (br (ae aP (ae aP ax)))) aI)
    (ay (ba (az (av gD af ah)) (ay (bz (br (ae (eD (ae ah (ae ah ax))) (ae (eD (ae ah (ae ah ax))) (ae aP (ae aP (ae aP (ae aP ax))))))))
    (aC (av nX (br (ae aP (ae aP ax))) af))) aI)
    (aC cY)))⟩
theorem oM (T:Txt K mg t):bV P w K mg base (CXE P w) 3 t.bL t.d_behind_character ["byte"] (spP K (bD t) bL):=
 dY T.F_behind_character kr fun cdv A outer s H E hr=>⟨_,(ai (aZ (aB cw (qv 0) (aF rfl T.m_QUOTE T.r_QUOTE) (aL _)) (aq (aA (bp ak))) aG)
   (ai (aZ (aB cw (qv 0) (aF rfl T.m_BACKSLASH T.r_BACKSLASH) (aL _)) (aq (aA (bp (aa aQ (aa aQ ak))))) aG)
   (ai (bu (i:=1) kr.nd rfl (by first | exact Or.inl rfl | exact Or.inr rfl) (aE ((xy T).mono (by decide)) hr rfl T.gU T.F_tails.kp T.b_tails .nil aH (aa (qv 0) ak)))
   (ai (aZ (sP (xn (aB gG (qv 0) (aF rfl T.m_BLANK T.r_BLANK) (aL _)) (ve (aB qi (qv 1) da (aL _))))) (aq (aA da)) aG)
   (aq (aA (aV lg (qv 1) (bp (aa aQ ak))))))))),
  (ay (ba (az (av cv af ah)) (aC (br ax)) aI)
    (ay (ba (az (av cv af ah)) (aC (br (ae aP (ae aP ax)))) aI)
    (ay (bz (aJ (ae af ax)))
    (ay (ba (wI (az (av gD af ah)) (az (av p9 af cY))) (aC cY) aI)
    (aC (av nX af (br (ae aP ax))))))))⟩
theorem oG (T:Txt K mg t):bV P w K mg base (CXE P w) 2 t.cn t.d_behind_backslash ["byte"] (spP K (bD t) cn):=
 dY T.F_behind_backslash oJ fun cdv A outer s H E hr=>⟨_,(ai (aZ (aB cw (qv 0) (aF rfl T.m_SMALL_U T.r_SMALL_U) (aL _)) (aq (aA (bp (aa aQ ak)))) aG)
   (aq (aA (dN (by exact (aB qi (aE ((nj T).mono (by decide)) hr rfl T.bR T.F_short_escape.kp T.b_short_escape .nil aH (aa (qv 0) ak)) da (aL _))) da (bp ak))))),
  (ay (ba (az (av cv af ah)) (aC (br (ae aP ax))) aI)
    (aC (jP (az (av p9 (aJ (ae af ax)) cY)) cY (br ax))))⟩
theorem p6 (T:Txt K mg t):bV P w K mg base (CXE P w) 4 t.bJ t.d_behind_in_text ["item","byte"] (spP K (bD t) bJ):=
 dY T.F_behind_in_text lj fun cdv A outer s H E hr=>⟨_,(ai (aZ (aB cw (qv 0) aQ (aL _)) (aq (aA (aE ((oM T).mono (by decide)) hr rfl T.cZ T.F_behind_character.kp T.b_behind_character .nil aH (aa (qv 1) ak)))) aG)
   (ai (aZ (aB cw (qv 0) aQ (aL _)) (aq (aA (aE ((oG T).mono (by decide)) hr rfl T.fi T.F_behind_backslash.kp T.b_behind_backslash .nil aH (aa (qv 1) ak)))) aG)
   (ai (bu (i:=2) lj.nd rfl (by first | exact Or.inl rfl | exact Or.inr rfl) (aE ((m6 T).mono (by decide)) hr rfl T.jr T.F_hex_worth.kp T.b_hex_worth .nil aH (aa (qv 1) ak)))
   (ai (aZ (aB qi (qv 2) da (aL _)) (aq (aA da)) aG)
   (ai (aZ (aB cw (qv 0) aQ (aL _)) (aq (aA (dN (by exact (aB cw (qv 2) ao (aL _))) (bp (aa aQ ak)) (bp (aa aQ (aa aQ (aa aQ ak))))))) aG)
   (aq (aA (aE ((qe T).mono (by decide)) hr rfl T.gF T.F_behind_code_d.kp T.b_behind_code_d .nil aH (aa (qv 2) ak))))))))),
  (ay (ba (az (av cv af aP)) (aC (aJ (ae af ax))) aI)
    (ay (ba (az (av cv af aP)) (aC (aJ (ae af ax))) aI)
    (ay (bz (aJ (ae af ax)))
    (ay (ba (az (av p9 af cY)) (aC cY) aI)
    (ay (ba (az (av cv af aP)) (aC (jP (az (av cv af ah)) (br (ae aP ax)) (br (ae aP (ae aP (ae aP ax)))))) aI)
    (aC (aJ (ae af ax))))))))⟩
theorem tU (T:Txt K mg t):bV P w K mg base (CXE P w) 3 t.dB t.d_behind_hex ["item","byte"] (spP K (bD t) dB):=
 dY T.F_behind_hex oQ fun cdv A outer s H E hr=>⟨_,(ai (bu (i:=2) oQ.nd rfl (by first | exact Or.inl rfl | exact Or.inr rfl) (aE ((m6 T).mono (by decide)) hr rfl T.jr T.F_hex_worth.kp T.b_hex_worth .nil aH (aa (qv 1) ak)))
   (ai (aZ (aB qi (qv 2) da (aL _)) (aq (aA da)) aG)
   (ai (aZ (aB cw (qv 0) aQ (aL _)) (aq (aA (dN (by exact (aB cw (qv 2) ao (aL _))) (bp ak) da))) aG)
   (ai (aZ (aB cw (qv 0) aQ (aL _)) (aq (aA (dN (by exact (aB Bm (qv 2) ao (aL _))) (bp ak) da))) aG)
   (aq (aA (bp ak))))))),
  (ay (bz (aJ (ae af ax)))
    (ay (ba (az (av p9 af cY)) (aC cY) aI)
    (ay (ba (az (av cv af aP)) (aC (jP (az (av cv af ah)) (br ax) cY)) aI)
    (ay (ba (az (av cv af aP)) (aC (jP (az (av Dd af ah)) (br ax) cY)) aI)
    (aC (br ax))))))⟩
theorem oC (T:Txt K mg t):bV P w K mg base (CXE P w) 4 t.b5 t.d_behind_row_begin ["byte"] (spP K (bD t) b5):=
 dY T.F_behind_row_begin kx fun cdv A outer s H E hr=>⟨_,(ai (aZ (aB cw (qv 0) (aF rfl T.m_ROW_END T.r_ROW_END) (aL _)) (aq (aA (bp ak))) aG)
   (ai (bu (i:=1) kx.nd rfl (by first | exact Or.inl rfl | exact Or.inr rfl) (aE ((nG T).mono (by decide)) hr rfl T.cq T.F_behind_value.kp T.b_behind_value .nil aH (aa (qv 0) ak)))
   (aq (aA (dN (by exact (aB qi (qv 1) da (aL _))) da (aV lg (qv 1) (bp (aa aQ (aa aQ ak))))))))),
  (ay (ba (az (av cv af ah)) (aC (br ax)) aI)
    (ay (bz (aJ (ae af ax)))
    (aC (jP (az (av p9 af cY)) cY (av nX af (br (ae aP (ae aP ax))))))))⟩
theorem nW (T:Txt K mg t):bV P w K mg base (CXE P w) 1 t.dX t.d_member_rest [] (spP K (bD t) dX):=
 dY T.F_member_rest rW fun cdv A outer s H E hr=>⟨_,(aq (aA (bp (aa aQ (aa (eH (aa (aF rfl T.m_COLON T.r_COLON) (aa (aF rfl T.m_COLON T.r_COLON) ak))) (aa aQ (aa aQ (aa aQ (aa aQ ak))))))))),
  (aC (br (ae aP (ae (eD (ae ah (ae ah ax))) (ae aP (ae aP (ae aP (ae aP ax))))))))⟩
theorem mM (T:Txt K mg t):bV P w K mg base (CXE P w) 2 t.bM t.d_behind_fields_begin ["byte"] (spP K (bD t) bM):=
 dY T.F_behind_fields_begin mB fun cdv A outer s H E hr=>⟨_,(ai (aZ (aB cw (qv 0) (aF rfl T.m_FIELDS_END T.r_FIELDS_END) (aL _)) (aq (aA (bp ak))) aG)
   (aq (aA (dN (by exact (aB cw (qv 0) (aF rfl T.m_QUOTE T.r_QUOTE) (aL _))) (aV lg (bp (aa aQ ak)) (ud ((nW T).mono (by decide)) hr rfl T.iX T.F_member_rest.kp T.b_member_rest aH)) da)))),
  (ay (ba (az (av cv af ah)) (aC (br ax)) aI)
    (aC (jP (az (av cv af ah)) (av nX (br (ae aP ax)) (aJ ax)) cY)))⟩
theorem nI (T:Txt K mg t):bV P w K mg base (CXE P w) 5 t.bj t.d_behind_in_brackets ["item","byte"] (spP K (bD t) bj):=
 dY T.F_behind_in_brackets nK fun cdv A outer s H E hr=>⟨_,(ai (aZ (aB cw (qv 0) aQ (aL _)) (aq (aA (aE ((oC T).mono (by decide)) hr rfl T.dU T.F_behind_row_begin.kp T.b_behind_row_begin .nil aH (aa (qv 1) ak)))) aG)
   (ai (aZ (aB cw (qv 0) aQ (aL _)) (aq (aA (aE ((mM T).mono (by decide)) hr rfl T.dP T.F_behind_fields_begin.kp T.b_behind_fields_begin .nil aH (aa (qv 1) ak)))) aG)
   (ai (aZ (aB cw (qv 0) aQ (aL _)) (ai (aZ (aB cw (qv 1) (aF rfl T.m_COMMA T.r_COMMA) (aL _)) (aq (aA (bp (aa aQ (aa aQ (aa aQ (aa aQ ak))))))) aG)
   (aq (aA (dN (by exact (aB cw (qv 1) (aF rfl T.m_ROW_END T.r_ROW_END) (aL _))) (bp ak) da)))) aG)
   (ai (aZ (aB cw (qv 1) (aF rfl T.m_COMMA T.r_COMMA) (aL _)) (aq (aA (aV lg (bp (aa aQ (aa aQ ak))) (ud ((nW T).mono (by decide)) hr rfl T.iX T.F_member_rest.kp T.b_member_rest aH)))) aG)
   (aq (aA (dN (by exact (aB cw (qv 1) (aF rfl T.m_FIELDS_END T.r_FIELDS_END) (aL _))) (bp ak) da))))))),
  (ay (ba (az (av cv af aP)) (aC (aJ (ae af ax))) aI)
    (ay (ba (az (av cv af aP)) (aC (aJ (ae af ax))) aI)
    (ay (ba (az (av cv af aP)) (ay (ba (az (av cv af ah)) (aC (br (ae aP (ae aP (ae aP (ae aP ax)))))) aI)
    (aC (jP (az (av cv af ah)) (br ax) cY))) aI)
    (ay (ba (az (av cv af ah)) (aC (av nX (br (ae aP (ae aP ax))) (aJ ax))) aI)
    (aC (jP (az (av cv af ah)) (br ax) cY))))))⟩
theorem lq (T:Txt K mg t):bV P w K mg base (CXE P w) 1 t.fh t.d_is_white ["byte"] (spP K (bD t) fh):=
 dY T.F_is_white xv fun cdv A outer s H E hr=>⟨_,(aq (aA (j4 kh (qv 0) (aF rfl T.m_WHITE T.r_WHITE) rfl))),
  (aC (av (nu hr.units) af (jE T.q_WHITE)))⟩
theorem An (T:Txt K mg t):bV P w K mg base (CXE P w) 6 t.cf t.d_behind ["item","byte"] (spP K (bD t) cf):=
 dY T.F_behind Ah fun cdv A outer s H E hr=>⟨_,(ai (aZ (eU (cC pN rfl T.n_isinstance L2.E.boot_isinstance (aa (qv 0) (aa (rA (v:=.ty _) rfl T.n_tuple L2.E.boot_tuple rfl) ak))) (fun _=>rfl)) (aq (aA (dN (by exact (jA jB jB (cG gp (qv 0) ao (fun _ _=>rfl)) (qv 1) (cG gp (qv 0) ao (fun _ _=>rfl)))) (bp ak) da))) aG)
   (ai (aZ (aB kh (qv 0) (eH (aa aQ (aa aQ (aa aQ (aa aQ (aa aQ ak)))))) rfl) (aq (aA (aE ((oH T).mono (by decide)) hr rfl T.bA T.F_behind_in_number.kp T.b_behind_in_number .nil aH (aa (qv 0) (aa (qv 1) ak))))) aG)
   (ai (aZ (aB kh (qv 0) (eH (aa aQ (aa aQ (aa aQ (aa aQ ak))))) rfl) (aq (aA (aE ((p6 T).mono (by decide)) hr rfl T.cK T.F_behind_in_text.kp T.b_behind_in_text .nil aH (aa (qv 0) (aa (qv 1) ak))))) aG)
   (ai (aZ (aB kh (qv 0) (eH (aa aQ (aa aQ (aa aQ ak)))) rfl) (aq (aA (aE ((tU T).mono (by decide)) hr rfl T.gA T.F_behind_hex.kp T.b_behind_hex .nil aH (aa (qv 0) (aa (qv 1) ak))))) aG)
   (ai (aZ (aB kh (qv 0) (aF rfl T.m_UNENDED T.r_UNENDED) rfl) (aq (aA (aE ((nI T).mono (by decide)) hr rfl T.bP T.F_behind_in_brackets.kp T.b_behind_in_brackets .nil aH (aa (qv 0) (aa (qv 1) ak))))) aG)
   (ai (aZ (aB cw (qv 0) aQ (aL _)) (aq (aA (dN (by exact (eU (aE ((lq T).mono (by decide)) hr rfl T.ji T.F_is_white.kp T.b_is_white .nil aH (aa (qv 1) ak)) (fun _=>rfl))) (bp (aa aQ ak)) da))) aG)
   (ai (aZ (aB cw (qv 0) aQ (aL _)) (aq (aA (dN (by exact (aB cw (qv 1) (aF rfl T.m_QUOTE T.r_QUOTE) (aL _))) (bp (aa aQ ak)) da))) aG)
   (aq (aA (aE ((nG T).mono (by decide)) hr rfl T.cq T.F_behind_value.kp T.b_behind_value .nil aH (aa (qv 1) ak))))))))))),
  (ay (ba (fU (v9 af)) (aC (jP (az (gC jI jI (av gq af ah) af (av gq af ah))) (br ax) cY)) aI)
    (ay (ba (az (av (nu hr.units) af (eD (ae aP (ae aP (ae aP (ae aP (ae aP ax)))))))) (aC (aJ (ae af (ae af ax)))) aI)
    (ay (ba (az (av (nu hr.units) af (eD (ae aP (ae aP (ae aP (ae aP ax))))))) (aC (aJ (ae af (ae af ax)))) aI)
    (ay (ba (az (av (nu hr.units) af (eD (ae aP (ae aP (ae aP ax)))))) (aC (aJ (ae af (ae af ax)))) aI)
    (ay (ba (az (av (nu hr.units) af (vm fun S=>by unfold Rep; exact ⟨_,_,rfl,T.q_UNENDED S,(.cons (by unfold Rep; rfl) (.cons (by unfold Rep; rfl) (.cons (by unfold Rep; rfl) (.cons (by unfold Rep; rfl) .nil))))⟩))) (aC (aJ (ae af (ae af ax)))) aI)
    (ay (ba (az (av cv af aP)) (aC (jP (fU (aJ (ae af ax))) (br (ae aP ax)) cY)) aI)
    (ay (ba (az (av cv af aP)) (aC (jP (az (av cv af ah)) (br (ae aP ax)) cY)) aI)
    (aC (aJ (ae af ax))))))))))⟩
theorem qF (T:Txt K mg t):bV P w K mg base (CXE P w) 1 t.cE t.d_Walk_brackets ["self"] (spI K (bD t) cE):=
 xu T.F_Walk_brackets qG fun cdv A outer s H E hr=>⟨_,(aq (aA (cC cb rfl T.n_len L2.E.boot_len (aa (A2 (M:=[]) (ι:=[]) (x:="item") ⟨rfl,rfl,rfl,rfl,rfl,rfl,rfl,rfl,rfl,rfl,rfl,by decide +kernel⟩ rfl (ly (tG (qv 0))) (fun _ _ _ _=>(aB kh (qv 0) (aF rfl T.m_UNENDED T.r_UNENDED) rfl)) fun _ _ _ _=>(qv 0)) ak)))),
  (aC (eT iT (yo (by decide) (zf (wx jG (js T))) (az (av (nu hr.units) af (vm fun S=>by unfold Rep; exact ⟨_,_,rfl,T.q_UNENDED S,(.cons (by unfold Rep; rfl) (.cons (by unfold Rep; rfl) (.cons (by unfold Rep; rfl) (.cons (by unfold Rep; rfl) .nil))))⟩))) af)))⟩
theorem rp (T:Txt K mg t):bV P w K mg base (CXE P w) 7 t.d9 t.d_Walk_goes_on ["self","byte"] (spI K (bD t) d9):=
 xu T.F_Walk_goes_on kj fun cdv A outer s H E hr=>⟨_,(ai (kX gV (eU (tG (qv 0)) (fun _=>rfl)) (ai (bu (i:=2) kj.nd rfl (by first | exact Or.inl rfl | exact Or.inr rfl) (CZ PySem.F.plainAttrs_list PySem.F.slot_list_pop PySem.F.type_list_pop Dw (tG (qv 0))))
   (ai (bu (i:=3) kj.nd rfl (by first | exact Or.inl rfl | exact Or.inr rfl) (aE ((An T).mono (by decide)) hr rfl T.cD T.F_behind.kp T.b_behind .nil aH (aa (qv 2) (aa (qv 1) ak))))
   (ai (aZ (aB uP (qv 3) da (aL _)) (ai (iM (og PySem.F.plainAttrs_list PySem.F.slot_list_extend PySem.F.type_list_extend uL (tG (qv 0)) (aa (Iy (qv 3) (Br yV ao)) ak)))
   (aq (aA (j4 jB (uG (qv 0) T.c_Walk T.h_Walk_brackets ((qF T).mono (by decide)) hr T.b_Walk_brackets aH) (aF rfl T.m_MOST_BRACKETS T.r_MOST_BRACKETS) (aL _))))) aG)
   (aq (aZ (aB qC (qv 2) (aF rfl T.m_LOOSE T.r_LOOSE) rfl) (aq (aA zP)) aG))))))
   (aq (aA zP))),
  (ay (kS (A0 (wx jG (js T))) (ay (vN (zg (wx jG (js T))))
    (ay (bz (aJ (ae af (ae af ax))))
    (ay (ba (az (av vW af cY)) (ay (yK (wx jG (js T)) (HL af (CM yX ah)))
    (aC (av jI (xB rfl rfl (FV jG) rB) ah))) aI)
    (ba (az (av (sW hr.units) af (vm fun S=>by unfold Rep; exact ⟨_,_,rfl,T.q_LOOSE S,(.cons (by unfold Rep; rfl) (.cons (by unfold Rep; rfl) (.cons (by unfold Rep; rfl) (.cons (by unfold Rep; rfl) (.cons (by unfold Rep; rfl) .nil)))))⟩))) (aC zO) aI)))))
    (aC zO))⟩
theorem vz (T:Txt K mg t):bV P w K mg base (CXE P w) 8 t.gi t.d_Walk_take ["self","row"] (spI K (bD t) gi):=
 xu T.F_Walk_take mX fun cdv A outer s H E hr=>⟨_,(ai (pk gV rfl (ET rfl T.n_enumerate (aa (qv 1) ak)) (Hs rfl (xX (lp (i:=2) mX.nd rfl (by first | exact Or.inl rfl | exact Or.inr rfl)) (xX (lp (i:=3) mX.nd rfl (by first | exact Or.inl rfl | exact Or.inr rfl)) ER))) (aq (aZ (sC (eU (xR (qv 0) T.c_Walk T.h_Walk_goes_on ((rp T).mono (by decide)) hr T.b_Walk_goes_on aH (aa (qv 3) ak)) (fun _=>rfl))) (aq (aA (qv 2))) aG)))
   (aq (aA (cC cb rfl T.n_len L2.E.boot_len (aa (qv 1) ak))))),
  (ay (DS af (EY (wG rfl rfl (FW jG) (xm (Fu (W:=fun _ _ _ _=>False) af) rB)) fm aI))
    (aC (eT iT af)))⟩
theorem qB (T:Txt K mg t):bV P w K mg base (CXE P w) 1 t.cV t.d_Walk_is_whole ["self"] (spI K (bD t) cV):=
 xu T.F_Walk_is_whole qk fun cdv A outer s H E hr=>⟨_,(aq (aA (cC uu rfl T.n_all L2.E.boot_all (aa (pW (M:=[]) (ι:=[]) (x:="item") ⟨rfl,rfl,rfl,rfl,rfl,rfl,rfl,rfl,rfl,rfl,rfl,by decide +kernel⟩ rfl (ly (tG (qv 0))) fun _ _ _ _=>(j4 kh (qv 0) (aF rfl T.m_LOOSE T.r_LOOSE) rfl)) ak)))),
  (aC (eT (Dr hr.hd) (xS (by decide) (zf (wx jG (js T))) (av (nu hr.units) af (vm fun S=>by unfold Rep; exact ⟨_,_,rfl,T.q_LOOSE S,(.cons (by unfold Rep; rfl) (.cons (by unfold Rep; rfl) (.cons (by unfold Rep; rfl) (.cons (by unfold Rep; rfl) (.cons (by unfold Rep; rfl) .nil)))))⟩)))))⟩
theorem Cq (T:Txt K mg t):bV P w K mg base (CXE P w) 9 t.ll t.d_fault ["row"] (spP K (bD t) ll):=
 dY T.F_fault rZ fun cdv A outer s H E hr=>⟨_,(ai (bu (i:=1) rZ.nd rfl (by first | exact Or.inl rfl | exact Or.inr rfl) (By T.k_Walk (qf T) (hr.mono (by decide)) rfl T.m_Walk T.b_Walk___init__))
   (ai (bu (i:=2) rZ.nd rfl (by first | exact Or.inl rfl | exact Or.inr rfl) (xR (qv 1) T.c_Walk T.h_Walk_take ((vz T).mono (by decide)) hr T.b_Walk_take aH (aa (qv 0) ak)))
   (ai (aZ (sP (vE (aB cw (qv 2) (cC cb rfl T.n_len L2.E.boot_len (aa (qv 0) ak)) (aL _)) (vJ (eU (uG (qv 1) T.c_Walk T.h_Walk_is_whole ((qB T).mono (by decide)) hr T.b_Walk_is_whole aH) (fun _=>rfl))))) (aq (aA da)) aG)
   (aq (aA (qv 2)))))),
  (ay (wa (Ew rfl))
    (ay (vN (wG rfl rfl (FW jG) (xm (Fu (W:=fun _ _ _ _=>False) af) rB)))
    (ay (ba (vG (az (av cv af (eT iT af))) (fU (xB rfl rfl (FV jG) rB))) (aC cY) aI)
    fm)))⟩
theorem rf (T:Txt K mg t):bV P w K mg base (CXE P w) 10 t.dF t.d_refuse_fault ["row"] (spP K (bD t) dF):=
 dY T.F_refuse_fault nk fun cdv A outer s H E hr=>⟨_,(ai (bu (i:=1) nk.nd rfl (by first | exact Or.inl rfl | exact Or.inr rfl) (aE ((Cq T).mono (by decide)) hr rfl T.rq T.F_fault.kp T.b_fault .nil aH (aa (qv 0) ak)))
   (aq (aZ (aB uP (qv 1) da (aL _)) (aq (qw T.k_Fault (lJ T) T.b_Fault_init (hr.mono (by decide)) aH rfl (aa (qv 1) ak))) aG))),
  (ay (bz (aJ (ae af ax)))
    (ba (az (av vW af cY)) (qD rfl (ae af ax)) aI))⟩
theorem tL (T:Txt K mg t):bV P w K mg base (CXE P w) 1 t.fE t.d_with_member ["tree","i"] (spP K (bD t) fE):=
 dY T.F_with_member nU fun cdv A outer s H E hr=>⟨_,(ai (bu (i:=2) nU.nd rfl (by first | exact Or.inl rfl | exact Or.inr rfl) (cG cW (qv 0) (qv 1) (fun _ _=>rfl)))
   (ai (aZ (aB wR (cG gp (qv 2) ao (fun _ _=>rfl)) aQ (aL _)) (aq (aA (qv 2))) aG)
   (aq (aA (eH (aa (cG gp (qv 2) ao (fun _ _=>rfl)) (aa (cG gp (qv 2) ao (fun _ _=>rfl)) (aa (cG gp (qv 2) ao (fun _ _=>rfl)) (aa (cG gp (cG cW (qv 0) (aV b7 (qv 1) ao) (fun _ _=>rfl)) ao (fun _ _=>rfl)) ak))))))))),
  (ay (bz (av eh af af))
    (ay (ba (az (av w9 (av gq af ah) aP)) fm aI)
    (aC (eD (ae (av gq af ah) (ae (av gq af ah) (ae (av gq af ah) (ae (av gq (av eh af (av b9 af ah)) ah) ax))))))))⟩
theorem wz (T:Txt K mg t):bV P w K mg base (CXE P w) 1 t.iC t.d_text_end ["row","at"] (spP K (bD t) iC):=
 dY T.F_text_end oa fun cdv A outer s H E hr=>⟨_,(ai (bu (i:=2) oa.nd rfl (by first | exact Or.inl rfl | exact Or.inr rfl) (aV b7 (qv 1) ao))
   (ai (kX gV (aB wR (cG cW (qv 0) (qv 2) (fun _ _=>rfl)) (aF rfl T.m_QUOTE T.r_QUOTE) (aL _)) (aq (oe (i:=2) oa.nd rfl (Or.inl rfl) (dN (by exact (aB cw (cG cW (qv 0) (qv 2) (fun _ _=>rfl)) (aF rfl T.m_BACKSLASH T.r_BACKSLASH) (aL _))) ao ao) n6)))
   (aq (aA (aV b7 (qv 2) ao))))),
  (ay (bz (av b9 af ah))
    (ay (kS (az (av w9 (av eh af af) ah)) (hV (jP (az (av cv (av eh af af) ah)) ah ah)))
    (aC (av b9 af ah))))⟩
theorem vM (T:Txt K mg t):bV P w K mg base (CXE P w) 2 t.jo t.d_plain_end ["row","at"] (spP K (bD t) jo):=
 dY T.F_plain_end mO fun cdv A outer s H E hr=>⟨_,(ai (bu (i:=2) mO.nd rfl (by first | exact Or.inl rfl | exact Or.inr rfl) (qv 1))
   (ai (kX gV (sP (vE (aB gG (qv 2) (cC cb rfl T.n_len L2.E.boot_len (aa (qv 0) ak)) (aL _)) (vE (sC (eU (aE ((lq T).mono (by decide)) hr rfl T.ji T.F_is_white.kp T.b_is_white .nil aH (aa (cG cW (qv 0) (qv 2) (fun _ _=>rfl)) ak)) (fun _=>rfl))) (vJ (aB qC (cG cW (qv 0) (qv 2) (fun _ _=>rfl)) (eH (aa (aF rfl T.m_COMMA T.r_COMMA) (aa (aF rfl T.m_ROW_END T.r_ROW_END) (aa (aF rfl T.m_FIELDS_END T.r_FIELDS_END) ak)))) rfl))))) (aq (oe (i:=2) mO.nd rfl (Or.inl rfl) ao n6)))
   (aq (aA (qv 2))))),
  (ay (bz af)
    (ay (kS (vG (az (av gD af (eT iT af))) (vG (uQ (fU (aJ (ae (av eh af af) ax)))) (az (av (sW hr.units) (av eh af af) (eD (ae ah (ae ah (ae ah ax)))))))) (hV ah))
    fm))⟩
theorem yk (T:Txt K mg t):bV P w K mg base (CXE P w) 2 t.fX t.d_is_name ["row","end"] (spP K (bD t) fX):=
 dY T.F_is_name rY fun cdv A outer s H E hr=>⟨_,(ai (kX gV (sP (vE (aB gG (qv 1) (cC cb rfl T.n_len L2.E.boot_len (aa (qv 0) ak)) (aL _)) (vJ (eU (aE ((lq T).mono (by decide)) hr rfl T.ji T.F_is_white.kp T.b_is_white .nil aH (aa (cG cW (qv 0) (qv 1) (fun _ _=>rfl)) ak)) (fun _=>rfl))))) (aq (oe (i:=1) rY.nd rfl (Or.inl rfl) ao n6)))
   (aq (aA (yC (j4 gG (qv 1) (cC cb rfl T.n_len L2.E.boot_len (aa (qv 0) ak)) (aL _)) (vx (j4 cw (cG cW (qv 0) (qv 1) (fun _ _=>rfl)) (aF rfl T.m_COLON T.r_COLON) (aL _))))))),
  (ay (kS (vG (az (av gD af (eT iT af))) (fU (aJ (ae (av eh af af) ax)))) (hV ah))
    (aC (y8 (av gD af (eT iT af)) (av cv (av eh af af) ah))))⟩
theorem DR (T:Txt K mg t):bV P w K mg base (CXE P w) 3 t.mG t.d_leaf ["row","at","i"] (spP K (bD t) mG):=
 dY T.F_leaf u0 fun cdv A outer s H E hr=>⟨_,(ai (bu (i:=3) u0.nd rfl (by first | exact Or.inl rfl | exact Or.inr rfl) (Ap (aF rfl T.m_KINDS T.r_KINDS) (cG cW (qv 0) (qv 1) (fun _ _=>rfl)) aQ))
   (ai (aZ (aB wR (qv 3) aQ (aL _)) (aq (aA (eH (aa (qv 3) (aa (qv 1) (aa (aE ((vM T).mono (by decide)) hr rfl T.oi T.F_plain_end.kp T.b_plain_end .nil aH (aa (qv 0) (aa (qv 1) ak))) (aa (aV b7 (qv 2) ao) ak))))))) aG)
   (ai (bu (i:=4) u0.nd rfl (by first | exact Or.inl rfl | exact Or.inr rfl) (aE ((wz T).mono (by decide)) hr rfl T.mT T.F_text_end.kp T.b_text_end .nil aH (aa (qv 0) (aa (qv 1) ak))))
   (aq (aA (eH (aa (dN (by exact (eU (aE ((yk T).mono (by decide)) hr rfl T.lR T.F_is_name.kp T.b_is_name .nil aH (aa (qv 0) (aa (qv 4) ak))) (fun _=>rfl))) aQ aQ) (aa (qv 1) (aa (qv 4) (aa (aV b7 (qv 2) ao) ak)))))))))),
  (ay (bz (AW T.q_KINDS (av eh af af) aP))
    (ay (ba (az (av w9 af aP)) (aC (eD (ae af (ae af (ae (aJ (ae af (ae af ax))) (ae (av b9 af ah) ax)))))) aI)
    (ay (bz (aJ (ae af (ae af ax))))
    (aC (eD (ae (jP (fU (aJ (ae af (ae af ax)))) aP aP) (ae af (ae af (ae (av b9 af ah) ax)))))))))⟩
theorem B5 (T:Txt K mg t):bV P w K mg base (CXE P w) 11 t.kA t.d_nodes ["row"] (spP K (bD t) kA):=
 dY T.F_nodes iU fun cdv A outer s H E hr=>⟨_,(ai (iM (aE ((rf T).mono (by decide)) hr rfl T.ie T.F_refuse_fault.kp T.b_refuse_fault .nil aH (aa (qv 0) ak)))
   (ai (bu (i:=1) iU.nd rfl (by first | exact Or.inl rfl | exact Or.inr rfl) (bp ak))
   (ai (bu (i:=2) iU.nd rfl (by first | exact Or.inl rfl | exact Or.inr rfl) (bp ak))
   (ai (bu (i:=3) iU.nd rfl (by first | exact Or.inl rfl | exact Or.inr rfl) ao)
   (ai (kX gV (aB gG (qv 3) (cC cb rfl T.n_len L2.E.boot_len (aa (qv 0) ak)) (aL _)) (ai (bu (i:=4) iU.nd rfl (by first | exact Or.inl rfl | exact Or.inr rfl) (cG cW (qv 0) (qv 3) (fun _ _=>rfl)))
   (aq (aZ (aB kh (qv 4) (eH (aa (aF rfl T.m_ROW_BEGIN T.r_ROW_BEGIN) (aa (aF rfl T.m_FIELDS_BEGIN T.r_FIELDS_BEGIN) ak))) rfl) (ai (iM (og PySem.F.plainAttrs_list PySem.F.slot_list_append PySem.F.type_list_append gN (qv 2) (aa (cC cb rfl T.n_len L2.E.boot_len (aa (qv 1) ak)) ak)))
   (ai (iM (og PySem.F.plainAttrs_list PySem.F.slot_list_append PySem.F.type_list_append gN (qv 1) (aa (eH (aa (cG Ge (aF rfl T.m_KINDS T.r_KINDS) (qv 4) (fun _ _=>rfl)) (aa (qv 3) ak))) ak)))
   (aq (oe (i:=3) iU.nd rfl (Or.inl rfl) ao n6)))) (aq (aZ (aB kh (qv 4) (eH (aa (aF rfl T.m_ROW_END T.r_ROW_END) (aa (aF rfl T.m_FIELDS_END T.r_FIELDS_END) ak))) rfl) (ai (oe (i:=3) iU.nd rfl (Or.inl rfl) ao n6)
   (ai (bu (i:=5) iU.nd rfl (by first | exact Or.inl rfl | exact Or.inr rfl) (CZ PySem.F.plainAttrs_list PySem.F.slot_list_pop PySem.F.type_list_pop Dw (qv 2)))
   (aq (Gs (eH (aa (cG gp (cG cW (qv 1) (qv 5) (fun _ _=>rfl)) ao (fun _ _=>rfl)) (aa (cG gp (cG cW (qv 1) (qv 5) (fun _ _=>rfl)) ao (fun _ _=>rfl)) (aa (qv 3) (aa (cC cb rfl T.n_len L2.E.boot_len (aa (qv 1) ak)) ak))))) (G4 (qv 1) (qv 5) set_list))))) (aq (aZ (sP (xn (eU (aE ((lq T).mono (by decide)) hr rfl T.ji T.F_is_white.kp T.b_is_white .nil aH (aa (qv 4) ak)) (fun _=>rfl)) (ve (aB kh (qv 4) (eH (aa (aF rfl T.m_COMMA T.r_COMMA) (aa (aF rfl T.m_COLON T.r_COLON) ak))) rfl)))) (aq (oe (i:=3) iU.nd rfl (Or.inl rfl) ao n6)) (ai (iM (og PySem.F.plainAttrs_list PySem.F.slot_list_append PySem.F.type_list_append gN (qv 1) (aa (aE ((DR T).mono (by decide)) hr rfl T.vy T.F_leaf.kp T.b_leaf .nil aH (aa (qv 0) (aa (qv 3) (aa (cC cb rfl T.n_len L2.E.boot_len (aa (qv 1) ak)) ak)))) ak)))
   (aq (bu (i:=3) iU.nd rfl (by first | exact Or.inl rfl | exact Or.inr rfl) (cG gp (cG cW (qv 1) (Br yV ao) (fun _ _=>rfl)) ao (fun _ _=>rfl)))))))))))))
   (aq (aA (pW (M:=["tree"]) (ι:=[1]) (x:="i") ⟨rfl,rfl,rfl,rfl,rfl,rfl,rfl,rfl,rfl,rfl,rfl,by decide +kernel⟩ rfl (qz rfl T.n_range (aa (cC cb rfl T.n_len L2.E.boot_len (aa (qv 1) ak)) ak)) fun _ _ _ _=>(aE ((tL T).mono (by decide)) hr rfl T.j8 T.F_with_member.kp T.b_with_member .nil vP (aa (qv 0) (aa (qv 1) ak))))))))))),
  (ay (zl (aJ (ae af ax)))
    (ay (bz (br ax))
    (ay (wa (Gk (br ax)))
    (ay (bz ah)
    (ay (kS (az (av gD af (eT iT af))) (ay (bz (av eh af af))
    (ba (az (av (nu hr.units) af (eD (ae ah (ae ah ax))))) (ay (yZ jG (Gk (eT iT af)))
    (ay (jQ (eD (ae (Ad T.q_KINDS af) (ae af ax))))
    (hV ah))) (ba (az (av (nu hr.units) af (eD (ae ah (ae ah ax))))) (ay (hV ah)
    (ay (vN (zg jG))
    (ID af (eD (ae (av gq (av eh af af) ah) (ae (av gq (av eh af af) ah) (ae af (ae (eT iT af) ax)))))))) (ba (wI (fU (aJ (ae af ax))) (az (av (nu hr.units) af (eD (ae ah (ae ah ax)))))) (hV ah) (ay (jQ (aJ (ae af (ae af (ae (eT iT af) ax)))))
    (bz (av gq (av eh af (CM yX ah)) ah))))))))
    (jU (i:=1) (aC (wu (by decide) (eT iT af) (aJ (ae af (ae af ax)))))))))))⟩
theorem HR (T:Txt K mg t):bV P w K mg base (CXE P w) 12 t.tI t.d_law ["_law_script"] (spP K (bD t) tI):=
 dY T.F_law nZ fun cdv A outer s H E hr=>⟨_,(ai (bu (i:=1) nZ.nd rfl (by first | exact Or.inl rfl | exact Or.inr rfl) (aE ((tW T).mono (by decide)) hr rfl T.jv T.F_law_points.kp T.b_law_points .nil aH (aa (qv 0) (aa ao ak))))
   (ai (aZ (aB cw (aV fk (aE ((jn T).mono (by decide)) hr rfl T.gL T.F_law_mix.kp T.b_law_mix .nil aH (aa (qv 0) (aa ao ak))) ao) ao (aL _)) (aq (iM (og PySem.F.plainAttrs_list PySem.F.slot_list_append PySem.F.type_list_append gN (qv 1) (aa (aV fk (aE ((jn T).mono (by decide)) hr rfl T.gL T.F_law_mix.kp T.b_law_mix .nil aH (aa (qv 0) (aa ao ak))) ao) ak)))) aG)
   (ai (aZ (aB cw (aV fk (aE ((jn T).mono (by decide)) hr rfl T.gL T.F_law_mix.kp T.b_law_mix .nil aH (aa (qv 0) (aa ao ak))) ao) ao (aL _)) (ai (bu (i:=2) nZ.nd rfl (by first | exact Or.inl rfl | exact Or.inr rfl) (cG cW (bp (aa (Br yV ao) (aa ao (aa ao (aa ao (aa ao ak)))))) (aV fk (aE ((jn T).mono (by decide)) hr rfl T.gL T.F_law_mix.kp T.b_law_mix .nil aH (aa (qv 0) (aa ao ak))) ao) (fun _ _=>rfl)))
   (ai (iM (og PySem.F.plainAttrs_list PySem.F.slot_list_insert PySem.F.type_list_insert AD (qv 1) (aa (aV fk (aE ((jn T).mono (by decide)) hr rfl T.gL T.F_law_mix.kp T.b_law_mix .nil aH (aa (qv 0) (aa ao ak))) (aV b7 (cC cb rfl T.n_len L2.E.boot_len (aa (qv 1) ak)) ao)) (aa (qv 2) ak))))
   (aq (aA (aE ((sT T).mono (by decide)) hr rfl T.kb T.F_law_refused.kp T.b_law_refused .nil aH (aa (qv 1) ak)))))) aG)
   (ai (bu (i:=3) nZ.nd rfl (by first | exact Or.inl rfl | exact Or.inr rfl) (bp (aa ao ak)))
   (ai (pk gV rfl (ly (qv 1)) (lp (i:=4) nZ.nd rfl (by first | exact Or.inl rfl | exact Or.inr rfl)) (aq (bu (i:=3) nZ.nd rfl (by first | exact Or.inl rfl | exact Or.inr rfl) (aV lg (qv 3) (aE ((yw T).mono (by decide)) hr rfl T.om T.F_law_due.kp T.b_law_due .nil aH (aa (qv 4) ak))))))
   (ai (iM (og PySem.F.plainAttrs_list PySem.F.slot_list_append PySem.F.type_list_append gN (qv 3) (aa ao ak)))
   (ai (bu (i:=5) nZ.nd rfl (by first | exact Or.inl rfl | exact Or.inr rfl) (lX vS rfl T.n_list L2.E.boot_list (aa (qv 1) ak)))
   (ai (bu (i:=6) nZ.nd rfl (by first | exact Or.inl rfl | exact Or.inr rfl) (aE ((zD T).mono (by decide)) hr rfl T.qo T.F_told.kp T.b_told .nil aH (aa (qv 5) ak)))
   (ai (aZ (sP (xn (sC (eU (aE ((ua T).mono (by decide)) hr rfl T.kz T.F_law_wholes.kp T.b_law_wholes .nil aH (aa (qv 6) ak)) (fun _=>rfl))) (xn (aB DC (qv 6) (qv 3) (aL _)) (ve (aB DC (qv 5) (qv 1) (aL _)))))) (aq (aA zP)) aG)
   (aq (aA (j4 G3 (aE ((Cr T).mono (by decide)) hr rfl T.rN T.F_meant.kp T.b_meant .nil aH (aa (qv 6) (aa (aE ((B5 T).mono (by decide)) hr rfl T.rP T.F_nodes.kp T.b_nodes .nil aH (aa (qv 6) ak)) (aa ao ak)))) (qv 1) (aL _))))))))))))),
  (ay (bz (aJ (ae af (ae ah ax))))
    (ay (ba (az (av cv (av fj (aJ (ae af (ae ah ax))) ah) ah)) (jQ (av fj (aJ (ae af (ae ah ax))) ah)) aI)
    (ay (ba (az (av cv (av fj (aJ (ae af (ae ah ax))) ah) ah)) (ay (bz (av eh (br (ae (CM yX ah) (ae ah (ae ah (ae ah (ae ah ax)))))) (av fj (aJ (ae af (ae ah ax))) ah)))
    (ay (AK (av fj (aJ (ae af (ae ah ax))) (av b9 (eT iT af) ah)) af)
    (jU (i:=1) (aC (aJ (ae af ax)))))) aI)
    (ay (bz (br (ae ah ax)))
    (ay (jU (i:=1) (pK af (bz (av nX af (aJ (ae af ax))))))
    (ay (jQ ah)
    (ay (bz (eT yz af))
    (ay (jU (i:=5) (bz (aJ (ae af ax))))
    (ay (jU (i:=6) (ba (wI (uQ (fU (aJ (ae af ax)))) (wI (az (av (BO hr.units) af af)) (az (av (BO hr.units) af af)))) (aC zO) aI))
    (jU (i:=6) (aC (av (GB hr.units) (aJ (ae af (ae (aJ (ae af ax)) (ae ah ax)))) af))))))))))))⟩
end
open PySem.W in
theorem all_mk {l:PySem.W.OpenLaw} {w:World} {K:PySem.W.Frag} {h:Heap} {mg:Str -> Option Value} {fa:Addr} (X:K.In h) (G:h.Ns mainGlobals mg) (hfa:mg "law" = some (.ref fa))
  (a0:nsIn K mainGlobals "is_point" = some (some (.ref f0))) (l0:K.lookup f0 = some ⟨oc0,od0,.func (fnOf "is_point" "is_point" (aU jj) (aO jj) (au jj) .none kV0 dc0 pm0 an0 cd0 ct0),sl0⟩) (c0:codeIn K cd0 "is_point" = true) (k0:keepIn K (.ref f0) = true)
  (a1:nsIn K mainGlobals "eight" = some (some (.ref f1))) (l1:K.lookup f1 = some ⟨oc1,od1,.func (fnOf "eight" "eight" (aU mK) (aO mK) (au mK) .none kV1 dc1 pm1 an1 cd1 ct1),sl1⟩) (c1:codeIn K cd1 "eight" = true) (k1:keepIn K (.ref f1) = true)
  (a2:nsIn K mainGlobals "tail" = some (some (.ref f2))) (l2:K.lookup f2 = some ⟨oc2,od2,.func (fnOf "tail" "tail" (aU pD) (aO pD) (au pD) .none kV2 dc2 pm2 an2 cd2 ct2),sl2⟩) (c2:codeIn K cd2 "tail" = true) (k2:keepIn K (.ref f2) = true)
  (a3:nsIn K mainGlobals "points" = some (some (.ref f3))) (l3:K.lookup f3 = some ⟨oc3,od3,.func (fnOf "points" "points" (aU kN) (aO kN) (au kN) .none kV3 dc3 pm3 an3 cd3 ct3),sl3⟩) (c3:codeIn K cd3 "points" = true) (k3:keepIn K (.ref f3) = true)
  (a4:nsIn K mainGlobals "character_end" = some (some (.ref f4))) (l4:K.lookup f4 = some ⟨oc4,od4,.func (fnOf "character_end" "character_end" (aU eA) (aO eA) (au eA) .none kV4 dc4 pm4 an4 cd4 ct4),sl4⟩) (c4:codeIn K cd4 "character_end" = true) (k4:keepIn K (.ref f4) = true)
  (a5:nsIn K mainGlobals "tails" = some (some (.ref f5))) (l5:K.lookup f5 = some ⟨oc5,od5,.func (fnOf "tails" "tails" (aU mE) (aO mE) (au mE) .none kV5 dc5 pm5 an5 cd5 ct5),sl5⟩) (c5:codeIn K cd5 "tails" = true) (k5:keepIn K (.ref f5) = true)
  (a6:nsIn K mainGlobals "second_of_three" = some (some (.ref f6))) (l6:K.lookup f6 = some ⟨oc6,od6,.func (fnOf "second_of_three" "second_of_three" (aU dE) (aO dE) (au dE) .none kV6 dc6 pm6 an6 cd6 ct6),sl6⟩) (c6:codeIn K cd6 "second_of_three" = true) (k6:keepIn K (.ref f6) = true)
  (a7:nsIn K mainGlobals "second_of_four" = some (some (.ref f7))) (l7:K.lookup f7 = some ⟨oc7,od7,.func (fnOf "second_of_four" "second_of_four" (aU dQ) (aO dQ) (au dQ) .none kV7 dc7 pm7 an7 cd7 ct7),sl7⟩) (c7:codeIn K cd7 "second_of_four" = true) (k7:keepIn K (.ref f7) = true)
  (a8:nsIn K mainGlobals "character" = some (some (.ref f8))) (l8:K.lookup f8 = some ⟨oc8,od8,.func (fnOf "character" "character" (aU gZ) (aO gZ) (au gZ) .none kV8 dc8 pm8 an8 cd8 ct8),sl8⟩) (c8:codeIn K cd8 "character" = true) (k8:keepIn K (.ref f8) = true)
  (a9:nsIn K mainGlobals "is_white" = some (some (.ref f9))) (l9:K.lookup f9 = some ⟨oc9,od9,.func (fnOf "is_white" "is_white" (aU jm) (aO jm) (au jm) .none kV9 dc9 pm9 an9 cd9 ct9),sl9⟩) (c9:codeIn K cd9 "is_white" = true) (k9:keepIn K (.ref f9) = true)
  (a10:nsIn K mainGlobals "is_figure" = some (some (.ref f10))) (l10:K.lookup f10 = some ⟨oc10,od10,.func (fnOf "is_figure" "is_figure" (aU iG) (aO iG) (au iG) .none kV10 dc10 pm10 an10 cd10 ct10),sl10⟩) (c10:codeIn K cd10 "is_figure" = true) (k10:keepIn K (.ref f10) = true)
  (a11:nsIn K mainGlobals "hex_worth" = some (some (.ref f11))) (l11:K.lookup f11 = some ⟨oc11,od11,.func (fnOf "hex_worth" "hex_worth" (aU iy) (aO iy) (au iy) .none kV11 dc11 pm11 an11 cd11 ct11),sl11⟩) (c11:codeIn K cd11 "hex_worth" = true) (k11:keepIn K (.ref f11) = true)
  (a12:nsIn K mainGlobals "word_rest" = some (some (.ref f12))) (l12:K.lookup f12 = some ⟨oc12,od12,.func (fnOf "word_rest" "word_rest" (aU iq) (aO iq) (au iq) .none kV12 dc12 pm12 an12 cd12 ct12),sl12⟩) (c12:codeIn K cd12 "word_rest" = true) (k12:keepIn K (.ref f12) = true)
  (a13:nsIn K mainGlobals "short_escape" = some (some (.ref f13))) (l13:K.lookup f13 = some ⟨oc13,od13,.func (fnOf "short_escape" "short_escape" (aU eW) (aO eW) (au eW) .none kV13 dc13 pm13 an13 cd13 ct13),sl13⟩) (c13:codeIn K cd13 "short_escape" = true) (k13:keepIn K (.ref f13) = true)
  (a14:nsIn K mainGlobals "meant" = some (some (.ref f14))) (l14:K.lookup f14 = some ⟨oc14,od14,.func (fnOf "meant" "meant" (aU m5) (aO m5) (au m5) .none kV14 dc14 pm14 an14 cd14 ct14),sl14⟩) (c14:codeIn K cd14 "meant" = true) (k14:keepIn K (.ref f14) = true)
  (a15:nsIn K mainGlobals "without_escapes" = some (some (.ref f15))) (l15:K.lookup f15 = some ⟨oc15,od15,.func (fnOf "without_escapes" "without_escapes" (aU dC) (aO dC) (au dC) .none kV15 dc15 pm15 an15 cd15 ct15),sl15⟩) (c15:codeIn K cd15 "without_escapes" = true) (k15:keepIn K (.ref f15) = true)
  (a16:nsIn K mainGlobals "sign_size" = some (some (.ref f16))) (l16:K.lookup f16 = some ⟨oc16,od16,.func (fnOf "sign_size" "sign_size" (aU iA) (aO iA) (au iA) .none kV16 dc16 pm16 an16 cd16 ct16),sl16⟩) (c16:codeIn K cd16 "sign_size" = true) (k16:keepIn K (.ref f16) = true)
  (a17:nsIn K mainGlobals "sign_meant" = some (some (.ref f17))) (l17:K.lookup f17 = some ⟨oc17,od17,.func (fnOf "sign_meant" "sign_meant" (aU gm) (aO gm) (au gm) .none kV17 dc17 pm17 an17 cd17 ct17),sl17⟩) (c17:codeIn K cd17 "sign_meant" = true) (k17:keepIn K (.ref f17) = true)
  (a18:nsIn K mainGlobals "code" = some (some (.ref f18))) (l18:K.lookup f18 = some ⟨oc18,od18,.func (fnOf "code" "code" (aU pB) (aO pB) (au pB) .none kV18 dc18 pm18 an18 cd18 ct18),sl18⟩) (c18:codeIn K cd18 "code" = true) (k18:keepIn K (.ref f18) = true)
  (a19:nsIn K mainGlobals "told" = some (some (.ref f19))) (l19:K.lookup f19 = some ⟨oc19,od19,.func (fnOf "told" "told" (aU pw) (aO pw) (au pw) .none kV19 dc19 pm19 an19 cd19 ct19),sl19⟩) (c19:codeIn K cd19 "told" = true) (k19:keepIn K (.ref f19) = true)
  (a20:nsIn K mainGlobals "told_sign" = some (some (.ref f20))) (l20:K.lookup f20 = some ⟨oc20,od20,.func (fnOf "told_sign" "told_sign" (aU hU) (aO hU) (au hU) .none kV20 dc20 pm20 an20 cd20 ct20),sl20⟩) (c20:codeIn K cd20 "told_sign" = true) (k20:keepIn K (.ref f20) = true)
  (a21:nsIn K mainGlobals "small_figure" = some (some (.ref f21))) (l21:K.lookup f21 = some ⟨oc21,od21,.func (fnOf "small_figure" "small_figure" (aU fb) (aO fb) (au fb) .none kV21 dc21 pm21 an21 cd21 ct21),sl21⟩) (c21:codeIn K cd21 "small_figure" = true) (k21:keepIn K (.ref f21) = true)
  (a22:nsIn K mainGlobals "behind" = some (some (.ref f22))) (l22:K.lookup f22 = some ⟨oc22,od22,.func (fnOf "behind" "behind" (aU kL) (aO kL) (au kL) .none kV22 dc22 pm22 an22 cd22 ct22),sl22⟩) (c22:codeIn K cd22 "behind" = true) (k22:keepIn K (.ref f22) = true)
  (a23:nsIn K mainGlobals "behind_value" = some (some (.ref f23))) (l23:K.lookup f23 = some ⟨oc23,od23,.func (fnOf "behind_value" "behind_value" (aU eZ) (aO eZ) (au eZ) .none kV23 dc23 pm23 an23 cd23 ct23),sl23⟩) (c23:codeIn K cd23 "behind_value" = true) (k23:keepIn K (.ref f23) = true)
  (a24:nsIn K mainGlobals "behind_lead" = some (some (.ref f24))) (l24:K.lookup f24 = some ⟨oc24,od24,.func (fnOf "behind_lead" "behind_lead" (aU fC) (aO fC) (au fC) .none kV24 dc24 pm24 an24 cd24 ct24),sl24⟩) (c24:codeIn K cd24 "behind_lead" = true) (k24:keepIn K (.ref f24) = true)
  (a25:nsIn K mainGlobals "behind_in_number" = some (some (.ref f25))) (l25:K.lookup f25 = some ⟨oc25,od25,.func (fnOf "behind_in_number" "behind_in_number" (aU dk) (aO dk) (au dk) .none kV25 dc25 pm25 an25 cd25 ct25),sl25⟩) (c25:codeIn K cd25 "behind_in_number" = true) (k25:keepIn K (.ref f25) = true)
  (a26:nsIn K mainGlobals "behind_in_text" = some (some (.ref f26))) (l26:K.lookup f26 = some ⟨oc26,od26,.func (fnOf "behind_in_text" "behind_in_text" (aU dR) (aO dR) (au dR) .none kV26 dc26 pm26 an26 cd26 ct26),sl26⟩) (c26:codeIn K cd26 "behind_in_text" = true) (k26:keepIn K (.ref f26) = true)
  (a27:nsIn K mainGlobals "behind_character" = some (some (.ref f27))) (l27:K.lookup f27 = some ⟨oc27,od27,.func (fnOf "behind_character" "behind_character" (aU dh) (aO dh) (au dh) .none kV27 dc27 pm27 an27 cd27 ct27),sl27⟩) (c27:codeIn K cd27 "behind_character" = true) (k27:keepIn K (.ref f27) = true)
  (a28:nsIn K mainGlobals "behind_backslash" = some (some (.ref f28))) (l28:K.lookup f28 = some ⟨oc28,od28,.func (fnOf "behind_backslash" "behind_backslash" (aU dg) (aO dg) (au dg) .none kV28 dc28 pm28 an28 cd28 ct28),sl28⟩) (c28:codeIn K cd28 "behind_backslash" = true) (k28:keepIn K (.ref f28) = true)
  (a29:nsIn K mainGlobals "behind_code_d" = some (some (.ref f29))) (l29:K.lookup f29 = some ⟨oc29,od29,.func (fnOf "behind_code_d" "behind_code_d" (aU eC) (aO eC) (au eC) .none kV29 dc29 pm29 an29 cd29 ct29),sl29⟩) (c29:codeIn K cd29 "behind_code_d" = true) (k29:keepIn K (.ref f29) = true)
  (a30:nsIn K mainGlobals "behind_hex" = some (some (.ref f30))) (l30:K.lookup f30 = some ⟨oc30,od30,.func (fnOf "behind_hex" "behind_hex" (aU gv) (aO gv) (au gv) .none kV30 dc30 pm30 an30 cd30 ct30),sl30⟩) (c30:codeIn K cd30 "behind_hex" = true) (k30:keepIn K (.ref f30) = true)
  (a31:nsIn K mainGlobals "behind_in_brackets" = some (some (.ref f31))) (l31:K.lookup f31 = some ⟨oc31,od31,.func (fnOf "behind_in_brackets" "behind_in_brackets" (aU cA) (aO cA) (au cA) .none kV31 dc31 pm31 an31 cd31 ct31),sl31⟩) (c31:codeIn K cd31 "behind_in_brackets" = true) (k31:keepIn K (.ref f31) = true)
  (a32:nsIn K mainGlobals "behind_row_begin" = some (some (.ref f32))) (l32:K.lookup f32 = some ⟨oc32,od32,.func (fnOf "behind_row_begin" "behind_row_begin" (aU dc) (aO dc) (au dc) .none kV32 dc32 pm32 an32 cd32 ct32),sl32⟩) (c32:codeIn K cd32 "behind_row_begin" = true) (k32:keepIn K (.ref f32) = true)
  (a33:nsIn K mainGlobals "behind_fields_begin" = some (some (.ref f33))) (l33:K.lookup f33 = some ⟨oc33,od33,.func (fnOf "behind_fields_begin" "behind_fields_begin" (aU cx) (aO cx) (au cx) .none kV33 dc33 pm33 an33 cd33 ct33),sl33⟩) (c33:codeIn K cd33 "behind_fields_begin" = true) (k33:keepIn K (.ref f33) = true)
  (a34:nsIn K mainGlobals "member_rest" = some (some (.ref f34))) (l34:K.lookup f34 = some ⟨oc34,od34,.func (fnOf "member_rest" "member_rest" (aU fG) (aO fG) (au fG) .none kV34 dc34 pm34 an34 cd34 ct34),sl34⟩) (c34:codeIn K cd34 "member_rest" = true) (k34:keepIn K (.ref f34) = true)
  (a35:nsIn K mainGlobals "fault" = some (some (.ref f35))) (l35:K.lookup f35 = some ⟨oc35,od35,.func (fnOf "fault" "fault" (aU mW) (aO mW) (au mW) .none kV35 dc35 pm35 an35 cd35 ct35),sl35⟩) (c35:codeIn K cd35 "fault" = true) (k35:keepIn K (.ref f35) = true)
  (a36:nsIn K mainGlobals "refuse_fault" = some (some (.ref f36))) (l36:K.lookup f36 = some ⟨oc36,od36,.func (fnOf "refuse_fault" "refuse_fault" (aU fe) (aO fe) (au fe) .none kV36 dc36 pm36 an36 cd36 ct36),sl36⟩) (c36:codeIn K cd36 "refuse_fault" = true) (k36:keepIn K (.ref f36) = true)
  (a37:nsIn K mainGlobals "nodes" = some (some (.ref f37))) (l37:K.lookup f37 = some ⟨oc37,od37,.func (fnOf "nodes" "nodes" (aU mZ) (aO mZ) (au mZ) .none kV37 dc37 pm37 an37 cd37 ct37),sl37⟩) (c37:codeIn K cd37 "nodes" = true) (k37:keepIn K (.ref f37) = true)
  (a38:nsIn K mainGlobals "leaf" = some (some (.ref f38))) (l38:K.lookup f38 = some ⟨oc38,od38,.func (fnOf "leaf" "leaf" (aU o9) (aO o9) (au o9) .none kV38 dc38 pm38 an38 cd38 ct38),sl38⟩) (c38:codeIn K cd38 "leaf" = true) (k38:keepIn K (.ref f38) = true)
  (a39:nsIn K mainGlobals "plain_end" = some (some (.ref f39))) (l39:K.lookup f39 = some ⟨oc39,od39,.func (fnOf "plain_end" "plain_end" (aU ic) (aO ic) (au ic) .none kV39 dc39 pm39 an39 cd39 ct39),sl39⟩) (c39:codeIn K cd39 "plain_end" = true) (k39:keepIn K (.ref f39) = true)
  (a40:nsIn K mainGlobals "text_end" = some (some (.ref f40))) (l40:K.lookup f40 = some ⟨oc40,od40,.func (fnOf "text_end" "text_end" (aU jg) (aO jg) (au jg) .none kV40 dc40 pm40 an40 cd40 ct40),sl40⟩) (c40:codeIn K cd40 "text_end" = true) (k40:keepIn K (.ref f40) = true)
  (a41:nsIn K mainGlobals "is_name" = some (some (.ref f41))) (l41:K.lookup f41 = some ⟨oc41,od41,.func (fnOf "is_name" "is_name" (aU jW) (aO jW) (au jW) .none kV41 dc41 pm41 an41 cd41 ct41),sl41⟩) (c41:codeIn K cd41 "is_name" = true) (k41:keepIn K (.ref f41) = true)
  (a42:nsIn K mainGlobals "with_member" = some (some (.ref f42))) (l42:K.lookup f42 = some ⟨oc42,od42,.func (fnOf "with_member" "with_member" (aU fB) (aO fB) (au fB) .none kV42 dc42 pm42 an42 cd42 ct42),sl42⟩) (c42:codeIn K cd42 "with_member" = true) (k42:keepIn K (.ref f42) = true)
  (a43:nsIn K mainGlobals "_law_cell" = some (some (.ref f43))) (l43:K.lookup f43 = some ⟨oc43,od43,.func (fnOf "_law_cell" "_law_cell" (aU jh) (aO jh) (au jh) .none kV43 dc43 pm43 an43 cd43 ct43),sl43⟩) (c43:codeIn K cd43 "_law_cell" = true) (k43:keepIn K (.ref f43) = true)
  (a44:nsIn K mainGlobals "_law_mix" = some (some (.ref f44))) (l44:K.lookup f44 = some ⟨oc44,od44,.func (fnOf "_law_mix" "_law_mix" (aU jR) (aO jR) (au jR) .none kV44 dc44 pm44 an44 cd44 ct44),sl44⟩) (c44:codeIn K cd44 "_law_mix" = true) (k44:keepIn K (.ref f44) = true)
  (a45:nsIn K mainGlobals "_law_whole" = some (some (.ref f45))) (l45:K.lookup f45 = some ⟨oc45,od45,.func (fnOf "_law_whole" "_law_whole" (aU iH) (aO iH) (au iH) .none kV45 dc45 pm45 an45 cd45 ct45),sl45⟩) (c45:codeIn K cd45 "_law_whole" = true) (k45:keepIn K (.ref f45) = true)
  (a46:nsIn K mainGlobals "_law_wholes" = some (some (.ref f46))) (l46:K.lookup f46 = some ⟨oc46,od46,.func (fnOf "_law_wholes" "_law_wholes" (aU gk) (aO gk) (au gk) .none kV46 dc46 pm46 an46 cd46 ct46),sl46⟩) (c46:codeIn K cd46 "_law_wholes" = true) (k46:keepIn K (.ref f46) = true)
  (a47:nsIn K mainGlobals "_law_point" = some (some (.ref f47))) (l47:K.lookup f47 = some ⟨oc47,od47,.func (fnOf "_law_point" "_law_point" (aU iE) (aO iE) (au iE) .none kV47 dc47 pm47 an47 cd47 ct47),sl47⟩) (c47:codeIn K cd47 "_law_point" = true) (k47:keepIn K (.ref f47) = true)
  (a48:nsIn K mainGlobals "_law_points" = some (some (.ref f48))) (l48:K.lookup f48 = some ⟨oc48,od48,.func (fnOf "_law_points" "_law_points" (aU gy) (aO gy) (au gy) .none kV48 dc48 pm48 an48 cd48 ct48),sl48⟩) (c48:codeIn K cd48 "_law_points" = true) (k48:keepIn K (.ref f48) = true)
  (a49:nsIn K mainGlobals "_law_eight" = some (some (.ref f49))) (l49:K.lookup f49 = some ⟨oc49,od49,.func (fnOf "_law_eight" "_law_eight" (aU g9) (aO g9) (au g9) .none kV49 dc49 pm49 an49 cd49 ct49),sl49⟩) (c49:codeIn K cd49 "_law_eight" = true) (k49:keepIn K (.ref f49) = true)
  (a50:nsIn K mainGlobals "_law_due" = some (some (.ref f50))) (l50:K.lookup f50 = some ⟨oc50,od50,.func (fnOf "_law_due" "_law_due" (aU jS) (aO jS) (au jS) .none kV50 dc50 pm50 an50 cd50 ct50),sl50⟩) (c50:codeIn K cd50 "_law_due" = true) (k50:keepIn K (.ref f50) = true)
  (a51:nsIn K mainGlobals "_law_refused" = some (some (.ref f51))) (l51:K.lookup f51 = some ⟨oc51,od51,.func (fnOf "_law_refused" "_law_refused" (aU fF) (aO fF) (au fF) .none kV51 dc51 pm51 an51 cd51 ct51),sl51⟩) (c51:codeIn K cd51 "_law_refused" = true) (k51:keepIn K (.ref f51) = true)
  (a52:nsIn K mainGlobals "law" = some (some (.ref f52))) (l52:K.lookup f52 = some ⟨oc52,od52,.func (fnOf "law" "law" (aU sv) (aO sv) (au sv) .none kV52 dc52 pm52 an52 cd52 ct52),sl52⟩) (c52:codeIn K cd52 "law" = true) (k52:keepIn K (.ref f52) = true)
  (a53:findIn K (.ref C4) "__init__" = some (some (.ref f53))) (i53:isFn K (.ref f53) = true) (l53:K.lookup f53 = some ⟨oc53,od53,.func (fnOf "__init__" "Walk.__init__" (aU er) (aO er) (au er) .none kV53 dc53 pm53 an53 cd53 ct53),sl53⟩) (c53:codeIn K cd53 "Walk.__init__" = true) (k53:keepIn K (.ref f53) = true)
  (a54:findIn K (.ref C4) "take" = some (some (.ref f54))) (i54:isFn K (.ref f54) = true) (l54:K.lookup f54 = some ⟨oc54,od54,.func (fnOf "take" "Walk.take" (aU iI) (aO iI) (au iI) .none kV54 dc54 pm54 an54 cd54 ct54),sl54⟩) (c54:codeIn K cd54 "Walk.take" = true) (k54:keepIn K (.ref f54) = true)
  (a55:findIn K (.ref C4) "goes_on" = some (some (.ref f55))) (i55:isFn K (.ref f55) = true) (l55:K.lookup f55 = some ⟨oc55,od55,.func (fnOf "goes_on" "Walk.goes_on" (aU eX) (aO eX) (au eX) .none kV55 dc55 pm55 an55 cd55 ct55),sl55⟩) (c55:codeIn K cd55 "Walk.goes_on" = true) (k55:keepIn K (.ref f55) = true)
  (a56:findIn K (.ref C4) "brackets" = some (some (.ref f56))) (i56:isFn K (.ref f56) = true) (l56:K.lookup f56 = some ⟨oc56,od56,.func (fnOf "brackets" "Walk.brackets" (aU eB) (aO eB) (au eB) .none kV56 dc56 pm56 an56 cd56 ct56),sl56⟩) (c56:codeIn K cd56 "Walk.brackets" = true) (k56:keepIn K (.ref f56) = true)
  (a57:findIn K (.ref C4) "is_whole" = some (some (.ref f57))) (i57:isFn K (.ref f57) = true) (l57:K.lookup f57 = some ⟨oc57,od57,.func (fnOf "is_whole" "Walk.is_whole" (aU eE) (aO eE) (au eE) .none kV57 dc57 pm57 an57 cd57 ct57),sl57⟩) (c57:codeIn K cd57 "Walk.is_whole" = true) (k57:keepIn K (.ref f57) = true)
  (z0:nsIn K mainGlobals "len" = some none)
  (z1:nsIn K mainGlobals "isinstance" = some none)
  (z2:nsIn K mainGlobals "tuple" = some none)
  (z3:nsIn K mainGlobals "range" = some none)
  (z4:nsIn K mainGlobals "int" = some none)
  (z5:nsIn K mainGlobals "bool" = some none)
  (z6:nsIn K mainGlobals "list" = some none)
  (z7:nsIn K mainGlobals "all" = some none)
  (z8:nsIn K mainGlobals "enumerate" = some none)
  (z9:nsIn K mainGlobals "ValueError" = some none)
  (ca4:nsIn K mainGlobals "Walk" = some (some (.ref C4))) (pg4:plainGet K C4 Str.empty = true) (hd4:hasDictIn K C4 = true) (po4:plainOver K C4 = true) (sa4:findIn K (.ref C4) "__setattr__" = some (some (.builtin "object.__setattr__"))) (mk4:makesIn K C4 = true) (kc4:keepIn K (.ref C4) = true)
  (na4_0:findIn K (.ref C4) "coming" = some none)
  (ca0:nsIn K mainGlobals "GlassError" = some (some (.ref C0))) (cl0:K.lookup C0 = some (excClassObj nm0 qn0 C0 N0 bs0 [.type "ValueError",.type "Exception",.type "BaseException",.type "object"] hd0 sn0 sub0 ab0 co0 dd0 p00 p10 p20 p30 p50 id0))
  (cx0:excIn K C0 [.type "ValueError",.type "Exception",.type "BaseException",.type "object"] "ValueError.__new__" = true)
  (ca1:nsIn K mainGlobals "Fault" = some (some (.ref C1))) (cl1:K.lookup C1 = some (excClassObj nm1 qn1 C1 N1 bs1 [.ref C0,.type "ValueError",.type "Exception",.type "BaseException",.type "object"] hd1 sn1 sub1 ab1 co1 dd1 p01 p11 p21 p31 p51 "ValueError.__new__"))
  (ii1:findIn K (.ref C1) "__init__" = some (some (.ref fi1))) (il1:K.lookup fi1 = some ⟨.type "function",oi1,.func (fnOf "__init__" "Fault.__init__" (aU gu) (aO gu) (au gu) .none kI1 dI1 pI1 ai1 cI1 tI1),si1⟩) (ic1:codeIn K cI1 "Fault.__init__" = true) (ik1:keepIn K (.ref fi1) = true)
  (xa1:hasDictIn K C1 = true) (xc1:findIn K (.ref C1) "__setattr__" = some (some (.builtin "object.__setattr__"))) (xd1:findIn K (.ref C1) "__getattribute__" = some (some (.builtin "BaseException.__getattribute__"))) (xe1:findIn K (.ref C1) "__getattr__" = some none) (xf1:findIn K (.ref C1) "at" = some none)
  (ca2:nsIn K mainGlobals "NoPoint" = some (some (.ref C2))) (cl2:K.lookup C2 = some (excClassObj nm2 qn2 C2 N2 bs2 [.ref C0,.type "ValueError",.type "Exception",.type "BaseException",.type "object"] hd2 sn2 sub2 ab2 co2 dd2 p02 p12 p22 p32 p52 id2))
  (cx2:excIn K C2 [.type "ValueError",.type "Exception",.type "BaseException",.type "object"] "ValueError.__new__" = true)
  (ca3:nsIn K mainGlobals "NoNode" = some (some (.ref C3))) (cl3:K.lookup C3 = some (excClassObj nm3 qn3 C3 N3 bs3 [.ref C0,.type "ValueError",.type "Exception",.type "BaseException",.type "object"] hd3 sn3 sub3 ab3 co3 dd3 p03 p13 p23 p33 p53 id3))
  (cx3:excIn K C3 [.type "ValueError",.type "Exception",.type "BaseException",.type "object"] "ValueError.__new__" = true)
  (va0:nsIn K mainGlobals "LAST_POINT" = some (some (.int 1114111 t0)))
  (va1:nsIn K mainGlobals "FIRST_PAIRED" = some (some (.int 55296 t1)))
  (va2:nsIn K mainGlobals "LAST_PAIRED" = some (some (.int 57343 t2)))
  (va3:nsIn K mainGlobals "MARKS" = some (some (.ref v3))) (vl3:K.lookup v3 = some ⟨.type "tuple",vd3,.seq #[.int 0 t3_0,.int 192 t3_1,.int 224 t3_2,.int 240 t3_3] vn3,vs3⟩)
  (va4:nsIn K mainGlobals "TAIL_MARK" = some (some (.int 128 t4)))
  (va5:nsIn K mainGlobals "TAIL" = some (some (.ref v5))) (vl5:K.lookup v5 = some ⟨.type "tuple",vd5,.seq #[.int 128 t5_0,.int 191 t5_1] vn5,vs5⟩)
  (va6:nsIn K mainGlobals "BLANK" = some (some (.int 32 t6)))
  (va7:nsIn K mainGlobals "QUOTE" = some (some (.int 34 t7)))
  (va8:nsIn K mainGlobals "PLUS" = some (some (.int 43 t8)))
  (va9:nsIn K mainGlobals "COMMA" = some (some (.int 44 t9)))
  (va10:nsIn K mainGlobals "MINUS" = some (some (.int 45 t10)))
  (va11:nsIn K mainGlobals "POINT" = some (some (.int 46 t11)))
  (va12:nsIn K mainGlobals "NOUGHT" = some (some (.int 48 t12)))
  (va13:nsIn K mainGlobals "NINE" = some (some (.int 57 t13)))
  (va14:nsIn K mainGlobals "COLON" = some (some (.int 58 t14)))
  (va15:nsIn K mainGlobals "BIG_E" = some (some (.int 69 t15)))
  (va16:nsIn K mainGlobals "ROW_BEGIN" = some (some (.int 91 t16)))
  (va17:nsIn K mainGlobals "BACKSLASH" = some (some (.int 92 t17)))
  (va18:nsIn K mainGlobals "ROW_END" = some (some (.int 93 t18)))
  (va19:nsIn K mainGlobals "SMALL_E" = some (some (.int 101 t19)))
  (va20:nsIn K mainGlobals "SMALL_U" = some (some (.int 117 t20)))
  (va21:nsIn K mainGlobals "FIELDS_BEGIN" = some (some (.int 123 t21)))
  (va22:nsIn K mainGlobals "FIELDS_END" = some (some (.int 125 t22)))
  (va23:nsIn K mainGlobals "WHITE" = some (some (.ref v23))) (vl23:K.lookup v23 = some ⟨.type "tuple",vd23,.seq #[.int 9 t23_0,.int 10 t23_1,.int 13 t23_2,.int 32 t23_3] vn23,vs23⟩)
  (va24:nsIn K mainGlobals "WORDS" = some (some (.ref v24))) (vl24:K.lookup v24 = some ⟨.type "dict",none,.dict #[⟨110,.int 110 tk24_0,.ref w24_0⟩,⟨116,.int 116 tk24_1,.ref w24_1⟩,⟨102,.int 102 tk24_2,.ref w24_2⟩] ep24,#[]⟩)
  (wl24_0:K.lookup w24_0 = some ⟨.type "tuple",wd24_0,.seq #[.int 117 tx24_0_0,.int 108 tx24_0_1,.int 108 tx24_0_2] wn24_0,ws24_0⟩)
  (wl24_1:K.lookup w24_1 = some ⟨.type "tuple",wd24_1,.seq #[.int 114 tx24_1_0,.int 117 tx24_1_1,.int 101 tx24_1_2] wn24_1,ws24_1⟩)
  (wl24_2:K.lookup w24_2 = some ⟨.type "tuple",wd24_2,.seq #[.int 97 tx24_2_0,.int 108 tx24_2_1,.int 115 tx24_2_2,.int 101 tx24_2_3] wn24_2,ws24_2⟩)
  (vm24:(v24 == sysModules) = false)
  (va25:nsIn K mainGlobals "SHORT_ESCAPES" = some (some (.ref v25))) (vl25:K.lookup v25 = some ⟨.type "dict",none,.dict #[⟨34,.int 34 tk25_0,(.int 34 tv25_0)⟩,⟨92,.int 92 tk25_1,(.int 92 tv25_1)⟩,⟨47,.int 47 tk25_2,(.int 47 tv25_2)⟩,⟨98,.int 98 tk25_3,(.int 8 tv25_3)⟩,⟨102,.int 102 tk25_4,(.int 12 tv25_4)⟩,⟨110,.int 110 tk25_5,(.int 10 tv25_5)⟩,⟨114,.int 114 tk25_6,(.int 13 tv25_6)⟩,⟨116,.int 116 tk25_7,(.int 9 tv25_7)⟩] ep25,#[]⟩)
  (vm25:(v25 == sysModules) = false)
  (va26:nsIn K mainGlobals "ESCAPED" = some (some (.ref v26))) (vl26:K.lookup v26 = some ⟨.type "dict",none,.dict #[⟨8,.int 8 tk26_0,(.int 98 tv26_0)⟩,⟨9,.int 9 tk26_1,(.int 116 tv26_1)⟩,⟨10,.int 10 tk26_2,(.int 110 tv26_2)⟩,⟨12,.int 12 tk26_3,(.int 102 tv26_3)⟩,⟨13,.int 13 tk26_4,(.int 114 tv26_4)⟩,⟨34,.int 34 tk26_5,(.int 34 tv26_5)⟩,⟨92,.int 92 tk26_6,(.int 92 tv26_6)⟩] ep26,#[]⟩)
  (vm26:(v26 == sysModules) = false)
  (va27:nsIn K mainGlobals "CODE_SIZE" = some (some (.int 6 t27)))
  (va28:nsIn K mainGlobals "MOST_BRACKETS" = some (some (.int 64 t28)))
  (va29:nsIn K mainGlobals "LOOSE" = some (some (.ref v29))) (vl29:K.lookup v29 = some ⟨.type "tuple",vd29,.seq #[.str "white" t29_0,.str "figures" t29_1,.str "fraction" t29_2,.str "exponent" t29_3,.str "sign" t29_4] vn29,vs29⟩)
  (va30:nsIn K mainGlobals "UNENDED" = some (some (.ref v30))) (vl30:K.lookup v30 = some ⟨.type "tuple",vd30,.seq #[.str "row" t30_0,.str "more row" t30_1,.str "fields" t30_2,.str "more fields" t30_3] vn30,vs30⟩)
  (va31:nsIn K mainGlobals "KINDS" = some (some (.ref v31))) (vl31:K.lookup v31 = some ⟨.type "dict",none,.dict #[⟨34,.int 34 tk31_0,(.str "text" tv31_0)⟩,⟨91,.int 91 tk31_1,(.str "row" tv31_1)⟩,⟨102,.int 102 tk31_2,(.str "false" tv31_2)⟩,⟨110,.int 110 tk31_3,(.str "null" tv31_3)⟩,⟨116,.int 116 tk31_4,(.str "true" tv31_4)⟩,⟨123,.int 123 tk31_5,(.str "fields" tv31_5)⟩] ep31,#[]⟩)
  (vm31:(v31 == sysModules) = false):
  ∃ fd:FuncData,(∀ (s:Shared) (v:Value),BindsTo s fd ⟨[v],[]⟩ [("_law_script",v)]) /\ ∀ base:Heap,K.In base -> base.Ns mainGlobals mg -> bV l.prog w K mg base (CXE l.prog w) 12 fa fd ["_law_script"] (uS K):=by
 have e:=hfa.symm.trans (PySem.W.mg_of X G a52)
 cases e
 have T:Txt K mg ⟨f0,_,f1,_,f2,_,f3,_,f4,_,f5,_,f6,_,f7,_,f8,_,f9,_,f10,_,f11,_,f12,_,f13,_,f14,_,f15,_,f16,_,f17,_,f18,_,f19,_,f20,_,f21,_,f22,_,f23,_,f24,_,f25,_,f26,_,f27,_,f28,_,f29,_,f30,_,f31,_,f32,_,f33,_,f34,_,f35,_,f36,_,f37,_,f38,_,f39,_,f40,_,f41,_,f42,_,f43,_,f44,_,f45,_,f46,_,f47,_,f48,_,f49,_,f50,_,f51,_,f52,_,f53,_,f54,_,f55,_,f56,_,f57,_,C0,C1,fi1,_,C2,C3,C4,_,_,_,v3,_,v5,_,_,_,_,_,_,_,_,_,_,_,_,_,_,_,_,_,v23,v24,v25,v26,_,_,v29,v30,v31⟩:=⟨aD (st:=jj) l0 c0 k0,PySem.W.mg_of X G a0,(aD (st:=jj) l0 c0 k0).binds (ps:=["point"]) fun _ _ _ _ _ _ us hl=>match us,hl with | [_],_=>rfl,
  aD (st:=mK) l1 c1 k1,PySem.W.mg_of X G a1,(aD (st:=mK) l1 c1 k1).binds (ps:=["point"]) fun _ _ _ _ _ _ us hl=>match us,hl with | [_],_=>rfl,
  aD (st:=pD) l2 c2 k2,PySem.W.mg_of X G a2,(aD (st:=pD) l2 c2 k2).binds (ps:=["bits"]) fun _ _ _ _ _ _ us hl=>match us,hl with | [_],_=>rfl,
  aD (st:=kN) l3 c3 k3,PySem.W.mg_of X G a3,(aD (st:=kN) l3 c3 k3).binds (ps:=["row"]) fun _ _ _ _ _ _ us hl=>match us,hl with | [_],_=>rfl,
  aD (st:=eA) l4 c4 k4,PySem.W.mg_of X G a4,(aD (st:=eA) l4 c4 k4).binds (ps:=["row","at"]) fun _ _ _ _ _ _ us hl=>match us,hl with | [_,_],_=>rfl,
  aD (st:=mE) l5 c5 k5,PySem.W.mg_of X G a5,(aD (st:=mE) l5 c5 k5).binds (ps:=["byte"]) fun _ _ _ _ _ _ us hl=>match us,hl with | [_],_=>rfl,
  aD (st:=dE) l6 c6 k6,PySem.W.mg_of X G a6,(aD (st:=dE) l6 c6 k6).binds (ps:=["byte"]) fun _ _ _ _ _ _ us hl=>match us,hl with | [_],_=>rfl,
  aD (st:=dQ) l7 c7 k7,PySem.W.mg_of X G a7,(aD (st:=dQ) l7 c7 k7).binds (ps:=["byte"]) fun _ _ _ _ _ _ us hl=>match us,hl with | [_],_=>rfl,
  aD (st:=gZ) l8 c8 k8,PySem.W.mg_of X G a8,(aD (st:=gZ) l8 c8 k8).binds (ps:=["row","at","end"]) fun _ _ _ _ _ _ us hl=>match us,hl with | [_,_,_],_=>rfl,
  aD (st:=jm) l9 c9 k9,PySem.W.mg_of X G a9,(aD (st:=jm) l9 c9 k9).binds (ps:=["byte"]) fun _ _ _ _ _ _ us hl=>match us,hl with | [_],_=>rfl,
  aD (st:=iG) l10 c10 k10,PySem.W.mg_of X G a10,(aD (st:=iG) l10 c10 k10).binds (ps:=["byte"]) fun _ _ _ _ _ _ us hl=>match us,hl with | [_],_=>rfl,
  aD (st:=iy) l11 c11 k11,PySem.W.mg_of X G a11,(aD (st:=iy) l11 c11 k11).binds (ps:=["byte"]) fun _ _ _ _ _ _ us hl=>match us,hl with | [_],_=>rfl,
  aD (st:=iq) l12 c12 k12,PySem.W.mg_of X G a12,(aD (st:=iq) l12 c12 k12).binds (ps:=["byte"]) fun _ _ _ _ _ _ us hl=>match us,hl with | [_],_=>rfl,
  aD (st:=eW) l13 c13 k13,PySem.W.mg_of X G a13,(aD (st:=eW) l13 c13 k13).binds (ps:=["byte"]) fun _ _ _ _ _ _ us hl=>match us,hl with | [_],_=>rfl,
  aD (st:=m5) l14 c14 k14,PySem.W.mg_of X G a14,(aD (st:=m5) l14 c14 k14).binds (ps:=["row","tree","i"]) fun _ _ _ _ _ _ us hl=>match us,hl with | [_,_,_],_=>rfl,
  aD (st:=dC) l15 c15 k15,PySem.W.mg_of X G a15,(aD (st:=dC) l15 c15 k15).binds (ps:=["signs"]) fun _ _ _ _ _ _ us hl=>match us,hl with | [_],_=>rfl,
  aD (st:=iA) l16 c16 k16,PySem.W.mg_of X G a16,(aD (st:=iA) l16 c16 k16).binds (ps:=["signs","at"]) fun _ _ _ _ _ _ us hl=>match us,hl with | [_,_],_=>rfl,
  aD (st:=gm) l17 c17 k17,PySem.W.mg_of X G a17,(aD (st:=gm) l17 c17 k17).binds (ps:=["signs","at","size"]) fun _ _ _ _ _ _ us hl=>match us,hl with | [_,_,_],_=>rfl,
  aD (st:=pB) l18 c18 k18,PySem.W.mg_of X G a18,(aD (st:=pB) l18 c18 k18).binds (ps:=["signs","at"]) fun _ _ _ _ _ _ us hl=>match us,hl with | [_,_],_=>rfl,
  aD (st:=pw) l19 c19 k19,PySem.W.mg_of X G a19,(aD (st:=pw) l19 c19 k19).binds (ps:=["numbers"]) fun _ _ _ _ _ _ us hl=>match us,hl with | [_],_=>rfl,
  aD (st:=hU) l20 c20 k20,PySem.W.mg_of X G a20,(aD (st:=hU) l20 c20 k20).binds (ps:=["point"]) fun _ _ _ _ _ _ us hl=>match us,hl with | [_],_=>rfl,
  aD (st:=fb) l21 c21 k21,PySem.W.mg_of X G a21,(aD (st:=fb) l21 c21 k21).binds (ps:=["worth"]) fun _ _ _ _ _ _ us hl=>match us,hl with | [_],_=>rfl,
  aD (st:=kL) l22 c22 k22,PySem.W.mg_of X G a22,(aD (st:=kL) l22 c22 k22).binds (ps:=["item","byte"]) fun _ _ _ _ _ _ us hl=>match us,hl with | [_,_],_=>rfl,
  aD (st:=eZ) l23 c23 k23,PySem.W.mg_of X G a23,(aD (st:=eZ) l23 c23 k23).binds (ps:=["byte"]) fun _ _ _ _ _ _ us hl=>match us,hl with | [_],_=>rfl,
  aD (st:=fC) l24 c24 k24,PySem.W.mg_of X G a24,(aD (st:=fC) l24 c24 k24).binds (ps:=["byte"]) fun _ _ _ _ _ _ us hl=>match us,hl with | [_],_=>rfl,
  aD (st:=dk) l25 c25 k25,PySem.W.mg_of X G a25,(aD (st:=dk) l25 c25 k25).binds (ps:=["item","byte"]) fun _ _ _ _ _ _ us hl=>match us,hl with | [_,_],_=>rfl,
  aD (st:=dR) l26 c26 k26,PySem.W.mg_of X G a26,(aD (st:=dR) l26 c26 k26).binds (ps:=["item","byte"]) fun _ _ _ _ _ _ us hl=>match us,hl with | [_,_],_=>rfl,
  aD (st:=dh) l27 c27 k27,PySem.W.mg_of X G a27,(aD (st:=dh) l27 c27 k27).binds (ps:=["byte"]) fun _ _ _ _ _ _ us hl=>match us,hl with | [_],_=>rfl,
  aD (st:=dg) l28 c28 k28,PySem.W.mg_of X G a28,(aD (st:=dg) l28 c28 k28).binds (ps:=["byte"]) fun _ _ _ _ _ _ us hl=>match us,hl with | [_],_=>rfl,
  aD (st:=eC) l29 c29 k29,PySem.W.mg_of X G a29,(aD (st:=eC) l29 c29 k29).binds (ps:=["worth"]) fun _ _ _ _ _ _ us hl=>match us,hl with | [_],_=>rfl,
  aD (st:=gv) l30 c30 k30,PySem.W.mg_of X G a30,(aD (st:=gv) l30 c30 k30).binds (ps:=["item","byte"]) fun _ _ _ _ _ _ us hl=>match us,hl with | [_,_],_=>rfl,
  aD (st:=cA) l31 c31 k31,PySem.W.mg_of X G a31,(aD (st:=cA) l31 c31 k31).binds (ps:=["item","byte"]) fun _ _ _ _ _ _ us hl=>match us,hl with | [_,_],_=>rfl,
  aD (st:=dc) l32 c32 k32,PySem.W.mg_of X G a32,(aD (st:=dc) l32 c32 k32).binds (ps:=["byte"]) fun _ _ _ _ _ _ us hl=>match us,hl with | [_],_=>rfl,
  aD (st:=cx) l33 c33 k33,PySem.W.mg_of X G a33,(aD (st:=cx) l33 c33 k33).binds (ps:=["byte"]) fun _ _ _ _ _ _ us hl=>match us,hl with | [_],_=>rfl,
  aD (st:=fG) l34 c34 k34,PySem.W.mg_of X G a34,(aD (st:=fG) l34 c34 k34).binds (ps:=[]) fun _ _ _ _ _ _ us hl=>match us,hl with | [],_=>rfl,
  aD (st:=mW) l35 c35 k35,PySem.W.mg_of X G a35,(aD (st:=mW) l35 c35 k35).binds (ps:=["row"]) fun _ _ _ _ _ _ us hl=>match us,hl with | [_],_=>rfl,
  aD (st:=fe) l36 c36 k36,PySem.W.mg_of X G a36,(aD (st:=fe) l36 c36 k36).binds (ps:=["row"]) fun _ _ _ _ _ _ us hl=>match us,hl with | [_],_=>rfl,
  aD (st:=mZ) l37 c37 k37,PySem.W.mg_of X G a37,(aD (st:=mZ) l37 c37 k37).binds (ps:=["row"]) fun _ _ _ _ _ _ us hl=>match us,hl with | [_],_=>rfl,
  aD (st:=o9) l38 c38 k38,PySem.W.mg_of X G a38,(aD (st:=o9) l38 c38 k38).binds (ps:=["row","at","i"]) fun _ _ _ _ _ _ us hl=>match us,hl with | [_,_,_],_=>rfl,
  aD (st:=ic) l39 c39 k39,PySem.W.mg_of X G a39,(aD (st:=ic) l39 c39 k39).binds (ps:=["row","at"]) fun _ _ _ _ _ _ us hl=>match us,hl with | [_,_],_=>rfl,
  aD (st:=jg) l40 c40 k40,PySem.W.mg_of X G a40,(aD (st:=jg) l40 c40 k40).binds (ps:=["row","at"]) fun _ _ _ _ _ _ us hl=>match us,hl with | [_,_],_=>rfl,
  aD (st:=jW) l41 c41 k41,PySem.W.mg_of X G a41,(aD (st:=jW) l41 c41 k41).binds (ps:=["row","end"]) fun _ _ _ _ _ _ us hl=>match us,hl with | [_,_],_=>rfl,
  aD (st:=fB) l42 c42 k42,PySem.W.mg_of X G a42,(aD (st:=fB) l42 c42 k42).binds (ps:=["tree","i"]) fun _ _ _ _ _ _ us hl=>match us,hl with | [_,_],_=>rfl,
  aD (st:=jh) l43 c43 k43,PySem.W.mg_of X G a43,(aD (st:=jh) l43 c43 k43).binds (ps:=["_law_script","_law_k"]) fun _ _ _ _ _ _ us hl=>match us,hl with | [_,_],_=>rfl,
  aD (st:=jR) l44 c44 k44,PySem.W.mg_of X G a44,(aD (st:=jR) l44 c44 k44).binds (ps:=["_law_script","_law_k"]) fun _ _ _ _ _ _ us hl=>match us,hl with | [_,_],_=>rfl,
  aD (st:=iH) l45 c45 k45,PySem.W.mg_of X G a45,(aD (st:=iH) l45 c45 k45).binds (ps:=["_law_found"]) fun _ _ _ _ _ _ us hl=>match us,hl with | [_],_=>rfl,
  aD (st:=gk) l46 c46 k46,PySem.W.mg_of X G a46,(aD (st:=gk) l46 c46 k46).binds (ps:=["_law_found"]) fun _ _ _ _ _ _ us hl=>match us,hl with | [_],_=>rfl,
  aD (st:=iE) l47 c47 k47,PySem.W.mg_of X G a47,(aD (st:=iE) l47 c47 k47).binds (ps:=["_law_number"]) fun _ _ _ _ _ _ us hl=>match us,hl with | [_],_=>rfl,
  aD (st:=gy) l48 c48 k48,PySem.W.mg_of X G a48,(aD (st:=gy) l48 c48 k48).binds (ps:=["_law_script","_law_k"]) fun _ _ _ _ _ _ us hl=>match us,hl with | [_,_],_=>rfl,
  aD (st:=g9) l49 c49 k49,PySem.W.mg_of X G a49,(aD (st:=g9) l49 c49 k49).binds (ps:=["_law_point_here"]) fun _ _ _ _ _ _ us hl=>match us,hl with | [_],_=>rfl,
  aD (st:=jS) l50 c50 k50,PySem.W.mg_of X G a50,(aD (st:=jS) l50 c50 k50).binds (ps:=["_law_point_here"]) fun _ _ _ _ _ _ us hl=>match us,hl with | [_],_=>rfl,
  aD (st:=fF) l51 c51 k51,PySem.W.mg_of X G a51,(aD (st:=fF) l51 c51 k51).binds (ps:=["_law_points_here"]) fun _ _ _ _ _ _ us hl=>match us,hl with | [_],_=>rfl,
  aD (st:=sv) l52 c52 k52,PySem.W.mg_of X G a52,(aD (st:=sv) l52 c52 k52).binds (ps:=["_law_script"]) fun _ _ _ _ _ _ us hl=>match us,hl with | [_],_=>rfl,
  aD (st:=er) l53 c53 k53,(aD (st:=er) l53 c53 k53).binds (ps:=["self"]) fun _ _ _ _ _ _ us hl=>match us,hl with | [_],_=>rfl,
  aD (st:=iI) l54 c54 k54,⟨a54,i54,k54⟩,(aD (st:=iI) l54 c54 k54).binds (ps:=["self","row"]) fun _ _ _ _ _ _ us hl=>match us,hl with | [_,_],_=>rfl,
  aD (st:=eX) l55 c55 k55,⟨a55,i55,k55⟩,(aD (st:=eX) l55 c55 k55).binds (ps:=["self","byte"]) fun _ _ _ _ _ _ us hl=>match us,hl with | [_,_],_=>rfl,
  aD (st:=eB) l56 c56 k56,⟨a56,i56,k56⟩,(aD (st:=eB) l56 c56 k56).binds (ps:=["self"]) fun _ _ _ _ _ _ us hl=>match us,hl with | [_],_=>rfl,
  aD (st:=eE) l57 c57 k57,⟨a57,i57,k57⟩,(aD (st:=eE) l57 c57 k57).binds (ps:=["self"]) fun _ _ _ _ _ _ us hl=>match us,hl with | [_],_=>rfl,
  PySem.W.mg_none_of X G z0,
  PySem.W.mg_none_of X G z1,
  PySem.W.mg_none_of X G z2,
  PySem.W.mg_none_of X G z3,
  PySem.W.mg_none_of X G z4,
  PySem.W.mg_none_of X G z5,
  PySem.W.mg_none_of X G z6,
  PySem.W.mg_none_of X G z7,
  PySem.W.mg_none_of X G z8,
  PySem.W.mg_none_of X G z9,
  PySem.W.mg_of X G ca4,⟨pg4,hd4,po4,sa4⟩,⟨mk4,a53,i53,kc4⟩,
  na4_0,
  PySem.W.mg_of X G ca0,⟨by simp,_,_,_,_,_,_,_,_,_,_,_,_,_,_,_,_,cl0⟩,
  cx0,
  PySem.W.mg_of X G ca1,⟨by simp,_,_,_,_,_,_,_,_,_,_,_,_,_,_,_,_,cl1⟩,
  aD (st:=gu) il1 ic1 ik1,(aD (st:=gu) il1 ic1 ik1).binds (ps:=["self","at"]) fun _ _ _ _ _ _ us hl=>match us,hl with | [_,_],_=>rfl,
  ⟨PySem.W.mg_of X G ca1,⟨_,_,_,_,_,_,_,_,_,_,_,_,_,_,_,cl1⟩,by simp,EK ⟨by simp,_,_,_,_,_,_,_,_,_,_,_,_,_,_,_,_,cl0⟩ cx0,ii1,⟨_,il1,rfl⟩,⟨xa1,A7 cl1 (by rw [ng,ng]; decide),xc1,xd1,xe1,xf1⟩⟩,
  PySem.W.mg_of X G ca2,⟨by simp,_,_,_,_,_,_,_,_,_,_,_,_,_,_,_,_,cl2⟩,
  cx2,
  PySem.W.mg_of X G ca3,⟨by simp,_,_,_,_,_,_,_,_,_,_,_,_,_,_,_,_,cl3⟩,
  cx3,
  PySem.W.mg_of X G va0,⟨t0,rfl⟩,
  PySem.W.mg_of X G va1,⟨t1,rfl⟩,
  PySem.W.mg_of X G va2,⟨t2,rfl⟩,
  PySem.W.mg_of X G va3,rfl,fun H=>.inr ⟨_,_,_,vl3,rfl,rfl,(by show 4 <= sizeLine; decide),.cons ⟨_,rfl⟩ (.cons ⟨_,rfl⟩ (.cons ⟨_,rfl⟩ (.cons ⟨_,rfl⟩ (.nil))))⟩,
  PySem.W.mg_of X G va4,⟨t4,rfl⟩,
  PySem.W.mg_of X G va5,rfl,fun H=>.inr ⟨_,_,_,vl5,rfl,rfl,(by show 2 <= sizeLine; decide),.cons ⟨_,rfl⟩ (.cons ⟨_,rfl⟩ (.nil))⟩,
  PySem.W.mg_of X G va6,⟨t6,rfl⟩,
  PySem.W.mg_of X G va7,⟨t7,rfl⟩,
  PySem.W.mg_of X G va8,⟨t8,rfl⟩,
  PySem.W.mg_of X G va9,⟨t9,rfl⟩,
  PySem.W.mg_of X G va10,⟨t10,rfl⟩,
  PySem.W.mg_of X G va11,⟨t11,rfl⟩,
  PySem.W.mg_of X G va12,⟨t12,rfl⟩,
  PySem.W.mg_of X G va13,⟨t13,rfl⟩,
  PySem.W.mg_of X G va14,⟨t14,rfl⟩,
  PySem.W.mg_of X G va15,⟨t15,rfl⟩,
  PySem.W.mg_of X G va16,⟨t16,rfl⟩,
  PySem.W.mg_of X G va17,⟨t17,rfl⟩,
  PySem.W.mg_of X G va18,⟨t18,rfl⟩,
  PySem.W.mg_of X G va19,⟨t19,rfl⟩,
  PySem.W.mg_of X G va20,⟨t20,rfl⟩,
  PySem.W.mg_of X G va21,⟨t21,rfl⟩,
  PySem.W.mg_of X G va22,⟨t22,rfl⟩,
  PySem.W.mg_of X G va23,rfl,fun H=>.inr ⟨_,_,_,vl23,rfl,rfl,(by show 4 <= sizeLine; decide),.cons ⟨_,rfl⟩ (.cons ⟨_,rfl⟩ (.cons ⟨_,rfl⟩ (.cons ⟨_,rfl⟩ (.nil))))⟩,
  PySem.W.mg_of X G va24,rfl,⟨[(110,.ref w24_0),(116,.ref w24_1),(102,.ref w24_2)],⟨vm24,by simp,_,_,vl24,.cons ⟨rfl,⟨_,rfl⟩,rfl⟩ (.cons ⟨rfl,⟨_,rfl⟩,rfl⟩ (.cons ⟨rfl,⟨_,rfl⟩,rfl⟩ (.nil)))⟩,.cons ⟨rfl,fun _=>by unfold Rep; exact ⟨_,[.int 117,.int 108,.int 108],rfl,.inr ⟨_,_,_,wl24_0,rfl,rfl,(by show 3 <= sizeLine; decide),.cons ⟨_,rfl⟩ (.cons ⟨_,rfl⟩ (.cons ⟨_,rfl⟩ (.nil)))⟩,bS.ints (ns:=[117,108,108])⟩⟩ (.cons ⟨rfl,fun _=>by unfold Rep; exact ⟨_,[.int 114,.int 117,.int 101],rfl,.inr ⟨_,_,_,wl24_1,rfl,rfl,(by show 3 <= sizeLine; decide),.cons ⟨_,rfl⟩ (.cons ⟨_,rfl⟩ (.cons ⟨_,rfl⟩ (.nil)))⟩,bS.ints (ns:=[114,117,101])⟩⟩ (.cons ⟨rfl,fun _=>by unfold Rep; exact ⟨_,[.int 97,.int 108,.int 115,.int 101],rfl,.inr ⟨_,_,_,wl24_2,rfl,rfl,(by show 4 <= sizeLine; decide),.cons ⟨_,rfl⟩ (.cons ⟨_,rfl⟩ (.cons ⟨_,rfl⟩ (.cons ⟨_,rfl⟩ (.nil))))⟩,bS.ints (ns:=[97,108,115,101])⟩⟩ (.nil)))⟩,
  PySem.W.mg_of X G va25,rfl,⟨[(34,.int 34),(92,.int 92),(47,.int 47),(98,.int 8),(102,.int 12),(110,.int 10),(114,.int 13),(116,.int 9)],⟨vm25,by simp,_,_,vl25,.cons ⟨rfl,⟨_,rfl⟩,⟨_,rfl⟩⟩ (.cons ⟨rfl,⟨_,rfl⟩,⟨_,rfl⟩⟩ (.cons ⟨rfl,⟨_,rfl⟩,⟨_,rfl⟩⟩ (.cons ⟨rfl,⟨_,rfl⟩,⟨_,rfl⟩⟩ (.cons ⟨rfl,⟨_,rfl⟩,⟨_,rfl⟩⟩ (.cons ⟨rfl,⟨_,rfl⟩,⟨_,rfl⟩⟩ (.cons ⟨rfl,⟨_,rfl⟩,⟨_,rfl⟩⟩ (.cons ⟨rfl,⟨_,rfl⟩,⟨_,rfl⟩⟩ (.nil))))))))⟩,.cons ⟨rfl,fun _=>by unfold Rep; rfl⟩ (.cons ⟨rfl,fun _=>by unfold Rep; rfl⟩ (.cons ⟨rfl,fun _=>by unfold Rep; rfl⟩ (.cons ⟨rfl,fun _=>by unfold Rep; rfl⟩ (.cons ⟨rfl,fun _=>by unfold Rep; rfl⟩ (.cons ⟨rfl,fun _=>by unfold Rep; rfl⟩ (.cons ⟨rfl,fun _=>by unfold Rep; rfl⟩ (.cons ⟨rfl,fun _=>by unfold Rep; rfl⟩ (.nil))))))))⟩,
  PySem.W.mg_of X G va26,rfl,⟨[(8,.int 98),(9,.int 116),(10,.int 110),(12,.int 102),(13,.int 114),(34,.int 34),(92,.int 92)],⟨vm26,by simp,_,_,vl26,.cons ⟨rfl,⟨_,rfl⟩,⟨_,rfl⟩⟩ (.cons ⟨rfl,⟨_,rfl⟩,⟨_,rfl⟩⟩ (.cons ⟨rfl,⟨_,rfl⟩,⟨_,rfl⟩⟩ (.cons ⟨rfl,⟨_,rfl⟩,⟨_,rfl⟩⟩ (.cons ⟨rfl,⟨_,rfl⟩,⟨_,rfl⟩⟩ (.cons ⟨rfl,⟨_,rfl⟩,⟨_,rfl⟩⟩ (.cons ⟨rfl,⟨_,rfl⟩,⟨_,rfl⟩⟩ (.nil)))))))⟩,.cons ⟨rfl,fun _=>by unfold Rep; rfl⟩ (.cons ⟨rfl,fun _=>by unfold Rep; rfl⟩ (.cons ⟨rfl,fun _=>by unfold Rep; rfl⟩ (.cons ⟨rfl,fun _=>by unfold Rep; rfl⟩ (.cons ⟨rfl,fun _=>by unfold Rep; rfl⟩ (.cons ⟨rfl,fun _=>by unfold Rep; rfl⟩ (.cons ⟨rfl,fun _=>by unfold Rep; rfl⟩ (.nil)))))))⟩,
  PySem.W.mg_of X G va27,⟨t27,rfl⟩,
  PySem.W.mg_of X G va28,⟨t28,rfl⟩,
  PySem.W.mg_of X G va29,rfl,fun H=>.inr ⟨_,_,_,vl29,rfl,rfl,(by show 5 <= sizeLine; decide),.cons ⟨_,rfl⟩ (.cons ⟨_,rfl⟩ (.cons ⟨_,rfl⟩ (.cons ⟨_,rfl⟩ (.cons ⟨_,rfl⟩ (.nil)))))⟩,
  PySem.W.mg_of X G va30,rfl,fun H=>.inr ⟨_,_,_,vl30,rfl,rfl,(by show 4 <= sizeLine; decide),.cons ⟨_,rfl⟩ (.cons ⟨_,rfl⟩ (.cons ⟨_,rfl⟩ (.cons ⟨_,rfl⟩ (.nil))))⟩,
  PySem.W.mg_of X G va31,rfl,⟨[(34,.str "text"),(91,.str "row"),(102,.str "false"),(110,.str "null"),(116,.str "true"),(123,.str "fields")],⟨vm31,by simp,_,_,vl31,.cons ⟨rfl,⟨_,rfl⟩,⟨_,rfl⟩⟩ (.cons ⟨rfl,⟨_,rfl⟩,⟨_,rfl⟩⟩ (.cons ⟨rfl,⟨_,rfl⟩,⟨_,rfl⟩⟩ (.cons ⟨rfl,⟨_,rfl⟩,⟨_,rfl⟩⟩ (.cons ⟨rfl,⟨_,rfl⟩,⟨_,rfl⟩⟩ (.cons ⟨rfl,⟨_,rfl⟩,⟨_,rfl⟩⟩ (.nil))))))⟩,.cons ⟨rfl,fun _=>by unfold Rep; rfl⟩ (.cons ⟨rfl,fun _=>by unfold Rep; rfl⟩ (.cons ⟨rfl,fun _=>by unfold Rep; rfl⟩ (.cons ⟨rfl,fun _=>by unfold Rep; rfl⟩ (.cons ⟨rfl,fun _=>by unfold Rep; rfl⟩ (.cons ⟨rfl,fun _=>by unfold Rep; rfl⟩ (.nil))))))⟩⟩
 exact ⟨_,fun s v=>.of_eq rfl,fun base _ _=>(HR T).imp (EI fun ns h=>JI ns h)⟩
theorem walk {l:PySem.W.OpenLaw} {q:Program} {loose:List Str} {XP:(Str -> Option Value) -> Heap -> Prop} {YP:World -> Heap -> Prop} {d:DefRec} {K:Params -> PySem.W.Frag} (hn:l.most = some 63) (hdf:d.params.defaults = [])
  (hY:∀ (w:World) (h:Heap),YP w h -> (K w.params).In h)
  (F:∀ (w:World) (mg:Str -> Option Value) (fa:Addr) (h:Heap),(K w.params).In h -> h.Ns mainGlobals mg -> mg d.name = some (.ref fa) ->
    ∃ fd:FuncData,(∀ (s:Shared) (u:Value),BindsTo s fd ⟨[u],[]⟩ [("_law_script",u)]) /\ ∀ base:Heap,(K w.params).In base -> base.Ns mainGlobals mg -> bV l.prog w (K w.params) mg base (CXE l.prog w) 12 fa fd ["_law_script"] (uS (K w.params))):
  PySem.W.WalkO q loose XP YP l.row.toRowW d [] (fun f vs=>PySem.call f vs):=
 L2.ES (n:=63) (k:=12) (x:="_law_script") (CX:=fun w=>CXE l.prog w) (sp:=fun w=>uS (K w.params)) hn (by decide) hdf ⟨rfl,by decide,by decide⟩ hY F (fun _ _ a ns hl _ hS=>⟨a,ns,rfl,hS,hl,fun _=>rfl⟩) fun _ _ _ _ _ z=>let ⟨_,_,_,_,_,_,_,_,_,_,f⟩:=z; f
end L2.plainglass_k16_texts_told
open PySem PySem.W PyProof.Rows
namespace PySem.W.Fast
def tw11276555934305951767:=0
def tw4826796848585731566:=0
def tw15354099929147373969:=0
def tw16371615062757133331:=0
def tw16616362692127748891:=0
def tw5861995939418449132:=0
def tw18095151524187247816:=0
def tw10271760485147975574:=0
def tw16519994102331228537:=0
def tw6099020319566849852:=0
def tw2192565408266422619:=0
def tw11403954668634121459:=0
def tw10316041545462221364:=0
def tw4576818665456600052:=0
def tw9195389993067407589:=0
def tw6896257716069415140:=0
def tw11815676913126173917:=0
def tw15484930638512100765:=0
def tw1168038537519553455:=0
def tw8902415843632948959:=0
def tw7891407899050515907:=0
def tw16090561824095376342:=0
def tw12811820044463084199:=0
def tw8144665849854356361:=0
def tw16186260552943451833:=0
def tw15688801666210141383:=0
def tw2041472627609494925:=0
def tw5429317451293733660:=0
def tw14816617182068318608:=0
def tw16849435673911740102:=0
def tw13737455609427777308:=0
def tw11020856980211017829:=0
def tw12709794180953548078:=0
def tw15833135816081882735:=0
def tw3803989956382272636:=0
def tw2238177259095793821:=0
def tw1945191998325109505:=0
def tw7158304705489610383:=0
def tw11853036148022177109:=0
def tw13297112725303247029:=0
def tw9609774427967527009:=0
def tw11792662707968410676:=0
def tw10824074476652299150:=0
def tw10255545385001109763:=0
def tw831807125245629427:=0
def tw12458761885362356550:=0
def tw4046946625298363218:=0
def tw16177106512349858098:=0
def tw9030171026274011480:=0
def tw14829403114392525061:=0
def tw9191453104952123129:=0
def tw4884397190435158553:=0
def tw16491841515496747907:=0
def tw10899216361005635058:=0
def tw2913961479983692326:=0
def tw15798885422913772926:=0
def tw6364404153156962397:=0
def tw14391014990972459357:=0
def tw11811470588235929325:=0
def tw1870232546245330436:=0
def tw15059962994554140877:=0
def tw13883915099822145107:=0
def tw5419475394913804924:=0
def tw15479121079471360372:=0
def tw13853352939534078460:=0
def tw6906044224812684204:=0
def tw7003186782840042077:=0
def tw17031445852728888539:=0
def tw14268012629285856476:=0
def tw13747191365335570539:=0
def tw14894211797562568811:=0
def tw761473321118117149:=0
def tw9429055245171166850:=0
def tw13589934121714676483:=0
def tw6368983079254352430:=0
def tw1171516832559521328:=0
def tw10966996086842888494:=0
def tw1057543077755391740:=0
def tw18033466621096552025:=0
def tw3641735834672298984:=0
def tw6276305864554509681:=0
def tw17041482748530301310:=0
def tw6513264331874246093:=0
def tw5976925320767282695:=0
def tw7104879587559777531:=0
def tw16195087809608800546:=0
def tw3402062311607348994:=0
def tw9733227958455366126:=0
def tw10253238647128123021:=0
def tw4385566007591110157:=0
def tw16483742402734532882:=0
def tw7026834286934241938:=0
def tw13065276680348042017:=0
def tw6537949187935350684:=0
def tw9539858112884603134:=0
def tw15243218125651932580:=0
def tw9513811153965074332:=0
def tw2325302815723449861:=0
def tw13377218491121047425:=0
def tw2277504231194790665:=0
def tw6038949854655072015:=0
def tw14006395309462184214:=0
def tw17216347873220084801:=0
def tw8676682948280425484:=0
def tw14422847931541901904:=0
def tw6841195445702996949:=0
def tw2515914786213232601:=0
def tw8529862177734482586:=0
def tw2021993701301360495:=0
def tw18275814763862739806:=0
def tw697851725077482017:=0
def tw10831565896865013640:=0
def tw10606810729902508578:=0
def tw13990530685510004228:=0
def tw9241294387682492890:=0
def tw10475362205974228229:=0
def tw5296392503087051859:=0
def tw5212611849652014641:=0
def tw18325429349580087146:=0
def tw15635462064298416337:=0
def tw12853293155471799259:=0
def tw17807722427290819473:=0
def tw6979006217379902723:=0
def tw6100391748420662778:=0
end PySem.W.Fast
set_option maxRecDepth 100000 in
set_option maxHeartbeats 0 in
theorem PySem.Challenge.cw_plainglass_k16_texts_told_holds : PySem.Challenge.rw_plainglass_k16_texts_told.Holds := by
 w_on; o_law; k_head; (case hw=>w_witness2)
 k_fill
 refine L2.plainglass_k16_texts_told.walk (l:=PySem.Challenge.rw_plainglass_k16_texts_told) rfl rfl (fun w h Y=>PySem.W.kIn_of Y) ?F
 case F=>
  intro w mg fa h KX G hmg
  refine' L2.plainglass_k16_texts_told.all_mk KX G hmg ?a0 ?l0 ?c0 ?k0 ?a1 ?l1 ?c1 ?k1 ?a2 ?l2 ?c2 ?k2 ?a3 ?l3 ?c3 ?k3 ?a4 ?l4 ?c4 ?k4 ?a5 ?l5 ?c5 ?k5 ?a6 ?l6 ?c6 ?k6 ?a7 ?l7 ?c7 ?k7 ?a8 ?l8 ?c8 ?k8 ?a9 ?l9 ?c9 ?k9 ?a10 ?l10 ?c10 ?k10 ?a11 ?l11 ?c11 ?k11 ?a12 ?l12 ?c12 ?k12 ?a13 ?l13 ?c13 ?k13 ?a14 ?l14 ?c14 ?k14 ?a15 ?l15 ?c15 ?k15 ?a16 ?l16 ?c16 ?k16 ?a17 ?l17 ?c17 ?k17 ?a18 ?l18 ?c18 ?k18 ?a19 ?l19 ?c19 ?k19 ?a20 ?l20 ?c20 ?k20 ?a21 ?l21 ?c21 ?k21 ?a22 ?l22 ?c22 ?k22 ?a23 ?l23 ?c23 ?k23 ?a24 ?l24 ?c24 ?k24 ?a25 ?l25 ?c25 ?k25 ?a26 ?l26 ?c26 ?k26 ?a27 ?l27 ?c27 ?k27 ?a28 ?l28 ?c28 ?k28 ?a29 ?l29 ?c29 ?k29 ?a30 ?l30 ?c30 ?k30 ?a31 ?l31 ?c31 ?k31 ?a32 ?l32 ?c32 ?k32 ?a33 ?l33 ?c33 ?k33 ?a34 ?l34 ?c34 ?k34 ?a35 ?l35 ?c35 ?k35 ?a36 ?l36 ?c36 ?k36 ?a37 ?l37 ?c37 ?k37 ?a38 ?l38 ?c38 ?k38 ?a39 ?l39 ?c39 ?k39 ?a40 ?l40 ?c40 ?k40 ?a41 ?l41 ?c41 ?k41 ?a42 ?l42 ?c42 ?k42 ?a43 ?l43 ?c43 ?k43 ?a44 ?l44 ?c44 ?k44 ?a45 ?l45 ?c45 ?k45 ?a46 ?l46 ?c46 ?k46 ?a47 ?l47 ?c47 ?k47 ?a48 ?l48 ?c48 ?k48 ?a49 ?l49 ?c49 ?k49 ?a50 ?l50 ?c50 ?k50 ?a51 ?l51 ?c51 ?k51 ?a52 ?l52 ?c52 ?k52 ?a53 ?i53 ?l53 ?c53 ?k53 ?a54 ?i54 ?l54 ?c54 ?k54 ?a55 ?i55 ?l55 ?c55 ?k55 ?a56 ?i56 ?l56 ?c56 ?k56 ?a57 ?i57 ?l57 ?c57 ?k57 ?z0 ?z1 ?z2 ?z3 ?z4 ?z5 ?z6 ?z7 ?z8 ?z9 ?ca4 ?pg4 ?hd4 ?po4 ?sa4 ?mk4 ?kc4 ?na4_0 ?ca0 ?cl0 ?cx0 ?ca1 ?cl1 ?ii1 ?il1 ?ic1 ?ik1 ?xa1 ?xc1 ?xd1 ?xe1 ?xf1 ?ca2 ?cl2 ?cx2 ?ca3 ?cl3 ?cx3 ?va0 ?va1 ?va2 ?va3 ?vl3 ?va4 ?va5 ?vl5 ?va6 ?va7 ?va8 ?va9 ?va10 ?va11 ?va12 ?va13 ?va14 ?va15 ?va16 ?va17 ?va18 ?va19 ?va20 ?va21 ?va22 ?va23 ?vl23 ?va24 ?vl24 ?wl24_0 ?wl24_1 ?wl24_2 ?vm24 ?va25 ?vl25 ?vm25 ?va26 ?vl26 ?vm26 ?va27 ?va28 ?va29 ?vl29 ?va30 ?vl30 ?va31 ?vl31 ?vm31
  (case ca4=>k_is)
  (case a0=>k_is)
  (case l0=>k_is)
  (case c0=>k_is)
  (case k0=>k_is)
  (case a1=>k_is)
  (case l1=>k_is)
  (case c1=>k_is)
  (case k1=>k_is)
  (case a2=>k_is)
  (case l2=>k_is)
  (case c2=>k_is)
  (case k2=>k_is)
  (case a3=>k_is)
  (case l3=>k_is)
  (case c3=>k_is)
  (case k3=>k_is)
  (case a4=>k_is)
  (case l4=>k_is)
  (case c4=>k_is)
  (case k4=>k_is)
  (case a5=>k_is)
  (case l5=>k_is)
  (case c5=>k_is)
  (case k5=>k_is)
  (case a6=>k_is)
  (case l6=>k_is)
  (case c6=>k_is)
  (case k6=>k_is)
  (case a7=>k_is)
  (case l7=>k_is)
  (case c7=>k_is)
  (case k7=>k_is)
  (case a8=>k_is)
  (case l8=>k_is)
  (case c8=>k_is)
  (case k8=>k_is)
  (case a9=>k_is)
  (case l9=>k_is)
  (case c9=>k_is)
  (case k9=>k_is)
  (case a10=>k_is)
  (case l10=>k_is)
  (case c10=>k_is)
  (case k10=>k_is)
  (case a11=>k_is)
  (case l11=>k_is)
  (case c11=>k_is)
  (case k11=>k_is)
  (case a12=>k_is)
  (case l12=>k_is)
  (case c12=>k_is)
  (case k12=>k_is)
  (case a13=>k_is)
  (case l13=>k_is)
  (case c13=>k_is)
  (case k13=>k_is)
  (case a14=>k_is)
  (case l14=>k_is)
  (case c14=>k_is)
  (case k14=>k_is)
  (case a15=>k_is)
  (case l15=>k_is)
  (case c15=>k_is)
  (case k15=>k_is)
  (case a16=>k_is)
  (case l16=>k_is)
  (case c16=>k_is)
  (case k16=>k_is)
  (case a17=>k_is)
  (case l17=>k_is)
  (case c17=>k_is)
  (case k17=>k_is)
  (case a18=>k_is)
  (case l18=>k_is)
  (case c18=>k_is)
  (case k18=>k_is)
  (case a19=>k_is)
  (case l19=>k_is)
  (case c19=>k_is)
  (case k19=>k_is)
  (case a20=>k_is)
  (case l20=>k_is)
  (case c20=>k_is)
  (case k20=>k_is)
  (case a21=>k_is)
  (case l21=>k_is)
  (case c21=>k_is)
  (case k21=>k_is)
  (case a22=>k_is)
  (case l22=>k_is)
  (case c22=>k_is)
  (case k22=>k_is)
  (case a23=>k_is)
  (case l23=>k_is)
  (case c23=>k_is)
  (case k23=>k_is)
  (case a24=>k_is)
  (case l24=>k_is)
  (case c24=>k_is)
  (case k24=>k_is)
  (case a25=>k_is)
  (case l25=>k_is)
  (case c25=>k_is)
  (case k25=>k_is)
  (case a26=>k_is)
  (case l26=>k_is)
  (case c26=>k_is)
  (case k26=>k_is)
  (case a27=>k_is)
  (case l27=>k_is)
  (case c27=>k_is)
  (case k27=>k_is)
  (case a28=>k_is)
  (case l28=>k_is)
  (case c28=>k_is)
  (case k28=>k_is)
  (case a29=>k_is)
  (case l29=>k_is)
  (case c29=>k_is)
  (case k29=>k_is)
  (case a30=>k_is)
  (case l30=>k_is)
  (case c30=>k_is)
  (case k30=>k_is)
  (case a31=>k_is)
  (case l31=>k_is)
  (case c31=>k_is)
  (case k31=>k_is)
  (case a32=>k_is)
  (case l32=>k_is)
  (case c32=>k_is)
  (case k32=>k_is)
  (case a33=>k_is)
  (case l33=>k_is)
  (case c33=>k_is)
  (case k33=>k_is)
  (case a34=>k_is)
  (case l34=>k_is)
  (case c34=>k_is)
  (case k34=>k_is)
  (case a35=>k_is)
  (case l35=>k_is)
  (case c35=>k_is)
  (case k35=>k_is)
  (case a36=>k_is)
  (case l36=>k_is)
  (case c36=>k_is)
  (case k36=>k_is)
  (case a37=>k_is)
  (case l37=>k_is)
  (case c37=>k_is)
  (case k37=>k_is)
  (case a38=>k_is)
  (case l38=>k_is)
  (case c38=>k_is)
  (case k38=>k_is)
  (case a39=>k_is)
  (case l39=>k_is)
  (case c39=>k_is)
  (case k39=>k_is)
  (case a40=>k_is)
  (case l40=>k_is)
  (case c40=>k_is)
  (case k40=>k_is)
  (case a41=>k_is)
  (case l41=>k_is)
  (case c41=>k_is)
  (case k41=>k_is)
  (case a42=>k_is)
  (case l42=>k_is)
  (case c42=>k_is)
  (case k42=>k_is)
  (case a43=>k_is)
  (case l43=>k_is)
  (case c43=>k_is)
  (case k43=>k_is)
  (case a44=>k_is)
  (case l44=>k_is)
  (case c44=>k_is)
  (case k44=>k_is)
  (case a45=>k_is)
  (case l45=>k_is)
  (case c45=>k_is)
  (case k45=>k_is)
  (case a46=>k_is)
  (case l46=>k_is)
  (case c46=>k_is)
  (case k46=>k_is)
  (case a47=>k_is)
  (case l47=>k_is)
  (case c47=>k_is)
  (case k47=>k_is)
  (case a48=>k_is)
  (case l48=>k_is)
  (case c48=>k_is)
  (case k48=>k_is)
  (case a49=>k_is)
  (case l49=>k_is)
  (case c49=>k_is)
  (case k49=>k_is)
  (case a50=>k_is)
  (case l50=>k_is)
  (case c50=>k_is)
  (case k50=>k_is)
  (case a51=>k_is)
  (case l51=>k_is)
  (case c51=>k_is)
  (case k51=>k_is)
  (case a52=>k_is)
  (case l52=>k_is)
  (case c52=>k_is)
  (case k52=>k_is)
  (case a53=>k_is)
  (case i53=>k_is)
  (case l53=>k_is)
  (case c53=>k_is)
  (case k53=>k_is)
  (case a54=>k_is)
  (case i54=>k_is)
  (case l54=>k_is)
  (case c54=>k_is)
  (case k54=>k_is)
  (case a55=>k_is)
  (case i55=>k_is)
  (case l55=>k_is)
  (case c55=>k_is)
  (case k55=>k_is)
  (case a56=>k_is)
  (case i56=>k_is)
  (case l56=>k_is)
  (case c56=>k_is)
  (case k56=>k_is)
  (case a57=>k_is)
  (case i57=>k_is)
  (case l57=>k_is)
  (case c57=>k_is)
  (case k57=>k_is)
  (case z0=>k_is)
  (case z1=>k_is)
  (case z2=>k_is)
  (case z3=>k_is)
  (case z4=>k_is)
  (case z5=>k_is)
  (case z6=>k_is)
  (case z7=>k_is)
  (case z8=>k_is)
  (case z9=>k_is)
  (case pg4=>k_is)
  (case hd4=>k_is)
  (case po4=>k_is)
  (case sa4=>k_is)
  (case mk4=>k_is)
  (case kc4=>k_is)
  (case na4_0=>k_is)
  (case ca0=>k_is)
  (case cl0=>k_is)
  (case cx0=>k_exc)
  (case ca1=>k_is)
  (case cl1=>k_is)
  (case ii1=>k_is)
  (case il1=>k_is)
  (case ic1=>k_is)
  (case ik1=>k_is)
  (case xa1=>k_is)
  (case xc1=>k_is)
  (case xd1=>k_is)
  (case xe1=>k_is)
  (case xf1=>k_is)
  (case ca2=>k_is)
  (case cl2=>k_is)
  (case cx2=>k_exc)
  (case ca3=>k_is)
  (case cl3=>k_is)
  (case cx3=>k_exc)
  (case va0=>k_is)
  (case va1=>k_is)
  (case va2=>k_is)
  (case va3=>k_is)
  (case vl3=>k_is)
  (case va4=>k_is)
  (case va5=>k_is)
  (case vl5=>k_is)
  (case va6=>k_is)
  (case va7=>k_is)
  (case va8=>k_is)
  (case va9=>k_is)
  (case va10=>k_is)
  (case va11=>k_is)
  (case va12=>k_is)
  (case va13=>k_is)
  (case va14=>k_is)
  (case va15=>k_is)
  (case va16=>k_is)
  (case va17=>k_is)
  (case va18=>k_is)
  (case va19=>k_is)
  (case va20=>k_is)
  (case va21=>k_is)
  (case va22=>k_is)
  (case va23=>k_is)
  (case vl23=>k_is)
  (case va24=>k_is)
  (case vl24=>k_is)
  (case wl24_0=>k_is)
  (case wl24_1=>k_is)
  (case wl24_2=>k_is)
  (case vm24=>first | decide | rfl)
  (case va25=>k_is)
  (case vl25=>k_is)
  (case vm25=>first | decide | rfl)
  (case va26=>k_is)
  (case vl26=>k_is)
  (case vm26=>first | decide | rfl)
  (case va27=>k_is)
  (case va28=>k_is)
  (case va29=>k_is)
  (case vl29=>k_is)
  (case va30=>k_is)
  (case vl30=>k_is)
  (case va31=>k_is)
  (case vl31=>k_is)
  (case vm31=>first | decide | rfl)
