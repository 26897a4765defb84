import PyProof.Rows.All
import Wide.All
import OpenK.AllK
import Wide.FinOn
import Lean
import PyProof.EqAt
import PyProof.EqKinds
import PyProof.TupleCall
import PySem.Challenge.RW_plainglass_k08_brackets_deep
set_option Elab.async false
set_option linter.all false
set_option maxRecDepth 100000
namespace L2
open PySem PySem.Spec PyProof.Rows
abbrev Key:=Sum Int Str
def AI:Key -> Value -> Bool
 | .inl k,v=>Value.isInt k v
 | .inr x,v=>Value.isStrOf x v
def F5 (w:World):Key -> Int
 | .inl k=>hashInt k
 | .inr x=>hashStr w x
theorem d7:∀ {k:Key} {v:Value},AI k v = true -> (∃ i t,k = Sum.inl i /\ v = Value.int i t) \/ (∃ x t,k = Sum.inr x /\ v = Value.str x t)
 | .inl i,v,h=>by
   obtain ⟨t,e⟩:=Value.isInt_shape (k:=i) (v:=v) h
   exact .inl ⟨i,t,rfl,e⟩
 | .inr x,v,h=>by
   obtain ⟨t,e⟩:=Value.isStrOf_shape (x:=x) (v:=v) h
   exact .inr ⟨x,t,rfl,e⟩
theorem Cy (a b:Int):decide ((Sum.inl a:Key) = Sum.inl b) = (a == b):=by
 by_cases e:a = b
 . subst e; simp
 . have h:¬ (Sum.inl a:Key) = Sum.inl b:=fun q=>e (Sum.inl.inj q)
   rw [decide_eq_false h]
   exact (beq_eq_false_iff_ne.mpr e).symm
theorem B9 (a b:Str):decide ((Sum.inr a:Key) = Sum.inr b) = decide (a = b):=by
 by_cases e:a = b
 . subst e; simp
 . have h:¬ (Sum.inr a:Key) = Sum.inr b:=fun q=>e (Sum.inr.inj q)
   rw [decide_eq_false h,decide_eq_false e]
theorem Cm (a:Int) (b:Str):decide ((Sum.inl a:Key) = Sum.inr b) = false:=decide_eq_false (fun q=>nomatch q)
theorem BJ (a:Str) (b:Int):decide ((Sum.inr a:Key) = Sum.inl b) = false:=decide_eq_false (fun q=>nomatch q)
def qh (prog:Program) (w:World):PySem.KeyKind prog w Key where
 is:=AI
 hash:=F5 w
 inj:=fun v a b ha hb=>by
  rcases d7 ha with ⟨i,t,rfl,rfl⟩ | ⟨x,t,rfl,rfl⟩
  . rcases d7 hb with ⟨j,u,rfl,e⟩ | ⟨y,u,rfl,e⟩
    . injection e with e1 _; rw [e1]
    . exact nomatch e
  . rcases d7 hb with ⟨j,u,rfl,e⟩ | ⟨y,u,rfl,e⟩
    . exact nomatch e
    . injection e with e1 _; rw [e1]
 byValue:=fun k v h=>by
  rcases d7 h with ⟨i,t,rfl,rfl⟩ | ⟨x,t,rfl,rfl⟩ <;> rfl
 pyHash:=fun hv h=>by
  rcases d7 hv with ⟨i,t,rfl,rfl⟩ | ⟨x,t,rfl,rfl⟩
  . exact wpAny_pyHash_int h
  . exact wpAny_pyHash_str h
 eqBool:=fun hu hv h=>by
  rcases d7 hu with ⟨i,t,rfl,rfl⟩ | ⟨x,t,rfl,rfl⟩
  . rcases d7 hv with ⟨j,u,rfl,rfl⟩ | ⟨y,u,rfl,rfl⟩
    . rw [Cy] at h; exact wpAny_eqBool_int h
    . rw [Cm] at h; exact SeqAt.EqAt.int_str i t y u _ _ _ _ h
  . rcases d7 hv with ⟨j,u,rfl,rfl⟩ | ⟨y,u,rfl,rfl⟩
    . rw [BJ] at h; exact SeqAt.EqAt.str_int x t j u _ _ _ _ h
    . rw [B9] at h; exact wpAny_eqBool_str h
 «strs»:=fun k x t v h=>by
  rcases d7 h with ⟨i,u,rfl,e⟩ | ⟨y,u,rfl,e⟩
  . exact nomatch e
  . injection e with e1 _
    subst e1
    cases v <;> rfl
end L2
namespace L2
open PySem PySem.Spec PyProof.Rows
inductive V where
 | non | bl (b:Bool) | int (i:Int) | str (x:Str) | byt (b:Array UInt8) | flt (b:UInt64) | ref (a:Addr) | ty (n:String)
 deriving DecidableEq
def RelV:V -> Value -> Prop
 | .non,u=>u = Value.none
 | .bl b,u=>u = Value.bool b
 | .int i,u=>∃ t,u = Value.int i t
 | .str x,u=>∃ t,u = Value.str x t
 | .byt b,u=>∃ t,u = Value.bytes b t
 | .flt b,u=>∃ t,u = Value.float b t
 | .ref a,u=>u = Value.ref a
 | .ty n,u=>u = Value.type n
abbrev Vals:List V -> List Value -> Prop:=Paired RelV
theorem Vals.length {xs:List V} {us:List Value} (r:Vals xs us):xs.length = us.length:=Paired.length r
theorem Vals.get:∀ {xs:List V} {us:List Value} {i:Nat} {x:V},Vals xs us -> xs[i]? = some x -> ∃ u,us[i]? = some u /\ RelV x u
 | _,_,_,_,.nil,e=>by simp at e
 | _,_,0,_,.cons r _,e=>by simp at e; subst e; exact ⟨_,rfl,r⟩
 | _,_,i + 1,x,.cons _ t,e=>by
   obtain ⟨u,h1,h2⟩:=Vals.get (i:=i) (x:=x) t (by simpa using e)
   exact ⟨u,by simpa using h1,h2⟩
theorem Vals.set {x:V} {u:Value} (r:RelV x u):∀ {xs:List V} {us:List Value} (i:Nat),Vals xs us -> Vals (xs.set i x) (us.set i u)
 | _,_,_,.nil=>.nil
 | _,_,0,.cons _ t=>.cons r t
 | _,_,i + 1,.cons q t=>.cons q (Vals.set r i t)
theorem Vals.append:∀ {xs ys:List V} {us ws:List Value},Vals xs us -> Vals ys ws -> Vals (xs ++ ys) (us ++ ws)
 | _,_,_,_,.nil,s=>s
 | _,_,_,_,.cons r t,s=>.cons r (Vals.append t s)
theorem Vals.take:∀ {xs:List V} {us:List Value} (n:Nat),Vals xs us -> Vals (xs.take n) (us.take n)
 | _,_,0,_=>.nil
 | _,_,_ + 1,.nil=>.nil
 | _,_,n + 1,.cons r t=>.cons r (Vals.take n t)
theorem Vals.drop:∀ {xs:List V} {us:List Value} (n:Nat),Vals xs us -> Vals (xs.drop n) (us.drop n)
 | _,_,0,r=>r
 | _,_,_ + 1,.nil=>.nil
 | _,_,n + 1,.cons _ t=>Vals.drop n t
def bJ:Option V -> Option Value -> Prop
 | some v,some u=>RelV v u
 | none,none=>True
 | _,_=>False
def KV {κ:Type}:List (κ × V) -> List (κ × Value) -> Prop:=Paired fun (p:κ × V) (q:κ × Value)=>p.1 = q.1 /\ RelV p.2 q.2
def kV:Key -> V
 | .inl i=>.int i
 | .inr x=>.str x
inductive HO where
  | lst (xs:List V)
  | tup (xs:List V)
  | dK (kvs:List (Key × V)) | dT (kvs:List (List Key × V))
  | set (S:Int -> Bool) (n:Nat)
  | ins (C dx:Addr) (fs:List (Str × V))
  | own (x:Addr)
  | xd (fs:List (Str × V))
  | met (f x:Addr)
  | rng (lo hi:Int)
  | frz (o:Obj) (u:HO)
  | tbl (ps:Array Value)
  | ext (φ:Heap -> Prop)
abbrev Hp:=Addr -> Option HO
def upd (H:Hp) (a:Addr) (o:HO):Hp:=fun b=>if b = a then some o else H b
theorem aX {H:Hp} {a:Addr} {o:HO}:upd H a o a = some o:=by unfold upd; rw [if_pos rfl]
theorem aO {H:Hp} {a b:Addr} {o:HO} (h:b ≠ a):upd H a o b = H b:=by unfold upd; rw [if_neg h]
theorem cz {H:Hp} {a b:Addr} {o:HO} (h:H a = some o) (h':H b = none):a ≠ b:=by
 intro e; subst e; rw [h] at h'; cases h'
section
variable (P:Program) (w:World)
def gm (H:Hp) (h:Heap) (a:Addr):HO -> Prop
 | .lst xs=>xs.length <= sizeLine /\ ∃ (its:List Value) (n:Nat),Vals xs its /\ h.get? a = some { cls:=.type "list",data:=.seq its.toArray n }
 | .tup xs=>xs.length <= sizeLine /\ ∃ its:List Value,Vals xs its /\ IsTup h a its.toArray
 | .dK kvs=>kvs.length <= sizeLine /\ (a == sysModules) = false /\ ∃ vs,KV kvs vs /\ h.DictOf (qh P w) a vs
 | .dT kvs=>kvs.length <= sizeLine /\ (a == sysModules) = false /\ ∃ xs:List (List Key × Addr × Value),
    Paired (fun (p:List Key × V) (q:List Key × Addr × Value)=>p.1 = q.1 /\ H q.2.1 = some (.tup (p.1.map kV)) /\ RelV p.2 q.2.2) kvs xs /\
    ∃ o es ep,h.get? a = some o /\ o.ExactDict /\ o.data = .dict es ep /\ es.toList = xs.map (entryOfKey (tupleKind (qh P w))) /\ (xs.map (·.1)).Nodup
 | .set S n=>h.SetOf (intKind P w) a S n
 | .ins C dx fs=>H dx = some (.own a) /\ fs.length <= 1000 /\ dx ≠ a /\ h.get? a = some (PySem.W.instObj C dx) /\
    ∃ mA,h.Ns1 dx mA /\ (∀ f,bJ (fs.lookup f) (mA f)) /\ PySem.Within mA (fs.map (·.1))
 | .own _=>∃ o,h.get? a = some o
 | .xd fs=>∃ mA,h.Ns1 a mA /\ ∀ f,bJ (fs.lookup f) (mA f)
 | .rng lo hi=>∃ t u v,h.get? a = some { cls:=.type "range",data:=.fields #[.int lo t,.int hi u,.int 1 v] }
 | .frz o u=>h.get? a = some o /\ gm H h a u
 | .tbl ps=>h.get? a = some { cls:=.none,data:=.fields ps }
 | .met f x=>h.get? a = some (PySem.W.methodObj (.ref f) (.ref x))
 | .ext φ=>φ h /\ (∃ o,h.get? a = some o) /\ ∀ h1 h2:Heap,φ h1 -> (∀ o,h1.get? a = some o -> h2.get? a = some o) -> φ h2
def HOk (H:Hp) (h:Heap):Prop:=∀ a o,H a = some o -> gm P w H h a o
end
section
variable {P:Program} {w:World} {H H':Hp} {h h':Heap} {a:Addr} {o:HO}
theorem gm.lt (x:gm P w H h a o):a < h.objs.size:=by
 cases o with
 | lst xs=>obtain ⟨_,_,_,_,e⟩:=x; exact Heap.lt_size e
 | tup xs=>obtain ⟨_,_,_,p⟩:=x; exact p.lt
 | dK kvs=>obtain ⟨_,_,_,_,o,_,_,e,_⟩:=x; exact Heap.lt_size e
 | dT kvs=>obtain ⟨_,_,_,_,o,_,_,e,_⟩:=x; exact Heap.lt_size e
 | set S n=>obtain ⟨o,_,_,_,e,_⟩:=x; exact Heap.lt_size e
 | ins C dx fs=>obtain ⟨_,_,_,e,_⟩:=x; exact Heap.lt_size e
 | own y=>obtain ⟨_,e⟩:=x; exact Heap.lt_size e
 | xd fs=>obtain ⟨_,⟨_,_,_,e,_⟩,_⟩:=x; exact Heap.lt_size e
 | rng lo hi=>obtain ⟨_,_,_,e⟩:=x; exact Heap.lt_size e
 | frz ob u=>obtain ⟨e,_⟩:=x; exact Heap.lt_size e
 | tbl ps=>exact Heap.lt_size (show h.get? a = some _ from x)
 | met f y=>exact Heap.lt_size (show h.get? a = some _ from x)
 | ext φ=>obtain ⟨_,⟨_,e⟩,_⟩:=x; exact Heap.lt_size e
theorem Paired.Ci {α β:Type} {F G:α -> β -> Prop}:∀ {l₁:List α} {l₂:List β},Paired F l₁ l₂ -> (∀ a b,F a b -> G a b) -> Paired G l₁ l₂
 | _,_,.nil,_=>.nil
 | _,_,.cons r t,f=>.cons (f _ _ r) (Paired.Ci t f)
theorem gm.lj (x:gm P w H h a o) (k:∀ b u,(b = a \/ H b = some (.own a)) -> h.get? b = some u -> h'.get? b = some u)
  (ho:∀ b,H b = some (.own a) -> H' b = some (.own a)) (ht:∀ b xs,H b = some (.tup xs) -> H' b = some (.tup xs)):gm P w H' h' a o:=by
 induction o with
 | lst xs=>obtain ⟨z,its,n,r,e⟩:=x; exact ⟨z,its,n,r,k _ _ (.inl rfl) e⟩
 | tup xs=>obtain ⟨z,its,r,ob,e,c⟩:=x; exact ⟨z,its,r,ob,k _ _ (.inl rfl) e,c⟩
 | dK kvs=>obtain ⟨z,y,vs,r,ob,es,ep,e,c⟩:=x; exact ⟨z,y,vs,r,ob,es,ep,k _ _ (.inl rfl) e,c⟩
 | dT kvs=>
   obtain ⟨z,y,xs,r,ob,es,ep,e,c⟩:=x
   exact ⟨z,y,xs,Paired.Ci r fun p q z=>⟨z.1,ht _ _ z.2.1,z.2.2⟩,ob,es,ep,k _ _ (.inl rfl) e,c⟩
 | set S n=>obtain ⟨ob,es,ep,t,e,c⟩:=x; exact ⟨ob,es,ep,t,k _ _ (.inl rfl) e,c⟩
 | ins C dx fs=>
   obtain ⟨d,z,ne,e,mA,⟨od,es,ep,e2,c⟩,r⟩:=x
   exact ⟨ho _ d,z,ne,k _ _ (.inl rfl) e,mA,⟨od,es,ep,k _ _ (.inr d) e2,c⟩,r⟩
 | own y=>obtain ⟨ob,e⟩:=x; exact ⟨ob,k _ _ (.inl rfl) e⟩
 | xd fs=>obtain ⟨mA,⟨od,es,ep,e,c⟩,r⟩:=x; exact ⟨mA,⟨od,es,ep,k _ _ (.inl rfl) e,c⟩,r⟩
 | rng lo hi=>obtain ⟨t,u,v,e⟩:=x; exact ⟨t,u,v,k _ _ (.inl rfl) e⟩
 | frz ob u ih=>obtain ⟨e,q⟩:=x; exact ⟨k _ _ (.inl rfl) e,ih q⟩
 | tbl ps=>
   have e:h.get? a = some { cls:=.none,data:=.fields ps }:=x
   show h'.get? a = some { cls:=.none,data:=.fields ps }
   exact k a _ (.inl rfl) e
 | met f y=>
   have e:h.get? a = some (PySem.W.methodObj (.ref f) (.ref y)):=x
   show h'.get? a = some (PySem.W.methodObj (.ref f) (.ref y))
   exact k a _ (.inl rfl) e
 | ext φ=>obtain ⟨p,⟨o,e⟩,st⟩:=x; exact ⟨st _ _ p fun o q=>k _ _ (.inl rfl) q,⟨o,k _ _ (.inl rfl) e⟩,st⟩
theorem HOk.lt (x:HOk P w H h) (e:H a = some o):a < h.objs.size:=(x a o e).lt
theorem HOk.fresh (x:HOk P w H h) (e:h.objs.size <= a):H a = none:=by
 cases q:H a with
 | none=>rfl
 | some u=>exact absurd (Nat.lt_of_lt_of_le (x.lt q) e) (Nat.lt_irrefl _)
theorem HOk.kept (x:HOk P w H h) (k:∀ b u,h.get? b = some u -> h'.get? b = some u):HOk P w H h':=fun a o e=>
 (x a o e).lj (fun b u _ q=>k b u q) (fun _ q=>q) fun _ _ q=>q
theorem HOk.laid (x:HOk P w H h) (k:∀ b u,h.get? b = some u -> h'.get? b = some u) (hp:h.objs.size <= a) (new:gm P w (upd H a o) h' a o):HOk P w (upd H a o) h':=fun b u e=>by
 have hn:=x.fresh hp
 by_cases hb:b = a
 . subst hb; rw [aX] at e; cases e; exact new
 . rw [aO hb] at e
   exact (x b u e).lj (fun c v _ q=>k c v q) (fun c q=>by rw [aO (cz q hn)]; exact q) fun c xs q=>by rw [aO (cz q hn)]; exact q
end
def Rd (H:Hp) (a:Addr) (u:HO):Prop:=H a = some u \/ ∃ o,H a = some (.frz o u)
theorem Rd.ok {P:Program} {w:World} {H:Hp} {h:Heap} {a:Addr} {u:HO} (r:Rd H a u) (x:HOk P w H h):gm P w H h a u:=by
 rcases r with r | ⟨o,r⟩
 . exact x a u r
 . obtain ⟨_,q⟩:=x a _ r
   exact q
def Mut:Option HO -> Prop
 | some (.lst _)=>True
 | some (.dK _)=>True
 | some (.dT _)=>True
 | some (.set _ _)=>True
 | some (.ins _ _ _)=>True
 | some (.ext _)=>True
 | _=>False
section
variable {P:Program} {w:World} {H:Hp} {h h':Heap} {x e:Addr} {o':HO}
theorem HOk.write (ok:HOk P w H h) (mu:Mut (H x)) (he:e = x \/ H e = some (.own x)) (k:∀ b u,b ≠ e -> h.get? b = some u -> h'.get? b = some u) (heo:∃ u,h'.get? e = some u)
  (new:gm P w (upd H x o') h' x o'):HOk P w (upd H x o') h':=fun b u q=>by
 have nown:∀ c y,H c = some (.own y) -> c ≠ x:=fun c y r z=>by subst z; rw [r] at mu; exact mu
 have ntup:∀ c xs,H c = some (.tup xs) -> c ≠ x:=fun c xs r z=>by subst z; rw [r] at mu; exact mu
 by_cases hb:b = x
 . subst hb; rw [aX] at q; cases q; exact new
 . rw [aO hb] at q
   by_cases hbe:b = e
   . have q':H b = some (.own x):=by
      rcases he with z | z
      . exact absurd (hbe.trans z) hb
      . rw [hbe]; exact z
     rw [q] at q'; cases q'
     obtain ⟨v,hv⟩:=heo
     exact ⟨v,by rw [hbe]; exact hv⟩
   . refine (ok b u q).lj (fun c v hc r=>k c v ?_ r) (fun c r=>by rw [aO (nown c b r)]; exact r) fun c xs r=>by rw [aO (ntup c xs r)]; exact r
     rcases hc with rfl | hc
     . exact hbe
     . rintro rfl
       rcases he with z | z
       . exact nown c b hc z
       . rw [hc] at z; cases z; exact hb rfl
end
structure Un (fs ex:List Addr) (H H':Hp) (h h':Heap):Prop where
 keep:∀ b o,h.get? b = some o -> H b = none -> b ∉ fs -> b ∉ ex -> h'.get? b = some o
 slot:∀ b o,h.get? b = some o -> H b = none -> b ∈ fs -> b ∉ ex -> ∃ sl,h'.get? b = some { o with slots:=sl }
 free:∀ b o,h.get? b = some o -> H b = none -> b ∉ ex -> H' b = none
 there:∀ b o,h.get? b = some o -> b ∉ ex -> ∃ o',h'.get? b = some o'
 tups:∀ b xs,H b = some (.tup xs) -> H' b = some (.tup xs)
 frzs:∀ b o u,H b = some (.frz o u) -> H' b = some (.frz o u)
 tbls:∀ b ps,H b = some (.tbl ps) -> ∃ more,H' b = some (.tbl (ps ++ more))
section
variable {fs fs' ex ex':List Addr} {H H1 H2:Hp} {h h1 h2 h':Heap} {a x e:Addr} {o:HO}
theorem Un.any (u:Un fs ex H H1 h h1) {b:Addr} {ob:Obj} (q:h.get? b = some ob) (n:H b = none) (hx:b ∉ ex):∃ sl,h1.get? b = some { ob with slots:=sl }:=by
 by_cases hb:b ∈ fs
 . exact u.slot b ob q n hb hx
 . exact ⟨ob.slots,u.keep b ob q n hb hx⟩
theorem Un.kept (k:∀ b u,h.get? b = some u -> h'.get? b = some u):Un fs ex H H h h':=
 ⟨fun b ob q _ _ _=>k b ob q,fun b ob q _ _ _=>⟨ob.slots,k b ob q⟩,fun _ _ _ n _=>n,fun b ob q _=>⟨ob,k b ob q⟩,fun _ _ q=>q,fun _ _ _ q=>q,fun _ ps q=>⟨#[],by rw [q]; simp⟩⟩
theorem Un.refl:Un fs ex H H h h:=Un.kept fun _ _ q=>q
theorem Un.laid (k:∀ b u,h.get? b = some u -> h'.get? b = some u) (hp:h.objs.size <= a) (hn:H a = none):Un fs ex H (upd H a o) h h' where
 keep:=fun b u q _ _ _=>k b u q
 slot:=fun b u q _ _ _=>⟨u.slots,k b u q⟩
 free:=fun b u q n _=>by rw [aO (Nat.ne_of_lt (Nat.lt_of_lt_of_le (Heap.lt_size q) hp))]; exact n
 there:=fun b u q _=>⟨u,k b u q⟩
 tups:=fun b xs q=>by rw [aO (cz q hn)]; exact q
 frzs:=fun b u xs q=>by rw [aO (cz q hn)]; exact q
 tbls:=fun b ps q=>⟨#[],by rw [aO (cz q hn),q]; simp⟩
theorem Un.write (mu:Mut (H x)) (he:e = x \/ H e = some (.own x)) (k:∀ b u,b ≠ e -> h.get? b = some u -> h'.get? b = some u) (heo:∃ u,h'.get? e = some u):Un fs ex H (upd H x o) h h':=by
 have hx:∀ b,H b = none -> b ≠ x:=fun b n z=>by subst z; rw [n] at mu; exact mu
 have hb:∀ b,H b = none -> b ≠ e:=fun b n z=>by
  subst z
  rcases he with r | r
  . exact hx b n r
  . rw [n] at r; cases r
 have hm:∀ b u,H b = some u -> ¬ Mut (some u) -> b ≠ x:=fun b u q nm z=>by subst z; rw [q] at mu; exact nm mu
 refine ⟨fun b u q n _ _=>k b u (hb b n) q,fun b u q n _ _=>⟨u.slots,k b u (hb b n) q⟩,fun b u q n _=>by rw [aO (hx b n)]; exact n,fun b u q _=>?_,
  fun b xs q=>by rw [aO (hm b _ q fun z=>z)]; exact q,fun b u xs q=>by rw [aO (hm b _ q fun z=>z)]; exact q,fun b ps q=>⟨#[],by rw [aO (hm b _ q fun z=>z),q]; simp⟩⟩
 by_cases hbe:b = e
 . subst hbe; exact heo
 . exact ⟨u,k b u hbe q⟩
end
def trk (h:Heap) (H:Hp):List Addr:=(List.range h.objs.size).filter fun a=>(H a).isSome
def qL (h:Heap) (H:Hp):Heap:=PySem.W.hideAll h (trk h H)
theorem vc (h:Heap) (H:Hp):(qL h H).objs.size = h.objs.size:=PySem.W.hideAll_size _ _
theorem xy {h:Heap} {H:Hp} {b:Addr} {o:Obj} (e:h.get? b = some o) (n:H b = none):(qL h H).get? b = some o:=
 PySem.W.hideAll_get _ e fun hm=>by
  have q:(H b).isSome = true:=(List.mem_filter.mp hm).2
  rw [n] at q; simp at q
theorem yJ {h:Heap} {H:Hp} {b:Addr} {o:Obj} (e:(qL h H).get? b = some o):h.get? b = some o /\ H b = none:=by
 have e':h.get? b = some o:=PySem.W.of_hideAll (trk h H) e
 refine ⟨e',?_⟩
 cases q:H b with
 | none=>rfl
 | some x=>
   have hm:b ∈ trk h H:=List.mem_filter.mpr ⟨List.mem_range.mpr (Heap.lt_size e'),by simp [q]⟩
   have z:(qL h H).get? b = none:=PySem.W.hideAll_none (trk h H) hm
   rw [z] at e; cases e
def yA (g h:Heap) (L:Addr):List (Addr × Obj):=(List.range h.objs.size).filterMap fun a=>if a = L \/ (g.get? a).isSome = true then none else (h.get? a).map fun o=>(a,o)
def rest (g h:Heap) (L d:Addr):List (Addr × Obj):=(yA g h L).filter fun p=>decide (p.1 ≠ d)
end L2
namespace L2
open PySem PySem.Spec PyProof.Rows
structure Mod (K:PySem.W.Frag) (mg:Str -> Option Value) (base:Heap):Prop where
 kin:K.In base
 glob:base.Ns mainGlobals mg
 blt:∃ mb,base.Ns builtinsNs mb /\ ∀ x:Str,x ≠ "__name__" -> mb x = bootBuiltins x
 nolimit:base.NoLimit
structure Cx where
 prog:Program
 w:World
 K:PySem.W.Frag
 mg:Str -> Option Value
 base:Heap
 A:Around
 N:List Str
 s₀:Shared
 H₀:Hp
 env:Env
 outer:List Env
 stack:List Env
 ex:List Addr
 fn:Str -> Bool
 calm:Bool
 pn:List (Addr × Obj)
 xe:Value -> Shared -> Prop
def frs (l:List Env):List Addr:=l.filterMap (·.frame)
abbrev Cx.fs (X:Cx):List Addr:=frs X.outer
def Vis (sc:Scope) (x:Str):Prop:=sc.names.lookup x = some .local \/ sc.names.lookup x = some .cell \/ sc.names.lookup x = some .free
def Loc (sc:Scope) (x:Str):Prop:=sc.names.lookup x = some .local \/ sc.names.lookup x = some .cell
def Look (env:Env) (h:Heap) (m:Str -> Option Value) (x:Str) (u:Value):Prop:=
 (env.kindOf x = some .local /\ m x = some u) \/ ((env.kindOf x = some .cell \/ env.kindOf x = some .free) /\ ∃ c,env.cells.lookup x = some c /\ h.IsCell c (some u))
structure Cx.Ok (X:Cx):Prop where
 mod:Mod X.K X.mg X.base
 kind:X.env.scope.kind = .function
 glob:X.env.globals = mainGlobals
 blt:X.env.builtins = builtinsNs
 above:X.s₀.heap.objs.size <= X.env.locals
 inj:∀ x y c,X.env.cells.lookup x = some c -> X.env.cells.lookup y = some c -> x = y
 has:∀ x,(X.env.kindOf x = some .cell \/ X.env.kindOf x = some .free) -> ∃ c,X.env.cells.lookup x = some c
 cab:∀ x c,X.fn x = true -> X.env.cells.lookup x = some c -> X.s₀.heap.objs.size <= c
 hd:X.calm = true -> X.A.handled = none
 frames:X.A.frames = some X.stack
 stk:X.stack = X.outer \/ (X.stack = X.env ::X.outer /\ X.env.frame = some X.env.locals)
 exf:∀ b ∈ X.ex,b ≠ X.env.locals /\ ∀ x c,X.env.cells.lookup x = some c -> c ≠ b
 bs:∀ b o,X.base.get? b = some o -> X.s₀.heap.get? b = some o /\ X.H₀ b = none
 bsz:X.base.objs.size <= X.s₀.heap.objs.size
 noex:∀ b o,X.base.get? b = some o -> b ∉ X.ex
 exfs:∀ b ∈ X.ex,b ∉ X.fs
 nc:X.s₀.heap.FunFrames X.base X.outer
 frf:∀ b ∈ X.fs,X.H₀ b = none
structure Inv (X:Cx) (pins:List (Addr × Obj)) (σ:List (Option V)) (H:Hp) (s:Shared):Prop where
 ok:X.Ok
 os:s.os = X.s₀.os
 bare:AllBare s.gens
 base:Un X.fs X.ex X.H₀ H X.s₀.heap s.heap
 loc:∃ m,s.heap.Ns X.env.locals m /\ ∀ (i:Nat) (x:Str) (v:V),X.N[i]? = some x -> σ[i]? = some (some v) -> Vis X.env.scope x -> ∃ u,RelV v u /\ Look X.env s.heap m x u
 cell:∀ x c,X.env.cells.lookup x = some c -> ∃ v,s.heap.IsCell c v
 free:H X.env.locals = none
 freeC:∀ x c,X.env.cells.lookup x = some c -> H c = none
 pin:∀ p ∈ X.pn ++ pins,s.heap.get? p.1 = some p.2 /\ H p.1 = none /\ p.1 ≠ X.env.locals /\ p.1 ∉ X.fs /\ ∀ v,p.2.data ≠ .cell v
 hok:HOk X.prog X.w H s.heap
 len:σ.length = X.N.length
section
variable {X:Cx} {pins:List (Addr × Obj)} {σ:List (Option V)} {H H':Hp} {s:Shared} {h':Heap}
theorem Cx.Ok.E3 (ok:X.Ok) {b:Addr} {o:Obj} (e:X.base.get? b = some o):b ∉ X.fs:=fun hb=>by
 have:=(ok.nc.mem hb).1
 rw [e] at this; cases this
theorem Inv.bs (I:Inv X pins σ H s):∀ b o,X.base.get? b = some o -> s.heap.get? b = some o /\ H b = none:=fun b o e=>
 ⟨I.base.keep b o (I.ok.bs b o e).1 (I.ok.bs b o e).2 (I.ok.E3 e) (I.ok.noex b o e),I.base.free b o (I.ok.bs b o e).1 (I.ok.bs b o e).2 (I.ok.noex b o e)⟩
theorem Inv.bk (I:Inv X pins σ H s):∀ b o,X.base.get? b = some o -> s.heap.get? b = some o:=fun b o e=>(I.bs b o e).1
theorem Inv.mod (I:Inv X pins σ H s):Mod X.K X.mg X.base:=I.ok.mod
theorem Inv.kIn (I:Inv X pins σ H s):X.K.In s.heap:=I.ok.mod.kin.keeps I.bk
theorem Inv.nolimit (I:Inv X pins σ H s):s.heap.NoLimit:=I.ok.mod.nolimit.keeps I.bk
theorem Inv.lt (I:Inv X pins σ H s):X.env.locals < s.heap.objs.size:=let ⟨_,hn,_⟩:=I.loc; hn.lt
theorem Inv.sz (I:Inv X pins σ H s):X.s₀.heap.objs.size <= s.heap.objs.size:=Nat.le_trans I.ok.above (Nat.le_of_lt I.lt)
theorem Inv.E4 (I:Inv X pins σ H s) {a:Addr} (h:s.heap.objs.size <= a):a ∉ X.fs:=fun hb=>by
 obtain ⟨_,o,ho,_⟩:=I.ok.nc.mem hb
 exact absurd (Nat.lt_of_lt_of_le (Heap.lt_size ho) (Nat.le_trans I.sz h)) (Nat.lt_irrefl _)
theorem Inv.cne (I:Inv X pins σ H s):∀ x c,X.env.cells.lookup x = some c -> c ≠ X.env.locals:=fun x c e z=>by
 obtain ⟨v,o,ho,hd⟩:=I.cell x c e
 obtain ⟨m,⟨o',es,ep,ho',hd',_⟩,_⟩:=I.loc
 rw [z,ho'] at ho; cases ho; rw [hd'] at hd; cases hd
theorem Inv.nc (I:Inv X pins σ H s):s.heap.FunFrames X.base X.outer:=by
 have all:∀ (l:List Env),(∀ b ∈ frs l,b ∈ X.fs) -> X.s₀.heap.FunFrames X.base l -> s.heap.FunFrames X.base l:=by
  intro l
  induction l with
  | nil=>intro _ _; trivial
  | cons env r ih=>
    intro hs hl
    obtain ⟨hk,⟨L,o,hf,hn,ho,hd⟩,hr⟩:=hl
    have hL:L ∈ X.fs:=hs L (by unfold frs; rw [List.filterMap_cons,hf]; exact List.mem_cons_self)
    obtain ⟨sl,e⟩:=I.base.slot L o ho (I.ok.frf L hL) hL fun z=>I.ok.exfs L z hL
    exact ⟨hk,⟨L,_,hf,hn,e,hd⟩,ih (fun b hb=>hs b (by unfold frs; rw [List.filterMap_cons,hf]; exact List.mem_cons_of_mem _ hb)) hr⟩
 exact all X.outer (fun _ hb=>hb) I.ok.nc
theorem Inv.stack (I:Inv X pins σ H s):s.heap.FunFrames X.base X.stack:=by
 rcases I.ok.stk with e | ⟨e,hf⟩
 . rw [e]; exact I.nc
 . rw [e]
   obtain ⟨m,hn,_⟩:=I.loc
   refine .cons (by rw [I.ok.kind]; decide) hf hn ?_ I.nc
   exact Heap.get?_none_of_le (Nat.le_trans I.ok.bsz I.ok.above)
theorem Inv.tT (I:Inv X pins σ H s):∀ b ∈ frs X.stack,b ∈ X.env.locals ::X.fs:=fun b hb=>by
 rcases I.ok.stk with e | ⟨e,hf⟩
 . rw [e] at hb; exact List.mem_cons_of_mem _ hb
 . rw [e] at hb
   unfold frs at hb
   rw [List.filterMap_cons,hf] at hb
   exact hb
theorem Inv.qS (I:Inv X pins σ H s):∀ b ∈ frs X.stack,H b = none:=fun b hb=>by
 rcases List.mem_cons.mp (I.tT b hb) with e | hb
 . rw [e]; exact I.free
 . obtain ⟨_,o,ho,_⟩:=I.ok.nc.mem hb
   exact I.base.free b o ho (I.ok.frf b hb) fun z=>I.ok.exfs b z hb
theorem Inv.step {g':Array GenState} {t':Nat} {d':Drawn} {ch:List Addr} (I:Inv X pins σ H s)
  (hch:∀ b ∈ ch,(b ∈ X.ex \/ X.s₀.heap.objs.size <= b) /\ b ≠ X.env.locals /\ (∀ x c,X.env.cells.lookup x = some c -> c ≠ b) /\ ∀ p ∈ X.pn ++ pins,p.1 ≠ b)
  (keep:∀ b o,b ≠ X.env.locals -> b ∉ X.fs -> b ∉ ch -> s.heap.get? b = some o -> H b = none -> h'.get? b = some o)
  (slot:∀ b o,b ≠ X.env.locals -> b ∈ X.fs -> b ∉ ch -> s.heap.get? b = some o -> H b = none -> ∃ sl,h'.get? b = some { o with slots:=sl }) (free:∀ b o,b ∉ ch -> s.heap.get? b = some o -> H b = none -> H' b = none)
  (there:∀ b o,b ∉ ch -> s.heap.get? b = some o -> ∃ o',h'.get? b = some o')
  (tups:∀ b xs,H b = some (.tup xs) -> H' b = some (.tup xs)) (frzs:∀ b o u,H b = some (.frz o u) -> H' b = some (.frz o u)) (tbls:∀ b ps,H b = some (.tbl ps) -> ∃ more,H' b = some (.tbl (ps ++ more)))
  (ns:∀ m,s.heap.Ns X.env.locals m -> h'.Ns X.env.locals m) (hok:HOk X.prog X.w H' h') (hg:AllBare g'):
  Inv X pins σ H' { s with heap:=h',gens:=g',drawn:=d',toks:=t' }:=by
 have neL:∀ b o,X.s₀.heap.get? b = some o -> b ≠ X.env.locals:=fun b o e=>Nat.ne_of_lt (Nat.lt_of_lt_of_le (Heap.lt_size e) I.ok.above)
 have neC:∀ b o,X.s₀.heap.get? b = some o -> b ∉ X.ex -> b ∉ ch:=fun b o e hx hb=>by
  rcases (hch b hb).1 with z | z
  . exact hx z
  . exact absurd (Nat.lt_of_lt_of_le (Heap.lt_size e) z) (Nat.lt_irrefl _)
 have cellK:∀ x c,X.env.cells.lookup x = some c -> ∀ v,s.heap.IsCell c v -> h'.IsCell c v:=fun x c e v ⟨o,ho,hd⟩=>by
  have nch:c ∉ ch:=fun z=>(hch c z).2.2.1 x c e rfl
  by_cases hc:c ∈ X.fs
  . obtain ⟨sl,q⟩:=slot c o (I.cne x c e) hc nch ho (I.freeC x c e)
    exact ⟨_,q,hd⟩
  . exact ⟨o,keep c o (I.cne x c e) hc nch ho (I.freeC x c e),hd⟩
 refine ⟨I.ok,I.os,hg,⟨fun b o e n hb hx=>?_,fun b o e n hb hx=>?_,fun b o e n hx=>?_,fun b o e hx=>?_,fun b xs e=>tups b xs (I.base.tups b xs e),fun b o xs e=>frzs b o xs (I.base.frzs b o xs e),fun b ps e=>?_⟩,?_,fun x c e=>?_,?_,fun x c e=>?_,fun p hp=>?_,hok,I.len⟩
 . exact keep b o (neL b o e) hb (neC b o e hx) (I.base.keep b o e n hb hx) (I.base.free b o e n hx)
 . obtain ⟨sl,e1⟩:=I.base.slot b o e n hb hx
   obtain ⟨sl',e2⟩:=slot b _ (neL b o e) hb (neC b o e hx) e1 (I.base.free b o e n hx)
   exact ⟨sl',e2⟩
 . obtain ⟨o',e1⟩:=I.base.there b o e hx
   exact free b o' (neC b o e hx) e1 (I.base.free b o e n hx)
 . obtain ⟨o',e1⟩:=I.base.there b o e hx
   exact there b o' (neC b o e hx) e1
 . obtain ⟨m1,e1⟩:=I.base.tbls b ps e
   obtain ⟨m2,e2⟩:=tbls b _ e1
   exact ⟨m1 ++ m2,by rw [e2,Array.append_assoc]⟩
 . obtain ⟨m,hn,hl⟩:=I.loc
   refine ⟨m,ns m hn,fun i x v e1 e2 e3=>?_⟩
   obtain ⟨u,r,l⟩:=hl i x v e1 e2 e3
   refine ⟨u,r,?_⟩
   rcases l with l | ⟨k,c,e,z⟩
   . exact .inl l
   . exact .inr ⟨k,c,e,cellK x c e _ z⟩
 . obtain ⟨v,z⟩:=I.cell x c e
   exact ⟨v,cellK x c e v z⟩
 . obtain ⟨m,⟨o,_,_,ho,_⟩,_⟩:=I.loc
   exact free _ o (fun z=>(hch _ z).2.1 rfl) ho I.free
 . obtain ⟨v,o,ho,hd⟩:=I.cell x c e
   exact free c o (fun z=>(hch c z).2.2.1 x c e rfl) ho (I.freeC x c e)
 . obtain ⟨e,n,ne,nf,d⟩:=I.pin p hp
   have nch:p.1 ∉ ch:=fun z=>(hch p.1 z).2.2.2 p hp rfl
   exact ⟨keep p.1 p.2 ne nf nch e n,free p.1 p.2 nch e n,ne,nf,d⟩
theorem Inv.un {t':Nat} (I:Inv X pins σ H s) (u:Un X.fs [] H H' s.heap h') (hok:HOk X.prog X.w H' h'):Inv X pins σ H' { s with heap:=h',toks:=t' }:=by
 obtain ⟨m,⟨o,es,ep,ho,r⟩,_⟩:=id I.loc
 obtain ⟨sl,hL⟩:=u.any ho I.free (by simp)
 exact I.step (g':=s.gens) (d':=s.drawn) (ch:=[]) (fun _ z=>nomatch z) (fun b o _ hb _ e n=>u.keep b o e n hb (by simp)) (fun b o _ hb _ e n=>u.slot b o e n hb (by simp)) (fun b o _ e n=>u.free b o e n (by simp)) (fun b o _ e=>u.there b o e (by simp)) u.tups u.frzs u.tbls (fun m' hm=>by
  obtain ⟨o',es',ep',ho',r'⟩:=hm
  rw [ho] at ho'; cases ho'
  exact ⟨_,es',ep',hL,r'⟩) hok I.bare
theorem Inv.call {g':Array GenState} {t':Nat} {d':Drawn} {ch:List Addr} (I:Inv X pins σ H s) (u:Un (frs X.stack) ch H H' s.heap h') (hok:HOk X.prog X.w H' h') (hg:AllBare g')
  (hch:∀ b ∈ ch,(b ∈ X.ex \/ X.s₀.heap.objs.size <= b) /\ b ≠ X.env.locals /\ (∀ x c,X.env.cells.lookup x = some c -> c ≠ b) /\ ∀ p ∈ X.pn ++ pins,p.1 ≠ b):
  Inv X pins σ H' { s with heap:=h',gens:=g',drawn:=d',toks:=t' }:=by
 obtain ⟨m,⟨o,es,ep,ho,r⟩,_⟩:=id I.loc
 obtain ⟨sl,hL⟩:=u.any ho I.free fun z=>(hch _ z).2.1 rfl
 exact I.step (ch:=ch) hch (fun b o hL hb hc e n=>u.keep b o e n (fun z=>(List.mem_cons.mp (I.tT b z)).elim hL hb) hc) (fun b o _ _ hc e n=>u.any e n hc) (fun b o hc e n=>u.free b o e n hc) (fun b o hc e=>u.there b o e hc) u.tups u.frzs u.tbls (fun m' hm=>by
  obtain ⟨o',es',ep',ho',r'⟩:=hm
  rw [ho] at ho'; cases ho'
  exact ⟨_,es',ep',hL,r'⟩) hok hg
theorem Inv.turned {t':Nat} {it:Addr} (I:Inv X pins σ H s) (k:∀ b o,b ≠ it -> s.heap.get? b = some o -> h'.get? b = some o) (hn:H it = none) (hL:it ≠ X.env.locals)
  (h1:it ∈ X.ex \/ X.s₀.heap.objs.size <= it) (h2:∀ x c,X.env.cells.lookup x = some c -> c ≠ it) (h3:∀ p ∈ X.pn ++ pins,p.1 ≠ it):Inv X pins σ H { s with heap:=h',toks:=t' }:=by
 have nit:∀ b u,H b = some u -> b ≠ it:=fun b u e z=>by rw [z,hn] at e; cases e
 refine I.step (g':=s.gens) (d':=s.drawn) (ch:=[it]) (fun b hb=>?_) (fun b o _ _ hc e _=>k b o (fun z=>hc (by simp [z])) e) (fun b o _ _ hc e _=>⟨o.slots,k b o (fun z=>hc (by simp [z])) e⟩) (fun _ _ _ _ n=>n)
  (fun b o hc e=>⟨o,k b o (fun z=>hc (by simp [z])) e⟩) (fun _ _ e=>e) (fun _ _ _ e=>e) (fun b ps e=>⟨#[],by rw [e]; simp⟩) (fun m hm=>?_) (fun b u e=>?_) I.bare
 . have e:b = it:=by simpa using hb
   subst e
   exact ⟨h1,hL,h2,h3⟩
 . obtain ⟨o,es,ep,ho,r⟩:=hm
   exact ⟨o,es,ep,k _ o (Ne.symm hL) ho,r⟩
 . refine (I.hok b u e).lj (fun c v hc q=>k c v ?_ q) (fun _ q=>q) fun _ _ q=>q
   rcases hc with z | z
   . rw [z]; exact nit b u e
   . exact nit c _ z
theorem Inv.tok (I:Inv X pins σ H s) (t:Nat):Inv X pins σ H { s with toks:=t }:=I.un (h':=s.heap) (t':=t) Un.refl I.hok
theorem Inv.kept {t':Nat} (I:Inv X pins σ H s) (k:∀ b u,s.heap.get? b = some u -> h'.get? b = some u):Inv X pins σ H { s with heap:=h',toks:=t' }:=I.un (Un.kept k) (I.hok.kept k)
theorem Inv.laid {a:Addr} {o:HO} {t':Nat} (I:Inv X pins σ H s) (k:∀ b u,s.heap.get? b = some u -> h'.get? b = some u) (hp:s.heap.objs.size <= a) (new:gm X.prog X.w (upd H a o) h' a o):
  Inv X pins σ (upd H a o) { s with heap:=h',toks:=t' }:=I.un (Un.laid k hp (I.hok.fresh hp)) (I.hok.laid k hp new)
theorem Inv.write {x e:Addr} {o:HO} {t':Nat} (I:Inv X pins σ H s) (mu:Mut (H x)) (he:e = x \/ H e = some (.own x)) (k:∀ b u,b ≠ e -> s.heap.get? b = some u -> h'.get? b = some u) (heo:∃ u,h'.get? e = some u)
  (new:gm X.prog X.w (upd H x o) h' x o):Inv X pins σ (upd H x o) { s with heap:=h',toks:=t' }:=I.un (Un.write mu he k heo) (I.hok.write mu he k heo new)
theorem Inv.uN {pins':List (Addr × Obj)} (I:Inv X pins σ H s) (h:∀ p ∈ pins',s.heap.get? p.1 = some p.2 /\ H p.1 = none /\ p.1 ≠ X.env.locals /\ p.1 ∉ X.fs /\ ∀ v,p.2.data ≠ .cell v):Inv X pins' σ H s:=
 ⟨I.ok,I.os,I.bare,I.base,I.loc,I.cell,I.free,I.freeC,fun p hp=>(List.mem_append.mp hp).elim (fun z=>I.pin p (List.mem_append_left _ z)) (h p),I.hok,I.len⟩
theorem og {N:List Str} (hN:N.Nodup) {i j:Nat} {x:Str} (a:N[i]? = some x) (b:N[j]? = some x):i = j:=by
 obtain ⟨h1,e1⟩:=List.getElem?_eq_some_iff.mp a
 obtain ⟨h2,e2⟩:=List.getElem?_eq_some_iff.mp b
 exact (List.getElem_inj hN).mp (e1.trans e2.symm)
theorem vD {M:Model} {A:Around} {E:Value -> Shared -> Prop} {i:Nat} {x:Str} {v:V} {u:Value} {Q:Unit -> Shared -> Prop} (I:Inv X pins σ H s) (hN:X.N.Nodup) (hi:X.N[i]? = some x) (hx:Loc X.env.scope x) (r:RelV v u)
  (h:∀ s',Inv X pins (σ.set i (some v)) H s' -> (∃ a,Heap.SameBut a s.heap s'.heap /\ (a = X.env.locals \/ X.env.cells.lookup x = some a)) -> Q () s') (hf:X.fn x = true \/ X.env.scope.names.lookup x = some .local:=by first | exact .inl rfl | exact .inr rfl | assumption):wpAny M A (storeName X.env x u) Q E s:=by
 obtain ⟨m,hn,hl⟩:=id I.loc
 have hcls:(X.env.scope.kind == .class || (X.env.scope.kind == .module && X.env.locals != X.env.globals)) = false:=by rw [I.ok.kind]; rfl
 have hiσ:i < σ.length:=by rw [I.len]; exact (List.getElem?_eq_some_iff.mp hi).1
 have cne:=I.cne
 have tracked:∀ {a:Addr} {h':Heap},(∃ o,s.heap.get? a = some o /\ H a = none) -> Heap.SameBut a s.heap h' -> HOk X.prog X.w H h':=fun {a h'} ha hs b ob e=>by
  obtain ⟨_,_,hfree⟩:=ha
  refine (I.hok b ob e).lj (fun c w' hc q=>(hs.2 c ?_).trans q) (fun _ q=>q) fun _ _ q=>q
  rintro rfl
  rcases hc with rfl | hc
  . rw [hfree] at e; cases e
  . rw [hfree] at hc; cases hc
 rcases hx with hk | hk
 . refine wpAny_storeName_local hk hn (fun h' hn' hs=>?_) hcls
   obtain ⟨oL,_,_,hoL,_⟩:=id hn
   refine h _ ⟨I.ok,I.os,I.bare,⟨fun b o e n hb hx=>?_,fun b o e n hb hx=>?_,I.base.free,fun b o e hx=>?_,I.base.tups,I.base.frzs,I.base.tbls⟩,⟨_,hn',fun j y v' e1 e2 e3=>?_⟩,fun y c e=>?_,I.free,I.freeC,fun p hp=>?_,tracked ⟨oL,hoL,I.free⟩ hs,by simpa using I.len⟩ ⟨_,hs,.inl rfl⟩
   . exact (hs.2 b (Nat.ne_of_lt (Nat.lt_of_lt_of_le (Heap.lt_size e) I.ok.above))).trans (I.base.keep b o e n hb hx)
   . obtain ⟨sl,e1⟩:=I.base.slot b o e n hb hx
     exact ⟨sl,(hs.2 b (Nat.ne_of_lt (Nat.lt_of_lt_of_le (Heap.lt_size e) I.ok.above))).trans e1⟩
   . obtain ⟨o',e1⟩:=I.base.there b o e hx
     exact ⟨o',(hs.2 b (Nat.ne_of_lt (Nat.lt_of_lt_of_le (Heap.lt_size e) I.ok.above))).trans e1⟩
   . by_cases hj:j = i
     . subst hj
       rw [hi] at e1; cases e1
       rw [List.getElem?_set_self hiσ] at e2
       cases e2
       exact ⟨u,r,.inl ⟨hk,by simp⟩⟩
     . rw [List.getElem?_set_ne (Ne.symm hj)] at e2
       obtain ⟨u',r',q⟩:=hl j y v' e1 e2 e3
       refine ⟨u',r',?_⟩
       rcases q with ⟨k,e⟩ | ⟨k,c,e,z⟩
       . refine .inl ⟨k,?_⟩
         have:y ≠ x:=fun e=>hj (og hN e1 (e ▸ hi))
         simp [this,e]
       . exact .inr ⟨k,c,e,z.sameBut hs (cne y c e)⟩
   . obtain ⟨w',z⟩:=I.cell y c e
     exact ⟨w',z.sameBut hs (cne y c e)⟩
   . obtain ⟨e,n,ne,nf,d⟩:=I.pin p hp
     exact ⟨(hs.2 p.1 ne).trans e,n,ne,nf,d⟩
 . have hfn:X.fn x = true:=by
    rcases hf with z | z
    . exact z
    . rw [z] at hk; cases hk
   obtain ⟨c,hc⟩:=I.ok.has x (.inl hk)
   obtain ⟨w',z⟩:=I.cell x c hc
   refine wpAny_storeName_cell I.ok.kind hk hc z (fun h' hc' hs=>?_)
   obtain ⟨oc,hoc,hocd⟩:=id z
   refine h { s with heap:=h' } ⟨I.ok,I.os,I.bare,⟨fun b o e n hb hx=>?_,fun b o e n hb hx=>?_,I.base.free,fun b o e hx=>?_,I.base.tups,I.base.frzs,I.base.tbls⟩,⟨m,hn.sameBut hs (Ne.symm (cne x c hc)),fun j y v' e1 e2 e3=>?_⟩,fun y c' e=>?_,I.free,I.freeC,fun p hp=>?_,tracked ⟨oc,hoc,I.freeC x c hc⟩ hs,by simpa using I.len⟩ ⟨c,hs,.inr hc⟩
   . exact (hs.2 b (Nat.ne_of_lt (Nat.lt_of_lt_of_le (Heap.lt_size e) (I.ok.cab x c hfn hc)))).trans (I.base.keep b o e n hb hx)
   . obtain ⟨sl,e1⟩:=I.base.slot b o e n hb hx
     exact ⟨sl,(hs.2 b (Nat.ne_of_lt (Nat.lt_of_lt_of_le (Heap.lt_size e) (I.ok.cab x c hfn hc)))).trans e1⟩
   . obtain ⟨o',e1⟩:=I.base.there b o e hx
     exact ⟨o',(hs.2 b (Nat.ne_of_lt (Nat.lt_of_lt_of_le (Heap.lt_size e) (I.ok.cab x c hfn hc)))).trans e1⟩
   . by_cases hj:j = i
     . subst hj
       rw [hi] at e1; cases e1
       rw [List.getElem?_set_self hiσ] at e2
       cases e2
       exact ⟨u,r,.inr ⟨.inl hk,c,hc,hc'⟩⟩
     . rw [List.getElem?_set_ne (Ne.symm hj)] at e2
       obtain ⟨u',r',q⟩:=hl j y v' e1 e2 e3
       refine ⟨u',r',?_⟩
       rcases q with q | ⟨k,c',e,z'⟩
       . exact .inl q
       . refine .inr ⟨k,c',e,z'.sameBut hs ?_⟩
         rintro rfl
         exact hj (og hN e1 (I.ok.inj _ _ _ e hc ▸ hi))
   . by_cases hcc:c' = c
     . subst hcc; exact ⟨_,hc'⟩
     . obtain ⟨w2,z2⟩:=I.cell y c' e
       exact ⟨w2,z2.sameBut hs hcc⟩
   . obtain ⟨e,n,ne,nf,d⟩:=I.pin p hp
     refine ⟨(hs.2 p.1 ?_).trans e,n,ne,nf,d⟩
     intro q
     rw [q,hoc] at e
     have q':oc = p.2:=Option.some.inj e
     exact d w' (by rw [<- q']; exact hocd)
theorem gL {M:Model} {A:Around} {E:Value -> Shared -> Prop} {i:Nat} {x:Str} {v:V} {u:Value} {Q:Unit -> Shared -> Prop} (I:Inv X pins σ H s) (hN:X.N.Nodup) (hi:X.N[i]? = some x) (hx:Loc X.env.scope x) (r:RelV v u)
  (h:∀ s',Inv X pins (σ.set i (some v)) H s' -> Q () s') (hf:X.fn x = true \/ X.env.scope.names.lookup x = some .local:=by first | exact .inl rfl | exact .inr rfl | assumption):wpAny M A (storeName X.env x u) Q E s:=
 vD I hN hi hx r (fun s' I' _=>h s' I') hf
theorem Inv.AG {s':Shared} {ch:List Addr} (I:Inv X pins σ H s) (ho:s'.os = s.os) (u:Un (frs X.stack) ch H H' s.heap s'.heap) (hok:HOk X.prog X.w H' s'.heap) (hg:AllBare s'.gens)
  (hch:∀ b ∈ ch,(b ∈ X.ex \/ X.s₀.heap.objs.size <= b) /\ b ≠ X.env.locals /\ (∀ x c,X.env.cells.lookup x = some c -> c ≠ b) /\ ∀ p ∈ X.pn ++ pins,p.1 ≠ b):Inv X pins σ H' s':=by
 obtain ⟨h',g',d',t',o'⟩:=s'
 have e:o' = s.os:=ho
 subst e
 exact I.call (g':=g') (t':=t') (d':=d') u hok hg hch
end
abbrev XK:=Value -> Option Addr -> Hp -> Prop
abbrev St:=List (Option V)
abbrev VK:=V -> Hp -> Prop
abbrev TE:=St -> Hp -> VK -> Prop
abbrev TT:=St -> Hp -> (Bool -> Hp -> Prop) -> Prop
abbrev TA:=St -> Hp -> (List V -> Hp -> Prop) -> Prop
structure Ends where
 nx:St -> Hp -> Prop
 rt:VK
 bk:St -> Hp -> Prop:=fun _ _=>False
 ct:St -> Hp -> Prop:=fun _ _=>False
abbrev TS:=Ends -> St -> Hp -> Prop
def EP (X:Cx) (pins:List (Addr × Obj)) (σ:St) (Q:VK) (u:Value) (s':Shared):Prop:=∃ v H',Inv X pins σ H' s' /\ RelV v u /\ Q v H'
def TP (X:Cx) (pins:List (Addr × Obj)) (σ:St) (Q:Bool -> Hp -> Prop) (b:Bool) (s':Shared):Prop:=∃ H',Inv X pins σ H' s' /\ Q b H'
def AP (X:Cx) (pins:List (Addr × Obj)) (σ:St) (Q:List V -> Hp -> Prop) (us:List Value) (s':Shared):Prop:=∃ vs H',Inv X pins σ H' s' /\ Vals vs us /\ Q vs H'
def SP (X:Cx) (pins:List (Addr × Obj)) (D:Ends) (f:Flow) (s':Shared):Prop:=
 match f with
 | .next=>∃ σ' H',Inv X pins σ' H' s' /\ D.nx σ' H'
 | .brk=>∃ σ' H',Inv X pins σ' H' s' /\ D.bk σ' H'
 | .cont=>∃ σ' H',Inv X pins σ' H' s' /\ D.ct σ' H'
 | .ret u=>∃ v σ' H',Inv X pins σ' H' s' /\ RelV v u /\ D.rt v H'
def PE (X:Cx) (e:Expr) (t:TE):Prop:=
 ∀ (pins:List (Addr × Obj)) (s:Shared) (σ:St) (H:Hp) (Q:VK),Inv X pins σ H s -> t σ H Q -> wpAny (model X.prog X.w) X.A (eval e X.env) (EP X pins σ Q) X.xe s
def PT (X:Cx) (e:Expr) (t:TT):Prop:=
 ∀ (pins:List (Addr × Obj)) (s:Shared) (σ:St) (H:Hp) (Q:Bool -> Hp -> Prop),Inv X pins σ H s -> t σ H Q -> wpAny (model X.prog X.w) X.A (isTrue e X.env (eval e X.env)) (TP X pins σ Q) X.xe s
def PW (X:Cx) (e:Expr) (t:TT):Prop:=
 ∀ (whole:Sem Value) (pins:List (Addr × Obj)) (s:Shared) (σ:St) (H:Hp) (Q:Bool -> Hp -> Prop),Inv X pins σ H s -> t σ H Q -> wpAny (model X.prog X.w) X.A (isTrue e X.env whole) (TP X pins σ Q) X.xe s
theorem PW.pt {X:Cx} {e:Expr} {t:TT} (h:PW X e t):PT X e t:=h _
def PA (X:Cx) (es:List Expr) (t:TA):Prop:=
 ∀ (pos:Pos) (pins:List (Addr × Obj)) (s:Shared) (σ:St) (H:Hp) (Q:List V -> Hp -> Prop),Inv X pins σ H s -> t σ H Q -> wpAny (model X.prog X.w) X.A (spliced (backTo pos (starEach es X.env))) (AP X pins σ Q) X.xe s
def PS (X:Cx) (st:Stmt) (t:TS):Prop:=
 ∀ (pins:List (Addr × Obj)) (s:Shared) (σ:St) (H:Hp) (D:Ends),Inv X pins σ H s -> t D σ H -> wpAny (model X.prog X.w) X.A (exec st X.env) (SP X pins D) X.xe s
def PSs (X:Cx) (st:List Stmt) (t:TS):Prop:=
 ∀ (pins:List (Addr × Obj)) (s:Shared) (σ:St) (H:Hp) (D:Ends),Inv X pins σ H s -> t D σ H -> wpAny (model X.prog X.w) X.A (execs st X.env) (SP X pins D) X.xe s
theorem thn {α:Type} {t:Sem α} {Q Q':α -> Shared -> Prop} {M:Model} {A:Around} {E:Value -> Shared -> Prop} {s:Shared} (h:wpAny M A t Q E s) (hQ:∀ a s,Q a s -> Q' a s):wpAny M A t Q' E s:=wpAny_mono h hQ fun _ _ x=>x
end L2
namespace L2
open PySem PySem.Spec PyProof.Rows
section
variable {X:Cx}
theorem bin {a b:Expr} {ta tb:TE} (ha:PE X a ta) (hb:PE X b tb) {pins:List (Addr × Obj)} {s:Shared} {σ:St} {H:Hp} {R:V -> V -> Hp -> Prop} (I:Inv X pins σ H s) (h:ta σ H fun x H1=>tb σ H1 fun y H2=>R x y H2)
  {α:Type} {Q:α -> Shared -> Prop} {f:Value -> Value -> Sem α}
  (hf:∀ v u s2 x y H2,Inv X pins σ H2 s2 -> RelV x v -> RelV y u -> R x y H2 -> wpAny (model X.prog X.w) X.A (f v u) Q X.xe s2):
  wpAny (model X.prog X.w) X.A (eval a X.env) (fun v s₁=>wpAny (model X.prog X.w) X.A (eval b X.env) (fun u s₂=>wpAny (model X.prog X.w) X.A (f v u) Q X.xe s₂) X.xe s₁) X.xe s:=by
 refine thn (ha pins s σ H _ I h) fun v s1 ⟨x,H1,I1,r1,q1⟩=>?_
 refine thn (hb pins s1 σ H1 _ I1 q1) fun u s2 ⟨y,H2,I2,r2,q2⟩=>?_
 exact hf v u s2 x y H2 I2 r1 r2 q2
def oN (i:Nat):TE:=fun σ H Q=>∃ v,σ[i]? = some (some v) /\ Q v H
def tC (v:V):TE:=fun _ H Q=>Q v H
theorem De {i:Nat} {x:Str} {pos:Pos} (hN:X.N[i]? = some x) (hv:Vis X.env.scope x) (hd:(x == ("__debug__":Str)) = false:=by decide) (hcd:(x == ("__classdict__":Str)) = false:=by decide):PE X (.Name x pos) (oN i):=by
 intro pins s σ H Q I h
 obtain ⟨v,e,h⟩:=h
 obtain ⟨m,hn,hl⟩:=I.loc
 obtain ⟨u,r,l⟩:=hl i x v hN e hv
 have fin:EP X pins σ Q u s:=⟨v,H,I,r,h⟩
 rcases l with ⟨hk,hm⟩ | ⟨hk,c,hc,hcell⟩
 . exact wpAny_Name (wpAny_loadName_local I.ok.kind hk hn hm fin) hd
 . rcases hk with hk | hk
   . exact wpAny_Name (wpAny_loadName_cell I.ok.kind hk hc hcell fin) hd
   . exact wpAny_Name (wpAny_loadName_free I.ok.kind hk hc hcell fin hcd) hd
theorem Bp {i j pos}:PE X (.Constant (.int i) j pos) (tC (.int i)):=fun _ _ _ H _ I h=>wpAny_Constant_int ⟨.int i,H,I.tok _,⟨_,rfl⟩,h⟩
theorem Ep {b j pos}:PE X (.Constant (.bool b) j pos) (tC (.bl b)):=fun _ _ _ H _ I h=>Constant_bool ⟨.bl b,H,I,rfl,h⟩
theorem BY {j pos}:PE X (.Constant .none j pos) (tC .non):=fun _ _ _ H _ I h=>Constant_none ⟨.non,H,I,rfl,h⟩
theorem Dh {x j pos}:PE X (.Constant (.str x) j pos) (tC (.str x)):=fun _ _ _ H _ I h=>Calls.Constant_str ⟨.str x,H,I.tok _,⟨_,rfl⟩,h⟩
def Gl (X:Cx) (x:Str):Prop:=X.env.kindOf x = some .globalImplicit
theorem kA {E:Value -> Shared -> Prop} {pins:List (Addr × Obj)} {s:Shared} {σ:St} {H:Hp} {x:Str} {u:Value} {pos:Pos} {Q:Value -> Shared -> Prop} (I:Inv X pins σ H s) (hg:Gl X x) (hm:X.mg x = some u) (h:Q u s)
  (hd:(x == ("__debug__":Str)) = false:=by decide):wpAny (model X.prog X.w) X.A (eval (.Name x pos) X.env) Q E s:=
 Calls.Name_function_global I.ok.kind hg (Calls.loadGlobal_global (by rw [I.ok.glob]; exact I.mod.glob.keeps I.bk) hm h) hd
theorem lY {E:Value -> Shared -> Prop} {pins:List (Addr × Obj)} {s:Shared} {σ:St} {H:Hp} {x:Str} {u:Value} {pos:Pos} {Q:Value -> Shared -> Prop} (I:Inv X pins σ H s) (hg:Gl X x) (hm:X.mg x = none) (hv:bootBuiltins x = some u) (h:Q u s)
  (hn:x ≠ "__name__":=by decide) (hd:(x == ("__debug__":Str)) = false:=by decide):wpAny (model X.prog X.w) X.A (eval (.Name x pos) X.env) Q E s:=by
 obtain ⟨mb,h1,h2⟩:=I.mod.blt
 exact Calls.Name_function_global I.ok.kind hg (Calls.loadGlobal_builtin (by rw [I.ok.glob]; exact I.mod.glob.keeps I.bk) hm (by rw [I.ok.blt]; exact h1.keeps I.bk) ((h2 x hn).trans hv) h) hd
theorem zE {x:Str} {v:V} {u:Value} {pos:Pos} (hg:Gl X x) (hm:X.mg x = some u) (r:RelV v u) (hd:(x == ("__debug__":Str)) = false:=by decide):PE X (.Name x pos) (tC v):=
 fun _ _ _ H _ I h=>kA I hg hm ⟨v,H,I,r,h⟩ hd
theorem y2 {x:Str} {v:V} {u:Value} {pos:Pos} (hg:Gl X x) (hm:X.mg x = none) (hv:bootBuiltins x = some u) (r:RelV v u) (hn:x ≠ "__name__":=by decide) (hd:(x == ("__debug__":Str)) = false:=by decide):PE X (.Name x pos) (tC v):=
 fun _ _ _ H _ I h=>lY I hg hm hv ⟨v,H,I,r,h⟩ hn hd
variable {a b:Expr} {ta tb:TE} {pos:Pos}
def PC (X:Cx) (op:CmpOp) (a b:Expr) (t:TE):Prop:=
 ∀ (pins:List (Addr × Obj)) (s:Shared) (σ:St) (H:Hp) (Q:VK),Inv X pins σ H s -> t σ H Q ->
   wpAny (model X.prog X.w) X.A (eval a X.env) (fun v s₁=>wpAny (model X.prog X.w) X.A (eval b X.env) (fun u s₂=>wpAny (model X.prog X.w) X.A (compareOp op v u) (EP X pins σ Q) X.xe s₂) X.xe s₁) X.xe s
variable {tA tB':TT} {rest:List Expr}
def Bm (t u:TT):TT:=fun σ H Q=>t σ H fun c H1=>if c = true then u σ H1 Q else Q false H1
def tOr (t u:TT):TT:=fun σ H Q=>t σ H fun c H1=>if c = true then Q true H1 else u σ H1 Q
def Al (t:TT):TT:=fun σ H Q=>t σ H fun c H1=>Q (!c) H1
theorem zH (ha:PT X a tA):PW X (.BoolOp .And [a] pos) tA:=by
 intro wh pins s σ H Q I h
 refine isTrue_and (thn (ha pins s σ H Q I h) fun c s1 e=>?_)
 cases c with
 | true=>exact isTrue_and_nil e
 | false=>exact e
theorem CJ (ha:PT X a tA):PW X (.BoolOp .Or [a] pos) tA:=by
 intro wh pins s σ H Q I h
 refine isTrue_or (thn (ha pins s σ H Q I h) fun c s1 e=>?_)
 cases c with
 | false=>exact isTrue_or_nil e
 | true=>exact e
theorem BH (ha:PT X a tA) (hb:PW X (.BoolOp .And (b ::rest) pos) tB'):PW X (.BoolOp .And (a ::b ::rest) pos) (Bm tA tB'):=by
 intro wh pins s σ H Q I h
 refine isTrue_and (thn (ha pins s σ H _ I h) fun c s1 ⟨H1,I1,q1⟩=>?_)
 cases c with
 | true=>exact hb wh pins s1 σ H1 Q I1 q1
 | false=>exact ⟨H1,I1,q1⟩
theorem DX (ha:PT X a tA) (hb:PW X (.BoolOp .Or (b ::rest) pos) tB'):PW X (.BoolOp .Or (a ::b ::rest) pos) (tOr tA tB'):=by
 intro wh pins s σ H Q I h
 refine isTrue_or (thn (ha pins s σ H _ I h) fun c s1 ⟨H1,I1,q1⟩=>?_)
 cases c with
 | true=>exact ⟨H1,I1,q1⟩
 | false=>exact hb wh pins s1 σ H1 Q I1 q1
theorem B4 (ha:PT X a tA):PT X (.UnaryOp .Not a pos) (Al tA):=by
 intro pins s σ H Q I h
 exact isTrue_not (ha pins s σ H (fun c H1=>Q (!c) H1) I h)
def x5 (ta tb:TE):TE:=fun σ H Q=>ta σ H fun x H1=>∃ c,x = .bl c /\ if c = true then tb σ H1 Q else Q (.bl false) H1
def BX (ta tb:TE):TE:=fun σ H Q=>ta σ H fun x H1=>∃ c,x = .bl c /\ if c = true then Q (.bl true) H1 else tb σ H1 Q
def vV (ta:TE):TE:=fun σ H Q=>ta σ H fun x H1=>∃ c,x = .bl c /\ Q (.bl (!c)) H1
theorem B5 {op} {t:TE} (h:PE X a t):PE X (.BoolOp op [a] pos) t:=fun pins s σ H Q I hw=>BoolOp_one (h pins s σ H Q I hw)
theorem C6 (ha:PE X a ta) (hb:PE X (.BoolOp .And (b ::rest) pos) tb):PE X (.BoolOp .And (a ::b ::rest) pos) (x5 ta tb):=by
 intro pins s σ H Q I h
 refine BoolOp_and (thn (ha pins s σ H _ I h) fun v s1 ⟨x,H1,I1,r1,q1⟩=>?_)
 obtain ⟨c,rfl,q1⟩:=q1
 cases r1
 refine wpAny_truthy_bool ?_
 cases c with
 | true=>exact hb pins s1 σ H1 Q I1 q1
 | false=>exact ⟨.bl false,H1,I1,rfl,q1⟩
theorem DU (ha:PE X a ta) (hb:PE X (.BoolOp .Or (b ::rest) pos) tb):PE X (.BoolOp .Or (a ::b ::rest) pos) (BX ta tb):=by
 intro pins s σ H Q I h
 refine BoolOp_or (thn (ha pins s σ H _ I h) fun v s1 ⟨x,H1,I1,r1,q1⟩=>?_)
 obtain ⟨c,rfl,q1⟩:=q1
 cases r1
 refine wpAny_truthy_bool ?_
 cases c with
 | false=>exact hb pins s1 σ H1 Q I1 q1
 | true=>exact ⟨.bl true,H1,I1,rfl,q1⟩
theorem Cg (ha:PE X a ta):PE X (.UnaryOp .Not a pos) (vV ta):=by
 intro pins s σ H Q I h
 refine UnaryOp_ (thn (ha pins s σ H _ I h) fun v s1 ⟨x,H1,I1,r1,q1⟩=>?_)
 obtain ⟨c,rfl,q1⟩:=q1
 cases r1
 exact not_of (wpAny_truthy_bool ⟨.bl (!c),H1,I1,rfl,q1⟩)
def tIf (t:TT) (ta tb:TE):TE:=fun σ H Q=>t σ H fun c H1=>if c = true then ta σ H1 Q else tb σ H1 Q
theorem yp {c:Expr} (hc:PT X c tA) (ha:PE X a ta) (hb:PE X b tb):PE X (.IfExp c a b pos) (tIf tA ta tb):=by
 intro pins s σ H Q I h
 refine wpAny_IfExp (thn (hc pins s σ H _ I h) fun d s1 ⟨H1,I1,q1⟩=>?_)
 cases d with
 | true=>exact ha pins s1 σ H1 Q I1 q1
 | false=>exact hb pins s1 σ H1 Q I1 q1
end
end L2
namespace L2
open PySem PySem.Spec PyProof.Rows
def SqL (K:PySem.W.Frag) (H:Hp) (a:Addr) (xs:List V):Prop:=
 Rd H a (.lst xs) \/
  ∃ (o:Obj) (its:Array Value) (n:Nat),K.lookup a = some o /\ o.cls = .type "list" /\ o.dict = none /\ o.data = .seq its n /\ its.size <= sizeLine /\ Vals xs its.toList
def SqT (K:PySem.W.Frag) (H:Hp) (a:Addr) (xs:List V):Prop:=
 Rd H a (.tup xs) \/
  ∃ (o:Obj) (its:Array Value) (n:Nat),K.lookup a = some o /\ o.cls = .type "tuple" /\ o.data = .seq its n /\ its.size <= sizeLine /\ Vals xs its.toList
def E5:Value -> Option V
 | .none=>some .non
 | .bool b=>some (.bl b)
 | .int i _=>some (.int i)
 | .str x _=>some (.str x)
 | .bytes b _=>some (.byt b)
 | .float b _=>some (.flt b)
 | .ref a=>some (.ref a)
 | .type n=>some (.ty n)
 | _=>none
theorem RelV.abs {x:V} {u:Value} (r:RelV x u):E5 u = some x:=by
 cases x with
 | non=>cases r; rfl
 | bl _=>cases r; rfl
 | int _=>obtain ⟨t,rfl⟩:=r; rfl
 | str _=>obtain ⟨t,rfl⟩:=r; rfl
 | byt _=>obtain ⟨t,rfl⟩:=r; rfl
 | flt _=>obtain ⟨t,rfl⟩:=r; rfl
 | ref _=>cases r; rfl
 | ty _=>cases r; rfl
theorem RelV.inj {x y:V} {u:Value} (r:RelV x u) (q:RelV y u):x = y:=Option.some.inj (r.abs.symm.trans q.abs)
theorem Vals.inj:∀ {xs ys:List V} {us:List Value},Vals xs us -> Vals ys us -> xs = ys
 | _,_,_,.nil,.nil=>rfl
 | _,_,_,.cons r t,.cons r' t'=>by rw [r.inj r',Vals.inj t t']
section
variable {X:Cx} {pins:List (Addr × Obj)} {σ:St} {H:Hp} {s:Shared} {a:Addr} {xs ys:List V}
theorem Inv.list (I:Inv X pins σ H s) (h:SqL X.K H a xs):∃ its:List Value,Vals xs its /\ PlainL s.heap a its.toArray /\ xs.length <= sizeLine:=by
 rcases h with h | ⟨o,its,n,hk,hc,hd,hs,hz,r⟩
 . obtain ⟨z,its,n,r,e⟩:=h.ok I.hok
   exact ⟨its,r,⟨_,n,e,rfl,rfl,rfl⟩,z⟩
 . refine ⟨its.toList,r,⟨o,n,I.kIn a o hk,hc,hd,by simpa using hs⟩,?_⟩
   have e:=r.length
   simp only [Array.length_toList] at e
   omega
theorem Inv.tuple (I:Inv X pins σ H s) (h:SqT X.K H a xs):∃ its:List Value,Vals xs its /\ IsTup s.heap a its.toArray /\ xs.length <= sizeLine:=by
 rcases h with h | ⟨o,its,n,hk,hc,hs,hz,r⟩
 . obtain ⟨z,its,r,p⟩:=h.ok I.hok
   exact ⟨its,r,p,z⟩
 . refine ⟨its.toList,r,⟨o,I.kIn a o hk,hc,n,by simpa using hs⟩,?_⟩
   have e:=r.length
   simp only [Array.length_toList] at e
   omega
theorem Inv.rA (I:Inv X pins σ H s) (h:SqL X.K H a xs) (h':SqL X.K H a ys):xs = ys:=by
 obtain ⟨its,r,⟨o,n,e,_,_,d⟩,_⟩:=I.list h
 obtain ⟨its',r',⟨o',n',e',_,_,d'⟩,_⟩:=I.list h'
 rw [e] at e'; cases e'
 rw [d] at d'
 injection d' with d1 _
 have:its = its':=by simpa using congrArg Array.toList d1
 subst this
 exact r.inj r'
theorem Inv.vk (I:Inv X pins σ H s) (h:SqT X.K H a xs) (h':SqT X.K H a ys):xs = ys:=by
 obtain ⟨its,r,⟨o,e,_,n,d⟩,_⟩:=I.tuple h
 obtain ⟨its',r',⟨o',e',_,n',d'⟩,_⟩:=I.tuple h'
 rw [e] at e'; cases e'
 rw [d] at d'
 injection d' with d1 _
 have:its = its':=by simpa using congrArg Array.toList d1
 subst this
 exact r.inj r'
end
section
variable {X:Cx} {st:Stmt} {rest:List Stmt} {t u:TS} {e:Expr} {te:TE} {pos:Pos}
def yg:TS:=fun D σ H=>D.nx σ H
def CT (t u:TS):TS:=fun D σ H=>t { D with nx:=u D } σ H
theorem yB:PSs X [] yg:=fun _ _ σ H _ I h=>wpAny_execs_nil ⟨σ,H,I,h⟩
theorem xT (h1:PS X st t) (h2:PSs X rest u):PSs X (st ::rest) (CT t u):=by
 intro pins s σ H D I h
 refine wpAny_execs_cons (thn (h1 pins s σ H { D with nx:=u D } I h) fun f s1 q=>?_)
 cases f with
 | next=>
   obtain ⟨σ',H',I',q⟩:=q
   exact h2 pins s1 σ' H' D I' q
 | ret v=>exact q
 | brk=>exact q
 | cont=>exact q
theorem u1 (h1:PS X st t):PSs X [st] t:=by
 intro pins s σ H D I h
 refine wpAny_execs_cons (thn (h1 pins s σ H D I h) fun f s1 q=>?_)
 cases f with
 | next=>exact wpAny_execs_nil q
 | ret v=>exact q
 | brk=>exact q
 | cont=>exact q
theorem Inv.quiet {pins:List (Addr × Obj)} {σ:St} {H:Hp} {s:Shared} (I:Inv X pins σ H s):interactive X.env = false:=by simp [interactive,I.ok.kind]
def pL (te:TE):TS:=fun D σ H=>te σ H fun _ H1=>D.nx σ H1
theorem zO (he:PE X e te) (hs:swapsWith e none pos.line X.env = pure false:=by rfl):PS X (.Expr e pos) (pL te):=by
 intro pins s σ H D I h
 exact wpAny_Expr_any (thn (he pins s σ H _ I h) fun v s1 ⟨x,H1,I1,r1,q1⟩=>⟨σ,H1,I1,q1⟩) I.quiet hs
def yK (te:TE):TS:=fun D σ H=>te σ H D.rt
theorem CZ (he:PE X e te):PS X (.Return (some e) pos) (yK te):=by
 intro pins s σ H D I h
 exact wpAny_Return_some (thn (he pins s σ H _ I h) fun v s1 ⟨x,H1,I1,r1,q1⟩=>⟨x,σ,H1,I1,r1,q1⟩)
def Am (c:TT) (t u:TS):TS:=fun D σ H=>c σ H fun b H1=>if b = true then t D σ H1 else u D σ H1
theorem DI {c:Expr} {a b:List Stmt} {tc:TT} (hc:PT X c tc) (ha:PSs X a t) (hb:PSs X b u):PS X (.If c a b pos) (Am tc t u):=by
 intro pins s σ H D I h
 refine wpAny_If (thn (hc pins s σ H _ I h) fun d s1 ⟨H1,I1,q1⟩=>?_)
 cases d with
 | true=>exact ha pins s1 σ H1 D I1 q1
 | false=>exact hb pins s1 σ H1 D I1 q1
end
abbrev TG:=V -> St -> Hp -> (St -> Hp -> Prop) -> Prop
abbrev TGs:=List V -> St -> Hp -> (St -> Hp -> Prop) -> Prop
def PG (X:Cx) (target:Expr) (t:TG):Prop:=
 ∀ (pins:List (Addr × Obj)) (s:Shared) (σ:St) (H:Hp) (v:V) (u:Value) (Q:St -> Hp -> Prop),Inv X pins σ H s -> RelV v u -> t v σ H Q ->
   wpAny (model X.prog X.w) X.A (assign target X.env u) (fun _ s'=>∃ σ' H',Inv X pins σ' H' s' /\ Q σ' H') X.xe s
def PGs (X:Cx) (ts:List Expr) (t:TGs):Prop:=
 ∀ (pins:List (Addr × Obj)) (s:Shared) (σ:St) (H:Hp) (vs:List V) (us:List Value) (Q:St -> Hp -> Prop),Inv X pins σ H s -> Vals vs us -> t vs σ H Q ->
   wpAny (model X.prog X.w) X.A (assignInOrder ((assignEach ts X.env).map (·.2)) us) (fun _ s'=>∃ σ' H',Inv X pins σ' H' s' /\ Q σ' H') X.xe s
abbrev y0:=V -> V -> V -> Hp -> (Hp -> Prop) -> Prop
def Dc (X:Cx) (t:y0):Prop:=
 ∀ (pins:List (Addr × Obj)) (s:Shared) (σ:St) (H:Hp) (o i v:V) (ov iv u:Value) (Q:Hp -> Prop),Inv X pins σ H s -> RelV o ov -> RelV i iv -> RelV v u -> t o i v H Q ->
   wpAny (model X.prog X.w) X.A (setItem ov iv u) (fun _ s'=>∃ H',Inv X pins σ H' s' /\ Q H') X.xe s
abbrev TIp:=V -> V -> Hp -> VK -> Prop
def PIp (X:Cx) (op:Operator) (t:TIp):Prop:=
 ∀ (pins:List (Addr × Obj)) (s:Shared) (σ:St) (H:Hp) (x y:V) (v u:Value) (Q:VK),Inv X pins σ H s -> RelV x v -> RelV y u -> t x y H Q ->
   wpAny (model X.prog X.w) X.A (inplaceOp op v u) (EP X pins σ Q) X.xe s
section
variable {X:Cx} {pos:Pos}
def iE (i:Nat):TG:=fun v σ H Q=>Q (σ.set i (some v)) H
theorem Ag {i:Nat} {x:Str} (hN:X.N.Nodup) (hi:X.N[i]? = some x) (hx:Loc X.env.scope x) (hf:X.fn x = true \/ X.env.scope.names.lookup x = some .local:=by first | exact .inl rfl | exact .inr rfl | assumption):PG X (.Name x pos) (iE i):=by
 intro pins s σ H v u Q I r h
 exact wpAny_assign_Name (gL I hN hi hx r (fun s' I'=>⟨_,H,I',h⟩) hf)
def Cq:TGs:=fun vs σ H Q=>vs = [] /\ Q σ H
def uT (t:TG) (u:TGs):TGs:=fun vs σ H Q=>∃ v r,vs = v ::r /\ t v σ H fun σ' H'=>u r σ' H' Q
theorem zl:PGs X [] Cq:=by
 intro pins s σ H vs us Q I r h
 obtain ⟨e,h⟩:=h
 subst e
 cases r
 exact assignInOrder_nil ⟨σ,H,I,h⟩
theorem yt {e:Expr} {es:List Expr} {t:TG} {u:TGs} (h1:PG X e t) (h2:PGs X es u)
  (hs:(assignEach (e ::es) X.env).map (·.2) = assign e X.env ::(assignEach es X.env).map (·.2):=by rfl):PGs X (e ::es) (uT t u):=by
 intro pins s σ H vs us Q I r h
 obtain ⟨v,vr,e1,h⟩:=h
 subst e1
 cases r with
 | cons r rr=>
   rw [hs]
   refine assignInOrder_cons (thn (h1 pins s σ H _ _ _ I r h) fun _ s1 ⟨σ1,H1,I1,q1⟩=>?_)
   exact h2 pins s1 σ1 H1 _ _ Q I1 rr q1
def C9 (K:PySem.W.Frag) (n:Nat) (t:TGs):TG:=fun v σ H Q=>∃ a xs,v = .ref a /\ SqT K H a xs /\ xs.length = n /\ t xs σ H Q
theorem Bj {es:List Expr} {k:Nat} {t:TGs} {n:Nat} (hc:X.calm = true) (h:PGs X es t)
  (hn:(assignEach es X.env).length = n:=by rfl) (hst:(assignEach es X.env).findIdx? (·.1) = none:=by rfl):PG X (.Tuple es k pos) (C9 X.K n t):=by
 intro pins s σ H v u Q I r hw
 obtain ⟨a,xs,e1,hq,hl,hw⟩:=hw
 subst e1
 cases r
 obtain ⟨its,rv,ht,hz⟩:=I.tuple hq
 refine assign_Tuple_tuple (I.ok.hd hc) ht (by simp [hn,<- hl,rv.length]) hst fun h' hx=>?_
 have I1:Inv X pins σ H { s with heap:=h' }:=I.kept (t':=s.toks) fun b o e=>hx b o (Nat.ne_of_lt (Heap.lt_size e)) e
 exact h pins _ σ H xs _ Q I1 (by simpa using rv) hw
def CK (to ti:TE) (t:y0):TG:=fun v σ H Q=>to σ H fun o H1=>ti σ H1 fun i H2=>t o i v H2 fun H3=>Q σ H3
theorem BL {o i:Expr} {to ti:TE} {t:y0} (ho:PE X o to) (hi:PE X i ti) (hs:Dc X t)
  (ha:∀ v,assign (.Subscript o i pos) X.env v = (do
    let ov <- holding [v] (eval o X.env)
    let iv <- holding [v,ov] (eval i X.env)
    standAt pos
    holding [v,ov,iv] (setItem ov iv v)
    release [v,ov,iv] []):=by intro _; rfl):PG X (.Subscript o i pos) (CK to ti t):=by
 intro pins s σ H v u Q I r h
 rw [ha]
 refine wpAny_bind (wpAny_holding (thn (ho pins s σ H _ I h) fun ov s1 ⟨x,H1,I1,r1,q1⟩=>?_))
 refine wpAny_bind (wpAny_holding (thn (hi pins s1 σ H1 _ I1 q1) fun iv s2 ⟨y,H2,I2,r2,q2⟩=>?_))
 refine wpAny_bind (wpAny_standAt (wpAny_bind (wpAny_holding (thn (hs pins s2 σ H2 x y v ov iv u _ I2 r1 r2 r q2) fun _ s3 ⟨H3,I3,q3⟩=>?_))))
 exact wpAny_release ⟨σ,H3,I3,q3⟩
def oW (te:TE) (g:TG):TS:=fun D σ H=>te σ H fun x H1=>g x σ H1 D.nx
theorem Bc {tg e:Expr} {te:TE} {g:TG} (he:PE X e te) (hg:PG X tg g) (hs:swapsWithSole [tg] e pos.line X.env = pure false:=by rfl) (hw:swappedStores [tg] e X.env = pure none:=by rfl)
  (h1:(assignEach [tg] X.env).map (·.2) = [assign tg X.env]:=by rfl):PS X (.Assign [tg] e pos) (oW te g):=by
 intro pins s σ H D I h
 refine wpAny_Assign_stores (thn (he pins s σ H _ I h) fun v s1 ⟨x,H1,I1,r1,q1⟩=>?_) hs hw
 rw [h1]
 exact thn (hg pins s1 σ H1 x v _ I1 r1 q1) fun _ s2 q=>q
theorem CQ {i:Nat} {x:Str} {e:Expr} {te:TE} {pos':Pos} (hN:X.N.Nodup) (hi:X.N[i]? = some x) (hx:Loc X.env.scope x) (he:PE X e te) (hs:swapsWith e (some (.Name x pos')) pos.line X.env = pure false:=by rfl) (hf:X.fn x = true \/ X.env.scope.names.lookup x = some .local:=by first | exact .inl rfl | exact .inr rfl | assumption):
  PS X (.Assign [.Name x pos'] e pos) (oW te (iE i)):=by
 intro pins s σ H D I h
 refine wpAny_Assign_Name (thn (he pins s σ H _ I h) fun v s1 ⟨y,H1,I1,r1,q1⟩=>?_) hs
 exact gL I1 hN hi hx r1 (fun s2 I2=>⟨_,H1,I2,q1⟩) hf
def yS (i:Nat) (te:TE) (ti:TIp):TS:=fun D σ H=>∃ x,σ[i]? = some (some x) /\ te σ H fun y H1=>ti x y H1 fun z H2=>D.nx (σ.set i (some z)) H2
theorem Bt {i:Nat} {x:Str} {e:Expr} {te:TE} {op:Operator} {ti:TIp} {pos':Pos} (hN:X.N.Nodup) (hi:X.N[i]? = some x) (hx:Loc X.env.scope x) (he:PE X e te) (ho:PIp X op ti) (hf:X.fn x = true \/ X.env.scope.names.lookup x = some .local:=by first | exact .inl rfl | exact .inr rfl | assumption):
  PS X (.AugAssign (.Name x pos') op e pos) (yS i te ti):=by
 intro pins s σ H D I h
 obtain ⟨v,e1,h⟩:=h
 obtain ⟨m,hn,hl⟩:=I.loc
 have vis:Vis X.env.scope x:=by rcases hx with k | k; exact .inl k; exact .inr (.inl k)
 obtain ⟨u,r,l⟩:=hl i x v hi e1 vis
 refine wpAny_AugAssign_Name ?_
 have go:wpAny (model X.prog X.w) X.A (eval e X.env) (fun w s₂=>wpAny (model X.prog X.w) X.A (inplaceOp op u w) (fun r s₃=>wpAny (model X.prog X.w) X.A (storeName X.env x r) (fun _=>SP X pins D .next) X.xe s₃) X.xe s₂) X.xe s:=by
  refine thn (he pins s σ H _ I h) fun w s1 ⟨y,H1,I1,r1,q1⟩=>?_
  refine thn (ho pins s1 σ H1 v y u w _ I1 r r1 q1) fun z s2 ⟨zv,H2,I2,r2,q2⟩=>?_
  exact gL I2 hN hi hx r2 (fun s3 I3=>⟨_,H2,I3,q2⟩) hf
 rcases l with ⟨hk,hm⟩ | ⟨hk,c,hc,hcell⟩
 . exact wpAny_loadName_local I.ok.kind hk hn hm go
 . rcases hk with hk | hk
   . exact wpAny_loadName_cell I.ok.kind hk hc hcell go
   . rcases hx with k | k
     . have:X.env.scope.names.lookup x = some .free:=hk
       rw [k] at this; cases this
     . have:X.env.scope.names.lookup x = some .free:=hk
       rw [k] at this; cases this
def ipI (f:Int -> Int -> Int):TIp:=fun x y H Q=>∃ i j,x = .int i /\ y = .int j /\ Q (.int (f i j)) H
theorem mS:PIp X .Add (ipI fun i j=>i + j):=by
 intro pins s σ H x y v u Q I r1 r2 h
 obtain ⟨i,j,e1,e2,q⟩:=h
 subst e1; subst e2
 obtain ⟨t,rfl⟩:=r1
 obtain ⟨t',rfl⟩:=r2
 exact iadd_int ⟨.int _,H,I.tok _,⟨_,rfl⟩,q⟩
end
section
variable {X:Cx} {pos:Pos}
def tS (c:TT) (tb:TS):TS:=fun D σ H=>∃ W:Nat -> St -> Hp -> Prop,(∃ m,W m σ H) /\ ∀ m σ H,W m σ H ->
 c σ H fun b H1=>if b = true then ∃ N:St -> Hp -> Prop,(∀ σ' H',N σ' H' -> ∃ m',m' < m /\ W m' σ' H') /\ tb { D with nx:=N,ct:=N,bk:=D.nx } σ H1 else D.nx σ H1
theorem wB {c:Expr} {body:List Stmt} {tc:TT} {tb:TS} (hp:PassesOwn (model X.prog X.w) X.A X.env X.xe) (hc:PT X c tc) (hb:PSs X body tb):PS X (.While c body [] pos) (tS tc tb):=by
 intro pins s σ H D I h
 obtain ⟨W,⟨m0,w0⟩,turn⟩:=h
 refine wpAny_While (codeAny_whileLoop (fun n s'=>∃ σ' H',Inv X pins σ' H' s' /\ W n σ' H') ?_ m0 ⟨σ,H,I,w0⟩)
 rintro n s1 ⟨σ1,H1,I1,w1⟩
 refine wpAny_passesOwn hp (thn (hc pins s1 σ1 H1 _ I1 (turn n σ1 H1 w1)) fun b s2 ⟨H2,I2,q2⟩=>?_)
 cases b with
 | true=>
   obtain ⟨N,hN,q2⟩:=q2
   rw [if_pos rfl]
   refine wpAny_passesOwn hp (thn (hb pins s2 σ1 H2 _ I2 q2) fun f s3 q3=>?_)
   cases f with
   | next=>
     obtain ⟨σ3,H3,I3,n3⟩:=q3
     obtain ⟨m',hm,w3⟩:=hN σ3 H3 n3
     exact ⟨m',hm,σ3,H3,I3,w3⟩
   | cont=>
     obtain ⟨σ3,H3,I3,n3⟩:=q3
     obtain ⟨m',hm,w3⟩:=hN σ3 H3 n3
     exact ⟨m',hm,σ3,H3,I3,w3⟩
   | brk=>exact q3
   | ret v=>exact q3
 | false=>
   rw [if_neg Bool.false_ne_true]
   exact wpAny_execs_nil ⟨σ1,H2,I2,q2⟩
end
structure It where
 go:Nat -> Hp -> Prop
 yld:Nat -> Hp -> V -> Hp -> Prop
 stop:Nat -> Hp -> Prop
def kD (X:Cx) (pins:List (Addr × Obj)) (H:Hp) (b:Addr):Prop:=
 H b = none /\ b ≠ X.env.locals /\ b ∉ X.fs /\ (b ∈ X.ex \/ X.s₀.heap.objs.size <= b) /\ (∀ x c,X.env.cells.lookup x = some c -> c ≠ b) /\ ∀ p ∈ X.pn ++ pins,p.1 ≠ b
theorem Inv.va {X:Cx} {pins:List (Addr × Obj)} {σ:St} {H H':Hp} {s:Shared} {b:Addr} (I:Inv X pins σ H s) (hb:s.heap.objs.size <= b) (hn:H' b = none):kD X pins H' b:=by
 refine ⟨hn,Nat.ne_of_gt (Nat.lt_of_lt_of_le I.lt hb),I.E4 hb,.inr (Nat.le_trans I.sz hb),fun x c e z=>?_,fun p hp z=>?_⟩
 . obtain ⟨v,q⟩:=I.cell x c e
   exact absurd (Nat.lt_of_lt_of_le q.lt (by rw [z]; exact hb)) (Nat.lt_irrefl _)
 . exact absurd (Nat.lt_of_lt_of_le (Heap.lt_size (I.pin p hp).1) (by rw [z]; exact hb)) (Nat.lt_irrefl _)
structure Turn (P:Program) (w:World) (K:PySem.W.Frag) (tg:Expr) (J:It) (fp:List Addr) (it:Addr) (tn:Nat -> Heap -> Prop):Prop where
 mem:it ∈ fp
 obj:∀ i h,tn i h -> ∀ b ∈ fp,∃ o,h.get? b = some o /\ ∀ v,o.data ≠ .cell v
 keep:∀ i h h',tn i h -> (∀ b ∈ fp,∀ o,h.get? b = some o -> h'.get? b = some o) -> tn i h'
 item:∀ (X:Cx),X.prog = P -> X.w = w -> X.K = K -> X.calm = true -> ∀ (i:Nat) (pins:List (Addr × Obj)) (s:Shared) (σ:St) (H:Hp) (E:Value -> Shared -> Prop),Inv X pins σ H s -> (∀ b ∈ fp,kD X pins H b) -> tn i s.heap -> J.go i H ->
  wpAny (model P w) X.A (pyNext (.ref it)) (fun r s1=>∃ u,r = some u /\
   wpAny (model P w) X.A (letOwnedTupleGo tg (.ref it) u) (fun _ s2=>∃ x H',Inv X pins σ H' s2 /\ RelV x u /\ J.yld i H x H' /\ tn (i + 1) s2.heap /\ ∀ b ∈ fp,H' b = none) E s1) E s
 done:∀ (X:Cx),X.prog = P -> X.w = w -> X.K = K -> X.calm = true -> ∀ (i:Nat) (pins:List (Addr × Obj)) (s:Shared) (σ:St) (H:Hp) (E:Value -> Shared -> Prop),Inv X pins σ H s -> (∀ b ∈ fp,kD X pins H b) -> tn i s.heap -> J.stop i H ->
  wpAny (model P w) X.A (pyNext (.ref it)) (fun r s1=>r = none /\ Inv X pins σ H s1) E s
 self:∀ (A:Around) (i:Nat) (s:Shared) (Q:Value -> Shared -> Prop) (E:Value -> Shared -> Prop),tn i s.heap -> Q (.ref it) s -> wpAny (model P w) A (pyIter (.ref it)) Q E s
abbrev TI:=St -> Hp -> (It -> Hp -> Prop) -> Prop
def PIE (X:Cx) (pins:List (Addr × Obj)) (σ:St) (tg:Expr) (R:It -> Hp -> Prop) (itv:Value) (s2:Shared):Prop:=
 ∃ (it:Addr) (fp:List Addr) (tn:Nat -> Heap -> Prop) (J:It) (H':Hp),itv = .ref it /\ Inv X pins σ H' s2 /\ Turn X.prog X.w X.K tg J fp it tn /\ tn 0 s2.heap /\ (∀ b ∈ fp,kD X pins H' b) /\ R J H'
def PI (X:Cx) (tg iter:Expr) (wi:TI):Prop:=
 ∀ (pins:List (Addr × Obj)) (s:Shared) (σ:St) (H:Hp) (R:It -> Hp -> Prop),Inv X pins σ H s -> wi σ H R ->
   wpAny (model X.prog X.w) X.A (eval iter X.env) (fun v s1=>wpAny (model X.prog X.w) X.A (pyIter v) (PIE X pins σ tg R) X.xe s1) X.xe s
theorem uR {M:Model} {A:Around} {E:Value -> Shared -> Prop} {s:Shared} {tg:Expr} {it:Addr} {u:Value} {o:Obj} {n:String} {vs:Array Value} {Q:Unit -> Shared -> Prop} (ho:s.heap.get? it = some o) (hc:o.cls = .type n) (hd:o.data = .fields vs)
  (hn:["enumerate","zip","dict_itemiterator","dict_reverseitemiterator","odict_iterator","itertools.zip_longest","itertools.pairwise"].contains n = false) (hQ:Q () s):wpAny M A (letOwnedTupleGo tg (.ref it) u) Q E s:=by
 unfold letOwnedTupleGo
 cases tg <;> first
  | exact wpAny_pure hQ
  | (cases u <;> first
      | exact wpAny_pure hQ
      | (refine wpAny_bind (wpAny_load ho ?_)
         rw [hc,hd]
         show wpAny M A (if (["enumerate","zip","dict_itemiterator","dict_reverseitemiterator","odict_iterator","itertools.zip_longest","itertools.pairwise"].contains n && vs[0]? == some (rawInt _)) = true then _ else _) Q E s
         rw [if_neg (by intro h; rw [hn,Bool.false_and] at h; cases h)]
         exact wpAny_pure hQ))
def Itl (K:PySem.W.Frag) (a:Addr):It:=
 ⟨fun i H=>∃ xs x,SqL K H a xs /\ xs[i]? = some x,fun i H x H'=>H' = H /\ ∀ xs,SqL K H a xs -> xs[i]? = some x,fun i H=>∃ xs,SqL K H a xs /\ xs.length <= i⟩
def Itt (K:PySem.W.Frag) (a:Addr):It:=
 ⟨fun i H=>∃ xs x,SqT K H a xs /\ xs[i]? = some x,fun i H x H'=>H' = H /\ ∀ xs,SqT K H a xs -> xs[i]? = some x,fun i H=>∃ xs,SqT K H a xs /\ xs.length <= i⟩
def Itr (lo:Int) (n:Nat):It:=⟨fun i _=>i < n,fun i H x H'=>H' = H /\ x = .int (lo + i),fun i _=>n <= i⟩
theorem vf {P:Program} {w:World} {K:PySem.W.Frag} {tg:Expr} (a it:Addr):Turn P w K tg (Itl K a) [it] it (fun i h=>h.IsListIter it a i) where
 mem:=by simp
 obj:=fun i h st b hb=>by
  have e:b = it:=by simpa using hb
  subst e
  obtain ⟨o,e,c,d⟩:=st
  exact ⟨o,e,fun v z=>by rw [d] at z; cases z⟩
 keep:=fun i h h' st k=>st.at fun o e=>k it (by simp) o e
 item:=by
  intro X hP hw hK hc i pins s σ H E I hf st hg
  subst hP hw hK
  obtain ⟨xs,x,hq,hx⟩:=hg
  obtain ⟨its,rv,p,hz⟩:=I.list hq
  obtain ⟨u,hu,ru⟩:=rv.get hx
  obtain ⟨f0,f1,f2,f3,f4,f5⟩:=hf it (by simp)
  refine wpAny_pyNext_list_item st p.isList (x:=u) (by simpa using hu) fun h' st' sb=>?_
  have I1:Inv X pins σ H { s with heap:=h' }:=I.turned (t':=s.toks) (fun b o hb e=>(sb.2 b hb).trans e) f0 f1 f3 f4 f5
  obtain ⟨o,e,c,d⟩:=id st'
  exact ⟨u,rfl,uR (s:={ s with heap:=h' }) e c d (by decide) ⟨x,H,I1,ru,⟨rfl,fun ys hy=>by rw [I.rA hy hq]; exact hx⟩,st',fun b hb=>(hf b hb).1⟩⟩
 done:=by
  intro X hP hw hK hc i pins s σ H E I hf st hg
  subst hP hw hK
  obtain ⟨xs,hq,hx⟩:=hg
  obtain ⟨its,rv,p,hz⟩:=I.list hq
  obtain ⟨f0,f1,f2,f3,f4,f5⟩:=hf it (by simp)
  have hl:=rv.length
  exact wpAny_pyNext_list_end (I.ok.hd hc) st p.isList (by simp; omega) fun h' eb=>⟨rfl,I.turned (t':=s.toks) (fun b o hb e=>eb b o hb e) f0 f1 f3 f4 f5⟩
 self:=fun _ _ _ _ _ st h=>wpAny_pyIter_listiter st h
theorem sJ {P:Program} {w:World} {K:PySem.W.Frag} {tg:Expr} (a it:Addr):Turn P w K tg (Itt K a) [it] it (fun i h=>h.IsTupleIter it a i) where
 mem:=by simp
 obj:=fun i h st b hb=>by
  have e:b = it:=by simpa using hb
  subst e
  obtain ⟨o,e,c,d⟩:=st
  exact ⟨o,e,fun v z=>by rw [d] at z; cases z⟩
 keep:=fun i h h' st k=>st.at fun o e=>k it (by simp) o e
 item:=by
  intro X hP hw hK hc i pins s σ H E I hf st hg
  subst hP hw hK
  obtain ⟨xs,x,hq,hx⟩:=hg
  obtain ⟨its,rv,p,hz⟩:=I.tuple hq
  obtain ⟨u,hu,ru⟩:=rv.get hx
  obtain ⟨f0,f1,f2,f3,f4,f5⟩:=hf it (by simp)
  refine wpAny_pyNext_tuple_item st (show s.heap.IsTuple a its.toArray from p) (x:=u) (by simpa using hu) fun h' st' sb=>?_
  have I1:Inv X pins σ H { s with heap:=h' }:=I.turned (t':=s.toks) (fun b o hb e=>(sb.2 b hb).trans e) f0 f1 f3 f4 f5
  obtain ⟨o,e,c,d⟩:=id st'
  exact ⟨u,rfl,uR (s:={ s with heap:=h' }) e c d (by decide) ⟨x,H,I1,ru,⟨rfl,fun ys hy=>by rw [I.vk hy hq]; exact hx⟩,st',fun b hb=>(hf b hb).1⟩⟩
 done:=by
  intro X hP hw hK hc i pins s σ H E I hf st hg
  subst hP hw hK
  obtain ⟨xs,hq,hx⟩:=hg
  obtain ⟨its,rv,p,hz⟩:=I.tuple hq
  obtain ⟨f0,f1,f2,f3,f4,f5⟩:=hf it (by simp)
  have hl:=rv.length
  exact wpAny_pyNext_tuple_end (I.ok.hd hc) st (show s.heap.IsTuple a its.toArray from p) (by simp; omega) fun h' eb=>⟨rfl,I.turned (t':=s.toks) (fun b o hb e=>eb b o hb e) f0 f1 f3 f4 f5⟩
 self:=fun _ _ _ _ _ st h=>wpAny_pyIter_tupleiter st h
theorem sU {P:Program} {w:World} {K:PySem.W.Frag} {tg:Expr} (it:Addr) (lo:Int) (n:Nat):Turn P w K tg (Itr lo n) [it] it (fun i h=>IsRangeIter h it (lo + (i:Nat) * 1) ((n:Int) - (i:Nat)) 1) where
 mem:=by simp
 obj:=fun i h st b hb=>by
  have e:b = it:=by simpa using hb
  subst e
  exact ⟨_,st,fun v z=>by
   have z':Data.fields _ = Data.cell v:=z
   cases z'⟩
 keep:=fun i h h' st k=>k it (by simp) _ st
 item:=by
  intro X hP hw hK hc i pins s σ H E I hf st hg
  subst hP hw hK
  obtain ⟨f0,f1,f2,f3,f4,f5⟩:=hf it (by simp)
  have W:=Walks.range (prog:=X.prog) (w:=X.w) (I.ok.hd hc) it lo 1 n
  refine W.item i s _ _ hg st fun v h' tk hv st' kk=>?_
  obtain ⟨t,rfl⟩:=hv
  have I1:Inv X pins σ H { s with heap:=h',toks:=tk }:=I.turned (fun b o hb e=>kk b o (by simpa using hb) e) f0 f1 f3 f4 f5
  refine ⟨_,rfl,uR (s:={ s with heap:=h',toks:=tk }) (n:="range_iterator") st' rfl rfl (by decide) ⟨.int (lo + i),H,I1,⟨t,?_⟩,⟨rfl,rfl⟩,st',fun b hb=>(hf b hb).1⟩⟩
  rw [Int.mul_one]
 done:=by
  intro X hP hw hK hc i pins s σ H E I hf st hg
  subst hP hw hK
  obtain ⟨f0,f1,f2,f3,f4,f5⟩:=hf it (by simp)
  exact wpAny_pyNext_range_end (I.ok.hd hc) st (by have:n <= i:=hg; omega) fun h' eb=>⟨rfl,I.turned (t':=s.toks) (fun b o hb e=>eb b o hb e) f0 f1 f3 f4 f5⟩
 self:=fun _ _ _ _ _ st h=>wpAny_pyIter_rangeiter st h
end L2
namespace L2
open PySem PySem.Spec PyProof.Rows
section
variable {X:Cx} {tg:Expr}
def rE (K:PySem.W.Frag) (tl:TE):TI:=fun σ H R=>tl σ H fun x H1=>∃ a,x = .ref a /\ (∃ xs,SqL K H1 a xs) /\ R (Itl K a) H1
def CB (K:PySem.W.Frag) (tl:TE):TI:=fun σ H R=>tl σ H fun x H1=>∃ a,x = .ref a /\ (∃ xs,SqT K H1 a xs) /\ R (Itt K a) H1
theorem yM {l:Expr} {tl:TE} (hl:PE X l tl):PI X tg l (rE X.K tl):=by
 intro pins s σ H R I h
 refine thn (hl pins s σ H _ I h) fun v s1 ⟨x,H1,I1,r1,q1⟩=>?_
 obtain ⟨a,e,⟨xs,hq⟩,q⟩:=q1
 subst e
 cases r1
 obtain ⟨its,rv,p,hz⟩:=I1.list hq
 refine wpAny_pyIter_list p.isList ?_
 refine ⟨s1.heap.objs.size,[s1.heap.objs.size],_,_,H1,rfl,I1.kept (t':=s1.toks) fun b o e=>Heap.get?_push_of_some _ e,vf a _,⟨_,Heap.get?_push_size _ rfl,rfl,rfl⟩,fun b hb=>?_,q⟩
 have e:b = s1.heap.objs.size:=by simpa using hb
 subst e
 exact I1.va (Nat.le_refl _) (I1.hok.fresh (Nat.le_refl _))
theorem CV {l:Expr} {tl:TE} (hl:PE X l tl):PI X tg l (CB X.K tl):=by
 intro pins s σ H R I h
 refine thn (hl pins s σ H _ I h) fun v s1 ⟨x,H1,I1,r1,q1⟩=>?_
 obtain ⟨a,e,⟨xs,hq⟩,q⟩:=q1
 subst e
 cases r1
 obtain ⟨its,rv,p,hz⟩:=I1.tuple hq
 refine wpAny_pyIter_tuple (show s1.heap.IsTuple a its.toArray from p) ?_
 refine ⟨s1.heap.objs.size,[s1.heap.objs.size],_,_,H1,rfl,I1.kept (t':=s1.toks) fun b o e=>Heap.get?_push_of_some _ e,sJ a _,⟨_,Heap.get?_push_size _ rfl,rfl,rfl⟩,fun b hb=>?_,q⟩
 have e:b = s1.heap.objs.size:=by simpa using hb
 subst e
 exact I1.va (Nat.le_refl _) (I1.hok.fresh (Nat.le_refl _))
theorem wt {pins:List (Addr × Obj)} {σ:St} {H:Hp} {s:Shared} {R:It -> Hp -> Prop} {E:Value -> Shared -> Prop} {lo hi:Int} {t u v:Tok} {tk:Nat} (I:Inv X pins σ H s) (h1:-(2 ^ 62) <= lo) (h2:lo < 2 ^ 62) (h3:-(2 ^ 62) <= hi) (h4:hi < 2 ^ 62)
  (q:R (Itr lo (hi - lo).toNat) H):wpAny (model X.prog X.w) X.A (pyIter (.ref s.heap.objs.size)) (PIE X pins σ tg R) E { s with heap:=s.heap.push { cls:=.type "range",data:=.fields #[.int lo t,.int hi u,.int 1 v] },toks:=tk }:=by
 refine wpAny_pyIter_range (IsRange.new ..) (small_one h1 h2 h3 h4) ?_
 have I1:Inv X pins σ H { s with heap:=s.heap.push { cls:=.type "range",data:=.fields #[.int lo t,.int hi u,.int 1 v] },toks:=tk }:=I.kept fun b o e=>Heap.get?_push_of_some _ e
 refine ⟨(s.heap.push { cls:=.type "range",data:=.fields #[.int lo t,.int hi u,.int 1 v] }).objs.size,[(s.heap.push { cls:=.type "range",data:=.fields #[.int lo t,.int hi u,.int 1 v] }).objs.size],_,_,H,rfl,
  I1.kept (t':=tk) fun b o e=>Heap.get?_push_of_some _ e,sU _ lo (hi - lo).toNat,?_,fun b hb=>?_,q⟩
 . have e1:lo + ((0:Nat):Int) * 1 = lo:=by simp
   have e2:(((hi - lo).toNat:Nat):Int) - ((0:Nat):Int) = Builtin.Range.rangeSize lo hi 1:=by rw [rangeSize_one]; split <;> omega
   show IsRangeIter _ _ (lo + ((0:Nat):Int) * 1) ((((hi - lo).toNat:Nat):Int) - ((0:Nat):Int)) 1
   rw [e1,e2]
   exact Heap.get?_push_size _ rfl
 . have e:b = (s.heap.push { cls:=.type "range",data:=.fields #[.int lo t,.int hi u,.int 1 v] }).objs.size:=by simpa using hb
   subst e
   exact I1.va (Nat.le_refl _) (I1.hok.fresh (Nat.le_refl _))
def xq (ta:TA):TI:=fun σ H R=>ta σ H fun vs H1=>∃ j:Int,vs = [.int j] /\ -(2 ^ 62) <= j /\ j < 2 ^ 62 /\ R (Itr 0 j.toNat) H1
theorem vL {a:Expr} {ta:TA} {p pos:Pos} (hg:Gl X "range") (hm:X.mg "range" = none) (ha:PA X [a] ta) (hs:starEach [a] X.env = [(false,eval a X.env)]:=by rfl):PI X tg (.Call (.Name "range" p) [a] [] pos) (xq ta):=by
 intro pins s σ H R I h
 refine Call_ (lY I hg hm boot_range (PyProof.Rows.callWith_type1 (thn (ha pos pins s σ H _ I h) fun us s1 ⟨vs,H1,I1,r1,q1⟩=>?_) hs rfl))
 obtain ⟨j,e,q1,q2,q⟩:=q1
 subst e
 cases r1 with
 | cons r rr=>
   cases rr
   obtain ⟨t,rfl⟩:=r
   exact call_range_1 (wt I1 (by omega) (by omega) q1 q2 (by simpa using q))
def wu (wi:TI) (g:TG) (tb:TS):TS:=fun D σ H=>wi σ H fun J H1=>∃ W:Nat -> Nat -> St -> Hp -> Prop,(∃ m,W 0 m σ H1) /\ ∀ i m σ H,W i m σ H ->
 (J.stop i H /\ D.nx σ H) \/ (J.go i H /\ ∃ N:St -> Hp -> Prop,(∀ σ' H',N σ' H' -> ∃ m',m' < m /\ W (i + 1) m' σ' H') /\ ∀ x H',J.yld i H x H' -> g x σ H' fun σ2 H2=>tb { D with nx:=N,ct:=N,bk:=D.nx } σ2 H2)
def qP (fp:List Addr) (h:Heap):List (Addr × Obj):=fp.filterMap fun b=>(h.get? b).map fun o=>(b,o)
theorem dQ {fp:List Addr} {h:Heap} {b:Addr} {o:Obj} (hb:b ∈ fp) (e:h.get? b = some o):(b,o) ∈ qP fp h:=List.mem_filterMap.mpr ⟨b,hb,by rw [e]; rfl⟩
theorem vj {fp:List Addr} {h:Heap} {p:Addr × Obj} (hp:p ∈ qP fp h):p.1 ∈ fp /\ h.get? p.1 = some p.2:=by
 obtain ⟨b,hb,e⟩:=List.mem_filterMap.mp hp
 cases q:h.get? b with
 | none=>rw [q] at e; cases e
 | some o=>
   rw [q] at e
   have e':(b,o) = p:=Option.some.inj e
   subst e'
   exact ⟨hb,q⟩
theorem Inv.pinned {pins:List (Addr × Obj)} {σ:St} {H:Hp} {s:Shared} {fp:List Addr} (I:Inv X pins σ H s) (hf:∀ b ∈ fp,kD X pins H b) (ho:∀ b ∈ fp,∃ o,s.heap.get? b = some o /\ ∀ v,o.data ≠ .cell v):Inv X (pins ++ qP fp s.heap) σ H s:=
 I.uN fun p hp=>(List.mem_append.mp hp).elim (fun z=>I.pin p (List.mem_append_right _ z)) fun z=>by
  obtain ⟨hb,e⟩:=vj z
  obtain ⟨f0,f1,f2,_⟩:=hf p.1 hb
  obtain ⟨o,e',d⟩:=ho p.1 hb
  rw [e] at e'; cases e'
  exact ⟨e,f0,f1,f2,d⟩
theorem Inv.gM {pins pl:List (Addr × Obj)} {σ:St} {H:Hp} {s:Shared} (I:Inv X (pins ++ pl) σ H s):Inv X pins σ H s:=I.uN fun p hp=>I.pin p (List.mem_append_right _ (List.mem_append_left _ hp))
theorem C3 {iter:Expr} {body:List Stmt} {wi:TI} {g:TG} {tb:TS} {pos:Pos} (hp:PassesOwn (model X.prog X.w) X.A X.env X.xe) (hc:X.calm = true) (hi:PI X tg iter wi) (hg:PG X tg g) (hb:PSs X body tb)
  (hs:∀ x,foldedSetIterable iter X.env x = pure x:=by intro _; rfl):PS X (.For tg iter body [] pos) (wu wi g tb):=by
 intro pins s σ H D I h
 refine wpAny_For (thn (hi pins s σ H _ I h) fun v s1 h1=>thn h1 fun itv s2 h2=>?_) hs
 obtain ⟨it,fp,tn,J,H2,e,I2,T,st2,f2,W,⟨m0,w0⟩,turn⟩:=h2
 subst e
 have stat:∀ {H':Hp},(∀ b ∈ fp,H' b = none) -> ∀ b ∈ fp,kD X pins H' b:=fun hn b hb=>⟨hn b hb,(f2 b hb).2⟩
 refine codeAny_forLoop_any (fun n s'=>∃ i σ' H',Inv X pins σ' H' s' /\ tn i s'.heap /\ (∀ b ∈ fp,H' b = none) /\ W i n σ' H') ?_ m0 ⟨0,σ,H2,I2,st2,fun b hb=>(f2 b hb).1,w0⟩
 rintro n s3 ⟨i,σ3,H3,I3,st3,fr3,w3⟩
 rcases turn i n σ3 H3 w3 with ⟨stop,qn⟩ | ⟨go,N,hN,step⟩
 . refine wpAny_passesOwn hp (thn (T.done X rfl rfl rfl hc i pins s3 σ3 H3 X.xe I3 (stat fr3) st3 stop) fun r s4 ⟨hr,I4⟩=>?_)
   subst hr
   exact wpAny_execs_nil ⟨σ3,H3,I4,qn⟩
 . refine wpAny_passesOwn hp (thn (T.item X rfl rfl rfl hc i pins s3 σ3 H3 X.xe I3 (stat fr3) st3 go) fun r s4 ⟨u,hr,h4⟩=>?_)
   subst hr
   refine wpAny_passesOwn hp (thn h4 fun _ s5 ⟨x,H5,I5,r5,y5,st5,fr5⟩=>?_)
   have I5':=I5.pinned (stat fr5) (T.obj _ _ st5)
   refine wpAny_passesOwn hp (thn (hg _ s5 σ3 H5 x u _ I5' r5 (step x H5 y5)) fun _ s6 ⟨σ6,H6,I6,q6⟩=>?_)
   refine wpAny_passesOwn hp (thn (hb _ s6 σ6 H6 _ I6 q6) fun f s7 q7=>?_)
   have again:∀ {σ7:St} {H7:Hp},Inv X (pins ++ qP fp s5.heap) σ7 H7 s7 -> N σ7 H7 -> ∃ m,m < n /\ ∃ i σ' H',Inv X pins σ' H' s7 /\ tn i s7.heap /\ (∀ b ∈ fp,H' b = none) /\ W i m σ' H':=fun {σ7 H7} I7 n7=>by
    obtain ⟨m',hm,w7⟩:=hN σ7 H7 n7
    refine ⟨m',hm,i + 1,σ7,H7,I7.gM,T.keep _ _ _ st5 fun b hb o e=>(I7.pin (b,o) (List.mem_append_right _ (List.mem_append_right _ (dQ hb e)))).1,fun b hb=>?_,w7⟩
    obtain ⟨o,e,d⟩:=T.obj _ _ st5 b hb
    exact (I7.pin (b,o) (List.mem_append_right _ (List.mem_append_right _ (dQ hb e)))).2.1
   cases f with
   | next=>obtain ⟨σ7,H7,I7,n7⟩:=q7; exact again I7 n7
   | cont=>obtain ⟨σ7,H7,I7,n7⟩:=q7; exact again I7 n7
   | brk=>obtain ⟨σ7,H7,I7,q7⟩:=q7; exact ⟨σ7,H7,I7.gM,q7⟩
   | ret v=>obtain ⟨x7,σ7,H7,I7,r7,q7⟩:=q7; exact ⟨x7,σ7,H7,I7.gM,r7,q7⟩
end
theorem xS {K:PySem.W.Frag} {a:Addr} {xs:List V} {g:TG} {tb:TS} {D:Ends} {σ:St} {H:Hp} (Pv:Nat -> St -> Hp -> Prop) (h0:Pv 0 σ H) (hl:∀ i σ H,i <= xs.length -> Pv i σ H -> SqL K H a xs)
  (hs:∀ i x σ H,xs[i]? = some x -> Pv i σ H -> g x σ H fun σ2 H2=>tb { D with nx:=Pv (i + 1),ct:=Pv (i + 1),bk:=D.nx } σ2 H2) (hd:∀ σ H,Pv xs.length σ H -> D.nx σ H):
  ∃ W:Nat -> Nat -> St -> Hp -> Prop,(∃ m,W 0 m σ H) /\ ∀ i m σ H,W i m σ H ->
    ((Itl K a).stop i H /\ D.nx σ H) \/ ((Itl K a).go i H /\ ∃ N:St -> Hp -> Prop,(∀ σ' H',N σ' H' -> ∃ m',m' < m /\ W (i + 1) m' σ' H') /\ ∀ x H',(Itl K a).yld i H x H' -> g x σ H' fun σ2 H2=>tb { D with nx:=N,ct:=N,bk:=D.nx } σ2 H2):=by
 refine ⟨fun i m σ H=>m = xs.length - i /\ i <= xs.length /\ Pv i σ H,⟨xs.length,by simp,Nat.zero_le _,h0⟩,?_⟩
 rintro i m σ H ⟨rfl,hi,p⟩
 have q:=hl i σ H hi p
 by_cases hlt:i < xs.length
 . refine .inr ⟨⟨xs,xs[i],q,by simp [hlt]⟩,Pv (i + 1),fun σ' H' p'=>⟨xs.length - (i + 1),by omega,rfl,hlt,p'⟩,fun x H' y=>?_⟩
   obtain ⟨e,y⟩:=y
   subst e
   exact hs i x σ _ (y xs q) p
 . have e:i = xs.length:=by omega
   subst e
   exact .inl ⟨⟨xs,q,Nat.le_refl _⟩,hd σ H p⟩
end L2
namespace L2
open PySem PySem.Spec PyProof.Rows
abbrev R2:=V -> V -> Hp -> VK -> Prop
def OpR (X:Cx) (f:Value -> Value -> Sem Value) (r:R2):Prop:=
 ∀ (pins:List (Addr × Obj)) (s:Shared) (σ:St) (H:Hp) (x y:V) (v u:Value) (Q:VK),Inv X pins σ H s -> RelV x v -> RelV y u -> r x y H Q ->
   wpAny (model X.prog X.w) X.A (f v u) (EP X pins σ Q) X.xe s
def UnR (X:Cx) (f:Value -> Sem Value) (r:V -> Hp -> VK -> Prop):Prop:=
 ∀ (pins:List (Addr × Obj)) (s:Shared) (σ:St) (H:Hp) (x:V) (v:Value) (Q:VK),Inv X pins σ H s -> RelV x v -> r x H Q ->
   wpAny (model X.prog X.w) X.A (f v) (EP X pins σ Q) X.xe s
def m3 (X:Cx) (f:Value) (r:List V -> Hp -> VK -> Prop):Prop:=
 ∀ (pins:List (Addr × Obj)) (s:Shared) (σ:St) (H:Hp) (xs:List V) (us:List Value) (Q:VK),Inv X pins σ H s -> Vals xs us -> r xs H Q ->
   wpAny (model X.prog X.w) X.A (call f us) (EP X pins σ Q) X.xe s
def F7 (X:Cx) (r:V -> Hp -> (Bool -> Hp -> Prop) -> Prop):Prop:=
 ∀ (pins:List (Addr × Obj)) (s:Shared) (σ:St) (H:Hp) (x:V) (v:Value) (Q:Bool -> Hp -> Prop),Inv X pins σ H s -> RelV x v -> r x H Q ->
   wpAny (model X.prog X.w) X.A (truthy v) (TP X pins σ Q) X.xe s
def tOp (r:R2) (ta tb:TE):TE:=fun σ H Q=>ta σ H fun x H1=>tb σ H1 fun y H2=>r x y H2 Q
def tUn (r:V -> Hp -> VK -> Prop) (ta:TE):TE:=fun σ H Q=>ta σ H fun x H1=>r x H1 Q
def rI (C:Int -> Int -> Prop) (g:Int -> Int -> V):R2:=fun x y H Q=>∃ i j,x = .int i /\ y = .int j /\ C i j /\ Q (g i j) H
def rI0 (g:Int -> Int -> V):R2:=fun x y H Q=>∃ i j,x = .int i /\ y = .int j /\ Q (g i j) H
def rU (g:Int -> V):V -> Hp -> VK -> Prop:=fun x H Q=>∃ i,x = .int i /\ Q (g i) H
section
variable {X:Cx} {a b c:Expr} {ta tb tc:TE} {pos:Pos}
theorem BI (ha:PE X a ta) (hb:PE X b tb) {pins:List (Addr × Obj)} {s:Shared} {σ:St} {H:Hp} {R:V -> V -> Hp -> Prop} (I:Inv X pins σ H s)
  (h:ta σ H fun x H1=>tb σ H1 fun y H2=>R x y H2) {Q:Value -> Shared -> Prop} {f:Value -> Value -> Sem Value}
  (hf:∀ v u s2 x y H2,Inv X pins σ H2 s2 -> RelV x v -> RelV y u -> R x y H2 -> wpAny (model X.prog X.w) X.A (f v u) Q X.xe s2):
  wpAny (model X.prog X.w) X.A (eval a X.env) (fun v s₁=>wpAny (model X.prog X.w) X.A (eval b X.env) (fun u s₂=>wpAny (model X.prog X.w) X.A (f v u) Q X.xe s₂) X.xe s₁) X.xe s:=by
 refine thn (ha pins s σ H _ I h) fun v s1 ⟨x,H1,I1,r1,q1⟩=>?_
 refine thn (hb pins s1 σ H1 _ I1 q1) fun u s2 ⟨y,H2,I2,r2,q2⟩=>?_
 exact hf v u s2 x y H2 I2 r1 r2 q2
theorem Eg {op:Operator} {r:R2} (ho:OpR X (binaryOp op) r) (ha:PE X a ta) (hb:PE X b tb):PE X (.BinOp a op b pos) (tOp r ta tb):=by
 intro pins s σ H Q I h
 exact wpAny_BinOp (BI ha hb I h fun v u s2 x y H2 I2 rx ry q=>ho pins s2 σ H2 x y v u Q I2 rx ry q)
theorem DN {op:UnaryOp} {r:V -> Hp -> VK -> Prop} (ho:UnR X (unaryOp op) r) (ha:PE X a ta):PE X (.UnaryOp op a pos) (tUn r ta):=by
 intro pins s σ H Q I h
 exact UnaryOp_ (thn (ha pins s σ H _ I h) fun v s1 ⟨x,H1,I1,r1,q1⟩=>ho pins s1 σ H1 x v Q I1 r1 q1)
theorem opI {f:Value -> Value -> Sem Value} {C:Int -> Int -> Prop} {g:Int -> Int -> Int}
  (rule:∀ (i j:Int) (t u:Tok) (s:Shared) (Q:Value -> Shared -> Prop) (E:Value -> Shared -> Prop),C i j -> Q (.int (g i j) s.toks) { s with toks:=s.toks + 1 } -> wpAny (model X.prog X.w) X.A (f (.int i t) (.int j u)) Q E s):
  OpR X f (rI C fun i j=>.int (g i j)):=by
 intro pins s σ H x y v u Q I rx ry h
 obtain ⟨i,j,rfl,rfl,hc,q⟩:=h
 obtain ⟨t,rfl⟩:=rx
 obtain ⟨t',rfl⟩:=ry
 exact rule i j t t' s _ _ hc ⟨.int (g i j),H,I.tok _,⟨_,rfl⟩,q⟩
theorem DQ {f:Value -> Value -> Sem Value} {g:Int -> Int -> Int}
  (rule:∀ (i j:Int) (t u:Tok) (s:Shared) (Q:Value -> Shared -> Prop) (E:Value -> Shared -> Prop),Q (.int (g i j) s.toks) { s with toks:=s.toks + 1 } -> wpAny (model X.prog X.w) X.A (f (.int i t) (.int j u)) Q E s):
  OpR X f (rI0 fun i j=>.int (g i j)):=by
 intro pins s σ H x y v u Q I rx ry h
 obtain ⟨i,j,rfl,rfl,q⟩:=h
 obtain ⟨t,rfl⟩:=rx
 obtain ⟨t',rfl⟩:=ry
 exact rule i j t t' s _ _ ⟨.int (g i j),H,I.tok _,⟨_,rfl⟩,q⟩
theorem zN {f:Value -> Value -> Sem Value} {g:Int -> Int -> Bool}
  (rule:∀ (i j:Int) (t u:Tok) (s:Shared) (Q:Value -> Shared -> Prop) (E:Value -> Shared -> Prop),Q (.bool (g i j)) s -> wpAny (model X.prog X.w) X.A (f (.int i t) (.int j u)) Q E s):
  OpR X f (rI0 fun i j=>.bl (g i j)):=by
 intro pins s σ H x y v u Q I rx ry h
 obtain ⟨i,j,rfl,rfl,q⟩:=h
 obtain ⟨t,rfl⟩:=rx
 obtain ⟨t',rfl⟩:=ry
 exact rule i j t t' s _ _ ⟨.bl (g i j),H,I,rfl,q⟩
def Be (i j:Int):Prop:=0 < j /\ j < 1073741824
def v9 (i j:Int):Prop:=(-(2 ^ 64) < i /\ i < 2 ^ 64) \/ (-(2 ^ 64) < j /\ j < 2 ^ 64)
theorem v9.ok {i j:Int} (h:v9 i j):IntMulOk i j:=by
 rcases h with ⟨h1,h2⟩ | ⟨h1,h2⟩
 . exact .of_left (intBits_le_64 h1 h2)
 . exact .of_right (intBits_le_64 h1 h2)
theorem iO:OpR X (binaryOp .Add) (rI0 fun i j=>.int (i + j)):=DQ fun _ _ _ _ _ _ _ q=>add_int q
theorem qg:OpR X (binaryOp .Sub) (rI0 fun i j=>.int (i - j)):=DQ fun _ _ _ _ _ _ _ q=>sub_int q
theorem uh:OpR X (binaryOp .Mult) (rI v9 fun i j=>.int (i * j)):=opI fun _ _ _ _ _ _ _ hc q=>mul_int q hc.ok
theorem qT:OpR X (binaryOp .FloorDiv) (rI Be fun i j=>.int (i / j)):=opI fun i j _ _ _ _ _ hc q=>by
 have h1:(0:Int) < j:=hc.1
 have h2:j < 1073741824:=hc.2
 exact floordiv_int (by omega) (by rw [Int.fdiv_eq_ediv_of_nonneg i (by omega)]; exact q) (.inl (PyProof.noPylong_small (by omega)))
theorem jm:OpR X (binaryOp .Mod) (rI (fun _ j=>0 < j) fun i j=>.int (i % j)):=opI fun i j _ _ _ _ _ hc q=>by
 have h1:(0:Int) < j:=hc
 exact mod_int' (by omega) (by rw [Int.fmod_eq_emod_of_nonneg i (by omega)]; exact q)
theorem unI {f:Value -> Sem Value} {g:Int -> Int}
  (rule:∀ (i:Int) (t:Tok) (s:Shared) (Q:Value -> Shared -> Prop) (E:Value -> Shared -> Prop),Q (.int (g i) s.toks) { s with toks:=s.toks + 1 } -> wpAny (model X.prog X.w) X.A (f (.int i t)) Q E s):
  UnR X f (rU fun i=>.int (g i)):=by
 intro pins s σ H x v Q I rx h
 obtain ⟨i,rfl,q⟩:=h
 obtain ⟨t,rfl⟩:=rx
 exact rule i t s _ _ ⟨.int (g i),H,I.tok _,⟨_,rfl⟩,q⟩
theorem sZ:UnR X (unaryOp .USub) (rU fun i=>.int (-i)):=unI fun _ _ _ _ _ q=>neg_int q
end
def BV:V -> V -> Bool
 | .non,.non=>true | .non,.int _=>true | .int _,.non=>true | .non,.bl _=>true | .bl _,.non=>true | .non,.str _=>true | .str _,.non=>true
 | .int _,.int _=>true | .bl _,.bl _=>true | .str _,.str _=>true | .byt _,.byt _=>true
 | .int _,.str _=>true | .str _,.int _=>true | .bl _,.str _=>true | .str _,.bl _=>true
 | _,_=>false
def rEq:R2:=fun x y H Q=>BV x y = true /\ Q (.bl (decide (x = y))) H
def rNe:R2:=fun x y H Q=>BV x y = true /\ Q (.bl (!decide (x = y))) H
theorem uD {i j:Int}:decide (V.int i = V.int j) = (i == j):=by
 rw [Bool.eq_iff_iff]
 simp
theorem wy {i j:Bool}:decide (V.bl i = V.bl j) = (i == j):=by
 rw [Bool.eq_iff_iff]
 simp
theorem u4 {i j:Str}:decide (V.str i = V.str j) = (i == j):=by
 rw [Bool.eq_iff_iff]
 simp
theorem uZ {i j:Array UInt8}:decide (V.byt i = V.byt j) = (i.toList == j.toList):=by
 rw [Bool.eq_iff_iff]
 cases i
 cases j
 simp
section
variable {X:Cx} {a b c:Expr} {ta tb tc:TE} {pos:Pos}
theorem cG {pins:List (Addr × Obj)} {σ:St} {H:Hp} {s:Shared} {Q:VK} {k k':Bool} (I:Inv X pins σ H s) (q:Q (.bl k) H) (e:k = k'):EP X pins σ Q (.bool k') s:=by
 subst e
 exact ⟨.bl k,H,I,rfl,q⟩
theorem cD:OpR X (compareOp .Eq) rEq:=by
 intro pins s σ H x y v u Q I rx ry h
 obtain ⟨hs,q⟩:=h
 cases x with
 | non=>
   cases rx
   cases y with
   | non=>cases ry; exact PySem.EqNone.eq_none_none (cG I q (by simp))
   | bl j=>cases ry; exact PySem.EqNone.eq_none_bool (cG I q (by simp))
   | int j=>obtain ⟨t',rfl⟩:=ry; exact PySem.EqNone.eq_none_int (cG I q (by simp))
   | str j=>obtain ⟨t',rfl⟩:=ry; exact PySem.EqNone.eq_none_str (cG I q (by simp))
   | _=>exact absurd (show false = true from hs) Bool.false_ne_true
 | bl i=>
   cases rx
   cases y with
   | non=>cases ry; exact PySem.EqNone.eq_bool_none (cG I q (by simp))
   | bl j=>cases ry; exact eq_bool (cG I q wy)
   | str j=>obtain ⟨t',rfl⟩:=ry; exact PySem.EqMixed.eq_bool_str (cG I q (by simp))
   | _=>exact absurd (show false = true from hs) Bool.false_ne_true
 | int i=>
   obtain ⟨t,rfl⟩:=rx
   cases y with
   | non=>cases ry; exact PySem.EqNone.eq_int_none (cG I q (by simp))
   | int j=>obtain ⟨t',rfl⟩:=ry; exact eq_int (cG I q uD)
   | str j=>obtain ⟨t',rfl⟩:=ry; exact PySem.EqMixed.eq_int_str (cG I q (by simp))
   | _=>exact absurd (show false = true from hs) Bool.false_ne_true
 | str i=>
   obtain ⟨t,rfl⟩:=rx
   cases y with
   | non=>cases ry; exact PySem.EqNone.eq_str_none (cG I q (by simp))
   | bl j=>cases ry; exact PySem.EqMixed.eq_str_bool (cG I q (by simp))
   | int j=>obtain ⟨t',rfl⟩:=ry; exact PySem.EqMixed.eq_str_int (cG I q (by simp))
   | str j=>obtain ⟨t',rfl⟩:=ry; exact eq_str (cG I q u4)
   | _=>exact absurd (show false = true from hs) Bool.false_ne_true
 | byt i=>
   obtain ⟨t,rfl⟩:=rx
   cases y with
   | byt j=>obtain ⟨t',rfl⟩:=ry; exact PySem.W.eq_bytes (cG I q uZ)
   | _=>exact absurd (show false = true from hs) Bool.false_ne_true
 | _=>cases y <;> exact absurd (show false = true from hs) Bool.false_ne_true
theorem wj:OpR X (compareOp .NotEq) rNe:=by
 intro pins s σ H x y v u Q I rx ry h
 obtain ⟨hs,q⟩:=h
 cases x with
 | non=>
   cases rx
   cases y with
   | non=>cases ry; exact PySem.EqNone.ne_none_none (cG I q (by simp))
   | bl j=>cases ry; exact PySem.EqNone.ne_none_bool (cG I q (by simp))
   | int j=>obtain ⟨t',rfl⟩:=ry; exact PySem.EqNone.ne_none_int (cG I q (by simp))
   | str j=>obtain ⟨t',rfl⟩:=ry; exact PySem.EqNone.ne_none_str (cG I q (by simp))
   | _=>exact absurd (show false = true from hs) Bool.false_ne_true
 | bl i=>
   cases rx
   cases y with
   | non=>cases ry; exact PySem.EqNone.ne_bool_none (cG I q (by simp))
   | bl j=>cases ry; exact ne_bool (cG I q (congrArg not wy))
   | str j=>obtain ⟨t',rfl⟩:=ry; exact PySem.EqMixed.ne_bool_str (cG I q (by simp))
   | _=>exact absurd (show false = true from hs) Bool.false_ne_true
 | int i=>
   obtain ⟨t,rfl⟩:=rx
   cases y with
   | non=>cases ry; exact PySem.EqNone.ne_int_none (cG I q (by simp))
   | int j=>obtain ⟨t',rfl⟩:=ry; exact ne_int (cG I q (congrArg not uD))
   | str j=>obtain ⟨t',rfl⟩:=ry; exact PySem.EqMixed.ne_int_str (cG I q (by simp))
   | _=>exact absurd (show false = true from hs) Bool.false_ne_true
 | str i=>
   obtain ⟨t,rfl⟩:=rx
   cases y with
   | non=>cases ry; exact PySem.EqNone.ne_str_none (cG I q (by simp))
   | bl j=>cases ry; exact PySem.EqMixed.ne_str_bool (cG I q (by simp))
   | int j=>obtain ⟨t',rfl⟩:=ry; exact PySem.EqMixed.ne_str_int (cG I q (by simp))
   | str j=>obtain ⟨t',rfl⟩:=ry; exact ne_str (cG I q (congrArg not u4))
   | _=>exact absurd (show false = true from hs) Bool.false_ne_true
 | byt i=>
   obtain ⟨t,rfl⟩:=rx
   cases y with
   | byt j=>obtain ⟨t',rfl⟩:=ry; exact PySem.W.ne_bytes (cG I q (congrArg not uZ))
   | _=>exact absurd (show false = true from hs) Bool.false_ne_true
 | _=>cases y <;> exact absurd (show false = true from hs) Bool.false_ne_true
theorem jZ:OpR X (compareOp .Lt) (rI0 fun i j=>.bl (decide (i < j))):=zN fun _ _ _ _ _ _ _ q=>lt_int q
theorem iZ:OpR X (compareOp .LtE) (rI0 fun i j=>.bl (decide (i <= j))):=zN fun _ _ _ _ _ _ _ q=>le_int q
theorem AM:OpR X (compareOp .Gt) (rI0 fun i j=>.bl (decide (j < i))):=zN fun _ _ _ _ _ _ _ q=>gt_int q
theorem DV:OpR X (compareOp .GtE) (rI0 fun i j=>.bl (decide (j <= i))):=zN fun _ _ _ _ _ _ _ q=>ge_int q
theorem kf:OpR X (compareOp .Is) (fun x y H Q=>y = .non /\ Q (.bl (decide (x = .non))) H):=by
 intro pins s σ H x y v u Q I rx ry h
 obtain ⟨rfl,q⟩:=h
 cases ry
 refine is_none_gen (cG I q ?_)
 cases x <;> first
  | (cases rx; rfl)
  | (obtain ⟨t,rfl⟩:=rx; rfl)
theorem qE:OpR X (compareOp .IsNot) (fun x y H Q=>y = .non /\ Q (.bl (!decide (x = .non))) H):=by
 intro pins s σ H x y v u Q I rx ry h
 obtain ⟨rfl,q⟩:=h
 cases ry
 refine isnot_none_gen (cG I q ?_)
 cases x <;> first
  | (cases rx; rfl)
  | (obtain ⟨t,rfl⟩:=rx; rfl)
theorem aL (b:Expr) {op:CmpOp} (h:op ≠ .In:=by decide) (h2:op ≠ .NotIn:=by decide):behindInMarks op b = false:=by
 have e1:(op == CmpOp.In) = false:=by cases op <;> first | rfl | exact absurd rfl h
 have e2:(op == CmpOp.NotIn) = false:=by cases op <;> first | rfl | exact absurd rfl h2
 cases b <;> simp [behindInMarks,e1,e2]
theorem y4 {op:CmpOp} {r:R2} (ho:OpR X (compareOp op) r) (ha:PE X a ta) (hb:PE X b tb) (hm:behindInMarks op b = false):PE X (.Compare a [op] [b] pos) (tOp r ta tb):=by
 intro pins s σ H Q I h
 exact wpAny_Compare1 (BI ha hb I h fun v u s2 x y H2 I2 rx ry q=>ho pins s2 σ H2 x y v u Q I2 rx ry q) hm
def rF (t:TE):TT:=fun σ H Q=>t σ H fun x H'=>∃ k,x = .bl k /\ Q k H'
theorem zo {op:CmpOp} {r:R2} (ho:OpR X (compareOp op) r) (ha:PE X a ta) (hb:PE X b tb) (hm:behindInMarks op b = false):PT X (.Compare a [op] [b] pos) (rF (tOp r ta tb)):=by
 intro pins s σ H Q I h
 refine wpAny_isTrue_Compare1 (thn (ha pins s σ H _ I h) fun v s1 ⟨x,H1,I1,r1,q1⟩=>thn (hb pins s1 σ H1 _ I1 q1) fun u s2 ⟨y,H2,I2,r2,q2⟩=>
  thn (ho pins s2 σ H2 x y v u _ I2 r1 r2 q2) fun c s3 ⟨z,H3,I3,r3,k,e,q3⟩=>?_) hm
 subst e
 cases r3
 exact wpAny_truthy_bool ⟨H3,I3,q3⟩
def nM (r r':R2) (ta tb tc:TE):TE:=fun σ H Q=>ta σ H fun x H1=>tb σ H1 fun y H2=>r x y H2 fun z H3=>∃ k,z = .bl k /\
 (if k = true then tc σ H3 fun w' H4=>r' y w' H4 Q else Q (.bl false) H3)
theorem xf {op op':CmpOp} {r r':R2} (ho:OpR X (compareOp op) r) (ho':OpR X (compareOp op') r') (ha:PE X a ta) (hb:PE X b tb) (hc:PE X c tc)
  (hm:lastMarks [op,op'] [b,c] = false:=by with_unfolding_all rfl):PE X (.Compare a [op,op'] [b,c] pos) (nM r r' ta tb tc):=by
 intro pins s σ H Q I h
 refine Compare_chain (thn (ha pins s σ H _ I h) fun v s1 ⟨x,H1,I1,r1,q1⟩=>chain_link (thn (hb pins s1 σ H1 _ I1 q1) fun u s2 ⟨y,H2,I2,r2,q2⟩=>
  thn (ho pins s2 σ H2 x y v u _ I2 r1 r2 q2) fun d s3 ⟨z,H3,I3,r3,k,e,q3⟩=>?_)) hm
 subst e
 cases r3
 refine wpAny_truthy_bool ?_
 cases k with
 | false=>exact ite_ff ⟨.bl false,H3,I3,rfl,q3⟩
 | true=>exact ite_tt (chain_last (thn (hc pins s3 σ H3 _ I3 q3) fun w' s4 ⟨z',H4,I4,r4,q4⟩=>ho' pins s4 σ H4 y z' u w' Q I4 r2 r4 q4))
theorem xG {op op':CmpOp} {r r':R2} (ho:OpR X (compareOp op) r) (ho':OpR X (compareOp op') r') (ha:PE X a ta) (hb:PE X b tb) (hc:PE X c tc)
  (hm:lastMarks [op,op'] [b,c] = false:=by with_unfolding_all rfl):PT X (.Compare a [op,op'] [b,c] pos) (rF (nM r r' ta tb tc)):=by
 intro pins s σ H Q I h
 refine isTrue_chain (thn (ha pins s σ H _ I h) fun v s1 ⟨x,H1,I1,r1,q1⟩=>test_link (thn (hb pins s1 σ H1 _ I1 q1) fun u s2 ⟨y,H2,I2,r2,q2⟩=>
  thn (ho pins s2 σ H2 x y v u _ I2 r1 r2 q2) fun d s3 ⟨z,H3,I3,r3,k,e,q3⟩=>?_)) hm
 subst e
 cases r3
 refine wpAny_truthy_bool ?_
 cases k with
 | false=>
   obtain ⟨k',e',q'⟩:=q3
   cases e'
   exact ite_ff ⟨H3,I3,q'⟩
 | true=>
   refine ite_tt (test_last (thn (hc pins s3 σ H3 _ I3 q3) fun w' s4 ⟨z',H4,I4,r4,q4⟩=>thn (ho' pins s4 σ H4 y z' u w' _ I4 r2 r4 q4) fun d' s5 ⟨z2,H5,I5,r5,k2,e2,q5⟩=>?_))
   subst e2
   cases r5
   exact wpAny_truthy_bool ⟨H5,I5,q5⟩
def sN (K:PySem.W.Frag) (x:V) (H:Hp) (k:Bool):Prop:=
 match x with
 | .non=>k = false
 | .bl b=>k = b
 | .int i=>k = (i != 0)
 | .str y=>y.length <= sizeLine /\ k = ((y.length:Int) != 0)
 | .byt y=>y.size <= sizeLine /\ k = ((y.size:Int) != 0)
 | .ref p=>(∃ xs,SqL K H p xs /\ k = !xs.isEmpty) \/ (∃ xs,SqT K H p xs /\ k = !xs.isEmpty) \/ ∃ kvs,H p = some (.dK kvs) /\ k = !kvs.isEmpty
 | _=>False
theorem sP {κ:Type} {kvs:List (κ × V)} {vs:List (κ × Value)} (r:KV kvs vs):(!vs.isEmpty) = !kvs.isEmpty:=by
 cases r <;> rfl
theorem oM {xs:List V} {its:List Value} (r:Vals xs its):(!its.toArray.isEmpty) = !xs.isEmpty:=by
 cases r <;> simp
theorem oa:(sizeLine:Nat) < 2 ^ 63:=by rw [sizeLine_eq]; decide
theorem Br:F7 X (fun x H Q=>∃ k,sN X.K x H k /\ Q k H):=by
 intro pins s σ H x v Q I rx h
 obtain ⟨k,e,q⟩:=h
 have hl:=oa
 have hs:sizeLine = 16777216:=sizeLine_eq
 cases x with
 | non=>
   cases rx
   have e':k = false:=e
   subst e'
   exact truthy_none ⟨H,I,q⟩
 | bl b=>
   cases rx
   have e':k = b:=e
   subst e'
   exact wpAny_truthy_bool ⟨H,I,q⟩
 | int i=>
   obtain ⟨t,rfl⟩:=rx
   have e':k = (i != 0):=e
   subst e'
   exact PySem.P.truthy_int ⟨H,I,q⟩
 | str y=>
   obtain ⟨t,rfl⟩:=rx
   obtain ⟨hy,e'⟩:y.length <= sizeLine /\ k = ((y.length:Int) != 0):=e
   subst e'
   exact PySem.P.truthy_str (by omega) ⟨H,I.tok _,q⟩
 | byt y=>
   obtain ⟨t,rfl⟩:=rx
   obtain ⟨hy,e'⟩:y.size <= sizeLine /\ k = ((y.size:Int) != 0):=e
   subst e'
   exact PySem.W.truthy_bytes (by omega) ⟨H,I.tok _,q⟩
 | ref p=>
   cases rx
   have e':(∃ xs,SqL X.K H p xs /\ k = !xs.isEmpty) \/ (∃ xs,SqT X.K H p xs /\ k = !xs.isEmpty) \/ ∃ kvs,H p = some (.dK kvs) /\ k = !kvs.isEmpty:=e
   rcases e' with ⟨xs,hx,e'⟩ | ⟨xs,hx,e'⟩ | ⟨kvs,hx,e'⟩
   . subst e'
     obtain ⟨its,r,pl,hz⟩:=I.list hx
     have hlen:=r.length
     exact wpAny_truthy_list pl.isList (by simp only [List.size_toArray]; omega) ⟨H,I.tok _,by rw [oM r]; exact q⟩
   . subst e'
     obtain ⟨its,r,pl,hz⟩:=I.tuple hx
     have hlen:=r.length
     exact truthy_tuple pl (by simp only [List.size_toArray]; omega) ⟨H,I.tok _,by rw [oM r]; exact q⟩
   . subst e'
     obtain ⟨hz,hS,vs,r,m⟩:kvs.length <= sizeLine /\ (p == sysModules) = false /\ ∃ vs,KV kvs vs /\ s.heap.DictOf (qh X.prog X.w) p vs:=I.hok p _ hx
     have hlen:kvs.length = vs.length:=Paired.length r
     exact wpAny_truthy_dict hS m (by omega) ⟨H,I.tok _,by rw [sP r]; exact q⟩
 | _=>exact (show False from e).elim
theorem vW (ha:PE X a ta) (he:∀ whole,isTrue a X.env whole = (do let v <- whole; standAt a.pos; holding [v] (truthy v))):
  PT X a (fun σ H Q=>ta σ H fun x H'=>∃ k,sN X.K x H' k /\ Q k H'):=by
 intro pins s σ H Q I h
 exact isTrue_plain (thn (ha pins s σ H _ I h) fun v s1 ⟨x,H1,I1,r1,q1⟩=>Br pins s1 σ H1 x v Q I1 r1 q1) (he _)
theorem vals1 {x:V} {us:List Value} (r:Vals [x] us):∃ u,us = [u] /\ RelV x u:=by
 cases r with
 | cons r1 r2=>cases r2; exact ⟨_,rfl,r1⟩
theorem vQ:m3 X (.type "int") (fun xs H Q=>(∃ i,xs = [.int i] /\ Q (.int i) H) \/ ∃ k,xs = [.bl k] /\ Q (.int (if k then 1 else 0)) H):=by
 intro pins s σ H xs us Q I r h
 rcases h with ⟨i,rfl,q⟩ | ⟨k,rfl,q⟩
 . obtain ⟨u,rfl,t,rfl⟩:=vals1 r
   exact call_int_int ⟨.int i,H,I,⟨_,rfl⟩,q⟩
 . obtain ⟨u,rfl,r1⟩:=vals1 r
   cases r1
   exact call_int_bool ⟨.int (if k then 1 else 0),H,I.tok _,⟨_,rfl⟩,q⟩
end
end L2
namespace L2
open PySem PySem.Spec PyProof.Rows
structure tI (h:Heap) (x dx C:Addr) (mA:Str -> Option Value):Prop where
 obj:h.get? x = some (PySem.W.instObj C dx)
 ns:h.Ns1 dx mA
 ne:dx ≠ x
theorem pw {h:Heap} {dx:Addr} {mA:Str -> Option Value} (n:h.Ns1 dx mA):∃ od,h.get? dx = some od /\ ∀ name,PySem.W.lookIn name od = some (mA name):=by
 obtain ⟨o,es,ep,ho,hd,hk,_,hm⟩:=n
 refine ⟨o,ho,fun name=>?_⟩
 have e:=hm name
 unfold nsFind findBy at e
 rw [<- Array.find?_toList] at e
 unfold PySem.W.lookIn
 rw [hd]
 dsimp only
 split
 . rename_i y q
   rw [q] at e
   exact congrArg some e
 . rename_i q
   rw [q] at e
   have a:es.toList.any (·.refKey) = false:=by
    rw [List.any_eq_false]
    intro y hy
    obtain ⟨z,t,hkey⟩:=hk y (Array.mem_toList_iff.mp hy)
    simp [DictEntry.refKey,hkey]
   have a':¬ es.toList.any (·.refKey) = true:=by rw [a]; exact Bool.false_ne_true
   rw [if_neg a']
   exact congrArg some e
theorem tI.look {h:Heap} {x dx C:Addr} {mA:Str -> Option Value} (I:tI h x dx C mA):∃ od,PySem.W.InstAt h x (PySem.W.instObj C dx) C (some od) /\ ∀ name,PySem.W.lookIn name od = some (mA name):=
 let ⟨od,ho,hl⟩:=pw I.ns
 ⟨od,⟨I.obj,rfl,rfl,ho⟩,hl⟩
section
variable {prog:Program} {w:World} {A:Around} {E:Value -> Shared -> Prop} {s:Shared} {K:PySem.W.Frag} {x dx C f:Addr} {mA:Str -> Option Value} {name:Str} {v:Value}
theorem get_map {expr:Bool} {Q:Value -> Shared -> Prop} (X:K.In s.heap) (I:tI s.heap x dx C mA) (hg:PySem.W.plainGet K C name = true) (hh:PySem.W.hasDictIn K C = true)
  (ha:PySem.W.findIn K (.ref C) name = some none) (hv:mA name = some v) (hv':PySem.W.handedIn v = true) (h:Q v { s with toks:=s.toks + 1 }):
  wpAny (model prog w) A (getAttr (.ref x) name expr) Q E s:=by
 obtain ⟨od,J,hl⟩:=I.look
 exact PySem.W.get_value X J (PySem.W.plainGet_of hg).1 (PySem.W.findObj_own hh ha rfl (by rw [hl,hv])) hv' h
theorem v3 {pl:Sem Bool} {Q:Value × List Value -> Shared -> Prop} (X:K.In s.heap) (I:tI s.heap x dx C mA) (hg:PySem.W.plainGet K C name = true)
  (hf:PySem.W.findIn K (.ref C) name = some (some (.ref f))) (ht:PySem.W.isFn K (.ref f) = true) (hv:mA name = none) (h:Q (.ref f,[.ref x]) s):
  wpAny (model prog w) A (getMethod (.ref x) name pl) Q E s:=by
 obtain ⟨od,J,hl⟩:=I.look
 exact PySem.W.method_fn X J (PySem.W.plainGet_of hg).1 (PySem.W.plainGet_of hg).2 hf (beq_iff_eq.mp ht) (by show (PySem.W.lookIn name od).map (·.isSome) = some false; rw [hl,hv]; rfl) h
theorem zi {ns:List Str} {Q:Unit -> Shared -> Prop} (X:K.In s.heap) (I:tI s.heap x dx C mA)
  (hs:PySem.W.findIn K (.ref C) "__setattr__" = some (some (.builtin "object.__setattr__"))) (hp:PySem.W.plainOver K C = true) (ht:PySem.W.takerIn K C name = some none) (hh:PySem.W.hasDictIn K C = true)
  (hw:PySem.Within mA ns) (hsz:ns.length <= sizeLine)
  (h:∀ h',tI h' x dx C (fun y=>if y = name then some v else mA y) -> Heap.SameBut dx s.heap h' -> Q () { s with heap:=h',toks:=s.toks + 2 }):
  wpAny (model prog w) A (setAttr (.ref x) name v) Q E s:=by
 obtain ⟨od,J,hl⟩:=I.look
 refine PySem.W.set_plain X J hs (PySem.W.osa_open (s:={ s with toks:=s.toks + 1 }) (r:=none) X J hp ht fun b=>?_)
 obtain ⟨cd,hc,hd'⟩:=PySem.W.any_some hh
 have hx:s.heap.get? x = some ⟨.ref C,some dx,.plain,#[]⟩:=I.obj
 refine wpAny_bind (wpAny_pure (wpAny_bind (wpAny_bind (wpAny_loadPart hx (wpAny_bind (PySem.W.Looks.here (s:={ s with toks:=s.toks + 1 }) (PySem.W.looks_clsIn X hc) ?_))))))
 rw [hd']
 refine wpAny_pure (a:=some dx) (wpAny_bind (wpAny_pure (wpAny_bind ?_)))
 refine wpAny_nsSet1 (s:={ s with toks:=s.toks + 1 }) I.ns fun h' hn2 hs2=>?_
 obtain ⟨oD,esD,epD,hoD,hdD,hcD⟩:=hn2.count (PySem.Within.cons name v hw)
 refine wpAny_bind (wpAny_lookBehind hoD (by rw [hdD]; exact pastItsLine_dict (Nat.le_trans hcD (by rw [List.length_cons]; omega))) ?_)
 exact wpAny_pure (h _ ⟨(hs2.2 _ (Ne.symm I.ne)).trans I.obj,hn2,I.ne⟩ hs2)
theorem wd {R:Result -> Shared -> Prop} {vs:List Value} {kw:List (Str × Value)} (X:K.In s.heap) (hm:PySem.W.makesIn K C = true)
  (hi:PySem.W.findIn K (.ref C) "__init__" = some (some (.ref f))) (hf:PySem.W.typeIn K (.ref f) = some (.type "function"))
  (h:codeAny (model prog w) (A.under (.builtin "type.__call__" ⟨.ref C ::vs,kw⟩)) (.call (.ref f) ⟨.ref (s.heap.objs.size + 1) ::vs,kw⟩) (PySem.W.InitBack (s.heap.objs.size + 1) R)
    { s with heap:=(s.heap.push PySem.W.emptyDict).push (PySem.W.instObj C s.heap.objs.size) }):
  codeAny (model prog w) A (.call (.ref C) ⟨vs,kw⟩) R s:=by
 obtain ⟨hh,g,d,t,os⟩:=s
 exact PySem.W.make_core (PySem.W.makes_of X hm) (PySem.W.looks_findIn X hi) (fun self=>PySem.W.bind_fn X self hf) (.inl rfl) h
end
def gZ (f:Str) (v:V):List (Str × V) -> List (Str × V)
 | []=>[(f,v)]
 | (g,x) ::r=>if g = f then (g,v) ::r else (g,x) ::gZ f v r
theorem m4 (f g:Str) (v:V):∀ fs:List (Str × V),(gZ f v fs).lookup g = if g = f then some v else fs.lookup g
 | []=>by
   show List.lookup g [(f,v)] = _
   by_cases h:g = f
   . have hb:(g == f) = true:=beq_iff_eq.mpr h
     simp only [List.lookup,hb,if_pos h]
   . have hb:(g == f) = false:=beq_eq_false_iff_ne.mpr h
     simp only [List.lookup,hb,if_neg h]
 | (k,x) ::r=>by
   have ih:=m4 f g v r
   rw [show gZ f v ((k,x) ::r) = (if k = f then (k,v) ::r else (k,x) ::gZ f v r) from rfl]
   by_cases hk:k = f
   . rw [if_pos hk]
     by_cases h:g = k
     . have hb:(g == k) = true:=beq_iff_eq.mpr h
       simp only [List.lookup,hb,if_pos (h.trans hk)]
     . have hb:(g == k) = false:=beq_eq_false_iff_ne.mpr h
       simp only [List.lookup,hb,if_neg (fun e:g = f=>h (e.trans hk.symm))]
   . rw [if_neg hk]
     by_cases h:g = k
     . have hb:(g == k) = true:=beq_iff_eq.mpr h
       simp only [List.lookup,hb,if_neg (fun e:g = f=>hk (h.symm.trans e))]
     . have hb:(g == k) = false:=beq_eq_false_iff_ne.mpr h
       simp only [List.lookup,hb]
       exact ih
theorem mO (f:Str) (v:V):∀ fs:List (Str × V),f ∈ (gZ f v fs).map (·.1) /\ ∀ g,g ∈ fs.map (·.1) -> g ∈ (gZ f v fs).map (·.1)
 | []=>⟨by simp [gZ],fun g h=>by simp at h⟩
 | (k,x) ::r=>by
   obtain ⟨i1,i2⟩:=mO f v r
   rw [show gZ f v ((k,x) ::r) = (if k = f then (k,v) ::r else (k,x) ::gZ f v r) from rfl]
   by_cases hk:k = f
   . rw [if_pos hk]
     subst hk
     exact ⟨by simp,fun g h=>by simpa using h⟩
   . rw [if_neg hk]
     refine ⟨?_,fun g h=>?_⟩
     . rw [List.map_cons]
       exact List.mem_cons_of_mem _ i1
     . rw [List.map_cons] at h ⊢
       rcases List.mem_cons.mp h with e | e
       . exact List.mem_cons.mpr (.inl e)
       . exact List.mem_cons_of_mem _ (i2 g e)
theorem mW (f:Str) (v:V):∀ fs:List (Str × V),(gZ f v fs).length <= fs.length + 1
 | []=>by simp [gZ]
 | (k,x) ::r=>by
   have ih:=mW f v r
   rw [show gZ f v ((k,x) ::r) = (if k = f then (k,v) ::r else (k,x) ::gZ f v r) from rfl]
   by_cases hk:k = f
   . rw [if_pos hk,List.length_cons,List.length_cons]; omega
   . rw [if_neg hk,List.length_cons,List.length_cons]; omega
theorem bJ.some_of {v:V} {o:Option Value} (r:bJ (some v) o):∃ u,o = some u /\ RelV v u:=by
 cases o with
 | none=>exact (show False from r).elim
 | some u=>exact ⟨u,rfl,r⟩
theorem bJ.none_of {o:Option Value} (r:bJ none o):o = none:=by
 cases o with
 | none=>rfl
 | some u=>exact (show False from r).elim
theorem pb {v:V} {u:Value} (r:RelV v u):PySem.W.handedIn u = true:=by
 cases v with
 | non=>cases (show u = Value.none from r); rfl
 | bl b=>cases (show u = Value.bool b from r); rfl
 | int i=>obtain ⟨t,e⟩:=(show ∃ t,u = Value.int i t from r); cases e; rfl
 | str x=>obtain ⟨t,e⟩:=(show ∃ t,u = Value.str x t from r); cases e; rfl
 | byt b=>obtain ⟨t,e⟩:=(show ∃ t,u = Value.bytes b t from r); cases e; rfl
 | flt b=>obtain ⟨t,e⟩:=(show ∃ t,u = Value.float b t from r); cases e; rfl
 | ref a=>cases (show u = Value.ref a from r); rfl
 | ty n=>cases (show u = Value.type n from r); rfl
section
variable {P:Program} {w:World} {H H':Hp} {h h':Heap} {a C dx:Addr} {fs fs':List (Str × V)}
theorem qr (hok:HOk P w H h) (e:H a = some (.ins C dx fs)):∃ mA,tI h a dx C mA /\ (∀ f,bJ (fs.lookup f) (mA f)) /\ PySem.Within mA (fs.map (·.1)) /\ fs.length <= 1000 /\ H dx = some (.own a):=by
 obtain ⟨d,z,ne,ob,mA,n,r,q⟩:=(show gm P w H h a (.ins C dx fs) from hok a _ e)
 exact ⟨mA,⟨ob,n,ne⟩,r,q,z,d⟩
end
structure Cls (K:PySem.W.Frag) (C:Addr):Prop where
 pg:PySem.W.plainGet K C Str.empty = true
 hd:PySem.W.hasDictIn K C = true
 po:PySem.W.plainOver K C = true
 sa:PySem.W.findIn K (.ref C) "__setattr__" = some (some (.builtin "object.__setattr__"))
theorem Cls.get {K:PySem.W.Frag} {C:Addr} (c:Cls K C) (f:Str):PySem.W.plainGet K C f = true:=c.pg
def iM (K:PySem.W.Frag) (C:Addr) (f:Str):Prop:=PySem.W.findIn K (.ref C) f = some none
theorem iM.DE {K:PySem.W.Frag} {C:Addr} {f:Str} (n:iM K C f):PySem.W.takerIn K C f = some none:=by
 unfold PySem.W.takerIn
 rw [show PySem.W.findIn K (.ref C) f = some none from n]
 rfl
structure Meth (K:PySem.W.Frag) (C:Addr) (m:Str) (f:Addr):Prop where
 at_:PySem.W.findIn K (.ref C) m = some (some (.ref f))
 fn:PySem.W.isFn K (.ref f) = true
 kp:PySem.W.keepIn K (.ref f) = true
section
variable {X:Cx} {pins:List (Addr × Obj)} {σ:St} {H:Hp} {s:Shared} {a C dx:Addr} {fs:List (Str × V)} {f:Str} {v:V} {A:Around} {E:Value -> Shared -> Prop}
theorem sM {b:Bool} {Q:Value -> Shared -> Prop} (I:Inv X pins σ H s) (e:H a = some (.ins C dx fs)) (c:Cls X.K C) (n:iM X.K C f) (l:fs.lookup f = some v)
  (h:∀ u s',Inv X pins σ H s' -> RelV v u -> Q u s'):wpAny (model X.prog X.w) A (getAttr (.ref a) f b) Q E s:=by
 obtain ⟨mA,O,r,_,_,_⟩:=qr I.hok e
 obtain ⟨u,hu,ru⟩:=bJ.some_of (v:=v) (o:=mA f) (by rw [<- l]; exact r f)
 exact get_map I.kIn O (c.get f) c.hd n hu (pb ru) (h u _ (I.tok _) ru)
theorem nW {m:Str} {g:Addr} {pl:Sem Bool} {Q:Value × List Value -> Shared -> Prop} (I:Inv X pins σ H s) (e:H a = some (.ins C dx fs)) (c:Cls X.K C) (k:Meth X.K C m g) (l:fs.lookup m = none)
  (h:Q (.ref g,[.ref a]) s):wpAny (model X.prog X.w) A (getMethod (.ref a) m pl) Q E s:=by
 obtain ⟨mA,O,r,_,_,_⟩:=qr I.hok e
 have hn:mA m = none:=bJ.none_of (by rw [<- l]; exact r m)
 exact v3 I.kIn O (c.get m) k.at_ k.fn hn h
theorem uc {y:V} {u:Value} {Q:Unit -> Shared -> Prop} (I:Inv X pins σ H s) (e:H a = some (.ins C dx fs)) (c:Cls X.K C) (n:iM X.K C f) (hl:fs.length < 1000) (ry:RelV y u)
  (h:∀ s',Inv X pins σ (upd H a (.ins C dx (gZ f y fs))) s' -> Q () s'):wpAny (model X.prog X.w) A (setAttr (.ref a) f u) Q E s:=by
 obtain ⟨mA,O,r,wi,_,ho⟩:=qr I.hok e
 have hz:(fs.map (·.1)).length <= sizeLine:=by rw [List.length_map,sizeLine_eq]; omega
 refine zi I.kIn O c.sa c.po n.DE c.hd wi hz fun h' O' sb=>h _ ?_
 have hd:∃ o,h'.get? dx = some o:=let ⟨o,_,_,e',_⟩:=O'.ns; ⟨o,e'⟩
 refine I.write (x:=a) (e:=dx) (by rw [e]; exact True.intro) (.inr ho) (fun b q hb z=>(sb.2 b hb).trans z) hd ?_
 refine ⟨by rw [aO O.ne]; exact ho,?_,O.ne,O'.obj,_,O'.ns,fun g=>?_,fun g hg=>?_⟩
 . have:=mW f y fs; omega
 . show bJ ((gZ f y fs).lookup g) (if g = f then some u else mA g)
   rw [m4]
   by_cases q:g = f
   . rw [if_pos q,if_pos q]; exact ry
   . rw [if_neg q,if_neg q]; exact r g
 . by_cases q:g = f
   . rw [q]; exact (mO f y fs).1
   . refine (mO f y fs).2 g (wi g fun z=>hg ?_)
     show (if g = f then some u else mA g) = none
     rw [if_neg q]; exact z
theorem Inv.made (I:Inv X pins σ H s):Inv X pins σ (upd (upd H s.heap.objs.size (.own (s.heap.objs.size + 1))) (s.heap.objs.size + 1) (.ins C s.heap.objs.size []))
  { s with heap:=(s.heap.push PySem.W.emptyDict).push (PySem.W.instObj C s.heap.objs.size) }:=by
 have e1:(s.heap.push PySem.W.emptyDict).get? s.heap.objs.size = some PySem.W.emptyDict:=Heap.get?_push_size s.heap rfl
 have e2:((s.heap.push PySem.W.emptyDict).push (PySem.W.instObj C s.heap.objs.size)).get? (s.heap.objs.size + 1) = some (PySem.W.instObj C s.heap.objs.size):=by
  have:=Heap.get?_push_size (s.heap.push PySem.W.emptyDict) (o:=PySem.W.instObj C s.heap.objs.size) rfl
  rwa [Heap.size_push] at this
 have e3:(s.heap.push PySem.W.emptyDict).Ns s.heap.objs.size (fun _=>none):=⟨PySem.W.emptyDict,#[],_,e1,rfl,(fun e he=>absurd he (by simp)),fun _=>rfl⟩
 have I1:=I.laid (a:=s.heap.objs.size) (o:=.own (s.heap.objs.size + 1)) (h':=s.heap.push PySem.W.emptyDict) (t':=s.toks) (fun b u q=>Heap.get?_push_of_some _ q) (Nat.le_refl _) ⟨_,e1⟩
 refine I1.laid (a:=s.heap.objs.size + 1) (o:=.ins C s.heap.objs.size []) (t':=s.toks) (fun b u q=>Heap.get?_push_of_some _ q) (Nat.le_of_eq (Heap.size_push _ _)) ?_
 have ne:s.heap.objs.size ≠ s.heap.objs.size + 1:=Nat.ne_of_lt (Nat.lt_succ_self _)
 refine ⟨by rw [aO ne,aX],Nat.zero_le _,ne,e2,fun _=>none,(Heap.Ns1.of_empty e3).at fun o q=>Heap.get?_push_of_some _ q,fun _=>True.intro,fun y hy=>absurd rfl hy⟩
theorem uO {prog:Program} {w:World} {env:Env} {e:Expr} {f:Str} {pos:Pos} {s:Shared} {Q:Value -> Shared -> Prop} (hb:attributeBase e f env (eval e env) = eval e env)
  (h:wpAny (model prog w) A (eval e env) (fun o s₁=>wpAny (model prog w) A (getAttr o f true) Q E s₁) E s):wpAny (model prog w) A (eval (.Attribute e f pos) env) Q E s:=
 Attribute_any_ h (by rw [arm_eval_Attribute,hb])
end
def Bv (K:PySem.W.Frag) (ta:TE) (f:Str):TE:=fun σ H Q=>ta σ H fun x H1=>∃ a C dx fs v,x = .ref a /\ H1 a = some (.ins C dx fs) /\ Cls K C /\ iM K C f /\ fs.lookup f = some v /\ Q v H1
def Cv (K:PySem.W.Frag) (ta tv:TE) (f:Str):TS:=fun D σ H=>tv σ H fun y H1=>ta σ H1 fun x H2=>∃ a C dx fs,x = .ref a /\ H2 a = some (.ins C dx fs) /\ Cls K C /\ iM K C f /\ fs.length < 1000 /\
 D.nx σ (upd H2 a (.ins C dx (gZ f y fs)))
section
variable {X:Cx} {o e value:Expr} {f:Str} {pos pos' tpos:Pos} {ta tv:TE}
theorem BN (he:PE X e ta) (hb:attributeBase e f X.env (eval e X.env) = eval e X.env):PE X (.Attribute e f pos) (Bv X.K ta f):=by
 intro pins s σ H Q I h
 refine uO hb (thn (he pins s σ H _ I h) fun u s1 ⟨x,H1,I1,rx,a,C,dx,fs,v,ex,ea,c,n,l,q⟩=>?_)
 subst ex
 obtain rfl:u = Value.ref a:=rx
 exact sM I1 ea c n l fun u' s2 I2 ru=>⟨v,H1,I2,ru,q⟩
theorem BK (ha:PE X o ta) (hv:PE X value tv) (hs:swapsWith value (some (.Attribute o f pos')) pos.line X.env = pure false):PS X (.Assign [.Attribute o f pos'] value pos) (Cv X.K ta tv f):=by
 intro pins s σ H D I h
 refine plainObj_wpAny_Assign_Attribute (thn (hv pins s σ H _ I h) fun u s1 ⟨y,H1,I1,ry,q⟩=>thn (ha pins s1 σ H1 _ I1 q) fun ov s2 ⟨x,H2,I2,rx,a,C,dx,fs,ex,ea,c,n,l,q2⟩=>?_) hs
 subst ex
 obtain rfl:ov = Value.ref a:=rx
 exact uc I2 ea c n l ry fun s3 I3=>⟨σ,_,I3,q2⟩
end
end L2
namespace L2
open PySem PySem.Spec PyProof.Rows
structure fJ (k:Nat) (A:Around):Prop where
 hd:A.handled = none
 dp:A.depth + 3 * k + 5 < recursionLimit
 un:A.units + 16 * k + 200 < cLine
theorem fJ.mono {j k:Nat} {A:Around} (r:fJ k A) (h:j <= k):fJ j A:=⟨r.hd,by have:=r.dp; omega,by have:=r.un; omega⟩
theorem fJ.deeper {k:Nat} {A:Around} (r:fJ (k + 1) A) (env:Env):fJ k (A.deeper env):=
 ⟨r.hd,by have:=r.dp; show A.depth + 1 + 3 * k + 5 < _; omega,by have:=r.un; show A.units + 3 + 16 * k + 200 < _; omega⟩
theorem sY {A:Around} {C:Addr} {us:List Value} {kw:List (Str × Value)}:(A.under (.builtin "type.__call__" ⟨.ref C ::us,kw⟩)).depth = A.depth + 1:=by
 first | rfl | simp [Around.under,Code.weight,Code.isCreation,Code.isGuard,Code.isCaller,Code.frames,Code.isFrame,guardIds]
theorem tX {A:Around} {C:Addr} {us:List Value} {kw:List (Str × Value)}:(A.under (.builtin "type.__call__" ⟨.ref C ::us,kw⟩)).units = A.units + 1:=by
 first | rfl | simp [Around.under,Code.cUnits,Code.frames,Code.isFrame]
theorem fJ.make {k:Nat} {A:Around} (r:fJ (k + 1) A) (C:Addr) (us:List Value) (kw:List (Str × Value)):fJ k (A.under (.builtin "type.__call__" ⟨.ref C ::us,kw⟩)):=
 ⟨r.hd,by have:=r.dp; rw [sY]; omega,by have:=r.un; rw [tX]; omega⟩
theorem fJ.depth {k:Nat} {A:Around} (r:fJ k A):A.depth < recursionLimit:=by have:=r.dp; omega
theorem fJ.units {k:Nat} {A:Around} (r:fJ k A):A.units + 64 < cLine:=by have:=r.un; omega
def jM:TA:=fun _ H Q=>Q [] H
def iI (ta:TE) (tr:TA):TA:=fun σ H Q=>ta σ H fun x H1=>tr σ H1 fun xs H2=>Q (x ::xs) H2
section
variable {X:Cx} {e:Expr} {es:List Expr} {te:TE} {t:TA} {pos:Pos}
theorem Bo:PA X [] jM:=fun _ _ _ _ H Q I h=>Calls.spliced_nil ⟨[],H,I,.nil,h⟩
theorem Af (ha:PE X e te) (hr:PA X es t) (hs:starEach (e ::es) X.env = (false,eval e X.env) ::starEach es X.env:=by rfl):PA X (e ::es) (iI te t):=by
 intro pos pins s σ H Q I h
 rw [hs]
 show wpAny _ _ (spliced ((false,eval e X.env) ::backTo pos (starEach es X.env))) _ _ s
 refine Calls.spliced_cons (thn (ha pins s σ H _ I h) fun u s1 ⟨x,H1,I1,r1,q1⟩=>?_)
 exact thn (hr pos pins s1 σ H1 _ I1 q1) fun us s2 ⟨xs,H2,I2,r2,q2⟩=>⟨x ::xs,H2,I2,.cons r1 r2,q2⟩
def Dj (t:TA):TE:=fun σ H Q=>t σ H fun xs H1=>xs.length <= sizeLine /\ ∀ p,H1 p = none -> Q (.ref p) (upd H1 p (.tup xs))
def Cu (t:TA):TE:=fun σ H Q=>t σ H fun xs H1=>xs.length <= sizeLine /\ ∀ p,H1 p = none -> Q (.ref p) (upd H1 p (.lst xs))
theorem Bl {x1} (h:PA X es t):PE X (.Tuple es x1 pos) (Dj t):=by
 intro pins s σ H Q I hq
 refine wpAny_Tuple_spliced (thn (h pos pins s σ H _ I hq) fun us s1 ⟨xs,H1,I1,r,z,q⟩=>⟨by rw [<- r.length]; exact z,?_⟩)
 have hf:H1 s1.heap.objs.size = none:=I1.hok.fresh (Nat.le_refl _)
 refine ⟨.ref s1.heap.objs.size,upd H1 s1.heap.objs.size (.tup xs),I1.laid (t':=s1.toks) (fun b u e=>Heap.get?_push_of_some _ e) (Nat.le_refl _) ?_,rfl,q _ hf⟩
 exact ⟨z,us,r,⟨_,Heap.get?_push_size _ rfl,rfl,_,rfl⟩⟩
theorem By (h:PA X es t):PE X (.List es pos) (Cu t):=by
 intro pins s σ H Q I hq
 refine wpAny_List_spliced (thn (h pos pins s σ H _ I hq) fun us s1 ⟨xs,H1,I1,r,z,q⟩=>⟨by rw [<- r.length]; exact z,?_⟩)
 have hf:H1 s1.heap.objs.size = none:=I1.hok.fresh (Nat.le_refl _)
 refine ⟨.ref s1.heap.objs.size,upd H1 s1.heap.objs.size (.lst xs),I1.laid (t':=s1.toks) (fun b u e=>Heap.get?_push_of_some _ e) (Nat.le_refl _) ?_,rfl,q _ hf⟩
 exact ⟨z,us,0,r,Heap.get?_push_size _ rfl⟩
end
abbrev Sp:=List V -> Hp -> VK -> XK -> Prop
abbrev CXT:=List Env -> Hp -> Shared -> XK -> Value -> Shared -> Prop
structure ui (P:Program) (w:World) (K:PySem.W.Frag) (mg:Str -> Option Value) (base:Heap) (A:Around) (outer:List Env) (s:Shared) (H:Hp):Prop where
 frames:A.frames = some outer
 mod:Mod K mg base
 bs:∀ b o,base.get? b = some o -> s.heap.get? b = some o /\ H b = none
 bsz:base.objs.size <= s.heap.objs.size
 nc:s.heap.FunFrames base outer
 frf:∀ b ∈ frs outer,H b = none
 hok:HOk P w H s.heap
 bare:AllBare s.gens
def CE (outer:List Env) (P:Program) (w:World) (H:Hp) (s:Shared) (Q:VK) (u:Value) (s':Shared):Prop:=
 ∃ v H',s'.os = s.os /\ AllBare s'.gens /\ Un (frs outer) [] H H' s.heap s'.heap /\ HOk P w H' s'.heap /\ RelV v u /\ Q v H'
def CR (CX:CXT) (outer:List Env) (P:Program) (w:World) (H:Hp) (s:Shared) (Q:VK) (E:XK) (r:Result) (s':Shared):Prop:=
 match r with
 | .ok (.ret u)=>CE outer P w H s Q u s'
 | .ok _=>False
 | .error e=>CX outer H s E e s'
structure cy (P:Program) (w:World) (K:PySem.W.Frag) (mg:Str -> Option Value) (base:Heap) (CX:CXT) (k:Nat) (f:Addr) (fd:FuncData) (ps:List Str) (sp:Sp):Prop where
 len:∀ vs H Q E,sp vs H Q E -> vs.length = ps.length
 run:∀ (A:Around) (outer:List Env) (s:Shared) (H:Hp) (args:Args) (us:List Value) (vs:List V) (Q:VK) (E:XK),fJ k A -> ui P w K mg base A outer s H -> BindsTo s fd args (ps.zip us) -> Vals vs us -> sp vs H Q E ->
  codeAny (model P w) A (.call (.ref f) args) (CR CX outer P w H s Q E) s
theorem cy.mono {P:Program} {w:World} {K:PySem.W.Frag} {mg:Str -> Option Value} {base:Heap} {CX:CXT} {j k:Nat} {f:Addr} {fd:FuncData} {ps:List Str} {sp:Sp} (F:cy P w K mg base CX j f fd ps sp) (h:j <= k):
  cy P w K mg base CX k f fd ps sp:=⟨F.len,fun A outer s H args us vs Q E hr=>F.run A outer s H args us vs Q E (hr.mono h)⟩
theorem cy.imp {P:Program} {w:World} {K:PySem.W.Frag} {mg:Str -> Option Value} {base:Heap} {CX:CXT} {k:Nat} {f:Addr} {fd:FuncData} {ps:List Str} {sp sp':Sp} (F:cy P w K mg base CX k f fd ps sp)
  (h:∀ vs H Q E,sp' vs H Q E -> sp vs H Q E):cy P w K mg base CX k f fd ps sp':=
 ⟨fun vs H Q E q=>F.len vs H Q E (h _ _ _ _ q),fun A outer s H args us vs Q E hr he hb hv hs=>F.run A outer s H args us vs Q E hr he hb hv (h _ _ _ _ hs)⟩
theorem ui.make {P:Program} {w:World} {K:PySem.W.Frag} {mg:Str -> Option Value} {base:Heap} {A:Around} {outer:List Env} {s:Shared} {H:Hp} (e:ui P w K mg base A outer s H) (C:Addr) (us:List Value) (kw:List (Str × Value)):
  ui P w K mg base (A.under (.builtin "type.__call__" ⟨.ref C ::us,kw⟩)) outer s H:=⟨by first | exact e.frames | (simpa [Around.under,Code.envs,Code.isFrame,pushEnvs] using e.frames),e.mod,e.bs,e.bsz,e.nc,e.frf,e.hok,e.bare⟩
section
variable {X:Cx} {pins:List (Addr × Obj)} {σ:St} {H:Hp} {s s':Shared}
theorem Inv.Bw (I:Inv X pins σ H s):ui X.prog X.w X.K X.mg X.base X.A X.stack s H:=
 ⟨I.ok.frames,I.ok.mod,I.bs,Nat.le_trans I.ok.bsz I.sz,I.stack,I.qS,I.hok,I.bare⟩
theorem Inv.after {Q:VK} {u:Value} (I:Inv X pins σ H s) (h:CE X.stack X.prog X.w H s Q u s'):EP X pins σ Q u s':=by
 obtain ⟨v,H',os,bare,un,hok,r,q⟩:=h
 obtain ⟨hh,g,d,t,os'⟩:=s'
 obtain rfl:os' = s.os:=os
 exact ⟨v,H',I.call (h':=hh) (g':=g) (d':=d) (t':=t) (ch:=[]) un hok bare (fun b z=>absurd z (by simp)),r,q⟩
end
def xt (C:Addr) (sp:Sp) (dvs:List V) (E:XK) (t:TA):TE:=fun σ H Q=>t σ H fun vs H1=>∀ x dx,H1 x = none -> H1 dx = none -> dx ≠ x ->
 sp (.ref x ::(vs ++ dvs)) (upd (upd H1 dx (.own x)) x (.ins C dx [])) (fun v H2=>v = .non /\ Q (.ref x) H2) E
def Binds (K:PySem.W.Frag) (fd:FuncData) (ps:List Str) (ds:List Value):Prop:=
 ∀ (s:Shared) (us:List Value),K.In s.heap -> (us ++ ds).length = ps.length -> BindsTo s fd ⟨us,[]⟩ (ps.zip (us ++ ds))
theorem Binds.all {K:PySem.W.Frag} {fd:FuncData} {ps:List Str} (h:∀ us:List Value,us.length = ps.length -> bindArgs fd ⟨us,[]⟩ = pure (ps.zip us)):Binds K fd ps []:=fun s us _ hl=>by
 rw [List.append_nil] at hl ⊢
 exact .of_eq (h us hl)
def Passes (CX:CXT) (X:Cx) (E:XK):Prop:=∀ (pins:List (Addr × Obj)) (σ:St) (H:Hp) (s:Shared) (e:Value) (s':Shared),Inv X pins σ H s -> CX X.stack H s E e s' -> X.xe e s'
section
variable {X:Cx} {CX:CXT} {k:Nat} {f C:Addr} {fd:FuncData} {ps:List Str} {sp:Sp} {dvs:List V} {ds:List Value} {E:XK} {x m:Str} {p pos apos:Pos} {e o:Expr} {es:List Expr} {ta:TE} {t:TA}
structure Mk (K:PySem.W.Frag) (C f:Addr):Prop where
 makes:PySem.W.makesIn K C = true
 init:PySem.W.findIn K (.ref C) "__init__" = some (some (.ref f))
 fn:PySem.W.isFn K (.ref f) = true
 kp:PySem.W.keepIn K (.ref C) = true
theorem xN {pins:List (Addr × Obj)} {σ:St} {H:Hp} {s:Shared} {Q:VK} {us:List Value} {vs:List V} (M:Mk X.K C f) (F:cy X.prog X.w X.K X.mg X.base CX k f fd ps sp) (hr:fJ (k + 1) X.A) (hb:Binds X.K fd ps ds) (hd:Vals dvs ds)
  (hx:Passes CX X E) (I:Inv X pins σ H s) (r:Vals vs us)
  (h:∀ x dx,H x = none -> H dx = none -> dx ≠ x -> sp (.ref x ::(vs ++ dvs)) (upd (upd H dx (.own x)) x (.ins C dx [])) (fun v H2=>v = .non /\ Q (.ref x) H2) E):
  wpAny (model X.prog X.w) X.A (call (.ref C) us) (EP X pins σ Q) X.xe s:=by
 have hq:=h (s.heap.objs.size + 1) s.heap.objs.size (I.hok.fresh (Nat.le_succ _)) (I.hok.fresh (Nat.le_refl _)) (Nat.ne_of_lt (Nat.lt_succ_self _))
 have I2:=Inv.made (C:=C) I
 have r2:Vals (V.ref (s.heap.objs.size + 1) ::(vs ++ dvs)) (Value.ref (s.heap.objs.size + 1) ::(us ++ ds)):=.cons rfl (r.append hd)
 have hl:(Value.ref (s.heap.objs.size + 1) ::us ++ ds).length = ps.length:=by
  have e:=r2.length
  rw [F.len _ _ _ _ hq] at e
  exact e.symm
 refine wpAny_call (wd (f:=f) I.kIn M.makes M.init (beq_iff_eq.mp M.fn) (codeAny_mono (F.run _ X.stack _ _ ⟨Value.ref (s.heap.objs.size + 1) ::us,[]⟩ (Value.ref (s.heap.objs.size + 1) ::(us ++ ds)) _ _ E (hr.make C us [])
  (I2.Bw.make C us []) (hb _ (Value.ref (s.heap.objs.size + 1) ::us) I2.kIn hl) r2 hq) fun r s' hq'=>?_))
 cases r with
 | error e=>exact hx pins σ _ _ e s' I2 hq'
 | ok fl=>
   cases fl with
   | ret u=>
     obtain ⟨v,H',I3,rv,ev,q3⟩:=I2.after hq'
     subst ev
     exact ⟨rv,⟨V.ref (s.heap.objs.size + 1),H',I3,rfl,q3⟩⟩
   | next=>exact False.elim hq'
   | brk=>exact False.elim hq'
   | cont=>exact False.elim hq'
theorem yo (M:Mk X.K C f) (F:cy X.prog X.w X.K X.mg X.base CX k f fd ps sp) (hr:fJ (k + 1) X.A) (hg:Gl X x) (hm:X.mg x = some (.ref C)) (hb:Binds X.K fd ps ds) (hd:Vals dvs ds) (hx:Passes CX X E)
  (hdb:(x == ("__debug__":Str)) = false:=by decide):PE X (.Call (.Name x p) [] [] pos) (xt C sp dvs E jM):=by
 intro pins s σ H Q I h
 refine wpAny_Call_Name_kw (kA I hg hm ?_ hdb)
 exact PySem.W.callWith_K0 I.kIn M.kp (xN (us:=[]) M F hr hb hd hx I .nil h)
end
structure aW (N P:List Str) (sc:Scope):Prop where
 kind:sc.kind = .function
 co:sc.isCoroutine = false
 gen:sc.isGenerator = false
 nd:N.Nodup
 pre:N.take P.length = P
 par:∀ x ∈ P,sc.names.lookup x = some .local \/ sc.names.lookup x = some .cell
 nofree:∀ y ∈ sc.names,y.2 ≠ .free
theorem pP {kindOf:Str -> Option NameKind} {x:Str}:∀ {binds:List (Str × Value)} {m:Str -> Option Value},(∀ v,(x,v) ∉ binds) -> bindL kindOf binds m x = m x
 | [],_,_=>rfl
 | (n,v) ::r,m,h=>by
   unfold bindL
   rw [pP fun w hw=>h w (List.mem_cons_of_mem _ hw)]
   split
   . have:x ≠ n:=by rintro rfl; exact h v List.mem_cons_self
     simp [this]
   . rfl
theorem pj {kindOf:Str -> Option NameKind} {x:Str}:∀ {binds:List (Str × Value)} {m:Str -> Option Value},(∀ v,(x,v) ∉ binds) -> bindC kindOf binds m x = m x
 | [],_,_=>rfl
 | (n,v) ::r,m,h=>by
   unfold bindC
   rw [pj fun w hw=>h w (List.mem_cons_of_mem _ hw)]
   split
   . rfl
   . have:x ≠ n:=by rintro rfl; exact h v List.mem_cons_self
     simp [this]
theorem pN {kindOf:Str -> Option NameKind} {x:Str} {v:Value}:∀ {P:List Str} {vs:List Value} {i:Nat} {m:Str -> Option Value},P.Nodup -> P[i]? = some x -> vs[i]? = some v -> kindOf x = some .local ->
  bindL kindOf (P.zip vs) m x = some v
 | [],_,_,_,_,h,_,_=>by simp at h
 | _ ::_,[],_,_,_,_,h,_=>by simp at h
 | p ::P,w ::vs,0,m,nd,h1,h2,hk=>by
   simp at h1 h2; subst h1; subst h2
   show bindL kindOf ((p,w) ::P.zip vs) m p = _
   unfold bindL
   rw [pP fun v hv=>(List.nodup_cons.mp nd).1 (List.of_mem_zip hv).1,if_pos hk]
   simp
 | p ::P,w ::vs,i + 1,m,nd,h1,h2,hk=>by
   show bindL kindOf ((p,w) ::P.zip vs) m x = _
   unfold bindL
   exact pN (i:=i) (List.nodup_cons.mp nd).2 (by simpa using h1) (by simpa using h2) hk
theorem pe {kindOf:Str -> Option NameKind} {x:Str} {v:Value}:∀ {P:List Str} {vs:List Value} {i:Nat} {m:Str -> Option Value},P.Nodup -> P[i]? = some x -> vs[i]? = some v -> kindOf x ≠ some .local ->
  bindC kindOf (P.zip vs) m x = some v
 | [],_,_,_,_,h,_,_=>by simp at h
 | _ ::_,[],_,_,_,_,h,_=>by simp at h
 | p ::P,w ::vs,0,m,nd,h1,h2,hk=>by
   simp at h1 h2; subst h1; subst h2
   show bindC kindOf ((p,w) ::P.zip vs) m p = _
   unfold bindC
   rw [pj fun v hv=>(List.nodup_cons.mp nd).1 (List.of_mem_zip hv).1,if_neg hk]
   simp
 | p ::P,w ::vs,i + 1,m,nd,h1,h2,hk=>by
   show bindC kindOf ((p,w) ::P.zip vs) m x = _
   unfold bindC
   exact pe (i:=i) (List.nodup_cons.mp nd).2 (by simpa using h1) (by simpa using h2) hk
def start (N:List Str) (vs:List V):St:=vs.map some ++ List.replicate (N.length - vs.length) none
def lF (CX:CXT) (P:Program) (w:World) (K:PySem.W.Frag) (mg:Str -> Option Value) (base:Heap) (N:List Str) (qual:Str) (scope:Scope) (f:Addr) (cd:Value) (A:Around) (outer:List Env) (s:Shared) (H:Hp) (E:XK):Cx where
 prog:=P
 w:=w
 K:=K
 mg:=mg
 base:=base
 A:=A.deeper (envOfC qual scope s.heap.objs.size f cd)
 N:=N
 s₀:=s
 H₀:=H
 env:=envOfC qual scope s.heap.objs.size f cd
 outer:=outer
 stack:=envOfC qual scope s.heap.objs.size f cd ::outer
 ex:=[]
 calm:=true
 fn:=fun _=>true
 pn:=[]
 xe:=fun e s'=>wpAny (model P w) (A.deeper (envOfC qual scope s.heap.objs.size f cd)) (leaving (envOfC qual scope s.heap.objs.size f cd) e) (fun _ s''=>CX outer H s E e s'') (fun e' s''=>CX outer H s E e' s'') s'
theorem sE {sc:Scope} {n:Nat} {x:Str} (h:sc.names.lookup x = some .cell):∃ c,(cellsFrom n sc.names []).lookup x = some c:=by
 have q:=PySem.W.cellsFrom_some sc.names n [] (.inl h)
 exact Option.isSome_iff_exists.mp q
theorem vv {CX:CXT} {P:Program} {w:World} {K:PySem.W.Frag} {mg:Str -> Option Value} {base:Heap} {N ps:List Str} {qual:Str} {scope:Scope} {f:Addr} {cd:Value} {A:Around} {outer:List Env} {s s1:Shared} {H:Hp} {E:XK} {us:List Value} {vs:List V}
  (S:aW N ps scope) (hd:A.handled = none) (e0:ui P w K mg base A outer s H) (hl:vs.length = ps.length) (r:Vals vs us)
  (x:InCallC s s.heap.objs.size (bindL (envOfC qual scope s.heap.objs.size f cd).kindOf (ps.zip us) fun _=>none) (cellsFrom (s.heap.objs.size + 1) scope.names []) (bindC (envOfC qual scope s.heap.objs.size f cd).kindOf (ps.zip us) fun _=>none) s1):
  Inv (lF CX P w K mg base N qual scope f cd A outer s H E) [] (start N vs) H s1:=by
 have hpl:ps.length <= N.length:=by have:=congrArg List.length S.pre; rw [List.length_take] at this; omega
 obtain ⟨h1,tk,rfl,hk⟩:=x.done
 have noA:∀ b:Addr,b ∉ (lF CX P w K mg base N qual scope f cd A outer s H E).ex:=fun b z=>absurd (show b ∈ ([]:List Addr) from z) (by simp)
 refine ⟨⟨e0.mod,S.kind,rfl,rfl,Nat.le_refl _,fun y z c h1 h2=>?_,fun y hy=>?_,fun y c _ h=>?_,fun _=>hd,Around.frames_deeper e0.frames,.inr ⟨rfl,rfl⟩,fun b z=>absurd z (noA b),e0.bs,e0.bsz,fun b _ _=>noA b,fun b z=>absurd z (noA b),e0.nc,e0.frf⟩,
  rfl,e0.bare,Un.kept hk,⟨_,x.toInCall.ns,fun i y v h1 h2 h3=>?_⟩,fun y c h=>⟨_,x.cell y c h⟩,e0.hok.fresh (Nat.le_refl _),fun y c h=>?_,fun p hp=>absurd (show p ∈ ([]:List (Addr × Obj)) from hp) (by simp),e0.hok.kept hk,?_⟩
 . exact name_of_addr x.apart (PySem.mem_of_lookup h1) (PySem.mem_of_lookup h2)
 . have hy:scope.names.lookup y = some .cell \/ scope.names.lookup y = some .free:=hy
   rcases hy with hy | hy
   . exact sE hy
   . exact absurd rfl (S.nofree _ (PySem.mem_of_lookup hy))
 . exact Nat.le_of_lt (x.above y c (PySem.mem_of_lookup h))
 . have hi:i < vs.length:=by
    unfold start at h2
    by_cases hi:i < vs.length
    . exact hi
    . rw [List.getElem?_append_right (by simpa using hi)] at h2
      rw [List.getElem?_replicate] at h2
      split at h2 <;> cases h2
   have ha:vs[i]? = some v:=by
    unfold start at h2
    rw [List.getElem?_append_left (by simpa using hi),List.getElem?_map] at h2
    cases e:vs[i]? with
    | none=>rw [e] at h2; cases h2
    | some a=>rw [e] at h2; cases h2; rfl
   obtain ⟨u,hu,rv⟩:=r.get ha
   have hp:ps[i]? = some y:=by
    rw [<- S.pre,List.getElem?_take_of_lt (by omega)]; exact h1
   have ndP:ps.Nodup:=by rw [<- S.pre]; exact S.nd.sublist (List.take_sublist _ _)
   refine ⟨u,rv,?_⟩
   rcases S.par y (List.mem_of_getElem? hp) with k | k
   . exact .inl ⟨k,pN ndP hp hu k⟩
   . obtain ⟨c,e⟩:=sE (n:=s.heap.objs.size + 1) k
     refine .inr ⟨.inl k,c,e,?_⟩
     have q:=x.cell y c e
     rw [pe ndP hp hu (by show scope.names.lookup y ≠ _; rw [k]; decide)] at q
     exact q
 . exact e0.hok.fresh (Nat.le_of_lt (x.above y c (PySem.mem_of_lookup h)))
 . unfold start
   show _ = N.length
   rw [List.length_append,List.length_map,List.length_replicate]
   omega
theorem DM {CX:CXT} {P:Program} {w:World} {K:PySem.W.Frag} {mg:Str -> Option Value} {base:Heap} {k:Nat} {f:Addr} {name qual:Str} {params:Arguments} {body:List Stmt} {scope:Scope} {dV kV doc pm cdv ct oc:Value} {an od:Option Addr}
  {osl:Array (Option Value)} {N ps:List Str} {sp:Sp} (lk:K.lookup f = some ⟨oc,od,.func (PySem.W.fnOf name qual params body scope dV kV doc pm an cdv ct),osl⟩) (hcd:PySem.W.codeIn K cdv qual = true) (S:aW N ps scope)
  (len:∀ vs H Q E,sp vs H Q E -> vs.length = ps.length)
  (hbody:∀ (A:Around) (outer:List Env) (s:Shared) (H:Hp) (vs:List V) (Q:VK) (E:XK),fJ k (A.deeper (envOfC qual scope s.heap.objs.size f cdv)) -> sp vs H Q E ->
    ∃ t,PSs (lF CX P w K mg base N qual scope f cdv A outer s H E) body t /\ t { nx:=fun _ H'=>Q .non H',rt:=Q } (start N vs) H):
  cy P w K mg base CX (k + 1) f (PySem.W.fnOf name qual params body scope dV kV doc pm an cdv ct) ps sp:=by
 refine ⟨len,fun A outer s H args us vs Q E hr e0 hb r hsp=>?_⟩
 have hl:=len _ _ _ _ hsp
 have KX:K.In s.heap:=e0.mod.kin.keeps fun b o e=>(e0.bs b o e).1
 have lim:s.heap.NoLimit:=e0.mod.nolimit.keeps fun b o e=>(e0.bs b o e).1
 have hkind:∀ y ∈ ps.zip us,scope.names.lookup y.1 = some .local \/ (scope.names.lookup y.1 = some .cell /\ ((cellsFrom (s.heap.objs.size + 1) scope.names []).lookup y.1).isSome = true):=fun ⟨n,v⟩ hy=>by
  rcases S.par n (List.of_mem_zip hy).1 with q | q
  . exact .inl q
  . exact .inr ⟨q,PySem.W.cellsFrom_some _ _ _ (.inl q)⟩
 refine codeAny_call_function hr.depth (KX _ _ lk) rfl S.co S.gen rfl (PySem.W.codeRec_of KX hcd) (hb _ _ _ _ ?_)
 refine wpAny_newFunctionEnv_cells S.kind hkind fun env he s1 x=>?_
 subst he
 refine ⟨lim.keeps x.toInCall.keep,codeAny_func ?_⟩
 obtain ⟨t,ht,hq⟩:=hbody A outer s H vs Q E (hr.deeper _) hsp
 have I:Inv (lF CX P w K mg base N qual scope f cdv A outer s H E) [] (start N vs) H s1:=vv S hr.hd e0 hl r x
 refine wpAny_mono (ht [] s1 (start N vs) H _ I hq) (fun fl s' hs=>?_) fun e s' hs=>hs
 have fin:∀ {σ':St} {H':Hp} {v:V} {u:Value},Inv (lF CX P w K mg base N qual scope f cdv A outer s H E) [] σ' H' s' -> RelV v u -> Q v H' -> CE outer P w H s Q u s':=
  fun {σ' H' v u} J rv q=>⟨v,H',J.os,J.bare,J.base,J.hok,rv,q⟩
 cases fl with
 | ret u=>
   obtain ⟨v,σ',H',J,rv,q⟩:=hs
   exact fin J rv q
 | next=>
   obtain ⟨σ',H',J,q⟩:=hs
   exact fin (v:=V.non) (u:=Value.none) J rfl q
 | brk=>
   obtain ⟨_,_,_,q⟩:=hs
   exact False.elim q
 | cont=>
   obtain ⟨_,_,_,q⟩:=hs
   exact False.elim q
end L2
namespace L2
open PySem PySem.Spec PyProof.Rows
section
variable {X:Cx} {x:Str} {p pos:Pos} {e:Expr} {es:List Expr} {t:TA} {id T:String} {r:List V -> Hp -> VK -> Prop}
def tCB (r:List V -> Hp -> VK -> Prop) (t:TA):TE:=fun σ H Q=>t σ H fun vs H1=>r vs H1 Q
theorem xF (hc:m3 X (.builtin id) r) (hg:Gl X x) (hm:X.mg x = none) (hv:bootBuiltins x = some (.builtin id)) (ha:PA X (e ::es) t) (hn:x ≠ "__name__":=by decide) (hdb:(x == ("__debug__":Str)) = false:=by decide)
  (he:starEach (e ::es) X.env = (false,eval e X.env) ::starEach es X.env:=by rfl) (hpl:(backTo pos (starEach es X.env)).any (·.1) = false:=by rfl):PE X (.Call (.Name x p) (e ::es) [] pos) (tCB r t):=by
 intro pins s σ H Q I h
 refine wpAny_Call_Name_kw (lY I hg hm hv ?_ hn hdb)
 exact PyProof.Rows.callWith_builtin1 (thn (ha pos pins s σ H _ I h) fun us s1 ⟨vs,H1,I1,r1,q1⟩=>hc pins s1 σ H1 vs us Q I1 r1 q1) he hpl
theorem vx (hc:m3 X (.type T) r) (hg:Gl X x) (hm:X.mg x = none) (hv:bootBuiltins x = some (.type T)) (ha:PA X (e ::es) t) (hn:x ≠ "__name__":=by decide) (hdb:(x == ("__debug__":Str)) = false:=by decide)
  (he:starEach (e ::es) X.env = (false,eval e X.env) ::starEach es X.env:=by rfl) (hpl:(backTo pos (starEach es X.env)).any (·.1) = false:=by rfl):PE X (.Call (.Name x p) (e ::es) [] pos) (tCB r t):=by
 intro pins s σ H Q I h
 refine wpAny_Call_Name_kw (lY I hg hm hv ?_ hn hdb)
 exact PyProof.Rows.callWith_type1 (thn (ha pos pins s σ H _ I h) fun us s1 ⟨vs,H1,I1,r1,q1⟩=>hc pins s1 σ H1 vs us Q I1 r1 q1) he hpl
end
end L2
namespace HT
open PySem PyProof.Rows
section
open PySem.SeqAt
open PySem.AutoSeq1 (wpAny_loadPart')
open PySem.MeetsSeq PySem.MeetsSeq2 PySem.MeetsSeq3
end
section
variable {prog:Program} {w:World} {A:Around} {E:Value -> Shared -> Prop} {s:Shared}
def sIx (n d:Nat):Option Int -> Nat
 | none=>d
 | some v=>if v < 0 then (v + (n:Int)).toNat else min v.toNat n
end
end HT
namespace L2
open PySem PySem.Spec PyProof.Rows
abbrev TO:=St -> Hp -> (Option Int -> Hp -> Prop) -> Prop
def PO (X:Cx) (e:Option Expr) (t:TO):Prop:=
 ∀ (pins:List (Addr × Obj)) (s:Shared) (σ:St) (H:Hp) (Q:Option Int -> Hp -> Prop),Inv X pins σ H s -> t σ H Q ->
   wpAny (model X.prog X.w) X.A (evalPart e X.env) (fun u s'=>∃ o H',Inv X pins σ H' s' /\ IsPart u o /\ Q o H') X.xe s
def qI:TO:=fun _ H Q=>Q none H
def xW (t:TE):TO:=fun σ H Q=>t σ H fun x H1=>∃ i,x = .int i /\ Q (some i) H1
section
variable {X:Cx} {e:Expr} {te:TE} {lo hi:Option Expr} {tl th:TO} {pos p2:Pos}
theorem zt:PO X none qI:=by
 intro pins s σ H Q I h
 rw [evalPart_none]
 exact wpAny_pure ⟨none,H,I,.none,h⟩
theorem zI (h:PE X e te):PO X (some e) (xW te):=by
 intro pins s σ H Q I hw
 rw [evalPart_some]
 refine thn (h pins s σ H _ I hw) fun u s1 ⟨x,H1,I1,r1,q1⟩=>?_
 obtain ⟨i,rfl,q⟩:=q1
 obtain ⟨t,rfl⟩:=r1
 exact ⟨some i,H1,I1,.int i t,q⟩
def SlR (X:Cx) (r:V -> Option Int -> Option Int -> Hp -> VK -> Prop):Prop:=
 ∀ (pins:List (Addr × Obj)) (s:Shared) (σ:St) (H:Hp) (x:V) (v vl vu:Value) (lo hi:Option Int) (sl:Addr) (Q:VK),Inv X pins σ H s -> RelV x v -> s.heap.IsSliceOf sl vl vu .none -> IsPart vl lo -> IsPart vu hi -> r x lo hi H Q ->
   ∃ T id,typeLookup (.type T) "__getitem__" = pure (some (.builtin id)) /\ s.TypeIs v T /\ wpAny (model X.prog X.w) X.A (getItem v (.ref sl)) (EP X pins σ Q) X.xe s
def tSl (r:V -> Option Int -> Option Int -> Hp -> VK -> Prop) (te:TE) (tl th:TO):TE:=fun σ H Q=>te σ H fun x H1=>tl σ H1 fun l H2=>th σ H2 fun u H3=>r x l u H3 Q
theorem yk {r:V -> Option Int -> Option Int -> Hp -> VK -> Prop} (hr:SlR X r) (he:PE X e te) (hl:PO X lo tl) (hu:PO X hi th):PE X (.Subscript e (.Slice lo hi none p2) pos) (tSl r te tl th):=by
 intro pins s σ H Q I h
 refine Subscript_ (thn (he pins s σ H _ I h) fun v s1 ⟨x,H1,I1,r1,q1⟩=>?_)
 refine wpAny_Slice (thn (hl pins s1 σ H1 _ I1 q1) fun vl s2 ⟨l,H2,I2,pl,q2⟩=>thn (hu pins s2 σ H2 _ I2 q2) fun vu s3 ⟨u,H3,I3,pu,q3⟩=>?_)
 rw [evalPart_none]
 refine wpAny_pure ?_
 have I4:Inv X pins σ H3 { s3 with heap:=s3.heap.push { cls:=.type "slice",data:=.fields #[vl,vu,.none] } }:=I3.kept (t':=s3.toks) fun b ob q=>Heap.get?_push_of_some _ q
 obtain ⟨T,id,hT,ht,hg⟩:=hr pins { s3 with heap:=s3.heap.push { cls:=.type "slice",data:=.fields #[vl,vu,.none] } } σ H3 x v vl vu l u s3.heap.objs.size Q I4 r1 (Heap.IsSliceOf.new ..) pl pu q3
 show wpAny (model X.prog X.w) X.A (subscriptTail e (.Slice lo hi none p2) v (.ref s3.heap.objs.size)) (EP X pins σ Q) X.xe { s3 with heap:=s3.heap.push { cls:=.type "slice",data:=.fields #[vl,vu,.none] } }
 exact tail_any (ops:=[.ref s3.heap.objs.size,v]) ht hT hg (by with_unfolding_all rfl)
def vo (xs:List V) (lo hi:Option Int):List V:=(xs.drop (HT.sIx xs.length 0 lo)).take (HT.sIx xs.length xs.length hi - HT.sIx xs.length 0 lo)
theorem sf (xs:List V) (lo hi:Option Int):(vo xs lo hi).length <= xs.length:=by
 unfold vo
 rw [List.length_take,List.length_drop]
 omega
end
end L2
namespace L2
open PySem PySem.Spec PyProof.Rows
def ixN (n:Nat) (i:Int):Option Nat:=if 0 <= i then (if i < n then some i.toNat else none) else if -(n:Int) <= i then some (i + n).toNat else none
def atI {α:Type} (xs:List α) (i:Int):Option α:=(ixN xs.length i).bind fun j=>xs[j]?
theorem uL {n:Nat} {i:Int} {j:Nat} (h:ixN n i = some j):seqIndex? i n = some j /\ j < n /\ -(n:Int) <= i /\ i < n:=by
 unfold ixN at h
 by_cases h0:0 <= i
 . rw [if_pos h0] at h
   by_cases h1:i < n
   . rw [if_pos h1] at h
     have e:i.toNat = j:=Option.some.inj h
     exact ⟨by rw [seqIndex_of h0 h1,e],by omega,by omega,h1⟩
   . rw [if_neg h1] at h; cases h
 . rw [if_neg h0] at h
   by_cases h1:-(n:Int) <= i
   . rw [if_pos h1] at h
     have e:(i + n).toNat = j:=Option.some.inj h
     exact ⟨by rw [seqIndex_neg (by omega) h1,e],by omega,h1,by omega⟩
   . rw [if_neg h1] at h; cases h
theorem uJ {α:Type} {xs:List α} {i:Int} {v:α} (h:atI xs i = some v):∃ j,seqIndex? i xs.length = some j /\ xs[j]? = some v /\ j < xs.length /\ -(xs.length:Int) <= i /\ i < xs.length:=by
 unfold atI at h
 cases e:ixN xs.length i with
 | none=>rw [e] at h; cases h
 | some j=>
   rw [e] at h
   obtain ⟨h1,h2,h3,h4⟩:=uL e
   exact ⟨j,h1,h,h2,h3,h4⟩
def uw (b:Expr):Prop:=∀ o i,subscripted b false o i = operate [o,i] (getItem o i)
def IxR (X:Cx) (r:R2):Prop:=
 ∀ (value slice:Expr) (pins:List (Addr × Obj)) (s:Shared) (σ:St) (H:Hp) (x y:V) (v u:Value) (Q:VK),Inv X pins σ H s -> RelV x v -> RelV y u -> r x y H Q ->
   subscripted slice false v u = operate [v,u] (getItem v u) -> wpAny (model X.prog X.w) X.A (subscriptTail value slice v u) (EP X pins σ Q) X.xe s
def MtR (X:Cx) (id:String) (r:V -> List V -> Hp -> VK -> Prop):Prop:=
 ∀ (pins:List (Addr × Obj)) (s:Shared) (σ:St) (H:Hp) (x:V) (xs:List V) (v:Value) (us:List Value) (Q:VK),Inv X pins σ H s -> RelV x v -> Vals xs us -> r x xs H Q ->
   wpAny (model X.prog X.w) X.A (call (.builtin id) (v ::us)) (EP X pins σ Q) X.xe s
section
variable {X:Cx} {a b:Expr} {ta tb:TE} {pos:Pos}
theorem D4 {r:R2} (hr:IxR X r) (ha:PE X a ta) (hb:PE X b tb) (hs:uw b):PE X (.Subscript a b pos) (tOp r ta tb):=by
 intro pins s σ H Q I h
 exact Subscript_ (BI ha hb I h fun v u s2 x y H2 I2 rx ry q=>hr a b pins s2 σ H2 x y v u Q I2 rx ry q (hs _ _))
def Ex (K:PySem.W.Frag):R2:=fun x y H Q=>∃ p xs i v,x = .ref p /\ y = .int i /\ SqL K H p xs /\ atI xs i = some v /\ Q v H
def DO (K:PySem.W.Frag):R2:=fun x y H Q=>∃ p xs i v,x = .ref p /\ y = .int i /\ SqT K H p xs /\ atI xs i = some v /\ Q v H
theorem d0:IxR X (Ex X.K):=by
 intro value slice pins s σ H x y v u Q I rx ry h hs
 obtain ⟨p,xs,i,z,rfl,rfl,hq,he,q⟩:=h
 cases rx
 obtain ⟨t,rfl⟩:=ry
 obtain ⟨its,r,pl,hz⟩:=I.list hq
 obtain ⟨j,h1,h2,h3,h4,h5⟩:=uJ he
 obtain ⟨w,ew,rw'⟩:=r.get h2
 have hl:=r.length
 have hn:=oa
 have fin:EP X pins σ Q w s:=⟨z,H,I,rw',q⟩
 by_cases h0:0 <= i
 . have hj:i.toNat = j:=by
    rw [seqIndex_of h0 h5] at h1
    exact Option.some.inj h1
   exact item_listR pl.isList h0 (by omega) (by rw [hj]; simpa using ew) fin hs
 . have hj:(i + (its.toArray.size:Int)).toNat = j:=by
    rw [seqIndex_neg (by omega) h4] at h1
    rw [List.size_toArray,<- hl]
    exact Option.some.inj h1
   exact subscriptTail_builtinR (x:=w) pl.isList.typeIs slot_list_getitem.lookup
    (wpAny_getItem_list_neg (Q:=fun r s'=>r = w /\ EP X pins σ Q r s') pl.isList (by omega) (by rw [List.size_toArray] <;> omega) (by omega) (by rw [hj]; simpa using ew) ⟨rfl,fin⟩) hs
theorem iR:IxR X (DO X.K):=by
 intro value slice pins s σ H x y v u Q I rx ry h hs
 obtain ⟨p,xs,i,z,rfl,rfl,hq,he,q⟩:=h
 cases rx
 obtain ⟨t,rfl⟩:=ry
 obtain ⟨its,r,pl,hz⟩:=I.tuple hq
 obtain ⟨j,h1,h2,h3,h4,h5⟩:=uJ he
 obtain ⟨w,ew,rw'⟩:=r.get h2
 have hl:=r.length
 have hn:=oa
 have fin:EP X pins σ Q w s:=⟨z,H,I,rw',q⟩
 exact subscriptTail_builtinR (x:=w) pl.typeIs slot_tuple_getitem.lookup
  (getItem_tuple (j:=j) (Q:=fun r s'=>r = w /\ EP X pins σ Q r s') pl (by omega) (by omega) (by rw [List.size_toArray,<- hl]; exact h1) (by simpa using ew) ⟨rfl,fin⟩) hs
theorem tQ (its:List Value) (n j:Nat) (u:Value):Obj.mapSeq (·.setIfInBounds j u) { cls:=.type "list",data:=.seq its.toArray n } = { cls:=.type "list",data:=.seq (its.set j u).toArray n }:=by
 simp [Obj.mapSeq]
theorem Inv.lst {pins:List (Addr × Obj)} {σ:St} {H:Hp} {s:Shared} {p:Addr} {xs:List V} (I:Inv X pins σ H s) (h:H p = some (.lst xs)):
  ∃ (its:List Value) (n:Nat),Vals xs its /\ s.heap.get? p = some { cls:=.type "list",data:=.seq its.toArray n } /\ xs.length <= sizeLine:=by
 obtain ⟨z,its,n,r,e⟩:=I.hok p _ h
 exact ⟨its,n,r,e,z⟩
theorem Inv.Cd {pins:List (Addr × Obj)} {σ:St} {H:Hp} {s:Shared} {p:Addr} {xs ys:List V} {its its':List Value} {n n':Nat} {f:Obj -> Obj} (I:Inv X pins σ H s) (h:H p = some (.lst xs))
  (ho:s.heap.get? p = some { cls:=.type "list",data:=.seq its.toArray n }) (hf:f { cls:=.type "list",data:=.seq its.toArray n } = { cls:=.type "list",data:=.seq its'.toArray n' }) (r:Vals ys its') (hz:ys.length <= sizeLine) (t:Nat):
  Inv X pins σ (upd H p (.lst ys)) { s with heap:=s.heap.update p f,toks:=t }:=by
 have e:(s.heap.update p f).get? p = some { cls:=.type "list",data:=.seq its'.toArray n' }:=by
  rw [Heap.get?_update_self f ho (by rw [hf] <;> rfl),hf]
 refine I.write (x:=p) (e:=p) (by rw [h]; trivial) (.inl rfl) (fun b u hb q=>(Heap.get?_update_other _ _ (Ne.symm hb)).trans q) ⟨_,e⟩ ?_
 exact ⟨hz,its',n',r,e⟩
def Bb:V -> V -> V -> Hp -> (Hp -> Prop) -> Prop:=fun o i v H Q=>∃ p xs k j,o = .ref p /\ i = .int k /\ H p = some (.lst xs) /\ ixN xs.length k = some j /\ Q (upd H p (.lst (xs.set j v)))
theorem set_list:Dc X Bb:=by
 intro pins s σ H o i v ov iv u Q I ro ri rv h
 obtain ⟨p,xs,k,j,rfl,rfl,hp,hj,q⟩:=h
 cases ro
 obtain ⟨t,rfl⟩:=ri
 obtain ⟨its,n,r,ho,hz⟩:=I.lst hp
 obtain ⟨h1,h2,h3,h4⟩:=uL hj
 have hl:=r.length
 have hn:=oa
 have I':Inv X pins σ (upd H p (.lst (xs.set j v))) { s with heap:=s.heap.update p (Obj.mapSeq (·.setIfInBounds j u)) }:=
  I.Cd hp ho (tQ its n j u) (r.set rv j) (by rw [List.length_set]; exact hz) s.toks
 by_cases h0:0 <= k
 . have hk:k.toNat = j:=by
    rw [seqIndex_of h0 h4] at h1
    exact Option.some.inj h1
   exact PySem.W.ki_setAt ho h0 (by omega) (by rw [List.size_toArray,<- hl]; exact h4) (by rw [hk]; exact ⟨_,I',q⟩)
 . have hk:(k + (its.toArray.size:Int)).toNat = j:=by
    rw [seqIndex_neg (by omega) h3] at h1
    rw [List.size_toArray,<- hl]
    exact Option.some.inj h1
   exact PySem.W.ki_setBack ho (by omega) (by rw [List.size_toArray,<- hl]; exact h3) (by omega) (by rw [hk]; exact ⟨_,I',q⟩)
theorem qj (lo hi:Option Int) (n:Nat):(sliceBounds lo hi none n).1 = ((HT.sIx n 0 lo:Nat):Int) /\ (sliceBounds lo hi none n).2.1 = ((HT.sIx n n hi:Nat):Int) /\ (sliceBounds lo hi none n).2.2 = 1:=by
 refine ⟨?_,?_,rfl⟩
 . cases lo with
   | none=>simp [sliceBounds,HT.sIx]
   | some i=>
     simp only [sliceBounds,HT.sIx,Option.getD_none,show (1:Int) > 0 by decide,if_true]
     by_cases h:i < 0
     . simp only [h,if_true] <;> omega
     . simp only [h,if_false] <;> omega
 . cases hi with
   | none=>simp [sliceBounds,HT.sIx]
   | some i=>
     simp only [sliceBounds,HT.sIx,Option.getD_none,show (1:Int) > 0 by decide,if_true]
     by_cases h:i < 0
     . simp only [h,if_true] <;> omega
     . simp only [h,if_false] <;> omega
theorem oX (its:List Value) (lo hi:Option Int):slicePick its.toArray lo hi none = ((its.drop (HT.sIx its.length 0 lo)).take (HT.sIx its.length its.length hi - HT.sIx its.length 0 lo)).toArray:=by
 obtain ⟨h1,h2,h3⟩:=qj lo hi its.toArray.size
 unfold slicePick
 rw [h1,h2,h3]
 simp only [sliceRange_one,pick_run,List.size_toArray] <;> rfl
def D3 (K:PySem.W.Frag):V -> Option Int -> Option Int -> Hp -> VK -> Prop:=fun x lo hi H Q=>∃ a xs,x = .ref a /\ SqL K H a xs /\ ∀ p,H p = none -> Q (.ref p) (upd H p (.lst (vo xs lo hi)))
theorem zT:SlR X (D3 X.K):=by
 intro pins s σ H x v vl vu lo hi sl Q I rx hs pl pu h
 obtain ⟨a,xs,rfl,hx,q⟩:=h
 cases rx
 obtain ⟨its,r,ht,hz⟩:=I.list hx
 have hlen:=r.length
 refine ⟨"list",_,slot_list_getitem.lookup,ht.isList.typeIs,?_⟩
 refine wpAny_getItem_list_slice ht.isList hs pl pu .none (by simp) ?_ (by rw [List.size_toArray] <;> omega)
 rw [oX,<- hlen]
 refine ⟨.ref s.heap.objs.size,_,I.laid (t':=s.toks) (o:=.lst (vo xs lo hi)) (fun b ob q=>Heap.get?_push_of_some _ q) (Nat.le_refl _) ?_,rfl,q _ (I.hok.fresh (Nat.le_refl _))⟩
 exact ⟨Nat.le_trans (sf xs lo hi) hz,_,0,(r.drop (HT.sIx xs.length 0 lo)).take (HT.sIx xs.length xs.length hi - HT.sIx xs.length 0 lo),Heap.get?_push_size _ rfl⟩
def kQ:V -> Bool
 | .non=>true
 | .bl _=>true
 | .int _=>true
 | .str _=>true
 | _=>false
def eqV:V -> V -> Bool
 | .non,.non=>true
 | .bl a,.bl b=>a == b
 | .bl a,.int b=>(if a then 1 else 0) == b
 | .int a,.bl b=>a == (if b then 1 else 0)
 | .int a,.int b=>a == b
 | .str a,.str b=>a == b
 | _,_=>false
theorem Dn {A:Around} {s:Shared} {y x:V} {u v:Value} (ry:RelV y u) (rx:RelV x v) (fy:kQ y = true) (fx:kQ x = true):SeqAt.EqAt A s u v (eqV y x):=by
 cases y with
 | non=>
   cases ry
   cases x with
   | non=>cases rx; exact SeqAt.EqAt.same _
   | bl b=>cases rx; exact SeqAt.EqAt.none_bool b
   | int b=>obtain ⟨t,rfl⟩:=rx; exact SeqAt.EqAt.none_int b t
   | str b=>obtain ⟨t,rfl⟩:=rx; exact SeqAt.EqAt.none_str b t
   | _=>exact absurd (show false = true from fx) Bool.false_ne_true
 | bl a=>
   cases ry
   cases x with
   | non=>cases rx; exact SeqAt.EqAt.bool_none a
   | bl b=>cases rx; exact SeqAt.EqAt.bool_bool a b
   | int b=>obtain ⟨t,rfl⟩:=rx; exact SeqAt.EqAt.bool_int a b t
   | str b=>obtain ⟨t,rfl⟩:=rx; exact SeqAt.EqAt.bool_str a b t
   | _=>exact absurd (show false = true from fx) Bool.false_ne_true
 | int a=>
   obtain ⟨t',rfl⟩:=ry
   cases x with
   | non=>cases rx; exact SeqAt.EqAt.int_none a t'
   | bl b=>cases rx; exact SeqAt.EqAt.int_bool a t' b
   | int b=>obtain ⟨t,rfl⟩:=rx; exact SeqAt.EqAt.int_int a t' b t
   | str b=>obtain ⟨t,rfl⟩:=rx; exact SeqAt.EqAt.int_str a t' b t
   | _=>exact absurd (show false = true from fx) Bool.false_ne_true
 | str a=>
   obtain ⟨t',rfl⟩:=ry
   cases x with
   | non=>cases rx; exact SeqAt.EqAt.str_none a t'
   | bl b=>cases rx; exact SeqAt.EqAt.str_bool a t' b
   | int b=>obtain ⟨t,rfl⟩:=rx; exact SeqAt.EqAt.str_int a t' b t
   | str b=>obtain ⟨t,rfl⟩:=rx; exact SeqAt.EqAt.str_str a t' b t
   | _=>exact absurd (show false = true from fx) Bool.false_ne_true
 | _=>exact absurd (show false = true from fy) Bool.false_ne_true
def eqU (x:V) (u:Value):Bool:=match u with
 | .none=>eqV .non x
 | .bool b=>eqV (.bl b) x
 | .int i _=>eqV (.int i) x
 | .str z _=>eqV (.str z) x
 | _=>false
theorem ym {x y:V} {u:Value} (r:RelV y u) (f:kQ y = true):eqU x u = eqV y x:=by
 cases y with
 | non=>cases r; rfl
 | bl b=>cases r; rfl
 | int i=>obtain ⟨t,rfl⟩:=r; rfl
 | str z=>obtain ⟨t,rfl⟩:=r; rfl
 | _=>exact absurd (show false = true from f) Bool.false_ne_true
theorem lJ {x:V}:∀ {xs:List V} {us:List Value},Vals xs us -> xs.all kQ = true -> us.any (eqU x) = xs.any fun y=>eqV y x
 | _,_,.nil,_=>rfl
 | y ::xs,u ::us,.cons r t,f=>by
   rw [List.all_cons,Bool.and_eq_true] at f
   rw [List.any_cons,List.any_cons,ym r f.1,lJ t f.2]
theorem jR {A:Around} {s:Shared} {x:V} {v:Value} (rx:RelV x v) (fx:kQ x = true):∀ {xs:List V} {us:List Value},Vals xs us -> xs.all kQ = true -> ∀ u ∈ us,SeqAt.EqAt A s u v (eqU x u)
 | _,_,.nil,_=>fun u hu=>by cases hu
 | y ::xs,u ::us,.cons r t,f=>fun u' hu=>by
   rw [List.all_cons,Bool.and_eq_true] at f
   rcases List.mem_cons.mp hu with rfl | hu
   . rw [ym r f.1]; exact Dn r rx f.1 fx
   . exact jR rx fx t f.2 u' hu
def inV (x:V) (xs:List V):Bool:=xs.any fun y=>eqV y x
def rIn (K:PySem.W.Frag) (neg:Bool):R2:=fun x y H Q=>∃ p xs,y = .ref p /\ (SqL K H p xs \/ SqT K H p xs) /\ kQ x = true /\ xs.all kQ = true /\ Q (.bl (if neg then !inV x xs else inV x xs)) H
theorem vn:OpR X (compareOp .In) (rIn X.K false):=by
 intro pins s σ H x y v u Q I rx ry h
 obtain ⟨p,xs,rfl,hq,fx,fs,q⟩:=h
 cases ry
 rcases hq with hq | hq
 . obtain ⟨its,r,pl,hz⟩:=I.list hq
   refine SeqAt.in_listAt (eqU x) pl.isList (fun w hw=>jR rx fx r fs w (by simpa using hw)) ⟨.bl _,H,I,rfl,?_⟩
   rw [show its.toArray.any (eqU x) = its.any (eqU x) by simp,lJ r fs]
   exact q
 . obtain ⟨its,r,pl,hz⟩:=I.tuple hq
   refine SeqAt.in_tupleAt (eqU x) pl (fun w hw=>jR rx fx r fs w (by simpa using hw)) ⟨.bl _,H,I,rfl,?_⟩
   rw [show its.toArray.any (eqU x) = its.any (eqU x) by simp,lJ r fs]
   exact q
theorem qp:OpR X (compareOp .NotIn) (rIn X.K true):=by
 intro pins s σ H x y v u Q I rx ry h
 obtain ⟨p,xs,rfl,hq,fx,fs,q⟩:=h
 cases ry
 rcases hq with hq | hq
 . obtain ⟨its,r,pl,hz⟩:=I.list hq
   refine SeqAt.notIn_listAt (eqU x) pl.isList (fun w hw=>jR rx fx r fs w (by simpa using hw)) ⟨.bl _,H,I,rfl,?_⟩
   rw [show its.toArray.any (eqU x) = its.any (eqU x) by simp,lJ r fs]
   exact q
 . obtain ⟨its,r,pl,hz⟩:=I.tuple hq
   refine SeqAt.notIn_tupleAt (eqU x) pl (fun w hw=>jR rx fx r fs w (by simpa using hw)) ⟨.bl _,H,I,rfl,?_⟩
   rw [show its.toArray.any (eqU x) = its.any (eqU x) by simp,lJ r fs]
   exact q
theorem b6:m3 X (.builtin "len") (fun xs H Q=>∃ p ys,xs = [.ref p] /\ (SqL X.K H p ys \/ SqT X.K H p ys) /\ Q (.int ys.length) H):=by
 intro pins s σ H xs us Q I r h
 obtain ⟨p,ys,rfl,hq,q⟩:=h
 obtain ⟨u,rfl,rx⟩:=vals1 r
 cases rx
 have hn:=oa
 rcases hq with hq | hq
 . obtain ⟨its,r',pl,hz⟩:=I.list hq
   have hlen:=r'.length
   exact Calls.call_len_list pl.isList (by simp only [List.size_toArray] <;> omega) ⟨.int ys.length,H,I.tok _,⟨s.toks + 1,by rw [List.size_toArray,hlen]⟩,q⟩
 . obtain ⟨its,r',pl,hz⟩:=I.tuple hq
   have hlen:=r'.length
   exact len_tuple pl (by simp only [List.size_toArray] <;> omega) ⟨.int ys.length,H,I.tok _,⟨s.toks + 1,by rw [List.size_toArray,hlen]⟩,q⟩
def tyV (K:PySem.W.Frag) (T:String) (x:V) (H:Hp):Prop:=match x with
 | .str _=>T = "str"
 | .int _=>T = "int"
 | .ref p=>(T = "list" /\ ∃ xs,SqL K H p xs) \/ (T = "tuple" /\ ∃ o,K.lookup p = some o /\ o.cls = .type "tuple" /\ o.dict = none) \/
    (T = "dict" /\ ((∃ kvs,H p = some (.dK kvs)) \/ ∃ kvs,H p = some (.dT kvs))) \/ (T = "set" /\ ∃ S n,H p = some (.set S n))
 | _=>False
theorem xC {pins:List (Addr × Obj)} {σ:St} {H:Hp} {s:Shared} {T:String} {x:V} {v:Value} (I:Inv X pins σ H s) (r:RelV x v) (ty:tyV X.K T x H):
  s.TypeIs v T /\ ∀ a,v = .ref a -> ∃ ob,s.heap.get? a = some ob /\ ob.dict = none:=by
 cases x with
 | str z=>
   obtain ⟨t,rfl⟩:=r
   cases (show T = "str" from ty)
   exact ⟨typeIs_str s z t,fun _ e=>nomatch e⟩
 | int i=>
   obtain ⟨t,rfl⟩:=r
   cases (show T = "int" from ty)
   exact ⟨typeIs_int s i t,fun _ e=>nomatch e⟩
 | ref p=>
   cases r
   rcases ty with ⟨rfl,xs,hq⟩ | ⟨rfl,o,hk,hc,hd⟩ | ⟨rfl,hk⟩ | ⟨rfl,S,n,hk⟩
   . obtain ⟨its,_,pl,_⟩:=I.list hq
     refine ⟨pl.isList.typeIs,fun a e=>?_⟩
     cases e
     obtain ⟨o,n,e,c,hd,_⟩:=pl
     exact ⟨o,e,hd⟩
   . refine ⟨⟨o,I.kIn p o hk,hc⟩,fun a e=>?_⟩
     cases e
     exact ⟨o,I.kIn _ o hk,hd⟩
   . have z:∃ o,s.heap.get? p = some o /\ o.ExactDict:=by
      rcases hk with ⟨kvs,hk⟩ | ⟨kvs,hk⟩
      . obtain ⟨_,_,_,_,o,_,_,e,ex,_⟩:=I.hok p _ hk
        exact ⟨o,e,ex⟩
      . obtain ⟨_,_,_,_,o,_,_,e,ex,_⟩:=I.hok p _ hk
        exact ⟨o,e,ex⟩
     obtain ⟨o,e,ex⟩:=z
     refine ⟨⟨o,e,ex.1⟩,fun a e2=>?_⟩
     cases e2
     exact ⟨o,e,ex.2.1⟩
   . obtain ⟨o,_,_,_,e,ex,_⟩:=I.hok p _ hk
     refine ⟨⟨o,e,ex.1⟩,fun a e2=>?_⟩
     cases e2
     exact ⟨o,e,ex.2.1⟩
 | _=>exact False.elim ty
def Bn (K:PySem.W.Frag) (T:String) (r:V -> List V -> Hp -> VK -> Prop) (to:TE):TE:=fun σ H Q=>to σ H fun x H1=>tyV K T x H1 /\ r x [] H1 Q
def tBM (K:PySem.W.Frag) (T:String) (r:V -> List V -> Hp -> VK -> Prop) (to:TE) (t:TA):TE:=fun σ H Q=>to σ H fun x H1=>tyV K T x H1 /\ t σ H1 fun xs H2=>r x xs H2 Q
variable {o e:Expr} {es:List Expr} {to:TE} {t:TA} {name:Str} {apos cpos:Pos} {T id:String} {r:V -> List V -> Hp -> VK -> Prop}
theorem BQ (pa:PlainAttrs T) (slot:Slot T name id) (hty:typeOf (.builtin id) = pure (.type "method_descriptor")) (hm:MtR X id r) (ho:PE X o to)
  (hbase:attributeBase o name X.env (eval o X.env) = eval o X.env:=by rfl) (hline:(apos.endLine == cpos.line) = true:=by rfl):PE X (.Call (.Attribute o name apos) [] [] cpos) (Bn X.K T r to):=by
 intro pins s σ H Q I h
 refine wpAny_Call_method0_late hbase hline (thn (ho pins s σ H _ I h) fun v s1 ⟨x,H1,I1,r1,ty,q1⟩=>?_)
 obtain ⟨h1,h2⟩:=xC I1 r1 ty
 exact ⟨T,id,pa,slot,hty,h1,h2,Calls.callWith_builtin rfl (PySem.evalArgs_none (hm pins s1 σ H1 x [] v [] Q I1 r1 .nil q1))⟩
theorem D5 (pa:PlainAttrs T) (slot:Slot T name id) (hty:typeOf (.builtin id) = pure (.type "method_descriptor")) (hm:MtR X id r) (ho:PE X o to) (ha:PA X (e ::es) t)
  (hbase:attributeBase o name X.env (eval o X.env) = eval o X.env:=by rfl)
  (hfew:((backTo cpos (starEach (e ::es) X.env)).all (fun x=>!x.1) && (backToKw cpos (keywordEach [] X.env)).all (fun x=>x.1.isSome)
    && decide ((e ::es).length + ([]:List Keyword).length + (if ([]:List Keyword).isEmpty then 0 else 1) < 30)) = true:=by rfl)
  (hline:(apos.endLine == cpos.line) = true:=by rfl) (hs:starEach (e ::es) X.env = (false,eval e X.env) ::starEach es X.env:=by rfl) (hplain:(backTo cpos (starEach es X.env)).any (·.1) = false:=by rfl):
  PE X (.Call (.Attribute o name apos) (e ::es) [] cpos) (tBM X.K T r to t):=by
 intro pins s σ H Q I h
 refine wpAny_Call_method_late hbase hfew hline rfl (thn (ho pins s σ H _ I h) fun v s1 ⟨x,H1,I1,r1,ty,q1⟩=>?_)
 obtain ⟨h1,h2⟩:=xC I1 r1 ty
 refine ⟨T,id,pa,slot,hty,h1,h2,?_⟩
 have hA:=ha cpos pins s1 σ H1 _ I1 q1
 rw [hs] at hA ⊢
 refine Calls.callWith_builtin (by show (false || (backTo cpos (starEach es X.env)).any (·.1)) = false; rw [hplain] <;> rfl) (Calls.evalArgs_plain ?_)
 exact thn hA fun us s2 ⟨vs,H2,I2,r2,q2⟩=>hm pins s2 σ H2 x vs v us Q I2 r1 r2 q2
end
end L2
namespace L2
open PySem PySem.Spec PyProof.Rows
def MtM (X:Cx) (id:String) (r:V -> List V -> Hp -> VK -> Prop):Prop:=
 ∀ (pins:List (Addr × Obj)) (s:Shared) (σ:St) (H:Hp) (x:V) (xs:List V) (v:Value) (us:List Value) (Q:VK),Inv X pins σ H s -> RelV x v -> Vals xs us -> r x xs H Q ->
   wpAny (model X.prog X.w) X.A (call (.builtin id) (v ::us)) (EP X pins σ Q) X.xe s
theorem Vals.one:∀ {x:V} {us:List Value},Vals [x] us -> ∃ u,us = [u] /\ RelV x u
 | _,_,.cons r .nil=>⟨_,rfl,r⟩
theorem Vals.two:∀ {x y:V} {us:List Value},Vals [x,y] us -> ∃ u v,us = [u,v] /\ RelV x u /\ RelV y v
 | _,_,_,.cons r (.cons q .nil)=>⟨_,_,rfl,r,q⟩
theorem Vals.zero:∀ {us:List Value},Vals [] us -> us = []
 | _,.nil=>rfl
theorem Vals.dropLast {xs:List V} {us:List Value} (h:Vals xs us):Vals xs.dropLast us.dropLast:=by
 induction h with
 | nil=>exact .nil
 | cons r t ih=>
   cases t with
   | nil=>exact .nil
   | cons q t'=>exact .cons r ih
theorem Vals.eraseIdx:∀ {xs:List V} {us:List Value} (i:Nat),Vals xs us -> Vals (xs.eraseIdx i) (us.eraseIdx i)
 | _,_,_,.nil=>.nil
 | _,_,0,.cons _ t=>t
 | _,_,i + 1,.cons r t=>.cons r (Vals.eraseIdx i t)
theorem ub {α:Type} (l:List α):l.eraseIdx (l.length - 1) = l.dropLast:=by
 induction l with
 | nil=>rfl
 | cons a r ih=>
   cases r with
   | nil=>rfl
   | cons b r=>
     have e:(a ::b ::r).length - 1 = ((b ::r).length - 1) + 1:=by
      have h1:(a ::b ::r).length = r.length + 2:=rfl
      have h2:(b ::r).length = r.length + 1:=rfl
      omega
     rw [e,List.eraseIdx_cons_succ,ih]
     all_goals rfl
section
variable {X:Cx} {pins:List (Addr × Obj)} {σ:St} {H:Hp} {s:Shared} {l b:Addr} {xs ys zs:List V}
theorem Inv.BR {its its':List Value} {n:Nat} {f:Array Value -> Array Value} {t':Nat} (I:Inv X pins σ H s) (hH:H l = some (.lst xs))
  (e:s.heap.get? l = some { cls:=.type "list",data:=.seq its.toArray n }) (hf:f its.toArray = its'.toArray) (hv:Vals ys its') (hz:ys.length <= sizeLine):
  Inv X pins σ (upd H l (.lst ys)) { s with heap:=s.heap.update l (Obj.mapSeq f),toks:=t' }:=by
 have q:=PySem.IsL.update e f
 rw [hf] at q
 refine I.write (x:=l) (e:=l) (by rw [hH]; exact trivial) (.inl rfl) (fun b' u hb hu=>(Heap.get?_update_other s.heap (Obj.mapSeq f) (Ne.symm hb)).trans hu) ⟨_,q⟩ ?_
 exact ⟨hz,its',_,hv,q⟩
theorem Inv.zB {its:List Value} {t':Nat} (I:Inv X pins σ H s) (hv:Vals ys its) (hz:ys.length <= sizeLine):
  Inv X pins σ (upd H s.heap.objs.size (.lst ys)) { s with heap:=s.heap.push { cls:=.type "list",data:=.seq its.toArray },toks:=t' }:=
 I.laid (fun _ _ q=>Heap.get?_push_of_some _ q) (Nat.le_refl _) ⟨hz,its,0,hv,Heap.get?_push_size _ rfl⟩
theorem Inv.fresh (I:Inv X pins σ H s):H s.heap.objs.size = none:=I.hok.fresh (Nat.le_refl _)
theorem Inv.zR (I:Inv X pins σ H s) (hH:H l = some (.lst xs)):xs.length <= sizeLine /\ ∃ (its:List Value) (n:Nat),Vals xs its /\ xs.length = its.length /\ s.heap.get? l = some { cls:=.type "list",data:=.seq its.toArray n }:=by
 obtain ⟨z,its,n,r,e⟩:=I.hok l _ hH
 exact ⟨z,its,n,r,r.length,e⟩
theorem xo {n:Nat} (h:n <= sizeLine):Builtin.List.listTooLong n = false:=by
 unfold Builtin.List.listTooLong
 exact decide_eq_false (by omega)
end
section
variable {X:Cx}
def pW:V -> List V -> Hp -> VK -> Prop:=fun x vs H Q=>∃ l xs y,x = .ref l /\ vs = [y] /\ H l = some (.lst xs) /\ xs.length < sizeLine /\ Q .non (upd H l (.lst (xs ++ [y])))
theorem fD:MtM X "list.append" pW:=by
 intro pins s σ H x vs v us Q I rx rv h
 obtain ⟨l,xs,y,rfl,rfl,hH,hz,q⟩:=h
 cases rx
 obtain ⟨u,rfl,ru⟩:=rv.one
 obtain ⟨z,its,n,r,hl,e⟩:=I.zR hH
 refine call_meets F.slot_list_append ⟨_,e,rfl⟩ F.entry_list_append (F.args_list_append_2 _ _) (PySem.list_append l its.toArray n u (by rw [List.size_toArray]; omega)) ⟨e,?_⟩
 refine ⟨.non,_,I.BR (its':=its ++ [u]) hH e (by simp) (r.append (.cons ru .nil)) ?_,rfl,q⟩
 rw [List.length_append,List.length_singleton]
 omega
def uA:V -> List V -> Hp -> VK -> Prop:=fun x vs H Q=>∃ l b xs zs,x = .ref l /\ vs = [.ref b] /\ H l = some (.lst xs) /\ H b = some (.lst zs) /\ xs.length + zs.length <= sizeLine /\ Q .non (upd H l (.lst (xs ++ zs)))
theorem vO:MtM X "list.extend" uA:=by
 intro pins s σ H x vs v us Q I rx rv h
 obtain ⟨l,b,xs,zs,rfl,rfl,hH,hB,hz,q⟩:=h
 cases rx
 obtain ⟨u,rfl,ru⟩:=rv.one
 cases ru
 obtain ⟨z,its,n,r,hl,e⟩:=I.zR hH
 obtain ⟨z2,its2,n2,r2,hl2,e2⟩:=I.zR hB
 have hsz:its.toArray.size + its2.toArray.size <= sizeLine:=by rw [List.size_toArray,List.size_toArray]; omega
 have hlong:¬ (!its.toArray.isEmpty && Builtin.List.listTooLong (its.toArray.size + its2.toArray.size)) = true:=by
  rw [xo hsz,Bool.and_false]
  exact Bool.false_ne_true
 refine call_meets F.slot_list_extend ⟨_,e,rfl⟩ F.entry_list_extend (F.args_list_extend_2 _ _)
  (AutoSeq1.list_extend_list_list_0 l its.toArray n b its2.toArray n2 hlong (by rw [List.size_toArray]; omega) (by omega)) ⟨e,e2,?_⟩
 refine ⟨.non,_,I.BR (its':=its ++ its2) hH e (by simp) (r.append r2) ?_,rfl,q⟩
 rw [List.length_append]
 omega
def Eu:V -> List V -> Hp -> VK -> Prop:=fun x vs H Q=>∃ l xs y,x = .ref l /\ vs = [] /\ H l = some (.lst xs) /\ xs[xs.length - 1]? = some y /\ Q y (upd H l (.lst xs.dropLast))
theorem xY:MtM X "list.pop" Eu:=by
 intro pins s σ H x vs v us Q I rx rv h
 obtain ⟨l,xs,y,rfl,rfl,hH,hy,q⟩:=h
 cases rx
 have hus:=rv.zero
 subst hus
 obtain ⟨z,its,n,r,hl,e⟩:=I.zR hH
 obtain ⟨u,hu,ru⟩:=r.get hy
 have hy':its.toArray[its.toArray.size - 1]? = some u:=by
  show its.toArray[its.length - 1]? = some u
  rw [<- Array.getElem?_toList,<- hl]
  exact hu
 refine call_meets F.slot_list_pop ⟨_,e,rfl⟩ F.entry_list_pop (F.args_list_pop_1 _) (MeetsSeq.list_pop_last l its.toArray n u hy' (by rw [List.size_toArray]; omega)) ⟨e,?_⟩
 refine ⟨y,_,I.BR (its':=its.dropLast) hH e ?_ r.dropLast ?_,ru,q⟩
 . show its.toArray.eraseIdxIfInBounds (its.toArray.size - 1) = its.dropLast.toArray
   rw [List.size_toArray,List.eraseIdxIfInBounds_toArray,ub]
 . rw [List.length_dropLast]
   omega
end
section
variable {prog:Program} {w:World} {A:Around} {E:Value -> Shared -> Prop} {s:Shared}
set_option maxRecDepth 100000 in
end
end L2
namespace Att
open PySem PySem.W PySem.Calls PyProof.Rows
theorem m8 {P:Params} {h:Heap}:∀ (ns:List Int) (vs:List Value),WellAll P h vs (ns.map WData.int) -> IntsAre vs ns:=by
 intro ns
 induction ns with
 | nil=>
   intro vs w
   rw [List.map_nil] at w
   cases w
   exact .nil
 | cons n ns ih=>
   intro vs w
   rw [List.map_cons] at w
   cases w with
   | cons a b=>
     cases a
     exact .cons _ _ (ih _ b)
theorem vP {l:OpenLaw} {n:Nat} (hn:l.most = some n) {P:Params} {h:Heap} {args:List WData} {vals:List Value}
  (hpre:l.row.toRowW.claim.pre args = true) (hwl:WellAll P h vals args):
  ∃ a vs ns,vals = [Value.ref a] /\ args = [WData.list (ns.map WData.int)] /\ h.get? a = some { cls:=.type "list",data:=.seq vs.toArray } /\ IntsAre vs ns /\ ns.length <= n:=by
 have hsh:WShape.hasAll [] args [.list .int] = true:=(pre_splitW hpre).1
 have hc:l.pre.holds [] { args:=args } = true:=(pre_splitW hpre).2
 obtain ⟨d,r,rfl,h1,h2⟩:=hasAllW_cons hsh
 obtain rfl:=hasAllW_nil h2
 obtain ⟨xs,rfl,h3⟩:=hasW_list h1
 obtain ⟨ns,rfl⟩:=items_int h3
 have hlen:ns.length <= n:=by
  unfold OpenLaw.pre at hc
  have h4:(WTm.not (.lt (.lit (.int (n:Int))) (.len (.arg 0)))).holds [] { args:=[.list (ns.map .int)] } = true:=by
   have h4:=(holds_andW hc).1
   rw [hn] at h4
   exact h4
  have h5:=condW_of h4 (w_not (w_lt w_lit (w_len_list (w_arg rfl))))
  rw [List.length_map] at h5
  refine Nat.le_of_not_lt fun q=>?_
  have q':(n:Int) < ((ns.length:Nat):Int):=by omega
  first
   | (rw [decide_eq_true q'] at h5; exact absurd h5 (by decide))
   | (simp at h5; omega)
 cases hwl with
 | cons w1 w2=>
   cases w2
   cases w1 with
   | list ho hall=>exact ⟨_,_,ns,rfl,rfl,ho,m8 ns _ hall,hlen⟩
theorem vK (l:OpenLaw) (args:List WData):l.row.toRowW.claim.post args (.bool true) args = true:=
 postW_of (r:=l.row.toRowW) (X:=(true == true))
  (show WShape.has [] (.bool true) .bool = true by first | rfl | decide | simp [WShape.has,WShape.arms,WShape.armsAll])
  (show (WTm.eq .res (.lit (.bool true))).value [] { args:=args,res:=some (.bool true),after:=args } = some (.bool (true == true)) from w_eq_bool (w_res rfl) w_lit) rfl
theorem rh {l:OpenLaw} {n:Nat} {q:Program} {loose:List Str} {XP:(Str -> Option Value) -> Heap -> Prop} {YP:World -> Heap -> Prop} {d:DefRec}
  (hn:l.most = some n) (hdf:d.params.defaults = [])
  (call:∀ (w:World) (s₀ s₁:Shared) (mg mb:Str -> Option Value) (fa:Addr) (o:Obj) (pm cd doc:Value) (a:Addr) (vs:List Value) (ns:List Int),
    Ground q loose [] XP w s₀ mg mb s₁.heap -> YP w s₁.heap ->
    s₁.heap.get? fa = some o -> o.data = .func (docDef d.name d.params d.body d.scope pm cd doc) -> s₁.heap.CodeRec cd d.name -> mg d.name = some (.ref fa) ->
    s₁.heap.get? a = some { cls:=.type "list",data:=.seq vs.toArray } -> IntsAre vs ns -> ns.length <= n -> s₁.gens = #[] ->
    codeAny (model l.prog w) callerA (.call (.ref fa) ⟨[.ref a],[]⟩) (fun r s'=>r = .ok (.ret (.bool true)) /\ OldK s₁.heap s'.heap /\ s'.os = s₁.os /\ AllBare s'.gens) s₁):
  WalkO q loose XP YP l.row.toRowW d [] (fun f vs=>PySem.call f vs):=by
 intro w s₀ s₁ mg mb G Y fa o pm cd doc dV kV ho hd hcd hD hmg hg args vals as hpre hlay hrd hwl hlo
 obtain rfl:dV = .none:=Dflts.none hD hdf
 obtain rfl:kV = .none:=Dflts.noKw hD
 obtain ⟨a,vs,ns,rfl,rfl,hobj,hints,hlen⟩:=vP hn hpre hwl
 refine enter_call (codeAny_mono (call w s₀ s₁ mg mb fa o pm cd doc a vs ns G Y ho (fd_plain hd) hcd hmg hobj hints hlen hg) fun r s' hq=>?_)
 obtain ⟨rfl,h2,h3,h4⟩:=hq
 exact ⟨.inl ⟨.bool true,.bool true,[],rfl,fun _=>rfl,.bool true,vK l _,fun _=>⟨List.Pairwise.nil,fun _ hm=>(nomatch hm)⟩⟩,h2,h3,h4⟩
end Att
namespace L2
open PySem PySem.Spec PyProof.Rows
theorem pG:∀ {vs:List Value} {ns:List Int},IntsAre vs ns -> Vals (ns.map V.int) vs
 | _,_,.nil=>.nil
 | _,_,.cons n t h=>.cons ⟨t,rfl⟩ (pG h)
def Ca (H:Hp):Prop:=∀ b,H b = none \/ ∃ o xs,H b = some (.frz o (.lst xs))
theorem xa {P:Program} {w:World} {K:PySem.W.Frag} {mg mb:Str -> Option Value} {CX:CXT} {k:Nat} {fa a:Addr} {fd:FuncData} {x:Str} {sp:Sp} {s₁:Shared} {vs:List Value} {ns:List Int}
  (KX:K.In s₁.heap) (hns:s₁.heap.Ns mainGlobals mg) (hb:s₁.heap.Ns builtinsNs mb) (hbb:∀ x:Str,x ≠ "__name__" -> mb x = bootBuiltins x) (hlim:s₁.heap.NoLimit) (hg:s₁.gens = #[])
  (ha:s₁.heap.get? a = some { cls:=.type "list",data:=.seq vs.toArray }) (hi:IntsAre vs ns) (hl:ns.length <= sizeLine) (hr:fJ k callerA)
  (F:∀ base:Heap,K.In base -> base.Ns mainGlobals mg -> cy P w K mg base CX k fa fd [x] sp) (hbind:∀ (s:Shared) (u:Value),BindsTo s fd ⟨[u],[]⟩ [(x,u)])
  (hsp:∀ H:Hp,Ca H -> SqL K H a (ns.map V.int) -> sp [.ref a] H (fun v _=>v = .bl true) fun _ _ _=>False)
  (hCX:∀ H e s',CX [] H s₁ (fun _ _ _=>False) e s' -> False):
  codeAny (model P w) callerA (.call (.ref fa) ⟨[.ref a],[]⟩) (fun r s'=>r = .ok (.ret (.bool true)) /\ OldK s₁.heap s'.heap /\ s'.os = s₁.os /\ AllBare s'.gens) s₁:=by
 have rv:=pG hi
 have lenV:=hi.length
 have core:∀ H:Hp,Ca H -> SqL K H a (ns.map V.int) -> HOk P w H s₁.heap -> (∀ b,H b ≠ none -> b = a) -> (H a ≠ none -> K.lookup a = none) ->
   codeAny (model P w) callerA (.call (.ref fa) ⟨[.ref a],[]⟩) (fun r s'=>r = .ok (.ret (.bool true)) /\ OldK s₁.heap s'.heap /\ s'.os = s₁.os /\ AllBare s'.gens) s₁:=by
  intro H hO hS hok hA hK
  have base_of:∀ {b:Addr} {o:Obj},s₁.heap.get? b = some o -> H b = none -> (qL s₁.heap H).get? b = some o:=fun e n=>xy e n
  have noA:∀ {b:Addr} {o:Obj} {es:Array DictEntry} {ep:Nat},s₁.heap.get? b = some o -> o.data = .dict es ep -> H b = none:=fun {b o es ep} e d=>by
   cases q:H b with
   | none=>rfl
   | some u=>
     have e':b = a:=hA b (by rw [q]; simp)
     subst e'
     rw [ha] at e; cases e
     have d':Data.seq vs.toArray _ = Data.dict es ep:=d
     cases d'
  have nsK:∀ {b:Addr} {m:Str -> Option Value},s₁.heap.Ns b m -> (qL s₁.heap H).Ns b m:=fun {b m} ⟨o,es,ep,e,d,r⟩=>⟨o,es,ep,base_of e (noA e d),d,r⟩
  have hKb:K.In (qL s₁.heap H):=fun b o e=>base_of (KX b o e) (by
   cases q:H b with
   | none=>rfl
   | some u=>
     have e':b = a:=hA b (by rw [q]; simp)
     subst e'
     rw [hK (by rw [q]; simp)] at e; cases e)
  have hM:Mod K mg (qL s₁.heap H):=⟨hKb,nsK hns,⟨mb,nsK hb,hbb⟩,let ⟨mc,h1,h2⟩:=hlim; ⟨mc,nsK h1,h2⟩⟩
  have e0:ui P w K mg (qL s₁.heap H) callerA [] s₁ H:=⟨rfl,hM,fun b o e=>yJ e,Nat.le_of_eq (vc _ _),trivial,fun b hb=>absurd (show b ∈ ([]:List Addr) from hb) (by simp),hok,.of_eq hg⟩
  refine codeAny_mono ((F _ hKb (nsK hns)).run callerA [] s₁ H ⟨[.ref a],[]⟩ [.ref a] [.ref a] _ _ hr e0 (hbind s₁ (.ref a)) (.cons rfl .nil) (hsp H hO hS)) fun r s' h=>?_
  cases r with
  | error e=>exact (hCX H e s' h).elim
  | ok fl=>
    cases fl with
    | next=>exact False.elim h
    | brk=>exact False.elim h
    | cont=>exact False.elim h
    | ret u=>
      obtain ⟨v,H',os,bare,un,hok',r',q⟩:=h
      have q':v = .bl true:=q
      subst q'
      obtain rfl:u = Value.bool true:=r'
      refine ⟨rfl,OldK.of_keep fun b o e=>?_,os,bare⟩
      cases q:H b with
      | none=>exact un.keep b o e q (by intro z; exact absurd (show b ∈ ([]:List Addr) from z) (by simp)) (by simp)
      | some u=>
        rcases hO b with z | ⟨ob,xs,z⟩
        . rw [q] at z; cases z
        . have z2:=un.frzs b ob _ z
          obtain ⟨e1,_⟩:=hok b _ z
          obtain ⟨e2,_⟩:=hok' b _ z2
          rw [e] at e1; cases e1
          exact e2
 cases hk:K.lookup a with
 | some o=>
   have e:=KX a o hk
   rw [ha] at e
   cases e
   refine core (fun _=>none) (fun _=>.inl rfl) (.inr ⟨_,vs.toArray,_,hk,rfl,rfl,rfl,by rw [List.size_toArray,lenV]; exact hl,by simpa using rv⟩) (fun b u z=>by have z':(none:Option HO) = some u:=z; cases z') (fun b z=>absurd rfl z) fun z=>absurd rfl z
 | none=>
   refine core (fun b=>if b = a then some (.frz { cls:=.type "list",data:=.seq vs.toArray } (.lst (ns.map V.int))) else none) (fun b=>?_) (.inl (.inr ⟨{ cls:=.type "list",data:=.seq vs.toArray },if_pos rfl⟩)) (fun b u z=>?_) (fun b z=>?_) fun _=>hk
   . by_cases hb:b = a
     . exact .inr ⟨_,_,if_pos hb⟩
     . exact .inl (if_neg hb)
   . by_cases hb:b = a
     . have z':=(if_pos hb).symm.trans z
       cases z'
       subst hb
       exact ⟨ha,by rw [List.length_map]; exact hl,vs,_,rv,ha⟩
     . have z':=(if_neg hb).symm.trans z
       cases z'
   . by_cases hb:b = a
     . exact hb
     . exact absurd (if_neg hb) z
end L2
namespace L2
open PySem PySem.Spec PyProof.Rows
abbrev KOf {K:PySem.W.Frag} {h:Heap} (_:K.In h):PySem.W.Frag:=K
theorem zU {l:PySem.W.OpenLaw} {n k:Nat} {q:Program} {loose:List Str} {XP:(Str -> Option Value) -> Heap -> Prop} {YP:World -> Heap -> Prop} {d:DefRec} {K:Params -> PySem.W.Frag} {CX:World -> CXT} {sp:World -> Sp} {x:Str}
  (hn:l.most = some n) (hn2:n <= sizeLine) (hdf:d.params.defaults = []) (hr:fJ k callerA)
  (hY:∀ (w:World) (h:Heap),YP w h -> (K w.params).In h)
  (F:∀ (w:World) (mg:Str -> Option Value) (fa:Addr) (h:Heap),(K w.params).In h -> h.Ns mainGlobals mg -> mg d.name = some (.ref fa) ->
    ∃ fd:FuncData,(∀ (s:Shared) (u:Value),BindsTo s fd ⟨[u],[]⟩ [(x,u)]) /\
      ∀ base:Heap,(K w.params).In base -> base.Ns mainGlobals mg -> cy l.prog w (K w.params) mg base (CX w) k fa fd [x] (sp w))
  (hsp:∀ (w:World) (H:Hp) (a:Addr) (ns:List Int),ns.length <= n -> Ca H -> SqL (K w.params) H a (ns.map V.int) -> sp w [.ref a] H (fun v _=>v = .bl true) fun _ _ _=>False)
  (hCX:∀ (w:World) (H:Hp) (s:Shared) (e:Value) (s':Shared),CX w [] H s (fun _ _ _=>False) e s' -> False):
  PySem.W.WalkO q loose XP YP l.row.toRowW d [] (fun f vs=>PySem.call f vs):=by
 refine Att.rh hn hdf fun w s₀ s₁ mg mb fa o pm cd doc a vs ns G Y ho hd hcd hmg hobj hints hlen hg=>?_
 have KX:=hY w _ Y
 obtain ⟨fd,hb,hF⟩:=F w mg fa _ KX G.T.g hmg
 exact xa KX G.T.g G.T.b G.T.builtins G.T.nolimit hg hobj hints (Nat.le_trans hlen hn2) hr hF hb (fun H hO hS=>hsp w H a ns hlen hO hS) fun H e s'=>hCX w H s₁ e s'
end L2
namespace L2
open PySem PySem.Spec PyProof.Rows
def inClass (s:Stmt) (j:Nat):Stmt:=match s with
 | .ClassDef _ _ _ body _ _ _ _ _ _ _=>body.getD j (.Pass ⟨0,0,0,0⟩)
 | _=>.Pass ⟨0,0,0,0⟩
def aY (s:Stmt):Arguments:=match s with
 | .FunctionDef _ a _ _ _ _ _ _ _ _=>a
 | _=>{ posonlyargs:=[],args:=[],vararg:=none,kwonlyargs:=[],kw_defaults:=[],kwarg:=none,defaults:=[] }
def aT (s:Stmt):List Stmt:=match s with
 | .FunctionDef _ _ b _ _ _ _ _ _ _=>b
 | _=>[]
def ao (s:Stmt):Scope:=match s with
 | .FunctionDef _ _ _ _ _ _ sc _ _ _=>sc
 | _=>{ kind:=.function,names:=[],isGenerator:=false,isCoroutine:=false }
structure Fun (K:PySem.W.Frag) (x qual:Str) (st:Stmt) (f:Addr) (fd:FuncData):Prop where
 ex:∃ (oc:Value) (od:Option Addr) (kV doc pm:Value) (an:Option Addr) (cdv ct:Value) (osl:Array (Option Value)),
  fd = PySem.W.fnOf x qual (aY st) (aT st) (ao st) .none kV doc pm an cdv ct /\ K.lookup f = some ⟨oc,od,.func fd,osl⟩ /\ PySem.W.codeIn K cdv qual = true
 kp:PySem.W.keepIn K (.ref f) = true
section
variable {P:Program} {w:World} {K:PySem.W.Frag} {mg:Str -> Option Value} {base:Heap}
theorem Fun.binds {x qual:Str} {st:Stmt} {f:Addr} {fd:FuncData} {ps:List Str} (F:Fun K x qual st f fd)
  (h:∀ (kV doc pm:Value) (an:Option Addr) (cdv ct:Value) (us:List Value),us.length = ps.length -> bindArgs (PySem.W.fnOf x qual (aY st) (aT st) (ao st) .none kV doc pm an cdv ct) ⟨us,[]⟩ = pure (ps.zip us)):Binds K fd ps []:=by
 obtain ⟨oc,od,kV,doc,pm,an,cdv,ct,osl,rfl,lk,hcd⟩:=F.ex
 exact .all (h kV doc pm an cdv ct)
theorem aI {x qual:Str} {st:Stmt} {f:Addr} {oc:Value} {od an:Option Addr} {osl:Array (Option Value)} {kV doc pm cdv ct:Value} (l:K.lookup f = some ⟨oc,od,.func (PySem.W.fnOf x qual (aY st) (aT st) (ao st) .none kV doc pm an cdv ct),osl⟩)
  (c:PySem.W.codeIn K cdv qual = true) (k:PySem.W.keepIn K (.ref f) = true):Fun K x qual st f (PySem.W.fnOf x qual (aY st) (aT st) (ao st) .none kV doc pm an cdv ct):=⟨⟨oc,od,kV,doc,pm,an,cdv,ct,osl,rfl,l,c⟩,k⟩
end
section
variable {X:Cx}
theorem pv (i:Nat) {x:Str} {pos:Pos} (hN:X.N[i]? = some x:=by rfl) (hv:Vis X.env.scope x:=by first | exact Or.inl rfl | exact Or.inr (Or.inl rfl) | exact Or.inr (Or.inr rfl)) (hd:(x == ("__debug__":Str)) = false:=by decide)
  (hcd:(x == ("__classdict__":Str)) = false:=by decide):PE X (.Name x pos) (oN i):=De hN hv hd hcd
end
theorem oV {A B:Prop} (h:B):if false = true then A else B:=by
 rw [if_neg Bool.false_ne_true]
 exact h
theorem o1 {A B:Prop} (h:A):if true = true then A else B:=by
 rw [if_pos rfl]
 exact h
def az (H H':Hp):Prop:=∀ b o,H b = some o -> H' b = some o
theorem az.refl (H:Hp):az H H:=fun _ _ h=>h
theorem az.trans {H H1 H2:Hp} (a:az H H1) (b:az H1 H2):az H H2:=fun c o h=>b c o (a c o h)
theorem az.free {H H':Hp} (e:az H H') {l:Addr} (h:H' l = Option.none):H l = Option.none:=by
 cases q:H l with
 | none=>rfl
 | some o=>
   rw [e l o q] at h
   cases h
theorem az.seq {K:PySem.W.Frag} {H H':Hp} {a:Addr} {xs:List V} (e:az H H') (h:SqL K H a xs):SqL K H' a xs:=by
 rcases h with (h | ⟨o,h⟩) | h
 . exact .inl (.inl (e _ _ h))
 . exact .inl (.inr ⟨o,e _ _ h⟩)
 . exact .inr h
end L2
namespace L2
open PySem PySem.Spec PyProof.Rows
section
variable {κ:Type} [DecidableEq κ]
theorem bJ.getD {o:Option V} {u:Option Value} {d:V} {d':Value} (r:bJ o u) (rd:RelV d d'):RelV (o.getD d) (u.getD d'):=by
 cases o with
 | none=>cases u with
   | none=>exact rd
   | some _=>exact (show False from r).elim
 | some _=>cases u with
   | none=>exact (show False from r).elim
   | some _=>exact r
end
abbrev KT (H:Hp):List (List Key × V) -> List (List Key × Addr × Value) -> Prop:=Paired fun p q=>p.1 = q.1 /\ H q.2.1 = some (.tup (p.1.map kV)) /\ RelV p.2 q.2.2
theorem KT.keeps {H H':Hp} {kvs:List (List Key × V)} {xs:List (List Key × Addr × Value)} (r:KT H kvs xs) (ht:∀ b ys,H b = some (.tup ys) -> H' b = some (.tup ys)):KT H' kvs xs:=
 Paired.Ci r fun _ _ z=>⟨z.1,ht _ _ z.2.1,z.2.2⟩
section
variable {X:Cx} {pins:List (Addr × Obj)} {σ:St} {H:Hp} {s:Shared} {a:Addr} {y v:V} {u r:Value} {o:Option V} {A:Around} {E:Value -> Shared -> Prop}
theorem Inv.big (I:Inv X pins σ H s):sysModules < s.heap.objs.size:=by
 have h:mainGlobals < s.heap.objs.size:=(I.mod.glob.keeps I.bk).lt
 exact Nat.lt_trans (by decide) h
end
end L2
namespace L2
open PySem PySem.Spec PyProof.Rows
end L2
set_option maxHeartbeats 4000000
namespace L2.E
open PySem PySem.Spec PyProof.Rows
def zL (a C:Addr) (dx:Option Addr) (h:Heap):Prop:=∃ o vs,h.get? a = some o /\ o.cls = .ref C /\ o.dict = dx /\ o.data = .fields vs /\ vs.size = 6
def TbO (T:Addr) (h:Heap):Prop:=∃ o ts,h.get? T = some o /\ o.data = .fields ts /\ 3 < ts.size
abbrev mm (a C:Addr) (dx:Option Addr):HO:=.ext (zL a C dx)
abbrev oTb (T:Addr):HO:=.ext (TbO T)
theorem wG {P:Program} {w:World} {H:Hp} {h:Heap} {a C:Addr} {dx:Option Addr} (x:zL a C dx h):gm P w H h a (mm a C dx):=by
 refine ⟨x,let ⟨o,_,e,_⟩:=x; ⟨o,e⟩,fun h1 h2 p k=>?_⟩
 obtain ⟨o,vs,e,r⟩:=p
 exact ⟨o,vs,k o e,r⟩
theorem A8 {P:Program} {w:World} {H:Hp} {h:Heap} {T:Addr} (x:TbO T h):gm P w H h T (oTb T):=by
 refine ⟨x,let ⟨o,_,e,_⟩:=x; ⟨o,e⟩,fun h1 h2 p k=>?_⟩
 obtain ⟨o,vs,e,r⟩:=p
 exact ⟨o,vs,k o e,r⟩
theorem wa {H:Hp} {a:Addr} {o:HO} (h:H a = some o):upd H a o = H:=by
 funext b
 unfold upd
 split
 . rename_i e
   rw [e,h]
 . rfl
structure Fly (H:Hp) (h:Heap) (a C:Addr) (dx:Option Addr):Prop where
 exc:H a = some (mm a C dx)
 tb:∃ o vs,h.get? a = some o /\ o.data = .fields vs /\ (vs[1]? = some Value.none \/ ∃ T,vs[1]? = some (.ref T) /\ H T = some (oTb T) /\ T ≠ a)
structure qm (H:Hp) (h:Heap) (a C:Addr) (dx:Option Addr):Prop where
 exc:H a = some (mm a C dx)
 tb:∃ o vs T,h.get? a = some o /\ o.data = .fields vs /\ vs[1]? = some (.ref T) /\ H T = some (oTb T) /\ T ≠ a
theorem qm.fly {H:Hp} {h:Heap} {a C:Addr} {dx:Option Addr} (F:qm H h a C dx):Fly H h a C dx:=
 let ⟨o,vs,T,e1,e2,e3,e4,e5⟩:=F.tb
 ⟨F.exc,o,vs,e1,e2,.inr ⟨T,e3,e4,e5⟩⟩
section
variable {X:Cx} {pins:List (Addr × Obj)} {σ:St} {H:Hp} {s:Shared} {a C:Addr} {dx:Option Addr}
theorem wN {h₁:Heap} (I:Inv X pins σ H s) (k:Heap.SlotsOnly (frs X.stack) s.heap h₁):Un (frs X.stack) [] H H s.heap h₁ where
 keep:=fun b o e _ hb _=>(k.2.1 b hb).trans e
 slot:=fun b o e _ _ _=>k.2.2 b o e
 free:=fun _ _ _ n _=>n
 there:=fun b o e _=>let ⟨_,q⟩:=k.2.2 b o e; ⟨_,q⟩
 tups:=fun _ _ q=>q
 frzs:=fun _ _ _ q=>q
 tbls:=fun _ ps q=>⟨#[],by rw [q]; simp⟩
theorem vb {h₁:Heap} (I:Inv X pins σ H s) (k:Heap.SlotsOnly (frs X.stack) s.heap h₁):HOk X.prog X.w H h₁:=fun b o e=>by
 have nf:∀ c u,H c = some u -> c ∉ frs X.stack:=fun c u q z=>by rw [I.qS c z] at q; cases q
 refine (I.hok b o e).lj (fun c v hc q=>(k.2.1 c ?_).trans q) (fun _ q=>q) fun _ _ q=>q
 rcases hc with z | z
 . rw [z]; exact nf b o e
 . exact nf c _ z
theorem zA {i:Nat} {v:Value} (I:Inv X pins σ H s) (e:H a = some (mm a C dx)):
  Inv X pins σ H { s with heap:=s.heap.update a (Obj.mapFields (·.setIfInBounds i v)) }:=by
 obtain ⟨⟨o,vs,ho,hc,hd,hf,hz⟩,_,_⟩:=I.hok a _ e
 have hs:=Heap.get?_update_self (Obj.mapFields (·.setIfInBounds i v)) ho (Obj.isFreed_of_fields (Obj.data_mapFields hf _))
 have q:=I.write (x:=a) (e:=a) (o:=mm a C dx) (t':=s.toks) (h':=s.heap.update a (Obj.mapFields (·.setIfInBounds i v))) (by rw [e]; trivial) (.inl rfl)
  (fun b u hb q=>(Heap.get?_update_other _ _ (Ne.symm hb)).trans q) ⟨_,hs⟩ (wG ⟨_,_,hs,by rw [Obj.cls_mapFields]; exact hc,by obtain ⟨c,d,dt,sl⟩:=o; cases dt <;> exact hd,Obj.data_mapFields hf _,by simpa using hz⟩)
 rw [wa e] at q
 exact q
theorem wc {T:Addr} {i:Nat} {v:Value} (I:Inv X pins σ H s) (e:H T = some (oTb T)):
  Inv X pins σ H { s with heap:=s.heap.update T (Obj.mapFields (·.setIfInBounds i v)) }:=by
 obtain ⟨⟨o,vs,ho,hf,hz⟩,_,_⟩:=I.hok T _ e
 have hs:=Heap.get?_update_self (Obj.mapFields (·.setIfInBounds i v)) ho (Obj.isFreed_of_fields (Obj.data_mapFields hf _))
 have q:=I.write (x:=T) (e:=T) (o:=oTb T) (t':=s.toks) (h':=s.heap.update T (Obj.mapFields (·.setIfInBounds i v))) (by rw [e]; trivial) (.inl rfl)
  (fun b u hb q=>(Heap.get?_update_other _ _ (Ne.symm hb)).trans q) ⟨_,hs⟩ (A8 ⟨_,_,hs,Obj.data_mapFields hf _,by simpa using hz⟩)
 rw [wa e] at q
 exact q
theorem sy {L:Addr} {head:Value} {had:Bool} {Q:Unit -> Shared -> Prop} {E:Value -> Shared -> Prop} (I:Inv X pins σ H s) (hst:X.stack = X.env ::X.outer) (hf:X.env.frame = some L) (e:H a = some (mm a C dx))
  (h:∀ s' H',Inv X pins σ H' s' -> az H H' -> qm H' s'.heap a C dx -> Q () s'):
  wpAny (model X.prog X.w) X.A (do let fr <- frameOf X.env; let pl <- entryPlaceOf L had; let b <- EntryCells.newEntry head fr .none (rawInt L) .none pl; setField (.ref a) 1 b) Q E s:=by
 have hfr:X.A.frames = some (X.env ::X.outer):=by rw [<- hst]; exact I.ok.frames
 have hl:s.heap.FunFrames X.base (X.env ::X.outer):=by rw [<- hst]; exact I.stack
 refine wpAny_bind (wpAny_frameOf_fun hfr hl hf fun h₁ k₁=>?_)
 have k₁':Heap.SlotsOnly (frs X.stack) s.heap h₁:=by rw [hst]; exact k₁
 have I₁:=I.call (g':=s.gens) (t':=s.toks) (d':=s.drawn) (ch:=[]) (wN I k₁') (vb I k₁') I.bare (fun b z=>absurd z (by simp))
 refine wpAny_bind (wpAny_entryPlaceOf fun pl hpl=>?_)
 unfold EntryCells.newEntry newFields
 refine wpAny_bind (wpAny_newObj_type ?_ (hpl.sizeOk5 _ _ _ _ _))
 have big:3 < ([head,.ref L,.none,rawInt L,.none] ++ (if pl.isEmpty then List.replicate 6 Value.none else pl)).toArray.size:=by
  rw [List.size_toArray,List.length_append]
  show 3 < 5 + _
  omega
 have new:=Heap.get?_push_size h₁ (o:={ cls:=.type "traceback",dict:=none,data:=.fields ([head,.ref L,.none,rawInt L,.none] ++ (if pl.isEmpty then List.replicate 6 Value.none else pl)).toArray }) rfl
 have fr:H h₁.objs.size = none:=I₁.hok.fresh (Nat.le_refl _)
 have ne:h₁.objs.size ≠ a:=fun z=>by rw [z,e] at fr; cases fr
 have I₂:=I₁.laid (a:=h₁.objs.size) (o:=oTb h₁.objs.size) (t':=s.toks) (fun b u q=>Heap.get?_push_of_some _ q) (Nat.le_refl _) (A8 ⟨_,_,new,rfl,big⟩)
 have g:az H (upd H h₁.objs.size (oTb h₁.objs.size)):=fun b u q=>by rw [aO (cz q fr)]; exact q
 obtain ⟨⟨o,vs,ho,hc,hd,hv,hz⟩,_,_⟩:=I₂.hok a _ (g _ _ e)
 refine wpAny_setField ho hv (by omega) ?_
 refine h _ _ (zA I₂ (g _ _ e)) g ⟨g _ _ e,_,_,h₁.objs.size,Heap.get?_update_self _ ho (Obj.isFreed_of_fields (Obj.data_mapFields hv _)),Obj.data_mapFields hv _,by simp [hz],aX,ne⟩
theorem uk {Q:Unit -> Shared -> Prop} {E:Value -> Shared -> Prop} (I:Inv X pins σ H s) (hst:X.stack = X.env ::X.outer /\ X.env.frame = some X.env.locals) (F:Fly H s.heap a C dx)
  (h:∀ s' H',Inv X pins σ H' s' -> az H H' -> qm H' s'.heap a C dx -> Q () s'):wpAny (model X.prog X.w) X.A (noteFrame (.ref a) X.env) Q E s:=by
 obtain ⟨o,vs,ho,hv,hw⟩:=F.tb
 unfold noteFrame
 simp only [hst.2]
 rcases hw with h1 | ⟨T,h1,hT,ne⟩
 . refine wpAny_bind (wpAny_field ho hv h1 ?_)
   rw [if_neg (by decide)]
   exact sy I hst.1 hst.2 F.exc h
 . obtain ⟨⟨oT,ts,hoT,hdT,hz⟩,_,_⟩:=I.hok T _ hT
   refine wpAny_bind (wpAny_field ho hv h1 ?_)
   rw [if_pos (show (Value.ref T != Value.none) = true from by simp)]
   have h3:ts[3]? = some ts[3]:=by simp [hz]
   refine wpAny_bind (wpAny_field hoT hdT h3 ?_)
   by_cases c:(ts[3] == rawInt X.env.locals) = true
   . rw [if_pos c]
     exact wpAny_pure (h s H I (az.refl H) ⟨F.exc,o,vs,T,ho,hv,h1,hT,ne⟩)
   . rw [if_neg c]
     refine wpAny_bind (wpAny_setField hoT hdT hz ?_)
     exact sy (wc I hT) hst.1 hst.2 F.exc h
theorem ku {x:Option Addr} {Q:Unit -> Shared -> Prop} {E:Value -> Shared -> Prop} (I:Inv X pins σ H s) (F:qm H s.heap a C dx)
  (h:∀ s',Inv X pins σ H s' -> qm H s'.heap a C dx -> Q () s'):wpAny (model X.prog X.w) X.A (setFlight (.ref a) x) Q E s:=by
 obtain ⟨o,vs,T,ho,hv,h1,hT,ne⟩:=F.tb
 unfold setFlight
 obtain ⟨⟨oT,ts,hoT,hdT,hz⟩,_,_⟩:=I.hok T _ hT
 refine wpAny_bind (wpAny_field ho hv h1 ?_)
 rw [if_pos (show (Value.ref T != Value.none) = true from by simp)]
 refine wpAny_setField hoT hdT hz ?_
 exact h _ (wc I hT) ⟨F.exc,o,vs,T,(Heap.get?_update_other _ _ ne).trans ho,hv,h1,hT,ne⟩
theorem Ae {α:Type} {what:String} {Q:α -> Shared -> Prop} {E:Value -> Shared -> Prop} (I:Inv X pins σ H s) (F:qm H s.heap a C dx)
  (h:∀ s',Inv X pins σ H s' -> qm H s'.heap a C dx -> E (.ref a) s'):wpAny (model X.prog X.w) X.A (PySem.passOn what (.ref a) X.env:Sem α) Q E s:=by
 obtain ⟨o,vs,T,ho,hv,h1,hT,ne⟩:=id F.tb
 unfold PySem.passOn
 refine wpAny_bind (wpAny_field ho hv h1 ?_)
 rw [if_neg (show ¬ (Value.ref T == Value.none) = true from by simp)]
 exact wpAny_bind (ku I F fun s' I' F'=>wpAny_throw (h s' I' F'))
end
def CXE (P:Program) (w:World):CXT:=fun outer H s E e s'=>∃ a C dx H',e = .ref a /\ s'.os = s.os /\ AllBare s'.gens /\ Un (frs outer) [] H H' s.heap s'.heap /\ HOk P w H' s'.heap /\ Fly H' s'.heap a C dx /\ E (.ref C) (some a) H'
abbrev XW:=Value -> Option Addr -> St -> Hp -> Prop
def Thr (X:Cx) (W:XW):Prop:=∀ (pins:List (Addr × Obj)) (σ:St) (H:Hp) (s:Shared) (a C:Addr) (dx:Option Addr),Inv X pins σ H s -> Fly H s.heap a C dx -> W (.ref C) (some a) σ H -> X.xe (.ref a) s
section
variable {CX:CXT} {P:Program} {w:World} {K:PySem.W.Frag} {mg:Str -> Option Value} {base:Heap} {N:List Str} {qual:Str} {scope:Scope} {f:Addr} {cd:Value} {A:Around} {outer:List Env} {s₀:Shared} {H₀:Hp} {E:XK}
theorem aS:Thr (lF (CXE P w) P w K mg base N qual scope f cd A outer s₀ H₀ E) (fun C a _ H=>∀ H',az H H' -> E C a H'):=by
 intro pins σ H s a C dx I F hw
 show wpAny _ _ (leaving _ _) _ _ s
 unfold leaving
 refine wpAny_bind (uk I ⟨rfl,rfl⟩ F fun s1 H1 I1 g1 F1=>?_)
 refine ku I1 F1 fun s2 I2 F2=>?_
 exact ⟨a,C,dx,H1,rfl,I2.os,I2.bare,I2.base,I2.hok,F2.fly,hw H1 g1⟩
theorem iu:PassesOwn (model P w) (lF (CXE P w) P w K mg base N qual scope f cd A outer s₀ H₀ E).A (lF (CXE P w) P w K mg base N qual scope f cd A outer s₀ H₀ E).env (lF (CXE P w) P w K mg base N qual scope f cd A outer s₀ H₀ E).xe:=by
 show PassesOwn (model P w) (A.deeper (envOfC qual scope s₀.heap.objs.size f cd)) (envOfC qual scope s₀.heap.objs.size f cd) (fun e s'=>wpAny (model P w) (A.deeper (envOfC qual scope s₀.heap.objs.size f cd)) (leaving (envOfC qual scope s₀.heap.objs.size f cd) e) (fun _ s''=>CXE P w outer H₀ s₀ E e s'') (fun e' s''=>CXE P w outer H₀ s₀ E e' s'') s')
 passes_own
end
section
variable {X:Cx} {k:Nat} {f:Addr} {fd:FuncData} {ps:List Str} {sp:Sp} {dvs:List V} {ds:List Value} {W:XW} {x m:Str} {p pos apos:Pos} {e o:Expr} {es:List Expr} {ta:TE} {t:TA}
def oG (sp:Sp) (dvs:List V) (W:XW) (t:TA):TE:=fun σ H Q=>t σ H fun vs H1=>sp (vs ++ dvs) H1 Q fun C a H'=>W C a σ H'
theorem nz {pins:List (Addr × Obj)} {σ:St} {H:Hp} {s:Shared} {Q:VK} {us:List Value} {vs:List V} (F:cy X.prog X.w X.K X.mg X.base (CXE X.prog X.w) k f fd ps sp) (hr:fJ k X.A) (hb:Binds X.K fd ps ds) (hd:Vals dvs ds) (hx:Thr X W)
  (I:Inv X pins σ H s) (r:Vals vs us) (h:sp (vs ++ dvs) H Q fun C a H'=>W C a σ H'):wpAny (model X.prog X.w) X.A (call (.ref f) us) (EP X pins σ Q) X.xe s:=by
 have r2:Vals (vs ++ dvs) (us ++ ds):=r.append hd
 have hl:(us ++ ds).length = ps.length:=by rw [<- r2.length]; exact F.len _ _ _ _ h
 refine wpAny_call (codeAny_mono (F.run X.A X.stack s H ⟨us,[]⟩ (us ++ ds) (vs ++ dvs) Q _ hr I.Bw (hb s us I.kIn hl) r2 h) fun r s' hq=>?_)
 cases r with
 | error e=>
   obtain ⟨a,C,dx,H',rfl,ho,bare,un,hok,fl,hw⟩:=hq
   exact hx pins σ H' s' a C dx (I.AG ho un hok bare fun b z=>absurd z (by simp)) fl hw
 | ok fl=>
   cases fl with
   | ret u=>exact I.after hq
   | next=>exact False.elim hq
   | brk=>exact False.elim hq
   | cont=>exact False.elim hq
theorem wD (F:cy X.prog X.w X.K X.mg X.base (CXE X.prog X.w) k f fd ps sp) (hr:fJ k X.A) (hg:Gl X x) (hm:X.mg x = some (.ref f)) (hk:PySem.W.keepIn X.K (.ref f) = true) (hb:Binds X.K fd ps ds) (hd:Vals dvs ds) (hx:Thr X W)
  (ha:PA X (e ::es) t) (hdb:(x == ("__debug__":Str)) = false:=by decide) (he:starEach (e ::es) X.env = (false,eval e X.env) ::starEach es X.env:=by rfl) (hpl:(backTo pos (starEach es X.env)).any (·.1) = false:=by rfl):
  PE X (.Call (.Name x p) (e ::es) [] pos) (oG sp dvs W t):=by
 intro pins s σ H Q I h
 refine wpAny_Call_Name_kw (kA I hg hm ?_ hdb)
 refine PySem.W.callWith_K (h₀:=X.base) I.ok.mod.kin hk (thn (ha pos pins s σ H _ I h) fun us s1 ⟨vs,H1,I1,r,q⟩=>⟨I1.kIn,?_⟩) he hpl
 exact nz F hr hb hd hx I1 r q
theorem vg (F:cy X.prog X.w X.K X.mg X.base (CXE X.prog X.w) k f fd ps sp) (hr:fJ k X.A) (hg:Gl X x) (hm:X.mg x = some (.ref f)) (hk:PySem.W.keepIn X.K (.ref f) = true) (hb:Binds X.K fd ps ds) (hd:Vals dvs ds) (hx:Thr X W)
  (hdb:(x == ("__debug__":Str)) = false:=by decide):PE X (.Call (.Name x p) [] [] pos) (oG sp dvs W jM):=by
 intro pins s σ H Q I h
 refine wpAny_Call_Name_kw (kA I hg hm ?_ hdb)
 exact PySem.W.callWith_K0 I.kIn hk (nz (us:=[]) F hr hb hd hx I .nil h)
end
end L2.E
namespace L2.E
open PySem PySem.Spec PyProof.Rows
theorem wF {P:Program} {w:World} {H:Hp} {h:Heap} {a:Addr} {o:HO} (x:gm P w H h a o):∃ u,h.get? a = some u:=by
 cases o with
 | lst xs=>obtain ⟨_,_,_,_,e⟩:=x; exact ⟨_,e⟩
 | tup xs=>obtain ⟨_,_,_,u,e,_⟩:=x; exact ⟨_,e⟩
 | dK kvs=>obtain ⟨_,_,_,_,o,_,_,e,_⟩:=x; exact ⟨_,e⟩
 | dT kvs=>obtain ⟨_,_,_,_,o,_,_,e,_⟩:=x; exact ⟨_,e⟩
 | set S n=>obtain ⟨o,_,_,_,e,_⟩:=x; exact ⟨_,e⟩
 | ins C dx fs=>obtain ⟨_,_,_,e,_⟩:=x; exact ⟨_,e⟩
 | own y=>exact x
 | xd fs=>obtain ⟨_,⟨_,_,_,e,_⟩,_⟩:=x; exact ⟨_,e⟩
 | rng lo hi=>obtain ⟨_,_,_,e⟩:=x; exact ⟨_,e⟩
 | frz ob u=>obtain ⟨e,_⟩:=x; exact ⟨_,e⟩
 | tbl ps=>exact ⟨_,x⟩
 | met f y=>exact ⟨_,x⟩
 | ext φ=>exact x.2.1
section
variable {X:Cx} {pins:List (Addr × Obj)} {σ:St} {H:Hp} {s:Shared} {h':Heap} {a:Addr} {o:HO}
theorem uQ (I:Inv X pins σ H s) (hn:s.heap.get? a = none):H a = none:=by
 cases q:H a with
 | none=>rfl
 | some u=>
   obtain ⟨v,e⟩:=wF (I.hok a u q)
   rw [hn] at e; cases e
theorem D7 (I:Inv X pins σ H s) (k:∀ b u,s.heap.get? b = some u -> h'.get? b = some u) (hn:s.heap.get? a = none) (new:gm X.prog X.w (upd H a o) h' a o):
  Inv X pins σ (upd H a o) { s with heap:=h' }:=by
 have fr:=uQ I hn
 have ne:∀ b u,s.heap.get? b = some u -> b ≠ a:=fun b u q z=>by rw [z,hn] at q; cases q
 have un:Un X.fs [] H (upd H a o) s.heap h':=⟨fun b u q _ _ _=>k b u q,fun b u q _ _ _=>⟨u.slots,k b u q⟩,fun b u q n _=>by rw [aO (ne b u q)]; exact n,fun b u q _=>⟨u,k b u q⟩,
  fun b xs q=>by rw [aO (cz q fr)]; exact q,fun b u xs q=>by rw [aO (cz q fr)]; exact q,fun b ps q=>⟨#[],by rw [aO (cz q fr),q]; simp⟩⟩
 refine I.un (t':=s.toks) un fun b u q=>?_
 by_cases hb:b = a
 . subst hb
   rw [aX] at q; cases q
   exact new
 . rw [aO hb] at q
   exact (I.hok b u q).lj (fun c v _ z=>k c v z) (fun c z=>by rw [aO (cz z fr)]; exact z) fun c xs z=>by rw [aO (cz z fr)]; exact z
end
theorem Ac {K:PySem.W.Frag} {h₀:Heap} {mg:Str -> Option Value} {x:Str} {C:Addr} {bmB:List Value} {newId:String} (X:K.In h₀) (e:mg x = some (.ref C)) (q:PySem.W.excIn K C bmB newId = true):
  OwnCls x C bmB newId mg h₀:=by
 refine ⟨e,?_⟩
 unfold PySem.W.excIn at q
 split at q
 next dd cd sl ho=>
  split at q
  next C' bm k0 k1 k2 k3 n k5 hm hs=>
   simp only [Bool.and_eq_true,beq_iff_eq,Bool.not_eq_true'] at q
   obtain ⟨⟨⟨⟨⟨e1,e2⟩,del⟩,ht⟩,ok⟩,ini⟩:=q
   subst e1 e2
   cases cd with
   | mk nm bs mro ns qn hd sn sub ab col dl=>
     dsimp only at hm del ok ini
     subst hm del
     have z:sl = #[k0,k1,k2,k3,some (.builtin n),k5]:=by cases sl; simp only at hs; rw [hs]
     subst z
     exact ⟨bm,ns,nm,qn,bs,hd,sn,sub,ab,col,dd,k0,k1,k2,k3,k5,_,X _ _ ho,.of_isNs (PySem.W.isNs_of_in X ok),PySem.W.nsMap_none_of_in X ok ini,PySem.W.tail_of_in X ht⟩
  next=>cases q
 next=>cases q
abbrev hand (X:Cx) (a:Addr):Cx:={ X with A:=X.A.mark (some (.ref a)),calm:=false,xe:=fun _ _=>False }
theorem uS {X:Cx} {pins:List (Addr × Obj)} {σ:St} {H:Hp} {s:Shared} (I:Inv X pins σ H s) (a:Addr):Inv (hand X a) pins σ H s:=
 ⟨⟨I.ok.mod,I.ok.kind,I.ok.glob,I.ok.blt,I.ok.above,I.ok.inj,I.ok.has,I.ok.cab,fun z=>absurd z Bool.false_ne_true,I.ok.frames,I.ok.stk,I.ok.exf,I.ok.bs,I.ok.bsz,I.ok.noex,I.ok.exfs,I.ok.nc,I.ok.frf⟩,I.os,I.bare,I.base,I.loc,I.cell,I.free,I.freeC,I.pin,I.hok,I.len⟩
theorem lQ {X:Cx} {pins:List (Addr × Obj)} {σ:St} {H:Hp} {s:Shared} {a:Addr} (ok:X.Ok) (I:Inv (hand X a) pins σ H s):Inv X pins σ H s:=
 ⟨ok,I.os,I.bare,I.base,I.loc,I.cell,I.free,I.freeC,I.pin,I.hok,I.len⟩
abbrev nY (X:Cx) (pn:List (Addr × Obj)) (xe:Value -> Shared -> Prop):Cx:={ X with pn:=pn,xe:=xe }
theorem C8 {X:Cx} {pins:List (Addr × Obj)} {σ:St} {H:Hp} {s:Shared} (I:Inv X pins σ H s) (xe:Value -> Shared -> Prop):Inv (nY X (X.pn ++ pins) xe) [] σ H s:=
 ⟨⟨I.ok.mod,I.ok.kind,I.ok.glob,I.ok.blt,I.ok.above,I.ok.inj,I.ok.has,I.ok.cab,I.ok.hd,I.ok.frames,I.ok.stk,I.ok.exf,I.ok.bs,I.ok.bsz,I.ok.noex,I.ok.exfs,I.ok.nc,I.ok.frf⟩,I.os,I.bare,I.base,I.loc,I.cell,I.free,I.freeC,fun p hp=>I.pin p (by simpa using hp),I.hok,I.len⟩
theorem lX {X:Cx} {pins pins':List (Addr × Obj)} {σ:St} {H:Hp} {s:Shared} {xe:Value -> Shared -> Prop} (ok:X.Ok) (I:Inv (nY X (X.pn ++ pins) xe) pins' σ H s):Inv X pins σ H s:=
 ⟨ok,I.os,I.bare,I.base,I.loc,I.cell,I.free,I.freeC,fun p hp=>I.pin p (List.mem_append_left _ hp),I.hok,I.len⟩
def uf (K:PySem.W.Frag) (C:Addr) (bm:List Value):Prop:=bm.contains (.type "BaseException") = true /\ ∃ nm q N bs hdct sn sub ab col dd k0 k1 k2 k3 k5 newId,K.lookup C = some (excClassObj nm q C N bs bm hdct sn sub ab col dd k0 k1 k2 k3 k5 newId)
def pI (K:PySem.W.Frag) (T C:Addr) (b:Bool):Prop:=∃ bmC bmT,uf K C bmC /\ uf K T bmT /\ (Value.ref C ::bmC).contains (.ref T) = b
theorem sL {M:Model} {A:Around} {E:Value -> Shared -> Prop} {K:PySem.W.Frag} {s:Shared} {a C T:Addr} {dx:Option Addr} {b:Bool} {Q:Bool -> Shared -> Prop} (X:K.In s.heap) (e:zL a C dx s.heap) (t:pI K T C b) (hq:Q b s):
  wpAny M A (excMatches (.ref a) (.ref T)) Q E s:=by
 obtain ⟨bmC,bmT,⟨bC,nm,q,N,bs,hdct,sn,sub,ab,col,dd,k0,k1,k2,k3,k5,nid,lC⟩,⟨bT,nm',q',N',bs',hdct',sn',sub',ab',col',dd',k0',k1',k2',k3',k5',nid',lT⟩,hb⟩:=t
 obtain ⟨o,vs,he,hcls,_⟩:=e
 have hC:=X _ _ lC
 have hT:=X _ _ lT
 obtain ⟨hp,g,d,tk,os⟩:=s
 have f:=tc_notTuple
 have cB:(Value.ref T ::bmT).contains (.type "BaseException") = true:=by rw [List.contains_cons,bT,Bool.or_true]
 unfold excMatches
 repeat (first
  | (with_reducible refine wpAny_loadPart_at he ?_; rw [hcls])
  | with_reducible refine wpAny_loadPart_at hT ?_
  | (with_reducible refine wpAny_isSubtype_exc hC ?_; rw [hb])
  | (with_reducible refine wpAny_isSubtype_exc hT ?_; rw [cB])
  | wp_step)
 cases b <;> (wp_walk; exact hq)
end L2.E
namespace L2.E
open PySem PySem.Spec PyProof.Rows
theorem yY {X:Cx} {pins:List (Addr × Obj)} {σ:St} {H:Hp} {s:Shared} {h':Heap} {t':Nat} {i:Nat} {n:Str} {m:Str -> Option Value} {v:Option Value} (I:Inv X pins σ H s) (hN:X.N.Nodup) (hi:X.N[i]? = some n)
  (hl:∀ (j:Nat) (x:Str) (v:V),X.N[j]? = some x -> σ[j]? = some (some v) -> Vis X.env.scope x -> ∃ u,RelV v u /\ Look X.env s.heap m x u)
  (hs:Heap.SameBut X.env.locals s.heap h') (hn:h'.Ns X.env.locals (fun x=>if x = n then v else m x)):Inv X pins (σ.set i none) H { s with heap:=h',toks:=t' }:=by
 have cne:=I.cne
 refine ⟨I.ok,I.os,I.bare,⟨fun b o e k hb hx=>?_,fun b o e k hb hx=>?_,I.base.free,fun b o e hx=>?_,I.base.tups,I.base.frzs,I.base.tbls⟩,⟨_,hn,fun j y w e1 e2 e3=>?_⟩,fun y c e=>?_,I.free,I.freeC,fun p hp=>?_,fun b ob e=>?_,by simpa using I.len⟩
 . exact (hs.2 b (Nat.ne_of_lt (Nat.lt_of_lt_of_le (Heap.lt_size e) I.ok.above))).trans (I.base.keep b o e k hb hx)
 . obtain ⟨sl,z⟩:=I.base.slot b o e k hb hx
   exact ⟨sl,(hs.2 b (Nat.ne_of_lt (Nat.lt_of_lt_of_le (Heap.lt_size e) I.ok.above))).trans z⟩
 . obtain ⟨o',z⟩:=I.base.there b o e hx
   exact ⟨o',(hs.2 b (Nat.ne_of_lt (Nat.lt_of_lt_of_le (Heap.lt_size e) I.ok.above))).trans z⟩
 . by_cases hj:j = i
   . subst hj
     rw [List.getElem?_set] at e2
     split at e2
     . split at e2 <;> cases e2
     . exact absurd rfl ‹_›
   . rw [List.getElem?_set_ne (Ne.symm hj)] at e2
     obtain ⟨u,r,q⟩:=hl j y w e1 e2 e3
     refine ⟨u,r,?_⟩
     rcases q with ⟨k,e⟩ | ⟨k,c,e,z⟩
     . refine .inl ⟨k,?_⟩
       have:y ≠ n:=fun z=>hj (og hN e1 (z ▸ hi))
       simp [this,e]
     . exact .inr ⟨k,c,e,z.sameBut hs (cne y c e)⟩
 . obtain ⟨w,z⟩:=I.cell y c e
   exact ⟨w,z.sameBut hs (cne y c e)⟩
 . obtain ⟨e,k,ne,nf,d⟩:=I.pin p hp
   exact ⟨(hs.2 p.1 ne).trans e,k,ne,nf,d⟩
 . refine (I.hok b ob e).lj (fun c w hc q=>(hs.2 c ?_).trans q) (fun _ q=>q) fun _ _ q=>q
   rintro rfl
   rcases hc with z | z
   . rw [<- z,I.free] at e; cases e
   . rw [I.free] at z; cases z
def Ec (i:Option Nat) (a:Option Addr) (σ:St):St:=match i,a with
 | some j,some b=>σ.set j (some (.ref b))
 | _,_=>σ
def xB (i:Option Nat) (σ:St):St:=match i with
 | some j=>σ.set j none
 | none=>σ
def xU (i:Option Nat) (D:Ends):Ends:={ nx:=fun σ H=>D.nx (xB i σ) H,rt:=D.rt,bk:=fun σ H=>D.bk (xB i σ) H,ct:=fun σ H=>D.ct (xB i σ) H }
def DR (K:PySem.W.Frag) (T:Addr) (ts:TS) (i:Option Nat) (W₀:XW) (D:Ends):XW:=fun C a σ H=>∀ H',az H H' -> ∃ c b,C = .ref c /\ pI K T c b /\ if b = true then ts (xU i D) (Ec i a σ) H' else W₀ C a σ H'
def CA (K:PySem.W.Frag) (tb:XW -> TS) (T:Addr) (ts:TS) (i:Option Nat) (W₀:XW):TS:=fun D σ H=>tb (DR K T ts i W₀ D) D σ H
section
variable {X:Cx} {x n:Str} {np hpos pos:Pos} {body suite:List Stmt} {b₀:Stmt} {tb:XW -> TS} {ts:TS} {T:Addr} {W₀:XW}
theorem y6 {a:Addr} {pins:List (Addr × Obj)} {D:Ends} {f:Flow} {s:Shared} (ok:X.Ok) (h:SP (hand X a) pins D f s):SP X pins D f s:=by
 cases f with
 | next=>obtain ⟨σ',H',I,q⟩:=h; exact ⟨σ',H',lQ ok I,q⟩
 | brk=>obtain ⟨σ',H',I,q⟩:=h; exact ⟨σ',H',lQ ok I,q⟩
 | cont=>obtain ⟨σ',H',I,q⟩:=h; exact ⟨σ',H',lQ ok I,q⟩
 | ret u=>obtain ⟨v,σ',H',I,r,q⟩:=h; exact ⟨v,σ',H',lQ ok I,r,q⟩
theorem Cc {pins pins':List (Addr × Obj)} {xe:Value -> Shared -> Prop} {D:Ends} {f:Flow} {s:Shared} (ok:X.Ok) (h:SP (nY X (X.pn ++ pins) xe) pins' D f s):SP X pins D f s:=by
 cases f with
 | next=>obtain ⟨σ',H',I,q⟩:=h; exact ⟨σ',H',lX ok I,q⟩
 | brk=>obtain ⟨σ',H',I,q⟩:=h; exact ⟨σ',H',lX ok I,q⟩
 | cont=>obtain ⟨σ',H',I,q⟩:=h; exact ⟨σ',H',lX ok I,q⟩
 | ret u=>obtain ⟨v,σ',H',I,r,q⟩:=h; exact ⟨v,σ',H',lX ok I,r,q⟩
theorem vS {pins:List (Addr × Obj)} {σ:St} {H:Hp} {s:Shared} {a C:Addr} {dx:Option Addr} {b:Bool} {R:Result -> Shared -> Prop} (I:Inv X pins σ H s) (F:qm H s.heap a C dx) (hg:Gl X x) (hm:X.mg x = some (.ref T)) (hk:pI X.K T C b)
  (hd:(x == ("__debug__":Str)) = false) (h:R (.ok (if b then .brk else .next)) s):codeAny (model X.prog X.w) (X.A.mark (some (.ref a))) (.handlers (.ref a) [.ExceptHandler (some (.Name x np)) none [] hpos] X.env) R s:=by
 refine codeAny_handlers_test (kA (X:=hand X a) (uS I a) hg hm ?_ hd)
 obtain ⟨e,_,_⟩:=I.hok a _ F.exc
 exact sL I.kIn e hk h
theorem xE {i:Nat} (hst:X.stack = X.env ::X.outer /\ X.env.frame = some X.env.locals) (hN:X.N.Nodup) (hi:X.N[i]? = some n) (hl:X.env.scope.names.lookup n = some .local) (hb:∀ pn xe W,Thr (nY X pn xe) W -> PassesOwn (model X.prog X.w) X.A X.env xe -> PSs (nY X pn xe) body (tb W))
  (hg:Gl X x) (hm:X.mg x = some (.ref T)) (hs:∀ a,PSs (hand X a) (b₀ ::suite) ts) (hX:Thr X W₀) (hd:(x == ("__debug__":Str)) = false:=by decide):
  PS X (.Try body [.ExceptHandler (some (.Name x np)) (some n) (b₀ ::suite) hpos] [] [] pos) (CA X.K tb T ts (some i) W₀):=by
 intro pins s σ H D I h
 have hcls:(X.env.scope.kind == .class || (X.env.scope.kind == .module && X.env.locals != X.env.globals)) = false:=by rw [I.ok.kind]; rfl
 have fin:∀ {σ' H' s'},Inv X pins σ' H' s' -> ∀ {Q:Unit -> Shared -> Prop} {E:Value -> Shared -> Prop},(∀ s'',Inv X pins (σ'.set i none) H' s'' -> Q () s'') -> wpAny (model X.prog X.w) X.A (do bindName X.env n .none; unbindBehindTheSuite X.env n hpos) Q E s':=fun {σ' H' s'} J {Q E} k=>by
  obtain ⟨m,hn,hlk⟩:=id J.loc
  exact wpAny_nameGoes_keeps hl hn hcls fun h2 v hn2 hs2=>k _ (yY J hN hi hlk hs2 hn2)
 refine wpAny_Try_except ?_
 refine wpAny_mono (hb (X.pn ++ pins) _ (DR X.K T ts (some i) W₀ D) ?_ PassesOwn.looking [] s σ H D (C8 I _) h) (fun f s1 h1=>?_) fun _ _ z=>z
 . intro pins' σ' H' s' a C dx I' F' hw
   refine uk (lX (pins:=pins) I.ok I') hst F' fun s1 H1 I1 g1 F1=>?_
   refine ku I1 F1 fun s2 I2 F2=>?_
   obtain ⟨c,b,hc,hk,q⟩:=hw H1 g1
   cases hc
   refine wpAny_handleBy_cons (vS I2 F2 hg hm hk hd ?_) (by intro z; cases z)
   cases b with
   | true=>
     refine codeAny_handlers_suite_as (ku (X:=hand X a) (uS I2 a) F2 fun s3 I3 F3=>?_)
     refine gL (X:=hand X a) (v:=.ref a) I3 hN hi (.inl hl) rfl (fun s4 I4=>?_) (.inr hl)
     refine wpAny_mono (hs a pins s4 _ H1 (xU (some i) D) I4 q) (fun f s5 h5=>?_) fun _ _ z=>False.elim z
     have z:=y6 I.ok h5
     show wpAny _ _ _ _ _ s5
     cases f with
     | next=>obtain ⟨σ6,H6,J,r⟩:=z; exact fin J fun s7 J7=>⟨_,_,J7,r⟩
     | brk=>obtain ⟨σ6,H6,J,r⟩:=z; exact fin J fun s7 J7=>⟨_,_,J7,r⟩
     | cont=>obtain ⟨σ6,H6,J,r⟩:=z; exact fin J fun s7 J7=>⟨_,_,J7,r⟩
     | ret u=>obtain ⟨v,σ6,H6,J,rv,r⟩:=z; exact fin J fun s7 J7=>⟨v,_,_,J7,rv,r⟩
   | false=>
     refine wpAny_handleBy_nil (Ae I2 F2 fun s3 I3 F3=>?_)
     exact hX pins σ' H1 s3 a C dx I3 F3.fly q
 . have z:=Cc I.ok h1
   cases f with
   | next=>exact wpAny_execs_nil z
   | brk=>exact z
   | cont=>exact z
   | ret u=>exact z
end
end L2.E
namespace L2.E
open PySem PySem.Spec PyProof.Rows
abbrev blk (X:Cx) (scope:Scope) (cl:List (Str × Addr)) (N:List Str) (C:Addr) (s₀:Shared) (H₀:Hp) (ex:List Addr):Cx:=
 { prog:=X.prog,w:=X.w,K:=X.K,mg:=X.mg,base:=X.base,A:=X.A,N:=N,s₀:=s₀,H₀:=H₀,env:=compEnvC scope cl C X.env,outer:=X.stack,stack:=X.stack,ex:=ex,fn:=fun _=>false,calm:=X.calm,pn:=[],xe:=fun _ _=>False }
theorem wX {X:Cx}:Thr X (fun _ _ _ _=>False):=fun _ _ _ _ _ _ _ _ _ h=>h.elim
structure jx (X:Cx) (scope:Scope) (cl:List (Str × Addr)) (M:List Str) (ι:List Nat) (x:Str):Prop where
 clos:closureFor scope X.env = pure cl
 kind:scope.kind = .function
 nocell:(scope.names.all fun p=>p.2 != .cell) = true
 locs:(scope.names.all fun p=>p.2 != .local || scope.names.lookup p.1 == some .local) = true
 var:scope.names.lookup x = some .local
 names:M.map some = ι.map fun i=>X.N[i]?
 cells:M.map (fun y=>scope.names.lookup y) = M.map fun _=>some .free
 kinds:M.map X.env.kindOf = M.map fun _=>some .cell
 same:M.map (fun y=>cl.lookup y) = M.map fun y=>X.env.cells.lookup y
 sub:cl.map (fun p=>X.env.cells.lookup p.1) = cl.map fun p=>some p.2
 all:(scope.names.all fun p=>!(p.2 == .free) || (cl.lookup p.1).isSome) = true
 nd:(M ++ [x]).Nodup
theorem qJ {α β:Type} {f g:α -> β} {l:List α} (h:l.map f = l.map g) {a:α} (ha:a ∈ l):f a = g a:=by
 induction l with
 | nil=>cases ha
 | cons b r ih=>
   rw [List.map_cons,List.map_cons] at h
   injection h with h1 h2
   rcases List.mem_cons.mp ha with z | z
   . rw [z]; exact h1
   . exact ih h2 z
theorem qc {scope:Scope} {env:Env} {y:Str} (h:scope.names.lookup y = some .free):(relabel scope env).names.lookup y = some .cell \/ (relabel scope env).names.lookup y = some .free:=by
 unfold relabel
 dsimp only
 generalize scope.names = l at h
 induction l with
 | nil=>cases h
 | cons p r ih=>
   obtain ⟨n,k⟩:=p
   rw [List.lookup_cons] at h
   rw [List.map_cons]
   by_cases e:(y == n) = true
   . rw [e] at h
     have hk:k = .free:=Option.some.inj h
     subst hk
     dsimp only
     split
     . rw [List.lookup_cons,e]; exact .inl rfl
     . rw [List.lookup_cons,e]; exact .inr rfl
   . have e':(y == n) = false:=by simpa using e
     rw [e'] at h
     dsimp only
     split
     . rw [List.lookup_cons,e']; exact ih h
     . rw [List.lookup_cons,e']; exact ih h
theorem p5 {scope:Scope} {env:Env} {y:Str} (hc:(scope.names.all fun p=>p.2 != .cell) = true) (h:(relabel scope env).names.lookup y = some .cell \/ (relabel scope env).names.lookup y = some .free):∃ p ∈ scope.names,p.1 = y /\ p.2 = .free:=by
 unfold relabel at h
 dsimp only at h
 generalize scope.names = l at h hc
 induction l with
 | nil=>rcases h with h | h <;> cases h
 | cons p r ih=>
   obtain ⟨n,k⟩:=p
   rw [List.all_cons,Bool.and_eq_true] at hc
   rw [List.map_cons] at h
   by_cases e:(y == n) = true
   . refine ⟨(n,k),List.mem_cons_self,(beq_iff_eq.mp e).symm,?_⟩
     dsimp only at h ⊢
     split at h
     . rename_i c
       simp only [Bool.and_eq_true,beq_iff_eq] at c
       exact c.1.1
     . rw [List.lookup_cons,e] at h
       have hk:(k != NameKind.cell) = true:=hc.1
       rcases h with h | h
       . have:k = .cell:=Option.some.inj h
         subst this
         exact absurd hk (by decide)
       . exact Option.some.inj h
   . have e':(y == n) = false:=by simpa using e
     have h':(List.map (fun x=>match x with | (n,k)=>if (k == NameKind.free && env.scope.kind == ScopeKind.function && env.kindOf n == some NameKind.cell) = true then (n,NameKind.cell) else (n,k)) r).lookup y = some .cell \/
       (List.map (fun x=>match x with | (n,k)=>if (k == NameKind.free && env.scope.kind == ScopeKind.function && env.kindOf n == some NameKind.cell) = true then (n,NameKind.cell) else (n,k)) r).lookup y = some .free:=by
      dsimp only at h
      split at h
      . rw [List.lookup_cons,e'] at h; exact h
      . rw [List.lookup_cons,e'] at h; exact h
     obtain ⟨q,hq,z⟩:=ih h' hc.2
     exact ⟨q,List.mem_cons_of_mem _ hq,z⟩
def pick (ι:List Nat) (σ:St):St:=ι.map fun i=>(σ[i]?).join
def nG (wi:TI) (ι:List Nat) (te:TE):TE:=fun σ H Q=>wi σ H fun J H1=>∀ D,H1 D = none -> ∃ W:Nat -> Nat -> List V -> Hp -> Prop,(∃ m,W 0 m [] (upd H1 D (.lst []))) /\ ∀ i m ys H,W i m ys H ->
 H D = some (.lst ys) /\ ((J.stop i H /\ Q (.ref D) H) \/ (J.go i H /\ ∀ x H',J.yld i H x H' -> te (pick ι σ ++ [some x]) H' fun y H2=>H2 D = some (.lst ys) /\ ys.length < sizeLine /\ ∃ m',m' < m /\ W (i + 1) m' (ys ++ [y]) (upd H2 D (.lst (ys ++ [y])))))
section
variable {X:Cx} {scope:Scope} {cl:List (Str × Addr)} {M:List Str} {ι:List Nat} {x:Str}
theorem jx.nR (S:jx X scope cl M ι x) {y:Str} {c:Addr} (h:cl.lookup y = some c):X.env.cells.lookup y = some c:=qJ S.sub (PySem.mem_of_lookup h)
theorem tR {pins:List (Addr × Obj)} {σ:St} {H:Hp} {s:Shared} {h₁:Heap} {t':Nat} {ex:List Addr} (S:jx X scope cl M ι x) (I:Inv X pins σ H s) (hex:∀ b ∈ ex,kD X pins H b /\ b < s.heap.objs.size) (hn:h₁.Ns s.heap.objs.size (fun _=>none))
  (hk:∀ b o,s.heap.get? b = some o -> h₁.get? b = some o):Inv (blk X scope cl (M ++ [x]) s.heap.objs.size s H ex) [] (pick ι σ ++ [none]) H { s with heap:=h₁,toks:=t' }:=by
 have noM:∀ b:Addr,b ∈ ex -> b ≠ s.heap.objs.size:=fun b hb=>Nat.ne_of_lt (hex b hb).2
 have fsx:∀ b ∈ ex,b ∉ frs X.stack:=fun b hb z=>by
  obtain ⟨⟨_,f1,f2,_⟩,_⟩:=hex b hb
  rcases List.mem_cons.mp (I.tT b z) with e | e
  . exact f1 e
  . exact f2 e
 have base0:∀ b o,X.base.get? b = some o -> b ∉ ex:=fun b o e z=>by
  obtain ⟨⟨_,_,_,f3,_⟩,_⟩:=hex b z
  rcases f3 with f | f
  . exact I.ok.noex b o e f
  . exact absurd (Nat.lt_of_lt_of_le (Heap.lt_size e) (Nat.le_trans I.ok.bsz f)) (Nat.lt_irrefl _)
 refine ⟨⟨I.ok.mod,S.kind,I.ok.glob,I.ok.blt,Nat.le_refl _,fun y z c h1 h2=>I.ok.inj y z c (S.nR h1) (S.nR h2),fun y hy=>?_,fun y c z=>absurd z Bool.false_ne_true,I.ok.hd,I.ok.frames,.inl rfl,
  fun b hb=>⟨noM b hb,fun y c h z=>(hex b hb).1.2.2.2.2.1 y c (S.nR h) z⟩,I.bs,Nat.le_trans I.ok.bsz I.sz,base0,fsx,I.stack,I.qS⟩,
  rfl,I.bare,Un.kept hk,⟨_,hn,fun i y v e1 e2 e3=>?_⟩,fun y c h=>?_,I.fresh,fun y c h=>?_,fun p hp=>absurd (show p ∈ ([]:List (Addr × Obj)) from hp) (by simp),I.hok.kept hk,?_⟩
 . obtain ⟨p,hp,rfl,hpf⟩:=p5 S.nocell hy
   have q:=List.all_eq_true.mp S.all p hp
   rw [hpf] at q
   have q':(cl.lookup p.1).isSome = true:=by
    cases e:(cl.lookup p.1).isSome with
    | true=>rfl
    | false=>rw [e] at q; exact absurd q (by decide)
   exact Option.isSome_iff_exists.mp q'
 . have hiM:i < M.length:=by
    by_cases hlt:i < M.length
    . exact hlt
    . exfalso
      have hl:(pick ι σ).length = M.length:=by
       have q:=congrArg List.length S.names
       rw [List.length_map,List.length_map] at q
       unfold pick
       rw [List.length_map,q]
      rw [List.getElem?_append_right (by omega),hl] at e2
      have:i - M.length = 0 \/ 1 <= i - M.length:=by omega
      rcases this with z | z
      . rw [z] at e2; cases e2
      . rw [List.getElem?_eq_none (by simpa using z)] at e2; cases e2
   have hl:ι.length = M.length:=by
    have q:=congrArg List.length S.names
    rw [List.length_map,List.length_map] at q
    exact q.symm
   rw [List.getElem?_append_left hiM] at e1
   have hyM:y ∈ M:=List.mem_of_getElem? e1
   have e2':((σ[ι[i]]?).join) = some v:=by
    rw [List.getElem?_append_left (by unfold pick; rw [List.length_map]; omega)] at e2
    unfold pick at e2
    rw [List.getElem?_map,List.getElem?_eq_getElem (by omega)] at e2
    exact Option.some.inj e2
   have e4:σ[ι[i]]? = some (some v):=by
    cases q:σ[ι[i]]? with
    | none=>rw [q] at e2'; cases e2'
    | some w=>rw [q] at e2'; exact congrArg some e2'
   have e5:X.N[ι[i]]? = some y:=by
    have q:=congrArg (fun l=>l[i]?) S.names
    rw [List.getElem?_map,List.getElem?_map,e1,List.getElem?_eq_getElem (by omega)] at q
    exact (Option.some.inj q).symm
   have kc:X.env.kindOf y = some .cell:=qJ S.kinds hyM
   obtain ⟨m,hm,hl⟩:=I.loc
   obtain ⟨u,r,q⟩:=hl _ y v e5 e4 (.inr (.inl kc))
   refine ⟨u,r,.inr ⟨?_,?_⟩⟩
   . exact qc (qJ S.cells hyM)
   . rcases q with ⟨k,_⟩ | ⟨_,c,e,o,ho,hd⟩
     . rw [kc] at k; cases k
     . exact ⟨c,(qJ S.same hyM).trans e,o,hk _ _ ho,hd⟩
 . obtain ⟨v,o,ho,hd⟩:=I.cell y c (S.nR h)
   exact ⟨v,o,hk _ _ ho,hd⟩
 . exact I.freeC y c (S.nR h)
 . have q:=congrArg List.length S.names
   rw [List.length_map,List.length_map] at q
   show (pick ι σ ++ [none]).length = (M ++ [x]).length
   unfold pick
   rw [List.length_append,List.length_append,List.length_map,q]
   rfl
theorem qY {pins:List (Addr × Obj)} {σ σ':St} {H H':Hp} {s s':Shared} {h':Heap} {ex:List Addr} {C:Addr} (I:Inv X pins σ H s) (hC:C = s.heap.objs.size) (hex:∀ b ∈ ex,kD X pins H b) {N:List Str} (J:Inv (blk X scope cl N C s H ex) [] σ' H' s')
  (hs:Heap.SameBut C s'.heap h'):Inv X pins σ H' { s' with heap:=h' }:=by
 subst hC
 have K:Inv X pins σ H' s':=I.AG (ch:=ex) J.os J.base J.hok J.bare fun b hb=>by
  obtain ⟨_,f1,_,f3,f4,f5⟩:=hex b hb
  exact ⟨f3,f1,f4,f5⟩
 refine K.turned (t':=s'.toks) (it:=s.heap.objs.size) (fun b o hb e=>(hs.2 b hb).trans e) J.free (Nat.ne_of_gt I.lt) (.inr I.sz) (fun y c e z=>?_) (fun p hp z=>?_)
 . obtain ⟨v,q⟩:=I.cell y c e
   exact absurd (z ▸ q.lt) (Nat.lt_irrefl _)
 . exact absurd (z ▸ Heap.lt_size (I.pin p hp).1) (Nat.lt_irrefl _)
theorem o9 (elt target iter:Expr) (scope:Scope) (pos:Pos) (it acc:Value) (env:Env):
  compTurn (.ListComp elt [⟨target,iter,[],0⟩] scope pos) 0 it acc env = (do
   standAt iter.pos
   match <- pyNext it with
   | none=>pure (.done .next)
   | some v=>do
     letOwnedTupleGo target it v
     assign target env v
     (do let x <- eval elt env; let _ <- call (.builtin "list.append") [acc,x]; pure ())
     again (.compLoop (.ListComp elt [⟨target,iter,[],0⟩] scope pos) 0 it acc env)):=by rfl
theorem zY {elt iter:Expr} {px pos:Pos} {wi:TI} {te:TE} (S:jx X scope cl M ι x) (hc:X.calm = true) (hi:PI X (.Name x px) iter wi) (he:∀ C s₀ H₀ ex,PE (blk X scope cl (M ++ [x]) C s₀ H₀ ex) elt te)
  (hs:∀ v,foldedSetIterable iter X.env v = pure v:=by intro _; rfl):PE X (.ListComp elt [⟨.Name x px,iter,[],0⟩] scope pos) (nG wi ι te):=by
 intro pins s σ H Q I h
 rw [eval_ListComp]
 refine wpAny_comprehension_free (use:=none) rfl hs S.clos S.kind (fun y hy hl=>?_) (wpAny_mono (hi pins s σ H _ I h) (fun v s1 h1=>wpAny_mono h1 (fun itv s2 h2=>?_) fun _ _ z=>z) fun _ _ z=>z)
 . have q:=List.all_eq_true.mp S.locs y hy
   rw [hl] at q
   simpa using q
 obtain ⟨it,fp,tn,J,H2,rfl,I2,T,st2,f2,hW⟩:=h2
 have I3:=I2.zB (ys:=[]) (its:=[]) (t':=s2.toks) .nil (Nat.zero_le _)
 obtain ⟨W,⟨m0,w0⟩,turn⟩:=hW s2.heap.objs.size I2.fresh
 have fpo:∀ b ∈ fp,b < s2.heap.objs.size:=fun b hb=>let ⟨_,e,_⟩:=T.obj _ _ st2 b hb; Heap.lt_size e
 have f3:∀ b ∈ fp,kD X pins (upd H2 s2.heap.objs.size (.lst [])) b:=fun b hb=>by
  obtain ⟨q0,q⟩:=f2 b hb
  exact ⟨by rw [aO (Nat.ne_of_lt (fpo b hb))]; exact q0,q⟩
 show wpAny _ _ (newObj (.type "list") _ none) _ _ s2
 refine wpAny_newObj_type (wpAny_newFunctionEnv (fun y hy=>?_) (by intro y hy; simp at hy) (fun h₁ hn₁ sb₁=>?_) S.kind)
 . have q:=List.all_eq_true.mp S.nocell y hy
   simpa using q
 have hsz:(s2.heap.push { cls:=.type "list",dict:=none,data:=.seq ([]:List Value).toArray }).objs.size = s2.heap.objs.size + 1:=Heap.size_push ..
 have hk₁:∀ b o,(s2.heap.push { cls:=.type "list",dict:=none,data:=.seq ([]:List Value).toArray }).get? b = some o -> h₁.get? b = some o:=fun b o e=>
  (sb₁.2 b (Nat.ne_of_lt (Heap.lt_size e))).trans (Heap.get?_push_of_some _ e)
 have J0:=tR (t':=s2.toks + ([]:List (Str × Value)).length) S I3 (ex:=fp) (fun b hb=>⟨f3 b hb,Nat.lt_of_lt_of_le (fpo b hb) (by rw [hsz]; exact Nat.le_succ _)⟩) hn₁ hk₁
 have old:∀ b ∈ fp,∀ o,s2.heap.get? b = some o -> h₁.get? b = some o:=fun b _ o e=>hk₁ b o (Heap.get?_push_of_some _ e)
 have st₁:tn 0 h₁:=T.keep _ _ _ st2 old
 have loop:codeAny (model X.prog X.w) X.A (.compLoop (.ListComp elt [⟨.Name x px,iter,[],0⟩] scope pos) 0 (.ref it) (.ref s2.heap.objs.size) (compEnvC scope cl (s2.heap.objs.size + 1) X.env))
   (compPost (model X.prog X.w) X.A X.xe none (EP X pins σ Q) (.ref s2.heap.objs.size) (s2.heap.objs.size + 1)) { s2 with heap:=h₁,toks:=s2.toks + ([]:List (Str × Value)).length }:=by
  rw [hsz] at J0
  refine codeAny_loop rfl (fun n s'=>∃ i H' ys v,Inv (blk X scope cl (M ++ [x]) (s2.heap.objs.size + 1) { s2 with heap:=s2.heap.push { cls:=.type "list",data:=.seq ([]:List Value).toArray },toks:=s2.toks } (upd H2 s2.heap.objs.size (.lst [])) fp) [] (pick ι σ ++ [v]) H' s' /\ tn i s'.heap /\ (∀ b ∈ fp,H' b = none) /\ W i n ys H')
   (fun n s' hI=>?_) m0 ⟨0,_,[],none,J0,st₁,fun b hb=>(f3 b hb).1,w0⟩
  obtain ⟨i,H',ys,v,J',st',fr',w'⟩:=hI
  obtain ⟨hD,alt⟩:=turn i n ys H' w'
  have fpY:∀ {G:Hp},(∀ b ∈ fp,G b = none) -> ∀ b ∈ fp,kD (blk X scope cl (M ++ [x]) (s2.heap.objs.size + 1) { s2 with heap:=s2.heap.push { cls:=.type "list",data:=.seq ([]:List Value).toArray },toks:=s2.toks } (upd H2 s2.heap.objs.size (.lst [])) fp) [] G b:=fun hG b hb=>
   ⟨hG b hb,(J'.ok.exf b hb).1,J'.ok.exfs b hb,.inl hb,(J'.ok.exf b hb).2,fun p hp=>absurd (show p ∈ ([]:List (Addr × Obj)) from hp) (by simp)⟩
  show wpAny _ _ ((compTurn _ 0 (.ref it) (.ref s2.heap.objs.size) (compEnvC scope cl (s2.heap.objs.size + 1) X.env)).onRaise _) _ _ s'
  refine wpAny_noted (wpAny_noRaise ?_)
  rw [o9]
  refine wpAny_bind (wpAny_standAt (wpAny_bind ?_))
  rcases alt with ⟨stop,qn⟩ | ⟨go,step⟩
  . refine thn (T.done (blk X scope cl (M ++ [x]) (s2.heap.objs.size + 1) _ _ fp) rfl rfl rfl hc i [] s' _ H' _ J' (fpY fr') st' stop) fun r s4 ⟨hr,J4⟩=>?_
    subst hr
    refine wpAny_pure ?_
    obtain ⟨m,hm,_⟩:=id J4.loc
    refine ⟨m,hm,fun h' sb=>⟨.ref s2.heap.objs.size,H',qY I3 hsz.symm f3 J4 sb,rfl,qn⟩⟩
  . refine thn (T.item (blk X scope cl (M ++ [x]) (s2.heap.objs.size + 1) _ _ fp) rfl rfl rfl hc i [] s' _ H' _ J' (fpY fr') st' go) fun r s4 ⟨u,hr,h4⟩=>?_
    subst hr
    refine wpAny_bind (thn h4 fun _ s5 ⟨z,H5,J5,r5,y5,st5,fr5⟩=>?_)
    have J5':=J5.pinned (fpY fr5) (T.obj _ _ st5)
    have hxN:(M ++ [x])[M.length]? = some x:=by simp
    refine wpAny_bind ?_
    refine wpAny_assign_Name ?_
    refine gL (X:=blk X scope cl (M ++ [x]) (s2.heap.objs.size + 1) _ _ fp) (i:=M.length) (v:=z) J5' S.nd hxN (.inl (lookup_relabel_local S.var)) r5 (fun s6 J6=>?_) (.inr (lookup_relabel_local S.var))
    have hlp:(pick ι σ).length = M.length:=by
     have q:=congrArg List.length S.names
     rw [List.length_map,List.length_map] at q
     unfold pick
     rw [List.length_map,q]
    have hset:(pick ι σ ++ [v]).set M.length (some z) = pick ι σ ++ [some z]:=by
     rw [<- hlp,List.set_append_right _ _ (Nat.le_refl _),Nat.sub_self]
     rfl
    rw [hset] at J6
    refine wpAny_bind (wpAny_bind (thn (he _ _ _ _ _ s6 _ H5 _ J6 (step z H5 y5)) fun yv s7 ⟨y,H7,J7,r7,hD7,hz7,m',hm',w7⟩=>?_))
    refine wpAny_bind (thn (fD (X:=blk X scope cl (M ++ [x]) (s2.heap.objs.size + 1) _ _ fp) _ s7 _ H7 (.ref s2.heap.objs.size) [y] (.ref s2.heap.objs.size) [yv] (fun _ G=>G = upd H7 s2.heap.objs.size (.lst (ys ++ [y]))) J7 rfl (.cons r7 .nil) ⟨_,_,y,rfl,rfl,hD7,hz7,rfl⟩) fun _ s8 ⟨_,H8,J8,_,e8⟩=>?_)
    subst e8
    refine wpAny_pure (wpAny_pure ⟨rfl,m',hm',i + 1,_,_,some z,J8.gM,?_,fun b hb=>?_,w7⟩)
    . exact T.keep _ _ _ st5 fun b hb o e=>(J8.pin (b,o) (List.mem_append_right _ (List.mem_append_right _ (dQ hb e)))).1
    . obtain ⟨o,e,d⟩:=T.obj _ _ st5 b hb
      exact (J8.pin (b,o) (List.mem_append_right _ (List.mem_append_right _ (dQ hb e)))).2.1
 rw [hsz] at *
 exact codeAny_compStart_list loop (T.self X.A 0 _ _ _ st₁ loop)
end
end L2.E
namespace L2.E
open PySem PySem.Spec PyProof.Rows
section
variable {X:Cx}
def IsV (K:PySem.W.Frag) (T:String) (x:V) (H:Hp) (b:Bool):Prop:=match x with
 | .int _=>(T = "int" /\ b = true) \/ (T = "bool" /\ b = false) \/ (T = "list" /\ b = false) \/ (T = "tuple" /\ b = false) \/ (T = "str" /\ b = false)
 | .bl _=>(T = "int" /\ b = true) \/ (T = "bool" /\ b = true) \/ (T = "list" /\ b = false) \/ (T = "tuple" /\ b = false) \/ (T = "str" /\ b = false)
 | .non=>(T = "int" /\ b = false) \/ (T = "bool" /\ b = false) \/ (T = "list" /\ b = false) \/ (T = "tuple" /\ b = false) \/ (T = "str" /\ b = false)
 | .str _=>(T = "int" /\ b = false) \/ (T = "bool" /\ b = false) \/ (T = "list" /\ b = false) \/ (T = "tuple" /\ b = false) \/ (T = "str" /\ b = true)
 | .ref p=>((∃ xs,SqL K H p xs) /\ ((T = "int" /\ b = false) \/ (T = "bool" /\ b = false) \/ (T = "list" /\ b = true) \/ (T = "tuple" /\ b = false) \/ (T = "str" /\ b = false))) \/
    ((∃ xs,SqT K H p xs) /\ ((T = "int" /\ b = false) \/ (T = "bool" /\ b = false) \/ (T = "list" /\ b = false) \/ (T = "tuple" /\ b = true) \/ (T = "str" /\ b = false)))
 | _=>False
theorem oh:m3 X (.builtin "isinstance") (fun xs H Q=>∃ x T b,xs = [x,.ty T] /\ IsV X.K T x H b /\ Q (.bl b) H):=by
 intro pins s σ H vs us Q I rv h
 obtain ⟨x,T,b,rfl,hv,q⟩:=h
 obtain ⟨u,v,rfl,ru,rT⟩:=rv.two
 cases rT
 cases x with
 | int i=>
   obtain ⟨t,rfl⟩:=ru
   rcases hv with ⟨rfl,rfl⟩ | ⟨rfl,rfl⟩ | ⟨rfl,rfl⟩ | ⟨rfl,rfl⟩ | ⟨rfl,rfl⟩
   . exact IsiPair.int_int ⟨.bl _,H,I,rfl,q⟩
   . exact IsiPair.int_bool ⟨.bl _,H,I.tok _,rfl,q⟩
   . exact IsiPair.int_list ⟨.bl _,H,I.tok _,rfl,q⟩
   . exact IsiPair.int_tuple ⟨.bl _,H,I.tok _,rfl,q⟩
   . exact IsiPair.int_str ⟨.bl _,H,I.tok _,rfl,q⟩
 | bl i=>
   cases ru
   rcases hv with ⟨rfl,rfl⟩ | ⟨rfl,rfl⟩ | ⟨rfl,rfl⟩ | ⟨rfl,rfl⟩ | ⟨rfl,rfl⟩
   . exact IsiPair.bool_int ⟨.bl _,H,I,rfl,q⟩
   . exact IsiPair.bool_bool ⟨.bl _,H,I,rfl,q⟩
   . exact IsiPair.bool_list ⟨.bl _,H,I.tok _,rfl,q⟩
   . exact IsiPair.bool_tuple ⟨.bl _,H,I.tok _,rfl,q⟩
   . exact IsiPair.bool_str ⟨.bl _,H,I.tok _,rfl,q⟩
 | non=>
   cases ru
   rcases hv with ⟨rfl,rfl⟩ | ⟨rfl,rfl⟩ | ⟨rfl,rfl⟩ | ⟨rfl,rfl⟩ | ⟨rfl,rfl⟩
   . exact IsiPair.NoneType_int ⟨.bl _,H,I.tok _,rfl,q⟩
   . exact IsiPair.NoneType_bool ⟨.bl _,H,I.tok _,rfl,q⟩
   . exact IsiPair.NoneType_list ⟨.bl _,H,I.tok _,rfl,q⟩
   . exact IsiPair.NoneType_tuple ⟨.bl _,H,I.tok _,rfl,q⟩
   . exact IsiPair.NoneType_str ⟨.bl _,H,I.tok _,rfl,q⟩
 | str i=>
   obtain ⟨t,rfl⟩:=ru
   rcases hv with ⟨rfl,rfl⟩ | ⟨rfl,rfl⟩ | ⟨rfl,rfl⟩ | ⟨rfl,rfl⟩ | ⟨rfl,rfl⟩
   . exact IsiPair.str_int ⟨.bl _,H,I.tok _,rfl,q⟩
   . exact IsiPair.str_bool ⟨.bl _,H,I.tok _,rfl,q⟩
   . exact IsiPair.str_list ⟨.bl _,H,I.tok _,rfl,q⟩
   . exact IsiPair.str_tuple ⟨.bl _,H,I.tok _,rfl,q⟩
   . exact IsiPair.str_str ⟨.bl _,H,I,rfl,q⟩
 | ref p=>
   cases ru
   rcases hv with ⟨⟨xs,hS⟩,hv⟩ | ⟨⟨xs,hS⟩,hv⟩
   . obtain ⟨its,r,pl,hz⟩:=I.list hS
     obtain ⟨o,e,c,_⟩:=pl.isList
     rcases hv with ⟨rfl,rfl⟩ | ⟨rfl,rfl⟩ | ⟨rfl,rfl⟩ | ⟨rfl,rfl⟩ | ⟨rfl,rfl⟩
     . exact IsiPair.list_int e c ⟨.bl _,H,I.tok _,rfl,q⟩
     . exact IsiPair.list_bool e c ⟨.bl _,H,I.tok _,rfl,q⟩
     . exact IsiPair.list_list e c ⟨.bl _,H,I,rfl,q⟩
     . exact IsiPair.list_tuple e c ⟨.bl _,H,I.tok _,rfl,q⟩
     . exact IsiPair.list_str e c ⟨.bl _,H,I.tok _,rfl,q⟩
   . obtain ⟨its,r,pl,hz⟩:=I.tuple hS
     obtain ⟨o,e,c,_⟩:=pl
     rcases hv with ⟨rfl,rfl⟩ | ⟨rfl,rfl⟩ | ⟨rfl,rfl⟩ | ⟨rfl,rfl⟩ | ⟨rfl,rfl⟩
     . exact IsiPair.tuple_int e c ⟨.bl _,H,I.tok _,rfl,q⟩
     . exact IsiPair.tuple_bool e c ⟨.bl _,H,I.tok _,rfl,q⟩
     . exact IsiPair.tuple_list e c ⟨.bl _,H,I.tok _,rfl,q⟩
     . exact IsiPair.tuple_tuple e c ⟨.bl _,H,I,rfl,q⟩
     . exact IsiPair.tuple_str e c ⟨.bl _,H,I.tok _,rfl,q⟩
 | _=>exact hv.elim
theorem boot_bool:bootBuiltins "bool" = some (.type "bool"):=by decide +kernel
theorem boot_isinstance:bootBuiltins "isinstance" = some (.builtin "isinstance"):=by decide +kernel
theorem boot_all:bootBuiltins "all" = some (.builtin "all"):=by decide +kernel
theorem boot_tuple:bootBuiltins "tuple" = some (.type "tuple"):=by decide +kernel
theorem boot_int:bootBuiltins "int" = some (.type "int"):=by decide +kernel
theorem boot_len:bootBuiltins "len" = some (.builtin "len"):=by decide +kernel
end
section
variable {P:Program} {w:World} {K:PySem.W.Frag} {mg:Str -> Option Value} {base:Heap}
theorem okX {x qual:Str} {st:Stmt} {f:Addr} {fd:FuncData} {N ps:List Str} {k:Nat} {sp:Sp} (F:Fun K x qual st f fd) (S:aW N ps (ao st)) (len:∀ vs H Q E,sp vs H Q E -> vs.length = ps.length)
  (hbody:∀ (cdv:Value) (A:Around) (outer:List Env) (s:Shared) (H:Hp) (vs:List V) (Q:VK) (E:XK),fJ k (A.deeper (envOfC qual (ao st) s.heap.objs.size f cdv)) -> sp vs H Q E ->
    ∃ t,PSs (lF (CXE P w) P w K mg base N qual (ao st) f cdv A outer s H E) (aT st) t /\ t { nx:=fun _ H'=>Q .non H',rt:=Q } (start N vs) H):cy P w K mg base (CXE P w) (k + 1) f fd ps sp:=by
 obtain ⟨oc,od,kV,doc,pm,an,cdv,ct,osl,rfl,lk,hcd⟩:=F.ex
 exact DM lk hcd S len fun A outer s H vs Q E hr hsp=>hbody cdv A outer s H vs Q E hr hsp
end
end L2.E
namespace L2.E
open PySem PySem.Spec PyProof.Rows
theorem SqL.new {K:PySem.W.Frag} {H:Hp} {p:Addr} {xs:List V} (h:H p = some (.lst xs)):SqL K H p xs:=.inl (.inl h)
theorem SqT.new {K:PySem.W.Frag} {H:Hp} {p:Addr} {xs:List V} (h:H p = some (.tup xs)):SqT K H p xs:=.inl (.inl h)
theorem pT {H:Hp} {p q:Addr} {o:HO} (h:H q = some o) (n:H p = none):q ≠ p:=fun z=>by rw [z,n] at h; cases h
theorem _root_.L2.az.upd {H H':Hp} {p:Addr} {o:HO} (e:az H H') (n:H p = none):az H (upd H' p o):=fun b u h=>by
 rw [aO (pT h n)]; exact e b u h
theorem _root_.L2.az.new {H:Hp} {p:Addr} {o:HO} (n:H p = none):az H (L2.upd H p o):=(az.refl H).upd n
abbrev Goes (H:Hp) (E:XK) (C:Addr) (dx:Option Addr):Prop:=∀ H' a,az H H' -> H' a = some (mm a C dx) -> E (.ref C) (some a) H'
end L2.E
namespace L2.E
open PySem PySem.Spec PyProof.Rows
theorem takes {K:PySem.W.Frag} {T C:Addr} {b:Bool} {bmC bmT:List Value} (h1:uf K C bmC) (h2:uf K T bmT) (h:(Value.ref C ::bmC).contains (.ref T) = b):pI K T C b:=⟨bmC,bmT,h1,h2,h⟩
end L2.E
namespace L2.E
open PySem PySem.Spec PyProof.Rows
section
variable {X:Cx}
def A1 (K:PySem.W.Frag):R2:=fun x y H Q=>∃ l b xs zs,x = .ref l /\ y = .ref b /\ SqL K H l xs /\ SqL K H b zs /\ xs.length + zs.length <= sizeLine /\ ∀ p,H p = none -> Q (.ref p) (upd H p (.lst (xs ++ zs)))
theorem kC:OpR X (binaryOp .Add) (A1 X.K):=by
 intro pins s σ H x y v u Q I rx ry h
 obtain ⟨l,b,xs,zs,rfl,rfl,hH,hB,hz,q⟩:=h
 cases rx
 cases ry
 obtain ⟨its,r,pl,_⟩:=I.list hH
 obtain ⟨its2,r2,pl2,_⟩:=I.list hB
 obtain ⟨⟨cls,dd,data,sl⟩,ho,hc,n,hd⟩:=pl.isList
 obtain ⟨⟨cls2,dd2,data2,sl2⟩,ho2,hc2,n2,hd2⟩:=pl2.isList
 simp only at hc hd hc2 hd2
 subst hc hd hc2 hd2
 have hsz:its.toArray.size + its2.toArray.size <= sizeLine:=by rw [List.size_toArray,List.size_toArray,<- r.length,<- r2.length]; exact hz
 refine concat_meets ⟨_,ho,rfl⟩ ⟨_,ho2,rfl⟩ noFill_list_add seq_list_add PySem.F.slot_list_add PySem.F.entry_list_add (PySem.F.args_list_add_2 _ _) (list_addW l b its.toArray its2.toArray n n2 dd dd2 sl sl2 hsz) ⟨ho,ho2,?_⟩
 have ea:its.toArray ++ its2.toArray = (its ++ its2).toArray:=by simp
 rw [ea]
 exact ⟨.ref _,_,I.zB (t':=s.toks) (r.append r2) (by rw [List.length_append]; exact hz),rfl,q _ I.fresh⟩
theorem vB:m3 X (.builtin "all") (fun xs H Q=>∃ (p:Addr) (bs:List Bool),xs = [.ref p] /\ SqL X.K H p (bs.map V.bl) /\ X.A.handled = none /\ Q (.bl (bs.all id)) H):=by
 intro pins s σ H vs us Q I rv h
 obtain ⟨p,bs,rfl,hp,hh,q⟩:=h
 obtain ⟨u,rfl,ru⟩:=rv.one
 cases ru
 obtain ⟨its,r,pl,_⟩:=I.list hp
 have hl:=r.length
 have isl:s.heap.IsList p its.toArray:=pl.isList
 obtain ⟨o,e,_⟩:=id isl
 refine call_all_walk (wpAny_pyIter_list isl ?_)
 have ne:p ≠ s.heap.objs.size:=Nat.ne_of_lt (Heap.lt_size e)
 have tv:∀ (i:Nat) (v:Value),its.toArray[i]? = some v -> ∃ b,bs[i]? = some b /\ v = Value.bool b:=fun i v hv=>by
  have hv':its[i]? = some v:=by simpa using hv
  have hi:i < its.length:=(List.getElem?_eq_some_iff.mp hv').1
  rw [<- hl,List.length_map] at hi
  have hx:(bs.map V.bl)[i]? = some (V.bl bs[i]):=by simp [hi]
  obtain ⟨u,hu,ru⟩:=r.get hx
  rw [hv'] at hu; cases hu
  exact ⟨bs[i],by simp [hi],ru⟩
 refine ⟨s.heap.objs.size,_,_,_,_,_,(fun i=>(bs[i]?).getD false),rfl,Walks.list (A:=X.A.in1) hh s.heap.objs.size p ne its.toArray,⟨⟨_,Heap.get?_push_size _ rfl,rfl,rfl⟩,isl.at fun o e=>Heap.get?_push_of_some _ e⟩,fun i v s' Q' E' hP hQ=>?_,fun h' tk hk=>?_⟩
 . obtain ⟨b,hb,rfl⟩:=tv i v hP
   have hQ':Q' ((bs[i]?).getD false) s':=hQ
   rw [hb] at hQ'
   exact wpAny_truthy_bool hQ'
 . have en:its.toArray.size = bs.length:=by rw [List.size_toArray,<- hl,List.length_map]
   have eb:(List.range its.toArray.size).all (fun i=>(bs[i]?).getD false) = bs.all id:=by
    rw [en]
    rw [Bool.eq_iff_iff,List.all_eq_true,List.all_eq_true]
    constructor
    . intro hA b hb
      obtain ⟨i,hi,rfl⟩:=List.mem_iff_getElem.mp hb
      have:=hA i (by simpa using hi)
      simpa [hi] using this
    . intro hA i hi
      have hi':i < bs.length:=by simpa using hi
      have:=hA bs[i] (List.getElem_mem hi')
      simpa [hi'] using this
   rw [eb]
   refine ⟨.bl _,H,I.kept (h':=h') (t':=tk) fun b o e'=>hk b o ?_ (Heap.get?_push_of_some _ e'),rfl,q⟩
   have lt:=Heap.lt_size e'
   intro z
   have z':b = s.heap.objs.size:=by simpa using z
   exact absurd (z' ▸ lt) (Nat.lt_irrefl _)
end
end L2.E
namespace L2.E
open PySem PySem.Spec PyProof.Rows
def isStar:Expr -> Bool
 | .Starred ..=>true
 | _=>false
theorem ky {e:Expr} {es:List Expr} {env:Env} (h:isStar e = false):starEach (e ::es) env = (false,eval e env) ::starEach es env:=by
 cases e <;> first | rfl | cases h
theorem wZ {X:Cx} {e:Expr} {es:List Expr} {te:TE} {t:TA} (ha:PE X e te) (hr:PA X es t) (hs:isStar e = false:=by rfl):PA X (e ::es) (iI te t):=Af ha hr (ky hs)
end L2.E
namespace L2.P
open PySem
def ixP (n:Nat) (i:Int):Option Nat:=if 0 <= i then (if i < n then some i.toNat else none) else if -(n:Int) <= i then some (i + n).toNat else none
def atP {α:Type} (xs:List α) (i:Int):Option α:=(ixP xs.length i).bind fun j=>xs[j]?
def zX (n d:Nat):Option Int -> Nat
 | none=>d
 | some v=>if v < 0 then (v + (n:Int)).toNat else min v.toNat n
inductive PV where
 | non | bl (b:Bool) | int (i:Int) | str (s:Str) | lst (xs:List PV) | tup (xs:List PV)
inductive OV where
 | sh (x:PV) | ol (ts:List OV) | ob (c:String) (ks:List Str) (ts:List OV)
   | di (kvs:List (Int × PV)) | dt (kvs:List (List Int × PV))
inductive Sl where
 | sh (x:PV) | ow (xs:List PV) | ex (c:String) (fs:List (Str × PV))
   | tr (io:Bool) (t:OV) | bo (t:OV)
abbrev aa:=List (Option Sl)
inductive RV where
 | sh (x:PV) | fr (xs:List PV) | al (xs:List PV)
def RV.pv:RV -> PV
 | .sh x=>x
 | .fr xs=>.lst xs
 | .al xs=>.lst xs
abbrev XF:=List (Str × PV)
inductive OE where
 | ok (r:RV) | exc (c:String) (fs:XF) | bad
inductive OT where
 | ok (b:Bool) | exc (c:String) (fs:XF) | bad
inductive OA where
 | ok (xs:List PV) | exc (c:String) (fs:XF) | bad
inductive OS where
 | nx (ρ:aa) | rt (ρ:aa) (r:RV) | bk (ρ:aa) | ct (ρ:aa) | exc (ρ:aa) (c:String) (fs:XF) | bad
def OE.bind:OE -> (RV -> OE) -> OE
 | .ok r,f=>f r
 | .exc c fs,_=>.exc c fs
 | .bad,_=>.bad
def OE.eR:OE -> (RV -> OT) -> OT
 | .ok r,f=>f r
 | .exc c fs,_=>.exc c fs
 | .bad,_=>.bad
def OE.eJ:OE -> (RV -> OA) -> OA
 | .ok r,f=>f r
 | .exc c fs,_=>.exc c fs
 | .bad,_=>.bad
def OE.bF (ρ:aa):OE -> (RV -> OS) -> OS
 | .ok r,f=>f r
 | .exc c fs,_=>.exc ρ c fs
 | .bad,_=>.bad
def OT.bind:OT -> (Bool -> OE) -> OE
 | .ok r,f=>f r
 | .exc c fs,_=>.exc c fs
 | .bad,_=>.bad
def OT.eR:OT -> (Bool -> OT) -> OT
 | .ok r,f=>f r
 | .exc c fs,_=>.exc c fs
 | .bad,_=>.bad
def OT.bF (ρ:aa):OT -> (Bool -> OS) -> OS
 | .ok r,f=>f r
 | .exc c fs,_=>.exc ρ c fs
 | .bad,_=>.bad
def OA.bind:OA -> (List PV -> OE) -> OE
 | .ok r,f=>f r
 | .exc c fs,_=>.exc c fs
 | .bad,_=>.bad
def OA.eJ:OA -> (List PV -> OA) -> OA
 | .ok r,f=>f r
 | .exc c fs,_=>.exc c fs
 | .bad,_=>.bad
def OA.bF (ρ:aa):OA -> (List PV -> OS) -> OS
 | .ok r,f=>f r
 | .exc c fs,_=>.exc ρ c fs
 | .bad,_=>.bad
def au (i:Nat):aa -> OE:=fun ρ=>match ρ[i]? with
 | some (some (.sh x))=>.ok (.sh x)
 | some (some (.ow xs))=>.ok (.al xs)
 | _=>.bad
def mC (x:PV):aa -> OE:=fun _=>.ok (.sh x)
def oE:Option RV -> OE
 | some r=>.ok r
 | none=>.bad
def mOp (g:PV -> PV -> Option RV) (ma mb:aa -> OE):aa -> OE:=fun ρ=>(ma ρ).bind fun a=>(mb ρ).bind fun b=>oE (g a.pv b.pv)
def gI (C:Int -> Int -> Bool) (f:Int -> Int -> PV):PV -> PV -> Option RV
 | .int i,.int j=>if C i j then some (.sh (f i j)) else none
 | _,_=>none
def jn:=gI (fun _ _=>true) fun i j=>.int (i + j)
def vM:=gI (fun _ _=>true) fun i j=>.int (i - j)
def yl:=gI (fun i j=>(decide (-(2 ^ 64) < i) && decide (i < 2 ^ 64)) || (decide (-(2 ^ 64) < j) && decide (j < 2 ^ 64))) fun i j=>.int (i * j)
def xx:=gI (fun _ j=>decide (0 < j) && decide (j < 1073741824)) fun i j=>.int (i / j)
def my:=gI (fun _ j=>decide (0 < j)) fun i j=>.int (i % j)
def E6:=gI (fun i j=>decide (0 <= j) && (decide (j <= 1000000) && decide (i.natAbs < 2 ^ 64))) fun i j=>.int (i ^ j.toNat)
def gLt:=gI (fun _ _=>true) fun i j=>.bl (decide (i < j))
def gLe:=gI (fun _ _=>true) fun i j=>.bl (decide (i <= j))
def gGt:=gI (fun _ _=>true) fun i j=>.bl (decide (j < i))
def gGe:=gI (fun _ _=>true) fun i j=>.bl (decide (j <= i))
def eqS:PV -> PV -> Option Bool
 | .non,.non=>some true | .non,.int _=>some false | .int _,.non=>some false | .non,.bl _=>some false | .bl _,.non=>some false | .non,.str _=>some false | .str _,.non=>some false
 | .int a,.int b=>some (decide (a = b)) | .bl a,.bl b=>some (decide (a = b)) | .str a,.str b=>some (decide (a = b))
 | .int _,.str _=>some false | .str _,.int _=>some false | .bl _,.str _=>some false | .str _,.bl _=>some false
 | _,_=>none
def gEq:PV -> PV -> Option RV:=fun x y=>(eqS x y).map fun b=>.sh (.bl b)
def gNe:PV -> PV -> Option RV:=fun x y=>(eqS x y).map fun b=>.sh (.bl (!b))
def iq:RV -> Option PV
 | .sh x=>some x
 | .fr xs=>some (.lst xs)
 | .al _=>none
def aQ:aa -> OA:=fun _=>.ok []
def ai (me:aa -> OE) (mr:aa -> OA):aa -> OA:=fun ρ=>(me ρ).eJ fun r=>match iq r with
 | some x=>(mr ρ).eJ fun xs=>.ok (x ::xs)
 | none=>.bad
def lim:Nat:=16777216
def dF (ma:aa -> OA):aa -> OE:=fun ρ=>(ma ρ).bind fun xs=>if xs.length <= lim then .ok (.fr xs) else .bad
def gQ (ma:aa -> OA):aa -> OE:=fun ρ=>(ma ρ).bind fun xs=>if xs.length <= lim then .ok (.sh (.tup xs)) else .bad
def b2 (f:List PV -> OE) (ma:aa -> OA):aa -> OE:=fun ρ=>(ma ρ).bind f
def mUn (g:PV -> Option RV) (ma:aa -> OE):aa -> OE:=fun ρ=>(ma ρ).bind fun a=>oE (g a.pv)
def tJ:PV -> Option RV
 | .int i=>some (.sh (.int (-i)))
 | _=>none
def jJ:PV -> Option RV
 | .lst xs=>some (.sh (.int xs.length))
 | .tup xs=>some (.sh (.int xs.length))
 | _=>none
def uP:PV -> Option RV
 | .int i=>some (.sh (.int i))
 | .bl b=>some (.sh (.int (if b then 1 else 0)))
 | _=>none
def uE:PV -> Option RV
 | .lst xs=>some (.fr xs)
 | .tup xs=>some (.fr xs)
 | _=>none
def ir:PV -> PV -> Option RV
 | .lst xs,.int i=>(atP xs i).map .sh
 | _,_=>none
def mz:PV -> PV -> Option RV
 | .tup xs,.int i=>(atP xs i).map .sh
 | _,_=>none
def qb:PV -> PV -> Option RV
 | .lst xs,.lst ys=>if xs.length + ys.length <= lim then some (.fr (xs ++ ys)) else none
 | _,_=>none
def tP:List PV -> Option (List Int)
 | []=>some []
 | .int i ::r=>(tP r).map (i ::·)
 | _ ::_=>none
def lx:List PV -> Option (List Bool)
 | []=>some []
 | .bl i ::r=>(lx r).map (i ::·)
 | _ ::_=>none
def yz:PV -> Option RV
 | .lst xs=>(lx xs).map fun bs=>.sh (.bl (bs.all id))
 | _=>none
def isP (T:String):PV -> Option Bool
 | .int _=>if T = "int" then some true else if T = "bool" \/ T = "list" \/ T = "tuple" \/ T = "str" then some false else none
 | .bl _=>if T = "int" \/ T = "bool" then some true else if T = "list" \/ T = "tuple" \/ T = "str" then some false else none
 | .non=>if T = "int" \/ T = "bool" \/ T = "list" \/ T = "tuple" \/ T = "str" then some false else none
 | .str _=>if T = "str" then some true else if T = "int" \/ T = "bool" \/ T = "list" \/ T = "tuple" then some false else none
 | .lst _=>if T = "list" then some true else if T = "int" \/ T = "bool" \/ T = "tuple" \/ T = "str" then some false else none
 | .tup _=>if T = "tuple" then some true else if T = "int" \/ T = "bool" \/ T = "list" \/ T = "str" then some false else none
def mIs (T:String) (ma:aa -> OE):aa -> OE:=mUn (fun x=>(isP T x).map fun b=>.sh (.bl b)) ma
def nO:PV -> Option Bool
 | .non=>some false
 | .bl b=>some b
 | .int i=>some (i != 0)
 | .lst xs=>some (!xs.isEmpty)
 | .tup xs=>some (!xs.isEmpty)
 | .str _=>none
def oT:Option Bool -> OT
 | some b=>.ok b
 | none=>.bad
def fK (ma:aa -> OE):aa -> OT:=fun ρ=>(ma ρ).eR fun r=>oT (nO r.pv)
def aU (ma:aa -> OE):aa -> OT:=fun ρ=>(ma ρ).eR fun r=>match r.pv with
 | .bl b=>.ok b
 | _=>.bad
def uy (m:aa -> OT):aa -> OT:=fun ρ=>(m ρ).eR fun b=>.ok (!b)
def pq (m n:aa -> OT):aa -> OT:=fun ρ=>(m ρ).eR fun b=>if b = true then n ρ else .ok false
def y9 (m n:aa -> OT):aa -> OT:=fun ρ=>(m ρ).eR fun b=>if b = true then .ok true else n ρ
def mV (m n:aa -> OE):aa -> OE:=fun ρ=>(m ρ).bind fun r=>match r.pv with
 | .bl b=>if b = true then n ρ else .ok (.sh (.bl false))
 | _=>.bad
def zF (m n:aa -> OE):aa -> OE:=fun ρ=>(m ρ).bind fun r=>match r.pv with
 | .bl b=>if b = true then .ok (.sh (.bl true)) else n ρ
 | _=>.bad
def yq (m:aa -> OE):aa -> OE:=fun ρ=>(m ρ).bind fun r=>match r.pv with
 | .bl b=>.ok (.sh (.bl (!b)))
 | _=>.bad
def jz (c:aa -> OT) (m n:aa -> OE):aa -> OE:=fun ρ=>(c ρ).bind fun b=>if b = true then m ρ else n ρ
def iK (g g':PV -> PV -> Option RV) (ma mb mc:aa -> OE):aa -> OE:=fun ρ=>(ma ρ).bind fun a=>(mb ρ).bind fun b=>(oE (g a.pv b.pv)).bind fun r=>match r.pv with
 | .bl k=>if k = true then (mc ρ).bind fun c=>oE (g' b.pv c.pv) else .ok (.sh (.bl false))
 | _=>.bad
def OS.andThen:OS -> (aa -> OS) -> OS
 | .nx ρ,k=>k ρ
 | o,_=>o
def OS.turn:OS -> (aa -> OS) -> OS
 | .nx ρ,k=>k ρ
 | .ct ρ,k=>k ρ
 | .bk ρ,_=>.nx ρ
 | o,_=>o
def aZ (a b:aa -> OS):aa -> OS:=fun ρ=>(a ρ).andThen b
def bB:aa -> OS:=fun ρ=>.nx ρ
def BU:aa -> OS:=fun ρ=>.bk ρ
def Ef:aa -> OS:=fun ρ=>.ct ρ
def wo:RV -> Option Sl
 | .sh x=>some (.sh x)
 | .fr xs=>some (.ow xs)
 | .al _=>none
def eW (i:Nat) (me:aa -> OE):aa -> OS:=fun ρ=>(me ρ).bF ρ fun r=>match wo r with
 | some s=>.nx (ρ.set i (some s))
 | none=>.bad
def cE (c:aa -> OT) (m n:aa -> OS):aa -> OS:=fun ρ=>(c ρ).bF ρ fun b=>if b = true then m ρ else n ρ
def bE (me:aa -> OE):aa -> OS:=fun ρ=>(me ρ).bF ρ fun r=>match r with
 | .al _=>.bad
 | r=>.rt ρ r
def jg (i:Nat):aa -> OS:=fun ρ=>match ρ[i]? with
 | some (some (.sh x))=>.rt ρ (.sh x)
 | some (some (.ow xs))=>.rt (ρ.set i none) (.fr xs)
 | _=>.bad
def En:aa -> OS:=fun ρ=>.rt ρ (.sh .non)
def u0 (me:aa -> OE):aa -> OS:=fun ρ=>(me ρ).bF ρ fun _=>.nx ρ
def jf (i:Nat) (ρ:aa):aa:=match ρ[i]? with
 | some (some (.ow xs))=>ρ.set i (some (.sh (.lst xs)))
 | _=>ρ
def hU (i:Nat) (me:aa -> OE):aa -> OS:=fun ρ=>match ρ[i]? with
 | some (some (.ow xs))=>(me ρ).bF ρ fun r=>match iq r with
   | some y=>if xs.length < lim then .nx (ρ.set i (some (.ow (xs ++ [y])))) else .bad
   | none=>.bad
 | _=>.bad
def zZ (i:Nat) (me:aa -> OE):aa -> OS:=fun ρ=>match ρ[i]? with
 | some (some (.ow xs))=>(me ρ).bF ρ fun r=>match r with
   | .fr ys=>if xs.length + ys.length <= lim then .nx (ρ.set i (some (.ow (xs ++ ys)))) else .bad
   | _=>.bad
 | _=>.bad
def ip (i:Nat) (mb:aa -> OS):List PV -> aa -> OS
 | [],ρ=>.nx ρ
 | x ::xs,ρ=>(mb (ρ.set i (some (.sh x)))).turn (ip i mb xs)
def qW:RV -> Option (List PV)
 | .sh (.lst xs)=>some xs
 | .fr xs=>some xs
 | _=>none
def uq (i:Nat) (ml:aa -> OE) (mb:aa -> OS):aa -> OS:=fun ρ=>(ml ρ).bF ρ fun r=>match qW r with
 | some xs=>ip i mb xs ρ
 | none=>.bad
def gy (n:Nat):List PV:=(List.range n).map fun k:Nat=>PV.int (k:Int)
def Eo (i:Nat) (me:aa -> OE) (mb:aa -> OS):aa -> OS:=fun ρ=>(me ρ).bF ρ fun r=>match r.pv with
 | .int j=>if -(2 ^ 62) <= j /\ j < 2 ^ 62 then ip i mb (gy j.toNat) ρ else .bad
 | _=>.bad
def d3 (mc:aa -> OT) (mb:aa -> OS):Nat -> aa -> OS
 | 0,_=>.bad
 | n + 1,ρ=>(mc ρ).bF ρ fun b=>if b = true then (mb ρ).turn (d3 mc mb n) else .nx ρ
def nV:PV -> Option Int
 | .int i=>some i
 | _=>none
def wA (m:aa -> OE):aa -> OE:=fun ρ=>(m ρ).bind fun r=>match r.pv with
 | .int i=>.ok (.sh (.int i))
 | _=>.bad
def wC (xs:List PV) (lo hi:Option Int):List PV:=(xs.drop (zX xs.length 0 lo)).take (zX xs.length xs.length hi - zX xs.length 0 lo)
def Bf (x:PV) (lo hi:Option Int):Option RV:=match x with
 | .lst xs=>some (.fr (wC xs lo hi))
 | _=>none
def Bu (ma ml mh:aa -> OE):aa -> OE:=fun ρ=>(ma ρ).bind fun a=>(ml ρ).bind fun l=>(mh ρ).bind fun h=>oE (Bf a.pv (nV l.pv) (nV h.pv))
def dz (ι:List Nat) (ρ:aa):aa:=ι.map fun i=>(ρ[i]?).join
def dj (me:aa -> OE) (ρ:aa):List PV -> OA
 | []=>.ok []
 | x ::xs=>(me (ρ ++ [some (.sh x)])).eJ fun r=>match iq r with
   | some y=>(dj me ρ xs).eJ fun ys=>.ok (y ::ys)
   | none=>.bad
def noX:OA -> OE
 | .ok xs=>if xs.length <= lim then .ok (.fr xs) else .bad
 | _=>.bad
def tG (ml:aa -> OE) (ι:List Nat) (me:aa -> OE):aa -> OE:=fun ρ=>(ml ρ).bind fun r=>match r.pv with
 | .lst xs=>noX (dj me (dz ι ρ) xs)
 | _=>.bad
def ql (mn:aa -> OE) (ι:List Nat) (me:aa -> OE):aa -> OE:=fun ρ=>(mn ρ).bind fun r=>match r.pv with
 | .int j=>if -(2 ^ 62) <= j /\ j < 2 ^ 62 then noX (dj me (dz ι ρ) (gy j.toNat)) else .bad
 | _=>.bad
def Cp (c:String) (ma:aa -> OA):aa -> OS:=fun ρ=>(ma ρ).bF ρ fun xs=>if xs.length <= lim then .exc ρ c [] else .bad
def rP:OS -> OS
 | .exc _ _ _=>.bad
 | o=>o
def Fi (mb:aa -> OS) (takes:String -> Option Bool) (ms:aa -> OS):aa -> OS:=fun ρ=>match mb ρ with
 | .exc ρ' c fs=>(match takes c with
   | some true=>rP (ms ρ')
   | some false=>.exc ρ' c fs
   | none=>.bad)
 | o=>o
def Cf (i:Nat):OS -> OS
 | .nx ρ=>.nx (ρ.set i none)
 | .bk ρ=>.bk (ρ.set i none)
 | .ct ρ=>.ct (ρ.set i none)
 | o=>o
def q8 (i:Nat) (mb:aa -> OS) (takes:String -> Option Bool) (ms:aa -> OS):aa -> OS:=fun ρ=>match mb ρ with
 | .exc ρ' c fs=>(match takes c with
   | some true=>Cf i (rP (ms (ρ'.set i (some (.ex c fs)))))
   | some false=>.exc ρ' c fs
   | none=>.bad)
 | o=>o
def FC (i:Nat) (under:String -> Bool):aa -> OE:=fun ρ=>match ρ[i]? with
 | some (some (.ex c _))=>if under c = true then .ok (.sh (.bl true)) else .bad
 | _=>.bad
def fin:OS -> OE
 | .nx _=>.ok (.sh .non)
 | .rt _ (.al _)=>.bad
 | .rt _ r=>.ok r
 | .exc _ c fs=>.exc c fs
 | _=>.bad
def j9 (n:Nat) (xs:List PV):aa:=xs.map (fun x=>some (.sh x)) ++ List.replicate (n - xs.length) none
def fnP (np n:Nat) (m:aa -> OS):List PV -> OE:=fun xs=>if xs.length = np then fin (m (j9 n xs)) else .bad
def fuel:Nat:=100000
def jt (i:Nat) (m:aa -> OS):aa -> OS:=fun ρ=>m (jf i ρ)
def o5 (i:Nat) (g:PV -> PV -> Option RV) (me:aa -> OE):aa -> OS:=fun ρ=>match ρ[i]? with
 | some (some (.sh x))=>(me ρ).bF ρ fun r=>match g x r.pv with
   | some (.sh z)=>.nx (ρ.set i (some (.sh z)))
   | _=>.bad
 | _=>.bad
def b4:PV -> Bool
 | .non=>true
 | _=>false
def nQ:PV -> PV -> Option RV
 | x,.non=>some (.sh (.bl (b4 x)))
 | _,_=>none
def pO:PV -> PV -> Option RV
 | x,.non=>some (.sh (.bl (!b4 x)))
 | _,_=>none
def Ed (xs:List PV) (i:Int) (y:PV):List PV:=xs.take (if i < 0 then (i + (xs.length:Int)).toNat else min i.toNat xs.length) ++ y ::xs.drop (if i < 0 then (i + (xs.length:Int)).toNat else min i.toNat xs.length)
def yI (i:Nat) (mk me:aa -> OE):aa -> OS:=fun ρ=>match ρ[i]? with
 | some (some (.ow xs))=>(ai mk (ai me aQ) ρ).bF ρ fun ys=>match ys with
   | [.int k,y]=>if (-(2 ^ 63) <= k /\ k < 2 ^ 63) /\ xs.length < lim then .nx (ρ.set i (some (.ow (Ed xs k y)))) else .bad
   | _=>.bad
 | _=>.bad
@[simp] theorem kg (i:Nat) (ρ:aa):au i ρ = (match ρ[i]? with
  | some (some (.sh x))=>.ok (.sh x)
  | some (some (.ow xs))=>.ok (.al xs)
  | _=>.bad):=rfl
@[simp] theorem rR (g:PV -> PV -> Option RV) (ma mb:aa -> OE) (ρ:aa):mOp g ma mb ρ = ((ma ρ).bind fun a=>(mb ρ).bind fun b=>oE (g a.pv b.pv)):=rfl
@[simp] theorem EU (me:aa -> OE) (mr:aa -> OA) (ρ:aa):ai me mr ρ = ((me ρ).eJ fun r=>match iq r with
  | some x=>(mr ρ).eJ fun xs=>.ok (x ::xs)
  | none=>.bad):=rfl
@[simp] theorem Fs (ma:aa -> OA) (ρ:aa):dF ma ρ = ((ma ρ).bind fun xs=>if xs.length <= lim then .ok (.fr xs) else .bad):=rfl
@[simp] theorem Fm (ma:aa -> OA) (ρ:aa):gQ ma ρ = ((ma ρ).bind fun xs=>if xs.length <= lim then .ok (.sh (.tup xs)) else .bad):=rfl
@[simp] theorem Ez (f:List PV -> OE) (ma:aa -> OA) (ρ:aa):b2 f ma ρ = ((ma ρ).bind f):=rfl
@[simp] theorem rf (g:PV -> Option RV) (ma:aa -> OE) (ρ:aa):mUn g ma ρ = ((ma ρ).bind fun a=>oE (g a.pv)):=rfl
@[simp] theorem lE (ma:aa -> OE) (ρ:aa):fK ma ρ = ((ma ρ).eR fun r=>oT (nO r.pv)):=rfl
@[simp] theorem nu (ma:aa -> OE) (ρ:aa):aU ma ρ = ((ma ρ).eR fun r=>match r.pv with
  | .bl b=>.ok b
  | _=>.bad):=rfl
@[simp] theorem uG (m:aa -> OT) (ρ:aa):uy m ρ = ((m ρ).eR fun b=>.ok (!b)):=rfl
@[simp] theorem zd (m n:aa -> OT) (ρ:aa):pq m n ρ = ((m ρ).eR fun b=>if b = true then n ρ else .ok false):=rfl
@[simp] theorem E7 (m n:aa -> OT) (ρ:aa):y9 m n ρ = ((m ρ).eR fun b=>if b = true then .ok true else n ρ):=rfl
@[simp] theorem EC (m n:aa -> OE) (ρ:aa):mV m n ρ = ((m ρ).bind fun r=>match r.pv with
  | .bl b=>if b = true then n ρ else .ok (.sh (.bl false))
  | _=>.bad):=rfl
@[simp] theorem Fj (m n:aa -> OE) (ρ:aa):zF m n ρ = ((m ρ).bind fun r=>match r.pv with
  | .bl b=>if b = true then .ok (.sh (.bl true)) else n ρ
  | _=>.bad):=rfl
@[simp] theorem EY (m:aa -> OE) (ρ:aa):yq m ρ = ((m ρ).bind fun r=>match r.pv with
  | .bl b=>.ok (.sh (.bl (!b)))
  | _=>.bad):=rfl
@[simp] theorem FN (c:aa -> OT) (m n:aa -> OE) (ρ:aa):jz c m n ρ = ((c ρ).bind fun b=>if b = true then m ρ else n ρ):=rfl
@[simp] theorem Ew (g g':PV -> PV -> Option RV) (ma mb mc:aa -> OE) (ρ:aa):iK g g' ma mb mc ρ = ((ma ρ).bind fun a=>(mb ρ).bind fun b=>(oE (g a.pv b.pv)).bind fun r=>match r.pv with
  | .bl k=>if k = true then (mc ρ).bind fun c=>oE (g' b.pv c.pv) else .ok (.sh (.bl false))
  | _=>.bad):=rfl
@[simp] theorem i6 (a b:aa -> OS) (ρ:aa):aZ a b ρ = ((a ρ).andThen b):=rfl
@[simp] theorem zf (ρ:aa):bB  ρ = (.nx ρ):=rfl
@[simp] theorem DS (ρ:aa):BU  ρ = (.bk ρ):=rfl
@[simp] theorem ES (ρ:aa):Ef  ρ = (.ct ρ):=rfl
@[simp] theorem qa (i:Nat) (me:aa -> OE) (ρ:aa):eW i me ρ = ((me ρ).bF ρ fun r=>match wo r with
  | some s=>.nx (ρ.set i (some s))
  | none=>.bad):=rfl
@[simp] theorem nZ (c:aa -> OT) (m n:aa -> OS) (ρ:aa):cE c m n ρ = ((c ρ).bF ρ fun b=>if b = true then m ρ else n ρ):=rfl
@[simp] theorem w6 (me:aa -> OE) (ρ:aa):bE me ρ = ((me ρ).bF ρ fun r=>match r with
  | .al _=>.bad
  | r=>.rt ρ r):=rfl
@[simp] theorem Dy (i:Nat) (ρ:aa):jg i ρ = (match ρ[i]? with
  | some (some (.sh x))=>.rt ρ (.sh x)
  | some (some (.ow xs))=>.rt (ρ.set i none) (.fr xs)
  | _=>.bad):=rfl
@[simp] theorem Ey (me:aa -> OE) (ρ:aa):u0 me ρ = ((me ρ).bF ρ fun _=>.nx ρ):=rfl
@[simp] theorem vp (i:Nat) (me:aa -> OE) (ρ:aa):hU i me ρ = (match ρ[i]? with
  | some (some (.ow xs))=>(me ρ).bF ρ fun r=>match iq r with
    | some y=>if xs.length < lim then .nx (ρ.set i (some (.ow (xs ++ [y])))) else .bad
    | none=>.bad
  | _=>.bad):=rfl
@[simp] theorem Dz (i:Nat) (me:aa -> OE) (ρ:aa):zZ i me ρ = (match ρ[i]? with
  | some (some (.ow xs))=>(me ρ).bF ρ fun r=>match r with
    | .fr ys=>if xs.length + ys.length <= lim then .nx (ρ.set i (some (.ow (xs ++ ys)))) else .bad
    | _=>.bad
  | _=>.bad):=rfl
@[simp] theorem zc (i:Nat) (ml:aa -> OE) (mb:aa -> OS) (ρ:aa):uq i ml mb ρ = ((ml ρ).bF ρ fun r=>match qW r with
  | some xs=>ip i mb xs ρ
  | none=>.bad):=rfl
@[simp] theorem ED (i:Nat) (me:aa -> OE) (mb:aa -> OS) (ρ:aa):Eo i me mb ρ = ((me ρ).bF ρ fun r=>match r.pv with
  | .int j=>if -(2 ^ 62) <= j /\ j < 2 ^ 62 then ip i mb (gy j.toNat) ρ else .bad
  | _=>.bad):=rfl
@[simp] theorem zS (m:aa -> OE) (ρ:aa):wA m ρ = ((m ρ).bind fun r=>match r.pv with
  | .int i=>.ok (.sh (.int i))
  | _=>.bad):=rfl
@[simp] theorem C5 (ma ml mh:aa -> OE) (ρ:aa):Bu ma ml mh ρ = ((ma ρ).bind fun a=>(ml ρ).bind fun l=>(mh ρ).bind fun h=>oE (Bf a.pv (nV l.pv) (nV h.pv))):=rfl
@[simp] theorem vX (ml:aa -> OE) (ι:List Nat) (me:aa -> OE) (ρ:aa):tG ml ι me ρ = ((ml ρ).bind fun r=>match r.pv with
  | .lst xs=>noX (dj me (dz ι ρ) xs)
  | _=>.bad):=rfl
@[simp] theorem Em (mn:aa -> OE) (ι:List Nat) (me:aa -> OE) (ρ:aa):ql mn ι me ρ = ((mn ρ).bind fun r=>match r.pv with
  | .int j=>if -(2 ^ 62) <= j /\ j < 2 ^ 62 then noX (dj me (dz ι ρ) (gy j.toNat)) else .bad
  | _=>.bad):=rfl
@[simp] theorem D6 (c:String) (ma:aa -> OA) (ρ:aa):Cp c ma ρ = ((ma ρ).bF ρ fun xs=>if xs.length <= lim then .exc ρ c [] else .bad):=rfl
@[simp] theorem FD (mb:aa -> OS) (takes:String -> Option Bool) (ms:aa -> OS) (ρ:aa):Fi mb takes ms ρ = (match mb ρ with
  | .exc ρ' c fs=>(match takes c with
    | some true=>rP (ms ρ')
    | some false=>.exc ρ' c fs
    | none=>.bad)
  | o=>o):=rfl
@[simp] theorem DF (i:Nat) (mb:aa -> OS) (takes:String -> Option Bool) (ms:aa -> OS) (ρ:aa):q8 i mb takes ms ρ = (match mb ρ with
  | .exc ρ' c fs=>(match takes c with
    | some true=>Cf i (rP (ms (ρ'.set i (some (.ex c fs)))))
    | some false=>.exc ρ' c fs
    | none=>.bad)
  | o=>o):=rfl
@[simp] theorem FO (i:Nat) (under:String -> Bool) (ρ:aa):FC i under ρ = (match ρ[i]? with
  | some (some (.ex c _))=>if under c = true then .ok (.sh (.bl true)) else .bad
  | _=>.bad):=rfl
@[simp] theorem vw (i:Nat) (m:aa -> OS) (ρ:aa):jt i m ρ = (m (jf i ρ)):=rfl
@[simp] theorem FI (i:Nat) (g:PV -> PV -> Option RV) (me:aa -> OE) (ρ:aa):o5 i g me ρ = (match ρ[i]? with
  | some (some (.sh x))=>(me ρ).bF ρ fun r=>match g x r.pv with
    | some (.sh z)=>.nx (ρ.set i (some (.sh z)))
    | _=>.bad
  | _=>.bad):=rfl
@[simp] theorem Dq (i:Nat) (mk me:aa -> OE) (ρ:aa):yI i mk me ρ = (match ρ[i]? with
  | some (some (.ow xs))=>(ai mk (ai me aQ) ρ).bF ρ fun ys=>match ys with
    | [.int k,y]=>if (-(2 ^ 63) <= k /\ k < 2 ^ 63) /\ xs.length < lim then .nx (ρ.set i (some (.ow (Ed xs k y)))) else .bad
    | _=>.bad
  | _=>.bad):=rfl
@[simp] theorem vC (x:PV) (ρ:aa):mC x ρ = .ok (.sh x):=rfl
@[simp] theorem Ga (ρ:aa):aQ ρ = .ok []:=rfl
@[simp] theorem EI (ρ:aa):En ρ = .rt ρ (.sh .non):=rfl
@[simp] theorem gE (r:RV) (f:RV -> OE):OE.bind (.ok r) f = f r:=rfl
@[simp] theorem Cs (c:String) (fs:XF) (f:RV -> OE):OE.bind (.exc c fs) f = .exc c fs:=rfl
@[simp] theorem B3 {p:Prop} [Decidable p] (x y:OE) (f:RV -> OE):OE.bind (if p then x else y) f = if p then OE.bind x f else OE.bind y f:=by split <;> rfl
@[simp] theorem i8 (r:RV) (f:RV -> OT):OE.eR (.ok r) f = f r:=rfl
@[simp] theorem AX (c:String) (fs:XF) (f:RV -> OT):OE.eR (.exc c fs) f = .exc c fs:=rfl
@[simp] theorem Aw {p:Prop} [Decidable p] (x y:OE) (f:RV -> OT):OE.eR (if p then x else y) f = if p then OE.eR x f else OE.eR y f:=by split <;> rfl
@[simp] theorem Cw (r:RV) (f:RV -> OA):OE.eJ (.ok r) f = f r:=rfl
@[simp] theorem A3 (c:String) (fs:XF) (f:RV -> OA):OE.eJ (.exc c fs) f = .exc c fs:=rfl
@[simp] theorem Az {p:Prop} [Decidable p] (x y:OE) (f:RV -> OA):OE.eJ (if p then x else y) f = if p then OE.eJ x f else OE.eJ y f:=by split <;> rfl
@[simp] theorem DB (r:Bool) (f:Bool -> OE):OT.bind (.ok r) f = f r:=rfl
@[simp] theorem Bx (c:String) (fs:XF) (f:Bool -> OE):OT.bind (.exc c fs) f = .exc c fs:=rfl
@[simp] theorem CD {p:Prop} [Decidable p] (x y:OT) (f:Bool -> OE):OT.bind (if p then x else y) f = if p then OT.bind x f else OT.bind y f:=by split <;> rfl
@[simp] theorem oO (r:Bool) (f:Bool -> OT):OT.eR (.ok r) f = f r:=rfl
@[simp] theorem AE (c:String) (fs:XF) (f:Bool -> OT):OT.eR (.exc c fs) f = .exc c fs:=rfl
@[simp] theorem A0 {p:Prop} [Decidable p] (x y:OT) (f:Bool -> OT):OT.eR (if p then x else y) f = if p then OT.eR x f else OT.eR y f:=by split <;> rfl
@[simp] theorem Dv (r:List PV) (f:List PV -> OE):OA.bind (.ok r) f = f r:=rfl
@[simp] theorem BP (c:String) (fs:XF) (f:List PV -> OE):OA.bind (.exc c fs) f = .exc c fs:=rfl
@[simp] theorem CW {p:Prop} [Decidable p] (x y:OA) (f:List PV -> OE):OA.bind (if p then x else y) f = if p then OA.bind x f else OA.bind y f:=by split <;> rfl
@[simp] theorem Cj (r:List PV) (f:List PV -> OA):OA.eJ (.ok r) f = f r:=rfl
@[simp] theorem Aq (c:String) (fs:XF) (f:List PV -> OA):OA.eJ (.exc c fs) f = .exc c fs:=rfl
@[simp] theorem AL {p:Prop} [Decidable p] (x y:OA) (f:List PV -> OA):OA.eJ (if p then x else y) f = if p then OA.eJ x f else OA.eJ y f:=by split <;> rfl
@[simp] theorem dX (ρ:aa) (r:RV) (f:RV -> OS):OE.bF ρ (.ok r) f = f r:=rfl
@[simp] theorem AZ (ρ:aa) (c:String) (fs:XF) (f:RV -> OS):OE.bF ρ (.exc c fs) f = .exc ρ c fs:=rfl
@[simp] theorem AO {p:Prop} [Decidable p] (ρ:aa) (x y:OE) (f:RV -> OS):OE.bF ρ (if p then x else y) f = if p then OE.bF ρ x f else OE.bF ρ y f:=by split <;> rfl
@[simp] theorem fk (ρ:aa) (r:Bool) (f:Bool -> OS):OT.bF ρ (.ok r) f = f r:=rfl
@[simp] theorem A5 (ρ:aa) (c:String) (fs:XF) (f:Bool -> OS):OT.bF ρ (.exc c fs) f = .exc ρ c fs:=rfl
@[simp] theorem Ax {p:Prop} [Decidable p] (ρ:aa) (x y:OT) (f:Bool -> OS):OT.bF ρ (if p then x else y) f = if p then OT.bF ρ x f else OT.bF ρ y f:=by split <;> rfl
@[simp] theorem CH (ρ:aa) (r:List PV) (f:List PV -> OS):OA.bF ρ (.ok r) f = f r:=rfl
@[simp] theorem AB (ρ:aa) (c:String) (fs:XF) (f:List PV -> OS):OA.bF ρ (.exc c fs) f = .exc ρ c fs:=rfl
@[simp] theorem A4 {p:Prop} [Decidable p] (ρ:aa) (x y:OA) (f:List PV -> OS):OA.bF ρ (if p then x else y) f = if p then OA.bF ρ x f else OA.bF ρ y f:=by split <;> rfl
@[simp] theorem fg (ρ:aa) (k:aa -> OS):(OS.nx ρ).andThen k = k ρ:=rfl
@[simp] theorem lM (ρ:aa) (k:aa -> OS):(OS.nx ρ).turn k = k ρ:=rfl
@[simp] theorem C7 (ρ:aa) (k:aa -> OS):(OS.bk ρ).andThen k = OS.bk ρ:=rfl
@[simp] theorem EH (ρ:aa) (k:aa -> OS):(OS.bk ρ).turn k = .nx ρ:=rfl
@[simp] theorem BS (ρ:aa) (k:aa -> OS):(OS.ct ρ).andThen k = OS.ct ρ:=rfl
@[simp] theorem EW (ρ:aa) (k:aa -> OS):(OS.ct ρ).turn k = k ρ:=rfl
@[simp] theorem nT (ρ:aa) (r:RV) (k:aa -> OS):(OS.rt ρ r).andThen k = OS.rt ρ r:=rfl
@[simp] theorem ur (ρ:aa) (r:RV) (k:aa -> OS):(OS.rt ρ r).turn k = OS.rt ρ r:=rfl
@[simp] theorem AD (ρ:aa) (c:String) (fs:XF) (k:aa -> OS):(OS.exc ρ c fs).andThen k = OS.exc ρ c fs:=rfl
@[simp] theorem DG (ρ:aa) (c:String) (fs:XF) (k:aa -> OS):(OS.exc ρ c fs).turn k = OS.exc ρ c fs:=rfl
@[simp] theorem AS {p:Prop} [Decidable p] (x y:OS) (k:aa -> OS):OS.andThen (if p then x else y) k = if p then x.andThen k else y.andThen k:=by split <;> rfl
@[simp] theorem Ej {p:Prop} [Decidable p] (x y:OS) (k:aa -> OS):OS.turn (if p then x else y) k = if p then x.turn k else y.turn k:=by split <;> rfl
@[simp] theorem E1 (ρ:aa):fin (.nx ρ) = .ok (.sh .non):=rfl
@[simp] theorem Fq (ρ:aa) (x:PV):fin (.rt ρ (.sh x)) = .ok (.sh x):=rfl
@[simp] theorem E2 (ρ:aa) (x:List PV):fin (.rt ρ (.fr x)) = .ok (.fr x):=rfl
@[simp] theorem EB (ρ:aa) (c:String) (fs:XF):fin (.exc ρ c fs) = .exc c fs:=rfl
@[simp] theorem EM {p:Prop} [Decidable p] (x y:OS):fin (if p then x else y) = if p then fin x else fin y:=by split <;> rfl
@[simp] theorem rq (x:PV):RV.pv (.sh x) = x:=rfl
@[simp] theorem AY (x:List PV):RV.pv (.fr x) = .lst x:=rfl
@[simp] theorem rN (x:List PV):RV.pv (.al x) = .lst x:=rfl
@[simp] theorem kq (r:RV):oE (some r) = .ok r:=rfl
@[simp] theorem qN (r:Bool):oT (some r) = .ok r:=rfl
@[simp] theorem Dp (i:Nat) (mb:aa -> OS) (ρ:aa):ip i mb [] ρ = .nx ρ:=rfl
@[simp] theorem kY (i:Nat) (mb:aa -> OS) (x:PV) (xs:List PV) (ρ:aa):ip i mb (x ::xs) ρ = (mb (ρ.set i (some (.sh x)))).turn (ip i mb xs):=rfl
@[simp] theorem FP (i j:Int):jn (.int i) (.int j) = some (.sh (.int (i + j))):=rfl
@[simp] theorem CN (i j:Int):vM (.int i) (.int j) = some (.sh (.int (i - j))):=rfl
@[simp] theorem Fl (i j:Int):yl (.int i) (.int j) = if ((decide (-(2 ^ 64) < i) && decide (i < 2 ^ 64)) || (decide (-(2 ^ 64) < j) && decide (j < 2 ^ 64))) = true then some (.sh (.int (i * j))) else none:=rfl
@[simp] theorem FV (i j:Int):xx (.int i) (.int j) = if (decide (0 < j) && decide (j < 1073741824)) = true then some (.sh (.int (i / j))) else none:=rfl
@[simp] theorem Fo (i j:Int):my (.int i) (.int j) = if decide (0 < j) = true then some (.sh (.int (i % j))) else none:=rfl
@[simp] theorem FL (i j:Int):E6 (.int i) (.int j) = if (decide (0 <= j) && (decide (j <= 1000000) && decide (i.natAbs < 2 ^ 64))) = true then some (.sh (.int (i ^ j.toNat))) else none:=rfl
@[simp] theorem Gp (i j:Int):gLt (.int i) (.int j) = some (.sh (.bl (decide (i < j)))):=rfl
@[simp] theorem Gf (i j:Int):gLe (.int i) (.int j) = some (.sh (.bl (decide (i <= j)))):=rfl
@[simp] theorem wm (i j:Int):gGt (.int i) (.int j) = some (.sh (.bl (decide (j < i)))):=rfl
@[simp] theorem Gu (i j:Int):gGe (.int i) (.int j) = some (.sh (.bl (decide (j <= i)))):=rfl
@[simp] theorem Gq (i j:Int):gEq (.int i) (.int j) = some (.sh (.bl (decide (i = j)))):=rfl
@[simp] theorem Gb (i j:Int):gNe (.int i) (.int j) = some (.sh (.bl (!decide (i = j)))):=rfl
@[simp] theorem Gm (i j:Bool):gEq (.bl i) (.bl j) = some (.sh (.bl (decide (i = j)))):=rfl
@[simp] theorem Gy (i j:Bool):gNe (.bl i) (.bl j) = some (.sh (.bl (!decide (i = j)))):=rfl
@[simp] theorem wx (xs:List PV):jJ (.lst xs) = some (.sh (.int xs.length)):=rfl
@[simp] theorem FW (xs:List PV):jJ (.tup xs) = some (.sh (.int xs.length)):=rfl
@[simp] theorem B7 (xs:List PV) (i:Int):ir (.lst xs) (.int i) = (atP xs i).map .sh:=rfl
@[simp] theorem FG (xs:List PV) (i:Int):mz (.tup xs) (.int i) = (atP xs i).map .sh:=rfl
@[simp] theorem F0 (xs ys:List PV):qb (.lst xs) (.lst ys) = if xs.length + ys.length <= lim then some (.fr (xs ++ ys)) else none:=rfl
@[simp] theorem Fw {p:Prop} [Decidable p] (x y:Option RV):oE (if p then x else y) = if p then oE x else oE y:=by split <;> rfl
@[simp] theorem tZ (b:Bool):nO (.bl b) = some b:=rfl
@[simp] theorem FZ (i:Int):nO (.int i) = some (i != 0):=rfl
@[simp] theorem Fd (xs:List PV):nO (.lst xs) = some (!xs.isEmpty):=rfl
@[simp] theorem Fg (xs:List PV):nO (.tup xs) = some (!xs.isEmpty):=rfl
@[simp] theorem FK:nO .non = some false:=rfl
@[simp] theorem DA (i:Int):isP "int" (.int i) = some true:=rfl
@[simp] theorem B1 (i:Int):isP "bool" (.int i) = some false:=rfl
@[simp] theorem BM (i:Bool):isP "bool" (.bl i) = some true:=rfl
@[simp] theorem Dg (xs:List PV):isP "list" (.lst xs) = some true:=rfl
@[simp] theorem Ds (xs:List PV):uE (.lst xs) = some (.fr xs):=rfl
@[simp] theorem DC (xs:List PV):uE (.tup xs) = some (.fr xs):=rfl
@[simp] theorem CO (xs:List PV) (lo hi:Option Int):Bf (.lst xs) lo hi = some (.fr (wC xs lo hi)):=rfl
@[simp] theorem yL:nV .non = none:=rfl
@[simp] theorem zC (i:Int):nV (.int i) = some i:=rfl
@[simp] theorem FQ (i:Int):tJ (.int i) = some (.sh (.int (-i))):=rfl
@[simp] theorem ER (i:Int):uP (.int i) = some (.sh (.int i)):=rfl
@[simp] theorem yX (i:Bool):uP (.bl i) = some (.sh (.int (if i then 1 else 0))):=rfl
@[simp] theorem yP (x:PV):iq (.sh x) = some x:=rfl
@[simp] theorem ET (x:List PV):iq (.fr x) = some (.lst x):=rfl
@[simp] theorem nv (x:PV):wo (.sh x) = some (.sh x):=rfl
@[simp] theorem EJ (x:List PV):wo (.fr x) = some (.ow x):=rfl
@[simp] theorem Eb (np n:Nat) (m:aa -> OS) (xs:List PV):fnP np n m xs = if xs.length = np then fin (m (j9 n xs)) else .bad:=rfl
@[simp] theorem xA (n:Nat) (xs:List PV):j9 n xs = xs.map (fun x=>some (.sh x)) ++ List.replicate (n - xs.length) none:=rfl
@[simp] theorem xj (xs:List PV):qW (.sh (.lst xs)) = some xs:=rfl
@[simp] theorem zy (xs:List PV):qW (.fr xs) = some xs:=rfl
@[simp] theorem FT (x:PV):nQ x .non = some (.sh (.bl (b4 x))):=rfl
@[simp] theorem EX (x:PV):pO x .non = some (.sh (.bl (!b4 x))):=rfl
@[simp] theorem wq (xs:List PV):noX (.ok xs) = if xs.length <= lim then .ok (.fr xs) else .bad:=rfl
@[simp] theorem BW (me:aa -> OE) (ρ:aa):dj me ρ [] = .ok []:=rfl
@[simp] theorem CP (f:RV -> OE):OE.bind .bad f = .bad:=rfl
@[simp] theorem Ba (f:RV -> OT):OE.eR .bad f = .bad:=rfl
@[simp] theorem A2 (f:RV -> OA):OE.eJ .bad f = .bad:=rfl
@[simp] theorem BA (f:Bool -> OE):OT.bind .bad f = .bad:=rfl
@[simp] theorem Au (f:Bool -> OT):OT.eR .bad f = .bad:=rfl
@[simp] theorem Bz (f:List PV -> OE):OA.bind .bad f = .bad:=rfl
@[simp] theorem A9 (f:List PV -> OA):OA.eJ .bad f = .bad:=rfl
@[simp] theorem A7 (ρ:aa) (f:RV -> OS):OE.bF ρ .bad f = .bad:=rfl
@[simp] theorem AW (ρ:aa) (f:Bool -> OS):OT.bF ρ .bad f = .bad:=rfl
@[simp] theorem AR (ρ:aa) (f:List PV -> OS):OA.bF ρ .bad f = .bad:=rfl
@[simp] theorem AJ (k:aa -> OS):OS.bad.andThen k = .bad:=rfl
@[simp] theorem D2 (k:aa -> OS):OS.bad.turn k = .bad:=rfl
@[simp] theorem EV:fin .bad = .bad:=rfl
@[simp] theorem EF:oE none = .bad:=rfl
@[simp] theorem EO:oT none = .bad:=rfl
@[simp] theorem EL (x:List PV):iq (.al x) = none:=rfl
@[simp] theorem EZ (x:List PV):wo (.al x) = none:=rfl
@[simp] theorem Gi:(0 <= lim) = True:=by simp [lim]
@[simp] theorem Gh:(1 <= lim) = True:=by simp [lim]
@[simp] theorem Gg:(2 <= lim) = True:=by simp [lim]
@[simp] theorem Gd:(3 <= lim) = True:=by simp [lim]
@[simp] theorem Gw:(4 <= lim) = True:=by simp [lim]
@[simp] theorem Gs:(5 <= lim) = True:=by simp [lim]
@[simp] theorem Gx:(6 <= lim) = True:=by simp [lim]
@[simp] theorem Ge:(7 <= lim) = True:=by simp [lim]
@[simp] theorem Gk:(8 <= lim) = True:=by simp [lim]
@[simp] theorem Gv:(9 <= lim) = True:=by simp [lim]
@[simp] theorem Fb:(10 <= lim) = True:=by simp [lim]
@[simp] theorem Fp:(11 <= lim) = True:=by simp [lim]
@[simp] theorem E8:(12 <= lim) = True:=by simp [lim]
@[simp] theorem Fh:(13 <= lim) = True:=by simp [lim]
@[simp] theorem E0:(14 <= lim) = True:=by simp [lim]
@[simp] theorem Fz:(15 <= lim) = True:=by simp [lim]
@[simp] theorem FF:(16 <= lim) = True:=by simp [lim]
theorem jP {n:Nat} (h:n <= 1000000):n <= lim:=by unfold lim; omega
theorem kZ {n:Nat} (h:n <= 1000000):n < lim:=by unfold lim; omega
theorem iz {α:Type} (xs:List α) (k:Nat):atP xs (k:Int) = xs[k]?:=by
 unfold atP ixP
 by_cases h:k < xs.length
 . simp [h]
 . simp [h]
@[simp] theorem Gr {α:Type} (xs:List α):atP xs 0 = xs[0]?:=iz xs 0
@[simp] theorem Gn {α:Type} (xs:List α):atP xs 1 = xs[1]?:=iz xs 1
@[simp] theorem EG {α:Type} (xs:List α) (n:Nat):atP xs (no_index (OfNat.ofNat n:Int)) = xs[n]?:=iz xs n
theorem BG {α:Type} (xs:List α) (i:Int) (h:0 <= i):atP xs i = xs[i.toNat]?:=by
 have:=iz xs i.toNat
 rwa [Int.toNat_of_nonneg h] at this
@[simp] theorem Gj (T:String) (ma:aa -> OE) (ρ:aa):mIs T ma ρ = (ma ρ).bind fun a=>oE ((isP T a.pv).map fun b=>.sh (.bl b)):=rfl
@[simp] theorem B0 (ns:List Int):tP (ns.map .int) = some ns:=by
  induction ns with
  | nil=>rfl
  | cons n ns ih=>show (tP (ns.map .int)).map (n ::·) = _; rw [ih]; rfl
@[simp] theorem sF (ns:List Bool):lx (ns.map .bl) = some ns:=by
  induction ns with
  | nil=>rfl
  | cons n ns ih=>show (lx (ns.map .bl)).map (n ::·) = _; rw [ih]; rfl
@[simp] theorem CF (n:Nat):(gy n).length = n:=by simp [gy]
theorem pf {me:aa -> OE} {ρ:aa} {α:Type} {g:α -> PV} {f:α -> PV} (l:List α) (h:∀ a ∈ l,me (ρ ++ [some (.sh (g a))]) = .ok (.sh (f a))):dj me ρ (l.map g) = .ok (l.map f):=by
 induction l with
 | nil=>rfl
 | cons a l ih=>
   have h1:=h a (List.mem_cons_self)
   have h2:=ih fun b hb=>h b (List.mem_cons_of_mem _ hb)
   simp [dj,h1,h2]
def wH (b:Bool):PV -> Bool
 | .bl c=>decide (c = b)
 | _=>false
def Fe:PV -> PV -> Option RV
 | x,.bl b=>some (.sh (.bl (wH b x)))
 | _,_=>none
def yR:PV -> PV -> Option RV
 | x,.bl b=>some (.sh (.bl (!wH b x)))
 | _,_=>none
@[simp] theorem FX (x:PV) (b:Bool):Fe x (.bl b) = some (.sh (.bl (wH b x))):=rfl
@[simp] theorem Dr (x:PV) (b:Bool):yR x (.bl b) = some (.sh (.bl (!wH b x))):=rfl
@[simp] theorem F4 (b c:Bool):wH b (.bl c) = decide (c = b):=rfl
def pZ (c:String) (f:Str) (ma:aa -> OA):aa -> OS:=fun ρ=>(ma ρ).bF ρ fun xs=>match xs with
 | [x]=>.exc ρ c [(f,x)]
 | _=>.bad
@[simp] theorem DD (c:String) (f:Str) (ma:aa -> OA) (ρ:aa):pZ c f ma ρ = (ma ρ).bF ρ fun xs=>match xs with
  | [x]=>.exc ρ c [(f,x)]
  | _=>.bad:=rfl
def uK (i:Nat) (f:Str) (under:String -> Bool):aa -> OE:=fun ρ=>match ρ[i]? with
 | some (some (.ex c fs))=>if under c = true then (match fs.lookup f with
   | some x=>.ok (.sh x)
   | none=>.bad) else .bad
 | _=>.bad
@[simp] theorem EA (i:Nat) (f:Str) (under:String -> Bool) (ρ:aa):uK i f under ρ = match ρ[i]? with
  | some (some (.ex c fs))=>if under c = true then (match fs.lookup f with
    | some x=>.ok (.sh x)
    | none=>.bad) else .bad
  | _=>.bad:=rfl
def Fu (ma mb:aa -> OE):aa -> OE:=fun ρ=>(ma ρ).bind fun a=>(mb ρ).bind fun b=>match a,b.pv with
 | .fr xs,.int k=>if (-(2 ^ 63) <= k /\ k < 2 ^ 63) /\ xs.length * k.toNat <= lim then .ok (.fr (List.replicate k.toNat xs).flatten) else .bad
 | _,_=>.bad
@[simp] theorem FA (ma mb:aa -> OE) (ρ:aa):Fu ma mb ρ = (ma ρ).bind fun a=>(mb ρ).bind fun b=>match a,b.pv with
  | .fr xs,.int k=>if (-(2 ^ 63) <= k /\ k < 2 ^ 63) /\ xs.length * k.toNat <= lim then .ok (.fr (List.replicate k.toNat xs).flatten) else .bad
  | _,_=>.bad:=rfl
def zj (i:Nat) (mk mv:aa -> OE):aa -> OS:=fun ρ=>match ρ[i]? with
 | some (some (.ow xs))=>(mv ρ).bF ρ fun r=>match iq r with
   | some y=>(mk ρ).bF ρ fun kk=>match kk.pv with
     | .int k=>match ixP xs.length k with
       | some j=>.nx (ρ.set i (some (.ow (xs.set j y))))
       | none=>.bad
     | _=>.bad
   | none=>.bad
 | _=>.bad
@[simp] theorem Fy (i:Nat) (mk mv:aa -> OE) (ρ:aa):zj i mk mv ρ = match ρ[i]? with
  | some (some (.ow xs))=>(mv ρ).bF ρ fun r=>match iq r with
    | some y=>(mk ρ).bF ρ fun kk=>match kk.pv with
      | .int k=>match ixP xs.length k with
        | some j=>.nx (ρ.set i (some (.ow (xs.set j y))))
        | none=>.bad
      | _=>.bad
    | none=>.bad
  | _=>.bad:=rfl
end L2.P
namespace L2.P
open PySem PySem.Spec PyProof.Rows L2 L2.E
mutual
def Rep (K:PySem.W.Frag) (S:Hp):PV -> V -> Prop
 | .non,v=>v = .non
 | .bl b,v=>v = .bl b
 | .int i,v=>v = .int i
 | .str s,v=>v = .str s
 | .lst xs,v=>∃ p vs,v = .ref p /\ SqL K S p vs /\ bG K S xs vs
 | .tup xs,v=>∃ p vs,v = .ref p /\ SqT K S p vs /\ bG K S xs vs
def bG (K:PySem.W.Frag) (S:Hp):List PV -> List V -> Prop
 | [],vs=>vs = []
 | x ::xs,vs=>∃ v r,vs = v ::r /\ Rep K S x v /\ bG K S xs r
end
theorem _root_.L2.az.tup {K:PySem.W.Frag} {H H':Hp} {a:Addr} {xs:List V} (e:az H H') (h:SqT K H a xs):SqT K H' a xs:=by
 rcases h with (h | ⟨o,h⟩) | h
 . exact .inl (.inl (e _ _ h))
 . exact .inl (.inr ⟨o,e _ _ h⟩)
 . exact .inr h
section
variable {K:PySem.W.Frag} {S S':Hp}
mutual
theorem Rep.mono (s:az S S'):∀ {x:PV} {v:V},Rep K S x v -> Rep K S' x v
 | .non,_,h=>by unfold Rep at h ⊢; exact h
 | .bl _,_,h=>by unfold Rep at h ⊢; exact h
 | .int _,_,h=>by unfold Rep at h ⊢; exact h
 | .str _,_,h=>by unfold Rep at h ⊢; exact h
 | .lst _,_,h=>by
   unfold Rep at h ⊢
   obtain ⟨p,vs,e,q,r⟩:=h
   exact ⟨p,vs,e,az.seq s q,bG.mono s r⟩
 | .tup _,_,h=>by
   unfold Rep at h ⊢
   obtain ⟨p,vs,e,q,r⟩:=h
   exact ⟨p,vs,e,az.tup s q,bG.mono s r⟩
theorem bG.mono (s:az S S'):∀ {xs:List PV} {vs:List V},bG K S xs vs -> bG K S' xs vs
 | [],_,h=>by unfold bG at h ⊢; exact h
 | _ ::_,_,h=>by
   unfold bG at h ⊢
   obtain ⟨v,r,e,q,t⟩:=h
   exact ⟨v,r,e,Rep.mono s q,bG.mono s t⟩
end
theorem bG.nil:bG K S [] []:=by unfold bG; rfl
theorem bG.cons {x:PV} {xs:List PV} {v:V} {vs:List V} (h:Rep K S x v) (t:bG K S xs vs):bG K S (x ::xs) (v ::vs):=by unfold bG; exact ⟨v,vs,rfl,h,t⟩
theorem bG.nil_inv {vs:List V} (h:bG K S [] vs):vs = []:=by unfold bG at h; exact h
theorem bG.cons_inv {x:PV} {xs:List PV} {vs:List V} (h:bG K S (x ::xs) vs):∃ v r,vs = v ::r /\ Rep K S x v /\ bG K S xs r:=by unfold bG at h; exact h
theorem bG.append {xs ys:List PV} {vs us:List V} (h:bG K S xs vs) (t:bG K S ys us):bG K S (xs ++ ys) (vs ++ us):=by
 induction xs generalizing vs with
 | nil=>rw [h.nil_inv]; exact t
 | cons x xs ih=>
   obtain ⟨v,r,rfl,q,h'⟩:=h.cons_inv
   exact .cons q (ih h')
theorem bG.length {xs:List PV} {vs:List V} (h:bG K S xs vs):vs.length = xs.length:=by
 induction xs generalizing vs with
 | nil=>rw [h.nil_inv]; rfl
 | cons x xs ih=>
   obtain ⟨v,r,rfl,q,h'⟩:=h.cons_inv
   simp [ih h']
theorem bG.get {xs:List PV} {vs:List V} (h:bG K S xs vs):∀ {i:Nat} {x:PV},xs[i]? = some x -> ∃ v,vs[i]? = some v /\ Rep K S x v:=by
 induction xs generalizing vs with
 | nil=>intro i x e; simp at e
 | cons y xs ih=>
   obtain ⟨v,r,rfl,q,h'⟩:=h.cons_inv
   intro i x e
   cases i with
   | zero=>simp at e; subst e; exact ⟨v,rfl,q⟩
   | succ i=>simp at e; obtain ⟨u,e1,e2⟩:=ih h' e; exact ⟨u,by simpa using e1,e2⟩
theorem bG.BE {xs:List PV} {vs:List V} (h:bG K S xs vs) {i:Nat} {v:V} (e:vs[i]? = some v):∃ x,xs[i]? = some x /\ Rep K S x v:=by
 have hi:i < xs.length:=by rw [<- h.length]; exact (List.getElem?_eq_some_iff.mp e).1
 obtain ⟨u,e1,e2⟩:=h.get (i:=i) (x:=xs[i]) (by simp [hi])
 rw [e] at e1; cases e1
 exact ⟨_,by simp [hi],e2⟩
theorem bG.take {xs:List PV} {vs:List V} (h:bG K S xs vs):∀ n,bG K S (xs.take n) (vs.take n):=by
 induction xs generalizing vs with
 | nil=>intro n; rw [h.nil_inv]; simpa using bG.nil
 | cons y xs ih=>
   obtain ⟨v,r,rfl,q,h'⟩:=h.cons_inv
   intro n
   cases n with
   | zero=>exact .nil
   | succ n=>exact .cons q (ih h' n)
theorem bG.drop {xs:List PV} {vs:List V} (h:bG K S xs vs):∀ n,bG K S (xs.drop n) (vs.drop n):=by
 induction xs generalizing vs with
 | nil=>intro n; rw [h.nil_inv]; simpa using bG.nil
 | cons y xs ih=>
   obtain ⟨v,r,rfl,q,h'⟩:=h.cons_inv
   intro n
   cases n with
   | zero=>exact .cons q h'
   | succ n=>exact ih h' n
theorem bG.ints {ns:List Int}:bG K S (ns.map .int) (ns.map V.int):=by
 induction ns with
 | nil=>exact .nil
 | cons n ns ih=>exact .cons (by unfold Rep; rfl) ih
theorem bG.set {xs:List PV} {vs:List V} {x:PV} {v:V} (h:bG K S xs vs) (q:Rep K S x v):∀ i,bG K S (xs.set i x) (vs.set i v):=by
 induction xs generalizing vs with
 | nil=>intro i; rw [h.nil_inv]; exact .nil
 | cons y xs ih=>
   obtain ⟨u,r,rfl,qu,h'⟩:=h.cons_inv
   intro i
   cases i with
   | zero=>exact .cons q h'
   | succ i=>exact .cons qu (ih h' i)
end
end L2.P
namespace L2.P
open PySem PySem.Spec PyProof.Rows L2 L2.E
def jS (K:PySem.W.Frag) (cls:String -> Option Addr) (S H:Hp) (c:String) (fs:XF) (a C:Addr):Prop:=
 cls c = some C /\ ∃ dx,H a = some (mm a C dx) /\ (fs = [] \/ ∃ d us,dx = some d /\ H d = some (.xd us) /\ fs.map (·.1) = us.map (·.1) /\ bG K S (fs.map (·.2)) (us.map (·.2)))
def isX:HO -> Bool
 | .ext _=>true
 | .xd _=>true
 | _=>false
def xb (K:PySem.W.Frag) (S:Hp) (kvs:List (Int × PV)) (us:List (Key × V)):Prop:=Paired (fun (p:Int × PV) (q:Key × V)=>q.1 = Sum.inl p.1 /\ Rep K S p.2 q.2) kvs us
def rl (K:PySem.W.Frag) (S:Hp) (kvs:List (List Int × PV)) (us:List (List Key × V)):Prop:=Paired (fun (p:List Int × PV) (q:List Key × V)=>q.1 = p.1.map Sum.inl /\ Rep K S p.2 q.2) kvs us
theorem xb.mono {K:PySem.W.Frag} {S S':Hp} (s:az S S'):∀ {kvs:List (Int × PV)} {us:List (Key × V)},xb K S kvs us -> xb K S' kvs us
 | _,_,.nil=>.nil
 | _,_,.cons h t=>.cons ⟨h.1,Rep.mono s h.2⟩ (xb.mono s t)
theorem rl.mono {K:PySem.W.Frag} {S S':Hp} (s:az S S'):∀ {kvs:List (List Int × PV)} {us:List (List Key × V)},rl K S kvs us -> rl K S' kvs us
 | _,_,.nil=>.nil
 | _,_,.cons h t=>.cons ⟨h.1,Rep.mono s h.2⟩ (rl.mono s t)
mutual
def bJ (K:PySem.W.Frag) (cls:String -> Option Addr) (S H:Hp):OV -> V -> List Addr -> Prop
 | .sh x,v,fp=>fp = [] /\ Rep K S x v
 | .ol ts,v,fp=>∃ p vs f,v = .ref p /\ H p = some (.lst vs) /\ fp = p ::f /\ bH K cls S H ts vs f
 | .ob c ks ts,v,fp=>∃ p C dx us f,v = .ref p /\ cls c = some C /\ H p = some (.ins C dx us) /\ H dx = some (.own p) /\ us.map (·.1) = ks /\ fp = p ::dx ::f /\ bH K cls S H ts (us.map (·.2)) f
 | .di kvs,v,fp=>∃ p us,v = .ref p /\ H p = some (.dK us) /\ fp = [p] /\ xb K S kvs us
 | .dt kvs,v,fp=>∃ p us,v = .ref p /\ H p = some (.dT us) /\ fp = [p] /\ rl K S kvs us
def bH (K:PySem.W.Frag) (cls:String -> Option Addr) (S H:Hp):List OV -> List V -> List Addr -> Prop
 | [],vs,fp=>vs = [] /\ fp = []
 | t ::ts,vs,fp=>∃ v r f1 f2,vs = v ::r /\ fp = f1 ++ f2 /\ bJ K cls S H t v f1 /\ bH K cls S H ts r f2
end
def nh (K:PySem.W.Frag) (cls:String -> Option Addr) (Av G S H:Hp) (i:Nat):Sl -> V -> List Addr -> Prop
 | .sh x,v,fp=>fp = [] /\ Rep K S x v
 | .ow xs,v,fp=>∃ p vs,v = .ref p /\ fp = [p] /\ G p = none /\ S p = none /\ H p = some (.lst vs) /\ bG K S xs vs
 | .ex c fs,v,fp=>fp = [] /\ ∃ a C,v = .ref a /\ jS K cls S H c fs a C
 | .tr io t,v,fp=>bJ K cls S H t v fp /\ fp.Nodup /\ (∀ a ∈ fp,G a = none /\ S a = none) /\ (io = true -> Av i = some (.lst [v]))
 | .bo t,v,fp=>fp = [] /\ ∃ f,bJ K cls S G t v f
def AK (K:PySem.W.Frag) (cls:String -> Option Addr) (G S H:Hp):Sl -> V -> Prop
 | .sh x,v=>Rep K S x v
 | .ow xs,v=>∃ p vs,v = .ref p /\ G p = none /\ S p = none /\ H p = some (.lst vs) /\ bG K S xs vs
 | .ex c fs,v=>∃ a C,v = .ref a /\ jS K cls S H c fs a C
 | _,_=>True
def iU (K:PySem.W.Frag) (B S H:Hp):RV -> V -> Prop
 | .sh x,v=>Rep K S x v
 | .fr xs,v=>∃ p vs,v = .ref p /\ B p = none /\ S p = none /\ H p = some (.lst vs) /\ bG K S xs vs
 | .al xs,v=>∃ p vs,v = .ref p /\ SqL K H p vs /\ bG K S xs vs
def RdV (K:PySem.W.Frag) (S H:Hp):PV -> V -> Prop
 | .lst xs,v=>∃ p vs,v = .ref p /\ SqL K H p vs /\ bG K S xs vs
 | x,v=>Rep K S x v
structure SRF (K:PySem.W.Frag) (cls:String -> Option Addr) (Av G S₀:Hp) (ρ:aa) (σ:St) (S H:Hp) (F:Nat -> List Addr):Prop where
 gh:az G H
 s0:az S₀ S
 sh:az S H
 new:∀ b,S b ≠ none -> S₀ b ≠ none \/ G b = none
 own:∀ (i:Nat) (s:Sl),ρ[i]? = some (some s) -> ∃ v,σ[i]? = some (some v) /\ nh K cls Av G S H i s v (F i)
 apart:∀ i j a,a ∈ F i -> a ∈ F j -> i = j
 live:∀ i a,a ∈ F i -> (∃ o,H a = some o /\ isX o = false) /\ G a = none /\ S a = none
 len:ρ.length = σ.length
def SR (K:PySem.W.Frag) (cls:String -> Option Addr) (Av G S₀:Hp) (ρ:aa) (σ:St) (S H:Hp):Prop:=∃ F,SRF K cls Av G S₀ ρ σ S H F
section
variable {K:PySem.W.Frag} {cls:String -> Option Addr} {Av G S₀ S S' H H' B:Hp} {ρ:aa} {σ:St} {F:Nat -> List Addr}
theorem SR.gh (I:SR K cls Av G S₀ ρ σ S H):az G H:=let ⟨_,J⟩:=I; J.gh
theorem SR.s0 (I:SR K cls Av G S₀ ρ σ S H):az S₀ S:=let ⟨_,J⟩:=I; J.s0
theorem SR.sh (I:SR K cls Av G S₀ ρ σ S H):az S H:=let ⟨_,J⟩:=I; J.sh
theorem SR.new (I:SR K cls Av G S₀ ρ σ S H):∀ b,S b ≠ none -> S₀ b ≠ none \/ G b = none:=let ⟨_,J⟩:=I; J.new
theorem SR.len (I:SR K cls Av G S₀ ρ σ S H):ρ.length = σ.length:=let ⟨_,J⟩:=I; J.len
theorem nh.one {i:Nat} {s:Sl} {v:V} {fp:List Addr} (h:nh K cls Av G S H i s v fp):AK K cls G S H s v:=by
 cases s with
 | sh x=>exact h.2
 | ow xs=>obtain ⟨p,vs,e,_,r⟩:=h; exact ⟨p,vs,e,r⟩
 | ex c fs=>exact h.2
 | tr io t=>trivial
 | bo t=>trivial
theorem SR.good (I:SR K cls Av G S₀ ρ σ S H) (i:Nat) (s:Sl) (e:ρ[i]? = some (some s)):∃ v,σ[i]? = some (some v) /\ AK K cls G S H s v:=by
 obtain ⟨F,J⟩:=I
 obtain ⟨v,e1,r⟩:=J.own i s e
 exact ⟨v,e1,r.one⟩
theorem jS.mono {c:String} {fs:XF} {a C:Addr} (h:jS K cls S H c fs a C) (s:az S S') (g:az H H'):jS K cls S' H' c fs a C:=by
 obtain ⟨h1,dx,h2,h3⟩:=h
 refine ⟨h1,dx,g _ _ h2,?_⟩
 rcases h3 with h3 | ⟨d,us,e1,e2,e3,e4⟩
 . exact .inl h3
 . exact .inr ⟨d,us,e1,g _ _ e2,e3,e4.mono s⟩
theorem jS.Es {c:String} {fs:XF} {a C:Addr} (h:jS K cls S H c fs a C) (s:az S S') (g:∀ b o,isX o = true -> H b = some o -> H' b = some o):jS K cls S' H' c fs a C:=by
 obtain ⟨h1,dx,h2,h3⟩:=h
 refine ⟨h1,dx,g _ _ rfl h2,?_⟩
 rcases h3 with h3 | ⟨d,us,e1,e2,e3,e4⟩
 . exact .inl h3
 . exact .inr ⟨d,us,e1,g _ _ rfl e2,e3,e4.mono s⟩
mutual
theorem bJ.mono (s:az S S'):∀ {t:OV} {v:V} {fp:List Addr},bJ K cls S H t v fp -> (∀ a ∈ fp,∀ o,H a = some o -> H' a = some o) -> bJ K cls S' H' t v fp
 | .sh _,_,_,h,_=>by unfold bJ at h ⊢; exact ⟨h.1,Rep.mono s h.2⟩
 | .ol _,_,_,h,g=>by
   unfold bJ at h ⊢
   obtain ⟨p,vs,f,e,q,e2,r⟩:=h
   subst e2
   exact ⟨p,vs,f,e,g p (by simp) _ q,rfl,bH.mono s r fun a ha=>g a (by simp [ha])⟩
 | .ob _ _ _,_,_,h,g=>by
   unfold bJ at h ⊢
   obtain ⟨p,C,dx,us,f,e,c,q,q2,k,e2,r⟩:=h
   subst e2
   exact ⟨p,C,dx,us,f,e,c,g p (by simp) _ q,g dx (by simp) _ q2,k,rfl,bH.mono s r fun a ha=>g a (by simp [ha])⟩
 | .di _,_,_,h,g=>by
   unfold bJ at h ⊢
   obtain ⟨p,us,e,q,e2,r⟩:=h
   subst e2
   exact ⟨p,us,e,g p (by simp) _ q,rfl,r.mono s⟩
 | .dt _,_,_,h,g=>by
   unfold bJ at h ⊢
   obtain ⟨p,us,e,q,e2,r⟩:=h
   subst e2
   exact ⟨p,us,e,g p (by simp) _ q,rfl,r.mono s⟩
theorem bH.mono (s:az S S'):∀ {ts:List OV} {vs:List V} {fp:List Addr},bH K cls S H ts vs fp -> (∀ a ∈ fp,∀ o,H a = some o -> H' a = some o) -> bH K cls S' H' ts vs fp
 | [],_,_,h,_=>by unfold bH at h ⊢; exact h
 | _ ::_,_,_,h,g=>by
   unfold bH at h ⊢
   obtain ⟨v,r,f1,f2,e,e2,q,t⟩:=h
   subst e2
   exact ⟨v,r,f1,f2,e,rfl,bJ.mono s q fun a ha=>g a (List.mem_append_left _ ha),bH.mono s t fun a ha=>g a (List.mem_append_right _ ha)⟩
end
mutual
theorem bJ.live:∀ {t:OV} {v:V} {fp:List Addr},bJ K cls S H t v fp -> ∀ a ∈ fp,∃ o,H a = some o /\ isX o = false
 | .sh _,_,_,h,a,ha=>by unfold bJ at h; rw [h.1] at ha; cases ha
 | .ol _,_,_,h,a,ha=>by
   unfold bJ at h
   obtain ⟨p,vs,f,e,q,e2,r⟩:=h
   subst e2
   rcases List.mem_cons.mp ha with z | z
   . subst z; exact ⟨_,q,rfl⟩
   . exact bH.live r a z
 | .ob _ _ _,_,_,h,a,ha=>by
   unfold bJ at h
   obtain ⟨p,C,dx,us,f,e,c,q,q2,k,e2,r⟩:=h
   subst e2
   rcases List.mem_cons.mp ha with z | z
   . subst z; exact ⟨_,q,rfl⟩
   . rcases List.mem_cons.mp z with z | z
     . subst z; exact ⟨_,q2,rfl⟩
     . exact bH.live r a z
 | .di _,_,_,h,a,ha=>by
   unfold bJ at h
   obtain ⟨p,us,e,q,e2,r⟩:=h
   subst e2
   have z:a = p:=by simpa using ha
   subst z
   exact ⟨_,q,rfl⟩
 | .dt _,_,_,h,a,ha=>by
   unfold bJ at h
   obtain ⟨p,us,e,q,e2,r⟩:=h
   subst e2
   have z:a = p:=by simpa using ha
   subst z
   exact ⟨_,q,rfl⟩
theorem bH.live:∀ {ts:List OV} {vs:List V} {fp:List Addr},bH K cls S H ts vs fp -> ∀ a ∈ fp,∃ o,H a = some o /\ isX o = false
 | [],_,_,h,a,ha=>by unfold bH at h; rw [h.2] at ha; cases ha
 | _ ::_,_,_,h,a,ha=>by
   unfold bH at h
   obtain ⟨v,r,f1,f2,e,e2,q,t⟩:=h
   subst e2
   rcases List.mem_append.mp ha with z | z
   . exact bJ.live q a z
   . exact bH.live t a z
end
theorem nh.mono {i:Nat} {sl:Sl} {v:V} {fp:List Addr} (h:nh K cls Av G S H i sl v fp) (s:az S S') (g:∀ a ∈ fp,∀ o,H a = some o -> H' a = some o) (x:∀ b o,isX o = true -> H b = some o -> H' b = some o) (n:∀ a ∈ fp,S' a = none):nh K cls Av G S' H' i sl v fp:=by
 cases sl with
 | sh y=>exact ⟨h.1,Rep.mono s h.2⟩
 | ow xs=>
   obtain ⟨p,vs,e,e2,h1,h2,h3,h4⟩:=h
   subst e2
   exact ⟨p,vs,e,rfl,h1,n p (by simp),g p (by simp) _ h3,h4.mono s⟩
 | ex c fs=>obtain ⟨e,a,C,e2,q⟩:=h; exact ⟨e,a,C,e2,q.Es s x⟩
 | tr io t=>exact ⟨h.1.mono s g,h.2.1,fun a ha=>⟨(h.2.2.1 a ha).1,n a ha⟩,h.2.2.2⟩
 | bo t=>obtain ⟨e,f,r⟩:=h; exact ⟨e,f,r.mono s fun _ _ _ z=>z⟩
theorem RdV.mono {x:PV} {v:V} (h:RdV K S H x v) (s:az S S') (g:az H H'):RdV K S' H' x v:=by
 cases x with
 | lst xs=>obtain ⟨p,vs,e,q,r⟩:=h; exact ⟨p,vs,e,az.seq g q,r.mono s⟩
 | non=>exact Rep.mono s h
 | bl b=>exact Rep.mono s h
 | int i=>exact Rep.mono s h
 | str x=>exact Rep.mono s h
 | tup xs=>exact Rep.mono s h
theorem Rep.rd {x:PV} {v:V} (h:Rep K S x v) (g:az S H):RdV K S H x v:=by
 cases x with
 | lst xs=>unfold Rep at h; obtain ⟨p,vs,e,q,r⟩:=h; exact ⟨p,vs,e,az.seq g q,r⟩
 | non=>exact h
 | bl b=>exact h
 | int i=>exact h
 | str x=>exact h
 | tup xs=>exact h
theorem iU.rd {r:RV} {v:V} (h:iU K B S H r v) (g:az S H):RdV K S H r.pv v:=by
 cases r with
 | sh x=>exact Rep.rd h g
 | fr xs=>obtain ⟨p,vs,e,_,_,q,r⟩:=h; exact ⟨p,vs,e,SqL.new q,r⟩
 | al xs=>exact h
theorem SRF.change (I:SRF K cls Av G S₀ ρ σ S H F) (gh:az G H') (s:az S S') (sh:az S' H') (new:∀ b,S' b ≠ none -> S₀ b ≠ none \/ G b = none)
  (g:∀ i a,a ∈ F i -> ∀ o,H a = some o -> H' a = some o) (x:∀ b o,isX o = true -> H b = some o -> H' b = some o) (n:∀ i a,a ∈ F i -> S' a = none):SRF K cls Av G S₀ ρ σ S' H' F where
 gh:=gh
 s0:=I.s0.trans s
 sh:=sh
 new:=new
 own:=fun i t e=>by
  obtain ⟨v,e1,r⟩:=I.own i t e
  exact ⟨v,e1,r.mono s (fun a ha=>g i a ha) x fun a ha=>n i a ha⟩
 apart:=I.apart
 live:=fun i a ha=>by
  obtain ⟨⟨o,h1,h2⟩,h3,_⟩:=I.live i a ha
  exact ⟨⟨o,g i a ha o h1,h2⟩,h3,n i a ha⟩
 len:=I.len
theorem SRF.same (I:SRF K cls Av G S₀ ρ σ S H F) (g:az H H'):SRF K cls Av G S₀ ρ σ S H' F:=
 I.change (I.gh.trans g) (az.refl _) (I.sh.trans g) I.new (fun _ _ _ o e=>g _ _ e) (fun _ _ _ e=>g _ _ e) fun i a ha=>(I.live i a ha).2.2
theorem SR.same (I:SR K cls Av G S₀ ρ σ S H) (g:az H H'):SR K cls Av G S₀ ρ σ S H':=let ⟨F,J⟩:=I; ⟨F,J.same g⟩
theorem set_inv {α:Type} {l:List (Option α)} {i j:Nat} {x:Option α} {s:α} (h:(l.set i x)[j]? = some (some s)):(j = i /\ x = some s /\ i < l.length) \/ (j ≠ i /\ l[j]? = some (some s)):=by
 by_cases e:j = i
 . subst e
   rw [List.getElem?_set] at h
   simp only [if_true] at h
   split at h
   . rename_i hl
     exact .inl ⟨rfl,Option.some.inj h,hl⟩
   . cases h
 . rw [List.getElem?_set_ne (Ne.symm e)] at h
   exact .inr ⟨e,h⟩
theorem Bk {α:Type} {l:List (Option α)} {i:Nat} {x:Option α} (h:i < l.length):(l.set i x)[i]? = some x:=by
 rw [List.getElem?_set]; simp [h]
def kL (F:Nat -> List Addr) (i:Nat) (fp:List Addr):Nat -> List Addr:=fun j=>if j = i then fp else F j
theorem gJ {i:Nat} {fp:List Addr}:kL F i fp i = fp:=by unfold kL; rw [if_pos rfl]
theorem eN {i j:Nat} {fp:List Addr} (h:j ≠ i):kL F i fp j = F j:=by unfold kL; rw [if_neg h]
theorem SRF.put {i:Nat} {s:Option Sl} {u:Option V} {fp:List Addr} (I:SRF K cls Av G S₀ ρ σ S H F) (h:∀ t,s = some t -> ∃ v,u = some v /\ nh K cls Av G S H i t v fp)
  (hl:∀ a ∈ fp,(∃ o,H a = some o /\ isX o = false) /\ G a = none /\ S a = none) (ap:∀ j a,j ≠ i -> a ∈ fp -> a ∉ F j):SRF K cls Av G S₀ (ρ.set i s) (σ.set i u) S H (kL F i fp) where
 gh:=I.gh
 s0:=I.s0
 sh:=I.sh
 new:=I.new
 own:=fun j t e=>by
  rcases set_inv e with ⟨rfl,e1,hl⟩ | ⟨ne,e1⟩
  . obtain ⟨v,e2,r⟩:=h t e1
    exact ⟨v,by rw [Bk (by rw [<- I.len]; exact hl),e2],by rw [gJ]; exact r⟩
  . rw [List.getElem?_set_ne (Ne.symm ne),eN ne]
    exact I.own j t e1
 apart:=fun j k a h1 h2=>by
  by_cases ej:j = i
  . by_cases ek:k = i
    . rw [ej,ek]
    . subst ej; rw [gJ] at h1; rw [eN ek] at h2; exact absurd h2 (ap k a ek h1)
  . by_cases ek:k = i
    . subst ek; rw [gJ] at h2; rw [eN ej] at h1; exact absurd h1 (ap j a ej h2)
    . rw [eN ej] at h1; rw [eN ek] at h2; exact I.apart j k a h1 h2
 live:=fun j a ha=>by
  by_cases ej:j = i
  . subst ej; rw [gJ] at ha; exact hl a ha
  . rw [eN ej] at ha; exact I.live j a ha
 len:=by simp [I.len]
theorem SR.su {i:Nat} {x:PV} {v:V} (I:SR K cls Av G S₀ ρ σ S H) (h:Rep K S x v):SR K cls Av G S₀ (ρ.set i (some (.sh x))) (σ.set i (some v)) S H:=by
 obtain ⟨F,J⟩:=I
 exact ⟨_,J.put (fp:=[]) (fun t e=>by cases e; exact ⟨v,rfl,rfl,h⟩) (fun a ha=>nomatch ha) fun j a _ ha=>nomatch ha⟩
theorem SR.uv {i:Nat} {v:Option V} (I:SR K cls Av G S₀ ρ σ S H):SR K cls Av G S₀ (ρ.set i none) (σ.set i v) S H:=by
 obtain ⟨F,J⟩:=I
 exact ⟨_,J.put (fp:=[]) (fun t e=>nomatch e) (fun a ha=>nomatch ha) fun j a _ ha=>nomatch ha⟩
theorem i3 {α:Type} {l:List α} {i:Nat} {x:α} (h:l[i]? = some x):l.set i x = l:=by
 apply List.ext_getElem?
 intro j
 by_cases e:i = j
 . subst e; rw [List.getElem?_set,if_pos rfl,if_pos (List.getElem?_eq_some_iff.mp h).1,h]
 . rw [List.getElem?_set_ne e]
theorem SR.drop {i:Nat} (I:SR K cls Av G S₀ ρ σ S H):SR K cls Av G S₀ (ρ.set i none) σ S H:=by
 cases e:σ[i]? with
 | some v=>have:=I.uv (i:=i) (v:=v); rwa [i3 e] at this
 | none=>
   have h1:σ.length <= i:=List.getElem?_eq_none_iff.mp e
   rw [List.set_eq_of_length_le (by rw [I.len]; exact h1)]
   exact I
theorem SR.Ee {i:Nat} {c:String} {fs:XF} {a C:Addr} (I:SR K cls Av G S₀ ρ σ S H) (h:jS K cls S H c fs a C):SR K cls Av G S₀ (ρ.set i (some (.ex c fs))) (σ.set i (some (.ref a))) S H:=by
 obtain ⟨F,J⟩:=I
 exact ⟨_,J.put (fp:=[]) (fun t e=>by cases e; exact ⟨.ref a,rfl,rfl,a,C,rfl,h⟩) (fun a ha=>nomatch ha) fun j a _ ha=>nomatch ha⟩
theorem SR.mut {i:Nat} {xs ys:List PV} {p:Addr} {us:List V} (I:SR K cls Av G S₀ ρ σ S H) (hi:ρ[i]? = some (some (.ow xs))) (hv:σ[i]? = some (some (.ref p))) (hr:bG K S ys us):SR K cls Av G S₀ (ρ.set i (some (.ow ys))) σ S (upd H p (.lst us)):=by
 obtain ⟨F,J⟩:=I
 obtain ⟨v,e1,q,vs,e2,e3,hG,hS,hH,_⟩:=J.own i _ hi
 rw [hv] at e1
 cases e1
 cases e2
 have J1:SRF K cls Av G S₀ (ρ.set i none) (σ.set i none) S H (kL F i []):=J.put (fun t e=>nomatch e) (fun a ha=>nomatch ha) fun j a _ ha=>nomatch ha
 have off:∀ j a,a ∈ kL F i [] j -> a ≠ p:=fun j a ha z=>by
  by_cases ej:j = i
  . subst ej; rw [gJ] at ha; cases ha
  . rw [eN ej] at ha
    exact ej (J.apart j i a ha (by rw [e3,z]; simp))
 have J2:=J1.change (H':=upd H p (.lst us)) (J.gh.upd hG) (az.refl _) (J.sh.upd hS) J.new (fun j a ha o h=>by rw [aO (off j a ha)]; exact h)
  (fun b o hx h=>by
    rw [aO]
    . exact h
    . intro z; rw [z,hH] at h; cases h; cases hx)
  fun j a ha=>(J1.live j a ha).2.2
 have J3:=J2.put (i:=i) (s:=some (.ow ys)) (u:=some (.ref p)) (fp:=[p]) (fun t e=>by cases e; exact ⟨_,rfl,p,us,rfl,rfl,hG,hS,aX,hr⟩) (fun a ha=>by
  have z:a = p:=by simpa using ha
  subst z
  exact ⟨⟨_,aX,rfl⟩,hG,hS⟩) fun j a hj ha hz=>by
   have z:a = p:=by simpa using ha
   exact off j a hz z
 rw [List.set_set,List.set_set,i3 hv] at J3
 exact ⟨_,J3⟩
theorem SR.DY {i:Nat} {xs:List PV} (I:SR K cls Av G S₀ ρ σ S H) (hi:ρ[i]? = some (some (.ow xs))):∃ S',az S S' /\ SR K cls Av G S₀ (ρ.set i (some (.sh (.lst xs)))) σ S' H:=by
 obtain ⟨F,J⟩:=I
 obtain ⟨v,hv,p,vs,e2,e3,hG,hS,hH,hr⟩:=J.own i _ hi
 subst e2
 have J1:SRF K cls Av G S₀ (ρ.set i none) (σ.set i none) S H (kL F i []):=J.put (fun t e=>nomatch e) (fun a ha=>nomatch ha) fun j a _ ha=>nomatch ha
 have off:∀ j a,a ∈ kL F i [] j -> a ≠ p:=fun j a ha z=>by
  by_cases ej:j = i
  . subst ej; rw [gJ] at ha; cases ha
  . rw [eN ej] at ha
    exact ej (J.apart j i a ha (by rw [e3,z]; simp))
 have J2:=J1.change (S':=upd S p (.lst vs)) (H':=H) J.gh (az.new hS) (fun b u h=>by
   by_cases e:b = p
   . subst e; rw [aX] at h; cases h; exact hH
   . rw [aO e] at h; exact J.sh b u h) (fun b h=>by
   by_cases e:b = p
   . subst e; exact .inr hG
   . rw [aO e] at h; exact J.new b h) (fun _ _ _ _ h=>h) (fun _ _ _ h=>h) fun j a ha=>by
     rw [aO (off j a ha)]; exact (J1.live j a ha).2.2
 have J3:=J2.put (i:=i) (s:=some (.sh (.lst xs))) (u:=some (.ref p)) (fp:=[]) (fun t e=>by
  cases e
  refine ⟨_,rfl,rfl,?_⟩
  unfold Rep
  exact ⟨p,vs,rfl,SqL.new aX,hr.mono (az.new hS)⟩) (fun a ha=>nomatch ha) fun j a _ ha=>nomatch ha
 rw [List.set_set,List.set_set,i3 hv] at J3
 exact ⟨_,az.new hS,_,J3⟩
end
end L2.P
namespace L2.P
open PySem PySem.Spec PyProof.Rows L2 L2.E
structure bb (S H S' H':Hp):Prop where
 s:az S S'
 g:az H H'
 sh:az S' H'
 new:∀ b,S' b ≠ none -> S b ≠ none \/ H b = none
theorem bb.refl {S H:Hp} (h:az S H):bb S H S H:=⟨az.refl _,az.refl _,h,fun _ z=>.inl z⟩
theorem bb.trans {S H S1 H1 S2 H2:Hp} (a:bb S H S1 H1) (b:bb S1 H1 S2 H2):bb S H S2 H2:=
 ⟨a.s.trans b.s,a.g.trans b.g,b.sh,fun x h=>by
   rcases b.new x h with z | z
   . exact a.new x z
   . exact .inr (a.g.free z)⟩
theorem SRF.grow {K:PySem.W.Frag} {cls:String -> Option Addr} {Av G S₀ S S' H H':Hp} {ρ:aa} {σ:St} {F:Nat -> List Addr} (I:SRF K cls Av G S₀ ρ σ S H F) (w:bb S H S' H'):SRF K cls Av G S₀ ρ σ S' H' F:=
 I.change (I.gh.trans w.g) w.s w.sh (fun b h=>by
  rcases w.new b h with z | z
  . exact I.new b z
  . exact .inr (I.gh.free z)) (fun i a _ o h=>w.g _ _ h) (fun b o _ h=>w.g _ _ h) fun i a ha=>by
    obtain ⟨⟨o,h1,_⟩,_,h3⟩:=I.live i a ha
    cases q:S' a with
    | none=>rfl
    | some o=>
      rcases w.new a (by rw [q]; simp) with z | z
      . exact absurd h3 z
      . rw [h1] at z; cases z
theorem SR.grow {K:PySem.W.Frag} {cls:String -> Option Addr} {Av G S₀ S S' H H':Hp} {ρ:aa} {σ:St} (I:SR K cls Av G S₀ ρ σ S H) (w:bb S H S' H'):SR K cls Av G S₀ ρ σ S' H':=let ⟨F,J⟩:=I; ⟨F,J.grow w⟩
theorem SR.Eh {K:PySem.W.Frag} {cls:String -> Option Addr} {Av G S₀ S S' H H':Hp} {ρ:aa} {σ:St} {i:Nat} {xs:List PV} {v:V} (I:SR K cls Av G S₀ ρ σ S H) (w:bb S H S' H') (h:iU K H S' H' (.fr xs) v):SR K cls Av G S₀ (ρ.set i (some (.ow xs))) (σ.set i (some v)) S' H':=by
 obtain ⟨F,J⟩:=I
 obtain ⟨p,vs,rfl,hB,hS,hH,hr⟩:=h
 have hG:=J.gh.free hB
 refine ⟨_,(J.grow w).put (fp:=[p]) (fun t e=>by cases e; exact ⟨_,rfl,p,vs,rfl,rfl,hG,hS,hH,hr⟩) (fun a ha=>?_) fun j a _ ha hz=>?_⟩
 . have z:a = p:=by simpa using ha
   subst z
   exact ⟨⟨_,hH,rfl⟩,hG,hS⟩
 . have z:a = p:=by simpa using ha
   subst z
   obtain ⟨⟨o,h1,_⟩,_⟩:=J.live j a hz
   rw [hB] at h1; cases h1
theorem bb.heap {S H:Hp} {p:Addr} {o:HO} (h:az S H) (hp:H p = none):bb S H S (upd H p o):=⟨az.refl _,az.new hp,h.trans (az.new hp),fun _ z=>.inl z⟩
theorem bb.both {S H:Hp} {p:Addr} {o:HO} (h:az S H) (hp:H p = none):bb S H (upd S p o) (upd H p o):=by
 have hS:=h.free hp
 refine ⟨az.new hS,az.new hp,fun b u z=>?_,fun b z=>?_⟩
 . by_cases e:b = p
   . subst e; rw [aX] at z ⊢; exact z
   . rw [aO e] at z ⊢; exact h b u z
 . by_cases e:b = p
   . subst e; exact .inr hp
   . rw [aO e] at z; exact .inl z
section
variable (K:PySem.W.Frag) (cls:String -> Option Addr) (W:XW)
def iH (σ:St) (S H:Hp) (Q:VK):OE -> Prop
 | .ok r=>∀ v S' H',bb S H S' H' -> iU K H S' H' r v -> Q v H'
 | .exc c fs=>∀ a C S' H',bb S H S' H' -> jS K cls S' H' c fs a C -> W (.ref C) (some a) σ H'
 | .bad=>False
def mU (σ:St) (S H:Hp) (Q:Bool -> Hp -> Prop):OT -> Prop
 | .ok b=>∀ S' H',bb S H S' H' -> Q b H'
 | .exc c fs=>∀ a C S' H',bb S H S' H' -> jS K cls S' H' c fs a C -> W (.ref C) (some a) σ H'
 | .bad=>False
def pS (σ:St) (S H:Hp) (Q:List V -> Hp -> Prop):OA -> Prop
 | .ok xs=>∀ vs S' H',bb S H S' H' -> bG K S' xs vs -> Q vs H'
 | .exc c fs=>∀ a C S' H',bb S H S' H' -> jS K cls S' H' c fs a C -> W (.ref C) (some a) σ H'
 | .bad=>False
def fQ (Av G S₀:Hp) (S:Hp) (D:Ends):OS -> Prop
 | .nx ρ=>∀ σ' S' H',SR K cls Av G S₀ ρ σ' S' H' -> az S S' -> D.nx σ' H'
 | .bk ρ=>∀ σ' S' H',SR K cls Av G S₀ ρ σ' S' H' -> az S S' -> D.bk σ' H'
 | .ct ρ=>∀ σ' S' H',SR K cls Av G S₀ ρ σ' S' H' -> az S S' -> D.ct σ' H'
 | .rt ρ r=>∀ v σ' S' H',SR K cls Av G S₀ ρ σ' S' H' -> az S S' -> iU K G S' H' r v -> D.rt v H'
 | .exc ρ c fs=>∀ a C σ' S' H',SR K cls Av G S₀ ρ σ' S' H' -> az S S' -> jS K cls S' H' c fs a C -> W (.ref C) (some a) σ' H'
 | .bad=>False
def JE (te:TE) (m:aa -> OE):Prop:=∀ Av G S₀ ρ σ S H Q,SR K cls Av G S₀ ρ σ S H -> iH K cls W σ S H Q (m ρ) -> te σ H Q
def JT (te:TT) (m:aa -> OT):Prop:=∀ Av G S₀ ρ σ S H Q,SR K cls Av G S₀ ρ σ S H -> mU K cls W σ S H Q (m ρ) -> te σ H Q
def JA (te:TA) (m:aa -> OA):Prop:=∀ Av G S₀ ρ σ S H Q,SR K cls Av G S₀ ρ σ S H -> pS K cls W σ S H Q (m ρ) -> te σ H Q
def JS (ts:TS) (m:aa -> OS):Prop:=∀ Av G S₀ ρ σ S H D,SR K cls Av G S₀ ρ σ S H -> fQ K cls W Av G S₀ S D (m ρ) -> ts D σ H
end
section
variable {K:PySem.W.Frag} {cls:String -> Option Addr} {W:XW} {Av G S₀ S S' H H' B B':Hp} {ρ:aa} {σ:St} {Q:VK}
theorem iU.back {r:RV} {v:V} (h:iU K B' S H r v) (g:az B B'):iU K B S H r v:=by
 cases r with
 | sh x=>exact h
 | fr xs=>obtain ⟨p,vs,e,h1,h2⟩:=h; exact ⟨p,vs,e,g.free h1,h2⟩
 | al xs=>exact h
theorem iH.back {o:OE} {S1 H1:Hp} (w:bb S H S1 H1) (h:iH K cls W σ S H Q o):iH K cls W σ S1 H1 Q o:=by
 cases o with
 | ok r=>exact fun v S' H' w' r=>h v S' H' (w.trans w') (r.back w.g)
 | exc c fs=>exact fun a C S' H' w' r=>h a C S' H' (w.trans w') r
 | bad=>exact h
theorem mU.back {o:OT} {Q:Bool -> Hp -> Prop} {S1 H1:Hp} (w:bb S H S1 H1) (h:mU K cls W σ S H Q o):mU K cls W σ S1 H1 Q o:=by
 cases o with
 | ok r=>exact fun S' H' w'=>h S' H' (w.trans w')
 | exc c fs=>exact fun a C S' H' w' r=>h a C S' H' (w.trans w') r
 | bad=>exact h
theorem pS.back {o:OA} {Q:List V -> Hp -> Prop} {S1 H1:Hp} (w:bb S H S1 H1) (h:pS K cls W σ S H Q o):pS K cls W σ S1 H1 Q o:=by
 cases o with
 | ok r=>exact fun v S' H' w' r=>h v S' H' (w.trans w') r
 | exc c fs=>exact fun a C S' H' w' r=>h a C S' H' (w.trans w') r
 | bad=>exact h
theorem fQ.back {o:OS} {D:Ends} {S1:Hp} (s:az S S1) (h:fQ K cls W Av G S₀ S D o):fQ K cls W Av G S₀ S1 D o:=by
 cases o with
 | nx ρ=>exact fun σ' S' H' I s'=>h σ' S' H' I (s.trans s')
 | bk ρ=>exact fun σ' S' H' I s'=>h σ' S' H' I (s.trans s')
 | ct ρ=>exact fun σ' S' H' I s'=>h σ' S' H' I (s.trans s')
 | rt ρ r=>exact fun v σ' S' H' I s'=>h v σ' S' H' I (s.trans s')
 | exc ρ c fs=>exact fun a C σ' S' H' I s'=>h a C σ' S' H' I (s.trans s')
 | bad=>exact h
theorem JE.go {te:TE} {m:aa -> OE} {f:RV -> OE} {Q':VK} (h:JE K cls W te m) (I:SR K cls Av G S₀ ρ σ S H) (p:iH K cls W σ S H Q ((m ρ).bind f))
  (k:∀ r v S1 H1,SR K cls Av G S₀ ρ σ S1 H1 -> bb S H S1 H1 -> iU K H S1 H1 r v -> iH K cls W σ S1 H1 Q (f r) -> Q' v H1):te σ H Q':=by
 refine h Av G S₀ ρ σ S H Q' I ?_
 cases e:m ρ with
 | ok r=>rw [e] at p; exact fun v S1 H1 w r1=>k r v S1 H1 (I.grow w) w r1 (p.back w)
 | exc c fs=>rw [e] at p; exact p
 | bad=>rw [e] at p; exact p
theorem JE.goT {te:TE} {m:aa -> OE} {f:RV -> OT} {Q':VK} {Q:Bool -> Hp -> Prop} (h:JE K cls W te m) (I:SR K cls Av G S₀ ρ σ S H) (p:mU K cls W σ S H Q ((m ρ).eR f))
  (k:∀ r v S1 H1,SR K cls Av G S₀ ρ σ S1 H1 -> bb S H S1 H1 -> iU K H S1 H1 r v -> mU K cls W σ S1 H1 Q (f r) -> Q' v H1):te σ H Q':=by
 refine h Av G S₀ ρ σ S H Q' I ?_
 cases e:m ρ with
 | ok r=>rw [e] at p; exact fun v S1 H1 w r1=>k r v S1 H1 (I.grow w) w r1 (p.back w)
 | exc c fs=>rw [e] at p; exact p
 | bad=>rw [e] at p; exact p
theorem JE.goS {te:TE} {m:aa -> OE} {f:RV -> OS} {Q':VK} {D:Ends} (h:JE K cls W te m) (I:SR K cls Av G S₀ ρ σ S H) (p:fQ K cls W Av G S₀ S D ((m ρ).bF ρ f))
  (k:∀ r v S1 H1,SR K cls Av G S₀ ρ σ S1 H1 -> bb S H S1 H1 -> iU K H S1 H1 r v -> fQ K cls W Av G S₀ S1 D (f r) -> Q' v H1):te σ H Q':=by
 refine h Av G S₀ ρ σ S H Q' I ?_
 cases e:m ρ with
 | ok r=>rw [e] at p; exact fun v S1 H1 w r1=>k r v S1 H1 (I.grow w) w r1 (p.back w.s)
 | exc c fs=>rw [e] at p; exact fun a C S' H' w x=>p a C σ S' H' (I.grow w) w.s x
 | bad=>rw [e] at p; exact p
theorem JT.go {te:TT} {m:aa -> OT} {f:Bool -> OE} {Q':Bool -> Hp -> Prop} (h:JT K cls W te m) (I:SR K cls Av G S₀ ρ σ S H) (p:iH K cls W σ S H Q ((m ρ).bind f))
  (k:∀ b S1 H1,SR K cls Av G S₀ ρ σ S1 H1 -> bb S H S1 H1 -> iH K cls W σ S1 H1 Q (f b) -> Q' b H1):te σ H Q':=by
 refine h Av G S₀ ρ σ S H Q' I ?_
 cases e:m ρ with
 | ok r=>rw [e] at p; exact fun S1 H1 w=>k r S1 H1 (I.grow w) w (p.back w)
 | exc c fs=>rw [e] at p; exact p
 | bad=>rw [e] at p; exact p
theorem JT.goT {te:TT} {m:aa -> OT} {f:Bool -> OT} {Q Q':Bool -> Hp -> Prop} (h:JT K cls W te m) (I:SR K cls Av G S₀ ρ σ S H) (p:mU K cls W σ S H Q ((m ρ).eR f))
  (k:∀ b S1 H1,SR K cls Av G S₀ ρ σ S1 H1 -> bb S H S1 H1 -> mU K cls W σ S1 H1 Q (f b) -> Q' b H1):te σ H Q':=by
 refine h Av G S₀ ρ σ S H Q' I ?_
 cases e:m ρ with
 | ok r=>rw [e] at p; exact fun S1 H1 w=>k r S1 H1 (I.grow w) w (p.back w)
 | exc c fs=>rw [e] at p; exact p
 | bad=>rw [e] at p; exact p
theorem JT.goS {te:TT} {m:aa -> OT} {f:Bool -> OS} {Q':Bool -> Hp -> Prop} {D:Ends} (h:JT K cls W te m) (I:SR K cls Av G S₀ ρ σ S H) (p:fQ K cls W Av G S₀ S D ((m ρ).bF ρ f))
  (k:∀ b S1 H1,SR K cls Av G S₀ ρ σ S1 H1 -> bb S H S1 H1 -> fQ K cls W Av G S₀ S1 D (f b) -> Q' b H1):te σ H Q':=by
 refine h Av G S₀ ρ σ S H Q' I ?_
 cases e:m ρ with
 | ok r=>rw [e] at p; exact fun S1 H1 w=>k r S1 H1 (I.grow w) w (p.back w.s)
 | exc c fs=>rw [e] at p; exact fun a C S' H' w x=>p a C σ S' H' (I.grow w) w.s x
 | bad=>rw [e] at p; exact p
theorem JA.go {te:TA} {m:aa -> OA} {f:List PV -> OE} {Q':List V -> Hp -> Prop} (h:JA K cls W te m) (I:SR K cls Av G S₀ ρ σ S H) (p:iH K cls W σ S H Q ((m ρ).bind f))
  (k:∀ xs vs S1 H1,SR K cls Av G S₀ ρ σ S1 H1 -> bb S H S1 H1 -> bG K S1 xs vs -> iH K cls W σ S1 H1 Q (f xs) -> Q' vs H1):te σ H Q':=by
 refine h Av G S₀ ρ σ S H Q' I ?_
 cases e:m ρ with
 | ok r=>rw [e] at p; exact fun v S1 H1 w r1=>k r v S1 H1 (I.grow w) w r1 (p.back w)
 | exc c fs=>rw [e] at p; exact p
 | bad=>rw [e] at p; exact p
theorem JA.goA {te:TA} {m:aa -> OA} {f:List PV -> OA} {Q Q':List V -> Hp -> Prop} (h:JA K cls W te m) (I:SR K cls Av G S₀ ρ σ S H) (p:pS K cls W σ S H Q ((m ρ).eJ f))
  (k:∀ xs vs S1 H1,SR K cls Av G S₀ ρ σ S1 H1 -> bb S H S1 H1 -> bG K S1 xs vs -> pS K cls W σ S1 H1 Q (f xs) -> Q' vs H1):te σ H Q':=by
 refine h Av G S₀ ρ σ S H Q' I ?_
 cases e:m ρ with
 | ok r=>rw [e] at p; exact fun v S1 H1 w r1=>k r v S1 H1 (I.grow w) w r1 (p.back w)
 | exc c fs=>rw [e] at p; exact p
 | bad=>rw [e] at p; exact p
theorem JA.goS {te:TA} {m:aa -> OA} {f:List PV -> OS} {Q':List V -> Hp -> Prop} {D:Ends} (h:JA K cls W te m) (I:SR K cls Av G S₀ ρ σ S H) (p:fQ K cls W Av G S₀ S D ((m ρ).bF ρ f))
  (k:∀ xs vs S1 H1,SR K cls Av G S₀ ρ σ S1 H1 -> bb S H S1 H1 -> bG K S1 xs vs -> fQ K cls W Av G S₀ S1 D (f xs) -> Q' vs H1):te σ H Q':=by
 refine h Av G S₀ ρ σ S H Q' I ?_
 cases e:m ρ with
 | ok r=>rw [e] at p; exact fun v S1 H1 w r1=>k r v S1 H1 (I.grow w) w r1 (p.back w.s)
 | exc c fs=>rw [e] at p; exact fun a C S' H' w x=>p a C σ S' H' (I.grow w) w.s x
 | bad=>rw [e] at p; exact p
theorem ag {i:Nat}:JE K cls W (oN i) (au i):=by
 intro Av G S₀ ρ σ S H Q I p
 unfold au at p
 split at p
 . rename_i x e
   obtain ⟨v,e1,r⟩:=I.good i _ e
   exact ⟨v,e1,p v S H (bb.refl I.sh) r⟩
 . rename_i xs e
   obtain ⟨v,e1,a,vs,e2,_,_,h3,h4⟩:=I.good i _ e
   exact ⟨v,e1,p v S H (bb.refl I.sh) ⟨a,vs,e2,SqL.new h3,h4⟩⟩
 . exact p.elim
theorem p6 {x:PV} {v:V} (h:∀ S,Rep K S x v):JE K cls W (tC v) (mC x):=fun Av G S₀ ρ σ S H Q I p=>p v S H (bb.refl I.sh) (h S)
theorem aq {n:Int}:JE K cls W (tC (.int n)) (mC (.int n)):=p6 fun _=>by unfold Rep; rfl
theorem Ar {n:Bool}:JE K cls W (tC (.bl n)) (mC (.bl n)):=p6 fun _=>by unfold Rep; rfl
theorem cb:JE K cls W (tC .non) (mC .non):=p6 fun _=>by unfold Rep; rfl
theorem aG {n:Str}:JE K cls W (tC (.str n)) (mC (.str n)):=p6 fun _=>by unfold Rep; rfl
theorem i9 {p:Addr} {ns:List Int} (h:∀ S,SqT K S p (ns.map V.int)):JE K cls W (tC (.ref p)) (mC (.tup (ns.map .int))):=p6 fun S=>by unfold Rep; exact ⟨p,_,rfl,h S,bG.ints⟩
def JR (K:PySem.W.Frag) (r:R2) (g:PV -> PV -> Option RV):Prop:=∀ S H x y v u rr Q,az S H -> RdV K S H x v -> RdV K S H y u -> g x y = some rr ->
 (∀ z S' H',bb S H S' H' -> iU K H S' H' rr z -> Q z H') -> r v u H Q
theorem aw {r:R2} {g:PV -> PV -> Option RV} {ta tb:TE} {ma mb:aa -> OE} (hr:JR K r g) (ha:JE K cls W ta ma) (hb:JE K cls W tb mb):JE K cls W (tOp r ta tb) (mOp g ma mb):=by
 intro Av G S₀ ρ σ S H Q I p
 refine ha.go I p fun a v S1 H1 I1 w1 r1 p1=>hb.go I1 p1 fun b u S2 H2 I2 w2 r2 p2=>?_
 cases e:g a.pv b.pv with
 | none=>rw [e] at p2; exact p2.elim
 | some rr=>
   rw [e] at p2
   exact hr S2 H2 a.pv b.pv v u rr Q I2.sh ((r1.rd I1.sh).mono w2.s w2.g) (r2.rd I2.sh) e p2
theorem dA {i:Int} {v:V} (h:RdV K S H (.int i) v):v = .int i:=by unfold RdV Rep at h; exact h
theorem jC {i:Bool} {v:V} (h:RdV K S H (.bl i) v):v = .bl i:=by unfold RdV Rep at h; exact h
theorem ij {i:Str} {v:V} (h:RdV K S H (.str i) v):v = .str i:=by unfold RdV Rep at h; exact h
theorem gn {v:V} (h:RdV K S H .non v):v = .non:=by unfold RdV Rep at h; exact h
theorem gj {xs:List PV} {v:V} (h:RdV K S H (.lst xs) v):∃ p vs,v = .ref p /\ SqL K H p vs /\ bG K S xs vs:=h
theorem kh {xs:List PV} {v:V} (h:RdV K S H (.tup xs) v):∃ p vs,v = .ref p /\ SqT K S p vs /\ bG K S xs vs:=by unfold RdV Rep at h; exact h
theorem wL {C:Int -> Int -> Prop} {c:Int -> Int -> Bool} {f:Int -> Int -> PV} {fv:Int -> Int -> V} (hc:∀ i j,c i j = true -> C i j) (hf:∀ S i j,Rep K S (f i j) (fv i j)):JR K (rI C fv) (gI c f):=by
 intro S H x y v u rr Q I hx hy e k
 unfold gI at e
 split at e
 . rename_i i j
   split at e
   . rename_i hcc
     cases e
     exact ⟨i,j,dA hx,dA hy,hc i j hcc,k _ S H (bb.refl I) (hf S i j)⟩
   . cases e
 . cases e
theorem mL {f:Int -> Int -> PV} {fv:Int -> Int -> V} (hf:∀ S i j,Rep K S (f i j) (fv i j)):JR K (rI0 fv) (gI (fun _ _=>true) f):=by
 intro S H x y v u rr Q I hx hy e k
 unfold gI at e
 split at e
 . rename_i i j
   simp only [if_true] at e
   cases e
   exact ⟨i,j,dA hx,dA hy,k _ S H (bb.refl I) (hf S i j)⟩
 . cases e
theorem iT:JR K (rI0 fun i j=>.int (i + j)) jn:=mL fun _ _ _=>by unfold Rep; rfl
theorem qe:JR K (rI0 fun i j=>.int (i - j)) vM:=mL fun _ _ _=>by unfold Rep; rfl
theorem tN:JR K (rI v9 fun i j=>.int (i * j)) yl:=wL (fun i j h=>by simpa [v9,Bool.or_eq_true,Bool.and_eq_true,decide_eq_true_eq] using h) fun _ _ _=>by unfold Rep; rfl
theorem qk:JR K (rI Be fun i j=>.int (i / j)) xx:=wL (fun i j h=>by simpa [Be,Bool.and_eq_true,decide_eq_true_eq] using h) fun _ _ _=>by unfold Rep; rfl
theorem je:JR K (rI (fun _ j=>0 < j) fun i j=>.int (i % j)) my:=wL (fun i j h=>by simpa using h) fun _ _ _=>by unfold Rep; rfl
theorem j7:JR K (rI0 fun i j=>.bl (decide (i < j))) gLt:=mL fun _ _ _=>by unfold Rep; rfl
theorem i0:JR K (rI0 fun i j=>.bl (decide (i <= j))) gLe:=mL fun _ _ _=>by unfold Rep; rfl
theorem As:JR K (rI0 fun i j=>.bl (decide (j < i))) gGt:=mL fun _ _ _=>by unfold Rep; rfl
theorem DL:JR K (rI0 fun i j=>.bl (decide (j <= i))) gGe:=mL fun _ _ _=>by unfold Rep; rfl
theorem wV {x y:PV} {v u:V} {b:Bool} (hx:RdV K S H x v) (hy:RdV K S H y u) (e:eqS x y = some b):BV v u = true /\ decide (v = u) = b:=by
 unfold eqS at e
 split at e
 all_goals first
  | (have h1:=gn hx; subst h1; have h2:=gn hy; subst h2; cases e; exact ⟨rfl,by simp⟩)
  | (have h1:=gn hx; subst h1; have h2:=dA hy; subst h2; cases e; exact ⟨rfl,by simp⟩)
  | (have h1:=dA hx; subst h1; have h2:=gn hy; subst h2; cases e; exact ⟨rfl,by simp⟩)
  | (have h1:=gn hx; subst h1; have h2:=jC hy; subst h2; cases e; exact ⟨rfl,by simp⟩)
  | (have h1:=jC hx; subst h1; have h2:=gn hy; subst h2; cases e; exact ⟨rfl,by simp⟩)
  | (have h1:=gn hx; subst h1; have h2:=ij hy; subst h2; cases e; exact ⟨rfl,by simp⟩)
  | (have h1:=ij hx; subst h1; have h2:=gn hy; subst h2; cases e; exact ⟨rfl,by simp⟩)
  | (have h1:=dA hx; subst h1; have h2:=dA hy; subst h2; cases e; exact ⟨rfl,by simp⟩)
  | (have h1:=jC hx; subst h1; have h2:=jC hy; subst h2; cases e; exact ⟨rfl,by simp⟩)
  | (have h1:=ij hx; subst h1; have h2:=ij hy; subst h2; cases e; exact ⟨rfl,by simp⟩)
  | (have h1:=dA hx; subst h1; have h2:=ij hy; subst h2; cases e; exact ⟨rfl,by simp⟩)
  | (have h1:=ij hx; subst h1; have h2:=dA hy; subst h2; cases e; exact ⟨rfl,by simp⟩)
  | (have h1:=jC hx; subst h1; have h2:=ij hy; subst h2; cases e; exact ⟨rfl,by simp⟩)
  | (have h1:=ij hx; subst h1; have h2:=jC hy; subst h2; cases e; exact ⟨rfl,by simp⟩)
  | cases e
theorem cC:JR K rEq gEq:=by
 intro S H x y v u rr Q I hx hy e k
 obtain ⟨b,e1,e2⟩:=Option.map_eq_some_iff.mp e
 obtain ⟨h1,h2⟩:=wV hx hy e1
 refine ⟨h1,k _ S H (bb.refl I) ?_⟩
 subst e2
 show Rep K S _ _
 unfold Rep; rw [h2]
theorem wK:JR K rNe gNe:=by
 intro S H x y v u rr Q I hx hy e k
 obtain ⟨b,e1,e2⟩:=Option.map_eq_some_iff.mp e
 obtain ⟨h1,h2⟩:=wV hx hy e1
 refine ⟨h1,k _ S H (bb.refl I) ?_⟩
 subst e2
 show Rep K S _ _
 unfold Rep; rw [h2]
end
end L2.P
namespace L2.P
open PySem PySem.Spec PyProof.Rows L2 L2.E
section
variable {K:PySem.W.Frag} {cls:String -> Option Addr} {W:XW} {Av G S₀ S S' H H' B B':Hp} {ρ:aa} {σ:St} {Q:VK}
theorem iU.share {S1 H1:Hp} {r:RV} {v:V} {x:PV} (h:iU K H S1 H1 r v) (w:bb S H S1 H1) (e:iq r = some x):∃ S2,bb S H S2 H1 /\ az S1 S2 /\ Rep K S2 x v:=by
 cases r with
 | sh y=>cases e; exact ⟨S1,w,az.refl _,h⟩
 | al xs=>cases e
 | fr xs=>
   cases e
   obtain ⟨p,vs,rfl,hB,hS,hH,hr⟩:=h
   refine ⟨upd S1 p (.lst vs),⟨w.s.trans (az.new hS),w.g,fun b u z=>?_,fun b z=>?_⟩,az.new hS,?_⟩
   . by_cases e:b = p
     . subst e; rw [aX] at z; cases z; exact hH
     . rw [aO e] at z; exact w.sh b u z
   . by_cases e:b = p
     . subst e; exact .inr hB
     . rw [aO e] at z; exact w.new b z
   . unfold Rep
     exact ⟨p,vs,rfl,SqL.new aX,hr.mono (az.new hS)⟩
theorem av:JA K cls W jM aQ:=fun Av G S₀ ρ σ S H Q I p=>p [] S H (bb.refl I.sh) .nil
theorem af {te:TE} {t:TA} {me:aa -> OE} {mr:aa -> OA} (he:JE K cls W te me) (ht:JA K cls W t mr):JA K cls W (iI te t) (ai me mr):=by
 intro Av G S₀ ρ σ S H Q I p
 refine he Av G S₀ ρ σ S H _ I ?_
 unfold ai at p
 cases e:me ρ with
 | exc c fs=>rw [e] at p; exact p
 | bad=>rw [e] at p; exact p
 | ok r=>
   rw [e] at p
   intro v S1 H1 w1 r1
   simp only [OE.eJ] at p
   cases es:iq r with
   | none=>rw [es] at p; exact p.elim
   | some x=>
     rw [es] at p
     obtain ⟨S2,w2,s2,rx⟩:=r1.share w1 es
     refine ht.goA (I.grow w2) (p.back w2) fun xs vs S3 H3 I3 w3 r3 p3=>?_
     exact p3 (v ::vs) S3 H3 (bb.refl I3.sh) (.cons (Rep.mono w3.s rx) r3)
theorem vY:lim = sizeLine:=by decide
theorem br {t:TA} {ma:aa -> OA} (h:JA K cls W t ma):JE K cls W (Cu t) (dF ma):=by
 intro Av G S₀ ρ σ S H Q I p
 refine h.go I p fun xs vs S1 H1 I1 w1 r1 p1=>?_
 split at p1
 . rename_i hl
   refine ⟨by rw [r1.length]; exact hl,fun q hq=>p1 (.ref q) S1 _ (bb.heap I1.sh hq) ⟨q,vs,rfl,hq,I1.sh.free hq,aX,r1⟩⟩
 . exact p1.elim
theorem dI {t:TA} {ma:aa -> OA} (h:JA K cls W t ma):JE K cls W (Dj t) (gQ ma):=by
 intro Av G S₀ ρ σ S H Q I p
 refine h.go I p fun xs vs S1 H1 I1 w1 r1 p1=>?_
 split at p1
 . rename_i hl
   refine ⟨by rw [r1.length]; exact hl,fun q hq=>p1 (.ref q) _ _ (bb.both I1.sh hq) ?_⟩
   show Rep K _ _ _
   unfold Rep
   exact ⟨q,vs,rfl,SqT.new aX,r1.mono (bb.both (o:=.tup vs) I1.sh hq).s⟩
 . exact p1.elim
def Ea (K:PySem.W.Frag) (cls:String -> Option Addr) (S H:Hp) (Q:VK) (E:XK):OE -> Prop
 | .ok r=>∀ v S' H',bb S H S' H' -> iU K H S' H' r v -> Q v H'
 | .exc c fs=>∀ a C S' H',bb S H S' H' -> jS K cls S' H' c fs a C -> E (.ref C) (some a) H'
 | .bad=>False
def spP (K:PySem.W.Frag) (cls:String -> Option Addr) (f:List PV -> OE):Sp:=fun vs H Q E=>∃ S xs,az S H /\ bG K S xs vs /\ Ea K cls S H Q E (f xs)
theorem aV {t:TA} {ma:aa -> OA} {f:List PV -> OE} (h:JA K cls W t ma):JE K cls W (oG (spP K cls f) [] W t) (b2 f ma):=by
 intro Av G S₀ ρ σ S H Q I p
 refine h.go I p fun xs vs S1 H1 I1 w1 r1 p1=>?_
 show spP K cls f (vs ++ []) H1 Q _
 rw [List.append_nil]
 refine ⟨S1,xs,I1.sh,r1,?_⟩
 cases e:f xs with
 | ok r=>rw [e] at p1; exact p1
 | exc c fs=>rw [e] at p1; exact p1
 | bad=>rw [e] at p1; exact p1
def JU (K:PySem.W.Frag) (r:List V -> Hp -> VK -> Prop) (g:PV -> Option RV):Prop:=∀ S H x v rr Q,az S H -> RdV K S H x v -> g x = some rr ->
 (∀ z S' H',bb S H S' H' -> iU K H S' H' rr z -> Q z H') -> r [v] H Q
theorem fF {r:List V -> Hp -> VK -> Prop} {g:PV -> Option RV} {ta:TE} {ma:aa -> OE} (hr:JU K r g) (ha:JE K cls W ta ma):JE K cls W (tCB r (iI ta jM)) (mUn g ma):=by
 intro Av G S₀ ρ σ S H Q I p
 refine ha.go I p fun a v S1 H1 I1 w1 r1 p1=>?_
 show r [v] H1 Q
 cases e:g a.pv with
 | none=>rw [e] at p1; exact p1.elim
 | some rr=>rw [e] at p1; exact hr S1 H1 a.pv v rr Q I1.sh (r1.rd I1.sh) e p1
theorem xp {r:V -> Hp -> VK -> Prop} {g:PV -> Option RV} {ta:TE} {ma:aa -> OE} (hr:JU K (fun vs H Q=>∃ v,vs = [v] /\ r v H Q) g) (ha:JE K cls W ta ma):JE K cls W (tUn r ta) (mUn g ma):=by
 intro Av G S₀ ρ σ S H Q I p
 refine ha.go I p fun a v S1 H1 I1 w1 r1 p1=>?_
 cases e:g a.pv with
 | none=>rw [e] at p1; exact p1.elim
 | some rr=>
   rw [e] at p1
   obtain ⟨u,e1,h⟩:=hr S1 H1 a.pv v rr Q I1.sh (r1.rd I1.sh) e p1
   cases e1
   exact h
theorem tU:JU K (fun vs H Q=>∃ v,vs = [v] /\ rU (fun i=>.int (-i)) v H Q) tJ:=by
 intro S H x v rr Q I hx e k
 cases x with
 | int i=>cases e; exact ⟨v,rfl,i,dA hx,k _ S H (bb.refl I) (by show Rep K S _ _; unfold Rep; rfl)⟩
 | _=>cases e
theorem gz:JU K (fun xs H Q=>∃ p ys,xs = [.ref p] /\ (SqL K H p ys \/ SqT K H p ys) /\ Q (.int ys.length) H) jJ:=by
 intro S H x v rr Q I hx e k
 cases x with
 | lst xs=>
   cases e
   obtain ⟨p,vs,rfl,hq,r⟩:=gj hx
   exact ⟨p,vs,rfl,.inl hq,k _ S H (bb.refl I) (by show Rep K S _ _; unfold Rep; rw [r.length])⟩
 | tup xs=>
   cases e
   obtain ⟨p,vs,rfl,hq,r⟩:=kh hx
   exact ⟨p,vs,rfl,.inr (az.tup I hq),k _ S H (bb.refl I) (by show Rep K S _ _; unfold Rep; rw [r.length])⟩
 | _=>cases e
theorem An:JU K (fun xs H Q=>(∃ i,xs = [.int i] /\ Q (.int i) H) \/ ∃ k,xs = [.bl k] /\ Q (.int (if k then 1 else 0)) H) uP:=by
 intro S H x v rr Q I hx e k
 cases x with
 | int i=>cases e; exact .inl ⟨i,by rw [dA hx],k _ S H (bb.refl I) (by show Rep K S _ _; unfold Rep; rfl)⟩
 | bl b=>cases e; exact .inr ⟨b,by rw [jC hx],k _ S H (bb.refl I) (by show Rep K S _ _; unfold Rep; rfl)⟩
 | _=>cases e
theorem Dm {α:Type} (xs:List α) (i:Int):atP xs i = L2.atI xs i:=rfl
theorem bG.atI {xs:List PV} {vs:List V} {i:Int} {x:PV} (h:bG K S xs vs) (e:atP xs i = some x):∃ v,L2.atI vs i = some v /\ Rep K S x v:=by
 rw [Dm] at e
 unfold L2.atI at e ⊢
 rw [h.length]
 cases q:ixN xs.length i with
 | none=>rw [q] at e; cases e
 | some j=>rw [q] at e; exact h.get e
theorem eT:JR K (Ex K) ir:=by
 intro S H x y v u rr Q I hx hy e k
 unfold ir at e
 split at e
 . rename_i xs i
   obtain ⟨z,e1,e2⟩:=Option.map_eq_some_iff.mp e
   obtain ⟨p,vs,rfl,hq,r⟩:=gj hx
   obtain ⟨w,e3,rw'⟩:=r.atI e1
   subst e2
   exact ⟨p,vs,i,w,rfl,dA hy,hq,e3,k _ S H (bb.refl I) rw'⟩
 . cases e
theorem iQ:JR K (DO K) mz:=by
 intro S H x y v u rr Q I hx hy e k
 unfold mz at e
 split at e
 . rename_i xs i
   obtain ⟨z,e1,e2⟩:=Option.map_eq_some_iff.mp e
   obtain ⟨p,vs,rfl,hq,r⟩:=kh hx
   obtain ⟨w,e3,rw'⟩:=r.atI e1
   subst e2
   exact ⟨p,vs,i,w,rfl,dA hy,az.tup I hq,e3,k _ S H (bb.refl I) rw'⟩
 . cases e
end
end L2.P
namespace L2.P
open PySem PySem.Spec PyProof.Rows L2 L2.E
section
variable {K:PySem.W.Frag} {cls:String -> Option Addr} {W:XW} {Av G S₀ S S' H H' B B':Hp} {ρ:aa} {σ:St} {Q:VK}
theorem mP:JR K (A1 K) qb:=by
 intro S H x y v u rr Q I hx hy e k
 unfold qb at e
 split at e
 . rename_i xs ys
   split at e
   . rename_i hl
     cases e
     obtain ⟨p,vs,rfl,hq,r⟩:=gj hx
     obtain ⟨p2,vs2,rfl,hq2,r2⟩:=gj hy
     exact ⟨p,p2,vs,vs2,rfl,rfl,hq,hq2,by rw [r.length,r2.length]; exact hl,fun l hn=>k _ S _ (bb.heap I hn) ⟨l,_,rfl,hn,I.free hn,aX,r.append r2⟩⟩
   . cases e
 . cases e
theorem sQ {xs:List PV} {vs:List V} {bs:List Bool} (h:lx xs = some bs) (r:bG K S xs vs):vs = bs.map V.bl:=by
 induction xs generalizing bs vs with
 | nil=>cases h; exact r.nil_inv
 | cons x xs ih=>
   cases x with
   | bl i=>
     obtain ⟨ms,e1,e2⟩:=Option.map_eq_some_iff.mp h
     subst e2
     obtain ⟨v,t,rfl,h1,h2⟩:=r.cons_inv
     unfold Rep at h1
     rw [ih e1 h2,h1]; rfl
   | _=>cases h
theorem BF {A:Around} (hh:A.handled = none):JU K (fun xs H Q=>∃ (p:Addr) (bs:List Bool),xs = [.ref p] /\ SqL K H p (bs.map V.bl) /\ A.handled = none /\ Q (.bl (bs.all id)) H) yz:=by
 intro S H x v rr Q I hx e k
 cases x with
 | lst xs=>
   obtain ⟨bs,e1,e2⟩:=Option.map_eq_some_iff.mp e
   obtain ⟨p,vs,rfl,hq,r⟩:=gj hx
   rw [sQ e1 r] at hq
   subst e2
   exact ⟨p,bs,rfl,hq,hh,k _ S H (bb.refl I) (by show Rep K S _ _; unfold Rep; rfl)⟩
 | _=>cases e
theorem CC {T:String} {x:PV} {v:V} {b:Bool} (s:az S H) (hx:RdV K S H x v) (e:isP T x = some b):IsV K T v H b:=by
 cases x with
 | int i=>
   have:=dA hx; subst this
   simp only [isP] at e
   split at e
   . cases e; exact .inl ⟨by assumption,rfl⟩
   . split at e
     . rename_i h; cases e; rcases h with h | h | h | h
       . exact .inr (.inl ⟨h,rfl⟩)
       . exact .inr (.inr (.inl ⟨h,rfl⟩))
       . exact .inr (.inr (.inr (.inl ⟨h,rfl⟩)))
       . exact .inr (.inr (.inr (.inr ⟨h,rfl⟩)))
     . cases e
 | bl i=>
   have:=jC hx; subst this
   simp only [isP] at e
   split at e
   . rename_i h; cases e; rcases h with h | h
     . exact .inl ⟨h,rfl⟩
     . exact .inr (.inl ⟨h,rfl⟩)
   . split at e
     . rename_i h; cases e; rcases h with h | h | h
       . exact .inr (.inr (.inl ⟨h,rfl⟩))
       . exact .inr (.inr (.inr (.inl ⟨h,rfl⟩)))
       . exact .inr (.inr (.inr (.inr ⟨h,rfl⟩)))
     . cases e
 | non=>
   have:=gn hx; subst this
   simp only [isP] at e
   split at e
   . rename_i h; cases e; rcases h with h | h | h | h | h
     . exact .inl ⟨h,rfl⟩
     . exact .inr (.inl ⟨h,rfl⟩)
     . exact .inr (.inr (.inl ⟨h,rfl⟩))
     . exact .inr (.inr (.inr (.inl ⟨h,rfl⟩)))
     . exact .inr (.inr (.inr (.inr ⟨h,rfl⟩)))
   . cases e
 | str i=>
   have:=ij hx; subst this
   simp only [isP] at e
   split at e
   . cases e; exact .inr (.inr (.inr (.inr ⟨by assumption,rfl⟩)))
   . split at e
     . rename_i h; cases e; rcases h with h | h | h | h
       . exact .inl ⟨h,rfl⟩
       . exact .inr (.inl ⟨h,rfl⟩)
       . exact .inr (.inr (.inl ⟨h,rfl⟩))
       . exact .inr (.inr (.inr (.inl ⟨h,rfl⟩)))
     . cases e
 | lst xs=>
   obtain ⟨p,vs,rfl,hq,r⟩:=gj hx
   refine .inl ⟨⟨vs,hq⟩,?_⟩
   simp only [isP] at e
   split at e
   . cases e; exact .inr (.inr (.inl ⟨by assumption,rfl⟩))
   . split at e
     . rename_i h; cases e; rcases h with h | h | h | h
       . exact .inl ⟨h,rfl⟩
       . exact .inr (.inl ⟨h,rfl⟩)
       . exact .inr (.inr (.inr (.inl ⟨h,rfl⟩)))
       . exact .inr (.inr (.inr (.inr ⟨h,rfl⟩)))
     . cases e
 | tup xs=>
   obtain ⟨p,vs,rfl,hq,r⟩:=kh hx
   refine .inr ⟨⟨vs,az.tup s hq⟩,?_⟩
   simp only [isP] at e
   split at e
   . cases e; exact .inr (.inr (.inr (.inl ⟨by assumption,rfl⟩)))
   . split at e
     . rename_i h; cases e; rcases h with h | h | h | h
       . exact .inl ⟨h,rfl⟩
       . exact .inr (.inl ⟨h,rfl⟩)
       . exact .inr (.inr (.inl ⟨h,rfl⟩))
       . exact .inr (.inr (.inr (.inr ⟨h,rfl⟩)))
     . cases e
theorem tW {T:String} {ta:TE} {ma:aa -> OE} (ha:JE K cls W ta ma):
  JE K cls W (tCB (fun xs H Q=>∃ x T b,xs = [x,.ty T] /\ IsV K T x H b /\ Q (.bl b) H) (iI ta (iI (tC (.ty T)) jM))) (mIs T ma):=by
 intro Av G S₀ ρ σ S H Q I p
 refine ha.go I p fun a v S1 H1 I1 w1 r1 p1=>?_
 show ∃ x T' b,[v,V.ty T] = [x,V.ty T'] /\ _
 dsimp only at p1
 cases e:isP T a.pv with
 | none=>rw [e] at p1; exact p1.elim
 | some b=>
   rw [e] at p1
   exact ⟨v,T,b,rfl,CC I1.sh (r1.rd I1.sh) e,p1 _ S1 H1 (bb.refl I1.sh) (by show Rep K S1 _ _; unfold Rep; rfl)⟩
end
end L2.P
namespace L2.P
open PySem PySem.Spec PyProof.Rows L2 L2.E
section
variable {K:PySem.W.Frag} {cls:String -> Option Addr} {W:XW} {Av G S₀ S S' H H' B B':Hp} {ρ:aa} {σ:St} {Q:VK}
theorem lu {xs:List PV} {vs:List V} (h:bG K S xs vs):vs.isEmpty = xs.isEmpty:=by
 cases xs with
 | nil=>rw [h.nil_inv]; rfl
 | cons x xs=>obtain ⟨v,r,rfl,_⟩:=h.cons_inv; rfl
theorem u2 {x:PV} {v:V} {b:Bool} (s:az S H) (hx:RdV K S H x v) (e:nO x = some b):sN K v H b:=by
 cases x with
 | non=>have:=gn hx; subst this; cases e; rfl
 | bl c=>have:=jC hx; subst this; cases e; rfl
 | int i=>have:=dA hx; subst this; cases e; rfl
 | str z=>cases e
 | lst xs=>
   obtain ⟨p,vs,rfl,hq,r⟩:=gj hx
   cases e
   exact .inl ⟨vs,hq,by rw [lu r]⟩
 | tup xs=>
   obtain ⟨p,vs,rfl,hq,r⟩:=kh hx
   cases e
   exact .inr (.inl ⟨vs,az.tup s hq,by rw [lu r]⟩)
theorem eD {ta:TE} {ma:aa -> OE} (ha:JE K cls W ta ma):JT K cls W (fun σ H Q=>ta σ H fun x H'=>∃ k,sN K x H' k /\ Q k H') (fK ma):=by
 intro Av G S₀ ρ σ S H Q I p
 refine ha.goT I p fun r v S1 H1 I1 w1 r1 p1=>?_
 cases e:nO r.pv with
 | none=>rw [e] at p1; exact p1.elim
 | some b=>rw [e] at p1; exact ⟨b,u2 I1.sh (r1.rd I1.sh) e,p1 S1 H1 (bb.refl I1.sh)⟩
theorem nN {r:RV} {b:Bool} {v:V} {S1 H1:Hp} (h:r.pv = .bl b) (r1:iU K H S1 H1 r v) (s:az S1 H1):v = .bl b:=by
 have:=r1.rd s
 rw [h] at this
 exact jC this
theorem ay {ta:TE} {ma:aa -> OE} (ha:JE K cls W ta ma):JT K cls W (rF ta) (aU ma):=by
 intro Av G S₀ ρ σ S H Q I p
 refine ha.goT I p fun r v S1 H1 I1 w1 r1 p1=>?_
 cases e:r.pv with
 | bl b=>rw [e] at p1; exact ⟨b,nN e r1 I1.sh,p1 S1 H1 (bb.refl I1.sh)⟩
 | _=>rw [e] at p1; exact p1.elim
theorem w9 {ta:TT} {ma:aa -> OT} (ha:JT K cls W ta ma):JT K cls W (Al ta) (uy ma):=by
 intro Av G S₀ ρ σ S H Q I p
 exact ha.goT I p fun b S1 H1 I1 w1 p1=>p1 S1 H1 (bb.refl I1.sh)
theorem qs {ta tb:TT} {ma mb:aa -> OT} (ha:JT K cls W ta ma) (hb:JT K cls W tb mb):JT K cls W (Bm ta tb) (pq ma mb):=by
 intro Av G S₀ ρ σ S H Q I p
 refine ha.goT I p fun b S1 H1 I1 w1 p1=>?_
 cases b with
 | true=>exact o1 (hb Av G S₀ ρ σ S1 H1 Q I1 p1)
 | false=>exact oV (p1 S1 H1 (bb.refl I1.sh))
theorem A6 {ta tb:TT} {ma mb:aa -> OT} (ha:JT K cls W ta ma) (hb:JT K cls W tb mb):JT K cls W (tOr ta tb) (y9 ma mb):=by
 intro Av G S₀ ρ σ S H Q I p
 refine ha.goT I p fun b S1 H1 I1 w1 p1=>?_
 cases b with
 | false=>exact oV (hb Av G S₀ ρ σ S1 H1 Q I1 p1)
 | true=>exact o1 (p1 S1 H1 (bb.refl I1.sh))
theorem j6 {b:Bool}:iU K B S H (.sh (.bl b)) (.bl b):=by show Rep K S _ _; unfold Rep; rfl
theorem mJ {ta tb:TE} {ma mb:aa -> OE} (ha:JE K cls W ta ma) (hb:JE K cls W tb mb):JE K cls W (x5 ta tb) (mV ma mb):=by
 intro Av G S₀ ρ σ S H Q I p
 refine ha.go I p fun r v S1 H1 I1 w1 r1 p1=>?_
 cases e:r.pv with
 | bl b=>
   rw [e] at p1
   refine ⟨b,nN e r1 I1.sh,?_⟩
   cases b with
   | true=>exact o1 (hb Av G S₀ ρ σ S1 H1 Q I1 p1)
   | false=>exact oV (p1 _ S1 H1 (bb.refl I1.sh) j6)
 | _=>rw [e] at p1; exact p1.elim
theorem DK {ta tb:TE} {ma mb:aa -> OE} (ha:JE K cls W ta ma) (hb:JE K cls W tb mb):JE K cls W (BX ta tb) (zF ma mb):=by
 intro Av G S₀ ρ σ S H Q I p
 refine ha.go I p fun r v S1 H1 I1 w1 r1 p1=>?_
 cases e:r.pv with
 | bl b=>
   rw [e] at p1
   refine ⟨b,nN e r1 I1.sh,?_⟩
   cases b with
   | false=>exact oV (hb Av G S₀ ρ σ S1 H1 Q I1 p1)
   | true=>exact o1 (p1 _ S1 H1 (bb.refl I1.sh) j6)
 | _=>rw [e] at p1; exact p1.elim
theorem Df {ta:TE} {ma:aa -> OE} (ha:JE K cls W ta ma):JE K cls W (vV ta) (yq ma):=by
 intro Av G S₀ ρ σ S H Q I p
 refine ha.go I p fun r v S1 H1 I1 w1 r1 p1=>?_
 cases e:r.pv with
 | bl b=>rw [e] at p1; exact ⟨b,nN e r1 I1.sh,p1 _ S1 H1 (bb.refl I1.sh) j6⟩
 | _=>rw [e] at p1; exact p1.elim
theorem gP {tc:TT} {ta tb:TE} {mc:aa -> OT} {ma mb:aa -> OE} (hc:JT K cls W tc mc) (ha:JE K cls W ta ma) (hb:JE K cls W tb mb):JE K cls W (tIf tc ta tb) (jz mc ma mb):=by
 intro Av G S₀ ρ σ S H Q I p
 refine hc.go I p fun b S1 H1 I1 w1 p1=>?_
 cases b with
 | true=>exact o1 (ha Av G S₀ ρ σ S1 H1 Q I1 p1)
 | false=>exact oV (hb Av G S₀ ρ σ S1 H1 Q I1 p1)
theorem gK {r r':R2} {g g':PV -> PV -> Option RV} {ta tb tc:TE} {ma mb mc:aa -> OE} (hr:JR K r g) (hr':JR K r' g') (ha:JE K cls W ta ma) (hb:JE K cls W tb mb) (hc:JE K cls W tc mc):
  JE K cls W (nM r r' ta tb tc) (iK g g' ma mb mc):=by
 intro Av G S₀ ρ σ S H Q I p
 refine ha.go I p fun a v S1 H1 I1 w1 r1 p1=>hb.go I1 p1 fun b u S2 H2 I2 w2 r2 p2=>?_
 cases e:g a.pv b.pv with
 | none=>rw [e] at p2; exact p2.elim
 | some rr=>
   rw [e] at p2
   refine hr S2 H2 a.pv b.pv v u rr _ I2.sh ((r1.rd I1.sh).mono w2.s w2.g) (r2.rd I2.sh) e fun z S3 H3 w3 r3=>?_
   have I3:=I2.grow w3
   simp only [oE,OE.bind] at p2
   cases e3:rr.pv with
   | bl k=>
     rw [e3] at p2
     have hz:=nN e3 r3 I3.sh
     refine ⟨k,hz,?_⟩
     cases k with
     | false=>exact oV (p2 _ S3 H3 w3 j6)
     | true=>
       refine o1 (hc.go I3 (p2.back w3) fun c y S4 H4 I4 w4 r4 p4=>?_)
       cases e4:g' b.pv c.pv with
       | none=>rw [e4] at p4; exact p4.elim
       | some r'=>rw [e4] at p4; exact hr' S4 H4 b.pv c.pv u y r' Q I4.sh (((r2.rd I2.sh).mono w3.s w3.g).mono w4.s w4.g) (r4.rd I4.sh) e4 p4
   | _=>rw [e3] at p2; exact p2.elim
theorem ax {ta tb:TS} {ma mb:aa -> OS} (ha:JS K cls W ta ma) (hb:JS K cls W tb mb):JS K cls W (CT ta tb) (aZ ma mb):=by
 intro Av G S₀ ρ σ S H D I p
 refine ha Av G S₀ ρ σ S H _ I ?_
 unfold aZ at p
 cases e:ma ρ with
 | nx ρ'=>rw [e] at p; exact fun σ' S' H' I' s'=>hb Av G S₀ ρ' σ' S' H' D I' (p.back s')
 | bk ρ'=>rw [e] at p; exact p
 | ct ρ'=>rw [e] at p; exact p
 | rt ρ' r=>rw [e] at p; exact p
 | exc ρ' c fs=>rw [e] at p; exact p
 | bad=>rw [e] at p; exact p
theorem aJ:JS K cls W yg bB:=fun Av G S₀ ρ σ S H D I p=>p σ S H I (az.refl _)
theorem cF {i:Nat} {te:TE} {me:aa -> OE} (he:JE K cls W te me):JS K cls W (oW te (iE i)) (eW i me):=by
 intro Av G S₀ ρ σ S H D I p
 refine he.goS I p fun r v S1 H1 I1 w1 r1 p1=>?_
 show D.nx (σ.set i (some v)) H1
 cases r with
 | sh x=>exact p1 _ S1 H1 (I1.su r1) (az.refl _)
 | fr xs=>exact p1 _ S1 H1 (I.Eh w1 r1) (az.refl _)
 | al xs=>exact p1.elim
theorem bz {tc:TT} {ta tb:TS} {mc:aa -> OT} {ma mb:aa -> OS} (hc:JT K cls W tc mc) (ha:JS K cls W ta ma) (hb:JS K cls W tb mb):JS K cls W (Am tc ta tb) (cE mc ma mb):=by
 intro Av G S₀ ρ σ S H D I p
 refine hc.goS I p fun b S1 H1 I1 w1 p1=>?_
 cases b with
 | true=>exact o1 (ha Av G S₀ ρ σ S1 H1 D I1 p1)
 | false=>exact oV (hb Av G S₀ ρ σ S1 H1 D I1 p1)
theorem aE {te:TE} {me:aa -> OE} (he:JE K cls W te me):JS K cls W (yK te) (bE me):=by
 intro Av G S₀ ρ σ S H D I p
 refine he.goS I p fun r v S1 H1 I1 w1 r1 p1=>?_
 cases r with
 | sh x=>exact p1 v σ S1 H1 I1 (az.refl _) r1
 | fr xs=>exact p1 v σ S1 H1 I1 (az.refl _) (r1.back I.gh)
 | al xs=>exact p1.elim
theorem kz {i:Nat}:JS K cls W (yK (oN i)) (jg i):=by
 intro Av G S₀ ρ σ S H D I p
 unfold jg at p
 split at p
 . rename_i x e
   obtain ⟨v,e1,r⟩:=I.good i _ e
   exact ⟨v,e1,p v σ S H I (az.refl _) r⟩
 . rename_i xs e
   obtain ⟨v,e1,a,vs,e2,h1,h2,h3,h4⟩:=I.good i _ e
   exact ⟨v,e1,p v σ S H I.drop (az.refl _) ⟨a,vs,e2,h1,h2,h3,h4⟩⟩
 . exact p.elim
theorem uz {te:TE} {me:aa -> OE} (he:JE K cls W te me):JS K cls W (pL te) (u0 me):=by
 intro Av G S₀ ρ σ S H D I p
 exact he.goS I p fun r v S1 H1 I1 w1 r1 p1=>p1 σ S1 H1 I1 (az.refl _)
theorem kB {i:Nat} {ts:TS} {m:aa -> OS} (h:JS K cls W ts m):JS K cls W ts (jt i m):=by
 intro Av G S₀ ρ σ S H D I p
 unfold jt jf at p
 split at p
 . rename_i xs e
   obtain ⟨S',s,J⟩:=I.DY e
   exact h Av G S₀ _ σ S' H D J (p.back s)
 . exact h Av G S₀ ρ σ S H D I p
theorem i4 {i:Nat} {te:TE} {me:aa -> OE} (he:JE K cls W te me):JS K cls W (pL (tBM K "list" pW (oN i) (iI te jM))) (hU i me):=by
 intro Av G S₀ ρ σ S H D I p
 unfold hU at p
 split at p
 . rename_i xs e
   obtain ⟨v,e1,a,vs,rfl,h1,h2,h3,h4⟩:=I.good i _ e
   refine ⟨_,e1,.inl ⟨rfl,_,SqL.new h3⟩,?_⟩
   refine he Av G S₀ ρ σ S H _ I ?_
   cases em:me ρ with
   | exc c fs=>rw [em] at p; exact fun a C S' H' w x=>p a C σ S' H' (I.grow w) w.s x
   | bad=>rw [em] at p; exact p
   | ok r=>
     rw [em] at p
     intro u S1 H1 w1 r1
     simp only [OE.bF] at p
     cases es:iq r with
     | none=>rw [es] at p; exact p.elim
     | some y=>
       rw [es] at p
       dsimp only at p
       split at p
       . rename_i hl
         obtain ⟨S2,w2,s2,rx⟩:=r1.share w1 es
         have I2:=I.grow w2
         refine ⟨a,vs,u,rfl,rfl,w2.g _ _ h3,by rw [h4.length]; exact hl,?_⟩
         exact p σ S2 _ (I2.mut e e1 ((h4.mono w2.s).append (.cons rx .nil))) w2.s
       . exact p.elim
 . exact p.elim
theorem pM {i:Nat} {tb:TS} {mb:aa -> OS} {D:Ends} {x:PV} {xs:List PV} {v:V} {N:St -> Hp -> Prop} (hb:JS K cls W tb mb) (I:SR K cls Av G S₀ ρ σ S H) (hx:Rep K S x v)
  (p:fQ K cls W Av G S₀ S D (ip i mb (x ::xs) ρ)) (hN:∀ ρ' σ' S' H',SR K cls Av G S₀ ρ' σ' S' H' -> az S S' -> fQ K cls W Av G S₀ S' D (ip i mb xs ρ') -> N σ' H'):
  iE i v σ H fun σ2 H2=>tb { D with nx:=N,ct:=N,bk:=D.nx } σ2 H2:=by
 refine hb Av G S₀ _ _ S H _ (I.su hx) ?_
 rw [kY] at p
 cases e:mb (ρ.set i (some (.sh x))) with
 | nx ρ'=>rw [e] at p; exact fun σ' S' H' I' s'=>hN ρ' σ' S' H' I' s' (p.back s')
 | ct ρ'=>rw [e] at p; exact fun σ' S' H' I' s'=>hN ρ' σ' S' H' I' s' (p.back s')
 | bk ρ'=>rw [e] at p; exact p
 | rt ρ' r=>rw [e] at p; exact p
 | exc ρ' c fs=>rw [e] at p; exact p
 | bad=>rw [e] at p; exact p
theorem zx {i:Nat} {tl:TE} {tb:TS} {ml:aa -> OE} {mb:aa -> OS} (hl:JE K cls W tl ml) (hb:JS K cls W tb mb):JS K cls W (wu (rE K tl) (iE i) tb) (uq i ml mb):=by
 intro Av G S₀ ρ σ S H D I p
 refine hl Av G S₀ ρ σ S H _ I ?_
 unfold uq at p
 cases em:ml ρ with
 | exc c fs=>rw [em] at p; exact fun a C S' H' w x=>p a C σ S' H' (I.grow w) w.s x
 | bad=>rw [em] at p; exact p
 | ok r=>
   rw [em] at p
   intro v S1 H1 w1 r1
   simp only [OE.bF] at p
   cases ei:qW r with
   | none=>rw [ei] at p; exact p.elim
   | some xs=>
     rw [ei] at p
     have es:iq r = some (.lst xs):=by
      cases r with
      | sh y=>cases y <;> cases ei <;> rfl
      | fr ys=>cases ei; rfl
      | al ys=>cases ei
     obtain ⟨S2,w2,s2,rx⟩:=r1.share w1 es
     have I2:=I.grow w2
     unfold Rep at rx
     obtain ⟨a,vs,rfl,hq,hr⟩:=rx
     refine ⟨a,rfl,⟨vs,az.seq I2.sh hq⟩,?_⟩
     refine xS (xs:=vs) (fun k σ' H'=>∃ ρ' S',SR K cls Av G S₀ ρ' σ' S' H' /\ az S2 S' /\ fQ K cls W Av G S₀ S' D (ip i mb (xs.drop k) ρ'))
      ⟨ρ,S2,I2,az.refl _,p.back w2.s⟩ ?_ ?_ ?_
     . rintro k σ' H' _ ⟨ρ',S',I',s',_⟩
       exact az.seq (s'.trans I'.sh) hq
     . rintro k x σ' H' hx ⟨ρ',S',I',s',p'⟩
       obtain ⟨y,hy,ry⟩:=hr.BE hx
       have hd:xs.drop k = y ::xs.drop (k + 1):=by
        have hk:k < xs.length:=(List.getElem?_eq_some_iff.mp hy).1
        rw [List.drop_eq_getElem_cons hk]
        congr 1
        have:=List.getElem?_eq_getElem hk
        rw [hy] at this
        exact (Option.some.inj this).symm
       rw [hd] at p'
       exact pM hb I' (Rep.mono s' ry) p' fun ρ2 σ2 S3 H3 I3 s3 p3=>⟨ρ2,S3,I3,s'.trans s3,p3⟩
     . rintro σ' H' ⟨ρ',S',I',s',p'⟩
       rw [List.drop_of_length_le (by rw [hr.length]; exact Nat.le_refl _)] at p'
       exact p' σ' S' H' I' (az.refl _)
theorem kj {tc:TT} {tb:TS} {mc:aa -> OT} {mb:aa -> OS} {n:Nat} (hc:JT K cls W tc mc) (hb:JS K cls W tb mb):JS K cls W (tS tc tb) (d3 mc mb n):=by
 intro Av G S₀ ρ σ S H D I p
 refine ⟨fun m σ' H'=>∃ ρ' S',SR K cls Av G S₀ ρ' σ' S' H' /\ az S S' /\ fQ K cls W Av G S₀ S' D (d3 mc mb m ρ'),⟨n,ρ,S,I,az.refl _,p⟩,?_⟩
 rintro m σ1 H1 ⟨ρ1,S1,I1,s1,p1⟩
 cases m with
 | zero=>exact p1.elim
 | succ m=>
   unfold d3 at p1
   refine hc.goS I1 p1 fun b S2 H2 I2 w2 p2=>?_
   cases b with
   | false=>exact oV (p2 σ1 S2 H2 I2 (az.refl _))
   | true=>
     refine o1 ⟨fun σ' H'=>∃ ρ' S',SR K cls Av G S₀ ρ' σ' S' H' /\ az S S' /\ fQ K cls W Av G S₀ S' D (d3 mc mb m ρ'),fun σ' H' h=>⟨m,Nat.lt_succ_self m,h⟩,?_⟩
     refine hb Av G S₀ ρ1 σ1 S2 H2 _ I2 ?_
     simp only [if_true] at p2
     cases e:mb ρ1 with
     | nx ρ'=>rw [e] at p2; exact fun σ' S' H' I' s'=>⟨ρ',S',I',(s1.trans w2.s).trans s',p2.back s'⟩
     | ct ρ'=>rw [e] at p2; exact fun σ' S' H' I' s'=>⟨ρ',S',I',(s1.trans w2.s).trans s',p2.back s'⟩
     | bk ρ'=>rw [e] at p2; exact p2
     | rt r=>rw [e] at p2; exact p2
     | exc ρ' c fs=>rw [e] at p2; exact p2
     | bad=>rw [e] at p2; exact p2
end
end L2.P
namespace L2.P
open PySem PySem.Spec PyProof.Rows L2 L2.E
section
variable {K:PySem.W.Frag} {cls:String -> Option Addr} {W:XW} {Av G S₀ S S' H H' B B':Hp} {ρ:aa} {σ:St} {Q:VK}
def wY:V -> Option Int
 | .int i=>some i
 | _=>none
def JO (K:PySem.W.Frag) (cls:String -> Option Addr) (W:XW) (to:TO) (m:aa -> OE):Prop:=∀ Av G S₀ ρ σ S H (Q:Option Int -> Hp -> Prop),SR K cls Av G S₀ ρ σ S H ->
 iH K cls W σ S H (fun v H'=>Q (wY v) H') (m ρ) -> to σ H Q
theorem zW:JO K cls W qI (mC .non):=fun Av G S₀ ρ σ S H Q I p=>p .non S H (bb.refl I.sh) (by show Rep K S _ _; unfold Rep; rfl)
theorem ze {te:TE} {m:aa -> OE} (h:JE K cls W te m):JO K cls W (xW te) (wA m):=by
 intro Av G S₀ ρ σ S H Q I p
 refine h.go I p fun r v S1 H1 I1 w1 r1 p1=>?_
 cases e:r.pv with
 | int i=>
   rw [e] at p1
   have hv:v = .int i:=by have:=r1.rd I1.sh; rw [e] at this; exact dA this
   exact ⟨i,hv,p1 (.int i) S1 H1 (bb.refl I1.sh) (by show Rep K S1 _ _; unfold Rep; rfl)⟩
 | _=>rw [e] at p1; exact p1.elim
theorem JO.go {to:TO} {m:aa -> OE} {f:RV -> OE} {Q':Option Int -> Hp -> Prop} (h:JO K cls W to m) (I:SR K cls Av G S₀ ρ σ S H) (p:iH K cls W σ S H Q ((m ρ).bind f))
  (k:∀ r v S1 H1,SR K cls Av G S₀ ρ σ S1 H1 -> bb S H S1 H1 -> iU K H S1 H1 r v -> iH K cls W σ S1 H1 Q (f r) -> Q' (wY v) H1):to σ H Q':=by
 refine h Av G S₀ ρ σ S H Q' I ?_
 cases e:m ρ with
 | ok r=>rw [e] at p; exact fun v S1 H1 w r1=>k r v S1 H1 (I.grow w) w r1 (p.back w)
 | exc c fs=>rw [e] at p; exact p
 | bad=>rw [e] at p; exact p
theorem part_of {x:PV} {v:V} (h:RdV K S H x v):wY v = nV x:=by
 cases x with
 | int i=>rw [dA h]; rfl
 | non=>rw [gn h]; rfl
 | bl b=>rw [jC h]; rfl
 | str b=>rw [ij h]; rfl
 | lst xs=>obtain ⟨p,vs,rfl,_⟩:=gj h; rfl
 | tup xs=>obtain ⟨p,vs,rfl,_⟩:=kh h; rfl
theorem bG.cut {xs:List PV} {vs:List V} (h:bG K S xs vs) (lo hi:Option Int):bG K S (wC xs lo hi) (vo vs lo hi):=by
 have es:∀ n d o,zX n d o = HT.sIx n d o:=fun n d o=>by cases o <;> rfl
 unfold wC vo
 simp only [es]
 rw [h.length]
 exact (h.drop _).take _
theorem BD {te:TE} {tl th:TO} {ma ml mh:aa -> OE} (ha:JE K cls W te ma) (hl:JO K cls W tl ml) (hh:JO K cls W th mh):JE K cls W (tSl (D3 K) te tl th) (Bu ma ml mh):=by
 intro Av G S₀ ρ σ S H Q I p
 refine ha.go I p fun a v S1 H1 I1 w1 r1 p1=>hl.go I1 p1 fun l u S2 H2 I2 w2 r2 p2=>hh.go I2 p2 fun h z S3 H3 I3 w3 r3 p3=>?_
 rw [part_of (r2.rd I2.sh),part_of (r3.rd I3.sh)]
 have ra:=((r1.rd I1.sh).mono w2.s w2.g).mono w3.s w3.g
 cases e:a.pv with
 | lst xs=>
   rw [e] at p3 ra
   obtain ⟨q,vs,rfl,hq,hr⟩:=gj ra
   exact ⟨q,vs,rfl,hq,fun b hb=>p3 _ S3 _ (bb.heap I3.sh hb) ⟨b,_,rfl,hb,I3.sh.free hb,aX,hr.cut _ _⟩⟩
 | _=>rw [e] at p3; exact p3.elim
theorem join_some {α:Type} {o:Option (Option α)} {s:α} (h:o.join = some s):o = some (some s):=by
 cases o with
 | none=>cases h
 | some x=>cases x with
   | none=>cases h
   | some y=>rw [show y = s from Option.some.inj h]
theorem y8 {α:Type} {l:List (Option α)} {ι:List Nat} {j:Nat} {s:α} (h:(ι.map fun i=>(l[i]?).join)[j]? = some (some s)):∃ i,ι[j]? = some i /\ l[i]? = some (some s):=by
 rw [List.getElem?_map] at h
 cases e:ι[j]? with
 | none=>rw [e] at h; cases h
 | some i=>rw [e] at h; exact ⟨i,rfl,join_some (Option.some.inj h)⟩
def AV (ι:List Nat) (Av:Hp):Hp:=fun j=>match ι[j]? with
 | some i=>Av i
 | none=>none
def rS (ι:List Nat) (F:Nat -> List Addr):Nat -> List Addr:=fun j=>match ι[j]? with
 | some i=>F i
 | none=>[]
theorem nh.at {i j:Nat} {Av':Hp} {s:Sl} {v:V} {fp:List Addr} (h:nh K cls Av G S H i s v fp) (e:Av' j = Av i):nh K cls Av' G S H j s v fp:=by
 cases s with
 | sh x=>exact h
 | ow xs=>exact h
 | ex c fs=>exact h
 | tr io t=>exact ⟨h.1,h.2.1,h.2.2.1,fun z=>by rw [e]; exact h.2.2.2 z⟩
 | bo t=>exact h
theorem SR.pick {ι:List Nat} {x:PV} {v:V} (I:SR K cls Av G S₀ ρ σ S H) (hι:ι.Nodup) (hx:Rep K S x v):SR K cls (AV ι Av) G S₀ (dz ι ρ ++ [some (.sh x)]) (L2.E.pick ι σ ++ [some v]) S H:=by
 obtain ⟨F,J⟩:=I
 have hl:(dz ι ρ).length = (L2.E.pick ι σ).length:=by unfold dz L2.E.pick; simp
 have hp:(dz ι ρ).length = ι.length:=by unfold dz; simp
 refine ⟨rS ι F,J.gh,J.s0,J.sh,J.new,fun j s e=>?_,fun j k a h1 h2=>?_,fun j a h=>?_,by unfold dz L2.E.pick; simp⟩
 . by_cases hj:j < (dz ι ρ).length
   . rw [List.getElem?_append_left hj] at e
     obtain ⟨i,e1,e2⟩:=y8 e
     obtain ⟨u,e3,r⟩:=J.own i s e2
     refine ⟨u,?_,?_⟩
     . rw [List.getElem?_append_left (by rw [<- hl]; exact hj)]
       unfold L2.E.pick
       rw [List.getElem?_map,e1]
       show some (σ[i]?).join = _
       rw [e3]; rfl
     . unfold rS
       rw [e1]
       exact r.at (by unfold AV; rw [e1])
   . have hj':(dz ι ρ).length <= j:=Nat.le_of_not_lt hj
     rw [List.getElem?_append_right hj'] at e
     have h0:j - (dz ι ρ).length = 0:=by
      by_cases h:j - (dz ι ρ).length = 0
      . exact h
      . rw [List.getElem?_eq_none (by simp; omega)] at e; cases e
     rw [h0] at e
     cases e
     refine ⟨v,?_,?_,hx⟩
     . rw [List.getElem?_append_right (by rw [<- hl]; exact hj'),<- hl,h0]; rfl
     . unfold rS
       rw [List.getElem?_eq_none (by rw [<- hp]; exact hj')]
 . unfold rS at h1 h2
   cases e1:ι[j]? with
   | none=>rw [e1] at h1; cases h1
   | some i=>
     cases e2:ι[k]? with
     | none=>rw [e2] at h2; cases h2
     | some i'=>
       rw [e1] at h1
       rw [e2] at h2
       have z:=J.apart i i' a h1 h2
       subst z
       obtain ⟨ha,ea⟩:=List.getElem?_eq_some_iff.mp e1
       obtain ⟨hb,eb⟩:=List.getElem?_eq_some_iff.mp e2
       exact (List.getElem_inj hι).mp (ea.trans eb.symm)
 . unfold rS at h
   cases e1:ι[j]? with
   | none=>rw [e1] at h; cases h
   | some i=>rw [e1] at h; exact J.live i a h
theorem xn {me:aa -> OE} {x:PV} {xs ys:List PV} (h:dj me ρ (x ::xs) = .ok ys):∃ r y zs,me (ρ ++ [some (.sh x)]) = .ok r /\ iq r = some y /\ dj me ρ xs = .ok zs /\ ys = y ::zs:=by
 unfold dj at h
 cases e:me (ρ ++ [some (.sh x)]) with
 | ok r=>
   rw [e] at h
   simp only [OE.eJ] at h
   cases e2:iq r with
   | none=>rw [e2] at h; cases h
   | some y=>
     rw [e2] at h
     dsimp only at h
     cases e3:dj me ρ xs with
     | ok zs=>rw [e3] at h; cases h; exact ⟨r,y,zs,rfl,e2,rfl,rfl⟩
     | exc c fs=>rw [e3] at h; cases h
     | bad=>rw [e3] at h; cases h
 | exc c fs=>rw [e] at h; cases h
 | bad=>rw [e] at h; cases h
theorem mG {J:It} {ι:List Nat} {te:TE} {me:aa -> OE} {xs ys:List PV} (hι:ι.Nodup) (he:JE K cls (fun _ _ _ _=>False) te me) (I:SR K cls Av G S₀ ρ σ S H) (hy:dj me (dz ι ρ) xs = .ok ys) (hl:ys.length <= lim)
  (go:∀ k H' x,az H H' -> xs[k]? = some x -> J.go k H' /\ ∀ v H2,J.yld k H' v H2 -> H2 = H' /\ Rep K S x v) (stop:∀ H',az H H' -> J.stop xs.length H')
  (hQ:∀ D S' H',bb S H S' H' -> H D = none -> S' D = none -> (∃ us,H' D = some (.lst us) /\ bG K S' ys us) -> Q (.ref D) H'):
  ∀ D,H D = none -> ∃ W:Nat -> Nat -> List V -> Hp -> Prop,(∃ m,W 0 m [] (upd H D (.lst []))) /\ ∀ i m us H',W i m us H' ->
    H' D = some (.lst us) /\ ((J.stop i H' /\ Q (.ref D) H') \/ (J.go i H' /\ ∀ x H2,J.yld i H' x H2 -> te (L2.E.pick ι σ ++ [some x]) H2 fun y H3=>H3 D = some (.lst us) /\ us.length < sizeLine /\ ∃ m',m' < m /\ W (i + 1) m' (us ++ [y]) (upd H3 D (.lst (us ++ [y]))))):=by
 intro D nD
 refine ⟨fun k m us H'=>m + k = xs.length /\ H' D = some (.lst us) /\ ∃ S' zs ws,az S S' /\ az H H' /\ az S' H' /\ (∀ b,S' b ≠ none -> S b ≠ none \/ (H b = none /\ b ≠ D)) /\ bG K S' zs us /\ dj me (dz ι ρ) (xs.drop k) = .ok ws /\ ys = zs ++ ws,
  ⟨xs.length,rfl,aX,S,[],ys,az.refl _,az.new nD,I.sh.trans (az.new nD),fun b z=>.inl z,.nil,hy,rfl⟩,?_⟩
 rintro k m us H' ⟨hm,hD,S',zs,ws,s1,g1,sh1,n1,r1,e1,rfl⟩
 refine ⟨hD,?_⟩
 have hSD:S' D = none:=by
  cases q:S' D with
  | none=>rfl
  | some o=>
    rcases n1 D (by rw [q]; simp) with z | ⟨_,z⟩
    . exact absurd (I.sh.free nD) z
    . exact absurd rfl z
 by_cases hk:k < xs.length
 . refine .inr ?_
   have hx:xs[k]? = some xs[k]:=by simp [hk]
   obtain ⟨hgo,hyld⟩:=go k H' xs[k] g1 hx
   refine ⟨hgo,fun v H2 hv=>?_⟩
   obtain ⟨rfl,rv⟩:=hyld v H2 hv
   rw [List.drop_eq_getElem_cons hk] at e1
   obtain ⟨r,y,zs',em,es,e2,rfl⟩:=xn e1
   have I1:SR K cls Av G S₀ ρ σ S' H2:=I.grow ⟨s1,g1,sh1,fun b z=>by
    rcases n1 b z with z | ⟨z,_⟩
    . exact .inl z
    . exact .inr z⟩
   refine he _ G S₀ _ _ S' H2 _ (I1.pick hι (Rep.mono s1 rv)) ?_
   rw [em]
   intro u S2 H3 w2 r2
   obtain ⟨S3,w3,s3,ru⟩:=r2.share w2 es
   have hl2:(zs ++ y ::zs').length <= lim:=hl
   have hSD3:S3 D = none:=by
    cases q:S3 D with
    | none=>rfl
    | some o=>
      rcases w3.new D (by rw [q]; simp) with z | z
      . exact absurd hSD z
      . rw [hD] at z; cases z
   refine ⟨w3.g _ _ hD,?_,m - 1,by omega,by omega,aX,S3,zs ++ [y],zs',s1.trans w3.s,(g1.trans w3.g).upd nD,w3.sh.upd hSD3,fun b z=>?_,(r1.mono w3.s).append (.cons ru .nil),e2,by simp⟩
   . rw [r1.length,<- vY]
     rw [List.length_append,List.length_cons] at hl2
     omega
   . rcases w3.new b z with z | z
     . exact n1 b z
     . refine .inr ⟨g1.free z,fun e=>?_⟩
       rw [e,hD] at z; cases z
 . have hk':k = xs.length:=by omega
   subst hk'
   refine .inl ⟨stop H' g1,?_⟩
   rw [List.drop_length] at e1
   cases e1
   exact hQ D S' H' ⟨s1,g1,sh1,fun b z=>by
    rcases n1 b z with z | ⟨z,_⟩
    . exact .inl z
    . exact .inr z⟩ nD hSD ⟨us,hD,by rw [List.append_nil]; exact r1⟩
theorem xR {tl te:TE} {ml me:aa -> OE} {ι:List Nat} (hι:ι.Nodup) (hl:JE K cls W tl ml) (he:JE K cls (fun _ _ _ _=>False) te me):JE K cls W (nG (rE K tl) ι te) (tG ml ι me):=by
 intro Av G S₀ ρ σ S H Q I p
 refine hl.go I p fun r v S1 H1 I1 w1 r1 p1=>?_
 have ra:=r1.rd I1.sh
 cases e:r.pv with
 | lst xs=>
   rw [e] at p1 ra
   obtain ⟨a,vs,rfl,hq,hr⟩:=gj ra
   refine ⟨a,rfl,⟨vs,hq⟩,?_⟩
   dsimp only at p1
   cases em:dj me (dz ι ρ) xs with
   | exc c fs=>rw [em] at p1; exact p1.elim
   | bad=>rw [em] at p1; exact p1.elim
   | ok ys=>
     rw [em] at p1
     simp only [noX] at p1
     split at p1
     . rename_i hlen
       refine mG hι he I1 em hlen (fun k H' x g hx=>?_) (fun H' g=>⟨vs,az.seq g hq,by rw [hr.length]; exact Nat.le_refl _⟩) fun D S' H' w nD sD ⟨us,hD,rr⟩=>p1 (.ref D) S' H' w ⟨D,us,rfl,nD,sD,hD,rr⟩
       obtain ⟨u,hu,ru⟩:=hr.get hx
       refine ⟨⟨vs,u,az.seq g hq,hu⟩,?_⟩
       rintro v' H2 ⟨rfl,hv⟩
       have:=hv vs (az.seq g hq)
       rw [hu] at this
       cases this
       exact ⟨rfl,ru⟩
     . exact p1.elim
 | _=>rw [e] at p1; exact p1.elim
theorem rW {tn te:TE} {mn me:aa -> OE} {ι:List Nat} (hι:ι.Nodup) (hn:JE K cls W tn mn) (he:JE K cls (fun _ _ _ _=>False) te me):JE K cls W (nG (xq (iI tn jM)) ι te) (ql mn ι me):=by
 intro Av G S₀ ρ σ S H Q I p
 refine hn.go I p fun r v S1 H1 I1 w1 r1 p1=>?_
 have ra:=r1.rd I1.sh
 cases e:r.pv with
 | int j=>
   rw [e] at p1 ra
   have hv:=dA ra
   subst hv
   dsimp only at p1
   split at p1
   . rename_i hj
     refine ⟨j,rfl,hj.1,hj.2,?_⟩
     cases em:dj me (dz ι ρ) (gy j.toNat) with
     | exc c fs=>rw [em] at p1; exact p1.elim
     | bad=>rw [em] at p1; exact p1.elim
     | ok ys=>
       rw [em] at p1
       simp only [noX] at p1
       split at p1
       . rename_i hlen
         have hln:(gy j.toNat).length = j.toNat:=by unfold gy; simp
         refine mG hι he I1 em hlen (fun k H' x g hx=>?_) (fun H' g=>by rw [hln]; exact Nat.le_refl _) fun D S' H' w nD sD ⟨us,hD,rr⟩=>p1 (.ref D) S' H' w ⟨D,us,rfl,nD,sD,hD,rr⟩
         have hk:k < j.toNat:=by rw [<- hln]; exact (List.getElem?_eq_some_iff.mp hx).1
         refine ⟨hk,?_⟩
         rintro v' H2 ⟨rfl,rfl⟩
         refine ⟨rfl,?_⟩
         have:x = .int (k:Int):=by
          unfold gy at hx
          rw [List.getElem?_map,List.getElem?_range hk] at hx
          exact (Option.some.inj hx).symm
         subst this
         unfold Rep
         rw [Int.zero_add]
       . exact p1.elim
   . exact p1.elim
 | _=>rw [e] at p1; exact p1.elim
theorem x9 {i:Nat} {tb:XW -> TS} {T:Addr} {ts:TS} {mb ms:aa -> OS} {takes:String -> Option Bool} (hb:∀ W,JS K cls W (tb W) mb) (hs:JS K cls (fun _ _ _ _=>False) ts ms) (hT:∀ c C b,cls c = some C -> takes c = some b -> pI K T C b):
  JS K cls W (CA K tb T ts (some i) W) (q8 i mb takes ms):=by
 intro Av G S₀ ρ σ S H D I p
 refine hb _ Av G S₀ ρ σ S H D I ?_
 unfold q8 at p
 cases e:mb ρ with
 | exc ρ' c fs=>
   rw [e] at p
   dsimp only at p
   intro a C σ' S' H' I' s' x H2 g2
   cases et:takes c with
   | none=>rw [et] at p; exact p.elim
   | some b=>
     rw [et] at p
     refine ⟨C,b,rfl,hT c C b x.1 et,?_⟩
     have I2:=I'.same g2
     have x2:=x.mono (az.refl _) g2
     cases b with
     | true=>
       refine o1 (hs Av G S₀ _ _ S' H2 _ (I2.Ee (i:=i) x2) ?_)
       dsimp only at p
       cases eo:ms (ρ'.set i (some (.ex c fs))) with
       | exc ρ c fs=>rw [eo] at p; exact p.elim
       | nx ρ=>rw [eo] at p; exact fun σ3 S3 H3 I3 s3=>p (σ3.set i none) S3 H3 I3.uv (s'.trans s3)
       | bk ρ=>rw [eo] at p; exact fun σ3 S3 H3 I3 s3=>p (σ3.set i none) S3 H3 I3.uv (s'.trans s3)
       | ct ρ=>rw [eo] at p; exact fun σ3 S3 H3 I3 s3=>p (σ3.set i none) S3 H3 I3.uv (s'.trans s3)
       | rt ρ r=>rw [eo] at p; exact fun v σ3 S3 H3 I3 s3 r3=>p v σ3 S3 H3 I3 (s'.trans s3) r3
       | bad=>rw [eo] at p; exact p.elim
     | false=>exact oV (p a C σ' S' H2 I2 s' x2)
 | nx ρ'=>rw [e] at p; exact p
 | bk ρ'=>rw [e] at p; exact p
 | ct ρ'=>rw [e] at p; exact p
 | rt ρ' r=>rw [e] at p; exact p
 | bad=>rw [e] at p; exact p
theorem bG.begin {xs:List PV} {vs:List V} (h:bG K S xs vs) (N:List Str) (i:Nat) (s:Sl) (e:(j9 N.length xs)[i]? = some (some s)):∃ x v,s = .sh x /\ (L2.start N vs)[i]? = some (some v) /\ Rep K S x v:=by
 unfold j9 at e
 by_cases hi:i < xs.length
 . rw [List.getElem?_append_left (by simpa using hi),List.getElem?_map] at e
   have hx:xs[i]? = some xs[i]:=by simp [hi]
   rw [hx] at e
   cases e
   obtain ⟨v,hv,r⟩:=h.get hx
   refine ⟨_,v,rfl,?_,r⟩
   unfold L2.start
   rw [List.getElem?_append_left (by rw [List.length_map,h.length]; exact hi),List.getElem?_map,hv]; rfl
 . rw [List.getElem?_append_right (by simpa using hi)] at e
   rw [List.getElem?_replicate] at e
   split at e <;> cases e
theorem Ft {P:Program} {w:World} {mg:Str -> Option Value} {base:Heap} {x qual:Str} {st:Stmt} {f:Addr} {fd:FuncData} {N ps:List Str} {k:Nat} {m:aa -> OS} (F:Fun K x qual st f fd) (Sc:aW N ps (ao st))
  (hbody:∀ (cdv:Value) (A:Around) (outer:List Env) (s:Shared) (H:Hp) (E:XK),fJ k (A.deeper (envOfC qual (ao st) s.heap.objs.size f cdv)) ->
    ∃ t,PSs (lF (CXE P w) P w K mg base N qual (ao st) f cdv A outer s H E) (aT st) t /\ JS K cls (fun C a _ H=>∀ H',az H H' -> E C a H') t m):cy P w K mg base (CXE P w) (k + 1) f fd ps (spP K cls (fnP ps.length N.length m)):=by
 refine okX F Sc (fun vs H Q E h=>?_) fun cdv A outer s H vs Q E hr h=>?_
 . obtain ⟨S,xs,_,r,q⟩:=h
   unfold fnP at q
   split at q
   . rw [r.length]; assumption
   . exact q.elim
 . obtain ⟨S,xs,sS,r,q⟩:=h
   unfold fnP at q
   split at q
   . rename_i hl
     obtain ⟨t,ht,J⟩:=hbody cdv A outer s H E hr
     refine ⟨t,ht,?_⟩
     refine J (fun _=>none) H S (j9 N.length xs) (start N vs) S H _ ⟨fun _=>[],az.refl _,az.refl _,sS,fun _ z=>.inl z,fun i s e=>?_,fun i j a h=>(nomatch h),fun i a h=>(nomatch h),?_⟩ ?_
     . obtain ⟨x,v,rfl,e1,rx⟩:=r.begin N i s e
       exact ⟨v,e1,rfl,rx⟩
     . unfold j9 L2.start
       simp [r.length]
     . cases e:m (j9 N.length xs) with
       | nx ρ'=>rw [e] at q; exact fun σ' S' H' I' s'=>q .non S' H' ⟨I'.s0,I'.gh,I'.sh,I'.new⟩ (by show Rep K S' _ _; unfold Rep; rfl)
       | bk ρ'=>rw [e] at q; exact q.elim
       | ct ρ'=>rw [e] at q; exact q.elim
       | bad=>rw [e] at q; exact q.elim
       | rt ρ' r=>
         rw [e] at q
         cases r with
         | al ys=>exact q.elim
         | sh y=>exact fun v σ' S' H' b' s' rr=>q v S' H' ⟨b'.s0,b'.gh,b'.sh,b'.new⟩ rr
         | fr ys=>exact fun v σ' S' H' b' s' rr=>q v S' H' ⟨b'.s0,b'.gh,b'.sh,b'.new⟩ rr
       | exc ρ' c fs=>
         rw [e] at q
         exact fun a C σ' S' H' I' s' x H2 g2=>q a C S' H2 ⟨I'.s0,I'.gh.trans g2,I'.sh.trans g2,I'.new⟩ (x.mono (az.refl _) g2)
   . exact q.elim
def qf (K:PySem.W.Frag):Sp:=fun vs H Q _=>∃ (a:Addr) (ns:List Int),vs = [.ref a] /\ SqL K H a (ns.map V.int) /\ ns.length <= 63 /\ ∀ H',Q (.bl true) H'
theorem zJ {f:List PV -> OE} (h:∀ ns:List Int,ns.length <= 63 -> f [.lst (ns.map .int)] = .ok (.sh (.bl true))) (vs:List V) (H:Hp) (Q:VK) (E:XK) (q:qf K vs H Q E):spP K cls f vs H Q E:=by
 obtain ⟨a,ns,rfl,hS,hl,q⟩:=q
 refine ⟨H,[.lst (ns.map .int)],az.refl _,.cons (by unfold Rep; exact ⟨a,_,rfl,hS,bG.ints⟩) .nil,?_⟩
 rw [h ns hl]
 intro v S' H' w r
 have:v = .bl true:=by have r':Rep K S' (.bl true) v:=r; unfold Rep at r'; exact r'
 subst this
 exact q H'
end
end L2.P
namespace L2.P
open PySem PySem.Spec PyProof.Rows L2 L2.E
section
variable {K:PySem.W.Frag} {cls:String -> Option Addr} {W:XW} {Av G S₀ S S' H H' B B':Hp} {ρ:aa} {σ:St} {Q:VK}
theorem yD {i:Nat} {te:TE} {me:aa -> OE} {f:Int -> Int -> Int} (he:JE K cls W te me):JS K cls W (yS i te (ipI f)) (o5 i (gI (fun _ _=>true) fun i j=>.int (f i j)) me):=by
 intro Av G S₀ ρ σ S H D I p
 unfold o5 at p
 split at p
 . rename_i x e
   obtain ⟨v,e1,r⟩:=I.good i _ e
   refine ⟨v,e1,he.goS I p fun rr u S1 H1 I1 w1 r1 p1=>?_⟩
   have ra:=r1.rd I1.sh
   cases x with
   | int a=>
     cases eb:rr.pv with
     | int b=>
       rw [eb] at p1 ra
       have r':Rep K S (.int a) v:=r
       unfold Rep at r'
       subst r'
       exact ⟨a,b,rfl,dA ra,p1 _ S1 H1 (I1.su (by unfold Rep; rfl)) (az.refl _)⟩
     | _=>rw [eb] at p1; exact p1.elim
   | _=>cases eb:rr.pv <;> (rw [eb] at p1; exact p1.elim)
 . exact p.elim
theorem gB {i:Nat} {te:TE} {me:aa -> OE} (he:JE K cls W te me):JS K cls W (yS i te (ipI fun i j=>i + j)) (o5 i jn me):=yD he
theorem pA {x:PV} {v:V} (h:RdV K S H x v):decide (v = .non) = b4 x:=by
 cases x with
 | non=>rw [gn h]; rfl
 | bl b=>rw [jC h]; rfl
 | int b=>rw [dA h]; rfl
 | str b=>rw [ij h]; rfl
 | lst xs=>obtain ⟨p,vs,rfl,_⟩:=gj h; rfl
 | tup xs=>obtain ⟨p,vs,rfl,_⟩:=kh h; rfl
theorem jV:JR K (fun x y H Q=>y = .non /\ Q (.bl (decide (x = .non))) H) nQ:=by
 intro S H x y v u rr Q I hx hy e k
 unfold nQ at e
 split at e
 . cases e
   exact ⟨gn hy,k _ S H (bb.refl I) (by rw [pA hx]; exact j6)⟩
 . cases e
theorem qQ:JR K (fun x y H Q=>y = .non /\ Q (.bl (!decide (x = .non))) H) pO:=by
 intro S H x y v u rr Q I hx hy e k
 unfold pO at e
 split at e
 . cases e
   exact ⟨gn hy,k _ S H (bb.refl I) (by rw [pA hx]; exact j6)⟩
 . cases e
end
end L2.P
namespace L2
open PySem PySem.Spec PyProof.Rows
structure QE (X:Cx) (e:Expr) (t:TE):Prop where
 out:PE X e t
structure QA (X:Cx) (es:List Expr) (t:TA):Prop where
 out:PA X es t
structure QS (X:Cx) (st:Stmt) (t:TS):Prop where
 out:PS X st t
structure QSs (X:Cx) (st:List Stmt) (t:TS):Prop where
 out:PSs X st t
structure QT (X:Cx) (e:Expr) (t:TT):Prop where
 out:PT X e t
structure QW (X:Cx) (e:Expr) (t:TT):Prop where
 out:PW X e t
structure QI (X:Cx) (tg e:Expr) (t:TI):Prop where
 out:PI X tg e t
structure QG (X:Cx) (e:Expr) (t:TG):Prop where
 out:PG X e t
structure QO (X:Cx) (e:Option Expr) (t:TO):Prop where
 out:PO X e t
end L2
namespace L2.E
open PySem PySem.Spec PyProof.Rows L2
theorem AH {X:L2.Cx} {b:Bool} {j:Nat} {pos:PySem.Pos}:L2.QE X (PySem.Expr.Constant (PySem.Const.bool b) j pos) (L2.tC (L2.V.bl b)):=⟨L2.Ep ⟩
theorem aA {X:L2.Cx} {i:Int} {j:Nat} {pos:PySem.Pos}:L2.QE X (PySem.Expr.Constant (PySem.Const.int i) j pos) (L2.tC (L2.V.int i)):=⟨L2.Bp ⟩
theorem aF {X:L2.Cx} {x:PySem.Str} {j:Nat} {pos:PySem.Pos}:L2.QE X (PySem.Expr.Constant (PySem.Const.str x) j pos) (L2.tC (L2.V.str x)):=⟨L2.Dh ⟩
theorem b8 {X:L2.Cx} {j:Nat} {pos:PySem.Pos}:L2.QE X (PySem.Expr.Constant PySem.Const.none j pos) (L2.tC L2.V.non):=⟨L2.BY ⟩
theorem qv {X:L2.Cx} (h1:Nat) {x:PySem.Str} {pos:PySem.Pos} (h4:X.N[h1]? = Option.some x:=by first | rfl | decide | exact .inl rfl | exact .inr rfl | exact .inr (.inl rfl) | exact .inr (.inr rfl) | assumption | (intro _; rfl) | with_unfolding_all rfl) (h5:L2.Vis X.env.scope x:=by first | rfl | decide | exact .inl rfl | exact .inr rfl | exact .inr (.inl rfl) | exact .inr (.inr rfl) | assumption | (intro _; rfl) | with_unfolding_all rfl) (h6:(x == PySem.Str.ofString "__debug__") = Bool.false:=by first | rfl | decide | exact .inl rfl | exact .inr rfl | exact .inr (.inl rfl) | exact .inr (.inr rfl) | assumption | (intro _; rfl) | with_unfolding_all rfl) (h7:(x == PySem.Str.ofString "__classdict__") = Bool.false:=by first | rfl | decide | exact .inl rfl | exact .inr rfl | exact .inr (.inl rfl) | exact .inr (.inr rfl) | assumption | (intro _; rfl) | with_unfolding_all rfl):L2.QE X (PySem.Expr.Name x pos) (L2.oN h1):=⟨L2.pv h1 h4 h5 h6 h7⟩
theorem aH {X:L2.Cx} {x:PySem.Str} {v:L2.V} {u:PySem.Value} {pos:PySem.Pos} (h5:L2.Gl X x) (h6:X.mg x = Option.some u) (h7:L2.RelV v u) (h8:(x == PySem.Str.ofString "__debug__") = Bool.false:=by first | rfl | decide | exact .inl rfl | exact .inr rfl | exact .inr (.inl rfl) | exact .inr (.inr rfl) | assumption | (intro _; rfl) | with_unfolding_all rfl):L2.QE X (PySem.Expr.Name x pos) (L2.tC v):=⟨L2.zE h5 h6 h7 h8⟩
theorem qK {X:L2.Cx} {x:PySem.Str} {v:L2.V} {u:PySem.Value} {pos:PySem.Pos} (h5:L2.Gl X x) (h6:X.mg x = Option.none) (h7:PySem.bootBuiltins x = Option.some u) (h8:L2.RelV v u) (h9:x ≠ PySem.Str.ofString "__name__":=by first | rfl | decide | exact .inl rfl | exact .inr rfl | exact .inr (.inl rfl) | exact .inr (.inr rfl) | assumption | (intro _; rfl) | with_unfolding_all rfl) (h10:(x == PySem.Str.ofString "__debug__") = Bool.false:=by first | rfl | decide | exact .inl rfl | exact .inr rfl | exact .inr (.inl rfl) | exact .inr (.inr rfl) | assumption | (intro _; rfl) | with_unfolding_all rfl):L2.QE X (PySem.Expr.Name x pos) (L2.tC v):=⟨L2.y2 h5 h6 h7 h8 h9 h10⟩
theorem Bi {X:L2.Cx} {a:PySem.Expr} {ta:L2.TE} {pos:PySem.Pos} (h4:L2.QE X a ta):L2.QE X (PySem.Expr.UnaryOp PySem.UnaryOp.Not a pos) (L2.vV ta):=⟨L2.Cg h4.out⟩
theorem xJ {X:L2.Cx} {a:PySem.Expr} {ta:L2.TE} {pos:PySem.Pos} {op:PySem.UnaryOp} {r:L2.V -> L2.Hp -> L2.VK -> Prop} (h6:L2.UnR X (PySem.unaryOp op) r) (h7:L2.QE X a ta):L2.QE X (PySem.Expr.UnaryOp op a pos) (L2.tUn r ta):=⟨L2.DN h6 h7.out⟩
theorem dr {X:L2.Cx} {a:PySem.Expr} {b:PySem.Expr} {ta:L2.TE} {tb:L2.TE} {pos:PySem.Pos} {op:PySem.Operator} {r:L2.R2} (h8:L2.OpR X (PySem.binaryOp op) r) (h9:L2.QE X a ta) (h10:L2.QE X b tb):L2.QE X (PySem.Expr.BinOp a op b pos) (L2.tOp r ta tb):=⟨L2.Eg h8 h9.out h10.out⟩
theorem fR {X:L2.Cx} {a:PySem.Expr} {b:PySem.Expr} {ta:L2.TE} {tb:L2.TE} {pos:PySem.Pos} {op:PySem.CmpOp} {r:L2.R2} (h8:L2.OpR X (PySem.compareOp op) r) (h9:L2.QE X a ta) (h10:L2.QE X b tb) (h11:PySem.behindInMarks op b = Bool.false):L2.QE X (PySem.Expr.Compare a [op] [b] pos) (L2.tOp r ta tb):=⟨L2.y4 h8 h9.out h10.out h11⟩
theorem ye {X:L2.Cx} {a:PySem.Expr} {b:PySem.Expr} {c:PySem.Expr} {ta:L2.TE} {tb:L2.TE} {tc:L2.TE} {pos:PySem.Pos} {op:PySem.CmpOp} {op':PySem.CmpOp} {r:L2.R2} {r':L2.R2} (h12:L2.OpR X (PySem.compareOp op) r) (h13:L2.OpR X (PySem.compareOp op') r') (h14:L2.QE X a ta) (h15:L2.QE X b tb) (h16:L2.QE X c tc) (h17:PySem.lastMarks [op,op'] [b,c] = Bool.false:=by first | rfl | decide | exact .inl rfl | exact .inr rfl | exact .inr (.inl rfl) | exact .inr (.inr rfl) | assumption | (intro _; rfl) | with_unfolding_all rfl):L2.QE X (PySem.Expr.Compare a [op,op'] [b,c] pos) (L2.nM r r' ta tb tc):=⟨L2.xf h12 h13 h14.out h15.out h16.out h17⟩
theorem oQ {X:L2.Cx} {a:PySem.Expr} {pos:PySem.Pos} {op:PySem.BoolOp} {t:L2.TE} (h5:L2.QE X a t):L2.QE X (PySem.Expr.BoolOp op [a] pos) t:=⟨L2.B5 h5.out⟩
theorem mi {X:L2.Cx} {a:PySem.Expr} {b:PySem.Expr} {ta:L2.TE} {tb:L2.TE} {pos:PySem.Pos} {rest:List PySem.Expr} (h7:L2.QE X a ta) (h8:L2.QE X (PySem.Expr.BoolOp PySem.BoolOp.And (b ::rest) pos) tb):L2.QE X (PySem.Expr.BoolOp PySem.BoolOp.And (a ::b ::rest) pos) (L2.x5 ta tb):=⟨L2.C6 h7.out h8.out⟩
theorem Ei {X:L2.Cx} {a:PySem.Expr} {b:PySem.Expr} {ta:L2.TE} {tb:L2.TE} {pos:PySem.Pos} {rest:List PySem.Expr} (h7:L2.QE X a ta) (h8:L2.QE X (PySem.Expr.BoolOp PySem.BoolOp.Or (b ::rest) pos) tb):L2.QE X (PySem.Expr.BoolOp PySem.BoolOp.Or (a ::b ::rest) pos) (L2.BX ta tb):=⟨L2.DU h7.out h8.out⟩
theorem dB {X:L2.Cx} {a:PySem.Expr} {b:PySem.Expr} {ta:L2.TE} {tb:L2.TE} {pos:PySem.Pos} {tA:L2.TT} {c:PySem.Expr} (h8:L2.QT X c tA) (h9:L2.QE X a ta) (h10:L2.QE X b tb):L2.QE X (PySem.Expr.IfExp c a b pos) (L2.tIf tA ta tb):=⟨L2.yp h8.out h9.out h10.out⟩
theorem bu {X:L2.Cx} {es:List PySem.Expr} {t:L2.TA} {pos:PySem.Pos} (h4:L2.QA X es t):L2.QE X (PySem.Expr.List es pos) (L2.Cu t):=⟨L2.By h4.out⟩
theorem dJ {X:L2.Cx} {es:List PySem.Expr} {t:L2.TA} {pos:PySem.Pos} {x1:Nat} (h5:L2.QA X es t):L2.QE X (PySem.Expr.Tuple es x1 pos) (L2.Dj t):=⟨L2.Bl h5.out⟩
theorem yb {X:L2.Cx} {e:PySem.Expr} {te:L2.TE} {lo:Option PySem.Expr} {hi:Option PySem.Expr} {tl:L2.TO} {th:L2.TO} {pos:PySem.Pos} {p2:PySem.Pos} {r:L2.V -> Option Int -> Option Int -> L2.Hp -> L2.VK -> Prop} (h10:L2.SlR X r) (h11:L2.QE X e te) (h12:L2.QO X lo tl) (h13:L2.QO X hi th):L2.QE X (PySem.Expr.Subscript e (PySem.Expr.Slice lo hi Option.none p2) pos) (L2.tSl r te tl th):=⟨L2.yk h10 h11.out h12.out h13.out⟩
theorem eh {X:L2.Cx} {a:PySem.Expr} {b:PySem.Expr} {ta:L2.TE} {tb:L2.TE} {pos:PySem.Pos} {r:L2.R2} (h7:L2.IxR X r) (h8:L2.QE X a ta) (h9:L2.QE X b tb) (h10:L2.uw b):L2.QE X (PySem.Expr.Subscript a b pos) (L2.tOp r ta tb):=⟨L2.D4 h7 h8.out h9.out h10⟩
theorem qH {X:L2.Cx} {scope:PySem.Scope} {cl:List (PySem.Str × PySem.Addr)} {M:List PySem.Str} {ι:List Nat} {x:PySem.Str} {elt:PySem.Expr} {iter:PySem.Expr} {px:PySem.Pos} {pos:PySem.Pos} {wi:L2.TI} {te:L2.TE} (h12:L2.E.jx X scope cl M ι x) (h13:X.calm = Bool.true) (h14:L2.QI X (PySem.Expr.Name x px) iter wi) (h15:∀ (C:PySem.Addr) (s₀:PySem.Shared) (H₀:L2.Hp) (ex:List PySem.Addr),L2.QE (L2.E.blk X scope cl (M ++ [x]) C s₀ H₀ ex) elt te) (h16:∀ (v:PySem.Value),PySem.foldedSetIterable iter X.env v = Pure.pure v:=by first | rfl | decide | exact .inl rfl | exact .inr rfl | exact .inr (.inl rfl) | exact .inr (.inr rfl) | assumption | (intro _; rfl) | with_unfolding_all rfl):L2.QE X (PySem.Expr.ListComp elt [PySem.Comprehension.mk (PySem.Expr.Name x px) iter [] 0] scope pos) (L2.E.nG wi ι te):=⟨L2.E.zY h12 h13 h14.out (fun z0 z1 z2 z3=>(h15 z0 z1 z2 z3).out) h16⟩
theorem aN {X:L2.Cx} {k:Nat} {f:PySem.Addr} {fd:PySem.FuncData} {ps:List PySem.Str} {sp:L2.Sp} {dvs:List L2.V} {ds:List PySem.Value} {W:L2.E.XW} {x:PySem.Str} {p:PySem.Pos} {pos:PySem.Pos} {e:PySem.Expr} {es:List PySem.Expr} {t:L2.TA} (h15:L2.cy X.prog X.w X.K X.mg X.base (L2.E.CXE X.prog X.w) k f fd ps sp) (h16:L2.fJ k X.A) (h17:L2.Gl X x) (h18:X.mg x = Option.some (PySem.Value.ref f)) (h19:PySem.W.keepIn X.K (PySem.Value.ref f) = Bool.true) (h20:L2.Binds X.K fd ps ds) (h21:L2.Vals dvs ds) (h22:L2.E.Thr X W) (h23:L2.QA X (e ::es) t) (h24:(x == PySem.Str.ofString "__debug__") = Bool.false:=by first | rfl | decide | exact .inl rfl | exact .inr rfl | exact .inr (.inl rfl) | exact .inr (.inr rfl) | assumption | (intro _; rfl) | with_unfolding_all rfl) (h25:PySem.starEach (e ::es) X.env = (Bool.false,PySem.eval e X.env) ::PySem.starEach es X.env:=by first | rfl | decide | exact .inl rfl | exact .inr rfl | exact .inr (.inl rfl) | exact .inr (.inr rfl) | assumption | (intro _; rfl) | with_unfolding_all rfl) (h26:(List.any (PySem.backTo pos (PySem.starEach es X.env)) fun x=>x.fst) = Bool.false:=by first | rfl | decide | exact .inl rfl | exact .inr rfl | exact .inr (.inl rfl) | exact .inr (.inr rfl) | assumption | (intro _; rfl) | with_unfolding_all rfl):L2.QE X (PySem.Expr.Call (PySem.Expr.Name x p) (e ::es) [] pos) (L2.E.oG sp dvs W t):=⟨L2.E.wD h15 h16 h17 h18 h19 h20 h21 h22 h23.out h24 h25 h26⟩
theorem df {X:L2.Cx} {x:PySem.Str} {p:PySem.Pos} {pos:PySem.Pos} {e:PySem.Expr} {es:List PySem.Expr} {t:L2.TA} {id:String} {r:List L2.V -> L2.Hp -> L2.VK -> Prop} (h9:L2.m3 X (PySem.Value.builtin id) r) (h10:L2.Gl X x) (h11:X.mg x = Option.none) (h12:PySem.bootBuiltins x = Option.some (PySem.Value.builtin id)) (h13:L2.QA X (e ::es) t) (h14:x ≠ PySem.Str.ofString "__name__":=by first | rfl | decide | exact .inl rfl | exact .inr rfl | exact .inr (.inl rfl) | exact .inr (.inr rfl) | assumption | (intro _; rfl) | with_unfolding_all rfl) (h15:(x == PySem.Str.ofString "__debug__") = Bool.false:=by first | rfl | decide | exact .inl rfl | exact .inr rfl | exact .inr (.inl rfl) | exact .inr (.inr rfl) | assumption | (intro _; rfl) | with_unfolding_all rfl) (h16:PySem.starEach (e ::es) X.env = (Bool.false,PySem.eval e X.env) ::PySem.starEach es X.env:=by first | rfl | decide | exact .inl rfl | exact .inr rfl | exact .inr (.inl rfl) | exact .inr (.inr rfl) | assumption | (intro _; rfl) | with_unfolding_all rfl) (h17:(List.any (PySem.backTo pos (PySem.starEach es X.env)) fun x=>x.fst) = Bool.false:=by first | rfl | decide | exact .inl rfl | exact .inr rfl | exact .inr (.inl rfl) | exact .inr (.inr rfl) | assumption | (intro _; rfl) | with_unfolding_all rfl):L2.QE X (PySem.Expr.Call (PySem.Expr.Name x p) (e ::es) [] pos) (L2.tCB r t):=⟨L2.xF h9 h10 h11 h12 h13.out h14 h15 h16 h17⟩
theorem vq {X:L2.Cx} {x:PySem.Str} {p:PySem.Pos} {pos:PySem.Pos} {e:PySem.Expr} {es:List PySem.Expr} {t:L2.TA} {T:String} {r:List L2.V -> L2.Hp -> L2.VK -> Prop} (h9:L2.m3 X (PySem.Value.type T) r) (h10:L2.Gl X x) (h11:X.mg x = Option.none) (h12:PySem.bootBuiltins x = Option.some (PySem.Value.type T)) (h13:L2.QA X (e ::es) t) (h14:x ≠ PySem.Str.ofString "__name__":=by first | rfl | decide | exact .inl rfl | exact .inr rfl | exact .inr (.inl rfl) | exact .inr (.inr rfl) | assumption | (intro _; rfl) | with_unfolding_all rfl) (h15:(x == PySem.Str.ofString "__debug__") = Bool.false:=by first | rfl | decide | exact .inl rfl | exact .inr rfl | exact .inr (.inl rfl) | exact .inr (.inr rfl) | assumption | (intro _; rfl) | with_unfolding_all rfl) (h16:PySem.starEach (e ::es) X.env = (Bool.false,PySem.eval e X.env) ::PySem.starEach es X.env:=by first | rfl | decide | exact .inl rfl | exact .inr rfl | exact .inr (.inl rfl) | exact .inr (.inr rfl) | assumption | (intro _; rfl) | with_unfolding_all rfl) (h17:(List.any (PySem.backTo pos (PySem.starEach es X.env)) fun x=>x.fst) = Bool.false:=by first | rfl | decide | exact .inl rfl | exact .inr rfl | exact .inr (.inl rfl) | exact .inr (.inr rfl) | assumption | (intro _; rfl) | with_unfolding_all rfl):L2.QE X (PySem.Expr.Call (PySem.Expr.Name x p) (e ::es) [] pos) (L2.tCB r t):=⟨L2.vx h9 h10 h11 h12 h13.out h14 h15 h16 h17⟩
theorem oy {X:L2.Cx} {o:PySem.Expr} {e:PySem.Expr} {es:List PySem.Expr} {to:L2.TE} {t:L2.TA} {name:PySem.Str} {apos:PySem.Pos} {cpos:PySem.Pos} {T:String} {id:String} {r:L2.V -> List L2.V -> L2.Hp -> L2.VK -> Prop} (h12:PySem.PlainAttrs T) (h13:PySem.Slot T name id) (h14:PySem.typeOf (PySem.Value.builtin id) = Pure.pure (PySem.Value.type "method_descriptor")) (h15:L2.MtR X id r) (h16:L2.QE X o to) (h17:L2.QA X (e ::es) t) (h18:PySem.attributeBase o name X.env (PySem.eval o X.env) = PySem.eval o X.env:=by first | rfl | decide | exact .inl rfl | exact .inr rfl | exact .inr (.inl rfl) | exact .inr (.inr rfl) | assumption | (intro _; rfl) | with_unfolding_all rfl) (h19:(((List.all (PySem.backTo cpos (PySem.starEach (e ::es) X.env)) fun x=>!x.fst) && List.all (PySem.backToKw cpos (PySem.keywordEach [] X.env)) fun x=>Option.isSome x.fst) && Decidable.decide ((List.length (e ::es) + List.length ([]:List Keyword) + if List.isEmpty ([]:List Keyword) = Bool.true then 0 else 1) < 30)) = Bool.true:=by first | rfl | decide | exact .inl rfl | exact .inr rfl | exact .inr (.inl rfl) | exact .inr (.inr rfl) | assumption | (intro _; rfl) | with_unfolding_all rfl) (h20:(apos.endLine == cpos.line) = Bool.true:=by first | rfl | decide | exact .inl rfl | exact .inr rfl | exact .inr (.inl rfl) | exact .inr (.inr rfl) | assumption | (intro _; rfl) | with_unfolding_all rfl) (h21:PySem.starEach (e ::es) X.env = (Bool.false,PySem.eval e X.env) ::PySem.starEach es X.env:=by first | rfl | decide | exact .inl rfl | exact .inr rfl | exact .inr (.inl rfl) | exact .inr (.inr rfl) | assumption | (intro _; rfl) | with_unfolding_all rfl) (h22:(List.any (PySem.backTo cpos (PySem.starEach es X.env)) fun x=>x.fst) = Bool.false:=by first | rfl | decide | exact .inl rfl | exact .inr rfl | exact .inr (.inl rfl) | exact .inr (.inr rfl) | assumption | (intro _; rfl) | with_unfolding_all rfl):L2.QE X (PySem.Expr.Call (PySem.Expr.Attribute o name apos) (e ::es) [] cpos) (L2.tBM X.K T r to t):=⟨L2.D5 h12 h13 h14 h15 h16.out h17.out h18 h19 h20 h21 h22⟩
theorem xv {X:L2.Cx} {o:PySem.Expr} {to:L2.TE} {name:PySem.Str} {apos:PySem.Pos} {cpos:PySem.Pos} {T:String} {id:String} {r:L2.V -> List L2.V -> L2.Hp -> L2.VK -> Prop} (h9:PySem.PlainAttrs T) (h10:PySem.Slot T name id) (h11:PySem.typeOf (PySem.Value.builtin id) = Pure.pure (PySem.Value.type "method_descriptor")) (h12:L2.MtR X id r) (h13:L2.QE X o to) (h14:PySem.attributeBase o name X.env (PySem.eval o X.env) = PySem.eval o X.env:=by first | rfl | decide | exact .inl rfl | exact .inr rfl | exact .inr (.inl rfl) | exact .inr (.inr rfl) | assumption | (intro _; rfl) | with_unfolding_all rfl) (h15:(apos.endLine == cpos.line) = Bool.true:=by first | rfl | decide | exact .inl rfl | exact .inr rfl | exact .inr (.inl rfl) | exact .inr (.inr rfl) | assumption | (intro _; rfl) | with_unfolding_all rfl):L2.QE X (PySem.Expr.Call (PySem.Expr.Attribute o name apos) [] [] cpos) (L2.Bn X.K T r to):=⟨L2.BQ h9 h10 h11 h12 h13.out h14 h15⟩
theorem yG {X:L2.Cx}:L2.QO X Option.none L2.qI:=⟨L2.zt ⟩
theorem Ak {X:L2.Cx} {e:PySem.Expr} {te:L2.TE} (h3:L2.QE X e te):L2.QO X (Option.some e) (L2.xW te):=⟨L2.zI h3.out⟩
theorem aj {X:L2.Cx}:L2.QA X [] L2.jM:=⟨L2.Bo ⟩
theorem ae {X:L2.Cx} {e:PySem.Expr} {es:List PySem.Expr} {te:L2.TE} {t:L2.TA} (h5:L2.QE X e te) (h6:L2.QA X es t) (h7:L2.E.isStar e = Bool.false:=by first | rfl | decide | exact .inl rfl | exact .inr rfl | exact .inr (.inl rfl) | exact .inr (.inr rfl) | assumption | (intro _; rfl) | with_unfolding_all rfl):L2.QA X (e ::es) (L2.iI te t):=⟨L2.E.wZ h5.out h6.out h7⟩
theorem aD {X:L2.Cx} {a:PySem.Expr} {b:PySem.Expr} {ta:L2.TE} {tb:L2.TE} {pos:PySem.Pos} {op:PySem.CmpOp} {r:L2.R2} (h8:L2.OpR X (PySem.compareOp op) r) (h9:L2.QE X a ta) (h10:L2.QE X b tb) (h11:PySem.behindInMarks op b = Bool.false):L2.QT X (PySem.Expr.Compare a [op] [b] pos) (L2.rF (L2.tOp r ta tb)):=⟨L2.zo h8 h9.out h10.out h11⟩
theorem ig {X:L2.Cx} {a:PySem.Expr} {b:PySem.Expr} {c:PySem.Expr} {ta:L2.TE} {tb:L2.TE} {tc:L2.TE} {pos:PySem.Pos} {op:PySem.CmpOp} {op':PySem.CmpOp} {r:L2.R2} {r':L2.R2} (h12:L2.OpR X (PySem.compareOp op) r) (h13:L2.OpR X (PySem.compareOp op') r') (h14:L2.QE X a ta) (h15:L2.QE X b tb) (h16:L2.QE X c tc) (h17:PySem.lastMarks [op,op'] [b,c] = Bool.false:=by first | rfl | decide | exact .inl rfl | exact .inr rfl | exact .inr (.inl rfl) | exact .inr (.inr rfl) | assumption | (intro _; rfl) | with_unfolding_all rfl):L2.QT X (PySem.Expr.Compare a [op,op'] [b,c] pos) (L2.rF (L2.nM r r' ta tb tc)):=⟨L2.xG h12 h13 h14.out h15.out h16.out h17⟩
theorem ua {X:L2.Cx} {a:PySem.Expr} {pos:PySem.Pos} {tA:L2.TT} (h4:L2.QT X a tA):L2.QT X (PySem.Expr.UnaryOp PySem.UnaryOp.Not a pos) (L2.Al tA):=⟨L2.B4 h4.out⟩
theorem dR {X:L2.Cx} {a:PySem.Expr} {ta:L2.TE} (h3:L2.QE X a ta) (h4:∀ (whole:PySem.Sem PySem.Value),
 PySem.isTrue a X.env whole = do
  let v <- whole
  PySem.standAt (PySem.Expr.pos a)
  PySem.holding [v] (PySem.truthy v)):L2.QT X a fun σ H Q=>ta σ H fun x H'=>∃ k,L2.sN X.K x H' k /\ Q k H':=⟨L2.vW h3.out h4⟩
theorem rZ {X:L2.Cx} {e:PySem.Expr} {t:L2.TT} (h3:L2.QW X e t):L2.QT X e t:=⟨L2.PW.pt h3.out⟩
theorem pY {X:L2.Cx} {a:PySem.Expr} {pos:PySem.Pos} {tA:L2.TT} (h4:L2.QT X a tA):L2.QW X (PySem.Expr.BoolOp PySem.BoolOp.And [a] pos) tA:=⟨L2.zH h4.out⟩
theorem v8 {X:L2.Cx} {a:PySem.Expr} {pos:PySem.Pos} {tA:L2.TT} (h4:L2.QT X a tA):L2.QW X (PySem.Expr.BoolOp PySem.BoolOp.Or [a] pos) tA:=⟨L2.CJ h4.out⟩
theorem p9 {X:L2.Cx} {a:PySem.Expr} {b:PySem.Expr} {pos:PySem.Pos} {tA:L2.TT} {tB':L2.TT} {rest:List PySem.Expr} (h7:L2.QT X a tA) (h8:L2.QW X (PySem.Expr.BoolOp PySem.BoolOp.And (b ::rest) pos) tB'):L2.QW X (PySem.Expr.BoolOp PySem.BoolOp.And (a ::b ::rest) pos) (L2.Bm tA tB'):=⟨L2.BH h7.out h8.out⟩
theorem Ap {X:L2.Cx} {a:PySem.Expr} {b:PySem.Expr} {pos:PySem.Pos} {tA:L2.TT} {tB':L2.TT} {rest:List PySem.Expr} (h7:L2.QT X a tA) (h8:L2.QW X (PySem.Expr.BoolOp PySem.BoolOp.Or (b ::rest) pos) tB'):L2.QW X (PySem.Expr.BoolOp PySem.BoolOp.Or (a ::b ::rest) pos) (L2.tOr tA tB'):=⟨L2.DX h7.out h8.out⟩
theorem pD {X:L2.Cx} {tg:PySem.Expr} {a:PySem.Expr} {ta:L2.TA} {p:PySem.Pos} {pos:PySem.Pos} (h6:L2.Gl X (PySem.Str.ofString "range")) (h7:X.mg (PySem.Str.ofString "range") = Option.none) (h8:L2.QA X [a] ta) (h9:PySem.starEach [a] X.env = [(Bool.false,PySem.eval a X.env)]:=by first | rfl | decide | exact .inl rfl | exact .inr rfl | exact .inr (.inl rfl) | exact .inr (.inr rfl) | assumption | (intro _; rfl) | with_unfolding_all rfl):L2.QI X tg (PySem.Expr.Call (PySem.Expr.Name (PySem.Str.ofString "range") p) [a] [] pos) (L2.xq ta):=⟨L2.vL h6 h7 h8.out h9⟩
theorem qz {X:L2.Cx} {tg:PySem.Expr} {l:PySem.Expr} {tl:L2.TE} (h4:L2.QE X l tl):L2.QI X tg l (L2.rE X.K tl):=⟨L2.yM h4.out⟩
theorem Di {X:L2.Cx} {tg:PySem.Expr} {l:PySem.Expr} {tl:L2.TE} (h4:L2.QE X l tl):L2.QI X tg l (L2.CB X.K tl):=⟨L2.CV h4.out⟩
theorem b7 {X:L2.Cx} {pos:PySem.Pos} {i:Nat} {x:PySem.Str} {e:PySem.Expr} {te:L2.TE} {pos':PySem.Pos} (h7:List.Nodup X.N) (h8:X.N[i]? = Option.some x) (h9:L2.Loc X.env.scope x) (h10:L2.QE X e te) (h11:PySem.swapsWith e (Option.some (PySem.Expr.Name x pos')) pos.line X.env = Pure.pure Bool.false:=by first | rfl | decide | exact .inl rfl | exact .inr rfl | exact .inr (.inl rfl) | exact .inr (.inr rfl) | assumption | (intro _; rfl) | with_unfolding_all rfl) (h12:X.fn x = Bool.true \/ List.lookup x X.env.scope.names = Option.some PySem.NameKind.local:=by first | rfl | decide | exact .inl rfl | exact .inr rfl | exact .inr (.inl rfl) | exact .inr (.inr rfl) | assumption | (intro _; rfl) | with_unfolding_all rfl):L2.QS X (PySem.Stmt.Assign [PySem.Expr.Name x pos'] e pos) (L2.oW te (L2.iE i)):=⟨L2.CQ h7 h8 h9 h10.out h11 h12⟩
theorem CY {X:L2.Cx} {pos:PySem.Pos} {tg:PySem.Expr} {e:PySem.Expr} {te:L2.TE} {g:L2.TG} (h6:L2.QE X e te) (h7:L2.QG X tg g) (h8:PySem.swapsWithSole [tg] e pos.line X.env = Pure.pure Bool.false:=by first | rfl | decide | exact .inl rfl | exact .inr rfl | exact .inr (.inl rfl) | exact .inr (.inr rfl) | assumption | (intro _; rfl) | with_unfolding_all rfl) (h9:PySem.swappedStores [tg] e X.env = Pure.pure Option.none:=by first | rfl | decide | exact .inl rfl | exact .inr rfl | exact .inr (.inl rfl) | exact .inr (.inr rfl) | assumption | (intro _; rfl) | with_unfolding_all rfl) (h10:List.map (fun x=>x.snd) (PySem.assignEach [tg] X.env) = [PySem.assign tg X.env]:=by first | rfl | decide | exact .inl rfl | exact .inr rfl | exact .inr (.inl rfl) | exact .inr (.inr rfl) | assumption | (intro _; rfl) | with_unfolding_all rfl):L2.QS X (PySem.Stmt.Assign [tg] e pos) (L2.oW te g):=⟨L2.Bc h6.out h7.out h8 h9 h10⟩
theorem mQ {X:L2.Cx} {pos:PySem.Pos} {i:Nat} {x:PySem.Str} {e:PySem.Expr} {te:L2.TE} {op:PySem.Operator} {ti:L2.TIp} {pos':PySem.Pos} (h9:List.Nodup X.N) (h10:X.N[i]? = Option.some x) (h11:L2.Loc X.env.scope x) (h12:L2.QE X e te) (h13:L2.PIp X op ti) (h14:X.fn x = Bool.true \/ List.lookup x X.env.scope.names = Option.some PySem.NameKind.local:=by first | rfl | decide | exact .inl rfl | exact .inr rfl | exact .inr (.inl rfl) | exact .inr (.inr rfl) | assumption | (intro _; rfl) | with_unfolding_all rfl):L2.QS X (PySem.Stmt.AugAssign (PySem.Expr.Name x pos') op e pos) (L2.yS i te ti):=⟨L2.Bt h9 h10 h11 h12.out h13 h14⟩
theorem bw {X:L2.Cx} {t:L2.TS} {u:L2.TS} {pos:PySem.Pos} {c:PySem.Expr} {a:List PySem.Stmt} {b:List PySem.Stmt} {tc:L2.TT} (h8:L2.QT X c tc) (h9:L2.QSs X a t) (h10:L2.QSs X b u):L2.QS X (PySem.Stmt.If c a b pos) (L2.Am tc t u):=⟨L2.DI h8.out h9.out h10.out⟩
theorem aB {X:L2.Cx} {e:PySem.Expr} {te:L2.TE} {pos:PySem.Pos} (h4:L2.QE X e te):L2.QS X (PySem.Stmt.Return (Option.some e) pos) (L2.yK te):=⟨L2.CZ h4.out⟩
theorem hR {X:L2.Cx} {e:PySem.Expr} {te:L2.TE} {pos:PySem.Pos} (h4:L2.QE X e te) (h5:PySem.swapsWith e Option.none pos.line X.env = Pure.pure Bool.false:=by first | rfl | decide | exact .inl rfl | exact .inr rfl | exact .inr (.inl rfl) | exact .inr (.inr rfl) | assumption | (intro _; rfl) | with_unfolding_all rfl):L2.QS X (PySem.Stmt.Expr e pos) (L2.pL te):=⟨L2.zO h4.out h5⟩
theorem jQ {X:L2.Cx} {pos:PySem.Pos} {c:PySem.Expr} {body:List PySem.Stmt} {tc:L2.TT} {tb:L2.TS} (h6:PySem.PassesOwn (PySem.model X.prog X.w) X.A X.env X.xe) (h7:L2.QT X c tc) (h8:L2.QSs X body tb):L2.QS X (PySem.Stmt.While c body [] pos) (L2.tS tc tb):=⟨L2.wB h6 h7.out h8.out⟩
theorem ug {X:L2.Cx} {tg:PySem.Expr} {iter:PySem.Expr} {body:List PySem.Stmt} {wi:L2.TI} {g:L2.TG} {tb:L2.TS} {pos:PySem.Pos} (h8:PySem.PassesOwn (PySem.model X.prog X.w) X.A X.env X.xe) (h9:X.calm = Bool.true) (h10:L2.QI X tg iter wi) (h11:L2.QG X tg g) (h12:L2.QSs X body tb) (h13:∀ (x:PySem.Value),PySem.foldedSetIterable iter X.env x = Pure.pure x:=by first | rfl | decide | exact .inl rfl | exact .inr rfl | exact .inr (.inl rfl) | exact .inr (.inr rfl) | assumption | (intro _; rfl) | with_unfolding_all rfl):L2.QS X (PySem.Stmt.For tg iter body [] pos) (L2.wu wi g tb):=⟨L2.C3 h8 h9 h10.out h11.out h12.out h13⟩
theorem wz {X:L2.Cx} {x:PySem.Str} {n:PySem.Str} {np:PySem.Pos} {hpos:PySem.Pos} {pos:PySem.Pos} {body:List PySem.Stmt} {suite:List PySem.Stmt} {b₀:PySem.Stmt} {tb:L2.E.XW -> L2.TS} {ts:L2.TS} {T:PySem.Addr} {W₀:L2.E.XW} {i:Nat} (h14:X.stack = X.env ::X.outer /\ X.env.frame = Option.some X.env.locals) (h15:List.Nodup X.N) (h16:X.N[i]? = Option.some n) (h17:List.lookup n X.env.scope.names = Option.some PySem.NameKind.local) (h18:∀ (pn:List (PySem.Addr × PySem.Obj)) (xe:PySem.Value -> PySem.Shared -> Prop) (W:L2.E.XW),L2.E.Thr (L2.E.nY X pn xe) W -> PySem.PassesOwn (PySem.model X.prog X.w) X.A X.env xe -> L2.QSs (L2.E.nY X pn xe) body (tb W)) (h19:L2.Gl X x) (h20:X.mg x = Option.some (PySem.Value.ref T)) (h21:∀ (a:PySem.Addr),L2.QSs (L2.E.hand X a) (b₀ ::suite) ts) (h22:L2.E.Thr X W₀) (h23:(x == PySem.Str.ofString "__debug__") = Bool.false:=by first | rfl | decide | exact .inl rfl | exact .inr rfl | exact .inr (.inl rfl) | exact .inr (.inr rfl) | assumption | (intro _; rfl) | with_unfolding_all rfl):L2.QS X (PySem.Stmt.Try body [PySem.ExceptHandler.ExceptHandler (Option.some (PySem.Expr.Name x np)) (Option.some n) (b₀ ::suite) hpos] [] [] pos) (L2.E.CA X.K tb T ts (Option.some i) W₀):=⟨L2.E.xE h14 h15 h16 h17 (fun z0 z1 z2 z3 z4=>(h18 z0 z1 z2 z3 z4).out) h19 h20 (fun z0=>(h21 z0).out) h22 h23⟩
theorem nA {X:L2.Cx} {pos:PySem.Pos} {i:Nat} {x:PySem.Str} (h4:List.Nodup X.N) (h5:X.N[i]? = Option.some x) (h6:L2.Loc X.env.scope x) (h7:X.fn x = Bool.true \/ List.lookup x X.env.scope.names = Option.some PySem.NameKind.local:=by first | rfl | decide | exact .inl rfl | exact .inr rfl | exact .inr (.inl rfl) | exact .inr (.inr rfl) | assumption | (intro _; rfl) | with_unfolding_all rfl):L2.QG X (PySem.Expr.Name x pos) (L2.iE i):=⟨L2.Ag h4 h5 h6 h7⟩
theorem aK {X:L2.Cx}:L2.QSs X [] L2.yg:=⟨L2.yB ⟩
theorem ak {X:L2.Cx} {st:PySem.Stmt} {t:L2.TS} (h3:L2.QS X st t):L2.QSs X [st] t:=⟨L2.u1 h3.out⟩
theorem ah {X:L2.Cx} {st:PySem.Stmt} {rest:List PySem.Stmt} {t:L2.TS} {u:L2.TS} (h5:L2.QS X st t) (h6:L2.QSs X rest u):L2.QSs X (st ::rest) (L2.CT t u):=⟨L2.xT h5.out h6.out⟩
end L2.E
namespace L2.P
open PySem PySem.Spec PyProof.Rows L2 L2.E
theorem fG {K:PySem.W.Frag} {cls:String -> Option Addr} {P:Program} {w:World} {mg:Str -> Option Value} {base:Heap} {x qual:Str} {st:Stmt} {f:Addr} {fd:FuncData} {N ps:List Str} {k:Nat} {m:aa -> OS} (F:Fun K x qual st f fd) (Sc:aW N ps (ao st))
  (hbody:∀ (cdv:Value) (A:Around) (outer:List Env) (s:Shared) (H:Hp) (E:XK),fJ k (A.deeper (envOfC qual (ao st) s.heap.objs.size f cdv)) ->
    ∃ t,QSs (lF (CXE P w) P w K mg base N qual (ao st) f cdv A outer s H E) (aT st) t /\ JS K cls (fun C a _ H=>∀ H',az H H' -> E C a H') t m):cy P w K mg base (CXE P w) (k + 1) f fd ps (spP K cls (fnP ps.length N.length m)):=
 Ft F Sc fun cdv A outer s H E hr=>let ⟨t,h1,h2⟩:=hbody cdv A outer s H E hr; ⟨t,h1.out,h2⟩
end L2.P
namespace L2.E
open PySem PySem.Spec PyProof.Rows L2
end L2.E
namespace L2.P
open PySem PySem.Spec PyProof.Rows L2 L2.E
end L2.P
namespace L2.E
open PySem PySem.Spec PyProof.Rows L2
def cV:List Value:=[.type "ValueError",.type "Exception",.type "BaseException",.type "object"]
def cW:List Value -> Bool
 | .ref _ ::r=>cW r
 | l=>l == cV
theorem jr {c:Addr} {r:List Value}:cW (.ref c ::r) = cW r:=by simp [cW]
theorem la:∀ {l:List Value},cW l = true -> l.contains (.type "object") = true /\ l.contains (.type "BaseException") = true /\ l.isEmpty = false
 | .ref c ::r,e=>by
   rw [jr] at e
   obtain ⟨h1,h2,h3⟩:=la e
   exact ⟨by rw [List.contains_cons,h1,Bool.or_true],by rw [List.contains_cons,h2,Bool.or_true],rfl⟩
 | [],e=>by simp [cW,cV] at e
 | .type n ::r,e=>by
   have e':(Value.type n ::r) = cV:=by simpa [cW] using e
   rw [e']; decide
 | .none ::r,e=>by simp [cW,cV] at e
 | .bool b ::r,e=>by simp [cW,cV] at e
 | .int i t ::r,e=>by simp [cW,cV] at e
 | .str i t ::r,e=>by simp [cW,cV] at e
 | .builtin i ::r,e=>by simp [cW,cV] at e
 | .float i t ::r,e=>by simp [cW,cV] at e
 | .bytes i t ::r,e=>by simp [cW,cV] at e
 | .ellipsis ::r,e=>by simp [cW,cV] at e
theorem nP (self:Value):∀ {l:List Value},cW l = true -> refuseLoop self "__setattr__" l = pure ()
 | .ref c ::r,e=>by rw [refuseLoop_ref]; exact nP self (by rw [jr] at e; exact e)
 | [],e=>by simp [cW,cV] at e
 | .type n ::r,e=>by
   have e':(Value.type n ::r) = cV:=by simpa [cW] using e
   rw [e']; exact PySem.F.store_ValueError.passes self
 | .none ::r,e=>by simp [cW,cV] at e
 | .bool b ::r,e=>by simp [cW,cV] at e
 | .int i t ::r,e=>by simp [cW,cV] at e
 | .str i t ::r,e=>by simp [cW,cV] at e
 | .builtin i ::r,e=>by simp [cW,cV] at e
 | .float i t ::r,e=>by simp [cW,cV] at e
 | .bytes i t ::r,e=>by simp [cW,cV] at e
 | .ellipsis ::r,e=>by simp [cW,cV] at e
def n5 (K:PySem.W.Frag) (C:Addr):Bool:=(PySem.W.clsIn K C).any fun cd=>cW cd.mro
structure oA (K:PySem.W.Frag) (C:Addr) (f:Str):Prop where
 hd:PySem.W.hasDictIn K C = true
 mr:n5 K C = true
 sa:PySem.W.findIn K (.ref C) "__setattr__" = some (some (.builtin "object.__setattr__"))
 ga:PySem.W.findIn K (.ref C) "__getattribute__" = some (some (.builtin "BaseException.__getattribute__"))
 gt:PySem.W.findIn K (.ref C) "__getattr__" = some none
 na:PySem.W.findIn K (.ref C) f = some none
section
variable {prog:Program} {w:World} {A:Around} {E:Value -> Shared -> Prop} {s:Shared} {K:PySem.W.Frag} {x C:Addr} {name:Str} {v:Value}
open PySem.W in
theorem F9 {ox:Obj} {od:Option Obj} {tk:Tok} {R:Result -> Shared -> Prop} (X:K.In s.heap) (I:InstAt s.heap x ox C od) (c:oA K C name)
  (h:wpAny (model prog w) A.in1 (Builtin.ObjectAttr.storeInOwnDict (.ref x) (.ref C) (.str name tk) name v false)
    (fun fin s'=>match fin with | .done f=>R (.ok f) s' | .again c'=>c'.quiet = true /\ codeAny (model prog w) A c' R s') (fun e s'=>R (.error e) s') s):
  codeAny (model prog w) A (.call (.builtin "object.__setattr__") ⟨[.ref x,.str name tk,v],[]⟩) R s:=by
 have SF:=PySem.F.store_object
 obtain ⟨cd,hc,ho⟩:=any_some (show (clsIn K C).any (fun cd=>cW cd.mro) = true from c.mr)
 obtain ⟨q1,q2,q3⟩:=la ho
 have sub:Looks (model prog w) s.heap (isInstance (.ref x) (.type "object")) true:=I.type.andThen (looks_mroIn X (by unfold mroIn; rw [hc,Option.bind_some,if_neg (by rw [q3]; decide),q1]))
 refine codeAny_call_builtin SF.slot.plain SF.entry (@check_slot (model prog w) _ _ s "object.__setattr__" "object" "__setattr__" (.ref x) [.str name tk,v] [] _ SF.kind SF.split sub (SF.args (.ref x) (.str name tk) v) ?_)
 have hm:Looks (model prog w) s.heap (mroOf (.ref C)) cd.mro:=(looks_clsIn X hc).andThen .now
 rw [osa_eq,refuse_eq]
 refine wpAny_bind (wpAny_bind (I.type.here (wpAny_bind (hm.here ?_))))
 rw [nP _ ho]
 exact wpAny_pure (wpAny_bind (I.type.here (wpAny_bind ((looks_findIn X c.na).here (wpAny_bind (Looks.here (r:=none) .now h))))))
open PySem.W in
theorem FE {ox:Obj} {vs:Array Value} {Q:Unit -> Shared -> Prop} (X:K.In s.heap) (hx:s.heap.get? x = some ox) (hcls:ox.cls = .ref C) (hdict:ox.dict = none) (hdat:ox.data = .fields vs) (c:oA K C name)
  (h:∀ h',h'.get? x = some { ox with dict:=some s.heap.objs.size } -> h'.Ns1 s.heap.objs.size (fun y=>if y = name then some v else none) -> (∀ b o,b ≠ x -> s.heap.get? b = some o -> h'.get? b = some o) -> Q () { s with heap:=h',toks:=s.toks + 2 }):
  wpAny (model prog w) A (setAttr (.ref x) name v) Q E s:=by
 obtain ⟨oc,odi,oda,osl⟩:=ox
 dsimp only at hcls hdict hdat
 subst hcls hdict hdat
 have I:InstAt s.heap x ⟨.ref C,none,.fields vs,osl⟩ C none:=⟨hx,rfl,rfl,trivial⟩
 refine set_plain X I c.sa (F9 (s:={ s with toks:=s.toks + 1 }) X I c ?_)
 obtain ⟨cd,hc,hd'⟩:=any_some c.hd
 have ne:s.heap.objs.size ≠ x:=Nat.ne_of_gt (Heap.lt_size hx)
 refine wpAny_bind (wpAny_pure (wpAny_bind (wpAny_bind (wpAny_loadPart hx (wpAny_bind (Looks.here (s:={ s with toks:=s.toks + 1 }) (looks_clsIn X hc) ?_))))))
 rw [hd']
 refine wpAny_bind (wpAny_alloc ?_)
 have hx1:(s.heap.push { cls:=.type "dict",data:=.dict #[] }).get? x = some ⟨.ref C,none,.fields vs,osl⟩:=Heap.get?_push_of_some _ hx
 refine wpAny_bind (wpAny_update hx1 ?_)
 refine wpAny_pure (a:=some s.heap.objs.size) (wpAny_bind (wpAny_pure (wpAny_bind ?_)))
 have e1:(s.heap.push { cls:=.type "dict",data:=.dict #[] }).get? s.heap.objs.size = some { cls:=.type "dict",data:=.dict #[] }:=Heap.get?_push_size s.heap rfl
 have e2:((s.heap.push { cls:=.type "dict",data:=.dict #[] }).update x fun o=>{ o with dict:=some s.heap.objs.size }).get? s.heap.objs.size = some { cls:=.type "dict",data:=.dict #[] }:=
  (Heap.get?_update_other _ _ (Ne.symm ne)).trans e1
 have n1:Heap.Ns1 ((s.heap.push { cls:=.type "dict",data:=.dict #[] }).update x fun o=>{ o with dict:=some s.heap.objs.size }) s.heap.objs.size (fun _=>none):=
  Heap.Ns1.of_empty ⟨_,#[],_,e2,rfl,(fun e he=>absurd he (by simp)),fun _=>rfl⟩
 refine wpAny_nsSet1 n1 fun h' hn2 hs2=>?_
 have hw:PySem.Within (fun _=>(none:Option Value)) ([]:List Str):=fun y hy=>absurd rfl hy
 obtain ⟨oD,esD,epD,hoD,hdD,hcD⟩:=hn2.count (PySem.Within.cons name v hw)
 refine wpAny_bind (wpAny_lookBehind hoD (by rw [hdD]; exact pastItsLine_dict (Nat.le_trans hcD (by simp))) ?_)
 have hx2:((s.heap.push { cls:=.type "dict",data:=.dict #[] }).update x fun o=>{ o with dict:=some s.heap.objs.size }).get? x = some ⟨.ref C,some s.heap.objs.size,.fields vs,osl⟩:=
  Heap.get?_update_self _ hx1 rfl
 exact wpAny_pure (h h' ((hs2.2 _ (Ne.symm ne)).trans hx2) hn2 fun b o hb e=>(hs2.2 b (Nat.ne_of_lt (Heap.lt_size e))).trans ((Heap.get?_update_other _ _ (Ne.symm hb)).trans (Heap.get?_push_of_some _ e)))
end
def xI (a C:Addr) (dx:Option Addr) (h:Heap):Prop:=∃ o t,h.get? a = some o /\ o.cls = .ref C /\ o.dict = dx /\ o.data = .fields #[.ref t,.none,.none,.none,.bool false,.none]
abbrev iG (a C:Addr) (dx:Option Addr):HO:=.ext (xI a C dx)
theorem uV {P:Program} {w:World} {H:Hp} {h:Heap} {a C:Addr} {dx:Option Addr} (x:xI a C dx h):gm P w H h a (iG a C dx):=by
 refine ⟨x,let ⟨o,_,e,_⟩:=x; ⟨o,e⟩,fun h1 h2 p k=>?_⟩
 obtain ⟨o,vs,e,r⟩:=p
 exact ⟨o,vs,k o e,r⟩
theorem xI.exc {a C:Addr} {dx:Option Addr} {h:Heap} (x:xI a C dx h):zL a C dx h:=let ⟨o,t,e,c,d,f⟩:=x; ⟨o,_,e,c,d,f,rfl⟩
section
variable {X:Cx} {pins:List (Addr × Obj)} {σ:St} {H:Hp} {s:Shared} {a C:Addr} {f:Str} {A:Around} {E:Value -> Shared -> Prop}
theorem yi {y:V} {u:Value} {Q:Unit -> Shared -> Prop} (I:Inv X pins σ H s) (e:H a = some (iG a C none)) (c:oA X.K C f) (ry:RelV y u)
  (h:∀ s' d,H d = none -> Inv X pins σ (upd (upd H a (iG a C (some d))) d (.xd [(f,y)])) s' -> Q () s'):wpAny (model X.prog X.w) A (setAttr (.ref a) f u) Q E s:=by
 obtain ⟨⟨o,tv,ho,hc,hd,hv⟩,_,_⟩:=I.hok a _ e
 refine FE I.kIn ho hc hd hv c fun h' h1 h2 h3=>?_
 have nd:H s.heap.objs.size = none:=I.hok.fresh (Nat.le_refl _)
 have ned:∀ b ob,s.heap.get? b = some ob -> b ≠ s.heap.objs.size:=fun b ob q=>Nat.ne_of_lt (Heap.lt_size q)
 have nea:s.heap.objs.size ≠ a:=Ne.symm (ned a o ho)
 have off:∀ b,b ≠ a -> b ≠ s.heap.objs.size -> (upd (upd H a (iG a C (some s.heap.objs.size))) s.heap.objs.size (.xd [(f,y)])) b = H b:=fun b q1 q2=>by rw [aO q2,aO q1]
 have na:∀ b ob,H b = some ob -> ob ≠ iG a C none -> b ≠ a:=fun b ob q n z=>by rw [z,e] at q; exact n (Option.some.inj q).symm
 have nb:∀ b ob,H b = some ob -> b ≠ s.heap.objs.size:=fun b ob q z=>by rw [z,nd] at q; cases q
 have un:Un (frs X.stack) [] H (upd (upd H a (iG a C (some s.heap.objs.size))) s.heap.objs.size (.xd [(f,y)])) s.heap h':=by
  have keep:∀ b ob,s.heap.get? b = some ob -> H b = none -> h'.get? b = some ob:=fun b ob q n=>h3 b ob (fun z=>by rw [z,e] at n; cases n) q
  refine ⟨fun b ob q n _ _=>keep b ob q n,fun b ob q n _ _=>⟨ob.slots,keep b ob q n⟩,fun b ob q n _=>?_,fun b ob q _=>?_,fun b xs q=>?_,fun b ob xs q=>?_,fun b ps q=>⟨#[],?_⟩⟩
  . rw [off b (fun z=>by rw [z,e] at n; cases n) (ned b ob q)]; exact n
  . by_cases z:b = a
    . subst z; exact ⟨_,h1⟩
    . exact ⟨ob,h3 b ob z q⟩
  . rw [off b (na b _ q (by intro z; cases z)) (nb b _ q)]; exact q
  . rw [off b (na b _ q (by intro z; cases z)) (nb b _ q)]; exact q
  . rw [off b (na b _ q (by intro z; cases z)) (nb b _ q),q]; simp
 have hok:HOk X.prog X.w (upd (upd H a (iG a C (some s.heap.objs.size))) s.heap.objs.size (.xd [(f,y)])) h':=fun b ob q=>by
  by_cases zb:b = s.heap.objs.size
  . subst zb
    rw [aX] at q
    cases q
    refine ⟨_,h2,fun g=>?_⟩
    show bJ (List.lookup g [(f,y)]) (if g = f then some u else none)
    by_cases z:g = f
    . subst z; simp [List.lookup,bJ,ry]
    . have zz:(g == f) = false:=beq_eq_false_iff_ne.mpr z
      simp [List.lookup,zz,z,bJ]
  . rw [aO zb] at q
    by_cases za:b = a
    . subst za
      rw [aX] at q
      cases q
      exact uV ⟨_,tv,h1,hc,rfl,hv⟩
    . rw [aO za] at q
      refine (I.hok b ob q).lj (fun b' u' hb' r=>h3 b' u' ?_ r) (fun b' r=>?_) fun b' xs r=>?_
      . rcases hb' with z | z
        . rw [z]; exact za
        . exact na b' _ z (by intro z; cases z)
      . rw [off b' (na b' _ r (by intro z; cases z)) (nb b' _ r)]; exact r
      . rw [off b' (na b' _ r (by intro z; cases z)) (nb b' _ r)]; exact r
 exact h _ s.heap.objs.size nd (I.call (g':=s.gens) (t':=s.toks + 2) (d':=s.drawn) (ch:=[]) un hok I.bare (fun b z=>absurd z (by simp)))
end
end L2.E
namespace L2.E
open PySem PySem.Spec PyProof.Rows L2
theorem bk:builtinKind "BaseException.__getattribute__" = some .slot:=by decide +kernel
theorem bs:splitId "BaseException.__getattribute__" = some ("BaseException","__getattribute__"):=by decide +kernel
section
variable {prog:Program} {w:World} {A:Around} {E:Value -> Shared -> Prop} {s:Shared} {K:PySem.W.Frag} {x C:Addr} {name:Str} {v:Value} {tk:Tok}
open PySem.W in
theorem ckX {Q:Unit -> Shared -> Prop} (sub:Looks (model prog w) s.heap (isInstance (.ref x) (.type "BaseException")) true) (q:Q () s):wpAny (model prog w) A (checkBuiltinCall "BaseException.__getattribute__" ⟨.ref x ::[.str name tk],[]⟩) Q E s:=by
 have ha:argsOk "BaseException.__getattribute__" ⟨.ref x ::[.str name tk],[]⟩:=PySem.F.args_bexc_ga (.ref x) (.str name tk)
 exact @check_slot (model prog w) A E s "BaseException.__getattribute__" "BaseException" "__getattribute__" (.ref x) [.str name tk] [] Q bk bs sub ha q
end
section
variable {prog:Program} {w:World} {A:Around} {E:Value -> Shared -> Prop} {hh:Heap} {g:Array GenState} {d:Drawn} {t:Nat} {os:OsState} {K:PySem.W.Frag} {x C:Addr} {name:Str} {v:Value} {tk:Tok}
open PySem.W in
theorem F8 {Q:Fin -> Shared -> Prop} (L0:Looks (model prog w) hh (typeOf (.ref x)) (.ref C)) (L3:Looks (model prog w) hh (Builtin.ObjectAttr.find (.ref x) (.ref C) name) (Builtin.ObjectAttr.Found.value v)) (h:Q (.done (.ret v)) ⟨hh,g,d,t,os⟩):
  wpAny (model prog w) A (Builtin.«object.__getattribute__» ⟨[.ref x,.str name tk],[]⟩) Q E ⟨hh,g,d,t,os⟩:=by
 have es:slotArgs "__getattribute__" 1 ⟨[.ref x,.str name tk],[]⟩ = pure (.ref x,[.str name tk]):=by rfl
 have ea:Builtin.ObjectAttr.attrName (.str name tk) = pure name:=by rfl
 unfold Builtin.«object.__getattribute__»
 rw [es]
 refine wpAny_bind (wpAny_pure ?_)
 dsimp only
 rw [ea]
 refine wpAny_bind (wpAny_pure ?_)
 refine wpAny_bind (L0.at ?_)
 refine wpAny_bind (L3.at ?_)
 exact wpAny_pure h
end
section
variable {prog:Program} {w:World} {A:Around} {E:Value -> Shared -> Prop} {s:Shared} {K:PySem.W.Frag} {x C:Addr} {name:Str} {v:Value}
open PySem.W in
theorem FH {ox od:Obj} {expr:Bool} {Q:Value -> Shared -> Prop} (X:K.In s.heap) (I:InstAt s.heap x ox C (some od)) (c:oA K C name) (hl:lookIn name od = some (some v)) (hv:handedIn v = true) (h:Q v { s with toks:=s.toks + 1 }):
  wpAny (model prog w) A (getAttr (.ref x) name expr) Q E s:=by
 have SG:=(PySem.F.attr_ValueError).ga
 obtain ⟨hh,g,d,t,os⟩:=s
 obtain ⟨cd,hc,ho⟩:=any_some (show (clsIn K C).any (fun cd=>cW cd.mro) = true from c.mr)
 obtain ⟨q1,q2,q3⟩:=la ho
 have L0:=I.type (M:=model prog w)
 have L1:=looks_findIn (M:=model prog w) X c.ga
 have L2:=looks_findIn (M:=model prog w) X c.gt
 have L3:=looks_find (M:=model prog w) X I (findObj_own c.hd c.na rfl hl)
 have sub:Looks (model prog w) hh (isInstance (.ref x) (.type "BaseException")) true:=I.type.andThen (looks_mroIn X (by unfold mroIn; rw [hc,Option.bind_some,if_neg (by rw [q3]; decide),q2]))
 have hx0:(expr && onTheHeap (Value.builtin "BaseException.__getattribute__")) = false:=by cases expr <;> rfl
 unfold getAttr getAttrBy
 refine wpAny_bind (wpAny_mkText (wpAny_holding (wpAny_bind (L0.at (wpAny_bind (L1.at ?_))))))
 show wpAny _ _ (getAttrByItsOwn _ _ _ _ _ _) _ _ _
 unfold getAttrByItsOwn
 refine wpAny_bind (L2.at ?_)
 have f3:=SG.bind (.ref x)
 unfold callGetattribute
 rw [hx0]
 unfold boundAndCalled
 repeat (any_goals (first | assumption | wp_step))
 show codeAny _ _ (.call (.builtin "BaseException.__getattribute__") ⟨.ref x ::[.str name t],[]⟩) _ ⟨hh,g,d,t + 1,os⟩
 refine codeAny_call_builtin SG.plain PySem.F.entry_bexc_ga ?_
 refine ckX (s:=⟨hh,g,d,t + 1,os⟩) sub ?_
 refine F8 L0 L3 ?_
 have e0:handedOut v = pure v:=handedOut_of hv
 dsimp only
 rw [e0]
 exact wpAny_pure h
end
section
variable {X:Cx} {pins:List (Addr × Obj)} {σ:St} {H:Hp} {s:Shared} {a C d:Addr} {f:Str} {A:Around} {E:Value -> Shared -> Prop}
theorem yf {b:Bool} {fs:List (Str × V)} {v:V} {Q:Value -> Shared -> Prop} (I:Inv X pins σ H s) (e:H a = some (mm a C (some d))) (hd:H d = some (.xd fs)) (c:oA X.K C f) (l:fs.lookup f = some v)
  (h:∀ u s',Inv X pins σ H s' -> RelV v u -> Q u s'):wpAny (model X.prog X.w) A (getAttr (.ref a) f b) Q E s:=by
 obtain ⟨⟨o,vs,ho,hc,hdd,hv,hz⟩,_,_⟩:=I.hok a _ e
 obtain ⟨mA,n1,r⟩:=I.hok d _ hd
 obtain ⟨u,hu,ru⟩:=bJ.some_of (v:=v) (o:=mA f) (by rw [<- l]; exact r f)
 obtain ⟨od,hod,hl⟩:=pw n1
 have J:PySem.W.InstAt s.heap a o C (some od):=⟨ho,hc,by unfold PySem.W.notCls; rw [hv],by rw [hdd]; exact hod⟩
 exact FH I.kIn J c (by rw [hl,hu]) (pb ru) (h u _ (I.tok _) ru)
def x4 (K:PySem.W.Frag) (ta:TE) (f:Str):TE:=fun σ H Q=>ta σ H fun x H1=>∃ a C d fs v,x = .ref a /\ H1 a = some (mm a C (some d)) /\ H1 d = some (.xd fs) /\ oA K C f /\ fs.lookup f = some v /\ Q v H1
theorem yT {e:Expr} {ta:TE} {pos:Pos} (he:PE X e ta) (hb:attributeBase e f X.env (eval e X.env) = eval e X.env:=by rfl):PE X (.Attribute e f pos) (x4 X.K ta f):=by
 intro pins s σ H Q I h
 refine uO hb (thn (he pins s σ H _ I h) fun u s1 ⟨x,H1,I1,rx,a,C,d,fs,v,ex,ea,ed,c,l,q⟩=>?_)
 subst ex
 obtain rfl:u = Value.ref a:=rx
 exact yf I1 ea ed c l fun u' s2 I2 ru=>⟨v,H1,I2,ru,q⟩
def xk (K:PySem.W.Frag) (ta tv:TE) (f:Str):TS:=fun D σ H=>tv σ H fun y H1=>ta σ H1 fun x H2=>∃ a C,x = .ref a /\ H2 a = some (iG a C none) /\ oA K C f /\ ∀ d,H2 d = none -> D.nx σ (upd (upd H2 a (iG a C (some d))) d (.xd [(f,y)]))
theorem yH {o value:Expr} {ta tv:TE} {pos pos':Pos} (ha:PE X o ta) (hv:PE X value tv) (hs:swapsWith value (some (.Attribute o f pos')) pos.line X.env = pure false:=by rfl):PS X (.Assign [.Attribute o f pos'] value pos) (xk X.K ta tv f):=by
 intro pins s σ H D I h
 refine plainObj_wpAny_Assign_Attribute (thn (hv pins s σ H _ I h) fun u s1 ⟨y,H1,I1,ry,q⟩=>thn (ha pins s1 σ H1 _ I1 q) fun ov s2 ⟨x,H2,I2,rx,a,C,ex,ea,c,q2⟩=>?_) hs
 subst ex
 obtain rfl:ov = Value.ref a:=rx
 exact yi I2 ea c ry fun s3 d nd I3=>⟨σ,_,I3,q2 d nd⟩
end
def n9 (C:Addr) (f:Str):Sp:=fun vs H Q _=>∃ a v,vs = [.ref a,v] /\ H a = some (iG a C none) /\ ∀ d,H d = none -> Q .non (upd (upd H a (iG a C (some d))) d (.xd [(f,v)]))
end L2.E
namespace L2.E
open PySem PySem.Spec PyProof.Rows L2
section
variable {prog:Program} {w:World} {A:Around} {E:Value -> Shared -> Prop} {h:Heap} {g:Array GenState} {d:Drawn} {t:Nat} {os:OsState} {K:PySem.W.Frag}
variable {nm q:Str} {C N:Addr} {bs bm bmB:List Value} {hdct:Bool} {sn:List Str} {sub:List Value} {ab:Bool} {col:Option Bool} {dd:Option Addr} {k0 k1 k2 k3 k5:Option Value} {B newId initId:String}
open PySem.W in
theorem Cr (F:ExcBaseFacts B newId initId bmB) (T:OwnTail h bmB bm) {rest:List Value} {fI:Addr} {oI:Obj} {Q:Fin -> Shared -> Prop} (X:K.In h)
  (hC:h.get? C = some (excClassObj nm q C N bs bm hdct sn sub ab col dd k0 k1 k2 k3 k5 newId)) (hi:findIn K (.ref C) "__init__" = some (some (.ref fI)))
  (hfI:h.get? fI = some oI) (hfc:oI.cls = .type "function")
  (hq:∀ h' e,Heap.MadeExcOf h h' e (.ref C) rest ->
    wpAny (model prog w) A (call (.ref fI) (.ref e ::rest)) (fun r s'=>r = .none /\ Q (.done (.ret (.ref e))) s') E ⟨h',g,d,t,os⟩) (hrest:rest.length <= sizeLine):
  wpAny (model prog w) A (Builtin.«type.__call__» ⟨.ref C ::rest,[]⟩) Q E ⟨h,g,d,t,os⟩:=by
 repeat (first | with_reducible refine wpAny_loadPart_at hC ?_ | with_reducible refine wpAny_madeBy_exc hC ?_ | wp_step)
 refine codeAny_call_builtin_code (Code.quiet_builtin _ F.quiet) (wpAny_check_new_subT F T hC ?_)
 refine codeAny_exc_new_subT F T hC ?_ hrest
 show wpAny _ _ _ _ _ _
 have hC₁:=Heap.get?_push_of_some { cls:=.ref C,data:=.fields #[.ref h.objs.size,.none,.none,.none,.bool false,.none] }
  (Heap.get?_push_of_some { cls:=.type "tuple",data:=.seq rest.toArray } hC)
 have hfI₁:=Heap.get?_push_of_some { cls:=.ref C,data:=.fields #[.ref h.objs.size,.none,.none,.none,.bool false,.none] }
  (Heap.get?_push_of_some { cls:=.type "tuple",data:=.seq rest.toArray } hfI)
 have X₁:K.In ((h.push { cls:=.type "tuple",data:=.seq rest.toArray }).push { cls:=.ref C,data:=.fields #[.ref h.objs.size,.none,.none,.none,.bool false,.none] }):=
  X.keeps fun b o e=>Heap.get?_push_of_some _ (Heap.get?_push_of_some _ e)
 have hget:((h.push { cls:=.type "tuple",data:=.seq rest.toArray }).push
   { cls:=.ref C,data:=.fields #[.ref h.objs.size,.none,.none,.none,.bool false,.none] }).get? (h.objs.size + 1) = some
   { cls:=.ref C,data:=.fields #[.ref h.objs.size,.none,.none,.none,.bool false,.none] }:=by heap_get
 have hcC:(Value.ref C ::bm).contains (.ref C) = true:=by simp
 unfold isInstance
 repeat (first | with_reducible refine wpAny_loadPart_at hget ?_ | (with_reducible refine wpAny_isSubtype_exc hC₁ ?_; rw [hcC]) | wp_step)
 show wpAny _ _ (typeLookup (.ref C) _) _ _ _
 refine (looks_findIn (M:=model prog w) X₁ hi).at ?_
 refine wpAny_holding (wpAny_bind ?_)
 unfold bindSpecial
 refine wpAny_bind (wpAny_typeOf (T:="function") ⟨_,hfI₁,hfc⟩ ?_)
 rw [if_pos (by decide)]
 refine wpAny_pure (wpAny_bind (wpAny_mono (hq _ (h.objs.size + 1) ⟨fun b o hb=>Heap.get?_push_of_some _ (Heap.get?_push_of_some _ hb),Heap.get?_none_of_le (Nat.le_succ _),h.objs.size,hget,Heap.get?_none_of_le (Nat.le_refl _),?_⟩) (fun r s' hr=>?_) fun _ _ x=>x))
 . exact Heap.get?_push_of_some _ (Heap.get?_push_at rfl rfl)
 . obtain ⟨rfl,hQ⟩:=hr
   wp_walk
   exact hQ
open PySem.W in
theorem xX (F:ExcBaseFacts B newId initId bmB) (T:OwnTail h bmB bm) {rest:List Value} {fI:Addr} {oI:Obj} {Q:Value -> Shared -> Prop} (X:K.In h)
  (hC:h.get? C = some (excClassObj nm q C N bs bm hdct sn sub ab col dd k0 k1 k2 k3 k5 newId)) (hi:findIn K (.ref C) "__init__" = some (some (.ref fI)))
  (hfI:h.get? fI = some oI) (hfc:oI.cls = .type "function")
  (hq:∀ h' e,Heap.MadeExcOf h h' e (.ref C) rest ->
    wpAny (model prog w) (A.under (.builtin "type.__call__" ⟨.ref C ::rest,[]⟩)) (call (.ref fI) (.ref e ::rest)) (fun r s'=>r = .none /\ Q (.ref e) s') E ⟨h',g,d,t,os⟩) (hrest:rest.length <= sizeLine):
  wpAny (model prog w) A (call (.ref C) rest) Q E ⟨h,g,d,t,os⟩:=by
 have f1:=tc_lookup
 have f2:=tc_bind (.ref C)
 have hT:(⟨h,g,d,t,os⟩:Shared).TypeIs (.ref C) "type":=⟨_,hC,rfl⟩
 refine wpAny_call (codeAny_of_tree ?_)
 show wpAny _ _ (callAny (.ref C) _) _ _ _
 repeat (any_goals (first | assumption | with_reducible refine wpAny_loadPart_at hC ?_ | wp_step))
 refine ⟨rfl,?_⟩
 refine codeAny_call_builtin_at (Code.quiet_builtin _ (by decide +kernel)) entry_typeCall (wpAny_check_type_call_sub hC (Cr F T X hC hi hfI hfc (fun h' e hm=>?_) hrest))
 exact hq h' e hm
theorem tE {M:Model} {env:Env} {s:Shared} {x:Sem Value} {Q:Flow -> Shared -> Prop} (hbase:bm.contains (.type "BaseException") = true) (hh:A.handled = none)
  (h:wpAny M A x (fun v s₁=>∃ e dct tt sl,v = .ref e /\ s₁.heap.get? C = some (excClassObj nm q C N bs bm hdct sn sub ab col dd k0 k1 k2 k3 k5 newId) /\
    s₁.heap.get? e = some ⟨.ref C,dct,.fields #[.ref tt,.none,.none,.none,.bool false,.none],sl⟩ /\ E (.ref e) s₁) E s):
  wpAny M A (raiseStmt env (some x) none) Q E s:=by
 have hcB:(Value.ref C ::bm).contains (.type "BaseException") = true:=by rw [List.contains_cons,hbase,Bool.or_true]
 unfold raiseStmt
 refine wpAny_bind (wpAny_mono h (fun v s₁ h₁=>?_) fun _ _ x=>x)
 obtain ⟨e,dct,tt,sl,rfl,hC,he,hE⟩:=h₁
 obtain ⟨hp,g,d,tk,os⟩:=s₁
 repeat (first | with_reducible refine wpAny_loadPart_at he ?_ | with_reducible refine wpAny_loadPart_at hC ?_ | (with_reducible refine wpAny_isSubtype_exc hC ?_; rw [hcB]) | wp_step)
 exact wpAny_raiseNew_none hh hE
end
structure XMk (K:PySem.W.Frag) (mg:Str -> Option Value) (x:Str) (C fI:Addr) (bm:List Value) (f:Str):Prop where
 m:mg x = some (.ref C)
 lk:∃ nm q N bs hdct sn sub ab col dd k0 k1 k2 k3 k5,K.lookup C = some (excClassObj nm q C N bs bm hdct sn sub ab col dd k0 k1 k2 k3 k5 "ValueError.__new__")
 bx:bm.contains (.type "BaseException") = true
 tl:∀ h:Heap,K.In h -> OwnTail h cV bm
 ini:PySem.W.findIn K (.ref C) "__init__" = some (some (.ref fI))
 fn:∃ o,K.lookup fI = some o /\ o.cls = .type "function"
 xc:oA K C f
section
variable {X:Cx} {x f:Str} {np cpos pos:Pos} {e₀:Expr} {t:TA} {W:XW} {C fI:Addr} {bm:List Value} {k:Nat} {fd:FuncData} {ps:List Str}
def qB (C:Addr) (f:Str) (W:XW) (t:TA):TS:=fun D σ H=>t σ H fun vs H1=>∃ v,vs = [v] /\ ∀ a d H2,az H1 H2 -> H2 a = some (mm a C (some d)) -> H2 d = some (.xd [(f,v)]) -> W (.ref C) (some a) σ H2
theorem F6 {X:Cx} {pins:List (Addr × Obj)} {σ:St} {H:Hp} {s:Shared} {h':Heap} {e C:Addr} {us:List Value} (I:Inv X pins σ H s) (hm:Heap.MadeExcOf s.heap h' e (.ref C) us):
  H e = none /\ Inv X pins σ (upd H e (iG e C none)) { s with heap:=h' }:=by
 obtain ⟨t,he,_,_⟩:=hm.there
 exact ⟨uQ I hm.new,D7 I hm.keeps hm.new (uV ⟨_,t,he,rfl,rfl,rfl⟩)⟩
theorem u7 (M:XMk X.K X.mg x C fI bm f) (F:cy X.prog X.w X.K X.mg X.base (CXE X.prog X.w) k fI fd ps (n9 C f)) (hb:Binds X.K fd ps []) (hr:fJ (k + 1) X.A) (hT:Thr X W) (hg:Gl X x) (ha:PA X [e₀] t)
  (he:isStar e₀ = false:=by rfl) (hd:(x == ("__debug__":Str)) = false:=by decide):
  PS X (.Raise (some (.Call (.Name x np) [e₀] [] cpos)) none pos) (qB C f W t):=by
 intro pins s σ H D I h
 have FB:=PySem.F.excBase_ValueError
 obtain ⟨nm,q,N,bs,hdct,sn,sub,ab,col,dd,k0,k1,k2,k3,k5,lk⟩:=M.lk
 obtain ⟨oI,lI,cI⟩:=M.fn
 have hpl:(backTo cpos (starEach [e₀] X.env)).any (·.1) = false:=by rw [ky he]; rfl
 have hsp:=ha cpos pins s σ H _ I h
 rw [arm_exec_Raise]
 refine wpAny_bind (wpAny_standAt (tE (C:=C) (nm:=nm) (q:=q) (N:=N) (bs:=bs) (bm:=bm) (hdct:=hdct) (sn:=sn) (sub:=sub) (ab:=ab) (col:=col) (dd:=dd) (k0:=k0) (k1:=k1) (k2:=k2) (k3:=k3) (k5:=k5) (newId:="ValueError.__new__") M.bx hr.hd
  (wpAny_bind (wpAny_mono (wpAny_Call_ofName (kA I hg M.m ?_ hd)) (fun v s₃ h₃=>wpAny_bind (wpAny_standAt (wpAny_pure h₃))) fun _ _ x=>x))))
 unfold callWith
 refine wpAny_bind (wpAny_holding ?_)
 rw [ky he] at hsp
 rw [ky he]
 refine Calls.evalArgs_plain (wpAny_mono hsp (fun us s2 h2=>wpAny_bind (wpAny_standAt ?_)) fun _ _ y=>y)
 obtain ⟨vs,H2,I2,r,v,rfl,wv⟩:=h2
 obtain ⟨u,rfl,ru⟩:=vals1 r
 obtain ⟨hp,g,d,tk,os⟩:=s2
 have hpl':(backTo cpos ((false,eval e₀ X.env) ::starEach [] X.env)).any (·.1) = false:=rfl
 simp only [hpl']
 have hC:=I2.kIn _ _ lk
 refine wpAny_bind (wpAny_keeperOf_exc hC ?_)
 refine wpAny_bind (xX FB (M.tl _ I2.kIn) I2.kIn hC M.ini (I2.kIn _ _ lI) cI (fun h' e hm=>?_) (by show 1 <= sizeLine; decide))
 obtain ⟨nE,I3⟩:=F6 I2 hm
 have hsp3:n9 C f [.ref e,v] (upd H2 e (iG e C none)) (fun z H4=>z = .non /\ ∃ dd,az H2 H4 /\ H4 e = some (iG e C (some dd)) /\ H4 dd = some (.xd [(f,v)])) (fun _ _ _=>False):=by
  refine ⟨e,v,rfl,aX,fun dd nd=>⟨rfl,dd,?_,?_,aX⟩⟩
  . have ne:dd ≠ e:=fun z=>by rw [z,aX] at nd; cases nd
    intro b o hb
    have nb:b ≠ e:=pT hb nE
    have nd2:b ≠ dd:=fun z=>by rw [z] at hb; rw [aO ne,hb] at nd; cases nd
    rw [aO nd2,aO nb,aO nb]; exact hb
  . have ne:e ≠ dd:=fun z=>by rw [<- z,aX] at nd; cases nd
    rw [aO ne,aX]
 have hl:([Value.ref e,u] ++ []).length = ps.length:=by
  have e1:=F.len _ _ _ _ hsp3
  rw [<- e1]; rfl
 refine wpAny_call (codeAny_mono (F.run _ X.stack _ _ ⟨[Value.ref e,u],[]⟩ ([Value.ref e,u] ++ []) [.ref e,v] _ _ (hr.make C [u] []) (I3.Bw.make C [u] []) (hb _ [Value.ref e,u] I3.kIn hl) (.cons rfl (.cons ru .nil)) hsp3) fun r s' hq'=>?_)
 cases r with
 | error e'=>
   obtain ⟨_,_,_,_,_,_,_,_,_,_,z⟩:=hq'
   exact z.elim
 | ok fl=>
   cases fl with
   | next=>exact False.elim hq'
   | brk=>exact False.elim hq'
   | cont=>exact False.elim hq'
   | ret u'=>
     obtain ⟨z,H4,I4,rz,ez,dd',sm,h4,h5⟩:=I3.after hq'
     subst ez
     obtain ⟨⟨o4,tt,g4,c4,d4,f4⟩,_,_⟩:=I4.hok e _ h4
     refine ⟨rz,wpAny_bind (wpAny_holding (wpAny_point (wpAny_pure ?_)))⟩
     obtain ⟨oc,od,oda,osl⟩:=o4
     dsimp only at c4 d4 f4
     subst c4 d4 f4
     refine ⟨e,some dd',tt,osl,rfl,I4.kIn _ _ lk,g4,?_⟩
     obtain ⟨hh,gg,d2,t2,o2⟩:=s'
     have I5:=I4.write (x:=e) (e:=e) (o:=mm e C (some dd')) (t':=t2) (h':=hh) (by rw [h4]; trivial) (.inl rfl) (fun b u hb q=>q) ⟨_,g4⟩ (wG (xI.exc ⟨_,tt,g4,rfl,rfl,rfl⟩))
     have ned:dd' ≠ e:=fun z=>by rw [z,h4] at h5; cases h5
     have sm2:az H2 (upd H4 e (mm e C (some dd'))):=fun b o hb=>by
      have nb:b ≠ e:=pT hb nE
      rw [aO nb]; exact sm b o hb
     exact hT pins σ _ _ e C (some dd') I5 ⟨aX,_,_,g4,rfl,.inl rfl⟩ (wv e dd' _ sm2 aX (by rw [aO ned]; exact h5))
end
end L2.E
namespace L2.E
open PySem PySem.Spec PyProof.Rows L2
theorem yF {X:Cx} {e:Expr} {ta:TE} {f:Str} {pos:Pos} (he:QE X e ta) (hb:attributeBase e f X.env (eval e X.env) = eval e X.env:=by rfl):QE X (.Attribute e f pos) (x4 X.K ta f):=⟨yT he.out hb⟩
theorem ve {X:Cx} {x f:Str} {np cpos pos:Pos} {e₀:Expr} {t:TA} {W:XW} {C fI:Addr} {bm:List Value} {k:Nat} {fd:FuncData} {ps:List Str} (M:XMk X.K X.mg x C fI bm f) (F:cy X.prog X.w X.K X.mg X.base (CXE X.prog X.w) k fI fd ps (n9 C f)) (hb:Binds X.K fd ps []) (hr:fJ (k + 1) X.A) (hT:Thr X W) (hg:Gl X x) (ha:QA X [e₀] t)
  (he:isStar e₀ = false:=by rfl) (hd:(x == ("__debug__":Str)) = false:=by decide):QS X (.Raise (some (.Call (.Name x np) [e₀] [] cpos)) none pos) (qB C f W t):=⟨u7 M F hb hr hT hg ha.out he hd⟩
theorem yW {K:PySem.W.Frag} {G:Addr} {bm:List Value} (eG:uf K G bm) (q:PySem.W.excIn K G cV "ValueError.__new__" = true):∀ h:Heap,K.In h -> OwnTail h cV (.ref G ::bm):=by
 intro h Xh
 have O:=Ac (mg:=fun _=>some (.ref G)) (x:="") Xh rfl q
 obtain ⟨tl,N,nm,q',bs,hdct,sn,sub,ab,col,dd,k0,k1,k2,k3,k5,mN,hc,hN,hni,T⟩:=O.obj
 obtain ⟨_,nm2,q2,N2,bs2,hd2,sn2,sub2,ab2,col2,dd2,j0,j1,j2,j3,j5,nid,lG⟩:=eG
 have e:=Xh _ _ lG
 rw [hc] at e
 have e1:tl = bm:=by
  have e':=Option.some.inj e
  unfold excClassObj at e'
  simp only [Obj.mk.injEq,Data.cls.injEq,ClassData.mk.injEq,List.cons.injEq] at e'
  exact e'.2.2.1.2.2.1.2
 subst e1
 exact OwnTail.own hc hN hni T
theorem vy {K:PySem.W.Frag} {nm q:Str} {C N:Addr} {bs bm:List Value} {hdct:Bool} {sn:List Str} {sub:List Value} {ab:Bool} {col:Option Bool} {dd:Option Addr} {k0 k1 k2 k3 k5:Option Value} {newId:String}
  (l:K.lookup C = some (excClassObj nm q C N bs bm hdct sn sub ab col dd k0 k1 k2 k3 k5 newId)) (h:cW (.ref C ::bm) = true):n5 K C = true:=by
 unfold n5 PySem.W.clsIn
 rw [l]
 exact h
theorem yx {P:Program} {w:World} {K:PySem.W.Frag} {mg:Str -> Option Value} {base:Heap} {C fI:Addr} {fd:FuncData} {st:Stmt} {x qual:Str} {n0 n1 f:Str} (F:Fun K x qual st fI fd) (S:aW [n0,n1] [n0,n1] (ao st)) (xc:oA K C f)
  (hbody:∀ (cdv:Value) (A:Around) (outer:List Env) (s:Shared) (H:Hp) (E:XK),QSs (lF (CXE P w) P w K mg base [n0,n1] qual (ao st) fI cdv A outer s H E) (aT st) (xk K (oN 0) (oN 1) f)):
  cy P w K mg base (CXE P w) 1 fI fd [n0,n1] (n9 C f):=
 okX F S (fun vs H Q E h=>by obtain ⟨a,v,rfl,_⟩:=h; rfl) fun cdv A outer s H vs Q E hr h=>by
  obtain ⟨a,v,rfl,hH,q⟩:=h
  exact ⟨_,(hbody cdv A outer s H E).out,_,rfl,_,rfl,a,C,rfl,hH,xc,fun d nd=>q d nd⟩
theorem vZ {X:Cx} {o value:Expr} {ta tv:TE} {f:Str} {pos pos':Pos} (ha:QE X o ta) (hv:QE X value tv) (hs:swapsWith value (some (.Attribute o f pos')) pos.line X.env = pure false:=by rfl):QSs X [.Assign [.Attribute o f pos'] value pos] (xk X.K ta tv f):=⟨u1 (yH ha.out hv.out hs)⟩
theorem Cn {X:Cx} {o i:Expr} {to ti:TE} {t:y0} {pos:Pos} (ho:QE X o to) (hi:QE X i ti) (hs:Dc X t)
  (ha:∀ v,assign (.Subscript o i pos) X.env v = (do
    let ov <- holding [v] (eval o X.env)
    let iv <- holding [v,ov] (eval i X.env)
    standAt pos
    holding [v,ov,iv] (setItem ov iv v)
    release [v,ov,iv] []):=by intro _; rfl):QG X (.Subscript o i pos) (CK to ti t):=⟨BL ho.out hi.out hs ha⟩
end L2.E
namespace L2.P
open PySem PySem.Spec PyProof.Rows L2 L2.E
section
variable {K:PySem.W.Frag} {cls:String -> Option Addr} {W:XW} {S H:Hp}
theorem vI {C:Addr} {c:String} {f:Str} {t:TA} {ma:aa -> OA} (hc:cls c = some C) (ha:JA K cls W t ma):JS K cls W (qB C f W t) (pZ c f ma):=by
 intro Av G S₀ ρ σ S H D I p
 refine ha.goS I p fun xs vs S1 H1 I1 w1 r1 p1=>?_
 match xs,r1,p1 with
 | [x],r1,p1=>
   obtain ⟨v,r,rfl,q1,r2⟩:=r1.cons_inv
   obtain rfl:=r2.nil_inv
   exact ⟨v,rfl,fun a d H2 sm h4 h5=>p1 a C σ S1 H2 (I1.same sm) (az.refl _) ⟨hc,some d,h4,.inr ⟨d,[(f,v)],rfl,h5,rfl,.cons q1 .nil⟩⟩⟩
 | [],r1,p1=>exact p1.elim
 | _ ::_ ::_,r1,p1=>exact p1.elim
theorem oK {f:Str} {x:PV}:∀ {fs:XF} {us:List (Str × V)},fs.map (·.1) = us.map (·.1) -> bG K S (fs.map (·.2)) (us.map (·.2)) -> fs.lookup f = some x -> ∃ v,us.lookup f = some v /\ Rep K S x v
 | [],_,_,_,e=>by cases e
 | (k,y) ::fs,[],h,_,_=>by cases h
 | (k,y) ::fs,(k',u) ::us,h,r,e=>by
   simp only [List.map_cons,List.cons.injEq] at h r
   obtain ⟨h1,h2⟩:=h
   obtain ⟨v,t,e1,q1,r2⟩:=r.cons_inv
   rw [List.cons.injEq] at e1
   obtain ⟨e1,e2⟩:=e1
   rw [List.lookup_cons] at e ⊢
   rw [<- h1]
   by_cases hk:(f == k) = true
   . rw [hk] at e ⊢
     have:y = x:=Option.some.inj e
     exact ⟨u,rfl,by rw [<- this,e1]; exact q1⟩
   . have hk':(f == k) = false:=by simpa using hk
     rw [hk'] at e ⊢
     exact oK h2 (by rw [e2]; exact r2) e
theorem zg {i:Nat} {f:Str} {under:String -> Bool} (hX:∀ c C,cls c = some C -> under c = true -> oA K C f):JE K cls W (x4 K (oN i) f) (uK i f under):=by
 intro Av G S₀ ρ σ S H Q I p
 unfold uK at p
 split at p
 . rename_i c fs e
   obtain ⟨v,e1,a,C,rfl,hc,dx,hx,hf⟩:=I.good i _ e
   split at p
   . rename_i hu
     split at p
     . rename_i x el
       rcases hf with rfl | ⟨d,us,rfl,hd,hk,hr⟩
       . cases el
       . obtain ⟨z,ez,rz⟩:=oK hk hr el
         exact ⟨_,e1,a,C,d,us,z,rfl,hx,hd,hX c C hc hu,ez,p z S H (bb.refl I.sh) rz⟩
     . exact p.elim
   . exact p.elim
 . exact p.elim
theorem Ce {i:Nat} {tk tv:TE} {mk mv:aa -> OE} (hk:JE K cls W tk mk) (hv:JE K cls W tv mv):JS K cls W (oW tv (CK (oN i) tk Bb)) (zj i mk mv):=by
 intro Av G S₀ ρ σ S H D I p
 unfold zj at p
 split at p
 . rename_i xs e
   refine hv Av G S₀ ρ σ S H _ I ?_
   cases em:mv ρ with
   | exc c fs=>rw [em] at p; exact fun a C S' H' w x=>p a C σ S' H' (I.grow w) w.s x
   | bad=>rw [em] at p; exact p
   | ok r=>
     rw [em] at p
     intro u S1 H1 w1 r1
     simp only [OE.bF] at p
     cases es:iq r with
     | none=>rw [es] at p; exact p.elim
     | some y=>
       rw [es] at p
       obtain ⟨S2,w2,s2,rx⟩:=r1.share w1 es
       have I2:=I.grow w2
       obtain ⟨v,e1,a,vs,rfl,h1,h2,h3,h4⟩:=I2.good i _ e
       refine ⟨_,e1,?_⟩
       refine hk.goS I2 (p.back w2.s) fun kk z S3 H3 I3 w3 r3 p3=>?_
       have rk:=r3.rd I3.sh
       cases ek:kk.pv with
       | int k=>
         rw [ek] at p3 rk
         have hz:=dA rk
         subst hz
         dsimp only at p3
         cases ej:ixP xs.length k with
         | none=>rw [ej] at p3; exact p3.elim
         | some j=>
           rw [ej] at p3
           refine ⟨a,vs,k,j,rfl,rfl,w3.g _ _ h3,by rw [h4.length]; exact ej,?_⟩
           exact p3 σ S3 _ (I3.mut e e1 ((h4.mono w3.s).set (Rep.mono w3.s rx) j)) (az.refl _)
       | _=>rw [ek] at p3; exact p3.elim
 . exact p.elim
end
end L2.P
namespace L2.P
open PySem
inductive Stp where
 | ix (k:Nat) | fd (f:Str)
def jX:List Str -> List OV -> Str -> Option OV
 | k ::ks,t ::ts,f=>if k = f then some t else jX ks ts f
 | _,_,_=>none
def o3:List Str -> List OV -> Str -> OV -> List OV
 | k ::ks,t ::ts,f,u=>if k = f then u ::ts else t ::o3 ks ts f u
 | _,ts,_,_=>ts
def OV.at1:OV -> Stp -> Option OV
 | .ol ts,.ix k=>ts[k]?
 | .ob _ ks ts,.fd f=>jX ks ts f
 | _,_=>none
def OV.we:OV -> Stp -> OV -> OV
 | .ol ts,.ix k,u=>.ol (ts.set k u)
 | .ob c ks ts,.fd f,u=>.ob c ks (o3 ks ts f u)
 | t,_,_=>t
def OV.get:OV -> List Stp -> Option OV
 | t,[]=>some t
 | t,s ::π=>(t.at1 s).bind fun u=>u.get π
def OV.put:OV -> List Stp -> OV -> OV
 | _,[],u=>u
 | t,s ::π,u=>match t.at1 s with
   | some t'=>t.we s (t'.put π u)
   | none=>t
def slT:Sl -> Option OV
 | .tr _ t=>some t
 | .bo t=>some t
 | _=>none
def il (i:Nat) (ρ:aa):Option OV:=match ρ[i]? with
 | some (some s)=>slT s
 | _=>none
abbrev MP:=aa -> Option (List Stp)
def ef:MP:=fun _=>some []
def pIx (i:Nat) (mp:MP) (mk:aa -> OE):MP:=fun ρ=>match il i ρ with
 | some t=>(match mp ρ with
   | some π=>(match t.get π with
     | some (.ol ts)=>(match mk ρ with
       | .ok r=>(match r.pv with
         | .int k=>(ixP ts.length k).map fun j=>π ++ [.ix j]
         | _=>none)
       | _=>none)
     | _=>none)
   | none=>none)
 | none=>none
def subAt (i:Nat) (mp:MP) (ρ:aa):Option OV:=match il i ρ with
 | some t=>(match mp ρ with
   | some π=>t.get π
   | none=>none)
 | none=>none
def pFd (i:Nat) (mp:MP) (f:Str) (ok:String -> Bool):MP:=fun ρ=>match subAt i mp ρ with
 | some (.ob c ks ts)=>if (ok c && (jX ks ts f).isSome) = true then (mp ρ).map fun π=>π ++ [.fd f] else none
 | _=>none
def rB:List OV -> Option (List PV)
 | []=>some []
 | .sh x ::r=>(rB r).map (x ::·)
 | _ ::_=>none
@[simp] theorem o6 (xs:List PV):rB (xs.map .sh) = some xs:=by
  induction xs with
  | nil=>rfl
  | cons x xs ih=>show (rB (xs.map .sh)).map (x ::·) = _; rw [ih]; rfl
def m7 (i:Nat) (mp:MP):aa -> OE:=fun ρ=>match subAt i mp ρ with
 | some (.sh x)=>.ok (.sh x)
 | some (.ol ts)=>(match rB ts with
   | some xs=>.ok (.al xs)
   | none=>.bad)
 | _=>.bad
def lR (i:Nat) (mp:MP):aa -> OT:=fun ρ=>match subAt i mp ρ with
 | some (.ol ts)=>.ok (!ts.isEmpty)
 | _=>.bad
inductive OD where
 | ok (t:OV) | exc (c:String) (fs:XF) | bad
inductive ODs where
 | ok (ts:List OV) | exc (c:String) (fs:XF) | bad
def mD (me:aa -> OE):aa -> OD:=fun ρ=>match me ρ with
 | .ok (.sh x)=>.ok (.sh x)
 | .ok (.fr xs)=>.ok (.ol (xs.map .sh))
 | .ok (.al _)=>.bad
 | .exc c fs=>.exc c fs
 | .bad=>.bad
def mDc (md:aa -> OD) (mr:aa -> ODs):aa -> ODs:=fun ρ=>match md ρ with
 | .ok t=>(match mr ρ with
   | .ok ts=>.ok (t ::ts)
   | .exc c fs=>.exc c fs
   | .bad=>.bad)
 | .exc c fs=>.exc c fs
 | .bad=>.bad
def mY (i:Nat) (md:aa -> OD):aa -> OS:=fun ρ=>match md ρ with
 | .ok t=>.nx (ρ.set i (some (.tr false t)))
 | .exc c fs=>.exc ρ c fs
 | .bad=>.bad
def tH (i:Nat) (mp:MP) (ρ:aa) (k:OV -> (OV -> aa) -> OS):OS:=match ρ[i]? with
 | some (some (.tr io t))=>(match mp ρ with
   | some π=>(match t.get π with
     | some u=>k u fun u'=>ρ.set i (some (.tr io (t.put π u')))
     | none=>.bad)
   | none=>.bad)
 | _=>.bad
def jT (i:Nat) (mp:MP) (md:aa -> OD):aa -> OS:=fun ρ=>tH i mp ρ fun u put=>match u with
 | .ol ts=>(match md ρ with
   | .ok x=>if ts.length < lim then .nx (put (.ol (ts ++ [x]))) else .bad
   | .exc c fs=>.exc ρ c fs
   | .bad=>.bad)
 | _=>.bad
def jY (i:Nat) (mp:MP) (me:aa -> OE):aa -> OS:=fun ρ=>tH i mp ρ fun u put=>match u with
 | .ol ts=>(me ρ).bF ρ fun r=>(match r with
   | .fr ys=>if ts.length + ys.length <= lim then .nx (put (.ol (ts ++ ys.map .sh))) else .bad
   | _=>.bad)
 | _=>.bad
def yh (i:Nat) (mp:MP) (f:Str) (okc:String -> Bool) (md:aa -> OD):aa -> OS:=fun ρ=>match md ρ with
 | .ok x=>tH i mp ρ fun u put=>(match u with
   | .ob c ks ts=>if (okc c && decide (ks.length < 1000)) = true then (if ks.contains f = true then .nx (put (.ob c ks (o3 ks ts f x))) else .nx (put (.ob c (ks ++ [f]) (ts ++ [x])))) else .bad
   | _=>.bad)
 | .exc c fs=>.exc ρ c fs
 | .bad=>.bad
inductive OX where
 | ok (ρ:aa) (s:Sl) | exc (ρ:aa) (c:String) (fs:XF) | bad
def slO:OV -> Sl
 | .sh x=>.sh x
 | t=>.tr false t
def kR (i:Nat) (mp:MP):aa -> OX:=fun ρ=>match ρ[i]? with
 | some (some (.tr io t))=>(match mp ρ with
   | some π=>(match t.get π with
     | some (.ol ts)=>(match ts.getLast? with
       | some x=>.ok (ρ.set i (some (.tr io (t.put π (.ol ts.dropLast))))) (slO x)
       | none=>.bad)
     | _=>.bad)
   | none=>.bad)
 | _=>.bad
def nio:Sl -> Bool
 | .tr true _=>false
 | .bo _=>false
 | _=>true
def jW (i:Nat) (m:aa -> OX):aa -> OS:=fun ρ=>match m ρ with
 | .ok ρ' s=>if nio s then .nx (ρ'.set i (some s)) else .bad
 | .exc ρ' c fs=>.exc ρ' c fs
 | .bad=>.bad
def zV (neg:Bool) (m:aa -> OX) (a b:aa -> OS):aa -> OS:=fun ρ=>match m ρ with
 | .ok ρ' (.sh x)=>(match nO x with
   | some k=>if (k != neg) = true then a ρ' else b ρ'
   | none=>.bad)
 | .ok _ _=>.bad
 | .exc ρ' c fs=>.exc ρ' c fs
 | .bad=>.bad
mutual
def pvO:OV -> Option PV
 | .sh x=>some x
 | .ol ts=>(DZ ts).map .lst
 | .ob _ _ _=>none
 | .di _=>none
 | .dt _=>none
def DZ:List OV -> Option (List PV)
 | []=>some []
 | t ::ts=>(pvO t).bind fun x=>(DZ ts).map (x ::·)
end
def EK (i:Nat) (ρ:aa):aa:=match ρ[i]? with
 | some (some (.tr false t))=>(match pvO t with
   | some x=>ρ.set i (some (.sh x))
   | none=>ρ)
 | _=>ρ
inductive OI where
 | ok (x:PV) (outs:List (Option OV)) | exc (c:String) (fs:XF) (outs:List (Option OV)) | bad
inductive Arg where
 | e (me:aa -> OE) | t (i:Nat) (mp:MP) | b (i:Nat) (mp:MP)
def pB:Option Sl -> Option OV
 | some (.tr true t)=>some t
 | _=>none
def tm (np:Nat):OS -> OI
 | .nx ρ=>.ok .non ((ρ.take np).map pB)
 | .rt ρ (.sh x)=>.ok x ((ρ.take np).map pB)
 | .exc ρ c fs=>.exc c fs ((ρ.take np).map pB)
 | _=>.bad
def jy (n:Nat) (as:List Sl):aa:=as.map some ++ List.replicate (n - as.length) none
def fnI (np n:Nat) (m:aa -> OS) (as:List Sl):OI:=if as.length = np then tm np (m (jy n as)) else .bad
def jv (a:Arg) (ρ:aa):Option Sl:=match a with
 | .e me=>(match me ρ with
   | .ok r=>(iq r).map .sh
   | _=>none)
 | .t i mp=>(match ρ[i]? with
   | some (some (.tr _ t))=>((mp ρ).bind fun π=>t.get π).map (.tr true)
   | _=>none)
 | .b i mp=>(subAt i mp ρ).map .bo
def iX:List Arg -> aa -> Option (List Sl)
 | [],_=>some []
 | a ::as,ρ=>(jv a ρ).bind fun s=>(iX as ρ).map (s ::·)
def iL (ρ₀:aa):Arg -> Option OV -> aa -> aa
 | .t i mp,some u,ρ=>(match ρ[i]? with
   | some (some (.tr io t))=>(match mp ρ₀ with
     | some π=>ρ.set i (some (.tr io (t.put π u)))
     | none=>ρ.set i none)
   | _=>ρ.set i none)
 | .t i _,none,ρ=>ρ.set i none
 | _,_,ρ=>ρ
def eV (ρ₀:aa):List Arg -> List (Option OV) -> aa -> aa
 | [],_,ρ=>ρ
 | a ::as,us,ρ=>eV ρ₀ as us.tail (iL ρ₀ a us.head?.join ρ)
def qG (f:List Sl -> OI) (as:List Arg):aa -> OX:=fun ρ=>match iX as ρ with
 | some ss=>(match f ss with
   | .ok x outs=>.ok (eV ρ as outs ρ) (.sh x)
   | .exc c fs outs=>.exc (eV ρ as outs ρ) c fs
   | .bad=>.bad)
 | none=>.bad
def pX (f:List Sl -> OI) (as:List Arg):aa -> OE:=fun ρ=>match iX as ρ with
 | some ss=>(match f ss with
   | .ok x _=>.ok (.sh x)
   | .exc c fs _=>.exc c fs
   | .bad=>.bad)
 | none=>.bad
def recv (c:String) (m:Str):Option Sl -> Bool
 | some (.tr true (.ob c' ks _))=>c' == c && !ks.contains m
 | some (.bo (.ob c' ks _))=>c' == c && !ks.contains m
 | _=>false
def ke (c:String) (m:Str) (f:List Sl -> OI) (as:List Arg):aa -> OX:=fun ρ=>match as with
 | a ::_=>if recv c m (jv a ρ) = true then qG f as ρ else .bad
 | []=>.bad
def jB (c:String) (m:Str) (f:List Sl -> OI) (as:List Arg):aa -> OE:=fun ρ=>match as with
 | a ::_=>if recv c m (jv a ρ) = true then pX f as ρ else .bad
 | []=>.bad
def pE (c:String) (f:List Sl -> OI):aa -> OD:=fun _=>match f [.tr true (.ob c [] [])] with
 | .ok .non (some t ::_)=>.ok t
 | _=>.bad
def ji (i j:Nat) (mb:aa -> OS):List PV -> aa -> OS
 | [],ρ=>.nx ρ
 | .tup [x,y] ::xs,ρ=>(mb ((ρ.set i (some (.sh x))).set j (some (.sh y)))).turn (ji i j mb xs)
 | _ ::_,_=>.bad
def mX (k:Nat):List PV -> List PV
 | []=>[]
 | x ::xs=>.tup [.int k,x] ::mX (k + 1) xs
def uC (i j:Nat) (ml:aa -> OE) (mb:aa -> OS):aa -> OS:=fun ρ=>(ml ρ).bF ρ fun r=>match qW r with
 | some xs=>ji i j mb (mX 0 xs) ρ
 | none=>.bad
def nU (ml:aa -> OE) (ι:List Nat) (me:aa -> OE):aa -> OE:=fun ρ=>(ml ρ).bind fun r=>match r.pv with
 | .tup xs=>noX (dj me (dz ι ρ) xs)
 | _=>.bad
def fL (mc:aa -> OT) (me:aa -> OE) (ρ:aa):List PV -> OA
 | []=>.ok []
 | x ::xs=>(match mc (ρ ++ [some (.sh x)]) with
   | .ok true=>(me (ρ ++ [some (.sh x)])).eJ fun r=>(match iq r with
     | some y=>(fL mc me ρ xs).eJ fun ys=>.ok (y ::ys)
     | none=>.bad)
   | .ok false=>fL mc me ρ xs
   | _=>.bad)
def nX (ml:aa -> OE) (ι:List Nat) (mc:aa -> OT) (me:aa -> OE):aa -> OE:=fun ρ=>(ml ρ).bind fun r=>match r.pv with
 | .lst xs=>noX (fL mc me (dz ι ρ) xs)
 | _=>.bad
def zP (ma ms:aa -> OE):aa -> OE:=fun ρ=>(ma ρ).bind fun a=>(ms ρ).bind fun k=>match a.pv,k.pv with
 | .lst xs,.int k=>if k = -1 then .ok (.fr xs.reverse) else .bad
 | _,_=>.bad
def FY:PV -> Option RV
 | .lst xs=>some (.sh (.tup xs))
 | .tup xs=>some (.sh (.tup xs))
 | _=>none
mutual
def gq:PV -> PV -> Bool
 | .non,y=>(match y with | .non=>true | _=>false)
 | .bl a,y=>(match y with | .bl b=>a == b | .int j=>(if a then 1 else 0) == j | _=>false)
 | .int i,y=>(match y with | .bl b=>i == (if b then 1 else 0) | .int j=>i == j | _=>false)
 | .str x,y=>(match y with | .str z=>x == z | _=>false)
 | .lst xs,y=>(match y with | .lst ys=>xP xs ys | _=>false)
 | .tup xs,y=>(match y with | .tup ys=>xP xs ys | _=>false)
def xP:List PV -> List PV -> Bool
 | [],ys=>(match ys with | []=>true | _ ::_=>false)
 | x ::xs,ys=>(match ys with | y ::ys=>gq x y && xP xs ys | []=>false)
end
mutual
def CS:PV -> Nat -> Bool
 | .str x,_=>x.cps.all (· < 0x110000)
 | .lst xs,n=>(match n with | 0=>false | n + 1=>xr xs n)
 | .tup xs,n=>(match n with | 0=>false | n + 1=>xr xs n)
 | _,_=>true
def xr:List PV -> Nat -> Bool
 | [],_=>true
 | x ::xs,n=>CS x n && xr xs n
end
def bU:PV -> Bool
 | .lst _=>false
 | .tup _=>false
 | _=>true
def eC:PV -> PV -> Option Bool
 | x,.tup ys=>if ys.all bU = true then some (ys.any fun y=>gq y x) else none
 | x,.lst ys=>if ys.all bU = true then some (ys.any fun y=>gq y x) else none
 | _,_=>none
def gIn:PV -> PV -> Option RV:=fun x y=>(eC x y).map fun b=>.sh (.bl b)
def lr:PV -> PV -> Option RV:=fun x y=>(eC x y).map fun b=>.sh (.bl (!b))
end L2.P
namespace L2.P
open PySem
def ux (kvs:List (Int × PV)):PV -> Option RV
 | .int n=>(kvs.lookup n).map .sh
 | _=>none
def eZ (kvs:List (Int × PV)):PV -> Option RV
 | .int n=>some (.sh ((kvs.lookup n).getD .non))
 | _=>none
end L2.P
namespace L2.P
open PySem
end L2.P
namespace L2
open PySem PySem.Spec PyProof.Rows
section
variable {X:Cx} {pins:List (Addr × Obj)} {σ:St} {H:Hp} {s:Shared} {h':Heap}
theorem Inv.vG {t':Nat} {its:List Addr} {a:Addr} {o:HO} (I:Inv X pins σ H s) (k:∀ b u,b ∉ its -> s.heap.get? b = some u -> h'.get? b = some u) (hf:∀ b ∈ its,kD X pins H b)
  (hp:s.heap.objs.size <= a) (new:gm X.prog X.w (upd H a o) h' a o):Inv X pins σ (upd H a o) { s with heap:=h',toks:=t' }:=by
 have hn:=I.hok.fresh hp
 have nit:∀ b u,H b = some u -> b ∉ its:=fun b u e z=>by rw [(hf b z).1] at e; cases e
 refine I.step (g':=s.gens) (d':=s.drawn) (ch:=its) (fun b hb=>?_) (fun b u _ _ hc e _=>k b u hc e) (fun b u _ _ hc e _=>⟨u.slots,k b u hc e⟩)
  (fun b u _ q n=>by rw [aO (Nat.ne_of_lt (Nat.lt_of_lt_of_le (Heap.lt_size q) hp))]; exact n)
  (fun b u hc e=>⟨u,k b u hc e⟩) (fun b xs q=>by rw [aO (cz q hn)]; exact q) (fun b u xs q=>by rw [aO (cz q hn)]; exact q) (fun b ps q=>⟨#[],by rw [aO (cz q hn),q]; simp⟩) (fun m hm=>?_) (fun b u e=>?_) I.bare
 . obtain ⟨_,f1,f2,f3,f4,f5⟩:=hf b hb
   exact ⟨f3,f1,f4,f5⟩
 . obtain ⟨ob,es,ep,ho,r⟩:=hm
   exact ⟨ob,es,ep,k _ ob (fun z=>(hf _ z).2.1 rfl) ho,r⟩
 . by_cases hb:b = a
   . subst hb; rw [aX] at e; cases e; exact new
   . rw [aO hb] at e
     refine (I.hok b u e).lj (fun c v hc q=>k c v ?_ q) (fun c q=>by rw [aO (cz q hn)]; exact q) fun c xs q=>by rw [aO (cz q hn)]; exact q
     rcases hc with z | z
     . rw [z]; exact nit b u e
     . exact nit c _ z
end
def Ite (K:PySem.W.Frag) (a:Addr):It:=
 ⟨fun i H=>∃ xs x,SqL K H a xs /\ xs[i]? = some x,fun i H v H'=>∃ t x,(∀ xs,SqL K H a xs -> xs[i]? = some x) /\ H t = none /\ v = .ref t /\ H' = upd H t (.tup [.int i,x]),fun i H=>∃ xs,SqL K H a xs /\ xs.length <= i⟩
theorem vF {P:Program} {w:World} {K:PySem.W.Frag} {elts:List Expr} {k:Nat} {pos:Pos} (a e it:Addr) (hei:e ≠ it):
  Turn P w K (.Tuple elts k pos) (Ite K a) [e,it] e (fun i h=>(∃ old,IsEnum h e it i old) /\ h.IsListIter it a i) where
 mem:=by simp
 obj:=fun i h st b hb=>by
  obtain ⟨⟨old,h1⟩,o,h2,c,d⟩:=st
  rcases List.mem_cons.mp hb with z | z
  . subst z; exact ⟨_,h1,fun v z=>by cases z⟩
  . have z':b = it:=by simpa using z
    subst z'; exact ⟨o,h2,fun v z=>by rw [d] at z; cases z⟩
 keep:=fun i h h' st k=>by
  obtain ⟨⟨old,h1⟩,h2⟩:=st
  exact ⟨⟨old,k e (by simp) _ h1⟩,h2.at fun o x=>k it (by simp) o x⟩
 item:=by
  intro X hP hw hK hc i pins s σ H E I hf st hg
  subst hP hw hK
  obtain ⟨xs,x,hq,hx⟩:=hg
  obtain ⟨its,rv,p,hz⟩:=I.list hq
  obtain ⟨u,hu,ru⟩:=rv.get hx
  obtain ⟨⟨old,he⟩,hit⟩:=st
  refine wpAny_pyNext_enum_item he hit p.isList (x:=u) (by simpa using hu) hei fun h1 ho hit1 hT hsz hk=>⟨_,rfl,?_⟩
  refine wpAny_letOwnedTupleGo_enum ho fun h2 he2 hs2=>?_
  have hT2:h2.get? s.heap.objs.size = some { cls:=.type "tuple",data:=.seq #[.int i s.toks,u] }:=(hs2.2 _ (Nat.ne_of_gt (Heap.lt_size he))).trans hT
  have nH:H s.heap.objs.size = none:=I.hok.fresh (Nat.le_refl _)
  refine ⟨.ref s.heap.objs.size,upd H s.heap.objs.size (.tup [.int i,x]),I.vG (its:=[e,it]) (t':=s.toks + 1) (fun b o hb q=>?_) hf (Nat.le_refl _) ?_,rfl,⟨_,x,fun ys hy=>by rw [I.rA hy hq]; exact hx,nH,rfl,rfl⟩,⟨⟨u,by simpa using he2⟩,?_⟩,fun b hb=>?_⟩
  . have nb:b ≠ e /\ b ≠ it:=by simpa using hb
    exact (hs2.2 b nb.1).trans (hk b o nb.1 nb.2 q)
  . exact ⟨by show 2 <= sizeLine; decide,[.int i s.toks,u],.cons ⟨_,rfl⟩ (.cons ru .nil),⟨_,hT2,rfl,_,rfl⟩⟩
  . exact hit1.at fun o y=>(hs2.2 it hei.symm).trans y
  . have:b < s.heap.objs.size:=by
     rcases List.mem_cons.mp hb with z | z
     . subst z; exact Heap.lt_size he
     . have z':b = it:=by simpa using z
       subst z'; obtain ⟨_,y,_⟩:=hit; exact Heap.lt_size y
    rw [aO (Nat.ne_of_lt this)]
    exact (hf b hb).1
 done:=by
  intro X hP hw hK hc i pins s σ H E I hf st hg
  subst hP hw hK
  obtain ⟨xs,hq,hx⟩:=hg
  obtain ⟨its,rv,p,hz⟩:=I.list hq
  obtain ⟨⟨old,he⟩,hit⟩:=st
  obtain ⟨f0,f1,f2,f3,f4,f5⟩:=hf it (by simp)
  have hl:=rv.length
  exact wpAny_pyNext_enum_end (I.ok.hd hc) he hit p.isList (by simp; omega) fun h' eb=>⟨rfl,I.turned (t':=s.toks) (fun b o hb e=>eb b o hb e) f0 f1 f3 f4 f5⟩
 self:=fun _ _ _ _ _ st h=>by
  obtain ⟨⟨old,he⟩,_⟩:=st
  exact wpAny_pyIter_enum he h
section
variable {X:Cx}
def xi (K:PySem.W.Frag) (ta:TA):TI:=fun σ H R=>ta σ H fun vs H1=>∃ a,vs = [.ref a] /\ (∃ xs,SqL K H1 a xs) /\ R (Ite K a) H1
theorem Aj {elts:List Expr} {k:Nat} {tp:Pos} {a:Expr} {ta:TA} {p pos:Pos} (hg:Gl X "enumerate") (hm:X.mg "enumerate" = none) (ha:PA X [a] ta) (hs:starEach [a] X.env = [(false,eval a X.env)]:=by rfl):
  PI X (.Tuple elts k tp) (.Call (.Name "enumerate" p) [a] [] pos) (xi X.K ta):=by
 intro pins s σ H R I h
 refine Call_ (lY I hg hm (show bootBuiltins "enumerate" = some (.type "enumerate") by rfl) (PyProof.Rows.callWith_type1 (thn (ha pos pins s σ H _ I h) fun us s1 ⟨vs,H1,I1,r1,q1⟩=>?_) hs rfl))
 obtain ⟨l,e,⟨xs,hq⟩,q⟩:=q1
 subst e
 cases r1 with
 | cons r rr=>
   cases rr
   cases r
   obtain ⟨its,rv,p,hz⟩:=I1.list hq
   refine call_enumerate_list p.isList fun h' he hit hsz hk=>?_
   refine wpAny_pyIter_enum he ?_
   have I2:Inv X pins σ H1 { s1 with heap:=h' }:=I1.kept (t':=s1.toks) hk
   refine ⟨s1.heap.objs.size + 1,[s1.heap.objs.size + 1,s1.heap.objs.size],_,_,H1,rfl,I2,vF l _ _ (Nat.succ_ne_self _),⟨⟨.none,he⟩,hit⟩,fun b hb=>?_,q⟩
   have:s1.heap.objs.size <= b:=by
    rcases List.mem_cons.mp hb with z | z
    . subst z; exact Nat.le_succ _
    . have z':b = s1.heap.objs.size:=by simpa using z
      subst z'; exact Nat.le_refl _
   exact I1.va this (I1.hok.fresh this)
end
theorem v5 {K:PySem.W.Frag} {a:Addr} {xs:List V} {g:TG} {tb:TS} {D:Ends} {σ:St} {H:Hp} (Pv:Nat -> St -> Hp -> Prop) (h0:Pv 0 σ H) (hl:∀ i σ H,i <= xs.length -> Pv i σ H -> SqL K H a xs)
  (hs:∀ i x σ H t,xs[i]? = some x -> Pv i σ H -> H t = none -> g (.ref t) σ (upd H t (.tup [.int i,x])) fun σ2 H2=>tb { D with nx:=Pv (i + 1),ct:=Pv (i + 1),bk:=D.nx } σ2 H2) (hd:∀ σ H,Pv xs.length σ H -> D.nx σ H):
  ∃ W:Nat -> Nat -> St -> Hp -> Prop,(∃ m,W 0 m σ H) /\ ∀ i m σ H,W i m σ H ->
    ((Ite K a).stop i H /\ D.nx σ H) \/ ((Ite K a).go i H /\ ∃ N:St -> Hp -> Prop,(∀ σ' H',N σ' H' -> ∃ m',m' < m /\ W (i + 1) m' σ' H') /\ ∀ x H',(Ite K a).yld i H x H' -> g x σ H' fun σ2 H2=>tb { D with nx:=N,ct:=N,bk:=D.nx } σ2 H2):=by
 refine ⟨fun i m σ H=>m = xs.length - i /\ i <= xs.length /\ Pv i σ H,⟨xs.length,by simp,Nat.zero_le _,h0⟩,?_⟩
 rintro i m σ H ⟨rfl,hi,p⟩
 have q:=hl i σ H hi p
 by_cases hlt:i < xs.length
 . refine .inr ⟨⟨xs,xs[i],q,by simp [hlt]⟩,Pv (i + 1),fun σ' H' p'=>⟨xs.length - (i + 1),by omega,rfl,hlt,p'⟩,fun x H' y=>?_⟩
   obtain ⟨t,z,y1,y3,e1,e2⟩:=y
   subst e1 e2
   exact hs i z σ _ t (y1 xs q) p y3
 . have e:i = xs.length:=by omega
   subst e
   exact .inl ⟨⟨xs,q,Nat.le_refl _⟩,hd σ H p⟩
end L2
namespace L2.P
open PySem PySem.Spec PyProof.Rows L2 L2.E PySem.SeqAt
section
variable {K:PySem.W.Frag} {S H:Hp}
theorem RdV.rep {x:PV} {v:V} (h:RdV K S H x v) (s:az S H):Rep K H x v:=by
 cases x with
 | lst xs=>obtain ⟨p,vs,e,q,r⟩:=h; unfold Rep; exact ⟨p,vs,e,q,r.mono s⟩
 | non=>exact Rep.mono s h
 | bl b=>exact Rep.mono s h
 | int i=>exact Rep.mono s h
 | str x=>exact Rep.mono s h
 | tup xs=>exact Rep.mono s h
end
end L2.P
namespace L2.P
open PySem PySem.Spec PyProof.Rows L2 L2.E PySem.SeqAt
section
variable {X:Cx} {K:PySem.W.Frag} {S H:Hp}
theorem ou {x:PV} {v:V} (h:Rep K H x v) (f:bU x = true):kQ v = true:=by
 cases x with
 | lst xs=>cases f
 | tup xs=>cases f
 | non=>unfold Rep at h; subst h; rfl
 | bl b=>unfold Rep at h; subst h; rfl
 | int b=>unfold Rep at h; subst h; rfl
 | str b=>unfold Rep at h; subst h; rfl
theorem yU {x y:PV} {v u:V} (h:Rep K H x v) (k:Rep K H y u) (f:bU x = true) (g:bU y = true):eqV u v = gq y x:=by
 cases x <;> first | (cases f; done) | skip
 all_goals (unfold Rep at h; subst h; cases y <;> first | (cases g; done) | (unfold Rep at k; subst k; simp [eqV,gq]))
theorem pR {xs:List PV} {vs:List V} (h:bG K H xs vs) (f:xs.all bU = true):vs.all kQ = true:=by
 induction xs generalizing vs with
 | nil=>rw [h.nil_inv]; rfl
 | cons x xs ih=>
   obtain ⟨v,r,rfl,h1,h2⟩:=h.cons_inv
   rw [List.all_cons,Bool.and_eq_true] at f ⊢
   exact ⟨ou h1 f.1,ih h2 f.2⟩
theorem sx {x:PV} {v:V} {xs:List PV} {vs:List V} (hx:Rep K H x v) (g:bU x = true) (h:bG K H xs vs) (f:xs.all bU = true):inV v vs = xs.any fun y=>gq y x:=by
 induction xs generalizing vs with
 | nil=>rw [h.nil_inv]; rfl
 | cons y xs ih=>
   obtain ⟨u,r,rfl,h1,h2⟩:=h.cons_inv
   rw [List.all_cons,Bool.and_eq_true] at f
   have:=ih h2 f.2
   unfold inV at this ⊢
   rw [List.any_cons,List.any_cons,this,yU hx h1 g f.1]
theorem rD {x:PV} {xs:List PV} (g:bU x = false) (f:xs.all bU = true):(xs.any fun y=>gq y x) = false:=by
 induction xs with
 | nil=>rfl
 | cons y xs ih=>
   rw [List.all_cons,Bool.and_eq_true] at f
   rw [List.any_cons,ih f.2,Bool.or_false]
   have f1:=f.1
   cases y <;> first | (cases f1; done) | (cases x <;> first | (cases g; done) | simp [gq])
theorem qy {α:Type} (l:List α):(l.any fun _=>false) = false:=by induction l <;> simp_all
theorem lL {A:Around} {s:Shared} {pins:List (Addr × Obj)} {σ:St} (I:Inv X pins σ H s) (hu:A.units < cLine) {x:PV} {v:V} {a:Value} (hx:Rep X.K H x v) (ra:RelV v a) (g:bU x = false):
  ∀ {xs:List PV} {vs:List V} {us:List Value},bG X.K H xs vs -> Vals vs us -> xs.all bU = true -> ∀ u ∈ us,EqAt A s u a false:=by
 intro xs
 induction xs with
 | nil=>intro vs us h r _ u hu; rw [h.nil_inv] at r; cases r; cases hu
 | cons y xs ih=>
   intro vs us h r f u hm
   obtain ⟨w,t,rfl,h1,h2⟩:=h.cons_inv
   rw [List.all_cons,Bool.and_eq_true] at f
   cases r with
   | cons r1 r2=>
     rcases List.mem_cons.mp hm with rfl | hm
     . cases x with
       | non=>cases g
       | bl b=>cases g
       | int b=>cases g
       | str b=>cases g
       | lst zs=>
         unfold Rep at hx
         obtain ⟨p,us',rfl,hq,_⟩:=hx
         cases ra
         obtain ⟨its,_,pl,_⟩:=I.list hq
         cases y with
         | non=>unfold Rep at h1; subst h1; cases r1; exact EqAt.none_list pl.isList hu
         | bl b=>unfold Rep at h1; subst h1; cases r1; exact EqAt.bool_list b pl.isList hu
         | int b=>unfold Rep at h1; subst h1; obtain ⟨t',rfl⟩:=r1; exact EqAt.int_list b t' pl.isList hu
         | str b=>unfold Rep at h1; subst h1; obtain ⟨t',rfl⟩:=r1; exact EqAt.str_list b t' pl.isList hu
         | lst _=>cases f.1
         | tup _=>cases f.1
       | tup zs=>
         unfold Rep at hx
         obtain ⟨p,us',rfl,hq,_⟩:=hx
         cases ra
         obtain ⟨its,_,pl,_⟩:=I.tuple hq
         cases y with
         | non=>unfold Rep at h1; subst h1; cases r1; exact EqAt.none_tuple pl hu
         | bl b=>unfold Rep at h1; subst h1; cases r1; exact EqAt.bool_tuple b pl hu
         | int b=>unfold Rep at h1; subst h1; obtain ⟨t',rfl⟩:=r1; exact EqAt.int_tuple b t' pl hu
         | str b=>unfold Rep at h1; subst h1; obtain ⟨t',rfl⟩:=r1; exact EqAt.str_tuple b t' pl hu
         | lst _=>cases f.1
         | tup _=>cases f.1
     . exact ih h2 r2 f.2 u hm
def yj (K:PySem.W.Frag) (A:Around) (neg:Bool):R2:=fun v u H Q=>∃ x ys p vs,Rep K H x v /\ u = .ref p /\ (SqL K H p vs \/ SqT K H p vs) /\ bG K H ys vs /\ ys.all bU = true /\ A.units + 64 < cLine /\ Q (.bl (if neg then !(ys.any fun y=>gq y x) else ys.any fun y=>gq y x)) H
theorem gT:OpR X (compareOp .In) (yj X.K X.A false):=by
 intro pins s σ H v u a b Q I rx ry h
 obtain ⟨x,ys,p,vs,hx,rfl,hq,hr,hf,hu,q⟩:=h
 cases g:bU x with
 | true=>exact vn pins s σ H v _ a b Q I rx ry ⟨p,vs,rfl,hq,ou hx g,pR hr hf,by rw [sx hx g hr hf]; exact q⟩
 | false=>
   rw [rD g hf] at q
   cases ry
   rcases hq with hq | hq
   . obtain ⟨its,r,pl,hz⟩:=I.list hq
     refine SeqAt.in_listAt (fun _=>false) pl.isList (fun w hw=>lL I (by show X.A.units + 1 < cLine; omega) hx rx g hr r hf w (by simpa using hw)) ⟨.bl _,H,I,rfl,?_⟩
     rw [show (its.toArray.any fun _=>false) = false by simp [qy]]
     exact q
   . obtain ⟨its,r,pl,hz⟩:=I.tuple hq
     refine SeqAt.in_tupleAt (fun _=>false) pl (fun w hw=>lL I (by show X.A.units + 1 < cLine; omega) hx rx g hr r hf w (by simpa using hw)) ⟨.bl _,H,I,rfl,?_⟩
     rw [show (its.toArray.any fun _=>false) = false by simp [qy]]
     exact q
theorem o8:OpR X (compareOp .NotIn) (yj X.K X.A true):=by
 intro pins s σ H v u a b Q I rx ry h
 obtain ⟨x,ys,p,vs,hx,rfl,hq,hr,hf,hu,q⟩:=h
 cases g:bU x with
 | true=>exact qp pins s σ H v _ a b Q I rx ry ⟨p,vs,rfl,hq,ou hx g,pR hr hf,by rw [sx hx g hr hf]; exact q⟩
 | false=>
   rw [rD g hf] at q
   cases ry
   rcases hq with hq | hq
   . obtain ⟨its,r,pl,hz⟩:=I.list hq
     refine SeqAt.notIn_listAt (fun _=>false) pl.isList (fun w hw=>lL I (by show X.A.units + 1 < cLine; omega) hx rx g hr r hf w (by simpa using hw)) ⟨.bl _,H,I,rfl,?_⟩
     rw [show (its.toArray.any fun _=>false) = false by simp [qy]]
     exact q
   . obtain ⟨its,r,pl,hz⟩:=I.tuple hq
     refine SeqAt.notIn_tupleAt (fun _=>false) pl (fun w hw=>lL I (by show X.A.units + 1 < cLine; omega) hx rx g hr r hf w (by simpa using hw)) ⟨.bl _,H,I,rfl,?_⟩
     rw [show (its.toArray.any fun _=>false) = false by simp [qy]]
     exact q
theorem uB {A:Around} {neg:Bool} {x y:PV} {v u:V} {b:Bool} {Q:VK} (hu:A.units + 64 < cLine) (I:az S H) (hx:RdV K S H x v) (hy:RdV K S H y u) (e:eC x y = some b) (k:∀ z S' H',bb S H S' H' -> iU K H S' H' (.sh (.bl (if neg then !b else b))) z -> Q z H'):yj K A neg v u H Q:=by
 cases y with
 | tup ys=>
   simp only [eC] at e
   by_cases hf:ys.all bU = true
   . rw [if_pos hf] at e
     cases e
     obtain ⟨p,vs,rfl,hq,hr⟩:=kh hy
     exact ⟨x,ys,p,vs,hx.rep I,rfl,.inr (az.tup I hq),hr.mono I,hf,hu,k _ S H (bb.refl I) j6⟩
   . rw [if_neg hf] at e; cases e
 | lst ys=>
   simp only [eC] at e
   by_cases hf:ys.all bU = true
   . rw [if_pos hf] at e
     cases e
     obtain ⟨p,vs,rfl,hq,hr⟩:=gj hy
     exact ⟨x,ys,p,vs,hx.rep I,rfl,.inl hq,hr.mono I,hf,hu,k _ S H (bb.refl I) j6⟩
   . rw [if_neg hf] at e; cases e
 | _=>simp only [eC] at e; cases e
theorem jI {A:Around} (hu:A.units + 64 < cLine):JR K (yj K A false) gIn:=by
 intro S H x y v u rr Q I hx hy e k
 obtain ⟨b,e1,e2⟩:=Option.map_eq_some_iff.mp e
 subst e2
 exact uB hu I hx hy e1 k
theorem sA {A:Around} (hu:A.units + 64 < cLine):JR K (yj K A true) lr:=by
 intro S H x y v u rr Q I hx hy e k
 obtain ⟨b,e1,e2⟩:=Option.map_eq_some_iff.mp e
 subst e2
 exact uB hu I hx hy e1 k
end
end L2.P
namespace L2.P
open PySem PySem.Spec PyProof.Rows L2 L2.E
section
variable {K:PySem.W.Frag} {cls:String -> Option Addr} {W:XW} {Av G S₀ S S' H H' B B':Hp} {ρ:aa} {σ:St} {Q:VK}
abbrev g2 (K:PySem.W.Frag) (i j:Nat):TG:=C9 K 2 (uT (iE i) (uT (iE j) Cq))
theorem ud {i j:Nat} {tb:TS} {mb:aa -> OS} {D:Ends} {x y:PV} {xs:List PV} {v u:V} {t:Addr} {N:St -> Hp -> Prop} (hb:JS K cls W tb mb) (I:SR K cls Av G S₀ ρ σ S H) (hx:Rep K S x v) (hy:Rep K S y u) (ht:SqT K H t [v,u])
  (p:fQ K cls W Av G S₀ S D (ji i j mb (.tup [x,y] ::xs) ρ)) (hN:∀ ρ' σ' S' H',SR K cls Av G S₀ ρ' σ' S' H' -> az S S' -> fQ K cls W Av G S₀ S' D (ji i j mb xs ρ') -> N σ' H'):
  g2 K i j (.ref t) σ H fun σ2 H2=>tb { D with nx:=N,ct:=N,bk:=D.nx } σ2 H2:=by
 refine ⟨t,_,rfl,ht,rfl,_,_,rfl,_,_,rfl,rfl,?_⟩
 refine hb Av G S₀ _ _ S H _ ((I.su hx).su hy) ?_
 unfold ji at p
 cases e:mb ((ρ.set i (some (.sh x))).set j (some (.sh y))) with
 | nx ρ'=>rw [e] at p; exact fun σ' S' H' I' s'=>hN ρ' σ' S' H' I' s' (p.back s')
 | ct ρ'=>rw [e] at p; exact fun σ' S' H' I' s'=>hN ρ' σ' S' H' I' s' (p.back s')
 | bk ρ'=>rw [e] at p; exact p
 | rt ρ' r=>rw [e] at p; exact p
 | exc ρ' c fs=>rw [e] at p; exact p
 | bad=>rw [e] at p; exact p
theorem sX (xs:List PV):∀ (k n:Nat) (y:PV),xs[k]? = some y -> mX (n + k) (xs.drop k) = .tup [.int ((n + k:Nat):Int),y] ::mX (n + (k + 1)) (xs.drop (k + 1)):=by
 intro k n y hy
 have hk:k < xs.length:=(List.getElem?_eq_some_iff.mp hy).1
 rw [List.drop_eq_getElem_cons hk]
 have:xs[k] = y:=(List.getElem?_eq_some_iff.mp hy).2
 rw [this]
 rfl
theorem Ah {i j:Nat} {tl:TE} {tb:TS} {ml:aa -> OE} {mb:aa -> OS} (hl:JE K cls W tl ml) (hb:JS K cls W tb mb):JS K cls W (wu (xi K (iI tl jM)) (g2 K i j) tb) (uC i j ml mb):=by
 intro Av G S₀ ρ σ S H D I p
 refine hl Av G S₀ ρ σ S H _ I ?_
 unfold uC at p
 cases em:ml ρ with
 | exc c fs=>rw [em] at p; exact fun a C S' H' w x=>p a C σ S' H' (I.grow w) w.s x
 | bad=>rw [em] at p; exact p
 | ok r=>
   rw [em] at p
   intro v S1 H1 w1 r1
   simp only [OE.bF] at p
   cases ei:qW r with
   | none=>rw [ei] at p; exact p.elim
   | some xs=>
     rw [ei] at p
     have es:iq r = some (.lst xs):=by
      cases r with
      | sh y=>cases y <;> cases ei <;> rfl
      | fr ys=>cases ei; rfl
      | al ys=>cases ei
     obtain ⟨S2,w2,s2,rx⟩:=r1.share w1 es
     have I2:=I.grow w2
     unfold Rep at rx
     obtain ⟨a,vs,rfl,hq,hr⟩:=rx
     show ∃ a',[V.ref a] = [V.ref a'] /\ _
     refine ⟨a,rfl,⟨vs,az.seq I2.sh hq⟩,?_⟩
     refine v5 (xs:=vs) (fun k σ' H'=>∃ ρ' S',SR K cls Av G S₀ ρ' σ' S' H' /\ az S2 S' /\ fQ K cls W Av G S₀ S' D (ji i j mb (mX (0 + k) (xs.drop k)) ρ'))
      ⟨ρ,S2,I2,az.refl _,p.back w2.s⟩ ?_ ?_ ?_
     . rintro k σ' H' _ ⟨ρ',S',I',s',_⟩
       exact az.seq (s'.trans I'.sh) hq
     . rintro k x σ' H' t hx ⟨ρ',S',I',s',p'⟩ ht
       obtain ⟨y,hy,ry⟩:=hr.BE hx
       rw [sX xs k 0 y hy] at p'
       have w3:bb S' H' S' (upd H' t (.tup [.int k,x])):=bb.heap I'.sh ht
       refine ud hb (I'.grow w3) (x:=.int ((0 + k:Nat):Int)) (v:=.int k) (by unfold Rep; rw [Nat.zero_add]) (Rep.mono s' ry) (SqT.new aX) p' fun ρ2 σ2 S3 H3 I3 s3 p3=>⟨ρ2,S3,I3,s'.trans s3,p3⟩
     . rintro σ' H' ⟨ρ',S',I',s',p'⟩
       rw [List.drop_of_length_le (by rw [hr.length]; exact Nat.le_refl _)] at p'
       exact p' σ' S' H' I' (az.refl _)
end
end L2.P
namespace L2.E
open PySem PySem.Spec PyProof.Rows L2
theorem zk {X:Cx} {elts:List Expr} {k:Nat} {tp:Pos} {a:Expr} {ta:TA} {p pos:Pos} (hg:Gl X "enumerate") (hm:X.mg "enumerate" = none) (ha:QA X [a] ta) (hs:starEach [a] X.env = [(false,eval a X.env)]:=by rfl):
  QI X (.Tuple elts k tp) (.Call (.Name "enumerate" p) [a] [] pos) (xi X.K ta):=⟨Aj hg hm ha.out hs⟩
structure QGs (X:Cx) (es:List Expr) (t:TGs):Prop where
 out:PGs X es t
theorem yZ {X:Cx}:QGs X [] Cq:=⟨zl⟩
theorem si {X:Cx} {e:Expr} {es:List Expr} {t:TG} {u:TGs} (h1:QG X e t) (h2:QGs X es u)
  (hs:(assignEach (e ::es) X.env).map (·.2) = assign e X.env ::(assignEach es X.env).map (·.2):=by rfl):QGs X (e ::es) (uT t u):=⟨yt h1.out h2.out hs⟩
theorem B6 {X:Cx} {es:List Expr} {k:Nat} {t:TGs} {n:Nat} {pos:Pos} (hc:X.calm = true) (h:QGs X es t)
  (hn:(assignEach es X.env).length = n:=by rfl) (hst:(assignEach es X.env).findIdx? (·.1) = none:=by rfl):QG X (.Tuple es k pos) (C9 X.K n t):=⟨Bj hc h.out hn hst⟩
end L2.E
namespace L2.P
open PySem PySem.Spec PyProof.Rows L2 L2.E
section
variable {K:PySem.W.Frag} {cls:String -> Option Addr} {W:XW} {Av G S₀ S S' H H' B B':Hp} {ρ:aa} {σ:St} {Q:VK} {F:Nat -> List Addr}
theorem bH.length {ts:List OV} {vs:List V} {f:List Addr} (h:bH K cls S H ts vs f):vs.length = ts.length:=by
 induction ts generalizing vs f with
 | nil=>unfold bH at h; rw [h.1]; rfl
 | cons t ts ih=>
   unfold bH at h
   obtain ⟨v,r,f1,f2,rfl,_,_,h2⟩:=h
   simp [ih h2]
theorem bH.cons_inv {t:OV} {ts:List OV} {vs:List V} {fp:List Addr} (h:bH K cls S H (t ::ts) vs fp):∃ v r f1 f2,vs = v ::r /\ fp = f1 ++ f2 /\ bJ K cls S H t v f1 /\ bH K cls S H ts r f2:=by unfold bH at h; exact h
theorem bH.cons {t:OV} {ts:List OV} {v:V} {vs:List V} {f1 f2:List Addr} (h:bJ K cls S H t v f1) (r:bH K cls S H ts vs f2):bH K cls S H (t ::ts) (v ::vs) (f1 ++ f2):=by unfold bH; exact ⟨v,vs,f1,f2,rfl,rfl,h,r⟩
theorem bH.nil:bH K cls S H [] [] []:=by unfold bH; exact ⟨rfl,rfl⟩
theorem bH.append {ts us:List OV} {vs ws:List V} {f g:List Addr} (h:bH K cls S H ts vs f) (k:bH K cls S H us ws g):bH K cls S H (ts ++ us) (vs ++ ws) (f ++ g):=by
 induction ts generalizing vs f with
 | nil=>unfold bH at h; rw [h.1,h.2]; exact k
 | cons t ts ih=>
   obtain ⟨v,r,f1,f2,rfl,rfl,h1,h2⟩:=h.cons_inv
   have:=bH.cons h1 (ih h2)
   rw [List.append_assoc]
   exact this
theorem bH.shs {xs:List PV} {vs:List V} (h:bG K S xs vs):bH K cls S H (xs.map .sh) vs []:=by
 induction xs generalizing vs with
 | nil=>rw [h.nil_inv]; exact .nil
 | cons x xs ih=>
   obtain ⟨v,r,rfl,h1,h2⟩:=h.cons_inv
   exact bH.cons (f1:=[]) (by unfold bJ; exact ⟨rfl,h1⟩) (ih h2)
theorem bH.flat {ts:List OV} {xs:List PV} {vs:List V} {f:List Addr} (e:rB ts = some xs) (h:bH K cls S H ts vs f):bG K S xs vs /\ f = []:=by
 induction ts generalizing xs vs f with
 | nil=>cases e; unfold bH at h; rw [h.1,h.2]; exact ⟨.nil,rfl⟩
 | cons t ts ih=>
   cases t with
   | sh x=>
     obtain ⟨ys,e1,e2⟩:=Option.map_eq_some_iff.mp e
     subst e2
     obtain ⟨v,r,f1,f2,rfl,rfl,h1,h2⟩:=h.cons_inv
     unfold bJ at h1
     obtain ⟨h3,h4⟩:=ih e1 h2
     exact ⟨.cons h1.2 h3,by rw [h1.1,h4]; rfl⟩
   | ol _=>cases e
   | ob _ _ _=>cases e
   | di _=>cases e
   | dt _=>cases e
theorem bH.at {ts:List OV} {vs:List V} {f:List Addr} {k:Nat} {u:OV} (h:bH K cls S H ts vs f) (e:ts[k]? = some u):
  ∃ w f1 rest,vs[k]? = some w /\ bJ K cls S H u w f1 /\ f.Perm (f1 ++ rest) /\
    ∀ S' H' u' w' f',az S S' -> bJ K cls S' H' u' w' f' -> (∀ a ∈ rest,∀ o,H a = some o -> H' a = some o) -> ∃ g,bH K cls S' H' (ts.set k u') (vs.set k w') g /\ g.Perm (f' ++ rest):=by
 induction ts generalizing vs f k with
 | nil=>simp at e
 | cons t ts ih=>
   obtain ⟨v,r,f1,f2,rfl,rfl,h1,h2⟩:=h.cons_inv
   cases k with
   | zero=>
     simp at e
     subst e
     refine ⟨v,f1,f2,rfl,h1,List.Perm.refl _,fun S' H' u' w' f' s r' g=>?_⟩
     exact ⟨f' ++ f2,bH.cons r' (h2.mono s g),List.Perm.refl _⟩
   | succ k=>
     simp at e
     obtain ⟨w,g1,rest,e1,r1,p1,c1⟩:=ih h2 e
     refine ⟨w,g1,f1 ++ rest,by simpa using e1,r1,?_,fun S' H' u' w' f' s r' g=>?_⟩
     . have:(f1 ++ f2).Perm (f1 ++ (g1 ++ rest)):=List.Perm.append_left f1 p1
       refine this.trans ?_
       rw [<- List.append_assoc,<- List.append_assoc]
       exact List.Perm.append_right rest List.perm_append_comm
     . obtain ⟨g2,r2,p2⟩:=c1 S' H' u' w' f' s r' fun a ha=>g a (List.mem_append_right _ ha)
       refine ⟨f1 ++ g2,bH.cons (h1.mono s fun a ha=>g a (List.mem_append_left _ ha)) r2,?_⟩
       refine (List.Perm.append_left f1 p2).trans ?_
       rw [<- List.append_assoc,<- List.append_assoc]
       exact List.Perm.append_right rest List.perm_append_comm
theorem u3 {ks:List Str} {ts:List OV} {f:Str} {u:OV} (h:jX ks ts f = some u):∃ k,ts[k]? = some u /\ ks[k]? = some f /\ (∀ u',o3 ks ts f u' = ts.set k u') /\ ∀ {α:Type} (us:List (Str × α)),us.map (·.1) = ks -> us.lookup f = (us.map (·.2))[k]?:=by
 induction ks generalizing ts with
 | nil=>simp [jX] at h
 | cons g ks ih=>
   cases ts with
   | nil=>simp [jX] at h
   | cons t ts=>
     unfold jX at h
     split at h
     . rename_i e
       subst e
       cases h
       refine ⟨0,rfl,rfl,fun u'=>by simp [o3],fun us eu=>?_⟩
       cases us with
       | nil=>cases eu
       | cons q us=>
         simp at eu
         obtain ⟨a,b⟩:=q
         simp at eu
         rw [<- eu.1]
         simp [List.lookup]
     . rename_i ne
       obtain ⟨k,e1,e2,e3,e4⟩:=ih h
       refine ⟨k + 1,by simpa using e1,by simpa using e2,fun u'=>by simp [o3,ne,e3],fun us eu=>?_⟩
       cases us with
       | nil=>cases eu
       | cons q us=>
         obtain ⟨a,b⟩:=q
         simp at eu
         have:(f == a) = false:=by rw [eu.1]; simpa using Ne.symm ne
         simp [List.lookup,this,e4 us eu.2]
def pK (H:Hp):Stp -> V -> V -> Prop
 | .ix k,v,w=>∃ p vs,v = .ref p /\ H p = some (.lst vs) /\ vs[k]? = some w
 | .fd f,v,w=>∃ p C dx us,v = .ref p /\ H p = some (.ins C dx us) /\ us.lookup f = some w
def gN (H:Hp):V -> List Stp -> V -> Prop
 | v,[],w=>w = v
 | v,s ::π,w=>∃ u,pK H s v u /\ gN H u π w
theorem pK.inj {s:Stp} {v w w':V} (h:pK H s v w) (k:pK H s v w'):w = w':=by
 cases s with
 | ix n=>
   obtain ⟨p,vs,rfl,e1,e2⟩:=h
   obtain ⟨p',vs',e3,e4,e5⟩:=k
   cases e3
   rw [e1] at e4; cases e4
   rw [e2] at e5; cases e5; rfl
 | fd f=>
   obtain ⟨p,C,dx,us,rfl,e1,e2⟩:=h
   obtain ⟨p',C',dx',us',e3,e4,e5⟩:=k
   cases e3
   rw [e1] at e4; cases e4
   rw [e2] at e5; cases e5; rfl
theorem gN.inj {π:List Stp}:∀ {v w w':V},gN H v π w -> gN H v π w' -> w = w':=by
 induction π with
 | nil=>intro v w w' h k; rw [h,k]
 | cons s π ih=>
   rintro v w w' ⟨u,h1,h2⟩ ⟨u',k1,k2⟩
   have:=h1.inj k1
   subst this
   exact ih h2 k2
theorem gN.snoc {π:List Stp} {s:Stp}:∀ {v w u:V},gN H v π w -> pK H s w u -> gN H v (π ++ [s]) u:=by
 induction π with
 | nil=>intro v w u h k; rw [h] at k; exact ⟨u,k,rfl⟩
 | cons t π ih=>
   rintro v w u ⟨x,h1,h2⟩ k
   exact ⟨x,h1,ih h2 k⟩
theorem gN.mono {π:List Stp} (g:az H H'):∀ {v w:V},gN H v π w -> gN H' v π w:=by
 induction π with
 | nil=>intro v w h; exact h
 | cons t π ih=>
   rintro v w ⟨x,h1,h2⟩
   refine ⟨x,?_,ih h2⟩
   cases t with
   | ix k=>obtain ⟨p,vs,e,e1,e2⟩:=h1; exact ⟨p,vs,e,g _ _ e1,e2⟩
   | fd f=>obtain ⟨p,C,dx,us,e,e1,e2⟩:=h1; exact ⟨p,C,dx,us,e,g _ _ e1,e2⟩
theorem bJ.step {t u:OV} {v:V} {fp:List Addr} {s:Stp} (h:bJ K cls S H t v fp) (e:t.at1 s = some u):
  ∃ w f1 rest,pK H s v w /\ bJ K cls S H u w f1 /\ fp.Perm (f1 ++ rest) /\
    ∀ S' H' u' f',az S S' -> bJ K cls S' H' u' w f' -> (∀ a ∈ rest,∀ o,H a = some o -> H' a = some o) -> ∃ g,bJ K cls S' H' (t.we s u') v g /\ g.Perm (f' ++ rest):=by
 cases t with
 | sh x=>cases s <;> cases e
 | di x=>cases s <;> cases e
 | dt x=>cases s <;> cases e
 | ol ts=>
   cases s with
   | fd f=>cases e
   | ix k=>
     unfold bJ at h
     obtain ⟨p,vs,f,rfl,hp,rfl,r⟩:=h
     obtain ⟨w,f1,rest,e1,r1,p1,c1⟩:=r.at e
     refine ⟨w,f1,p ::rest,⟨p,vs,rfl,hp,e1⟩,r1,?_,fun S' H' u' f' s r' g=>?_⟩
     . exact (List.Perm.cons p p1).trans (List.perm_middle.symm)
     . obtain ⟨g2,r2,p2⟩:=c1 S' H' u' w f' s r' fun a ha=>g a (by simp [ha])
       refine ⟨p ::g2,?_,(List.Perm.cons p p2).trans List.perm_middle.symm⟩
       rw [i3 e1] at r2
       unfold OV.we bJ
       exact ⟨p,vs,g2,rfl,g p (by simp) _ hp,rfl,r2⟩
 | ob c ks ts=>
   cases s with
   | ix k=>cases e
   | fd f=>
     unfold bJ at h
     obtain ⟨p,C,dx,us,ff,rfl,hc,hp,hd,hk,rfl,r⟩:=h
     obtain ⟨k,e1,e2,e3,e4⟩:=u3 e
     obtain ⟨w,f1,rest,q1,r1,p1,c1⟩:=r.at e1
     refine ⟨w,f1,p ::dx ::rest,⟨p,C,dx,us,rfl,hp,by rw [e4 us hk]; exact q1⟩,r1,?_,fun S' H' u' f' s r' g=>?_⟩
     . exact ((List.Perm.cons p ((List.Perm.cons dx p1).trans List.perm_middle.symm))).trans List.perm_middle.symm
     . obtain ⟨g2,r2,p2⟩:=c1 S' H' u' w f' s r' fun a ha=>g a (by simp [ha])
       refine ⟨p ::dx ::g2,?_,(List.Perm.cons p ((List.Perm.cons dx p2).trans List.perm_middle.symm)).trans List.perm_middle.symm⟩
       rw [i3 q1] at r2
       unfold OV.we bJ
       exact ⟨p,C,dx,us,g2,rfl,hc,g p (by simp) _ hp,g dx (by simp) _ hd,hk,rfl,by rw [e3]; exact r2⟩
theorem bJ.focus {π:List Stp}:∀ {t u:OV} {v:V} {fp:List Addr},bJ K cls S H t v fp -> t.get π = some u ->
  ∃ w f1 rest,gN H v π w /\ bJ K cls S H u w f1 /\ fp.Perm (f1 ++ rest) /\
    ∀ S' H' u' f',az S S' -> bJ K cls S' H' u' w f' -> (∀ a ∈ rest,∀ o,H a = some o -> H' a = some o) -> ∃ g,bJ K cls S' H' (t.put π u') v g /\ g.Perm (f' ++ rest):=by
 induction π with
 | nil=>
   intro t u v fp h e
   cases e
   exact ⟨v,fp,[],rfl,h,by simp,fun S' H' u' f' _ r' _=>⟨f',by unfold OV.put; exact r',by simp⟩⟩
 | cons s π ih=>
   intro t u v fp h e
   unfold OV.get at e
   obtain ⟨t1,e1,e2⟩:=Option.bind_eq_some_iff.mp e
   obtain ⟨w1,f1,rest1,st,r1,p1,c1⟩:=h.step e1
   obtain ⟨w,f2,rest2,wk,r2,p2,c2⟩:=ih r1 e2
   refine ⟨w,f2,rest2 ++ rest1,⟨w1,st,wk⟩,r2,?_,fun S' H' u' f' s' r' g=>?_⟩
   . rw [<- List.append_assoc]
     exact p1.trans (List.Perm.append_right rest1 p2)
   . obtain ⟨g1,q1,k1⟩:=c2 S' H' u' f' s' r' fun a ha=>g a (List.mem_append_left _ ha)
     obtain ⟨g2,q2,k2⟩:=c1 S' H' _ g1 s' q1 fun a ha=>g a (List.mem_append_right _ ha)
     refine ⟨g2,?_,?_⟩
     . unfold OV.put
       rw [e1]
       exact q2
     . rw [<- List.append_assoc]
       exact k2.trans (List.Perm.append_right rest1 k1)
theorem SR.tree {i:Nat} {t:OV} (I:SR K cls Av G S₀ ρ σ S H) (e:il i ρ = some t):∃ v fp,σ[i]? = some (some v) /\ bJ K cls S H t v fp:=by
 obtain ⟨F,J⟩:=I
 unfold il at e
 cases q:ρ[i]? with
 | none=>rw [q] at e; cases e
 | some o=>
   cases o with
   | none=>rw [q] at e; cases e
   | some s=>
     rw [q] at e
     obtain ⟨v,e1,r⟩:=J.own i s q
     cases s with
     | tr io t'=>cases e; exact ⟨v,_,e1,r.1⟩
     | bo t'=>
       cases e
       obtain ⟨_,f,r⟩:=r
       exact ⟨v,f,e1,r.mono (az.refl _) fun _ _ _ h=>J.gh _ _ h⟩
     | sh x=>cases e
     | ow xs=>cases e
     | ex c fs=>cases e
def JP (K:PySem.W.Frag) (cls:String -> Option Addr) (te:TE) (i:Nat) (mp:MP):Prop:=∀ Av G S₀ ρ σ S H Q v0 t π,SR K cls Av G S₀ ρ σ S H -> il i ρ = some t -> σ[i]? = some (some v0) -> mp ρ = some π -> (t.get π).isSome = true ->
 (∀ w S' H',bb S H S' H' -> gN H' v0 π w -> Q w H') -> te σ H Q
theorem gW {i:Nat}:JP K cls (oN i) i ef:=by
 intro Av G S₀ ρ σ S H Q v0 t π I e ev ep _ k
 cases ep
 exact ⟨v0,ev,k v0 S H (bb.refl I.sh) rfl⟩
theorem JP.sub {i:Nat} {te:TE} {mp:MP} {u:OV} {Q:VK} (hp:JP K cls te i mp) (I:SR K cls Av G S₀ ρ σ S H) (e:subAt i mp ρ = some u)
  (k:∀ w S' H' f,bb S H S' H' -> SR K cls Av G S₀ ρ σ S' H' -> bJ K cls S' H' u w f -> Q w H'):te σ H Q:=by
 unfold subAt at e
 split at e
 . rename_i t et
   split at e
   . rename_i π eπ
     obtain ⟨v0,fp0,ev,_⟩:=I.tree et
     refine hp Av G S₀ ρ σ S H _ v0 t π I et ev eπ (by rw [e]; rfl) fun w S1 H1 w1 wk=>?_
     obtain ⟨v,fp,ev',ro⟩:=(I.grow w1).tree et
     rw [ev] at ev'; cases ev'
     obtain ⟨w',f1,rest,wk',r',_,_⟩:=ro.focus e
     have:=wk.inj wk'
     subst this
     exact k w S1 H1 f1 w1 (I.grow w1) r'
   . cases e
 . cases e
theorem rL {i:Nat} {te:TE} {mp:MP} {f:Str} {ok:String -> Bool} (hp:JP K cls te i mp) (ha:∀ c C,cls c = some C -> ok c = true -> Cls K C /\ iM K C f):JP K cls (Bv K te f) i (pFd i mp f ok):=by
 intro Av G S₀ ρ σ S H Q v0 t π I e ev ep hs k
 unfold pFd at ep
 split at ep
 . rename_i c ks ts es
   split at ep
   . rename_i hok
     rw [Bool.and_eq_true] at hok
     obtain ⟨π0,e0,rfl⟩:=Option.map_eq_some_iff.mp ep
     have e1:t.get π0 = some (.ob c ks ts):=by
      unfold subAt at es
      rw [e] at es
      dsimp only at es
      rw [e0] at es
      exact es
     refine hp Av G S₀ ρ σ S H _ v0 t π0 I e ev e0 (by rw [e1]; rfl) fun w S1 H1 w1 wk=>?_
     have I1:=I.grow w1
     obtain ⟨v,fp,ev',ro⟩:=I1.tree e
     rw [ev] at ev'; cases ev'
     obtain ⟨w',f1,rest,wk',r',_,_⟩:=ro.focus e1
     have:=wk.inj wk'
     subst this
     unfold bJ at r'
     obtain ⟨p,C,dx,us,ff,rfl,hcl,hp',hd,hk,rfl,r⟩:=r'
     obtain ⟨a1,a2⟩:=ha c C hcl hok.1
     cases q:jX ks ts f with
     | none=>rw [q] at hok; cases hok.2
     | some u=>
       obtain ⟨n,h1,h2,h3,h4⟩:=u3 q
       have hn:n < (us.map (·.2)).length:=by rw [r.length]; exact (List.getElem?_eq_some_iff.mp h1).1
       have hx:us.lookup f = some (us.map (·.2))[n]:=by rw [h4 us hk]; exact List.getElem?_eq_getElem hn
       exact ⟨p,C,dx,us,_,rfl,hp',a1,a2,hx,k _ S1 H1 w1 (wk'.snoc ⟨p,C,dx,us,rfl,hp',hx⟩)⟩
   . cases ep
 . cases ep
theorem uU {i:Nat} {te:TE} {mp:MP} (hp:JP K cls te i mp):JE K cls W te (m7 i mp):=by
 intro Av G S₀ ρ σ S H Q I p
 unfold m7 at p
 split at p
 . rename_i x e
   refine hp.sub I e fun w S1 H1 f w1 _ r=>?_
   unfold bJ at r
   exact p w S1 H1 w1 r.2
 . rename_i ts e
   split at p
   . rename_i xs ex
     refine hp.sub I e fun w S1 H1 f w1 _ r=>?_
     unfold bJ at r
     obtain ⟨q,vs,ff,rfl,hq,_,rs⟩:=r
     exact p _ S1 H1 w1 ⟨q,vs,rfl,SqL.new hq,(rs.flat ex).1⟩
   . exact p.elim
 . exact p.elim
theorem vh {i:Nat} {te:TE} {mp:MP} (hp:JP K cls te i mp):JT K cls W (fun σ H Q=>te σ H fun x H'=>∃ k,sN K x H' k /\ Q k H') (lR i mp):=by
 intro Av G S₀ ρ σ S H Q I p
 unfold lR at p
 split at p
 . rename_i ts e
   refine hp.sub I e fun w S1 H1 f w1 _ r=>?_
   unfold bJ at r
   obtain ⟨q,vs,ff,rfl,hq,_,rs⟩:=r
   refine ⟨_,.inl ⟨vs,SqL.new hq,rfl⟩,?_⟩
   have:vs.isEmpty = ts.isEmpty:=by
    have:=rs.length
    cases vs <;> cases ts <;> simp_all
   rw [this]
   exact p S1 H1 w1
 . exact p.elim
end
end L2.P
namespace L2.P
open PySem PySem.Spec PyProof.Rows L2 L2.E
section
variable {K:PySem.W.Frag} {cls:String -> Option Addr} {W:XW} {Av G S₀ S S' H H' B B':Hp} {ρ:aa} {σ:St} {Q:VK} {F:Nat -> List Addr}
theorem SRF.part {i:Nat} {io:Bool} {t u:OV} {v0:V} {π:List Stp} (J:SRF K cls Av G S₀ ρ σ S H F) (hi:ρ[i]? = some (some (.tr io t))) (hv:σ[i]? = some (some v0)) (e:t.get π = some u):
  ∃ w f1 rest,gN H v0 π w /\ bJ K cls S H u w f1 /\ (F i).Perm (f1 ++ rest) /\ (f1 ++ rest).Nodup /\ (∀ a ∈ f1,G a = none /\ S a = none) /\
    ∀ S' H' u' f',az S S' -> az S' H' -> az G H' -> (∀ b,S' b ≠ none -> S₀ b ≠ none \/ G b = none) -> bJ K cls S' H' u' w f' -> f'.Nodup -> (∀ a ∈ f',a ∈ f1 \/ H a = none) -> (∀ a ∈ f',S' a = none) ->
      (∀ a o,a ∉ f1 -> H a = some o -> H' a = some o) -> (∀ a,S' a ≠ none -> S a ≠ none \/ H a = none \/ a ∈ f1) ->
      ∃ g,SRF K cls Av G S₀ (ρ.set i (some (.tr io (t.put π u')))) σ S' H' (kL F i g) /\ g.Perm (f' ++ rest):=by
 obtain ⟨v,ev,ro,nd,gs,hio⟩:=J.own i _ hi
 rw [hv] at ev; cases ev
 obtain ⟨w,f1,rest,wk,r1,p1,c1⟩:=ro.focus e
 have nd1:(f1 ++ rest).Nodup:=p1.nodup_iff.mp nd
 have in1:∀ a,a ∈ f1 -> a ∈ F i:=fun a ha=>p1.mem_iff.mpr (List.mem_append_left _ ha)
 have inr:∀ a,a ∈ rest -> a ∈ F i:=fun a ha=>p1.mem_iff.mpr (List.mem_append_right _ ha)
 have off1:∀ a,a ∈ rest -> a ∉ f1:=fun a ha hb=>(List.nodup_append.mp nd1).2.2 a hb a ha rfl
 refine ⟨w,f1,rest,wk,r1,p1,nd1,fun a ha=>gs a (in1 a ha),fun S' H' u' f' s sh gh new r' nd' fr nS keep nw=>?_⟩
 obtain ⟨g,rg,pg⟩:=c1 S' H' u' f' s r' fun a ha o h=>keep a o (off1 a ha) h
 have noS:∀ j a,a ∈ F j -> a ∉ f1 -> S' a = none:=fun j a ha hb=>by
  cases q:S' a with
  | none=>rfl
  | some o=>
    obtain ⟨⟨o',h1,_⟩,_,h3⟩:=J.live j a ha
    rcases nw a (by rw [q]; simp) with z | z | z
    . exact absurd h3 z
    . rw [h1] at z; cases z
    . exact absurd z hb
 have J1:SRF K cls Av G S₀ (ρ.set i none) (σ.set i none) S H (kL F i []):=J.put (fun t e=>nomatch e) (fun a ha=>nomatch ha) fun j a _ ha=>nomatch ha
 have off:∀ j a,a ∈ kL F i [] j -> a ∉ f1 /\ j ≠ i:=fun j a ha=>by
  by_cases ej:j = i
  . subst ej; rw [gJ] at ha; cases ha
  . rw [eN ej] at ha
    exact ⟨fun hb=>ej (J.apart j i a ha (in1 a hb)),ej⟩
 have J2:=J1.change (S':=S') (H':=H') gh s sh new (fun j a ha o h=>keep a o (off j a ha).1 h)
  (fun b o hx h=>keep b o (fun hb=>by
    obtain ⟨⟨o',h1,h2⟩,_⟩:=J.live i b (in1 b hb)
    rw [h] at h1; cases h1; rw [hx] at h2; cases h2) h)
  fun j a ha=>by
   have hj:=off j a ha
   rw [eN hj.2] at ha
   exact noS j a ha hj.1
 have mem:∀ a,a ∈ g -> a ∈ f' \/ a ∈ rest:=fun a ha=>List.mem_append.mp (pg.mem_iff.mp ha)
 have hlive:∀ a ∈ g,(∃ o,H' a = some o /\ isX o = false) /\ G a = none /\ S' a = none:=fun a ha=>by
  refine ⟨rg.live a ha,?_,?_⟩
  . rcases mem a ha with z | z
    . rcases fr a z with y | y
      . exact (gs a (in1 a y)).1
      . exact J.gh.free y
    . exact (gs a (inr a z)).1
  . rcases mem a ha with z | z
    . exact nS a z
    . exact noS i a (inr a z) (off1 a z)
 have ndg:g.Nodup:=pg.nodup_iff.mpr (List.nodup_append.mpr ⟨nd',(List.nodup_append.mp nd1).2.1,fun a ha b hb z=>by
  subst z
  rcases fr a ha with y | y
  . exact off1 a hb y
  . obtain ⟨⟨o',h1,_⟩,_⟩:=J.live i a (inr a hb)
    rw [y] at h1; cases h1⟩)
 have J3:=J2.put (i:=i) (s:=some (.tr io (t.put π u'))) (u:=some v0) (fp:=g) (fun t' e=>by
  cases e
  exact ⟨v0,rfl,rg,ndg,fun a ha=>⟨(hlive a ha).2.1,(hlive a ha).2.2⟩,hio⟩) hlive fun j a hj ha hz=>by
   rw [eN hj] at hz
   rcases mem a ha with z | z
   . rcases fr a z with y | y
     . exact hj (J.apart j i a hz (in1 a y))
     . obtain ⟨⟨o',h1,_⟩,_⟩:=J.live j a hz
       rw [y] at h1; cases h1
   . exact hj (J.apart j i a hz (inr a z))
 rw [List.set_set,List.set_set,i3 hv] at J3
 have eF:kL (kL F i []) i g = kL F i g:=by
  funext j
  by_cases ej:j = i
  . subst ej; rw [gJ,gJ]
  . rw [eN ej,eN ej,eN ej]
 rw [eF] at J3
 exact ⟨g,J3,pg⟩
theorem SRF.more {s:Option Sl} {u:Option V} {fp:List Addr} (I:SRF K cls Av G S₀ ρ σ S H F) (h:∀ t,s = some t -> ∃ v,u = some v /\ nh K cls Av G S H ρ.length t v fp)
  (hl:∀ a ∈ fp,(∃ o,H a = some o /\ isX o = false) /\ G a = none /\ S a = none) (ap:∀ j a,j < ρ.length -> a ∈ fp -> a ∉ F j):∃ F',SRF K cls Av G S₀ (ρ ++ [s]) (σ ++ [u]) S H F':=by
 refine ⟨fun j=>if j < ρ.length then F j else if j = ρ.length then fp else [],I.gh,I.s0,I.sh,I.new,fun j t e=>?_,fun j k a h1 h2=>?_,fun j a ha=>?_,by simp [I.len]⟩
 . by_cases hj:j < ρ.length
   . rw [List.getElem?_append_left hj] at e
     rw [List.getElem?_append_left (by rw [<- I.len]; exact hj)]
     simp only [hj,if_true]
     exact I.own j t e
   . rw [List.getElem?_append_right (Nat.le_of_not_lt hj)] at e
     have h0:j - ρ.length = 0:=by
      by_cases h:j - ρ.length = 0
      . exact h
      . rw [List.getElem?_eq_none (by simp; omega)] at e; cases e
     rw [h0] at e
     have ej:j = ρ.length:=by omega
     obtain ⟨v,e2,r⟩:=h t (Option.some.inj e)
     refine ⟨v,?_,?_⟩
     . rw [List.getElem?_append_right (by rw [<- I.len]; omega),<- I.len,h0,e2]; rfl
     . subst ej
       simp only [Nat.lt_irrefl,if_false,if_true]
       exact r
 . by_cases hj:j < ρ.length
   . simp only [hj,if_true] at h1
     by_cases hk:k < ρ.length
     . simp only [hk,if_true] at h2; exact I.apart j k a h1 h2
     . simp only [hk,if_false] at h2
       split at h2
       . exact absurd h1 (ap j a hj h2)
       . cases h2
   . simp only [hj,if_false] at h1
     split at h1
     . rename_i ej
       by_cases hk:k < ρ.length
       . simp only [hk,if_true] at h2; exact absurd h2 (ap k a hk h1)
       . simp only [hk,if_false] at h2
         split at h2
         . rename_i ek; rw [ej,ek]
         . cases h2
     . cases h1
 . by_cases hj:j < ρ.length
   . simp only [hj,if_true] at ha; exact I.live j a ha
   . simp only [hj,if_false] at ha
     split at ha
     . exact hl a ha
     . cases ha
theorem SR.fold {i:Nat} {s:Sl} {v:V} (I:SR K cls Av G S₀ (ρ ++ [some s]) (σ ++ [some v]) S H) (hs:nio s = true):SR K cls Av G S₀ (ρ.set i (some s)) (σ.set i (some v)) S H:=by
 obtain ⟨F,J⟩:=I
 have hlen:ρ.length = σ.length:=by have:=J.len; simpa using this
 obtain ⟨v',ev,r⟩:=J.own ρ.length s (by simp)
 have ev':v' = v:=by
  rw [List.getElem?_append_right (by rw [hlen]; exact Nat.le_refl _),hlen,Nat.sub_self] at ev
  cases ev; rfl
 subst ev'
 have J1:SRF K cls Av G S₀ ρ σ S H (fun j=>if j < ρ.length then F j else []):=by
  refine ⟨J.gh,J.s0,J.sh,J.new,fun j t e=>?_,fun j k a h1 h2=>?_,fun j a ha=>?_,hlen⟩
  . have hj:j < ρ.length:=(List.getElem?_eq_some_iff.mp e).1
    obtain ⟨v2,e2,r2⟩:=J.own j t (by rw [List.getElem?_append_left hj]; exact e)
    rw [List.getElem?_append_left (by rw [<- hlen]; exact hj)] at e2
    simp only [hj,if_true]
    exact ⟨v2,e2,r2⟩
  . split at h1
    . split at h2
      . exact J.apart j k a h1 h2
      . cases h2
    . cases h1
  . split at ha
    . exact J.live j a ha
    . cases ha
 refine ⟨_,J1.put (i:=i) (s:=some s) (u:=some v') (fp:=F ρ.length) (fun t e=>?_) (fun a ha=>J.live _ a ha) fun j a hj ha hz=>?_⟩
 . cases e
   refine ⟨v',rfl,?_⟩
   cases s with
   | sh x=>exact r
   | ow xs=>exact r
   | ex c fs=>exact r
   | tr io t=>
     cases io with
     | true=>cases hs
     | false=>exact ⟨r.1,r.2.1,r.2.2.1,fun z=>nomatch z⟩
   | bo t=>cases hs
 . split at hz
   . rename_i hj'
     have:=J.apart j ρ.length a hz ha
     omega
   . cases hz
theorem SR.uH {s:Option Sl} {u:Option V} (I:SR K cls Av G S₀ (ρ ++ [s]) (σ ++ [u]) S H):SR K cls Av G S₀ ρ σ S H:=by
 obtain ⟨F,J⟩:=I
 have hlen:ρ.length = σ.length:=by have:=J.len; simpa using this
 refine ⟨F,J.gh,J.s0,J.sh,J.new,fun j t e=>?_,J.apart,J.live,hlen⟩
 have hj:j < ρ.length:=(List.getElem?_eq_some_iff.mp e).1
 obtain ⟨v2,e2,r2⟩:=J.own j t (by rw [List.getElem?_append_left hj]; exact e)
 rw [List.getElem?_append_left (by rw [<- hlen]; exact hj)] at e2
 exact ⟨v2,e2,r2⟩
def yu (K:PySem.W.Frag) (cls:String -> Option Addr) (B S H:Hp) (t:OV) (v:V):Prop:=∃ fp,bJ K cls S H t v fp /\ fp.Nodup /\ ∀ a ∈ fp,B a = none /\ S a = none
def Ek (K:PySem.W.Frag) (cls:String -> Option Addr) (W:XW) (σ:St) (S H:Hp) (Q:VK):OD -> Prop
 | .ok t=>∀ v S' H',bb S H S' H' -> yu K cls H S' H' t v -> Q v H'
 | .exc c fs=>∀ a C S' H',bb S H S' H' -> jS K cls S' H' c fs a C -> W (.ref C) (some a) σ H'
 | .bad=>False
def JD (K:PySem.W.Frag) (cls:String -> Option Addr) (W:XW) (te:TE) (m:aa -> OD):Prop:=∀ Av G S₀ ρ σ S H Q,SR K cls Av G S₀ ρ σ S H -> Ek K cls W σ S H Q (m ρ) -> te σ H Q
theorem yu.grow {S1 H1:Hp} {t:OV} {v:V} (h:yu K cls B S H t v) (w:bb S H S1 H1):yu K cls B S1 H1 t v:=by
 obtain ⟨fp,r,nd,g⟩:=h
 refine ⟨fp,r.mono w.s fun a _ o z=>w.g _ _ z,nd,fun a ha=>⟨(g a ha).1,?_⟩⟩
 obtain ⟨o,h1,_⟩:=r.live a ha
 cases q:S1 a with
 | none=>rfl
 | some o'=>
   rcases w.new a (by rw [q]; simp) with z | z
   . exact absurd (g a ha).2 z
   . rw [h1] at z; cases z
theorem Bq {te:TE} {me:aa -> OE} (h:JE K cls W te me):JD K cls W te (mD me):=by
 intro Av G S₀ ρ σ S H Q I p
 refine h Av G S₀ ρ σ S H Q I ?_
 unfold mD at p
 cases e:me ρ with
 | exc c fs=>rw [e] at p; exact p
 | bad=>rw [e] at p; exact p
 | ok r=>
   rw [e] at p
   cases r with
   | sh x=>exact fun v S' H' w r=>p v S' H' w ⟨[],by unfold bJ; exact ⟨rfl,r⟩,List.nodup_nil,fun a ha=>nomatch ha⟩
   | al xs=>exact p.elim
   | fr xs=>
     intro v S' H' w r
     obtain ⟨q,vs,rfl,hB,hS,hH,hr⟩:=r
     refine p _ S' H' w ⟨[q],by unfold bJ; exact ⟨q,vs,[],rfl,hH,rfl,.shs hr⟩,by simp,fun a ha=>?_⟩
     have z:a = q:=by simpa using ha
     subst z; exact ⟨hB,hS⟩
theorem SR.Et {i:Nat} {t:OV} {v:V} (I:SR K cls Av G S₀ ρ σ S H) (w:bb S H S' H') (h:yu K cls H S' H' t v):SR K cls Av G S₀ (ρ.set i (some (.tr false t))) (σ.set i (some v)) S' H':=by
 obtain ⟨F,J⟩:=I
 obtain ⟨fp,r,nd,g⟩:=h
 refine ⟨_,(J.grow w).put (fp:=fp) (fun t' e=>by cases e; exact ⟨v,rfl,r,nd,fun a ha=>⟨J.gh.free (g a ha).1,(g a ha).2⟩,fun z=>nomatch z⟩) (fun a ha=>⟨r.live a ha,J.gh.free (g a ha).1,(g a ha).2⟩) fun j a _ ha hz=>?_⟩
 obtain ⟨⟨o,h1,_⟩,_⟩:=J.live j a hz
 rw [(g a ha).1] at h1; cases h1
theorem uY {i:Nat} {te:TE} {md:aa -> OD} (h:JD K cls W te md):JS K cls W (oW te (iE i)) (mY i md):=by
 intro Av G S₀ ρ σ S H D I p
 refine h Av G S₀ ρ σ S H _ I ?_
 unfold mY at p
 cases e:md ρ with
 | exc c fs=>rw [e] at p; exact fun a C S' H' w x=>p a C σ S' H' (I.grow w) w.s x
 | bad=>rw [e] at p; exact p
 | ok t=>rw [e] at p; exact fun v S1 H1 w1 r1=>p _ S1 H1 (I.Et w1 r1) w1.s
end
end L2.P
namespace L2.P
open PySem PySem.Spec PyProof.Rows L2 L2.E
section
variable {K:PySem.W.Frag} {cls:String -> Option Addr} {W:XW} {Av G S₀ S S' H H' B B':Hp} {ρ:aa} {σ:St} {Q:VK} {F:Nat -> List Addr}
theorem bJ.BC {ts:List OV} {v:V} {fp:List Addr} (h:bJ K cls S H (.ol ts) v fp):∃ p vs f,v = .ref p /\ H p = some (.lst vs) /\ fp = p ::f /\ bH K cls S H ts vs f:=by unfold bJ at h; exact h
theorem SRF.qx {i:Nat} {io:Bool} {t:OV} {ts:List OV} {v0:V} {π:List Stp} (J:SRF K cls Av G S₀ ρ σ S H F) (hi:ρ[i]? = some (some (.tr io t))) (hv:σ[i]? = some (some v0)) (e:t.get π = some (.ol ts)):
  ∃ q vs ff rest,gN H v0 π (.ref q) /\ H q = some (.lst vs) /\ vs.length = ts.length /\ bH K cls S H ts vs ff /\ (F i).Perm ((q ::ff) ++ rest) /\ ((q ::ff) ++ rest).Nodup /\
    ∀ S' H' ts' vs' f',bb S H S' H' -> bH K cls S' H' ts' vs' f' -> f'.Nodup -> (∀ a ∈ f',a ∈ ff \/ (H a = none /\ S' a = none)) ->
      ∃ g,SRF K cls Av G S₀ (ρ.set i (some (.tr io (t.put π (.ol ts'))))) σ S' (upd H' q (.lst vs')) (kL F i g) /\ g.Perm ((q ::f') ++ rest):=by
 obtain ⟨w,f1,rest,wk,r1,p1,nd1,gs,c⟩:=J.part hi hv e
 obtain ⟨q,vs,ff,rfl,hq,rfl,rs⟩:=r1.BC
 refine ⟨q,vs,ff,rest,wk,hq,rs.length,rs,p1,nd1,fun S' H' ts' vs' f' wg r' nd' fr=>?_⟩
 have hGq:=(gs q (by simp)).1
 have hSq:=(gs q (by simp)).2
 have hS'q:S' q = none:=by
  cases z:S' q with
  | none=>rfl
  | some o=>
    rcases wg.new q (by rw [z]; simp) with y | y
    . exact absurd hSq y
    . rw [hq] at y; cases y
 have nq:q ∉ f':=fun z=>by
  rcases fr q z with y | y
  . exact (List.nodup_cons.mp (List.nodup_append.mp nd1).1).1 y
  . rw [y.1] at hq; cases hq
 have nS:∀ a ∈ f',S' a = none:=fun a ha=>by
  rcases fr a ha with y | y
  . cases z:S' a with
    | none=>rfl
    | some o=>
      obtain ⟨o',h1,_⟩:=rs.live a y
      rcases wg.new a (by rw [z]; simp) with k | k
      . exact absurd (gs a (by simp [y])).2 k
      . rw [h1] at k; cases k
  . exact y.2
 refine c S' (upd H' q (.lst vs')) (.ol ts') (q ::f') wg.s (wg.sh.upd hS'q) ((J.gh.trans wg.g).upd hGq) (fun b h=>?_) ?_ (List.nodup_cons.mpr ⟨nq,nd'⟩) (fun a ha=>?_) (fun a ha=>?_) (fun a o hn h=>?_) fun a h=>?_
 . rcases wg.new b h with z | z
   . exact J.new b z
   . exact .inr (J.gh.free z)
 . unfold bJ
   exact ⟨q,vs',f',rfl,aX,rfl,r'.mono (az.refl _) fun a ha o h=>by rw [aO (fun z=>nq (by rw [<- z]; exact ha))]; exact h⟩
 . rcases List.mem_cons.mp ha with z | z
   . subst z; exact .inl (by simp)
   . rcases fr a z with y | y
     . exact .inl (by simp [y])
     . exact .inr y.1
 . rcases List.mem_cons.mp ha with z | z
   . subst z; exact hS'q
   . exact nS a z
 . rw [aO (fun z=>hn (by rw [z]; simp))]; exact wg.g _ _ h
 . rcases wg.new a h with z | z
   . exact .inl z
   . exact .inr (.inl z)
theorem JP.at {i:Nat} {te:TE} {mp:MP} {io:Bool} {t u:OV} {v0:V} {π:List Stp} {Q:VK} (hp:JP K cls te i mp) (I:SR K cls Av G S₀ ρ σ S H) (hi:ρ[i]? = some (some (.tr io t))) (hv:σ[i]? = some (some v0)) (e0:mp ρ = some π) (e1:t.get π = some u)
  (k:∀ w S' H',bb S H S' H' -> SR K cls Av G S₀ ρ σ S' H' -> gN H' v0 π w -> Q w H'):te σ H Q:=
 hp Av G S₀ ρ σ S H Q v0 t π I (by unfold il; rw [hi]; rfl) hv e0 (by rw [e1]; rfl) fun w S1 H1 w1 wk=>k w S1 H1 w1 (I.grow w1) wk
theorem oF {i:Nat} {mp:MP} {k:OV -> (OV -> aa) -> OS} {D:Ends} (p:fQ K cls W Av G S₀ S D (tH i mp ρ k)):∃ io t π u,ρ[i]? = some (some (.tr io t)) /\ mp ρ = some π /\ t.get π = some u /\ fQ K cls W Av G S₀ S D (k u fun u'=>ρ.set i (some (.tr io (t.put π u')))):=by
 unfold tH at p
 split at p
 . rename_i io t hi
   split at p
   . rename_i π e0
     split at p
     . rename_i u e1
       exact ⟨io,t,π,u,hi,e0,e1,p⟩
     . exact p.elim
   . exact p.elim
 . exact p.elim
theorem SR.val {i:Nat} {s:Sl} (I:SR K cls Av G S₀ ρ σ S H) (e:ρ[i]? = some (some s)):∃ v,σ[i]? = some (some v):=let ⟨v,h,_⟩:=I.good i s e; ⟨v,h⟩
theorem tF {i:Nat} {te tx:TE} {mp:MP} {md:aa -> OD} (hp:JP K cls te i mp) (hx:JD K cls W tx md):JS K cls W (pL (tBM K "list" pW te (iI tx jM))) (jT i mp md):=by
 intro Av G S₀ ρ σ S H D I p
 obtain ⟨io,t,π,u,hi,e0,e1,p⟩:=oF p
 obtain ⟨v0,hv⟩:=I.val hi
 cases u with
 | sh x=>exact p.elim
 | ob c ks us=>exact p.elim
 | di x=>exact p.elim
 | dt x=>exact p.elim
 | ol ts=>
   dsimp only at p
   refine hp.at I hi hv e0 e1 fun w S1 H1 w1 I1 wk=>?_
   obtain ⟨F,J1⟩:=I1
   obtain ⟨q,vs,ff,rest,wk',hq,hl,rs,_,nd,c⟩:=J1.qx hi hv e1
   have:=wk.inj wk'
   subst this
   refine ⟨.inl ⟨rfl,_,SqL.new hq⟩,?_⟩
   refine hx Av G S₀ ρ σ S1 H1 _ ⟨F,J1⟩ ?_
   cases ed:md ρ with
   | exc c fs=>rw [ed] at p; exact fun a C S' H' w x=>p a C σ S' H' (SR.grow ⟨F,J1⟩ w) (w1.s.trans w.s) x
   | bad=>rw [ed] at p; exact p
   | ok x=>
     rw [ed] at p
     dsimp only at p
     split at p
     . rename_i hlt
       intro v S2 H2 w2 r2
       obtain ⟨fx,rx,ndx,gx⟩:=r2
       refine ⟨q,vs,v,rfl,rfl,w2.g _ _ hq,by rw [hl]; exact hlt,?_⟩
       have ndf:ff.Nodup:=(List.nodup_cons.mp (List.nodup_append.mp nd).1).2
       have apx:∀ a ∈ ff,a ∉ fx:=fun a ha hb=>by
        obtain ⟨o,h1,_⟩:=rs.live a ha
        rw [(gx a hb).1] at h1; cases h1
       obtain ⟨g,J3,_⟩:=c S2 H2 (ts ++ [x]) (vs ++ [v]) (ff ++ (fx ++ [])) w2 ((rs.mono w2.s fun a _ o h=>w2.g _ _ h).append (.cons rx .nil)) (by
         rw [List.append_nil]
         exact List.nodup_append.mpr ⟨ndf,ndx,fun a ha b hb z=>by subst z; exact apx a ha hb⟩) (fun a ha=>by
         rw [List.append_nil] at ha
         rcases List.mem_append.mp ha with z | z
         . exact .inl z
         . exact .inr (gx a z))
       exact p σ S2 _ ⟨_,J3⟩ (w1.s.trans w2.s)
     . exact p.elim
end
end L2.P
namespace L2.P
open PySem PySem.Spec PyProof.Rows L2 L2.E
section
variable {K:PySem.W.Frag} {cls:String -> Option Addr} {W:XW} {Av G S₀ S S' H H' B B':Hp} {ρ:aa} {σ:St} {Q:VK} {F:Nat -> List Addr}
theorem tY {i:Nat} {te tx:TE} {mp:MP} {me:aa -> OE} (hp:JP K cls te i mp) (hx:JE K cls W tx me):JS K cls W (pL (tBM K "list" uA te (iI tx jM))) (jY i mp me):=by
 intro Av G S₀ ρ σ S H D I p
 obtain ⟨io,t,π,u,hi,e0,e1,p⟩:=oF p
 obtain ⟨v0,hv⟩:=I.val hi
 cases u with
 | sh x=>exact p.elim
 | ob c ks us=>exact p.elim
 | di x=>exact p.elim
 | dt x=>exact p.elim
 | ol ts=>
   dsimp only at p
   refine hp.at I hi hv e0 e1 fun w S1 H1 w1 I1 wk=>?_
   have p1:=p.back w1.s
   obtain ⟨F,J1⟩:=id I1
   obtain ⟨q,vs,ff,rest,wk',hq,hl,rs,_,nd,c⟩:=J1.qx hi hv e1
   have:=wk.inj wk'
   subst this
   refine ⟨.inl ⟨rfl,_,SqL.new hq⟩,?_⟩
   refine hx.goS I1 p1 fun r v S2 H2 I2 w2 r2 p2=>?_
   cases r with
   | sh x=>exact p2.elim
   | al ys=>exact p2.elim
   | fr ys=>
     dsimp only at p2
     split at p2
     . rename_i hlt
       obtain ⟨b,us,rfl,k1,k2,k3,k4⟩:=r2
       refine ⟨q,b,vs,us,rfl,rfl,w2.g _ _ hq,k3,by rw [hl,k4.length]; exact hlt,?_⟩
       have ndf:ff.Nodup:=(List.nodup_cons.mp (List.nodup_append.mp nd).1).2
       obtain ⟨g,J3,_⟩:=c S2 H2 (ts ++ ys.map .sh) (vs ++ us) (ff ++ []) w2 ((rs.mono w2.s fun a _ o h=>w2.g _ _ h).append (.shs k4)) (by rw [List.append_nil]; exact ndf) fun a ha=>.inl (by simpa using ha)
       exact p2 σ S2 _ ⟨_,J3⟩ (az.refl _)
     . exact p2.elim
def AQ (K:PySem.W.Frag) (cls:String -> Option Addr) (W:XW) (Av G S₀:Hp) (σ:St) (S:Hp) (Q:VK):OX -> Prop
 | .ok ρ' s=>∀ v S' H',SR K cls Av G S₀ (ρ' ++ [some s]) (σ ++ [some v]) S' H' -> az S S' -> Q v H'
 | .exc ρ' c fs=>∀ a C S' H',SR K cls Av G S₀ ρ' σ S' H' -> az S S' -> jS K cls S' H' c fs a C -> W (.ref C) (some a) σ H'
 | .bad=>False
def JX (K:PySem.W.Frag) (cls:String -> Option Addr) (W:XW) (te:TE) (m:aa -> OX):Prop:=∀ Av G S₀ ρ σ S H Q,SR K cls Av G S₀ ρ σ S H -> AQ K cls W Av G S₀ σ S Q (m ρ) -> te σ H Q
theorem qd {i:Nat} {te:TE} {m:aa -> OX} (h:JX K cls W te m):JS K cls W (oW te (iE i)) (jW i m):=by
 intro Av G S₀ ρ σ S H D I p
 refine h Av G S₀ ρ σ S H _ I ?_
 unfold jW at p
 cases e:m ρ with
 | exc ρ' c fs=>rw [e] at p; exact fun a C S' H' I' s' x=>p a C σ S' H' I' s' x
 | bad=>rw [e] at p; exact p
 | ok ρ' s=>
   rw [e] at p
   dsimp only at p
   split at p
   . rename_i hs
     exact fun v S' H' I' s'=>p _ S' H' (I'.fold hs) s'
   . exact p.elim
theorem SR.CI {x:PV} {v:V} (I:SR K cls Av G S₀ (ρ ++ [some (.sh x)]) (σ ++ [some v]) S H):Rep K S x v:=by
 obtain ⟨F,J⟩:=I
 have hlen:ρ.length = σ.length:=by have:=J.len; simpa using this
 obtain ⟨v',ev,r⟩:=J.own ρ.length (.sh x) (by simp)
 rw [List.getElem?_append_right (by rw [hlen]; exact Nat.le_refl _),hlen,Nat.sub_self] at ev
 cases ev
 exact r.2
theorem yO {te:TE} {m:aa -> OX} {ta tb:TS} {ma mb:aa -> OS} (h:JX K cls W te m) (ha:JS K cls W ta ma) (hb:JS K cls W tb mb):
  JS K cls W (Am (Al (fun σ H Q=>te σ H fun x H'=>∃ k,sN K x H' k /\ Q k H')) ta tb) (zV true m ma mb):=by
 intro Av G S₀ ρ σ S H D I p
 refine h Av G S₀ ρ σ S H _ I ?_
 unfold zV at p
 cases e:m ρ with
 | exc ρ' c fs=>rw [e] at p; exact fun a C S' H' I' s' x=>p a C σ S' H' I' s' x
 | bad=>rw [e] at p; exact p
 | ok ρ' s=>
   rw [e] at p
   cases s with
   | sh x=>
     dsimp only at p
     intro v S' H' I' s'
     cases et:nO x with
     | none=>rw [et] at p; exact p.elim
     | some k=>
       rw [et] at p
       refine ⟨k,u2 I'.sh (I'.CI.rd I'.sh) et,?_⟩
       cases k with
       | false=>exact o1 (ha Av G S₀ ρ' σ S' H' D I'.uH (p.back s'))
       | true=>exact oV (hb Av G S₀ ρ' σ S' H' D I'.uH (p.back s'))
   | ow xs=>exact p.elim
   | ex c fs=>exact p.elim
   | tr io t=>exact p.elim
   | bo t=>exact p.elim
theorem bH.last {ts:List OV} {vs:List V} {f:List Addr} {x:OV} (h:bH K cls S H ts vs f) (e:ts.getLast? = some x):∃ y f1 f2,vs[vs.length - 1]? = some y /\ bH K cls S H ts.dropLast vs.dropLast f1 /\ bJ K cls S H x y f2 /\ f = f1 ++ f2:=by
 induction ts generalizing vs f with
 | nil=>cases e
 | cons t ts ih=>
   obtain ⟨v,r,f1,f2,rfl,rfl,h1,h2⟩:=h.cons_inv
   cases ts with
   | nil=>
     unfold bH at h2
     obtain ⟨rfl,rfl⟩:=h2
     simp at e
     subst e
     exact ⟨v,[],f1,rfl,.nil,h1,by simp⟩
   | cons t2 ts2=>
     rw [List.getLast?_cons_cons] at e
     obtain ⟨y,g1,g2,e1,r1,r2,rfl⟩:=ih h2 e
     have hr:r ≠ []:=by intro z; subst z; have:=h2.length; simp at this
     refine ⟨y,f1 ++ g1,g2,?_,?_,r2,by simp⟩
     . cases r with
       | nil=>exact absurd rfl hr
       | cons a r'=>simpa using e1
     . cases r with
       | nil=>exact absurd rfl hr
       | cons a r'=>exact bH.cons h1 r1
theorem yQ {x:OV} {v:V} {fp:List Addr} {i:Nat} (h:bJ K cls S H x v fp) (nd:fp.Nodup) (g:∀ a ∈ fp,G a = none /\ S a = none):nh K cls Av G S H i (slO x) v fp:=by
 cases x with
 | sh y=>unfold bJ at h; exact h
 | ol ts=>exact ⟨h,nd,g,fun z=>nomatch z⟩
 | ob c ks ts=>exact ⟨h,nd,g,fun z=>nomatch z⟩
 | di x=>exact ⟨h,nd,g,fun z=>nomatch z⟩
 | dt x=>exact ⟨h,nd,g,fun z=>nomatch z⟩
theorem uX {i:Nat} {te:TE} {mp:MP} (hp:JP K cls te i mp):JX K cls W (Bn K "list" Eu te) (kR i mp):=by
 intro Av G S₀ ρ σ S H Q I p
 unfold kR at p
 split at p
 . rename_i io t hi
   split at p
   . rename_i π e0
     split at p
     . rename_i ts e1
       split at p
       . rename_i x ex
         obtain ⟨v0,hv⟩:=I.val hi
         refine hp.at I hi hv e0 e1 fun w S1 H1 w1 I1 wk=>?_
         obtain ⟨F,J1⟩:=id I1
         obtain ⟨q,vs,ff,rest,wk',hq,hl,rs,pF,nd,c⟩:=J1.qx hi hv e1
         have:=wk.inj wk'
         subst this
         obtain ⟨y,f1,f2,ey,ri,rx,rfl⟩:=rs.last ex
         have ndf:(f1 ++ f2).Nodup:=(List.nodup_cons.mp (List.nodup_append.mp nd).1).2
         have nq:q ∉ f1 ++ f2:=(List.nodup_cons.mp (List.nodup_append.mp nd).1).1
         refine ⟨.inl ⟨rfl,_,SqL.new hq⟩,q,vs,y,rfl,rfl,hq,ey,?_⟩
         obtain ⟨g,J3,pg⟩:=c S1 H1 ts.dropLast vs.dropLast f1 (bb.refl J1.sh) ri (List.nodup_append.mp ndf).1 fun a ha=>.inl (List.mem_append_left _ ha)
         have in2:∀ a ∈ f2,a ∈ F i:=fun a ha=>pF.mem_iff.mpr (by simp [ha])
         have rx':bJ K cls S1 (upd H1 q (.lst vs.dropLast)) x y f2:=rx.mono (az.refl _) fun a ha o h=>by rw [aO (fun z=>nq (by rw [<- z]; simp [ha]))]; exact h
         have gs2:∀ a ∈ f2,G a = none /\ S1 a = none:=fun a ha=>(J1.live i a (in2 a ha)).2
         obtain ⟨F',J4⟩:=J3.more (s:=some (slO x)) (u:=some y) (fp:=f2) (fun t' e=>by cases e; exact ⟨y,rfl,yQ rx' (List.nodup_append.mp ndf).2.1 gs2⟩) (fun a ha=>⟨rx'.live a ha,gs2 a ha⟩) fun j a hj ha hz=>by
          by_cases ej:j = i
          . subst ej
            rw [gJ] at hz
            have hm:=pg.mem_iff.mp hz
            have hd:=List.nodup_append.mp nd
            rcases List.mem_append.mp hm with z | z
            . rcases List.mem_cons.mp z with z | z
              . subst z; exact nq (by simp [ha])
              . exact (List.nodup_append.mp ndf).2.2 a z a ha rfl
            . exact hd.2.2 a (by simp [ha]) a z rfl
          . rw [eN ej] at hz
            exact ej (J1.apart j i a hz (in2 a ha))
         exact p y S1 _ ⟨F',J4⟩ w1.s
       . exact p.elim
     . exact p.elim
   . exact p.elim
 . exact p.elim
end
end L2.P
namespace L2.P
open PySem PySem.Spec PyProof.Rows L2 L2.E
section
variable {K:PySem.W.Frag} {cls:String -> Option Addr} {W:XW} {Av G S₀ S S' H H' B B':Hp} {ρ:aa} {σ:St} {Q:VK} {F:Nat -> List Addr}
theorem yC {ks:List Str} {us:List (Str × V)} {f:Str} {y:V} (hk:us.map (·.1) = ks) {k:Nat} (hf:∀ j,ks[j]? = some f -> k <= j) (he:ks[k]? = some f):(gZ f y us).map (·.1) = ks /\ (gZ f y us).map (·.2) = (us.map (·.2)).set k y:=by
 induction us generalizing ks k with
 | nil=>subst hk; cases he
 | cons q us ih=>
   obtain ⟨g,x⟩:=q
   subst hk
   unfold gZ
   by_cases e:g = f
   . rw [if_pos e]
     have k0:k = 0:=by have:=hf 0 (by simp [e]); omega
     subst k0
     exact ⟨rfl,rfl⟩
   . rw [if_neg e]
     cases k with
     | zero=>simp at he; exact absurd he e
     | succ k=>
       obtain ⟨h1,h2⟩:=ih (ks:=us.map (·.1)) (k:=k) rfl (fun j hj=>by have:=hf (j + 1) (by simpa using hj); omega) (by simpa using he)
       simp [h1,h2]
theorem wW {us:List (Str × V)} {f:Str} {y:V} (h:f ∉ us.map (·.1)):gZ f y us = us ++ [(f,y)]:=by
 induction us with
 | nil=>rfl
 | cons q us ih=>
   obtain ⟨g,x⟩:=q
   simp at h
   unfold gZ
   rw [if_neg (fun z=>h.1 z.symm),ih (by simpa using h.2)]
   rfl
theorem sO {ks:List Str} {ts:List OV} {f:Str} (hl:ts.length = ks.length) (h:f ∈ ks):∃ k,ks[k]? = some f /\ (∀ j,ks[j]? = some f -> k <= j) /\ k < ts.length /\ ∀ u,o3 ks ts f u = ts.set k u:=by
 induction ks generalizing ts with
 | nil=>cases h
 | cons g ks ih=>
   cases ts with
   | nil=>cases hl
   | cons t ts=>
     by_cases e:g = f
     . subst e
       exact ⟨0,rfl,fun j _=>Nat.zero_le _,by simp,fun u=>by simp [o3]⟩
     . obtain ⟨k,h1,h2,h3,h4⟩:=ih (ts:=ts) (by simpa using hl) (by
        rcases List.mem_cons.mp h with z | z
        . exact absurd z.symm e
        . exact z)
       refine ⟨k + 1,by simpa using h1,fun j hj=>?_,by simpa using h3,fun u=>by simp [o3,e,h4]⟩
       cases j with
       | zero=>simp at hj; exact absurd hj e
       | succ j=>have:=h2 j (by simpa using hj); omega
theorem zr {i:Nat} {te tx:TE} {mp:MP} {f:Str} {okc:String -> Bool} {md:aa -> OD} (hp:JP K cls te i mp) (hx:JD K cls W tx md) (ha:∀ c C,cls c = some C -> okc c = true -> Cls K C /\ iM K C f):JS K cls W (Cv K te tx f) (yh i mp f okc md):=by
 intro Av G S₀ ρ σ S H D I p
 refine hx Av G S₀ ρ σ S H _ I ?_
 unfold yh at p
 cases ed:md ρ with
 | exc c fs=>rw [ed] at p; exact fun a C S' H' w x=>p a C σ S' H' (I.grow w) w.s x
 | bad=>rw [ed] at p; exact p
 | ok x=>
   rw [ed] at p
   dsimp only at p
   obtain ⟨io,t,π,u,hi,e0,e1,p⟩:=oF p
   obtain ⟨v0,hv⟩:=I.val hi
   cases u with
   | sh x=>exact p.elim
   | ol ts=>exact p.elim
   | di x=>exact p.elim
   | dt x=>exact p.elim
   | ob c ks ts=>
     dsimp only at p
     split at p
     . rename_i hok
       rw [Bool.and_eq_true,decide_eq_true_eq] at hok
       intro v S1 H1 w1 r1
       refine hp.at (I.grow w1) hi hv e0 e1 fun w S2 H2 w2 I2 wk=>?_
       obtain ⟨F,J⟩:=id I
       obtain ⟨w0,f1,rest,wk',ro,pF,nd,gs,cc⟩:=J.part hi hv e1
       have wg:bb S H S2 H2:=w1.trans w2
       have:=wk.inj (wk'.mono wg.g)
       subst this
       unfold bJ at ro
       obtain ⟨q,C,dx,us,ff,rfl,hcl,hq,hd,hk,rfl,rs⟩:=ro
       obtain ⟨a1,a2⟩:=ha c C hcl hok.1
       have nd1:=(List.nodup_append.mp nd).1
       have nq:q ∉ dx ::ff:=(List.nodup_cons.mp nd1).1
       have ndx':dx ∉ ff:=(List.nodup_cons.mp (List.nodup_cons.mp nd1).2).1
       have ndf:ff.Nodup:=(List.nodup_cons.mp (List.nodup_cons.mp nd1).2).2
       have hlen:us.length < 1000:=by have:=congrArg List.length hk; simp at this; omega
       obtain ⟨fx,rx,nx,gx⟩:=r1.grow w2
       refine ⟨q,C,dx,us,rfl,wg.g _ _ hq,a1,a2,hlen,?_⟩
       have noS:∀ a ∈ q ::dx ::ff,S2 a = none:=fun a ha=>by
        cases z:S2 a with
        | none=>rfl
        | some o=>
          obtain ⟨⟨o',h1,_⟩,_,h3⟩:=J.live i a (pF.mem_iff.mpr (List.mem_append_left _ ha))
          rcases wg.new a (by rw [z]; simp) with y | y
          . exact absurd h3 y
          . rw [h1] at y; cases y
       have fin:∀ ks' ts' f',(gZ f v us).map (·.1) = ks' -> bH K cls S2 H2 ts' ((gZ f v us).map (·.2)) f' -> f'.Nodup -> (∀ a ∈ f',a ∈ ff \/ (H a = none /\ S2 a = none)) ->
         SR K cls Av G S₀ (ρ.set i (some (.tr io (t.put π (.ob c ks' ts'))))) σ S2 (upd H2 q (.ins C dx (gZ f v us))):=by
        intro ks' ts' f' hk' rs' nd' fr
        have nqf:q ∉ f':=fun z=>by
         rcases fr q z with y | y
         . exact nq (by simp [y])
         . rw [y.1] at hq; cases hq
        have ndf':dx ∉ f':=fun z=>by
         rcases fr dx z with y | y
         . exact ndx' y
         . rw [y.1] at hd; cases hd
        have ndq:dx ≠ q:=fun z=>nq (by simp [z])
        obtain ⟨g,J3,_⟩:=cc S2 (upd H2 q (.ins C dx (gZ f v us))) (.ob c ks' ts') (q ::dx ::f') wg.s (wg.sh.upd (noS q (by simp))) ((J.gh.trans wg.g).upd (gs q (by simp)).1) (fun b h=>by
          rcases wg.new b h with z | z
          . exact J.new b z
          . exact .inr (J.gh.free z)) (by
          unfold bJ
          exact ⟨q,C,dx,_,f',rfl,hcl,aX,by rw [aO ndq]; exact wg.g _ _ hd,hk',rfl,rs'.mono (az.refl _) fun a ha o h=>by rw [aO (fun z=>nqf (by rw [<- z]; exact ha))]; exact h⟩)
         (List.nodup_cons.mpr ⟨fun z=>by
           rcases List.mem_cons.mp z with z | z
           . exact ndq z.symm
           . exact nqf z,List.nodup_cons.mpr ⟨ndf',nd'⟩⟩) (fun a ha=>by
           rcases List.mem_cons.mp ha with z | z
           . subst z; exact .inl (by simp)
           . rcases List.mem_cons.mp z with z | z
             . subst z; exact .inl (by simp)
             . rcases fr a z with y | y
               . exact .inl (by simp [y])
               . exact .inr y.1) (fun a ha=>by
           rcases List.mem_cons.mp ha with z | z
           . subst z; exact noS _ (by simp)
           . rcases List.mem_cons.mp z with z | z
             . subst z; exact noS _ (by simp)
             . rcases fr a z with y | y
               . exact noS a (by simp [y])
               . exact y.2) (fun a o hn h=>by rw [aO (fun z=>hn (by rw [z]; simp))]; exact wg.g _ _ h) fun a h=>by
           rcases wg.new a h with z | z
           . exact .inl z
           . exact .inr (.inl z)
        exact ⟨_,J3⟩
       have hlts:ts.length = ks.length:=by rw [<- rs.length,<- hk]; simp
       split at p
       . rename_i hc
         obtain ⟨k,h1,h2,h3,h4⟩:=sO hlts (by simpa using hc)
         obtain ⟨k1,k2⟩:=yC (y:=v) hk h2 h1
         obtain ⟨w3,g1,rest3,e3,r3,p3,c3⟩:=rs.at (k:=k) (u:=ts[k]) (by simp [h3])
         obtain ⟨g,rg,pg⟩:=c3 S2 H2 x v fx wg.s rx fun a _ o h=>wg.g _ _ h
         have inff:∀ a ∈ rest3,a ∈ ff:=fun a ha=>p3.mem_iff.mpr (List.mem_append_right _ ha)
         have ndr:rest3.Nodup:=(List.nodup_append.mp (p3.nodup_iff.mp ndf)).2.1
         have ndg:g.Nodup:=pg.nodup_iff.mpr (List.nodup_append.mpr ⟨nx,ndr,fun a ha b hb z=>by
          subst z
          obtain ⟨o,h1,_⟩:=rs.live a (inff a hb)
          rw [(gx a ha).1] at h1; cases h1⟩)
         have q1:=fin ks (ts.set k x) g k1 (by rw [k2]; exact rg) ndg fun a ha=>by
          rcases List.mem_append.mp (pg.mem_iff.mp ha) with z | z
          . exact .inr (gx a z)
          . exact .inl (inff a z)
         rw [h4] at p
         exact p σ S2 _ q1 wg.s
       . rename_i hc
         have hn:f ∉ us.map (·.1):=by rw [hk]; simpa using hc
         have e2:=wW (y:=v) hn
         have ndg:(ff ++ (fx ++ [])).Nodup:=by
          rw [List.append_nil]
          exact List.nodup_append.mpr ⟨ndf,nx,fun a ha b hb z=>by
           subst z
           obtain ⟨o,h1,_⟩:=rs.live a ha
           rw [(gx a hb).1] at h1; cases h1⟩
         have q1:=fin (ks ++ [f]) (ts ++ [x]) (ff ++ (fx ++ [])) (by rw [e2]; simp [hk]) (by rw [e2,List.map_append]; exact (rs.mono wg.s fun a _ o h=>wg.g _ _ h).append (.cons rx .nil)) ndg fun a ha=>by
          rw [List.append_nil] at ha
          rcases List.mem_append.mp ha with z | z
          . exact .inl z
          . exact .inr (gx a z)
         exact p σ S2 _ q1 wg.s
     . exact p.elim
end
end L2.P
namespace L2.P
open PySem PySem.Spec PyProof.Rows L2 L2.E
open Classical in
noncomputable def minus (H:Hp) (Fc:Nat -> List Addr):Hp:=fun a=>if ∃ k,a ∈ Fc k then none else H a
section
variable {K:PySem.W.Frag} {cls:String -> Option Addr} {W:XW} {Av G S₀ S S' H H' B B':Hp} {ρ:aa} {σ:St} {Q:VK} {F Fc Fc':Nat -> List Addr}
theorem rp {a:Addr} {k:Nat} (h:a ∈ Fc k):minus H Fc a = none:=by unfold minus; rw [if_pos ⟨k,h⟩]
theorem gA {a:Addr} (h:∀ k,a ∉ Fc k):minus H Fc a = H a:=by unfold minus; rw [if_neg (fun ⟨k,z⟩=>h k z)]
theorem oi:az (minus H Fc) H:=fun b u h=>by
 unfold minus at h
 split at h
 . cases h
 . exact h
theorem jd {a:Addr} (h:minus H Fc a = none):H a = none \/ ∃ k,a ∈ Fc k:=by
 unfold minus at h
 split at h
 . rename_i z; exact .inr z
 . exact .inl h
def E9 (K:PySem.W.Frag) (cls:String -> Option Addr) (S H Hm:Hp):Sl -> V -> List Addr -> Prop
 | .sh x,v,fp=>fp = [] /\ Rep K S x v
 | .tr true t,v,fp=>bJ K cls S H t v fp /\ fp.Nodup
 | .bo t,v,fp=>fp = [] /\ ∃ f,bJ K cls S Hm t v f
 | _,_,_=>False
structure xl (K:PySem.W.Frag) (cls:String -> Option Addr) (vs:List V) (S H:Hp) (Fc:Nat -> List Addr) (outs:List (Option OV)) (S' H':Hp) (Fc':Nat -> List Addr):Prop where
 s:az S S'
 sh:az S' H'
 keep:az (minus H Fc) H'
 new:∀ b,S' b ≠ none -> S b ≠ none \/ H b = none \/ ∃ k,b ∈ Fc k
 out:∀ k t',outs[k]? = some (some t') -> ∃ u,vs[k]? = some u /\ bJ K cls S' H' t' u (Fc' k) /\ (Fc' k).Nodup
 apart:∀ j k a,a ∈ Fc' j -> a ∈ Fc' k -> j = k
 live:∀ k a,a ∈ Fc' k -> minus H Fc a = none /\ S' a = none
def D8 (K:PySem.W.Frag) (cls:String -> Option Addr) (vs:List V) (S H:Hp) (Fc:Nat -> List Addr) (Q:VK) (E:XK):OI -> Prop
 | .ok x outs=>∀ v S' H' Fc',xl K cls vs S H Fc outs S' H' Fc' -> Rep K S' x v -> Q v H'
 | .exc c fs outs=>∀ a C S' H' Fc',xl K cls vs S H Fc outs S' H' Fc' -> jS K cls S' H' c fs a C -> E (.ref C) (some a) H'
 | .bad=>False
structure wO (K:PySem.W.Frag) (cls:String -> Option Addr) (as:List Sl) (vs:List V) (S H:Hp) (Fc:Nat -> List Addr):Prop where
 sh:az S H
 len:as.length = vs.length
 rel:∀ (k:Nat) (s:Sl),as[k]? = some s -> ∃ v,vs[k]? = some v /\ E9 K cls S H (minus H Fc) s v (Fc k)
 apart:∀ j k a,a ∈ Fc j -> a ∈ Fc k -> j = k
 live:∀ k a,a ∈ Fc k -> (∃ o,H a = some o /\ isX o = false) /\ S a = none
def spI (K:PySem.W.Frag) (cls:String -> Option Addr) (f:List Sl -> OI):Sp:=fun vs H Q E=>∃ S as Fc,wO K cls as vs S H Fc /\ D8 K cls vs S H Fc Q E (f as)
theorem y7 {as:List Sl} {vs:List V} {N:List Str} {i:Nat} {s:Sl} (hl:as.length = vs.length) (e:(jy N.length as)[i]? = some (some s)):as[i]? = some s /\ (L2.start N vs)[i]? = some ((vs[i]?)):=by
 unfold jy at e
 by_cases hi:i < as.length
 . rw [List.getElem?_append_left (by simpa using hi),List.getElem?_map] at e
   have hx:as[i]? = some as[i]:=by simp [hi]
   rw [hx] at e
   cases e
   refine ⟨hx,?_⟩
   unfold L2.start
   rw [List.getElem?_append_left (by rw [List.length_map,<- hl]; exact hi),List.getElem?_map]
   have hv:vs[i]? = some (vs[i]'(by rw [<- hl]; exact hi)):=by simp [<- hl,hi]
   rw [hv]; rfl
 . rw [List.getElem?_append_right (by simpa using hi)] at e
   rw [List.getElem?_replicate] at e
   split at e <;> cases e
def yc (vs:List V):Hp:=fun i=>(vs[i]?).map fun v=>.lst [v]
theorem SR.CL {vs:List V} {np:Nat} {ρ':aa} {σ':St} (A:az S H) (I:SR K cls (yc vs) (minus H Fc) S ρ' σ' S' H'):∃ Fc',xl K cls vs S H Fc ((ρ'.take np).map pB) S' H' Fc':=by
 obtain ⟨F,J⟩:=I
 refine ⟨F,J.s0,J.sh,J.gh,fun b h=>?_,fun k t' e=>?_,J.apart,fun k a ha=>(J.live k a ha).2⟩
 . rcases J.new b h with z | z
   . exact .inl z
   . rcases jd z with y | y
     . exact .inr (.inl y)
     . exact .inr (.inr y)
 . rw [List.getElem?_map] at e
   obtain ⟨s,e1,e2⟩:=Option.map_eq_some_iff.mp e
   have e3:ρ'[k]? = some s:=by
    rw [List.getElem?_take] at e1
    split at e1
    . exact e1
    . cases e1
   cases s with
   | none=>cases e2
   | some s=>
     cases s with
     | tr io t=>
       cases io with
       | false=>cases e2
       | true=>
         cases e2
         obtain ⟨v,ev,ro,nd,_,hio⟩:=J.own k _ e3
         have:=hio rfl
         unfold yc at this
         obtain ⟨u,eu,e4⟩:=Option.map_eq_some_iff.mp this
         cases e4
         exact ⟨v,eu,ro,nd⟩
     | sh x=>cases e2
     | ow x=>cases e2
     | ex c fs=>cases e2
     | bo t=>cases e2
theorem rY {P:Program} {w:World} {mg:Str -> Option Value} {base:Heap} {x qual:Str} {st:Stmt} {f:Addr} {fd:FuncData} {N ps:List Str} {k:Nat} {m:aa -> OS} (Fn:Fun K x qual st f fd) (Sc:aW N ps (ao st))
  (hbody:∀ (cdv:Value) (A:Around) (outer:List Env) (s:Shared) (H:Hp) (E:XK),fJ k (A.deeper (envOfC qual (ao st) s.heap.objs.size f cdv)) ->
    ∃ t,QSs (lF (CXE P w) P w K mg base N qual (ao st) f cdv A outer s H E) (aT st) t /\ JS K cls (fun C a _ H=>∀ H',az H H' -> E C a H') t m):cy P w K mg base (CXE P w) (k + 1) f fd ps (spI K cls (fnI ps.length N.length m)):=by
 refine okX Fn Sc (fun vs H Q E h=>?_) fun cdv A outer s H vs Q E hr h=>?_
 . obtain ⟨S,as,Fc,a,q⟩:=h
   unfold fnI at q
   split at q
   . rw [<- a.len]; assumption
   . exact q.elim
 . obtain ⟨S,as,Fc,a,q⟩:=h
   unfold fnI at q
   split at q
   . rename_i hl
     obtain ⟨t,ht,J⟩:=hbody cdv A outer s H E hr
     refine ⟨t,ht.out,?_⟩
     have start:SR K cls (yc vs) (minus H Fc) S (jy N.length as) (L2.start N vs) S H:=by
      refine ⟨Fc,oi,az.refl _,a.sh,fun _ z=>.inl z,fun i s e=>?_,a.apart,fun i b hb=>⟨(a.live i b hb).1,rp hb,(a.live i b hb).2⟩,?_⟩
      . obtain ⟨e1,e2⟩:=y7 a.len e
        obtain ⟨v,ev,r⟩:=a.rel i s e1
        rw [ev] at e2
        refine ⟨v,e2,?_⟩
        cases s with
        | sh x=>exact r
        | ow x=>exact r.elim
        | ex c fs=>exact r.elim
        | tr io t=>
          cases io with
          | false=>exact r.elim
          | true=>exact ⟨r.1,r.2,fun b hb=>⟨rp hb,(a.live i b hb).2⟩,fun _=>by unfold yc; rw [ev]; rfl⟩
        | bo t=>exact r
      . unfold jy L2.start
        simp [a.len]
     refine J (yc vs) (minus H Fc) S (jy N.length as) (L2.start N vs) S H _ start ?_
     cases e:m (jy N.length as) with
     | nx ρ'=>rw [e] at q; exact fun σ' S' H' I' s'=>let ⟨Fc',E'⟩:=I'.CL (np:=ps.length) a.sh; q .non S' H' Fc' E' (by unfold Rep; rfl)
     | bk ρ'=>rw [e] at q; exact q.elim
     | ct ρ'=>rw [e] at q; exact q.elim
     | bad=>rw [e] at q; exact q.elim
     | rt ρ' r=>
       rw [e] at q
       cases r with
       | al ys=>exact q.elim
       | fr ys=>exact q.elim
       | sh y=>exact fun v σ' S' H' I' s' rr=>let ⟨Fc',E'⟩:=I'.CL (np:=ps.length) a.sh; q v S' H' Fc' E' rr
     | exc ρ' c fs=>
       rw [e] at q
       exact fun b C σ' S' H' I' s' x H2 g2=>let ⟨Fc',E'⟩:=(I'.same g2).CL (np:=ps.length) a.sh; q b C S' H2 Fc' E' (x.mono (az.refl _) g2)
   . exact q.elim
def AR1 (K:PySem.W.Frag) (S H:Hp) (ρ:aa) (σ:St):Arg -> Sl -> V -> Prop
 | .e _,.sh x,v=>Rep K S x v
 | .t i mp,.tr true u,v=>∃ io t π v0,ρ[i]? = some (some (.tr io t)) /\ mp ρ = some π /\ t.get π = some u /\ σ[i]? = some (some v0) /\ gN H v0 π v
 | .b i mp,.bo u,v=>∃ t π v0,il i ρ = some t /\ mp ρ = some π /\ t.get π = some u /\ σ[i]? = some (some v0) /\ gN H v0 π v
 | _,_,_=>False
def ARs (K:PySem.W.Frag) (S H:Hp) (ρ:aa) (σ:St):List Arg -> List Sl -> List V -> Prop
 | [],ss,vs=>ss = [] /\ vs = []
 | a ::as,ss,vs=>∃ s sr v vr,ss = s ::sr /\ vs = v ::vr /\ AR1 K S H ρ σ a s v /\ ARs K S H ρ σ as sr vr
theorem AR1.mono {a:Arg} {s:Sl} {v:V} (h:AR1 K S H ρ σ a s v) (s1:az S S') (g:az H H'):AR1 K S' H' ρ σ a s v:=by
 cases a with
 | e me=>cases s <;> first | exact h.elim | exact Rep.mono s1 h
 | t i mp=>
   cases s with
   | tr io u=>
     cases io with
     | false=>exact h.elim
     | true=>obtain ⟨io,t,π,v0,h1,h2,h3,h4,h5⟩:=h; exact ⟨io,t,π,v0,h1,h2,h3,h4,h5.mono g⟩
   | _=>exact h.elim
 | b i mp=>
   cases s with
   | bo u=>obtain ⟨t,π,v0,h1,h2,h3,h4,h5⟩:=h; exact ⟨t,π,v0,h1,h2,h3,h4,h5.mono g⟩
   | _=>exact h.elim
theorem ARs.at {as:List Arg}:∀ {ss:List Sl} {vs:List V} {k:Nat} {a:Arg},ARs K S H ρ σ as ss vs -> as[k]? = some a -> ∃ s v,ss[k]? = some s /\ vs[k]? = some v /\ AR1 K S H ρ σ a s v:=by
 induction as with
 | nil=>intro ss vs k a _ e; simp at e
 | cons b as ih=>
   rintro ss vs k a ⟨s,sr,v,vr,rfl,rfl,h1,h2⟩ e
   cases k with
   | zero=>simp at e; subst e; exact ⟨s,v,rfl,rfl,h1⟩
   | succ k=>simp at e; obtain ⟨s',v',e1,e2,r⟩:=ih h2 e; exact ⟨s',v',by simpa using e1,by simpa using e2,r⟩
theorem ARs.len {as:List Arg}:∀ {ss:List Sl} {vs:List V},ARs K S H ρ σ as ss vs -> ss.length = as.length /\ vs.length = as.length:=by
 induction as with
 | nil=>intro ss vs h; rw [h.1,h.2]; exact ⟨rfl,rfl⟩
 | cons b as ih=>
   rintro ss vs ⟨s,sr,v,vr,rfl,rfl,h1,h2⟩
   have:=ih h2
   simp [this]
def JAI (K:PySem.W.Frag) (cls:String -> Option Addr) (t:TA) (as:List Arg):Prop:=∀ Av G S₀ ρ σ S H Q ss,SR K cls Av G S₀ ρ σ S H -> iX as ρ = some ss -> (∀ vs S' H',bb S H S' H' -> ARs K S' H' ρ σ as ss vs -> Q vs H') -> t σ H Q
def JA1 (K:PySem.W.Frag) (cls:String -> Option Addr) (te:TE) (a:Arg):Prop:=∀ Av G S₀ ρ σ S H Q s,SR K cls Av G S₀ ρ σ S H -> jv a ρ = some s -> (∀ v S' H',bb S H S' H' -> AR1 K S' H' ρ σ a s v -> Q v H') -> te σ H Q
theorem AU {te:TE} {me:aa -> OE} (h:JE K cls W te me):JA1 K cls te (.e me):=by
 intro Av G S₀ ρ σ S H Q s I e k
 unfold jv at e
 dsimp only at e
 refine h Av G S₀ ρ σ S H Q I ?_
 cases em:me ρ with
 | exc c fs=>rw [em] at e; cases e
 | bad=>rw [em] at e; cases e
 | ok r=>
   rw [em] at e
   obtain ⟨x,e1,rfl⟩:=Option.map_eq_some_iff.mp e
   intro v S1 H1 w1 r1
   obtain ⟨S2,w2,s2,rx⟩:=r1.share w1 e1
   exact k v S2 H1 w2 rx
theorem Ay {te:TE} {i:Nat} {mp:MP} (h:JP K cls te i mp):JA1 K cls te (.t i mp):=by
 intro Av G S₀ ρ σ S H Q s I e k
 unfold jv at e
 dsimp only at e
 split at e
 . rename_i io t hi
   obtain ⟨u,e1,rfl⟩:=Option.map_eq_some_iff.mp e
   obtain ⟨π,e2,e3⟩:=Option.bind_eq_some_iff.mp e1
   obtain ⟨v0,hv⟩:=I.val hi
   exact h.at I hi hv e2 e3 fun w S1 H1 w1 I1 wk=>k w S1 H1 w1 ⟨io,t,π,v0,hi,e2,e3,hv,wk⟩
 . cases e
theorem AF {te:TE} {i:Nat} {mp:MP} (h:JP K cls te i mp):JA1 K cls te (.b i mp):=by
 intro Av G S₀ ρ σ S H Q s I e k
 unfold jv at e
 dsimp only at e
 obtain ⟨u,e1,rfl⟩:=Option.map_eq_some_iff.mp e
 unfold subAt at e1
 split at e1
 . rename_i t et
   split at e1
   . rename_i π eπ
     obtain ⟨v0,fp,hv,_⟩:=I.tree et
     exact h Av G S₀ ρ σ S H Q v0 t π I et hv eπ (by rw [e1]; rfl) fun w S1 H1 w1 wk=>k w S1 H1 w1 ⟨t,π,v0,et,eπ,e1,hv,wk⟩
   . cases e1
 . cases e1
theorem ny:JAI K cls jM []:=by
 intro Av G S₀ ρ σ S H Q ss I e k
 cases e
 exact k [] S H (bb.refl I.sh) ⟨rfl,rfl⟩
theorem sv {te:TE} {t:TA} {a:Arg} {as:List Arg} (h:JA1 K cls te a) (r:JAI K cls t as):JAI K cls (iI te t) (a ::as):=by
 intro Av G S₀ ρ σ S H Q ss I e k
 unfold iX at e
 obtain ⟨s,e1,e2⟩:=Option.bind_eq_some_iff.mp e
 obtain ⟨sr,e3,rfl⟩:=Option.map_eq_some_iff.mp e2
 refine h Av G S₀ ρ σ S H _ s I e1 fun v S1 H1 w1 h1=>?_
 refine r Av G S₀ ρ σ S1 H1 _ sr (I.grow w1) e3 fun vs S2 H2 w2 h2=>?_
 exact k (v ::vs) S2 H2 (w1.trans w2) ⟨s,sr,v,vs,rfl,rfl,h1.mono w2.s w2.g,h2⟩
end
end L2.P
namespace L2.P
open PySem PySem.Spec PyProof.Rows L2 L2.E
section
variable {K:PySem.W.Frag} {cls:String -> Option Addr} {W:XW} {Av G S₀ S S' H H' B B':Hp} {ρ:aa} {σ:St} {Q:VK} {F Fc Fc':Nat -> List Addr}
def cX:List Arg -> List Nat
 | []=>[]
 | .t i _ ::as=>i ::cX as
 | _ ::as=>cX as
def mE:List Arg -> List Nat
 | []=>[]
 | .b i _ ::as=>i ::mE as
 | _ ::as=>mE as
def argsOk (as:List Arg):Bool:=decide (cX as).Nodup && (mE as).all fun i=>!(cX as).contains i
theorem fu {as:List Arg} {k i:Nat} {mp:MP} (h:as[k]? = some (.t i mp)):i ∈ cX as:=by
 induction as generalizing k with
 | nil=>simp at h
 | cons a as ih=>
   cases k with
   | zero=>simp at h; subst h; simp [cX]
   | succ k=>
     simp at h
     have:=ih h
     cases a <;> simp [cX,this]
theorem tj {as:List Arg} {k i:Nat} {mp:MP} (h:as[k]? = some (.b i mp)):i ∈ mE as:=by
 induction as generalizing k with
 | nil=>simp at h
 | cons a as ih=>
   cases k with
   | zero=>simp at h; subst h; simp [mE]
   | succ k=>
     simp at h
     have:=ih h
     cases a <;> simp [mE,this]
theorem jc {as:List Arg} (nd:(cX as).Nodup) {j k i:Nat} {mp mp':MP} (h:as[j]? = some (.t i mp)) (h':as[k]? = some (.t i mp')):j = k:=by
 induction as generalizing j k with
 | nil=>simp at h
 | cons a as ih=>
   cases j with
   | zero=>
     simp at h
     subst h
     cases k with
     | zero=>rfl
     | succ k=>
       simp at h'
       have:=fu h'
       simp [cX] at nd
       exact absurd this nd.1
   | succ j=>
     cases k with
     | zero=>
       simp at h'
       subst h'
       simp at h
       have:=fu h
       simp [cX] at nd
       exact absurd this nd.1
     | succ k=>
       simp at h h'
       have nd':(cX as).Nodup:=by
        cases a with
        | t i' mp=>simp [cX] at nd; exact nd.2
        | e me=>exact nd
        | b i' mp=>exact nd
       rw [ih nd' h h']
theorem mq {as:List Arg} {i:Nat} (h:i ∈ cX as):∃ (k:Nat) (mp:MP),as[k]? = some (.t i mp):=by
 induction as with
 | nil=>simp [cX] at h
 | cons a as ih=>
   cases a with
   | t j mp=>
     simp [cX] at h
     rcases h with h | h
     . subst h; exact ⟨0,mp,rfl⟩
     . obtain ⟨k,mp',e⟩:=ih h; exact ⟨k + 1,mp',by simpa using e⟩
   | e me=>obtain ⟨k,mp',e⟩:=ih h; exact ⟨k + 1,mp',by simpa using e⟩
   | b j mp=>obtain ⟨k,mp',e⟩:=ih h; exact ⟨k + 1,mp',by simpa using e⟩
theorem mZ {as:List Arg} {ρ₀:aa}:∀ {us:List (Option OV)} {ρ:aa} {i:Nat},i ∉ cX as -> (eV ρ₀ as us ρ)[i]? = ρ[i]?:=by
 induction as with
 | nil=>intro us ρ i _; rfl
 | cons a as ih=>
   intro us ρ i h
   unfold eV
   cases a with
   | e me=>rw [ih h]; rfl
   | b j mp=>rw [ih h]; rfl
   | t j mp=>
     simp [cX] at h
     rw [ih h.2]
     have:∀ x:Option Sl,(ρ.set j x)[i]? = ρ[i]?:=fun x=>List.getElem?_set_ne (Ne.symm h.1)
     cases us.head?.join with
     | none=>exact this _
     | some u=>
       unfold iL
       dsimp only
       split
       . split
         . exact this _
         . exact this _
       . exact this _
theorem tO {as:List Arg} {ρ₀:aa}:∀ {us:List (Option OV)} {ρ:aa} {i k:Nat} {mp:MP} {s:Sl},(cX as).Nodup -> as[k]? = some (.t i mp) -> (eV ρ₀ as us ρ)[i]? = some (some s) ->
  ∃ io t π u,us[k]? = some (some u) /\ ρ[i]? = some (some (.tr io t)) /\ mp ρ₀ = some π /\ s = .tr io (t.put π u):=by
 induction as with
 | nil=>intro us ρ i k mp s _ h; simp at h
 | cons a as ih=>
   intro us ρ i k mp s nd h e
   unfold eV at e
   cases k with
   | zero=>
     simp at h
     subst h
     simp [cX] at nd
     rw [mZ nd.1] at e
     cases us with
     | nil=>
       unfold iL at e
       simp at e
       rw [List.getElem?_set] at e
       simp at e
     | cons u us=>
       cases u with
       | none=>
         unfold iL at e
         simp at e
         rw [List.getElem?_set] at e
         simp at e
       | some u=>
         unfold iL at e
         simp only [List.head?_cons,Option.join_some] at e
         split at e
         . rename_i io t hi
           split at e
           . rename_i π hπ
             rw [List.getElem?_set] at e
             simp at e
             exact ⟨io,t,π,u,rfl,hi,hπ,e.2.symm⟩
           . rw [List.getElem?_set] at e
             simp at e
         . rw [List.getElem?_set] at e
           simp at e
   | succ k=>
     simp at h
     have nd':(cX as).Nodup:=by
      cases a with
      | t i' mp=>simp [cX] at nd; exact nd.2
      | e me=>exact nd
      | b i' mp=>exact nd
     obtain ⟨io,t,π,u,e1,e2,e3,e4⟩:=ih nd' h e
     refine ⟨io,t,π,u,?_,?_,e3,e4⟩
     . cases us with
       | nil=>simp at e1
       | cons _ us=>simpa using e1
     . cases a with
       | e me=>exact e2
       | b j mp=>exact e2
       | t j mp'=>
         have hij:i ≠ j:=by
          intro z
          subst z
          simp [cX] at nd
          exact nd.1 (fu h)
         have:∀ x:Option Sl,(ρ.set j x)[i]? = ρ[i]?:=fun x=>List.getElem?_set_ne (Ne.symm hij)
         cases q:us.head?.join with
         | none=>rw [q] at e2; unfold iL at e2; simp only at e2; rw [this] at e2; exact e2
         | some u=>
           rw [q] at e2
           unfold iL at e2
           simp only at e2
           split at e2
           . split at e2
             . rw [this] at e2; exact e2
             . rw [this] at e2; exact e2
           . rw [this] at e2; exact e2
theorem so {as:List Arg} {ρ₀:aa}:∀ {us:List (Option OV)} {ρ:aa},(eV ρ₀ as us ρ).length = ρ.length:=by
 induction as with
 | nil=>intro us ρ; rfl
 | cons a as ih=>
   intro us ρ
   unfold eV
   rw [ih]
   unfold iL
   split
   . split
     . split <;> simp
     . simp
   . simp
   . rfl
theorem SR.El {as:List Arg} {ss:List Sl} {vs:List V} (I:SR K cls Av G S₀ ρ σ S H) (ok:argsOk as = true) (h:ARs K S H ρ σ as ss vs):
  ∃ Fc,wO K cls ss vs S H Fc /\ ∀ outs S' H' Fc',xl K cls vs S H Fc outs S' H' Fc' -> SR K cls Av G S₀ (eV ρ as outs ρ) σ S' H':=by
 obtain ⟨F,J⟩:=I
 unfold argsOk at ok
 rw [Bool.and_eq_true,decide_eq_true_eq] at ok
 obtain ⟨nd,hb⟩:=ok
 have cell:∀ k:Nat,∃ d:List Addr × List Addr,(∀ i mp,as[k]? = some (.t i mp) -> ∃ io t π u v0 w,ss[k]? = some (.tr true u) /\ vs[k]? = some w /\ ρ[i]? = some (some (.tr io t)) /\ mp ρ = some π /\ t.get π = some u /\ σ[i]? = some (some v0) /\ bJ K cls S H u w d.1 /\ (F i).Perm (d.1 ++ d.2) /\ (d.1 ++ d.2).Nodup /\ (io = true -> Av i = some (.lst [v0])) /\
   ∀ S' H' u' f',az S S' -> bJ K cls S' H' u' w f' -> (∀ a ∈ d.2,∀ o,H a = some o -> H' a = some o) -> ∃ g,bJ K cls S' H' (t.put π u') v0 g /\ g.Perm (f' ++ d.2)) /\ ((∀ i mp,as[k]? ≠ some (.t i mp)) -> d = ([],[])):=by
  intro k
  by_cases hk:∃ i mp,as[k]? = some (.t i mp)
  . obtain ⟨i,mp,e⟩:=hk
    obtain ⟨s,w,es,ev,r⟩:=h.at e
    cases s with
    | tr io' u=>
      cases io' with
      | false=>exact r.elim
      | true=>
        obtain ⟨io,t,π,v0,h1,h2,h3,h4,h5⟩:=r
        obtain ⟨v,ev',ro,ndf,gs,hio⟩:=J.own i _ h1
        rw [h4] at ev'; cases ev'
        obtain ⟨w',f1,rest,wk,r1,p1,c1⟩:=ro.focus h3
        have:=h5.inj wk
        subst this
        refine ⟨(f1,rest),fun i' mp' e'=>?_,fun z=>absurd e (z i mp)⟩
        rw [e] at e'
        cases e'
        exact ⟨io,t,π,u,v0,w,es,ev,h1,h2,h3,h4,r1,p1,p1.nodup_iff.mp ndf,hio,c1⟩
    | sh x=>exact r.elim
    | ow x=>exact r.elim
    | ex c fs=>exact r.elim
    | bo x=>exact r.elim
  . exact ⟨([],[]),fun i mp e=>absurd ⟨i,mp,e⟩ hk,fun _=>rfl⟩
 obtain ⟨d,hd⟩:=Classical.axiomOfChoice cell
 have tOf:∀ k a,a ∈ (d k).1 -> ∃ i mp,as[k]? = some (.t i mp) /\ a ∈ F i:=by
  intro k a ha
  by_cases hk:∃ i mp,as[k]? = some (.t i mp)
  . obtain ⟨i,mp,e⟩:=hk
    obtain ⟨io,t,π,u,v0,w,_,_,_,_,_,_,_,p1,_⟩:=(hd k).1 i mp e
    exact ⟨i,mp,e,p1.mem_iff.mpr (List.mem_append_left _ ha)⟩
  . rw [(hd k).2 fun i mp e=>hk ⟨i,mp,e⟩] at ha; cases ha
 have hlen:=h.len
 have lj:∀ i a,a ∈ F i -> (∀ k mp,as[k]? = some (.t i mp) -> a ∉ (d k).1) -> ∀ k,a ∉ (d k).1:=by
  intro i a ha hn k hk
  obtain ⟨i',mp,e,ha'⟩:=tOf k a hk
  have:=J.apart i i' a ha ha'
  subst this
  exact hn k mp e hk
 refine ⟨fun k=>(d k).1,⟨J.sh,by rw [hlen.1,hlen.2],fun k s es=>?_,fun j k a h1 h2=>?_,fun k a ha=>?_⟩,fun outs S' H' Fc' E=>?_⟩
 . have hk:k < as.length:=by rw [<- hlen.1]; exact (List.getElem?_eq_some_iff.mp es).1
   obtain ⟨s',w,es',ev,r⟩:=h.at (k:=k) (a:=as[k]) (by simp [hk])
   rw [es] at es'; cases es'
   refine ⟨w,ev,?_⟩
   cases q:as[k] with
   | e me=>
     rw [q] at r
     have hz:=(hd k).2 fun i mp e=>by rw [List.getElem?_eq_getElem hk,q] at e; cases e
     cases s <;> first | exact r.elim | exact ⟨by rw [hz],r⟩
   | t i mp=>
     have eq:as[k]? = some (.t i mp):=by rw [List.getElem?_eq_getElem hk,q]
     obtain ⟨io,t,π,u,v0,w',es',ev',_,_,_,_,r1,_,nd1,_⟩:=(hd k).1 i mp eq
     rw [es] at es'; cases es'
     rw [ev] at ev'; cases ev'
     exact ⟨r1,(List.nodup_append.mp nd1).1⟩
   | b i mp=>
     have eq:as[k]? = some (.b i mp):=by rw [List.getElem?_eq_getElem hk,q]
     rw [q] at r
     have hz:=(hd k).2 fun i mp e=>by rw [eq] at e; cases e
     cases s with
     | bo u=>
       obtain ⟨t,π,v0,h1,h2,h3,h4,h5⟩:=r
       refine ⟨by rw [hz],?_⟩
       have nt:i ∉ cX as:=by
        have:=List.all_eq_true.mp hb i (tj eq)
        simpa using this
       have ro:∃ f,bJ K cls S (minus H fun k=>(d k).1) t v0 f:=by
        unfold il at h1
        cases q1:ρ[i]? with
        | none=>rw [q1] at h1; cases h1
        | some o=>
          cases o with
          | none=>rw [q1] at h1; cases h1
          | some s1=>
            rw [q1] at h1
            obtain ⟨v,ev',r⟩:=J.own i s1 q1
            rw [h4] at ev'; cases ev'
            cases s1 with
            | tr io t'=>
              cases h1
              exact ⟨_,r.1.mono (az.refl _) fun a ha o ho=>by
               rw [gA (lj i a ha fun k' mp' e'=>absurd (fu e') nt)]; exact ho⟩
            | bo t'=>
              cases h1
              obtain ⟨_,f,r⟩:=r
              exact ⟨f,r.mono (az.refl _) fun a ha o ho=>by
               rw [gA fun k' hk'=>?_]
               . exact J.gh _ _ ho
               . obtain ⟨i',mp',_,ha'⟩:=tOf k' a hk'
                 rw [(J.live i' a ha').2.1] at ho; cases ho⟩
            | sh x=>cases h1
            | ow x=>cases h1
            | ex c fs=>cases h1
       obtain ⟨f,ro⟩:=ro
       obtain ⟨w',f1,rest,wk,r1,_,_⟩:=ro.focus h3
       have:=h5.inj (wk.mono oi)
       subst this
       exact ⟨f1,r1⟩
     | sh x=>exact r.elim
     | ow x=>exact r.elim
     | ex c fs=>exact r.elim
     | tr io x=>exact r.elim
 . obtain ⟨i,mp,e1,m1⟩:=tOf j a h1
   obtain ⟨i',mp',e2,m2⟩:=tOf k a h2
   have:=J.apart i i' a m1 m2
   subst this
   exact jc nd e1 e2
 . obtain ⟨i,mp,e1,m1⟩:=tOf k a ha
   exact ⟨(J.live i a m1).1,(J.live i a m1).2.2⟩
 .
  have noS:∀ i a,a ∈ F i -> (∀ k,a ∉ (d k).1) -> S' a = none:=fun i a ha hn=>by
   cases z:S' a with
   | none=>rfl
   | some o=>
     obtain ⟨⟨o',h1,_⟩,_,h3⟩:=J.live i a ha
     rcases E.new a (by rw [z]; simp) with y | y | ⟨k,y⟩
     . exact absurd h3 y
     . rw [h1] at y; cases y
     . exact absurd y (hn k)
  have keep:∀ a o,(∀ k,a ∉ (d k).1) -> H a = some o -> H' a = some o:=fun a o hn ho=>E.keep a o (by rw [gA hn]; exact ho)
  have restOff:∀ k i mp,as[k]? = some (.t i mp) -> ∀ a ∈ (d k).2,a ∈ F i /\ ∀ k',a ∉ (d k').1:=fun k i mp e a ha=>by
   obtain ⟨io,t,π,u,v0,w,_,_,_,_,_,_,_,p1,nd1,_⟩:=(hd k).1 i mp e
   have m:a ∈ F i:=p1.mem_iff.mpr (List.mem_append_right _ ha)
   refine ⟨m,lj i a m fun k' mp' e' hk'=>?_⟩
   have:=jc nd e e'
   subst this
   exact (List.nodup_append.mp nd1).2.2 a hk' a ha rfl
  have gcell:∀ k:Nat,∃ g:List Addr,∀ i mp u',as[k]? = some (.t i mp) -> outs[k]? = some (some u') -> ∀ io t π,ρ[i]? = some (some (.tr io t)) -> mp ρ = some π -> ∃ v0,σ[i]? = some (some v0) /\ (io = true -> Av i = some (.lst [v0])) /\ bJ K cls S' H' (t.put π u') v0 g /\ g.Perm (Fc' k ++ (d k).2):=by
   intro k
   by_cases hk:∃ i mp u',as[k]? = some (.t i mp) /\ outs[k]? = some (some u')
   . obtain ⟨i,mp,u',e,eo⟩:=hk
     obtain ⟨io,t,π,u,v0,w,es,ev,h1,h2,h3,h4,r1,p1,nd1,hio,c1⟩:=(hd k).1 i mp e
     obtain ⟨w',ew,r',ndf'⟩:=E.out k u' eo
     rw [ev] at ew; cases ew
     obtain ⟨g,rg,pg⟩:=c1 S' H' u' (Fc' k) E.s r' fun a ha o ho=>keep a o (restOff k i mp e a ha).2 ho
     refine ⟨g,fun i' mp' u'' e' eo' io' t' π' h1' h2'=>?_⟩
     rw [e] at e'; cases e'
     rw [eo] at eo'; cases eo'
     rw [h1] at h1'; cases h1'
     rw [h2] at h2'; cases h2'
     exact ⟨v0,h4,hio,rg,pg⟩
   . exact ⟨[],fun i mp u' e eo=>absurd ⟨i,mp,u',e,eo⟩ hk⟩
  obtain ⟨g,hg⟩:=Classical.axiomOfChoice gcell
  have fcell:∀ i:Nat,∃ f:List Addr,(i ∉ cX as -> f = F i) /\ ∀ k mp,as[k]? = some (.t i mp) -> ((∃ io t π u',ρ[i]? = some (some (.tr io t)) /\ mp ρ = some π /\ outs[k]? = some (some u')) -> f = g k) /\ ((¬ ∃ io t π u',ρ[i]? = some (some (.tr io t)) /\ mp ρ = some π /\ outs[k]? = some (some u')) -> f = []):=by
   intro i
   by_cases hi:i ∈ cX as
   . obtain ⟨k,mp,e⟩:=mq hi
     by_cases hx:∃ io t π u',ρ[i]? = some (some (.tr io t)) /\ mp ρ = some π /\ outs[k]? = some (some u')
     . refine ⟨g k,fun z=>absurd hi z,fun k' mp' e'=>?_⟩
       have:=jc nd e e'
       subst this
       rw [e] at e'; cases e'
       exact ⟨fun _=>rfl,fun z=>absurd hx z⟩
     . refine ⟨[],fun z=>absurd hi z,fun k' mp' e'=>?_⟩
       have:=jc nd e e'
       subst this
       rw [e] at e'; cases e'
       exact ⟨fun z=>absurd z hx,fun _=>rfl⟩
   . exact ⟨F i,fun _=>rfl,fun k mp e=>absurd (fu e) hi⟩
  obtain ⟨F',hF'⟩:=Classical.axiomOfChoice fcell
  have memF:∀ i a,a ∈ F' i -> (i ∉ cX as /\ a ∈ F i /\ ∀ k,a ∉ (d k).1) \/ (∃ k mp,as[k]? = some (.t i mp) /\ F' i = g k /\ ((a ∈ Fc' k) \/ (a ∈ F i /\ ∀ k,a ∉ (d k).1)) /\ ∃ io t π u',ρ[i]? = some (some (.tr io t)) /\ mp ρ = some π /\ outs[k]? = some (some u')):=by
   intro i a ha
   by_cases hi:i ∈ cX as
   . obtain ⟨k,mp,e⟩:=mq hi
     by_cases hx:∃ io t π u',ρ[i]? = some (some (.tr io t)) /\ mp ρ = some π /\ outs[k]? = some (some u')
     . have e1:=((hF' i).2 k mp e).1 hx
       refine .inr ⟨k,mp,e,e1,?_,hx⟩
       obtain ⟨io,t,π,u',h1,h2,h3⟩:=hx
       obtain ⟨v0,_,_,rg,pg⟩:=hg k i mp u' e h3 io t π h1 h2
       rw [e1] at ha
       rcases List.mem_append.mp (pg.mem_iff.mp ha) with z | z
       . exact .inl z
       . exact .inr (restOff k i mp e a z)
     . rw [((hF' i).2 k mp e).2 hx] at ha; cases ha
   . have e1:=(hF' i).1 hi
     rw [e1] at ha
     exact .inl ⟨hi,ha,lj i a ha fun k mp e=>absurd (fu e) hi⟩
  refine ⟨F',?_,J.s0.trans E.s,E.sh,fun b hbn=>?_,fun i s e=>?_,fun i j a h1 h2=>?_,fun i a ha=>?_,?_⟩
  . intro b u hu
    refine keep b u (fun k hk=>?_) (J.gh b u hu)
    obtain ⟨i,mp,_,m⟩:=tOf k b hk
    rw [(J.live i b m).2.1] at hu; cases hu
  . rcases E.new b hbn with z | z | ⟨k,z⟩
    . exact J.new b z
    . exact .inr (J.gh.free z)
    . obtain ⟨i,mp,_,m⟩:=tOf k b z
      exact .inr (J.live i b m).2.1
  . by_cases hi:i ∈ cX as
    . obtain ⟨k,mp,ek⟩:=mq hi
      obtain ⟨io,t,π,u,e1,e2,e3,rfl⟩:=tO nd ek e
      obtain ⟨v0,h1,hio,rg,pg⟩:=hg k i mp u ek e1 io t π e2 e3
      have e4:=((hF' i).2 k mp ek).1 ⟨io,t,π,u,e2,e3,e1⟩
      rw [e4]
      obtain ⟨w',ew,r',ndf'⟩:=E.out k u e1
      refine ⟨v0,h1,rg,pg.nodup_iff.mpr (List.nodup_append.mpr ⟨ndf',?_,fun a ha b hb' z=>?_⟩),fun a ha=>?_,hio⟩
      . obtain ⟨_,_,_,_,_,_,_,_,_,_,_,_,_,_,nd1,_⟩:=(hd k).1 i mp ek
        exact (List.nodup_append.mp nd1).2.1
      . subst z
        obtain ⟨m,off⟩:=restOff k i mp ek a hb'
        have:=(E.live k a ha).1
        rw [gA off] at this
        obtain ⟨⟨o,ho,_⟩,_⟩:=J.live i a m
        rw [this] at ho; cases ho
      . rcases List.mem_append.mp (pg.mem_iff.mp ha) with z | z
        . refine ⟨?_,(E.live k a z).2⟩
          rcases jd (E.live k a z).1 with y | ⟨k',y⟩
          . exact J.gh.free y
          . obtain ⟨i',mp',_,m⟩:=tOf k' a y
            exact (J.live i' a m).2.1
        . obtain ⟨m,off⟩:=restOff k i mp ek a z
          exact ⟨(J.live i a m).2.1,noS i a m off⟩
    . rw [mZ hi] at e
      obtain ⟨v,ev,r⟩:=J.own i s e
      rw [(hF' i).1 hi]
      have off:∀ a ∈ F i,∀ k,a ∉ (d k).1:=fun a ha=>lj i a ha fun k mp e=>absurd (fu e) hi
      exact ⟨v,ev,r.mono E.s (fun a ha o ho=>keep a o (off a ha) ho) (fun b o hx ho=>keep b o (fun k hk=>by
       obtain ⟨i',mp',_,m⟩:=tOf k b hk
       obtain ⟨⟨o',h1,h2⟩,_⟩:=J.live i' b m
       rw [ho] at h1; cases h1; rw [hx] at h2; cases h2) ho) fun a ha=>noS i a ha (off a ha)⟩
  .
   have key:∀ i j a,a ∈ F' i -> a ∈ F' j -> (∃ k,a ∈ Fc' k) -> ∃ k mp,as[k]? = some (.t i mp) /\ a ∈ Fc' k:=by
    intro i j a ha _ ⟨k0,hk0⟩
    have no:∀ i',a ∈ F i' -> ¬ ∀ k,a ∉ (d k).1:=fun i' m off=>by
     have:=(E.live k0 a hk0).1
     rw [gA off] at this
     obtain ⟨⟨o,ho,_⟩,_⟩:=J.live i' a m
     rw [this] at ho; cases ho
    rcases memF i a ha with ⟨_,m,off⟩ | ⟨k,mp,e,_,z,_⟩
    . exact absurd off (no i m)
    . rcases z with z | ⟨m,off⟩
      . exact ⟨k,mp,e,z⟩
      . exact absurd off (no i m)
   by_cases hk:∃ k,a ∈ Fc' k
   . obtain ⟨k1,mp1,e1,z1⟩:=key i j a h1 h2 hk
     obtain ⟨k2,mp2,e2,z2⟩:=key j i a h2 h1 hk
     have:=E.apart k1 k2 a z1 z2
     subst this
     rw [e1] at e2; cases e2; rfl
   . have fromF:∀ i,a ∈ F' i -> a ∈ F i:=fun i ha=>by
      rcases memF i a ha with ⟨_,m,_⟩ | ⟨k,mp,e,_,z,_⟩
      . exact m
      . rcases z with z | ⟨m,_⟩
        . exact absurd ⟨k,z⟩ hk
        . exact m
     exact J.apart i j a (fromF i h1) (fromF j h2)
  . rcases memF i a ha with ⟨_,m,off⟩ | ⟨k,mp,e,eg,z,io,t,π,u',x1,x2,x3⟩
    . obtain ⟨⟨o,ho,hx⟩,hg',_⟩:=J.live i a m
      exact ⟨⟨o,keep a o off ho,hx⟩,hg',noS i a m off⟩
    . obtain ⟨v0,_,_,rg,pg⟩:=hg k i mp u' e x3 io t π x1 x2
      rw [eg] at ha
      refine ⟨rg.live a ha,?_⟩
      rcases z with z | ⟨m,off⟩
      . refine ⟨?_,(E.live k a z).2⟩
        rcases jd (E.live k a z).1 with y | ⟨k',y⟩
        . exact J.gh.free y
        . obtain ⟨i',mp',_,m⟩:=tOf k' a y
          exact (J.live i' a m).2.1
      . exact ⟨(J.live i a m).2.1,noS i a m off⟩
  . rw [so]; exact J.len
end
end L2.P
namespace L2.E
open PySem PySem.Spec PyProof.Rows L2
section
variable {X:Cx} {k:Nat} {f C:Addr} {fd:FuncData} {ps:List Str} {sp:Sp} {ds:List Value} {W:XW} {x m:Str} {p pos apos:Pos} {e o:Expr} {es:List Expr} {ta:TE} {t:TA}
def qF (C:Addr) (m:Str) (sp:Sp) (W:XW) (ta:TE) (t:TA):TE:=fun σ H Q=>ta σ H fun x H1=>∃ a dx fs,x = .ref a /\ H1 a = some (.ins C dx fs) /\ fs.lookup m = none /\
 t σ H1 fun vs H2=>sp (x ::vs) H2 Q fun C a H'=>W C a σ H'
theorem se {pl:Sem Bool} (he:QE X o ta) (c:Cls X.K C) (hm:Meth X.K C m f) (F:cy X.prog X.w X.K X.mg X.base (CXE X.prog X.w) k f fd ps sp) (hr:fJ k X.A) (hb:Binds X.K fd ps []) (hx:Thr X W) (ha:QA X (e ::es) t)
  (hst:starEach (e ::es) X.env = (false,eval e X.env) ::starEach es X.env:=by rfl) (hpl:(backTo pos (starEach es X.env)).any (·.1) = false:=by rfl)
  (ht:eval (.Call (.Attribute o m apos) (e ::es) [] pos) X.env = (do
    let ov <- eval o X.env
    standAt apos.atName
    let (f,first) <- holding [ov] (getMethod ov m pl)
    callWith pos f first (backTo pos (starEach (e ::es) X.env)) (backToKw pos (keywordEach [] X.env))):=by rfl):
  QE X (.Call (.Attribute o m apos) (e ::es) [] pos) (qF C m sp W ta t):=⟨by
 intro pins s σ H Q I h
 refine PySem.W.methodCall_KW (pl:=pl) (thn (he.out pins s σ H _ I h) fun u s1 ⟨x,H1,I1,rx,a,dx,fs,ex,ea,l,q⟩=>?_) ht
 subst ex
 obtain rfl:u = Value.ref a:=rx
 refine nW I1 ea c hm l ?_
 refine PySem.W.callWith_K (first:=[.ref a]) (h₀:=X.base) I.ok.mod.kin hm.kp (thn (ha.out pos pins s1 σ H1 _ I1 q) fun us s2 ⟨vs,H2,I2,r,q2⟩=>⟨I2.kIn,?_⟩) hst hpl
 exact nz (us:=.ref a ::us) (vs:=.ref a ::vs) (dvs:=[]) F hr hb .nil hx I2 (.cons rfl r) (by rw [List.append_nil]; exact q2)⟩
theorem pz {pl:Sem Bool} (he:QE X o ta) (c:Cls X.K C) (hm:Meth X.K C m f) (F:cy X.prog X.w X.K X.mg X.base (CXE X.prog X.w) k f fd ps sp) (hr:fJ k X.A) (hb:Binds X.K fd ps []) (hx:Thr X W)
  (ht:eval (.Call (.Attribute o m apos) [] [] pos) X.env = (do
    let ov <- eval o X.env
    standAt apos.atName
    let (f,first) <- holding [ov] (getMethod ov m pl)
    callWith pos f first (backTo pos (starEach [] X.env)) (backToKw pos (keywordEach [] X.env))):=by rfl):
  QE X (.Call (.Attribute o m apos) [] [] pos) (qF C m sp W ta jM):=⟨by
 intro pins s σ H Q I h
 refine PySem.W.methodCall_KW (pl:=pl) (thn (he.out pins s σ H _ I h) fun u s1 ⟨x,H1,I1,rx,a,dx,fs,ex,ea,l,q⟩=>?_) ht
 subst ex
 obtain rfl:u = Value.ref a:=rx
 refine nW I1 ea c hm l ?_
 exact PySem.W.callWith_K0 (first:=[.ref a]) I1.kIn hm.kp (nz (us:=[.ref a]) (vs:=[.ref a]) (dvs:=[]) F hr hb .nil hx I1 (.cons rfl .nil) q)⟩
theorem pH {x:Str} (F:cy X.prog X.w X.K X.mg X.base (CXE X.prog X.w) k f fd ps sp) (hr:fJ k X.A) (hg:Gl X x) (hm:X.mg x = some (.ref f)) (hk:PySem.W.keepIn X.K (.ref f) = true) (hb:Binds X.K fd ps []) (hx:Thr X W)
  (hdb:(x == ("__debug__":Str)) = false:=by decide):QE X (.Call (.Name x p) [] [] pos) (oG sp [] W jM):=⟨vg F hr hg hm hk hb .nil hx hdb⟩
theorem wJ (M:Mk X.K C f) (F:cy X.prog X.w X.K X.mg X.base (CXE X.prog X.w) k f fd ps sp) (hr:fJ (k + 1) X.A) (hg:Gl X x) (hm:X.mg x = some (.ref C)) (hb:Binds X.K fd ps []) (hdb:(x == ("__debug__":Str)) = false:=by decide):
  QE X (.Call (.Name x p) [] [] pos) (xt C sp [] (fun _ _ _=>False) jM):=⟨yo M F hr hg hm hb .nil (fun pins σ H s e s' I h=>by obtain ⟨a,C,dx,H',_,_,_,_,_,_,z⟩:=h; exact z.elim) hdb⟩
theorem oH {f:Str} (he:QE X e ta) (hb:attributeBase e f X.env (eval e X.env) = eval e X.env:=by rfl):QE X (.Attribute e f pos) (Bv X.K ta f):=⟨BN he.out hb⟩
theorem BZ {f:Str} {value:Expr} {tv:TE} {pos':Pos} (ha:QE X o ta) (hv:QE X value tv) (hs:swapsWith value (some (.Attribute o f pos')) pos.line X.env = pure false:=by rfl):QS X (.Assign [.Attribute o f pos'] value pos) (Cv X.K ta tv f):=⟨BK ha.out hv.out hs⟩
end
end L2.E
namespace L2.P
open PySem PySem.Spec PyProof.Rows L2 L2.E
section
variable {K:PySem.W.Frag} {cls:String -> Option Addr} {W:XW} {Av G S₀ S S' H H' B B':Hp} {ρ:aa} {σ:St} {Q:VK} {F Fc Fc':Nat -> List Addr}
theorem SR.more {x:PV} {v:V} (I:SR K cls Av G S₀ ρ σ S H) (h:Rep K S x v):SR K cls Av G S₀ (ρ ++ [some (.sh x)]) (σ ++ [some v]) S H:=by
 obtain ⟨F,J⟩:=I
 exact J.more (fp:=[]) (fun t e=>by cases e; exact ⟨v,rfl,rfl,h⟩) (fun a ha=>nomatch ha) fun j a _ ha=>nomatch ha
theorem tK {f:List Sl -> OI} {as:List Arg} {ss:List Sl} {vs:List V} {S1 H1:Hp} (ok:argsOk as = true) (I:SR K cls Av G S₀ ρ σ S1 H1) (s1:az S S1) (ar:ARs K S1 H1 ρ σ as ss vs)
  (p:AQ K cls W Av G S₀ σ S Q (match f ss with
    | .ok x outs=>.ok (eV ρ as outs ρ) (.sh x)
    | .exc c fs outs=>.exc (eV ρ as outs ρ) c fs
    | .bad=>.bad)):spI K cls f vs H1 Q fun C a H'=>W C a σ H':=by
 obtain ⟨Fc,A,fin⟩:=I.El ok ar
 refine ⟨S1,ss,Fc,A,?_⟩
 cases e:f ss with
 | bad=>rw [e] at p; exact p
 | ok x outs=>rw [e] at p; exact fun v S' H' Fc' E r=>p v S' H' ((fin outs S' H' Fc' E).more r) (s1.trans E.s)
 | exc c fs outs=>rw [e] at p; exact fun a C S' H' Fc' E r=>p a C S' H' (fin outs S' H' Fc' E) (s1.trans E.s) r
theorem uF {c:String} {m:Str} {C:Addr} {a:Arg} {s:Sl} {v:V} (hc:cls c = some C) (I:SR K cls Av G S₀ ρ σ S H) (r:AR1 K S H ρ σ a s v) (h:recv c m (some s) = true):∃ q dx us,v = .ref q /\ H q = some (.ins C dx us) /\ us.lookup m = none:=by
 have main:∀ (ks:List Str) (ts:List OV) (f:List Addr),(c == c && !ks.contains m) = true -> bJ K cls S H (.ob c ks ts) v f -> ∃ q dx us,v = .ref q /\ H q = some (.ins C dx us) /\ us.lookup m = none:=by
  intro ks ts f hk ro
  unfold bJ at ro
  obtain ⟨q,C',dx,us,ff,rfl,hcl,hq,hd,hks,rfl,rs⟩:=ro
  rw [hc] at hcl; cases hcl
  refine ⟨q,dx,us,rfl,hq,?_⟩
  have hn:m ∉ us.map (·.1):=by rw [hks]; simpa using hk
  clear hks hk rs hq
  induction us with
  | nil=>rfl
  | cons p us ih=>
    obtain ⟨g,y⟩:=p
    simp at hn
    have:(m == g) = false:=by simpa using hn.1
    simp [List.lookup,this,ih (by simpa using hn.2)]
 cases a with
 | e me=>cases s <;> first | exact r.elim | cases h
 | t i mp=>
   cases s with
   | tr io u=>
     cases io with
     | false=>cases h
     | true=>
       cases u with
       | sh x=>cases h
       | ol ts=>cases h
       | di x=>cases h
       | dt x=>cases h
       | ob c' ks ts=>
         obtain ⟨io,t,π,v0,h1,h2,h3,h4,h5⟩:=r
         have h':(c' == c && !ks.contains m) = true:=h
         have hcc:c' = c:=by rw [Bool.and_eq_true] at h'; simpa using h'.1
         subst hcc
         obtain ⟨v',fp,ev,ro⟩:=I.tree (i:=i) (t:=t) (by unfold il; rw [h1]; rfl)
         rw [h4] at ev; cases ev
         obtain ⟨w,f1,rest,wk,r1,_,_⟩:=ro.focus h3
         have:=h5.inj wk
         subst this
         exact main ks ts f1 h' r1
   | sh x=>exact r.elim
   | ow x=>exact r.elim
   | ex c fs=>exact r.elim
   | bo x=>exact r.elim
 | b i mp=>
   cases s with
   | bo u=>
     cases u with
     | sh x=>cases h
     | ol ts=>cases h
     | di x=>cases h
     | dt x=>cases h
     | ob c' ks ts=>
       obtain ⟨t,π,v0,h1,h2,h3,h4,h5⟩:=r
       have h':(c' == c && !ks.contains m) = true:=h
       have hcc:c' = c:=by rw [Bool.and_eq_true] at h'; simpa using h'.1
       subst hcc
       obtain ⟨v',fp,ev,ro⟩:=I.tree h1
       rw [h4] at ev; cases ev
       obtain ⟨w,f1,rest,wk,r1,_,_⟩:=ro.focus h3
       have:=h5.inj wk
       subst this
       exact main ks ts f1 h' r1
   | sh x=>exact r.elim
   | ow x=>exact r.elim
   | ex c fs=>exact r.elim
   | tr io x=>exact r.elim
theorem rn {c:String} {m:Str} {C:Addr} {f:List Sl -> OI} {a:Arg} {as:List Arg} {ta:TE} {t:TA} (hc:cls c = some C) (ok:argsOk (a ::as) = true) (ha:JA1 K cls ta a) (h:JAI K cls t as):JX K cls W (qF C m (spI K cls f) W ta t) (ke c m f (a ::as)):=by
 intro Av G S₀ ρ σ S H Q I p
 unfold ke at p
 dsimp only at p
 split at p
 . rename_i hr
   unfold qG at p
   cases e:iX (a ::as) ρ with
   | none=>rw [e] at p; exact p.elim
   | some ss=>
     rw [e] at p
     have e':=e
     unfold iX at e'
     obtain ⟨s,e1,e2⟩:=Option.bind_eq_some_iff.mp e'
     obtain ⟨sr,e3,rfl⟩:=Option.map_eq_some_iff.mp e2
     rw [e1] at hr
     refine ha Av G S₀ ρ σ S H _ s I e1 fun v S1 H1 w1 r1=>?_
     have I1:=I.grow w1
     obtain ⟨q,dx,us,rfl,hq,hl⟩:=uF hc I1 r1 hr
     refine ⟨q,dx,us,rfl,hq,hl,?_⟩
     refine h Av G S₀ ρ σ S1 H1 _ sr I1 e3 fun vs S2 H2 w2 ar=>?_
     exact tK (ss:=s ::sr) ok (I1.grow w2) (w1.s.trans w2.s) ⟨s,sr,_,vs,rfl,rfl,r1.mono w2.s w2.g,ar⟩ p
 . exact p.elim
theorem tB {f:List Sl -> OI} {as:List Arg} {ss:List Sl} {vs:List V} (ok:cX as = []) (I:SR K cls Av G S₀ ρ σ S H) (ar:ARs K S H ρ σ as ss vs)
  (p:iH K cls W σ S H Q (match f ss with
    | .ok x _=>.ok (.sh x)
    | .exc c fs _=>.exc c fs
    | .bad=>.bad)):spI K cls f vs H Q fun C a H'=>W C a σ H':=by
 have hm:minus H (fun _=>[]) = H:=by funext a; exact gA fun k h=>nomatch h
 have hlen:=ar.len
 refine ⟨S,ss,fun _=>[],⟨I.sh,by rw [hlen.1,hlen.2],fun k s es=>?_,fun j k a h=>(nomatch h),fun k a h=>(nomatch h)⟩,?_⟩
 . have hk:k < as.length:=by rw [<- hlen.1]; exact (List.getElem?_eq_some_iff.mp es).1
   obtain ⟨s',w,es',ev,r⟩:=ar.at (k:=k) (a:=as[k]) (by simp [hk])
   rw [es] at es'; cases es'
   refine ⟨w,ev,?_⟩
   cases q:as[k] with
   | e me=>
     rw [q] at r
     cases s <;> first | exact r.elim | exact ⟨rfl,r⟩
   | t i mp=>
     have:=fu (as:=as) (k:=k) (i:=i) (mp:=mp) (by rw [List.getElem?_eq_getElem hk,q])
     rw [ok] at this; cases this
   | b i mp=>
     rw [q] at r
     cases s with
     | bo u=>
       obtain ⟨t,π,v0,h1,h2,h3,h4,h5⟩:=r
       obtain ⟨v',fp,ev',ro⟩:=I.tree h1
       rw [h4] at ev'; cases ev'
       obtain ⟨w',f1,rest,wk,r1,_,_⟩:=ro.focus h3
       have:=h5.inj wk
       subst this
       exact ⟨rfl,f1,by rw [hm]; exact r1⟩
     | sh x=>exact r.elim
     | ow x=>exact r.elim
     | ex c fs=>exact r.elim
     | tr io x=>exact r.elim
 . have gr:∀ {outs S' H' Fc'},xl K cls vs S H (fun _=>[]) outs S' H' Fc' -> bb S H S' H':=fun {outs S' H' Fc'} E=>⟨E.s,by have:=E.keep; rwa [hm] at this,E.sh,fun b hb=>by
    rcases E.new b hb with z | z | ⟨k,z⟩
    . exact .inl z
    . exact .inr z
    . cases z⟩
   cases e:f ss with
   | bad=>rw [e] at p; exact p
   | ok x outs=>rw [e] at p; exact fun v S' H' Fc' E r=>p v S' H' (gr E) r
   | exc c fs outs=>rw [e] at p; exact fun a C S' H' Fc' E r=>p a C S' H' (gr E) r
theorem rM {c:String} {m:Str} {C:Addr} {f:List Sl -> OI} {a:Arg} {as:List Arg} {ta:TE} {t:TA} (hc:cls c = some C) (ok:cX (a ::as) = []) (ha:JA1 K cls ta a) (h:JAI K cls t as):JE K cls W (qF C m (spI K cls f) W ta t) (jB c m f (a ::as)):=by
 intro Av G S₀ ρ σ S H Q I p
 unfold jB at p
 dsimp only at p
 split at p
 . rename_i hr
   unfold pX at p
   cases e:iX (a ::as) ρ with
   | none=>rw [e] at p; exact p.elim
   | some ss=>
     rw [e] at p
     have e':=e
     unfold iX at e'
     obtain ⟨s,e1,e2⟩:=Option.bind_eq_some_iff.mp e'
     obtain ⟨sr,e3,rfl⟩:=Option.map_eq_some_iff.mp e2
     rw [e1] at hr
     refine ha Av G S₀ ρ σ S H _ s I e1 fun v S1 H1 w1 r1=>?_
     have I1:=I.grow w1
     obtain ⟨q,dx,us,rfl,hq,hl⟩:=uF hc I1 r1 hr
     refine ⟨q,dx,us,rfl,hq,hl,?_⟩
     refine h Av G S₀ ρ σ S1 H1 _ sr I1 e3 fun vs S2 H2 w2 ar=>?_
     exact tB (ss:=s ::sr) ok (I1.grow w2) ⟨s,sr,_,vs,rfl,rfl,r1.mono w2.s w2.g,ar⟩ (p.back (w1.trans w2))
 . exact p.elim
theorem zG {c:String} {C:Addr} {f:List Sl -> OI} (hc:cls c = some C):JD K cls W (xt C (spI K cls f) [] (fun _ _ _=>False) jM) (pE c f):=by
 intro Av G S₀ ρ σ S H Q I p
 unfold pE at p
 show ∀ x dx,H x = none -> H dx = none -> dx ≠ x -> _
 intro x dx hx hdx ne
 have gS:∀ a,H a = none -> S a = none:=fun a h=>I.sh.free h
 let H1:=upd (upd H dx (.own x)) x (.ins C dx [])
 have h1x:H1 x = some (.ins C dx []):=aX
 have h1d:H1 dx = some (.own x):=by show upd _ x _ dx = _; rw [aO ne,aX]
 have h1o:∀ a,a ≠ x -> a ≠ dx -> H1 a = H a:=fun a n1 n2=>by show upd _ x _ a = _; rw [aO n1,aO n2]
 let Fc:Nat -> List Addr:=fun k=>if k = 0 then [x,dx] else []
 have mF:∀ k a,a ∈ Fc k -> k = 0 /\ (a = x \/ a = dx):=fun k a h=>by
  have h':a ∈ (if k = 0 then [x,dx] else []):=h
  split at h'
  . rename_i e; exact ⟨e,by simpa using h'⟩
  . cases h'
 have A:wO K cls [.tr true (.ob c [] [])] [.ref x] S H1 Fc:=by
  refine ⟨fun b u h=>?_,rfl,fun k s e=>?_,fun j k a h1 h2=>?_,fun k a h=>?_⟩
  . have hb:=I.sh b u h
    rw [h1o b (fun z=>by rw [z,hx] at hb; cases hb) (fun z=>by rw [z,hdx] at hb; cases hb)]; exact hb
  . cases k with
    | zero=>
      cases e
      refine ⟨.ref x,rfl,?_,?_⟩
      . unfold bJ
        exact ⟨x,C,dx,[],[],rfl,hc,h1x,h1d,rfl,rfl,.nil⟩
      . show [x,dx].Nodup
        simp [Ne.symm ne]
    | succ k=>simp at e
  . rw [(mF j a h1).1,(mF k a h2).1]
  . rcases (mF k a h).2 with z | z
    . subst z; exact ⟨⟨_,h1x,rfl⟩,gS _ hx⟩
    . subst z; exact ⟨⟨_,h1d,rfl⟩,gS _ hdx⟩
 refine ⟨S,_,Fc,A,?_⟩
 have free:∀ a,minus H1 Fc a = none -> H a = none:=fun a h=>by
  rcases jd h with z | ⟨k,z⟩
  . by_cases n1:a = x
    . rw [n1]; exact hx
    . by_cases n2:a = dx
      . rw [n2]; exact hdx
      . rw [h1o a n1 n2] at z; exact z
  . rcases (mF k a z).2 with y | y
    . rw [y]; exact hx
    . rw [y]; exact hdx
 cases e:f [.tr true (.ob c [] [])] with
 | bad=>rw [e] at p; exact p.elim
 | exc c fs outs=>rw [e] at p; exact p.elim
 | ok y outs=>
   rw [e] at p
   cases y with
   | non=>
     cases outs with
     | nil=>exact p.elim
     | cons o outs=>
       cases o with
       | none=>exact p.elim
       | some t=>
         dsimp only at p
         intro v S' H' Fc' E r
         unfold Rep at r
         refine ⟨r,p (.ref x) S' H' ⟨E.s,fun b u h=>?_,E.sh,fun b h=>?_⟩ ?_⟩
         . have n1:b ≠ x:=fun z=>by rw [z,hx] at h; cases h
           have n2:b ≠ dx:=fun z=>by rw [z,hdx] at h; cases h
           refine E.keep b u ?_
           rw [gA fun k z=>?_]
           . exact (h1o b n1 n2).trans h
           . rcases (mF k b z).2 with y | y
             . exact n1 y
             . exact n2 y
         . rcases E.new b h with z | z | ⟨k,z⟩
           . exact .inl z
           . refine .inr ?_
             by_cases n1:b = x
             . rw [n1]; exact hx
             . by_cases n2:b = dx
               . rw [n2]; exact hdx
               . exact (h1o b n1 n2).symm.trans z
           . rcases (mF k b z).2 with y | y
             . rw [y]; exact .inr hx
             . rw [y]; exact .inr hdx
         . obtain ⟨u,eu,ro,nd⟩:=E.out 0 t rfl
           cases eu
           exact ⟨Fc' 0,ro,nd,fun a ha=>⟨free a (E.live 0 a ha).1,(E.live 0 a ha).2⟩⟩
   | bl b=>exact p.elim
   | int b=>exact p.elim
   | str b=>exact p.elim
   | lst b=>exact p.elim
   | tup b=>exact p.elim
end
end L2.P
namespace L2.E
open PySem PySem.Spec PyProof.Rows L2
def qM (wi:TI) (ι:List Nat) (tc:TT) (te:TE):TE:=fun σ H Q=>wi σ H fun J H1=>∀ D,H1 D = none -> ∃ W:Nat -> Nat -> List V -> Hp -> Prop,(∃ m,W 0 m [] (upd H1 D (.lst []))) /\ ∀ i m ys H,W i m ys H ->
 H D = some (.lst ys) /\ ((J.stop i H /\ Q (.ref D) H) \/ (J.go i H /\ ∀ x H',J.yld i H x H' -> tc (pick ι σ ++ [some x]) H' fun b H3=>H3 D = some (.lst ys) /\ if b = true then
   te (pick ι σ ++ [some x]) H3 fun y H2=>H2 D = some (.lst ys) /\ ys.length < sizeLine /\ ∃ m',m' < m /\ W (i + 1) m' (ys ++ [y]) (upd H2 D (.lst (ys ++ [y]))) else ∃ m',m' < m /\ W (i + 1) m' ys H3))
section
variable {X:Cx} {scope:Scope} {cl:List (Str × Addr)} {M:List Str} {ι:List Nat} {x:Str}
theorem vT {elt iter c:Expr} {px pos:Pos} {wi:TI} {tc:TT} {te:TE} (S:jx X scope cl M ι x) (hc:X.calm = true) (hi:PI X (.Name x px) iter wi) (hcd:∀ C s₀ H₀ ex,PT (blk X scope cl (M ++ [x]) C s₀ H₀ ex) c tc) (he:∀ C s₀ H₀ ex,PE (blk X scope cl (M ++ [x]) C s₀ H₀ ex) elt te)
  (hs:∀ v,foldedSetIterable iter X.env v = pure v:=by intro _; rfl):PE X (.ListComp elt [⟨.Name x px,iter,[c],0⟩] scope pos) (qM wi ι tc te):=by
 intro pins s σ H Q I h
 rw [eval_ListComp]
 refine wpAny_comprehension_free (use:=none) rfl hs S.clos S.kind (fun y hy hl=>?_) (wpAny_mono (hi pins s σ H _ I h) (fun v s1 h1=>wpAny_mono h1 (fun itv s2 h2=>?_) fun _ _ z=>z) fun _ _ z=>z)
 . have q:=List.all_eq_true.mp S.locs y hy
   rw [hl] at q
   simpa using q
 obtain ⟨it,fp,tn,J,H2,rfl,I2,T,st2,f2,hW⟩:=h2
 have I3:=I2.zB (ys:=[]) (its:=[]) (t':=s2.toks) .nil (Nat.zero_le _)
 obtain ⟨W,⟨m0,w0⟩,turn⟩:=hW s2.heap.objs.size I2.fresh
 have fpo:∀ b ∈ fp,b < s2.heap.objs.size:=fun b hb=>let ⟨_,e,_⟩:=T.obj _ _ st2 b hb; Heap.lt_size e
 have f3:∀ b ∈ fp,kD X pins (upd H2 s2.heap.objs.size (.lst [])) b:=fun b hb=>by
  obtain ⟨q0,q⟩:=f2 b hb
  exact ⟨by rw [aO (Nat.ne_of_lt (fpo b hb))]; exact q0,q⟩
 show wpAny _ _ (newObj (.type "list") _ none) _ _ s2
 refine wpAny_newObj_type (wpAny_newFunctionEnv (fun y hy=>?_) (by intro y hy; simp at hy) (fun h₁ hn₁ sb₁=>?_) S.kind)
 . have q:=List.all_eq_true.mp S.nocell y hy
   simpa using q
 have hsz:(s2.heap.push { cls:=.type "list",dict:=none,data:=.seq ([]:List Value).toArray }).objs.size = s2.heap.objs.size + 1:=Heap.size_push ..
 have hk₁:∀ b o,(s2.heap.push { cls:=.type "list",dict:=none,data:=.seq ([]:List Value).toArray }).get? b = some o -> h₁.get? b = some o:=fun b o e=>
  (sb₁.2 b (Nat.ne_of_lt (Heap.lt_size e))).trans (Heap.get?_push_of_some _ e)
 have J0:=tR (t':=s2.toks + ([]:List (Str × Value)).length) S I3 (ex:=fp) (fun b hb=>⟨f3 b hb,Nat.lt_of_lt_of_le (fpo b hb) (by rw [hsz]; exact Nat.le_succ _)⟩) hn₁ hk₁
 have old:∀ b ∈ fp,∀ o,s2.heap.get? b = some o -> h₁.get? b = some o:=fun b _ o e=>hk₁ b o (Heap.get?_push_of_some _ e)
 have st₁:tn 0 h₁:=T.keep _ _ _ st2 old
 have loop:codeAny (model X.prog X.w) X.A (.compLoop (.ListComp elt [⟨.Name x px,iter,[c],0⟩] scope pos) 0 (.ref it) (.ref s2.heap.objs.size) (compEnvC scope cl (s2.heap.objs.size + 1) X.env))
   (compPost (model X.prog X.w) X.A X.xe none (EP X pins σ Q) (.ref s2.heap.objs.size) (s2.heap.objs.size + 1)) { s2 with heap:=h₁,toks:=s2.toks + ([]:List (Str × Value)).length }:=by
  rw [hsz] at J0
  refine codeAny_loop rfl (fun n s'=>∃ i H' ys v,Inv (blk X scope cl (M ++ [x]) (s2.heap.objs.size + 1) { s2 with heap:=s2.heap.push { cls:=.type "list",data:=.seq ([]:List Value).toArray },toks:=s2.toks } (upd H2 s2.heap.objs.size (.lst [])) fp) [] (pick ι σ ++ [v]) H' s' /\ tn i s'.heap /\ (∀ b ∈ fp,H' b = none) /\ W i n ys H')
   (fun n s' hI=>?_) m0 ⟨0,_,[],none,J0,st₁,fun b hb=>(f3 b hb).1,w0⟩
  obtain ⟨i,H',ys,v,J',st',fr',w'⟩:=hI
  obtain ⟨hD,alt⟩:=turn i n ys H' w'
  have fpY:∀ {G:Hp},(∀ b ∈ fp,G b = none) -> ∀ b ∈ fp,kD (blk X scope cl (M ++ [x]) (s2.heap.objs.size + 1) { s2 with heap:=s2.heap.push { cls:=.type "list",data:=.seq ([]:List Value).toArray },toks:=s2.toks } (upd H2 s2.heap.objs.size (.lst [])) fp) [] G b:=fun hG b hb=>
   ⟨hG b hb,(J'.ok.exf b hb).1,J'.ok.exfs b hb,.inl hb,(J'.ok.exf b hb).2,fun p hp=>absurd (show p ∈ ([]:List (Addr × Obj)) from hp) (by simp)⟩
  show wpAny _ _ ((compTurn _ 0 (.ref it) (.ref s2.heap.objs.size) (compEnvC scope cl (s2.heap.objs.size + 1) X.env)).onRaise _) _ _ s'
  refine wpAny_noted (wpAny_noRaise ?_)
  rw [compTurn_list]
  refine wpAny_bind (wpAny_standAt (wpAny_bind ?_))
  rcases alt with ⟨stop,qn⟩ | ⟨go,step⟩
  . refine thn (T.done (blk X scope cl (M ++ [x]) (s2.heap.objs.size + 1) _ _ fp) rfl rfl rfl hc i [] s' _ H' _ J' (fpY fr') st' stop) fun r s4 ⟨hr,J4⟩=>?_
    subst hr
    refine wpAny_pure ?_
    obtain ⟨m,hm,_⟩:=id J4.loc
    refine ⟨m,hm,fun h' sb=>⟨.ref s2.heap.objs.size,H',qY I3 hsz.symm f3 J4 sb,rfl,qn⟩⟩
  . refine thn (T.item (blk X scope cl (M ++ [x]) (s2.heap.objs.size + 1) _ _ fp) rfl rfl rfl hc i [] s' _ H' _ J' (fpY fr') st' go) fun r s4 ⟨u,hr,h4⟩=>?_
    subst hr
    refine wpAny_bind (thn h4 fun _ s5 ⟨z,H5,J5,r5,y5,st5,fr5⟩=>?_)
    have J5':=J5.pinned (fpY fr5) (T.obj _ _ st5)
    have hxN:(M ++ [x])[M.length]? = some x:=by simp
    refine wpAny_bind ?_
    refine wpAny_assign_Name ?_
    refine gL (X:=blk X scope cl (M ++ [x]) (s2.heap.objs.size + 1) _ _ fp) (i:=M.length) (v:=z) J5' S.nd hxN (.inl (lookup_relabel_local S.var)) r5 (fun s6 J6=>?_) (.inr (lookup_relabel_local S.var))
    have hlp:(pick ι σ).length = M.length:=by
     have q:=congrArg List.length S.names
     rw [List.length_map,List.length_map] at q
     unfold pick
     rw [List.length_map,q]
    have hset:(pick ι σ ++ [v]).set M.length (some z) = pick ι σ ++ [some z]:=by
     rw [<- hlp,List.set_append_right _ _ (Nat.le_refl _),Nat.sub_self]
     rfl
    rw [hset] at J6
    refine wpAny_bind (wpAny_tests_one (thn (hcd _ _ _ _ _ s6 _ H5 _ J6 (step z H5 y5)) fun b s7 ⟨H7,J7,hD7,q7⟩=>?_))
    cases b with
    | true=>
      rw [if_pos rfl] at q7
      refine wpAny_bind (wpAny_bind (thn (he _ _ _ _ _ s7 _ H7 _ J7 q7) fun yv s8 ⟨y,H8,J8,r8,hD8,hz8,m',hm',w8⟩=>?_))
      refine wpAny_bind (thn (fD (X:=blk X scope cl (M ++ [x]) (s2.heap.objs.size + 1) _ _ fp) _ s8 _ H8 (.ref s2.heap.objs.size) [y] (.ref s2.heap.objs.size) [yv] (fun _ G=>G = upd H8 s2.heap.objs.size (.lst (ys ++ [y]))) J8 rfl (.cons r8 .nil) ⟨_,_,y,rfl,rfl,hD8,hz8,rfl⟩) fun _ s9 ⟨_,H9,J9,_,e9⟩=>?_)
      subst e9
      refine wpAny_pure (wpAny_pure ⟨rfl,m',hm',i + 1,_,_,some z,J9.gM,?_,fun b hb=>?_,w8⟩)
      . exact T.keep _ _ _ st5 fun b hb o e=>(J9.pin (b,o) (List.mem_append_right _ (List.mem_append_right _ (dQ hb e)))).1
      . obtain ⟨o,e,d⟩:=T.obj _ _ st5 b hb
        exact (J9.pin (b,o) (List.mem_append_right _ (List.mem_append_right _ (dQ hb e)))).2.1
    | false=>
      rw [if_neg (by decide)] at q7
      obtain ⟨m',hm',w8⟩:=q7
      refine wpAny_pure ⟨rfl,m',hm',i + 1,_,_,some z,J7.gM,?_,fun b hb=>?_,w8⟩
      . exact T.keep _ _ _ st5 fun b hb o e=>(J7.pin (b,o) (List.mem_append_right _ (List.mem_append_right _ (dQ hb e)))).1
      . obtain ⟨o,e,d⟩:=T.obj _ _ st5 b hb
        exact (J7.pin (b,o) (List.mem_append_right _ (List.mem_append_right _ (dQ hb e)))).2.1
 rw [hsz] at *
 exact codeAny_compStart_list loop (T.self X.A 0 _ _ _ st₁ loop)
end
end L2.E
namespace L2.E
open PySem PySem.Spec PyProof.Rows L2
theorem xu (its:List Value):slicePick its.toArray none none (some (-1)) = its.reverse.toArray:=by
 unfold slicePick
 have hb:sliceBounds none none (some (-1)) its.toArray.size = ((its.length:Int) - 1,-1,-1):=by simp [sliceBounds]
 rw [hb]
 congr 1
 have hr:sliceRange ((its.length:Int) - 1) (-1) (-1) = (List.range its.length).map fun i=>its.length - 1 - i:=by
  unfold sliceRange
  rw [if_neg (by decide)]
  have hc:(if ((its.length:Int) - 1) > -1 then (((its.length:Int) - 1) - -1 - -1 - 1) / (- -1) else 0).toNat = its.length:=by
   split
   . rw [show (- -1:Int) = 1 by decide,Int.ediv_one]; omega
   . omega
  dsimp only
  rw [hc]
  refine List.map_congr_left fun k hk=>?_
  have:=List.mem_range.mp hk
  omega
 rw [hr]
 apply List.ext_getElem?
 intro n
 rw [List.filterMap_map]
 have hall:∀ m,m <= its.length -> List.filterMap ((fun x=>its.toArray[x]?) ∘ fun i=>its.length - 1 - i) (List.range m) = (its.reverse).take m:=by
  intro m
  induction m with
  | zero=>intro _; simp
  | succ m ih=>
    intro hm
    rw [List.range_succ,List.filterMap_append,ih (by omega)]
    have h1:its.length - 1 - m < its.length:=by omega
    have h2:m < its.reverse.length:=by rw [List.length_reverse]; omega
    rw [List.take_succ_eq_append_getElem h2]
    congr 1
    simp [h1]
 rw [hall its.length (Nat.le_refl _),List.take_of_length_le (by simp)]
theorem sq:∀ {xs:List V} {us:List Value},Vals xs us -> Vals xs.reverse us.reverse
 | _,_,.nil=>.nil
 | _,_,.cons r t=>by
   rw [List.reverse_cons,List.reverse_cons]
   exact (sq t).append (.cons r .nil)
section
variable {X:Cx} {e st:Expr} {te ts:TE} {pos p2:Pos}
def Bg (K:PySem.W.Frag) (te ts:TE):TE:=fun σ H Q=>te σ H fun x H1=>ts σ H1 fun k H2=>k = .int (-1) /\ ∃ a xs,x = .ref a /\ SqL K H2 a xs /\ ∀ p,H2 p = none -> Q (.ref p) (upd H2 p (.lst xs.reverse))
theorem B2 (he:PE X e te) (hk:PE X st ts):PE X (.Subscript e (.Slice none none (some st) p2) pos) (Bg X.K te ts):=by
 intro pins s σ H Q I h
 refine Subscript_ (thn (he pins s σ H _ I h) fun v s1 ⟨x,H1,I1,r1,q1⟩=>?_)
 refine wpAny_Slice ?_
 rw [evalPart_none]
 refine wpAny_pure (wpAny_pure ?_)
 rw [evalPart_some]
 refine thn (hk pins s1 σ H1 _ I1 q1) fun u s3 ⟨k,H3,I3,r3,q3⟩=>?_
 obtain ⟨rfl,a,xs,rfl,hq,q⟩:=q3
 obtain ⟨t,rfl⟩:=r3
 cases r1
 have I4:Inv X pins σ H3 { s3 with heap:=s3.heap.push { cls:=.type "slice",data:=.fields #[.none,.none,.int (-1) t] } }:=I3.kept (t':=s3.toks) fun b ob q=>Heap.get?_push_of_some _ q
 obtain ⟨its,r,ht,hz⟩:=I4.list hq
 have hlen:=r.length
 show wpAny (model X.prog X.w) X.A (subscriptTail e (.Slice none none (some st) p2) (.ref a) (.ref s3.heap.objs.size)) (EP X pins σ Q) X.xe { s3 with heap:=s3.heap.push { cls:=.type "slice",data:=.fields #[.none,.none,.int (-1) t] } }
 refine tail_any (ops:=[.ref a,.ref s3.heap.objs.size]) ht.isList.typeIs slot_list_getitem.lookup ?_ (by with_unfolding_all rfl)
 refine wpAny_getItem_list_slice ht.isList (Heap.IsSliceOf.new ..) .none .none (.int (-1) t) (by decide) ?_ (by rw [List.size_toArray] <;> omega)
 rw [xu]
 refine ⟨.ref _,_,I4.laid (t':=s3.toks) (o:=.lst xs.reverse) (fun b ob q=>Heap.get?_push_of_some _ q) (Nat.le_refl _) ?_,rfl,q _ (I4.hok.fresh (Nat.le_refl _))⟩
 refine ⟨by rw [List.length_reverse]; exact hz,its.reverse,0,sq r,Heap.get?_push_size _ rfl⟩
end
end L2.E
namespace L2.E
open PySem PySem.Spec PyProof.Rows L2
section
variable {X:Cx} {scope:Scope} {cl:List (Str × Addr)} {M:List Str} {ι:List Nat} {x:Str}
theorem zq {i:Nat} {y:Str} {py spos:Pos} {elt iter:Expr} {px pos:Pos} {wi:TI} {te:TE} (S:jx X scope cl M ι x) (hc:X.calm = true) (hi:PI X (.Name x px) iter wi) (he:∀ C s₀ H₀ ex,PE (blk X scope cl (M ++ [x]) C s₀ H₀ ex) elt te)
  (hN:X.N.Nodup) (hiy:X.N[i]? = some y) (hy:Loc X.env.scope y) (hsw:swapsWith (.ListComp elt [⟨.Name x px,iter,[],0⟩] scope pos) (some (.Name y py)) spos.line X.env = pure true) (hf:X.fn y = true \/ X.env.scope.names.lookup y = some .local:=by first | exact .inl rfl | exact .inr rfl | assumption)
  (hs:∀ v,foldedSetIterable iter X.env v = pure v:=by intro _; rfl):PS X (.Assign [.Name y py] (.ListComp elt [⟨.Name x px,iter,[],0⟩] scope pos) spos) (oW (nG wi ι te) (iE i)):=by
 intro pins s σ H D0 I h
 rw [exec_Assign_Name_used _ _ _ _ hsw]
 refine wpAny_bind (wpAny_standAt (wpAny_bind ?_))
 show wpAny _ _ (do let _ <- comprehension (.ListComp elt [⟨.Name x px,iter,[],0⟩] scope pos) scope X.env _ (newList []) false (eval iter X.env) (some (assign (.Name y py) X.env))) _ _ s
 refine wpAny_bind (wpAny_mono (wpAny_comprehension_free (use:=some (assign (.Name y py) X.env)) (Q:=fun _ s'=>∃ σ' H',Inv X pins σ' H' s' /\ D0.nx σ' H') rfl hs S.clos S.kind (fun y hy hl=>?_) (wpAny_mono (hi pins s σ H _ I h) (fun v s1 h1=>wpAny_mono h1 (fun itv s2 h2=>?_) fun _ _ z=>z) fun _ _ z=>z)) (fun _ s' hq=>wpAny_pure (wpAny_pure hq)) fun _ _ e=>e)
 . have q:=List.all_eq_true.mp S.locs y hy
   rw [hl] at q
   simpa using q
 obtain ⟨it,fp,tn,J,H2,rfl,I2,T,st2,f2,hW⟩:=h2
 have I3:=I2.zB (ys:=[]) (its:=[]) (t':=s2.toks) .nil (Nat.zero_le _)
 obtain ⟨W,⟨m0,w0⟩,turn⟩:=hW s2.heap.objs.size I2.fresh
 have fpo:∀ b ∈ fp,b < s2.heap.objs.size:=fun b hb=>let ⟨_,e,_⟩:=T.obj _ _ st2 b hb; Heap.lt_size e
 have f3:∀ b ∈ fp,kD X pins (upd H2 s2.heap.objs.size (.lst [])) b:=fun b hb=>by
  obtain ⟨q0,q⟩:=f2 b hb
  exact ⟨by rw [aO (Nat.ne_of_lt (fpo b hb))]; exact q0,q⟩
 show wpAny _ _ (newObj (.type "list") _ none) _ _ s2
 refine wpAny_newObj_type (wpAny_newFunctionEnv (fun y hy=>?_) (by intro y hy; simp at hy) (fun h₁ hn₁ sb₁=>?_) S.kind)
 . have q:=List.all_eq_true.mp S.nocell y hy
   simpa using q
 have hsz:(s2.heap.push { cls:=.type "list",dict:=none,data:=.seq ([]:List Value).toArray }).objs.size = s2.heap.objs.size + 1:=Heap.size_push ..
 have hk₁:∀ b o,(s2.heap.push { cls:=.type "list",dict:=none,data:=.seq ([]:List Value).toArray }).get? b = some o -> h₁.get? b = some o:=fun b o e=>
  (sb₁.2 b (Nat.ne_of_lt (Heap.lt_size e))).trans (Heap.get?_push_of_some _ e)
 have J0:=tR (t':=s2.toks + ([]:List (Str × Value)).length) S I3 (ex:=fp) (fun b hb=>⟨f3 b hb,Nat.lt_of_lt_of_le (fpo b hb) (by rw [hsz]; exact Nat.le_succ _)⟩) hn₁ hk₁
 have old:∀ b ∈ fp,∀ o,s2.heap.get? b = some o -> h₁.get? b = some o:=fun b _ o e=>hk₁ b o (Heap.get?_push_of_some _ e)
 have st₁:tn 0 h₁:=T.keep _ _ _ st2 old
 have loop:codeAny (model X.prog X.w) X.A (.compLoop (.ListComp elt [⟨.Name x px,iter,[],0⟩] scope pos) 0 (.ref it) (.ref s2.heap.objs.size) (compEnvC scope cl (s2.heap.objs.size + 1) X.env))
   (compPost (model X.prog X.w) X.A X.xe (some (assign (.Name y py) X.env)) (fun _ s'=>∃ σ' H',Inv X pins σ' H' s' /\ D0.nx σ' H') (.ref s2.heap.objs.size) (s2.heap.objs.size + 1)) { s2 with heap:=h₁,toks:=s2.toks + ([]:List (Str × Value)).length }:=by
  rw [hsz] at J0
  refine codeAny_loop rfl (fun n s'=>∃ i H' ys v,Inv (blk X scope cl (M ++ [x]) (s2.heap.objs.size + 1) { s2 with heap:=s2.heap.push { cls:=.type "list",data:=.seq ([]:List Value).toArray },toks:=s2.toks } (upd H2 s2.heap.objs.size (.lst [])) fp) [] (pick ι σ ++ [v]) H' s' /\ tn i s'.heap /\ (∀ b ∈ fp,H' b = none) /\ W i n ys H')
   (fun n s' hI=>?_) m0 ⟨0,_,[],none,J0,st₁,fun b hb=>(f3 b hb).1,w0⟩
  obtain ⟨i,H',ys,v,J',st',fr',w'⟩:=hI
  obtain ⟨hD,alt⟩:=turn i n ys H' w'
  have fpY:∀ {G:Hp},(∀ b ∈ fp,G b = none) -> ∀ b ∈ fp,kD (blk X scope cl (M ++ [x]) (s2.heap.objs.size + 1) { s2 with heap:=s2.heap.push { cls:=.type "list",data:=.seq ([]:List Value).toArray },toks:=s2.toks } (upd H2 s2.heap.objs.size (.lst [])) fp) [] G b:=fun hG b hb=>
   ⟨hG b hb,(J'.ok.exf b hb).1,J'.ok.exfs b hb,.inl hb,(J'.ok.exf b hb).2,fun p hp=>absurd (show p ∈ ([]:List (Addr × Obj)) from hp) (by simp)⟩
  show wpAny _ _ ((compTurn _ 0 (.ref it) (.ref s2.heap.objs.size) (compEnvC scope cl (s2.heap.objs.size + 1) X.env)).onRaise _) _ _ s'
  refine wpAny_noted (wpAny_noRaise ?_)
  rw [o9]
  refine wpAny_bind (wpAny_standAt (wpAny_bind ?_))
  rcases alt with ⟨stop,qn⟩ | ⟨go,step⟩
  . refine thn (T.done (blk X scope cl (M ++ [x]) (s2.heap.objs.size + 1) _ _ fp) rfl rfl rfl hc i [] s' _ H' _ J' (fpY fr') st' stop) fun r s4 ⟨hr,J4⟩=>?_
    subst hr
    refine wpAny_pure ?_
    obtain ⟨m,hm,_⟩:=id J4.loc
    have I4:Inv X pins σ H' s4:=qY (h':=s4.heap) I3 hsz.symm f3 J4 ⟨rfl,fun _ _=>rfl⟩
    obtain ⟨oC,es,ep,hoC,rC⟩:=id hm
    have fC:kD X pins H' (s2.heap.objs.size + 1):=I3.va (by rw [hsz]; exact Nat.le_refl _) J4.free
    obtain ⟨_,c1,c2,c3,c4,c5⟩:=id fC
    have I5:=I4.pinned (fp:=[s2.heap.objs.size + 1]) (fun b hb=>by
     have z:b = s2.heap.objs.size + 1:=by simpa using hb
     subst z; exact fC) fun b hb=>by
     have z:b = s2.heap.objs.size + 1:=by simpa using hb
     subst z
     exact ⟨oC,hoC,fun v z=>by rw [rC.1] at z; cases z⟩
    show wpAny _ _ (assign (.Name y py) X.env (.ref s2.heap.objs.size)) _ _ s4
    refine wpAny_assign_Name (gL I5 hN hiy hy (v:=.ref s2.heap.objs.size) rfl (fun s5 I6=>?_) hf)
    have hC5:s5.heap.get? (s2.heap.objs.size + 1) = some oC:=(I6.pin (_,oC) (List.mem_append_right _ (List.mem_append_right _ (dQ (List.mem_singleton.mpr rfl) hoC)))).1
    refine ⟨m,⟨oC,es,ep,hC5,rC⟩,fun h' sb=>⟨_,H',(I6.gM).turned (t':=s5.toks) (it:=s2.heap.objs.size + 1) (fun b o hb e=>(sb.2 b hb).trans e) J4.free c1 c3 c4 c5,qn⟩⟩
  . refine thn (T.item (blk X scope cl (M ++ [x]) (s2.heap.objs.size + 1) _ _ fp) rfl rfl rfl hc i [] s' _ H' _ J' (fpY fr') st' go) fun r s4 ⟨u,hr,h4⟩=>?_
    subst hr
    refine wpAny_bind (thn h4 fun _ s5 ⟨z,H5,J5,r5,y5,st5,fr5⟩=>?_)
    have J5':=J5.pinned (fpY fr5) (T.obj _ _ st5)
    have hxN:(M ++ [x])[M.length]? = some x:=by simp
    refine wpAny_bind ?_
    refine wpAny_assign_Name ?_
    refine gL (X:=blk X scope cl (M ++ [x]) (s2.heap.objs.size + 1) _ _ fp) (i:=M.length) (v:=z) J5' S.nd hxN (.inl (lookup_relabel_local S.var)) r5 (fun s6 J6=>?_) (.inr (lookup_relabel_local S.var))
    have hlp:(pick ι σ).length = M.length:=by
     have q:=congrArg List.length S.names
     rw [List.length_map,List.length_map] at q
     unfold pick
     rw [List.length_map,q]
    have hset:(pick ι σ ++ [v]).set M.length (some z) = pick ι σ ++ [some z]:=by
     rw [<- hlp,List.set_append_right _ _ (Nat.le_refl _),Nat.sub_self]
     rfl
    rw [hset] at J6
    refine wpAny_bind (wpAny_bind (thn (he _ _ _ _ _ s6 _ H5 _ J6 (step z H5 y5)) fun yv s7 ⟨y,H7,J7,r7,hD7,hz7,m',hm',w7⟩=>?_))
    refine wpAny_bind (thn (fD (X:=blk X scope cl (M ++ [x]) (s2.heap.objs.size + 1) _ _ fp) _ s7 _ H7 (.ref s2.heap.objs.size) [y] (.ref s2.heap.objs.size) [yv] (fun _ G=>G = upd H7 s2.heap.objs.size (.lst (ys ++ [y]))) J7 rfl (.cons r7 .nil) ⟨_,_,y,rfl,rfl,hD7,hz7,rfl⟩) fun _ s8 ⟨_,H8,J8,_,e8⟩=>?_)
    subst e8
    refine wpAny_pure (wpAny_pure ⟨rfl,m',hm',i + 1,_,_,some z,J8.gM,?_,fun b hb=>?_,w7⟩)
    . exact T.keep _ _ _ st5 fun b hb o e=>(J8.pin (b,o) (List.mem_append_right _ (List.mem_append_right _ (dQ hb e)))).1
    . obtain ⟨o,e,d⟩:=T.obj _ _ st5 b hb
      exact (J8.pin (b,o) (List.mem_append_right _ (List.mem_append_right _ (dQ hb e)))).2.1
 rw [hsz] at *
 exact codeAny_compStart_list loop (T.self X.A 0 _ _ _ st₁ loop)
end
end L2.E
namespace L2.P
open PySem PySem.Spec PyProof.Rows L2 L2.E
section
variable {K:PySem.W.Frag} {cls:String -> Option Addr} {W:XW} {Av G S₀ S S' H H' B B':Hp} {ρ:aa} {σ:St} {Q:VK}
theorem xM {tl te:TE} {ml me:aa -> OE} {ι:List Nat} (hι:ι.Nodup) (hl:JE K cls W tl ml) (he:JE K cls (fun _ _ _ _=>False) te me):JE K cls W (nG (CB K tl) ι te) (nU ml ι me):=by
 intro Av G S₀ ρ σ S H Q I p
 refine hl.go I p fun r v S1 H1 I1 w1 r1 p1=>?_
 have ra:=r1.rd I1.sh
 cases e:r.pv with
 | tup xs=>
   rw [e] at p1 ra
   obtain ⟨a,vs,rfl,hq,hr⟩:=kh ra
   refine ⟨a,rfl,⟨vs,az.tup I1.sh hq⟩,?_⟩
   dsimp only at p1
   cases em:dj me (dz ι ρ) xs with
   | exc c fs=>rw [em] at p1; exact p1.elim
   | bad=>rw [em] at p1; exact p1.elim
   | ok ys=>
     rw [em] at p1
     simp only [noX] at p1
     split at p1
     . rename_i hlen
       refine mG hι he I1 em hlen (fun k H' x g hx=>?_) (fun H' g=>⟨vs,az.tup (I1.sh.trans g) hq,by rw [hr.length]; exact Nat.le_refl _⟩) fun D S' H' w nD sD ⟨us,hD,rr⟩=>p1 (.ref D) S' H' w ⟨D,us,rfl,nD,sD,hD,rr⟩
       obtain ⟨u,hu,ru⟩:=hr.get hx
       refine ⟨⟨vs,u,az.tup (I1.sh.trans g) hq,hu⟩,?_⟩
       rintro v' H2 ⟨rfl,hv⟩
       have:=hv vs (az.tup (I1.sh.trans g) hq)
       rw [hu] at this
       cases this
       exact ⟨rfl,ru⟩
     . exact p1.elim
 | _=>rw [e] at p1; exact p1.elim
theorem rO {J:It} {ι:List Nat} {tc:TT} {mc:aa -> OT} {te:TE} {me:aa -> OE} {xs ys:List PV} (hι:ι.Nodup) (hc:JT K cls (fun _ _ _ _=>False) tc mc) (he:JE K cls (fun _ _ _ _=>False) te me) (I:SR K cls Av G S₀ ρ σ S H) (hy:fL mc me (dz ι ρ) xs = .ok ys) (hl:ys.length <= lim)
  (go:∀ k H' x,az H H' -> xs[k]? = some x -> J.go k H' /\ ∀ v H2,J.yld k H' v H2 -> H2 = H' /\ Rep K S x v) (stop:∀ H',az H H' -> J.stop xs.length H')
  (hQ:∀ D S' H',bb S H S' H' -> H D = none -> S' D = none -> (∃ us,H' D = some (.lst us) /\ bG K S' ys us) -> Q (.ref D) H'):
  ∀ D,H D = none -> ∃ W:Nat -> Nat -> List V -> Hp -> Prop,(∃ m,W 0 m [] (upd H D (.lst []))) /\ ∀ i m us H',W i m us H' ->
    H' D = some (.lst us) /\ ((J.stop i H' /\ Q (.ref D) H') \/ (J.go i H' /\ ∀ x H2,J.yld i H' x H2 -> tc (L2.E.pick ι σ ++ [some x]) H2 fun b H4=>H4 D = some (.lst us) /\ if b = true then te (L2.E.pick ι σ ++ [some x]) H4 fun y H3=>H3 D = some (.lst us) /\ us.length < sizeLine /\ ∃ m',m' < m /\ W (i + 1) m' (us ++ [y]) (upd H3 D (.lst (us ++ [y]))) else ∃ m',m' < m /\ W (i + 1) m' us H4)):=by
 intro D nD
 refine ⟨fun k m us H'=>m + k = xs.length /\ H' D = some (.lst us) /\ ∃ S' zs ws,az S S' /\ az H H' /\ az S' H' /\ (∀ b,S' b ≠ none -> S b ≠ none \/ (H b = none /\ b ≠ D)) /\ bG K S' zs us /\ fL mc me (dz ι ρ) (xs.drop k) = .ok ws /\ ys = zs ++ ws,
  ⟨xs.length,rfl,aX,S,[],ys,az.refl _,az.new nD,I.sh.trans (az.new nD),fun b z=>.inl z,.nil,hy,rfl⟩,?_⟩
 rintro k m us H' ⟨hm,hD,S',zs,ws,s1,g1,sh1,n1,r1,e1,rfl⟩
 refine ⟨hD,?_⟩
 have hSD:S' D = none:=by
  cases q:S' D with
  | none=>rfl
  | some o=>
    rcases n1 D (by rw [q]; simp) with z | ⟨_,z⟩
    . exact absurd (I.sh.free nD) z
    . exact absurd rfl z
 by_cases hk:k < xs.length
 . refine .inr ?_
   have hx:xs[k]? = some xs[k]:=by simp [hk]
   obtain ⟨hgo,hyld⟩:=go k H' xs[k] g1 hx
   refine ⟨hgo,fun v H2 hv=>?_⟩
   obtain ⟨rfl,rv⟩:=hyld v H2 hv
   rw [List.drop_eq_getElem_cons hk] at e1
   have I1:SR K cls Av G S₀ ρ σ S' H2:=I.grow ⟨s1,g1,sh1,fun b z=>by
    rcases n1 b z with z | ⟨z,_⟩
    . exact .inl z
    . exact .inr z⟩
   have Ip:=I1.pick hι (Rep.mono s1 rv)
   refine hc _ G S₀ _ _ S' H2 _ Ip ?_
   unfold fL at e1
   split at e1
   . rename_i ec
     rw [ec]
     intro S2 H3 w2
     have hSD2:S2 D = none:=by
      cases q:S2 D with
      | none=>rfl
      | some o=>
        rcases w2.new D (by rw [q]; simp) with z | z
        . exact absurd hSD z
        . rw [hD] at z; cases z
     refine ⟨w2.g _ _ hD,?_⟩
     rw [if_pos rfl]
     refine he _ G S₀ _ _ S2 H3 _ (Ip.grow w2) ?_
     cases em:me (dz ι ρ ++ [some (.sh xs[k])]) with
     | exc c fs=>rw [em] at e1; cases e1
     | bad=>rw [em] at e1; cases e1
     | ok r=>
       rw [em] at e1
       simp only [OE.eJ] at e1
       cases es:iq r with
       | none=>rw [es] at e1; cases e1
       | some y=>
         rw [es] at e1
         dsimp only at e1
         cases e2:fL mc me (dz ι ρ) (xs.drop (k + 1)) with
         | exc c fs=>rw [e2] at e1; cases e1
         | bad=>rw [e2] at e1; cases e1
         | ok zs'=>
           rw [e2] at e1
           simp only [OA.eJ] at e1
           cases e1
           intro u S4 H4 w4 r4
           obtain ⟨S3,w3,s3,ru⟩:=r4.share w4 es
           have hl2:(zs ++ y ::zs').length <= lim:=hl
           have w5:=w2.trans w3
           have hSD3:S3 D = none:=by
            cases q:S3 D with
            | none=>rfl
            | some o=>
              rcases w3.new D (by rw [q]; simp) with z | z
              . exact absurd hSD2 z
              . rw [w2.g _ _ hD] at z; cases z
           refine ⟨w5.g _ _ hD,?_,m - 1,by omega,by omega,aX,S3,zs ++ [y],zs',s1.trans w5.s,(g1.trans w5.g).upd nD,w3.sh.upd hSD3,fun b z=>?_,(r1.mono w5.s).append (.cons ru .nil),e2,by simp⟩
           . rw [r1.length,<- vY]
             rw [List.length_append,List.length_cons] at hl2
             omega
           . rcases w5.new b z with z | z
             . exact n1 b z
             . refine .inr ⟨g1.free z,fun e=>?_⟩
               rw [e,hD] at z; cases z
   . rename_i ec
     rw [ec]
     intro S2 H3 w2
     refine ⟨w2.g _ _ hD,?_⟩
     rw [if_neg (by decide)]
     refine ⟨m - 1,by omega,by omega,w2.g _ _ hD,S2,zs,ws,s1.trans w2.s,g1.trans w2.g,w2.sh,fun b z=>?_,r1.mono w2.s,e1,rfl⟩
     rcases w2.new b z with z | z
     . exact n1 b z
     . refine .inr ⟨g1.free z,fun e=>?_⟩
       rw [e,hD] at z; cases z
   . cases e1
 . have hk':k = xs.length:=by omega
   subst hk'
   refine .inl ⟨stop H' g1,?_⟩
   rw [List.drop_length] at e1
   cases e1
   exact hQ D S' H' ⟨s1,g1,sh1,fun b z=>by
    rcases n1 b z with z | ⟨z,_⟩
    . exact .inl z
    . exact .inr z⟩ nD hSD ⟨us,hD,by rw [List.append_nil]; exact r1⟩
theorem tV {tl te:TE} {tc:TT} {ml me:aa -> OE} {mc:aa -> OT} {ι:List Nat} (hι:ι.Nodup) (hl:JE K cls W tl ml) (hc:JT K cls (fun _ _ _ _=>False) tc mc) (he:JE K cls (fun _ _ _ _=>False) te me):JE K cls W (qM (rE K tl) ι tc te) (nX ml ι mc me):=by
 intro Av G S₀ ρ σ S H Q I p
 refine hl.go I p fun r v S1 H1 I1 w1 r1 p1=>?_
 have ra:=r1.rd I1.sh
 cases e:r.pv with
 | lst xs=>
   rw [e] at p1 ra
   obtain ⟨a,vs,rfl,hq,hr⟩:=gj ra
   refine ⟨a,rfl,⟨vs,hq⟩,?_⟩
   dsimp only at p1
   cases em:fL mc me (dz ι ρ) xs with
   | exc c fs=>rw [em] at p1; exact p1.elim
   | bad=>rw [em] at p1; exact p1.elim
   | ok ys=>
     rw [em] at p1
     simp only [noX] at p1
     split at p1
     . rename_i hlen
       refine rO hι hc he I1 em hlen (fun k H' x g hx=>?_) (fun H' g=>⟨vs,az.seq g hq,by rw [hr.length]; exact Nat.le_refl _⟩) fun D S' H' w nD sD ⟨us,hD,rr⟩=>p1 (.ref D) S' H' w ⟨D,us,rfl,nD,sD,hD,rr⟩
       obtain ⟨u,hu,ru⟩:=hr.get hx
       refine ⟨⟨vs,u,az.seq g hq,hu⟩,?_⟩
       rintro v' H2 ⟨rfl,hv⟩
       have:=hv vs (az.seq g hq)
       rw [hu] at this
       cases this
       exact ⟨rfl,ru⟩
     . exact p1.elim
 | _=>rw [e] at p1; exact p1.elim
theorem BB {ta ts:TE} {ma ms:aa -> OE} (ha:JE K cls W ta ma) (hs:JE K cls W ts ms):JE K cls W (Bg K ta ts) (zP ma ms):=by
 intro Av G S₀ ρ σ S H Q I p
 refine ha.go I p fun a v S1 H1 I1 w1 r1 p1=>hs.go I1 p1 fun k u S2 H2 I2 w2 r2 p2=>?_
 have ra:=(r1.rd I1.sh).mono w2.s w2.g
 have rk:=r2.rd I2.sh
 split at p2
 . rename_i xs n ea ek
   split at p2
   . rename_i hn
     rw [ea] at ra
     rw [ek] at rk
     obtain ⟨q,vs,rfl,hq,hr⟩:=gj ra
     refine ⟨by rw [dA rk,hn],q,vs,rfl,hq,fun l hl=>?_⟩
     refine p2 _ S2 _ (bb.heap I2.sh hl) ⟨l,_,rfl,hl,I2.sh.free hl,aX,?_⟩
     clear ea p2 hq ra
     induction xs generalizing vs with
     | nil=>rw [hr.nil_inv]; exact .nil
     | cons x xs ih=>
       obtain ⟨y,t,rfl,h1,h2⟩:=hr.cons_inv
       rw [List.reverse_cons,List.reverse_cons]
       exact (ih _ h2).append (.cons h1 .nil)
   . exact p2.elim
 . exact p2.elim
end
end L2.P
namespace L2.E
open PySem PySem.Spec PyProof.Rows L2
theorem vi {X:Cx} {scope:Scope} {cl:List (Str × Addr)} {M:List Str} {ι:List Nat} {x:Str} {elt iter c:Expr} {px pos:Pos} {wi:TI} {tc:TT} {te:TE} (S:jx X scope cl M ι x) (hc:X.calm = true) (hi:QI X (.Name x px) iter wi) (hcd:∀ C s₀ H₀ ex,QT (blk X scope cl (M ++ [x]) C s₀ H₀ ex) c tc) (he:∀ C s₀ H₀ ex,QE (blk X scope cl (M ++ [x]) C s₀ H₀ ex) elt te)
  (hs:∀ v,foldedSetIterable iter X.env v = pure v:=by intro _; rfl):QE X (.ListComp elt [⟨.Name x px,iter,[c],0⟩] scope pos) (qM wi ι tc te):=⟨vT S hc hi.out (fun a b c d=>(hcd a b c d).out) (fun a b c d=>(he a b c d).out) hs⟩
theorem Co {X:Cx} {e st:Expr} {te ts:TE} {pos p2:Pos} (he:QE X e te) (hk:QE X st ts):QE X (.Subscript e (.Slice none none (some st) p2) pos) (Bg X.K te ts):=⟨B2 he.out hk.out⟩
end L2.E
namespace L2.E
open PySem PySem.Spec PyProof.Rows L2
theorem yV {X:Cx} {scope:Scope} {cl:List (Str × Addr)} {M:List Str} {ι:List Nat} {x:Str} {i:Nat} {y:Str} {py spos:Pos} {elt iter:Expr} {px pos:Pos} {wi:TI} {te:TE} (hN:X.N.Nodup) (hiy:X.N[i]? = some y) (hy:Loc X.env.scope y) (S:jx X scope cl M ι x) (hc:X.calm = true) (hi:QI X (.Name x px) iter wi) (he:∀ C s₀ H₀ ex,QE (blk X scope cl (M ++ [x]) C s₀ H₀ ex) elt te)
  (hsw:swapsWith (.ListComp elt [⟨.Name x px,iter,[],0⟩] scope pos) (some (.Name y py)) spos.line X.env = pure true:=by rfl) (hf:X.fn y = true \/ X.env.scope.names.lookup y = some .local:=by first | exact .inl rfl | exact .inr rfl | assumption)
  (hs:∀ v,foldedSetIterable iter X.env v = pure v:=by intro _; rfl):QS X (.Assign [.Name y py] (.ListComp elt [⟨.Name x px,iter,[],0⟩] scope pos) spos) (oW (nG wi ι te) (iE i)):=⟨zq S hc hi.out (fun a b c d=>(he a b c d).out) hN hiy hy hsw hf hs⟩
end L2.E
namespace L2.E
open PySem PySem.Spec PyProof.Rows L2
def DP (p:Int × V) (e:DictEntry):Prop:=e.hash = hashInt p.1 /\ (∃ t,e.key = .int p.1 t) /\ RelV p.2 e.val
def DKI (K:PySem.W.Frag) (d:Addr) (kvs:List (Int × V)):Prop:=(d == sysModules) = false /\ (kvs.map (·.1)).Nodup /\ ∃ (es:List DictEntry) (ep:Nat),K.lookup d = some ⟨.type "dict",none,.dict es.toArray ep,#[]⟩ /\ Paired DP kvs es
theorem sd {prog:Program} {w:World}:∀ {kvs:List (Int × V)} {es:List DictEntry},Paired DP kvs es ->
  ∃ us:List (Int × Value),us.map (·.1) = kvs.map (·.1) /\ Pairs (intKind prog w) es us /\ (∀ e ∈ es,∃ k,(intKind prog w).is k e.key = true /\ e.hash = (intKind prog w).hash k) /\
    ∀ n,match kvs.lookup n with
      | some v=>∃ u,valueAt us n = some u /\ RelV v u
      | none=>valueAt us n = none
 | _,_,.nil=>⟨[],rfl,.nil,fun e he=>(nomatch he),fun n=>rfl⟩
 | (n,v) ::kvs,e ::es,.cons h t=>by
   obtain ⟨us,h1,h2,h3,h4⟩:=sd (prog:=prog) (w:=w) t
   obtain ⟨k1,⟨tk,k2⟩,k3⟩:=h
   have hk:(intKind prog w).is n e.key = true:=by rw [k2]; show Value.isInt n (.int n tk) = true; simp [Value.isInt]
   refine ⟨(n,e.val) ::us,by simp [h1],.cons hk rfl h2,fun e' he'=>?_,fun m=>?_⟩
   . rcases List.mem_cons.mp he' with z | z
     . subst z; exact ⟨n,hk,k1⟩
     . exact h3 e' z
   . have:=h4 m
     by_cases hm:m = n
     . subst hm
       simp [List.lookup,valueAt]
       exact k3
     . have hb:(m == n) = false:=by simpa using hm
       have hn:¬ n = m:=fun z=>hm z.symm
       simp only [List.lookup,hb]
       unfold valueAt at this ⊢
       simp only [List.find?_cons,hn,decide_false]
       exact this
theorem DKI.at {X:Cx} {pins:List (Addr × Obj)} {σ:St} {H:Hp} {s:Shared} {d:Addr} {kvs:List (Int × V)} (D:DKI X.K d kvs) (I:Inv X pins σ H s):
  ∃ us:List (Int × Value),s.heap.DictOf (intKind X.prog X.w) d us /\ ∀ n,match kvs.lookup n with
     | some v=>∃ u,valueAt us n = some u /\ RelV v u
     | none=>valueAt us n = none:=by
 obtain ⟨_,nd,es,ep,hk,pr⟩:=D
 obtain ⟨us,h1,h2,h3,h4⟩:=sd (prog:=X.prog) (w:=X.w) pr
 exact ⟨us,⟨_,es.toArray,ep,I.kIn d _ hk,⟨rfl,rfl,rfl⟩,rfl,fun e he=>h3 e (by simpa using he),by simpa using h2,by rw [h1]; exact nd⟩,h4⟩
section
variable {X:Cx}
def AN (K:PySem.W.Frag):R2:=fun x y H Q=>∃ d kvs n v,x = .ref d /\ y = .int n /\ DKI K d kvs /\ kvs.lookup n = some v /\ Q v H
theorem D9:IxR X (AN X.K):=by
 intro value slice pins s σ H x y v u Q I rx ry h hs
 obtain ⟨d,kvs,n,z,rfl,rfl,D,hl,q⟩:=h
 cases rx
 obtain ⟨t,rfl⟩:=ry
 obtain ⟨us,dd,hv⟩:=D.at I
 have h2:=hv n
 rw [hl] at h2
 obtain ⟨w,e,rw'⟩:=h2
 refine tail_any (ops:=[.ref d,.int n t]) dd.typeIs slot_dict_getitem.lookup ?_ hs
 exact wpAny_getItem_of (knd:=intKind X.prog X.w) (k:=n) (by show Value.isInt n (.int n t) = true; simp [Value.isInt]) dd.mapOf e ⟨z,H,I.tok _,rw',q⟩
def xw (K:PySem.W.Frag) (td te:TE):TE:=fun σ H Q=>td σ H fun x H1=>∃ d kvs,x = .ref d /\ DKI K d kvs /\ te σ H1 fun y H2=>∃ n,y = .int n /\ Q ((kvs.lookup n).getD .non) H2
theorem r6 {o e:Expr} {td te:TE} {apos cpos:Pos} (ho:QE X o td) (he:QE X e te) (hbase:attributeBase o "get" X.env (eval o X.env) = eval o X.env:=by rfl)
  (few:((backTo cpos (starEach [e] X.env)).all (fun x=>!x.1) && (backToKw cpos (keywordEach [] X.env)).all (fun x=>x.1.isSome) && decide (([e]:List Expr).length + ([]:List Keyword).length + (if ([]:List Keyword).isEmpty then 0 else 1) < 30)) = true:=by rfl)
  (line:(apos.endLine == cpos.line) = true:=by rfl) (trees:backTo cpos (starEach [e] X.env) = [(false,eval e X.env)]:=by rfl):QE X (.Call (.Attribute o "get" apos) [e] [] cpos) (xw X.K td te):=⟨by
 intro pins s σ H Q I h
 refine wpAny_Call_method hbase few line PySem.F.plainAttrs_dict PySem.F.slot_dict_get PySem.F.type_dict_get (thn (ho.out pins s σ H _ I h) fun u s1 ⟨x,H1,I1,rx,d,kvs,ex,D,q1⟩=>?_)
 subst ex
 obtain rfl:u = Value.ref d:=rx
 obtain ⟨us,dd,hv⟩:=D.at I1
 obtain ⟨_,nd,es,ep,hk,pr⟩:=id D
 refine ⟨dd.typeIs,fun b hb=>by cases hb; exact ⟨_,I1.kIn d _ hk,rfl⟩,?_⟩
 rw [trees]
 refine Calls.callWith_builtin rfl (Calls.evalArgs_plain (Calls.spliced_cons (thn (he.out pins s1 σ H1 _ I1 q1) fun iv s2 ⟨y,H2,I2,ry,n,ey,q2⟩=>Calls.spliced_nil ?_)))
 subst ey
 obtain ⟨t,rfl⟩:=ry
 obtain ⟨us2,dd2,hv2⟩:=D.at I2
 refine call_meetsIn PySem.F.slot_dict_get dd2.typeIs PySem.F.entry_dict_get (PySem.F.args_dict_get_2 _ _) (meets_dict_get (intKind X.prog X.w) d (k:=n) (key:=.int n t) (by show Value.isInt n (.int n t) = true; simp [Value.isInt]) D.1) ⟨_,dd2.mapOf,⟨_,H2,I2.tok _,?_,q2⟩⟩
 have h2:=hv2 n
 cases q:kvs.lookup n with
 | none=>rw [q] at h2; rw [h2]; rfl
 | some v=>rw [q] at h2; obtain ⟨u,e,r⟩:=h2; rw [e]; exact r⟩
end
end L2.E
namespace L2.P
open PySem PySem.Spec PyProof.Rows L2 L2.E
section
variable {K:PySem.W.Frag} {cls:String -> Option Addr} {W:XW} {Av G S₀ S S' H H' B B':Hp} {ρ:aa} {σ:St} {Q:VK}
def DKP (K:PySem.W.Frag) (d:Addr) (kvs:List (Int × PV)):Prop:=∃ us,DKI K d us /\ Paired (fun (p:Int × PV) (q:Int × V)=>p.1 = q.1 /\ ∀ S,Rep K S p.2 q.2) kvs us
theorem DKP.look {d:Addr}:∀ {kvs:List (Int × PV)} {us:List (Int × V)},Paired (fun (p:Int × PV) (q:Int × V)=>p.1 = q.1 /\ ∀ S,Rep K S p.2 q.2) kvs us -> ∀ n,match kvs.lookup n with
  | some x=>∃ v,us.lookup n = some v /\ ∀ S,Rep K S x v
  | none=>us.lookup n = none
 | _,_,.nil,n=>rfl
 | (k,x) ::kvs,(k',v) ::us,.cons h t,n=>by
   obtain ⟨rfl,hr⟩:=h
   have:=DKP.look (d:=d) t n
   by_cases hm:n = k
   . subst hm
     simp [List.lookup]
     exact hr
   . have hb:(n == k) = false:=by simpa using hm
     simp only [List.lookup,hb]
     exact this
theorem zD {d:Addr} {kvs:List (Int × PV)} {ta:TE} {ma:aa -> OE} (D:DKP K d kvs) (ha:JE K cls W ta ma):JE K cls W (tOp (AN K) (tC (.ref d)) ta) (mUn (ux kvs) ma):=by
 intro Av G S₀ ρ σ S H Q I p
 refine ha.go I p fun a v S1 H1 I1 w1 r1 p1=>?_
 have ra:=r1.rd I1.sh
 cases e:a.pv with
 | int n=>
   rw [e] at p1 ra
   obtain ⟨us,D1,pr⟩:=D
   have:=DKP.look (d:=d) pr n
   simp only [ux] at p1
   cases q:kvs.lookup n with
   | none=>rw [q] at p1; exact p1.elim
   | some x=>
     rw [q] at p1 this
     obtain ⟨u,eu,hr⟩:=this
     exact ⟨d,us,n,u,rfl,dA ra,D1,eu,p1 _ S1 H1 (bb.refl I1.sh) (hr S1)⟩
 | _=>rw [e] at p1; exact p1.elim
theorem sj {d:Addr} {kvs:List (Int × PV)} {ta:TE} {ma:aa -> OE} (D:DKP K d kvs) (ha:JE K cls W ta ma):JE K cls W (xw K (tC (.ref d)) ta) (mUn (eZ kvs) ma):=by
 intro Av G S₀ ρ σ S H Q I p
 obtain ⟨us,D1,pr⟩:=D
 refine ⟨d,us,rfl,D1,?_⟩
 refine ha.go I p fun a v S1 H1 I1 w1 r1 p1=>?_
 have ra:=r1.rd I1.sh
 cases e:a.pv with
 | int n=>
   rw [e] at p1 ra
   have:=DKP.look (d:=d) pr n
   simp only [eZ,oE] at p1
   refine ⟨n,dA ra,?_⟩
   cases q:kvs.lookup n with
   | none=>
     rw [q] at p1 this
     rw [this]
     exact p1 _ S1 H1 (bb.refl I1.sh) (by show Rep K S1 _ _; unfold Rep; rfl)
   | some x=>
     rw [q] at p1 this
     obtain ⟨u,eu,hr⟩:=this
     rw [eu]
     exact p1 _ S1 H1 (bb.refl I1.sh) (hr S1)
 | _=>rw [e] at p1; exact p1.elim
end
end L2.P
namespace L2.E
open PySem PySem.Spec PyProof.Rows L2
end L2.E
namespace L2.P
open PySem PySem.Spec PyProof.Rows L2 L2.E
end L2.P
namespace L2.P
open PySem
end L2.P
namespace L2.P
open PySem PySem.Spec PyProof.Rows L2 L2.E
end L2.P
namespace L2.P
open PySem
def Er (x:Str):List PV:=x.cps.toList.map fun c=>.str ⟨#[c]⟩
def Ct (ml:aa -> OE) (ι:List Nat) (me:aa -> OE):aa -> OE:=fun ρ=>(ml ρ).bind fun r=>match r.pv with
 | .str x=>noX (dj me (dz ι ρ) (Er x))
 | _=>.bad
@[simp] theorem DT (ml:aa -> OE) (ι:List Nat) (me:aa -> OE) (ρ:aa):Ct ml ι me ρ = ((ml ρ).bind fun r=>match r.pv with
  | .str x=>noX (dj me (dz ι ρ) (Er x))
  | _=>.bad):=rfl
end L2.P
namespace L2.P
open PySem
end L2.P
namespace L2
open PySem PySem.Spec PyProof.Rows
end L2
namespace L2.P
open PySem PySem.Spec PyProof.Rows L2 L2.E
end L2.P
namespace HT
open PySem PyProof.Rows
end HT
namespace L2
open PySem PySem.Spec PyProof.Rows
end L2
namespace L2.P
open PySem PySem.Spec PyProof.Rows L2 L2.E
end L2.P
namespace HT
open PySem PyProof.Rows
open AutoSeq1 (wpAny_loadPart')
end HT
namespace L2
open PySem PySem.Spec PyProof.Rows
end L2
namespace L2.P
open PySem PySem.Spec PyProof.Rows L2 L2.E
end L2.P
namespace L2.P
open PySem
def iF (kvs:List (Int × PV)) (a b:RV):OE:=match a.pv,b with
 | .int n,.sh d=>.ok (.sh ((kvs.lookup n).getD d))
 | _,_=>.bad
def qo (kvs:List (Int × PV)) (ma mb:aa -> OE):aa -> OE:=fun ρ=>(ma ρ).bind fun a=>(mb ρ).bind fun b=>iF kvs a b
@[simp] theorem Dw (kvs:List (Int × PV)) (ma mb:aa -> OE) (ρ:aa):qo kvs ma mb ρ = (ma ρ).bind fun a=>(mb ρ).bind fun b=>iF kvs a b:=rfl
def qA (i:Nat) (ml:aa -> OE) (mb:aa -> OS):aa -> OS:=fun ρ=>(ml ρ).bF ρ fun r=>match qW r with
 | some xs=>ip i mb xs.reverse ρ
 | none=>.bad
def FR:PV -> Option RV
 | .int i=>some (.sh (.int (if i < 0 then -i else i)))
 | _=>none
@[simp] theorem FU (i:Int):FR (.int i) = some (.sh (.int (if i < 0 then -i else i))):=rfl
end L2.P
namespace L2
open PySem PySem.Spec PyProof.Rows
def Itv (K:PySem.W.Frag) (a:Addr) (xs:List V):It:=
 ⟨fun i H=>SqL K H a xs /\ i < xs.length,fun i H x H'=>H' = H /\ xs.reverse[i]? = some x,fun i H=>SqL K H a xs /\ xs.length <= i⟩
theorem v7 {P:Program} {w:World} {K:PySem.W.Frag} {tg:Expr} (a it:Addr) (xs:List V):Turn P w K tg (Itv K a xs) [it] it (fun i h=>i <= xs.length /\ h.IsRevIter it a ((xs.length:Int) - 1 - (i:Int))) where
 mem:=by simp
 obj:=fun i h st b hb=>by
  have e:b = it:=by simpa using hb
  subst e
  obtain ⟨_,o,e,c,d⟩:=st
  exact ⟨o,e,fun v z=>by rw [d] at z; cases z⟩
 keep:=fun i h h' st k=>⟨st.1,st.2.at fun o e=>k it (by simp) o e⟩
 item:=by
  intro X hP hw hK hc i pins s σ H E I hf st hg
  subst hP hw hK
  obtain ⟨hq,hi⟩:=hg
  obtain ⟨its,rv,p,hz⟩:=I.list hq
  have hj:xs.length - 1 - i < xs.length:=by omega
  have hx:xs[xs.length - 1 - i]? = some xs[xs.length - 1 - i]:=by simp [hj]
  obtain ⟨u,hu,ru⟩:=rv.get hx
  obtain ⟨f0,f1,f2,f3,f4,f5⟩:=hf it (by simp)
  have hit:=st.2
  rw [show (xs.length:Int) - 1 - (i:Int) = ((xs.length - 1 - i:Nat):Int) by omega] at hit
  refine wpAny_pyNext_rev_item hit p.isList (x:=u) (by simpa using hu) fun h' st' sb=>?_
  have I1:Inv X pins σ H { s with heap:=h' }:=I.turned (t':=s.toks) (fun b o hb e=>(sb.2 b hb).trans e) f0 f1 f3 f4 f5
  obtain ⟨o,e,c,d⟩:=id st'
  rw [show ((xs.length - 1 - i:Nat):Int) - 1 = (xs.length:Int) - 1 - ((i + 1:Nat):Int) by omega] at st'
  exact ⟨u,rfl,uR (s:={ s with heap:=h' }) e c d (by decide) ⟨xs[xs.length - 1 - i],H,I1,ru,⟨rfl,by rw [List.getElem?_reverse hi]; exact hx⟩,⟨hi,st'⟩,fun b hb=>(hf b hb).1⟩⟩
 done:=by
  intro X hP hw hK hc i pins s σ H E I hf st hg
  subst hP hw hK
  obtain ⟨hq,hi⟩:=hg
  obtain ⟨f0,f1,f2,f3,f4,f5⟩:=hf it (by simp)
  have hit:=st.2
  have hle:=st.1
  rw [show (xs.length:Int) - 1 - (i:Int) = -1 by omega] at hit
  exact wpAny_pyNext_rev_end (I.ok.hd hc) hit fun h' eb=>⟨rfl,I.turned (t':=s.toks) (fun b o hb e=>eb b o hb e) f0 f1 f3 f4 f5⟩
 self:=fun _ _ _ _ _ st h=>wpAny_pyIter_revIter st.2 h
section
variable {X:Cx}
def CU (K:PySem.W.Frag) (ta:TA):TI:=fun σ H R=>ta σ H fun vs H1=>∃ a xs,vs = [.ref a] /\ SqL K H1 a xs /\ R (Itv K a xs) H1
theorem B8 {tg a:Expr} {ta:TA} {p pos:Pos} (hg:Gl X "reversed") (hm:X.mg "reversed" = none) (ha:PA X [a] ta) (hs:starEach [a] X.env = [(false,eval a X.env)]:=by rfl):
  PI X tg (.Call (.Name "reversed" p) [a] [] pos) (CU X.K ta):=by
 intro pins s σ H R I h
 refine Call_ (lY I hg hm (show bootBuiltins "reversed" = some (.type "reversed") by rfl) (PyProof.Rows.callWith_type1 (thn (ha pos pins s σ H _ I h) fun us s1 ⟨vs,H1,I1,r1,q1⟩=>?_) hs rfl))
 obtain ⟨l,xs,e,hq,q⟩:=q1
 subst e
 cases r1 with
 | cons r rr=>
   cases rr
   cases r
   obtain ⟨its,rv,p,hz⟩:=I1.list hq
   have hl:=rv.length
   refine call_reversed_list p.isList ?_
   have hsz:((its.toArray.size:Nat):Int) - 1 = (xs.length:Int) - 1:=by simp [hl]
   rw [hsz]
   have hit:Heap.IsRevIter (s1.heap.push (revObj l ((xs.length:Int) - 1))) s1.heap.objs.size l ((xs.length:Int) - 1):=⟨_,Heap.get?_push_size _ rfl,rfl,rfl⟩
   refine wpAny_pyIter_revIter hit ?_
   have I2:Inv X pins σ H1 { s1 with heap:=s1.heap.push (revObj l ((xs.length:Int) - 1)) }:=I1.kept (t':=s1.toks) fun b o x=>Heap.get?_push_of_some _ x
   refine ⟨s1.heap.objs.size,[s1.heap.objs.size],_,_,H1,rfl,I2,v7 l _ xs,⟨Nat.zero_le _,by rw [show (xs.length:Int) - 1 - ((0:Nat):Int) = (xs.length:Int) - 1 by omega]; exact hit⟩,fun b hb=>?_,q⟩
   have z':b = s1.heap.objs.size:=by simpa using hb
   subst z'
   exact I1.va (Nat.le_refl _) (I1.hok.fresh (Nat.le_refl _))
end
theorem zQ {K:PySem.W.Frag} {a:Addr} {xs:List V} {g:TG} {tb:TS} {D:Ends} {σ:St} {H:Hp} (Pv:Nat -> St -> Hp -> Prop) (h0:Pv 0 σ H) (hl:∀ i σ H,i <= xs.length -> Pv i σ H -> SqL K H a xs)
  (hs:∀ i x σ H,xs.reverse[i]? = some x -> Pv i σ H -> g x σ H fun σ2 H2=>tb { D with nx:=Pv (i + 1),ct:=Pv (i + 1),bk:=D.nx } σ2 H2) (hd:∀ σ H,Pv xs.length σ H -> D.nx σ H):
  ∃ W:Nat -> Nat -> St -> Hp -> Prop,(∃ m,W 0 m σ H) /\ ∀ i m σ H,W i m σ H ->
    ((Itv K a xs).stop i H /\ D.nx σ H) \/ ((Itv K a xs).go i H /\ ∃ N:St -> Hp -> Prop,(∀ σ' H',N σ' H' -> ∃ m',m' < m /\ W (i + 1) m' σ' H') /\ ∀ x H',(Itv K a xs).yld i H x H' -> g x σ H' fun σ2 H2=>tb { D with nx:=N,ct:=N,bk:=D.nx } σ2 H2):=by
 refine ⟨fun i m σ H=>m = xs.length - i /\ i <= xs.length /\ Pv i σ H,⟨xs.length,by simp,Nat.zero_le _,h0⟩,?_⟩
 rintro i m σ H ⟨rfl,hi,p⟩
 have q:=hl i σ H hi p
 by_cases hlt:i < xs.length
 . refine .inr ⟨⟨q,hlt⟩,Pv (i + 1),fun σ' H' p'=>⟨xs.length - (i + 1),by omega,rfl,hlt,p'⟩,fun x H' y=>?_⟩
   obtain ⟨e,y⟩:=y
   subst e
   exact hs i x σ _ y p
 . have e:i = xs.length:=by omega
   subst e
   exact .inl ⟨⟨q,Nat.le_refl _⟩,hd σ H p⟩
end L2
namespace L2.E
open PySem PySem.Spec PyProof.Rows L2
section
variable {X:Cx}
def uM (K:PySem.W.Frag) (td te tf:TE):TE:=fun σ H Q=>td σ H fun x H1=>∃ d kvs,x = .ref d /\ DKI K d kvs /\ te σ H1 fun y H2=>tf σ H2 fun z H3=>∃ n,y = .int n /\ Q ((kvs.lookup n).getD z) H3
theorem vN {o e f:Expr} {td te tf:TE} {apos cpos:Pos} (ho:QE X o td) (he:QE X e te) (hf:QE X f tf) (hbase:attributeBase o "get" X.env (eval o X.env) = eval o X.env:=by rfl)
  (few:((backTo cpos (starEach [e,f] X.env)).all (fun x=>!x.1) && (backToKw cpos (keywordEach [] X.env)).all (fun x=>x.1.isSome) && decide (([e,f]:List Expr).length + ([]:List Keyword).length + (if ([]:List Keyword).isEmpty then 0 else 1) <= 15)) = true:=by rfl)
  (line:(apos.endLine == cpos.line) = true:=by rfl) (trees:backTo cpos (starEach [e,f] X.env) = [(false,eval e X.env),(false,eval f X.env)]:=by rfl):QE X (.Call (.Attribute o "get" apos) [e,f] [] cpos) (uM X.K td te tf):=⟨by
 intro pins s σ H Q I h
 refine wpAny_Call_method hbase few line PySem.F.plainAttrs_dict PySem.F.slot_dict_get PySem.F.type_dict_get (thn (ho.out pins s σ H _ I h) fun u s1 ⟨x,H1,I1,rx,d,kvs,ex,D,q1⟩=>?_)
 subst ex
 obtain rfl:u = Value.ref d:=rx
 obtain ⟨us,dd,hv⟩:=D.at I1
 obtain ⟨_,nd,es,ep,hk,pr⟩:=id D
 refine ⟨dd.typeIs,fun b hb=>by cases hb; exact ⟨_,I1.kIn d _ hk,rfl⟩,?_⟩
 rw [trees]
 refine Calls.callWith_builtin rfl (Calls.evalArgs_plain (Calls.spliced_cons (thn (he.out pins s1 σ H1 _ I1 q1) fun iv s2 ⟨y,H2,I2,ry,q2⟩=>Calls.spliced_cons (thn (hf.out pins s2 σ H2 _ I2 q2) fun fv s3 ⟨z,H3,I3,rz,n,ey,q3⟩=>Calls.spliced_nil ?_))))
 subst ey
 obtain ⟨t,rfl⟩:=ry
 obtain ⟨us2,dd2,hv2⟩:=D.at I3
 refine call_meetsIn PySem.F.slot_dict_get dd2.typeIs PySem.F.entry_dict_get (PySem.F.args_dict_get_3 _ _ _) (meets_dict_get_default (intKind X.prog X.w) d (k:=n) (key:=.int n t) (by show Value.isInt n (.int n t) = true; simp [Value.isInt]) D.1 fv) ⟨_,dd2.mapOf,_,H3,I3.tok _,?_,q3⟩
 have h2:=hv2 n
 cases q:kvs.lookup n with
 | none=>rw [q] at h2; rw [h2]; exact rz
 | some v=>rw [q] at h2; obtain ⟨u,e,r⟩:=h2; rw [e]; exact r⟩
end
end L2.E
namespace L2.P
open PySem PySem.Spec PyProof.Rows L2 L2.E
theorem C4 {X:Cx} {tg a:Expr} {ta:TA} {p pos:Pos} (hg:Gl X "reversed") (hm:X.mg "reversed" = none) (ha:QA X [a] ta) (hs:starEach [a] X.env = [(false,eval a X.env)]:=by rfl):
  QI X tg (.Call (.Name "reversed" p) [a] [] pos) (CU X.K ta):=⟨B8 hg hm ha.out hs⟩
section
variable {K:PySem.W.Frag} {cls:String -> Option Addr} {W:XW} {S:Hp}
theorem bG.reverse {xs:List PV} {vs:List V} (h:bG K S xs vs):bG K S xs.reverse vs.reverse:=by
 induction xs generalizing vs with
 | nil=>rw [h.nil_inv]; exact .nil
 | cons x xs ih=>
   obtain ⟨v,r,rfl,q,h'⟩:=h.cons_inv
   rw [List.reverse_cons,List.reverse_cons]
   exact (ih h').append (.cons q .nil)
theorem xD {i:Nat} {tl:TE} {tb:TS} {ml:aa -> OE} {mb:aa -> OS} (hl:JE K cls W tl ml) (hb:JS K cls W tb mb):JS K cls W (wu (CU K (iI tl jM)) (iE i) tb) (qA i ml mb):=by
 intro Av G S₀ ρ σ S H D I p
 refine hl Av G S₀ ρ σ S H _ I ?_
 unfold qA at p
 cases em:ml ρ with
 | exc c fs=>rw [em] at p; exact fun a C S' H' w x=>p a C σ S' H' (I.grow w) w.s x
 | bad=>rw [em] at p; exact p
 | ok r=>
   rw [em] at p
   intro v S1 H1 w1 r1
   simp only [OE.bF] at p
   cases ei:qW r with
   | none=>rw [ei] at p; exact p.elim
   | some xs=>
     rw [ei] at p
     have es:iq r = some (.lst xs):=by
      cases r with
      | sh y=>cases y <;> cases ei <;> rfl
      | fr ys=>cases ei; rfl
      | al ys=>cases ei
     obtain ⟨S2,w2,s2,rx⟩:=r1.share w1 es
     have I2:=I.grow w2
     unfold Rep at rx
     obtain ⟨a,vs,rfl,hq,hr⟩:=rx
     have hrr:=hr.reverse
     show ∃ a' xs',[V.ref a] = [V.ref a'] /\ _
     refine ⟨a,vs,rfl,az.seq I2.sh hq,?_⟩
     refine zQ (xs:=vs) (fun k σ' H'=>∃ ρ' S',SR K cls Av G S₀ ρ' σ' S' H' /\ az S2 S' /\ fQ K cls W Av G S₀ S' D (ip i mb (xs.reverse.drop k) ρ'))
      ⟨ρ,S2,I2,az.refl _,p.back w2.s⟩ ?_ ?_ ?_
     . rintro k σ' H' _ ⟨ρ',S',I',s',_⟩
       exact az.seq (s'.trans I'.sh) hq
     . rintro k x σ' H' hx ⟨ρ',S',I',s',p'⟩
       obtain ⟨y,hy,ry⟩:=hrr.BE hx
       have hd:xs.reverse.drop k = y ::xs.reverse.drop (k + 1):=by
        have hk:k < xs.reverse.length:=(List.getElem?_eq_some_iff.mp hy).1
        rw [List.drop_eq_getElem_cons hk]
        congr 1
        have:=List.getElem?_eq_getElem hk
        rw [hy] at this
        exact (Option.some.inj this).symm
       rw [hd] at p'
       exact pM hb I' (Rep.mono s' ry) p' fun ρ2 σ2 S3 H3 I3 s3 p3=>⟨ρ2,S3,I3,s'.trans s3,p3⟩
     . rintro σ' H' ⟨ρ',S',I',s',p'⟩
       rw [List.drop_of_length_le (by rw [List.length_reverse,hr.length]; exact Nat.le_refl _)] at p'
       exact p' σ' S' H' I' (az.refl _)
theorem u9 {d:Addr} {kvs:List (Int × PV)} {ta tb:TE} {ma mb:aa -> OE} (D:DKP K d kvs) (ha:JE K cls W ta ma) (hb:JE K cls W tb mb):JE K cls W (uM K (tC (.ref d)) ta tb) (qo kvs ma mb):=by
 intro Av G S₀ ρ σ S H Q I p
 obtain ⟨us,D1,pr⟩:=D
 refine ⟨d,us,rfl,D1,?_⟩
 refine ha.go I p fun a v S1 H1 I1 w1 r1 p1=>hb.go I1 p1 fun b u S2 H2 I2 w2 r2 p2=>?_
 have ra:=(r1.rd I1.sh).mono w2.s w2.g
 cases e:a.pv with
 | int n=>
   rw [e] at ra
   have:=DKP.look (d:=d) pr n
   cases b with
   | fr xs=>unfold iF at p2; rw [e] at p2; exact p2.elim
   | al xs=>unfold iF at p2; rw [e] at p2; exact p2.elim
   | sh x=>
     unfold iF at p2
     rw [e] at p2
     refine ⟨n,dA ra,?_⟩
     cases q:kvs.lookup n with
     | none=>
       simp only [q] at p2 this
       rw [this]
       exact p2 _ S2 H2 (bb.refl I2.sh) r2
     | some y=>
       simp only [q] at p2 this
       obtain ⟨u,eu,hr⟩:=this
       rw [eu]
       exact p2 _ S2 H2 (bb.refl I2.sh) (hr S2)
 | _=>unfold iF at p2; rw [e] at p2; exact p2.elim
end
end L2.P
namespace L2.E
open PySem PySem.Spec PyProof.Rows L2
end L2.E
namespace L2.P
open PySem PySem.Spec PyProof.Rows L2 L2.E
end L2.P
namespace L2.E
open PySem PySem.Spec PyProof.Rows L2
end L2.E
namespace L2.P
open PySem PySem.Spec PyProof.Rows L2 L2.E
end L2.P
namespace PG
def cell (ns:List Int) (k:Int):Int:=if ns = [] then 0 else ns.getD (k % (ns.length:Int)).toNat 0
def mix (ns:List Int) (k:Int):Int:=
 let a:=(cell ns k + 104729 * (k + 1)) % 4294967291
 let b:=a * 48271 % 4294967279
 (b / 64 * 69621 + b) % 4294967231
theorem CM (ns:List Int) (k:Int):0 <= mix ns k /\ mix ns k < 4294967231:=by unfold mix; dsimp only; omega
end PG
namespace PG
def FJ (b:Int):Int × Int:=if b = 224 then (160,191) else if b = 237 then (128,159) else (128,191)
def Ff (b:Int):Int × Int:=if b = 240 then (144,191) else if b = 244 then (128,143) else (128,191)
def spans (b:Int):Option (List (Int × Int)):=if 0 <= b /\ b < 128 then some [] else if 194 <= b /\ b < 224 then some [(128,191)] else if 224 <= b /\ b < 240 then some [FJ b,(128,191)] else if 240 <= b /\ b < 245 then some [Ff b,(128,191),(128,191)] else none
def mark (k:Nat):Int:=[0,192,224,240].getD k 0
def val (b:Int) (cs:List Int):Int:=cs.foldl (fun n c=>n * 64 + c - 128) (b - mark cs.length)
end PG
namespace L2.P
open PySem
@[simp] theorem AA (s:String):(Str.ofString s).cps.all (· < 0x110000) = true:=by
  rw [Str.ofString_eq_toList,List.all_toArray,List.all_map]
  rw [List.all_eq_true]
  intro c _
  have:=c.valid
  simp only [Function.comp,decide_eq_true_eq]
  rcases this with h | ⟨_,h⟩
  . exact Nat.lt_of_lt_of_le h (by decide)
  . exact h
theorem toNat_inj:∀ (xs ys:List Char),xs.map Char.toNat = ys.map Char.toNat -> xs = ys
 | [],[],_=>rfl
 | [],_ ::_,h=>by cases h
 | _ ::_,[],h=>by cases h
 | x ::xs,y ::ys,h=>by
   rw [List.map_cons,List.map_cons] at h
   injection h with h1 h2
   have:x = y:=Char.ext (UInt32.toNat_inj.mp h1)
   rw [this,toNat_inj xs ys h2]
theorem aC (a b:String):Str.ofString a = Str.ofString b ↔ a = b:=by
 constructor
 . intro h
   rw [Str.ofString_eq_toList,Str.ofString_eq_toList] at h
   injection h with h
   have h2:a.toList.map Char.toNat = b.toList.map Char.toNat:=by
    have:=congrArg Array.toList h
    simpa using this
   exact String.toList_inj.mp (toNat_inj _ _ h2)
 . intro h; rw [h]
@[simp] theorem Ao (a b:String):(Str.ofString a == Str.ofString b) = decide (a = b):=by
  by_cases h:a = b
  . subst h; simp
  . have:Str.ofString a ≠ Str.ofString b:=fun z=>h ((aC a b).mp z)
    simp [h,this]
@[simp] theorem EN (a b:String):gq (.str (Str.ofString a)) (.str (Str.ofString b)) = decide (a = b):=by simp [gq]
@[simp] theorem Fx (a:String) (n:Nat):CS (.str (Str.ofString a)) n = true:=by simp [CS]
end L2.P
namespace L2.P
open PySem
theorem sR (n:Nat):ixP (n + 1) (-1) = some n:=by
 unfold ixP
 rw [if_neg (by decide),if_pos (by omega)]
 congr 1
 omega
@[simp] theorem get_nil (t:OV):t.get [] = some t:=by cases t <;> rfl
@[simp] theorem yE (t u:OV):t.put [] u = u:=by cases t <;> rfl
theorem q9 {ρ:aa} {i:Nat} {io:Bool} {ts:List OV} {md:aa -> OD} {x:OV} (h:ρ[i]? = some (some (.tr io (.ol ts)))) (hd:md ρ = .ok x) (hl:ts.length < lim):
  jT i ef md ρ = .nx (ρ.set i (some (.tr io (.ol (ts ++ [x]))))):=by
 unfold jT tH ef
 rw [h]
 simp only [get_nil]
 rw [hd]
 simp only [hl,if_true,yE]
end L2.P
namespace L2.P
open PySem
section
variable {ρ:aa} {i:Nat} {io:Bool} {init us:List OV} {x:PV}
theorem zM (n k:Nat) (h:k < n):ixP n (k:Int) = some k:=by
 unfold ixP
 rw [if_pos (by omega),if_pos (by omega)]
 simp
end
theorem wU {ρ:aa} {i:Nat} {io:Bool} {ts:List OV} {x:OV} (h:ρ[i]? = some (some (.tr io (.ol (ts ++ [x]))))):kR i ef ρ = .ok (ρ.set i (some (.tr io (.ol ts)))) (slO x):=by
 unfold kR ef
 rw [h]
 simp
end L2.P
namespace PG
open L2.P PySem
inductive It where
 | sp (lo hi:Int) | white | value | lead | figures | fraction | exponent | sign | text | escape | code | coded | hex | hexd | hexcf | row | mrow | fields | mfields | name
 deriving DecidableEq
def aP:It -> PV
 | .sp lo hi=>.tup [.int lo,.int hi]
 | .white=>.str "white" | .value=>.str "value" | .lead=>.str "lead" | .figures=>.str "figures" | .fraction=>.str "fraction" | .exponent=>.str "exponent" | .sign=>.str "sign"
 | .text=>.str "text" | .escape=>.str "escape" | .code=>.str "code" | .coded=>.str "code d" | .hex=>.str "hex" | .hexd=>.str "hex d" | .hexcf=>.str "hex c to f"
 | .row=>.str "row" | .mrow=>.str "more row" | .fields=>.str "fields" | .mfields=>.str "more fields" | .name=>.str "name"
def loose:It -> Bool
 | .white=>true | .figures=>true | .fraction=>true | .exponent=>true | .sign=>true
 | _=>false
def opn:It -> Bool
 | .row=>true | .mrow=>true | .fields=>true | .mfields=>true
 | _=>false
def wht (b:Int):Bool:=decide (9 = b) || (decide (10 = b) || (decide (13 = b) || decide (32 = b)))
def fig (b:Int):Bool:=decide (48 <= b) && decide (b <= 57)
def kG (b:Int):Option Int:=if 48 <= b /\ b <= 57 then some (b - 48) else if 65 <= b /\ b <= 70 then some (b - 55) else if 97 <= b /\ b <= 102 then some (b - 87) else none
def jA (b:Int):Option (List It):=if b = 48 then some [.fraction,.exponent] else if 48 <= b /\ b <= 57 then some [.figures,.fraction,.exponent] else none
def jU (b:Int):Option (List It):=
 if b = 91 then some [.white,.row] else if b = 123 then some [.white,.fields] else if b = 34 then some [.text] else if b = 45 then some [.lead]
 else if b = 110 then some [.sp 117 117,.sp 108 108,.sp 108 108] else if b = 116 then some [.sp 114 114,.sp 117 117,.sp 101 101] else if b = 102 then some [.sp 97 97,.sp 108 108,.sp 115 115,.sp 101 101]
 else jA b
def lW:List It:=[.white,.sp 58 58,.white,.value,.white,.mfields]
def tls (b:Int):Option (List It):=
 if 0 <= b /\ b < 128 then some [] else if 194 <= b /\ b < 224 then some [.sp 128 191]
 else if 224 <= b /\ b < 240 then some [if b = 224 then .sp 160 191 else if b = 237 then .sp 128 159 else .sp 128 191,.sp 128 191]
 else if 240 <= b /\ b < 245 then some [if b = 240 then .sp 144 191 else if b = 244 then .sp 128 143 else .sp 128 191,.sp 128 191,.sp 128 191]
 else none
def oJ (b:Int):Option (List It):=if b = 34 then some [] else if b = 92 then some [.escape,.text] else if b < 32 then none else (tls b).map (· ++ [.text])
def p8 (b:Int):Bool:=b = 34 || b = 92 || b = 47 || b = 98 || b = 102 || b = 110 || b = 114 || b = 116
def wb (b:Int):Option (List It):=if b = 117 then some [.code] else if p8 b then some [] else none
def xV (w:Int):Option (List It):=if w < 8 then some [.hex,.hex] else if w < 12 then some [.hex,.hex,.sp 92 92,.sp 117 117,.hexd,.hexcf,.hex,.hex] else none
def bh:It -> Int -> Option (List It)
 | .sp lo hi,b=>if lo <= b /\ b <= hi then some [] else none
 | .white,b=>if wht b then some [.white] else none
 | .value,b=>jU b
 | .lead,b=>jA b
 | .figures,b=>if 48 <= b /\ b <= 57 then some [.figures] else none
 | .fraction,b=>if b = 46 then some [.sp 48 57,.figures] else none
 | .exponent,b=>if b = 101 \/ b = 69 then some [.sign,.sp 48 57,.figures] else none
 | .sign,b=>if b = 43 \/ b = 45 then some [] else none
 | .text,b=>oJ b
 | .escape,b=>wb b
 | .code,b=>(kG b).bind fun w=>if w = 13 then some [.coded] else some [.hex,.hex,.hex]
 | .coded,b=>(kG b).bind xV
 | .hex,b=>(kG b).map fun _=>[]
 | .hexd,b=>(kG b).bind fun w=>if w = 13 then some [] else none
 | .hexcf,b=>(kG b).bind fun w=>if 12 <= w then some [] else none
 | .row,b=>if b = 93 then some [] else (jU b).map (· ++ [.white,.mrow])
 | .mrow,b=>if b = 44 then some [.white,.value,.white,.mrow] else if b = 93 then some [] else none
 | .fields,b=>if b = 125 then some [] else if b = 34 then some (.text ::lW) else none
 | .mfields,b=>if b = 44 then some (.white ::.name ::lW) else if b = 125 then some [] else none
 | .name,b=>if b = 34 then some [.text] else none
def cnt (st:List It):Nat:=(st.filter opn).length
def gon:List It -> Int -> List It × Bool
 | [],_=>([],false)
 | it ::st,b=>match bh it b with
   | some l=>(l ++ st,decide (cnt (l ++ st) <= 64))
   | none=>if loose it then gon st b else (st,false)
def tk:List It -> List Int -> List It × Nat
 | st,[]=>(st,0)
 | st,b ::r=>if (gon st b).2 then ((tk (gon st b).1 r).1,(tk (gon st b).1 r).2 + 1) else ((gon st b).1,0)
def st0:List It:=[.white,.value,.white]
def flt (row:List Int):Option Nat:=if (tk st0 row).2 = row.length /\ (tk st0 row).1.all loose = true then none else some (tk st0 row).2
def wk (st:List It):OV:=.ob "Walk" ["coming"] [.ol ((st.reverse.map aP).map .sh)]
theorem xZ (it:It) (b:Int) (l:List It) (h:bh it b = some l):l.length <= 8:=by
 have hv:∀ l,jU b = some l -> l.length <= 5:=by
  intro l h
  unfold jU jA at h
  repeat' split at h
  all_goals (first | (cases h; done) | (injection h with h; subst h; decide))
 have ht:∀ l,tls b = some l -> l.length <= 5:=by
  intro l h
  unfold tls at h
  repeat' split at h
  all_goals (first | (cases h; done) | (injection h with h; subst h; simp))
 cases it with
 | value=>exact Nat.le_trans (hv l h) (by decide)
 | row=>
   simp only [bh] at h
   split at h
   . injection h with h; subst h; decide
   . cases e:jU b with
     | none=>rw [e] at h; cases h
     | some l'=>rw [e] at h; injection h with h; subst h; have:=hv l' e; simp; omega
 | text=>
   simp only [bh,oJ] at h
   repeat' split at h
   all_goals first | (cases h; done) | (injection h with h; subst h; decide) | skip
   cases e:tls b with
   | none=>rw [e] at h; cases h
   | some l'=>rw [e] at h; injection h with h; subst h; have:=ht l' e; simp; omega
 | code=>
   simp only [bh] at h
   cases e:kG b with
   | none=>rw [e] at h; cases h
   | some w=>rw [e] at h; simp only [Option.bind_some] at h; split at h <;> (injection h with h; subst h; decide)
 | coded=>
   simp only [bh] at h
   cases e:kG b with
   | none=>rw [e] at h; cases h
   | some w=>
     rw [e] at h; simp only [Option.bind_some,xV] at h
     repeat' split at h
     all_goals first | (cases h; done) | (injection h with h; subst h; decide)
 | hex=>
   simp only [bh] at h
   cases e:kG b with
   | none=>rw [e] at h; cases h
   | some w=>rw [e] at h; injection h with h; subst h; simp
 | hexd=>
   simp only [bh] at h
   cases e:kG b with
   | none=>rw [e] at h; cases h
   | some w=>rw [e] at h; simp only [Option.bind_some] at h; split at h <;> first | (cases h; done) | (injection h with h; subst h; decide)
 | hexcf=>
   simp only [bh] at h
   cases e:kG b with
   | none=>rw [e] at h; cases h
   | some w=>rw [e] at h; simp only [Option.bind_some] at h; split at h <;> first | (cases h; done) | (injection h with h; subst h; decide)
 | _=>
   simp only [bh,jA,wb,lW] at h
   repeat' split at h
   all_goals first | (cases h; done) | (injection h with h; subst h; decide)
theorem uo (st:List It) (b:Int):(gon st b).1.length <= st.length + 8:=by
 induction st with
 | nil=>simp [gon]
 | cons it st ih=>
   unfold gon
   cases e:bh it b with
   | some l=>have:=xZ it b l e; simp; omega
   | none=>
     dsimp only
     split
     . simp; omega
     . simp; omega
end PG
namespace PG
def hv (b:Int):Int:=(kG b).getD 0
theorem cnt_cons (it:It) (st:List It):cnt (it ::st) = (if opn it then 1 else 0) + cnt st:=by
 unfold cnt
 cases e:opn it <;> simp [e]
 omega
theorem oP {st st':List It} {b:Int} {r:List Int} (h:gon st b = (st',true)):tk st (b ::r) = ((tk st' r).1,(tk st' r).2 + 1):=by
 simp [tk,h]
theorem yy {it:It} {st:List It} {b:Int} {r:List Int} (h:bh it b = none) (hl:loose it = true):tk (it ::st) (b ::r) = tk st (b ::r):=by
 simp [tk,gon,h,hl]
def Goes (st:List It) (bs:List Int) (st':List It):Prop:=∀ r,tk st (bs ++ r) = ((tk st' r).1,(tk st' r).2 + bs.length)
theorem Goes.skip {it:It} {st st':List It} {b:Int} {bs:List Int} (h:bh it b = none) (hl:loose it = true) (k:Goes st (b ::bs) st'):Goes (it ::st) (b ::bs) st':=fun r=>by
 rw [List.cons_append,yy h hl,<- List.cons_append,k]
end PG
namespace L2.plainglass_k08_brackets_deep
open PySem L2.P
def iA (c:String):Option Bool:=if c = "Fault" then some true else none
def jK (c:String):Bool:=c == "Walk"
def ni:aa -> OS:=
    (yh 0 ef "coming" jK (mD (dF (ai (mC (.str "white")) (ai (mC (.str "value")) (ai (mC (.str "white")) aQ))))))
def cK:List Sl -> OI:=fnI 1 1 ni
def fc:aa -> OS:=
    (bE (mUn (eZ [(110,.tup ([117,108,108].map .int)),(116,.tup ([114,117,101].map .int)),(102,.tup ([97,108,115,101].map .int))]) (au 0)))
def dM:List PV -> OE:=fnP 1 1 fc
def gc:aa -> OS:=
    (bE (iK gLe gLe (mC (.int 48)) (au 0) (mC (.int 57))))
def dN:List PV -> OE:=fnP 1 1 gc
def gX:aa -> OS:=
    (bE (mC .non))
def gU:aa -> OS:=
    (aZ (cE (fK (b2 dN (ai (au 0) aQ)))
    (bE (dF (ai (mC (.str "figures")) (ai (mC (.str "fraction")) (ai (mC (.str "exponent")) aQ)))))
    bB)
    gX)
def eS:aa -> OS:=
    (aZ (cE (aU (mOp gEq (au 0) (mC (.int 48))))
    (bE (dF (ai (mC (.str "fraction")) (ai (mC (.str "exponent")) aQ))))
    bB)
    gU)
def cY:List PV -> OE:=fnP 1 1 eS
def ck:aa -> OE:=
    (gQ (ai (au 0) (ai (au 0) aQ)))
def cn:aa -> OS:=
    (bE (b2 cY (ai (au 0) aQ)))
def cx:aa -> OS:=
    (aZ (cE (aU (mOp pO (au 1) (mC .non)))
    (bE (nU (au 1) [] ck))
    bB)
    cn)
def cj:aa -> OS:=
    (aZ (eW 1 (b2 dM (ai (au 0) aQ)))
    cx)
def cp:aa -> OS:=
    (aZ (cE (aU (mOp gEq (au 0) (mC (.int 45))))
    (bE (dF (ai (mC (.str "lead")) aQ)))
    bB)
    cj)
def cv:aa -> OS:=
    (aZ (cE (aU (mOp gEq (au 0) (mC (.int 34))))
    (bE (dF (ai (mC (.str "text")) aQ)))
    bB)
    cp)
def cw:aa -> OS:=
    (aZ (cE (aU (mOp gEq (au 0) (mC (.int 123))))
    (bE (dF (ai (mC (.str "white")) (ai (mC (.str "fields")) aQ))))
    bB)
    cv)
def b0:aa -> OS:=
    (aZ (cE (aU (mOp gEq (au 0) (mC (.int 91))))
    (bE (dF (ai (mC (.str "white")) (ai (mC (.str "row")) aQ))))
    bB)
    cw)
def bc:List PV -> OE:=fnP 1 2 b0
def bq:aa -> OS:=
    (bE (jz (aU (mOp gIn (au 1) (gQ (ai (mC (.int 43)) (ai (mC (.int 45)) aQ))))) (dF aQ) (mC .non)))
def bj:aa -> OS:=
    (aZ (cE (aU (mOp gEq (au 0) (mC (.str "exponent"))))
    (bE (jz (aU (mOp gIn (au 1) (gQ (ai (mC (.int 101)) (ai (mC (.int 69)) aQ))))) (dF (ai (mC (.str "sign")) (ai (gQ (ai (mC (.int 48)) (ai (mC (.int 57)) aQ))) (ai (mC (.str "figures")) aQ)))) (mC .non)))
    bB)
    bq)
def bg:aa -> OS:=
    (aZ (cE (aU (mOp gEq (au 0) (mC (.str "fraction"))))
    (bE (jz (aU (mOp gEq (au 1) (mC (.int 46)))) (dF (ai (gQ (ai (mC (.int 48)) (ai (mC (.int 57)) aQ))) (ai (mC (.str "figures")) aQ))) (mC .non)))
    bB)
    bj)
def bp:aa -> OS:=
    (aZ (cE (aU (mOp gEq (au 0) (mC (.str "figures"))))
    (bE (jz (fK (b2 dN (ai (au 1) aQ))) (dF (ai (mC (.str "figures")) aQ)) (mC .non)))
    bB)
    bg)
def ba:aa -> OS:=
    (aZ (cE (aU (mOp gEq (au 0) (mC (.str "lead"))))
    (bE (b2 cY (ai (au 1) aQ)))
    bB)
    bp)
def aM:List PV -> OE:=fnP 2 2 ba
def kT:aa -> OS:=
    (bE (mC .non))
def kS:aa -> OS:=
    (aZ (cE (aU (iK gLe gLe (mC (.int 97)) (au 0) (mC (.int 102))))
    (bE (mOp vM (au 0) (mC (.int 87))))
    bB)
    kT)
def kN:aa -> OS:=
    (aZ (cE (aU (iK gLe gLe (mC (.int 65)) (au 0) (mC (.int 70))))
    (bE (mOp vM (au 0) (mC (.int 55))))
    bB)
    kS)
def gR:aa -> OS:=
    (aZ (cE (fK (b2 dN (ai (au 0) aQ)))
    (bE (mOp vM (au 0) (mC (.int 48))))
    bB)
    kN)
def d5:List PV -> OE:=fnP 1 1 gR
def gv:aa -> OS:=
    (bE (mC .non))
def gw:aa -> OS:=
    (aZ (cE (aU (mOp gLt (au 0) (mC (.int 12))))
    (aZ (eW 1 (dF (ai (gQ (ai (mC (.int 92)) (ai (mC (.int 92)) aQ))) (ai (gQ (ai (mC (.int 117)) (ai (mC (.int 117)) aQ))) (ai (mC (.str "hex d")) (ai (mC (.str "hex c to f")) (ai (mC (.str "hex")) (ai (mC (.str "hex")) aQ))))))))
    (bE (mOp qb (dF (ai (mC (.str "hex")) (ai (mC (.str "hex")) aQ))) (au 1))))
    bB)
    gv)
def eQ:aa -> OS:=
    (aZ (cE (aU (mOp gLt (au 0) (mC (.int 8))))
    (bE (dF (ai (mC (.str "hex")) (ai (mC (.str "hex")) aQ))))
    bB)
    gw)
def cJ:List PV -> OE:=fnP 1 2 eQ
def fH:aa -> OS:=
    (bE (mC (.tup ([128,191].map .int))))
def fE:aa -> OS:=
    (aZ (cE (aU (mOp gEq (au 0) (mC (.int 237))))
    (bE (gQ (ai (mC (.int 128)) (ai (mC (.int 159)) aQ))))
    bB)
    fH)
def ee:aa -> OS:=
    (aZ (cE (aU (mOp gEq (au 0) (mC (.int 224))))
    (bE (gQ (ai (mC (.int 160)) (ai (mC (.int 191)) aQ))))
    bB)
    fE)
def b5:List PV -> OE:=fnP 1 1 ee
def fW:aa -> OS:=
    (bE (mC (.tup ([128,191].map .int))))
def fY:aa -> OS:=
    (aZ (cE (aU (mOp gEq (au 0) (mC (.int 244))))
    (bE (gQ (ai (mC (.int 128)) (ai (mC (.int 143)) aQ))))
    bB)
    fW)
def eE:aa -> OS:=
    (aZ (cE (aU (mOp gEq (au 0) (mC (.int 240))))
    (bE (gQ (ai (mC (.int 144)) (ai (mC (.int 191)) aQ))))
    bB)
    fY)
def cu:List PV -> OE:=fnP 1 1 eE
def ia:aa -> OS:=
    (bE (mC .non))
def ic:aa -> OS:=
    (aZ (cE (aU (iK gLe gLt (mC (.int 240)) (au 0) (mC (.int 245))))
    (bE (dF (ai (b2 cu (ai (au 0) aQ)) (ai (mC (.tup ([128,191].map .int))) (ai (mC (.tup ([128,191].map .int))) aQ)))))
    bB)
    ia)
def hZ:aa -> OS:=
    (aZ (cE (aU (iK gLe gLt (mC (.int 224)) (au 0) (mC (.int 240))))
    (bE (dF (ai (b2 b5 (ai (au 0) aQ)) (ai (mC (.tup ([128,191].map .int))) aQ))))
    bB)
    ic)
def ie:aa -> OS:=
    (aZ (cE (aU (iK gLe gLt (mC (.int 194)) (au 0) (mC (.int 224))))
    (bE (dF (ai (mC (.tup ([128,191].map .int))) aQ)))
    bB)
    hZ)
def iC:aa -> OS:=
    (aZ (cE (aU (iK gLe gLt (mC (.int 0)) (au 0) (mC (.int 128))))
    (bE (dF aQ))
    bB)
    ie)
def fS:List PV -> OE:=fnP 1 1 iC
def dw:aa -> OS:=
    (bE (mOp qb (au 1) (dF (ai (mC (.str "text")) aQ))))
def du:aa -> OS:=
    (aZ (cE (y9 (aU (mOp gLt (au 0) (mC (.int 32)))) (aU (mOp nQ (au 1) (mC .non))))
    (bE (mC .non))
    bB)
    dw)
def dy:aa -> OS:=
    (aZ (eW 1 (b2 fS (ai (au 0) aQ)))
    du)
def dq:aa -> OS:=
    (aZ (cE (aU (mOp gEq (au 0) (mC (.int 92))))
    (bE (dF (ai (mC (.str "escape")) (ai (mC (.str "text")) aQ))))
    bB)
    dy)
def cL:aa -> OS:=
    (aZ (cE (aU (mOp gEq (au 0) (mC (.int 34))))
    (bE (dF aQ))
    bB)
    dq)
def bA:List PV -> OE:=fnP 1 2 cL
def b1:aa -> OS:=
    (bE (mUn (eZ [(34,.int 34),(92,.int 92),(47,.int 47),(98,.int 8),(102,.int 12),(110,.int 10),(114,.int 13),(116,.int 9)]) (au 0)))
def bf:List PV -> OE:=fnP 1 1 b1
def dS:aa -> OS:=
    (aZ (cE (aU (mOp gEq (au 0) (mC (.int 117))))
    (bE (dF (ai (mC (.str "code")) aQ)))
    bB)
    (bE (jz (aU (mOp nQ (b2 bf (ai (au 0) aQ)) (mC .non))) (mC .non) (dF aQ))))
def bY:List PV -> OE:=fnP 1 1 dS
def cP:aa -> OS:=
    (bE (b2 cJ (ai (au 2) aQ)))
def cM:aa -> OS:=
    (aZ (cE (aU (mOp gEq (au 0) (mC (.str "code"))))
    (bE (jz (aU (mOp gEq (au 2) (mC (.int 13)))) (dF (ai (mC (.str "code d")) aQ)) (dF (ai (mC (.str "hex")) (ai (mC (.str "hex")) (ai (mC (.str "hex")) aQ))))))
    bB)
    cP)
def cO:aa -> OS:=
    (aZ (cE (aU (mOp nQ (au 2) (mC .non)))
    (bE (mC .non))
    bB)
    cM)
def cQ:aa -> OS:=
    (aZ (eW 2 (b2 d5 (ai (au 1) aQ)))
    cO)
def cN:aa -> OS:=
    (aZ (cE (aU (mOp gEq (au 0) (mC (.str "escape"))))
    (bE (b2 bY (ai (au 1) aQ)))
    bB)
    cQ)
def cq:aa -> OS:=
    (aZ (cE (aU (mOp gEq (au 0) (mC (.str "text"))))
    (bE (b2 bA (ai (au 1) aQ)))
    bB)
    cN)
def bt:List PV -> OE:=fnP 2 3 cq
def fm:aa -> OS:=
    (bE (dF aQ))
def e6:aa -> OS:=
    (aZ (cE (aU (mOp gEq (au 0) (mC (.str "hex c to f"))))
    (bE (jz (aU (mOp gGe (au 2) (mC (.int 12)))) (dF aQ) (mC .non)))
    bB)
    fm)
def e7:aa -> OS:=
    (aZ (cE (aU (mOp gEq (au 0) (mC (.str "hex d"))))
    (bE (jz (aU (mOp gEq (au 2) (mC (.int 13)))) (dF aQ) (mC .non)))
    bB)
    e6)
def eX:aa -> OS:=
    (aZ (cE (aU (mOp nQ (au 2) (mC .non)))
    (bE (mC .non))
    bB)
    e7)
def eO:aa -> OS:=
    (aZ (eW 2 (b2 d5 (ai (au 1) aQ)))
    eX)
def dc:List PV -> OE:=fnP 2 3 eO
def d6:aa -> OS:=
    (bE (jz (aU (mOp nQ (au 1) (mC .non))) (mC .non) (mOp qb (au 1) (dF (ai (mC (.str "white")) (ai (mC (.str "more row")) aQ))))))
def d8:aa -> OS:=
    (aZ (eW 1 (b2 bc (ai (au 0) aQ)))
    d6)
def dk:aa -> OS:=
    (aZ (cE (aU (mOp gEq (au 0) (mC (.int 93))))
    (bE (dF aQ))
    bB)
    d8)
def bM:List PV -> OE:=fnP 1 2 dk
def fM:aa -> OS:=
    (bE (dF (ai (mC (.str "white")) (ai (gQ (ai (mC (.int 58)) (ai (mC (.int 58)) aQ))) (ai (mC (.str "white")) (ai (mC (.str "value")) (ai (mC (.str "white")) (ai (mC (.str "more fields")) aQ))))))))
def dn:List PV -> OE:=fnP 0 0 fM
def de:aa -> OS:=
    (aZ (cE (aU (mOp gEq (au 0) (mC (.int 125))))
    (bE (dF aQ))
    bB)
    (bE (jz (aU (mOp gEq (au 0) (mC (.int 34)))) (mOp qb (dF (ai (mC (.str "text")) aQ)) (b2 dn aQ)) (mC .non))))
def bD:List PV -> OE:=fnP 1 1 de
def bW:aa -> OS:=
    (bE (jz (aU (mOp gEq (au 1) (mC (.int 125)))) (dF aQ) (mC .non)))
def bX:aa -> OS:=
    (aZ (cE (aU (mOp gEq (au 1) (mC (.int 44))))
    (bE (mOp qb (dF (ai (mC (.str "white")) (ai (mC (.str "name")) aQ))) (b2 dn aQ)))
    bB)
    bW)
def bZ:aa -> OS:=
    (aZ (cE (aU (mOp gEq (au 0) (mC (.str "more row"))))
    (aZ (cE (aU (mOp gEq (au 1) (mC (.int 44))))
    (bE (dF (ai (mC (.str "white")) (ai (mC (.str "value")) (ai (mC (.str "white")) (ai (mC (.str "more row")) aQ))))))
    bB)
    (bE (jz (aU (mOp gEq (au 1) (mC (.int 93)))) (dF aQ) (mC .non))))
    bB)
    bX)
def bV:aa -> OS:=
    (aZ (cE (aU (mOp gEq (au 0) (mC (.str "fields"))))
    (bE (b2 bD (ai (au 1) aQ)))
    bB)
    bZ)
def bI:aa -> OS:=
    (aZ (cE (aU (mOp gEq (au 0) (mC (.str "row"))))
    (bE (b2 bM (ai (au 1) aQ)))
    bB)
    bV)
def aR:List PV -> OE:=fnP 2 2 bI
def fU:aa -> OS:=
    (bE (mOp gIn (au 0) (mC (.tup ([9,10,13,32].map .int)))))
def dP:List PV -> OE:=fnP 1 1 fU
def bN:aa -> OS:=
    (bE (b2 bc (ai (au 1) aQ)))
def bP:aa -> OS:=
    (aZ (cE (aU (mOp gEq (au 0) (mC (.str "name"))))
    (bE (jz (aU (mOp gEq (au 1) (mC (.int 34)))) (dF (ai (mC (.str "text")) aQ)) (mC .non)))
    bB)
    bN)
def bR:aa -> OS:=
    (aZ (cE (aU (mOp gEq (au 0) (mC (.str "white"))))
    (bE (jz (fK (b2 dP (ai (au 1) aQ))) (dF (ai (mC (.str "white")) aQ)) (mC .non)))
    bB)
    bP)
def bK:aa -> OS:=
    (aZ (cE (aU (mOp gIn (au 0) (mC (.tup [.str "row",.str "more row",.str "fields",.str "more fields"]))))
    (bE (b2 aR (ai (au 0) (ai (au 1) aQ))))
    bB)
    bR)
def bQ:aa -> OS:=
    (aZ (cE (aU (mOp gIn (au 0) (gQ (ai (mC (.str "hex")) (ai (mC (.str "hex d")) (ai (mC (.str "hex c to f")) aQ))))))
    (bE (b2 dc (ai (au 0) (ai (au 1) aQ))))
    bB)
    bK)
def bO:aa -> OS:=
    (aZ (cE (aU (mOp gIn (au 0) (gQ (ai (mC (.str "text")) (ai (mC (.str "escape")) (ai (mC (.str "code")) (ai (mC (.str "code d")) aQ)))))))
    (bE (b2 bt (ai (au 0) (ai (au 1) aQ))))
    bB)
    bQ)
def bL:aa -> OS:=
    (aZ (cE (aU (mOp gIn (au 0) (gQ (ai (mC (.str "lead")) (ai (mC (.str "figures")) (ai (mC (.str "fraction")) (ai (mC (.str "exponent")) (ai (mC (.str "sign")) aQ))))))))
    (bE (b2 aM (ai (au 0) (ai (au 1) aQ))))
    bB)
    bO)
def b9:aa -> OS:=
    (aZ (cE (fK (mIs "tuple" (au 0)))
    (bE (jz (aU (iK gLe gLe (mOp mz (au 0) (mC (.int 0))) (au 1) (mOp mz (au 0) (mC (.int 1))))) (dF aQ) (mC .non)))
    bB)
    bL)
def bS:List PV -> OE:=fnP 2 2 b9
def gp:aa -> OE:=
    (au 0)
def eU:aa -> OT:=
    (aU (mOp gIn (au 0) (mC (.tup [.str "row",.str "more row",.str "fields",.str "more fields"]))))
def jE:aa -> OS:=
    (bE (mUn jJ (nX (m7 0 (pFd 0 ef "coming" jK)) [] eU gp)))
def cg:List Sl -> OI:=fnI 1 1 jE
def fA:aa -> OT:=
    (lR 0 (pFd 0 ef "coming" jK))
def fB:aa -> OS:=
    (aZ (jW 2 (kR 0 (pFd 0 ef "coming" jK)))
    (aZ (eW 3 (b2 bS (ai (au 2) (ai (au 1) aQ))))
    (aZ (cE (aU (mOp pO (au 3) (mC .non)))
    (aZ (jY 0 (pFd 0 ef "coming" jK) (zP (au 3) (mUn tJ (mC (.int 1)))))
    (bE (mOp gLe (jB "Walk" "brackets" cg [.b 0 ef]) (mC (.int 64)))))
    bB)
    (cE (aU (mOp lr (au 2) (mC (.tup [.str "white",.str "figures",.str "fraction",.str "exponent",.str "sign"]))))
    (bE (mC (.bl false)))
    bB))))
def gk:aa -> OS:=
    (aZ (d3 fA
    fB fuel)
    (bE (mC (.bl false))))
def dv:List Sl -> OI:=fnI 2 4 gk
def gH:aa -> OS:=
    (zV true (ke "Walk" "goes_on" dv [.t 0 ef,.e (au 3)])
    (jg 2)
    bB)
def iw:aa -> OS:=
    (aZ (uC 2 3 (au 1)
    gH)
    (bE (mUn jJ (au 1))))
def eK:List Sl -> OI:=fnI 2 4 iw
def gu:aa -> OE:=
    (mOp gIn (au 0) (mC (.tup [.str "white",.str "figures",.str "fraction",.str "exponent",.str "sign"])))
def jD:aa -> OS:=
    (bE (mUn yz (tG (m7 0 (pFd 0 ef "coming" jK)) [] gu)))
def cH:List Sl -> OI:=fnI 1 1 jD
def mM:aa -> OS:=
    (jg 2)
def o7:aa -> OS:=
    (aZ (cE (pq (aU (mOp gEq (au 2) (mUn jJ (au 0)))) (fK (jB "Walk" "is_whole" cH [.b 1 ef])))
    (bE (mC .non))
    bB)
    mM)
def pd:aa -> OS:=
    (aZ (jW 2 (ke "Walk" "take" eK [.t 1 ef,.e (au 0)]))
    o7)
def lN:aa -> OS:=
    (aZ (mY 1 (pE "Walk" cK))
    pd)
def hV:List PV -> OE:=fnP 1 3 lN
def eY:aa -> OS:=
    (aZ (eW 1 (b2 hV (ai (au 0) aQ)))
    (cE (aU (mOp pO (au 1) (mC .non)))
    (pZ "Fault" "at" (ai (au 1) aQ))
    bB))
def cZ:List PV -> OE:=fnP 1 2 eY
def g8:aa -> OS:=
    (bE (gQ (ai (mOp mz (au 2) (mC (.int 0))) (ai (mOp mz (au 2) (mC (.int 1))) (ai (mOp mz (au 2) (mC (.int 2))) (ai (mOp mz (mOp ir (au 0) (mOp jn (au 1) (mC (.int 1)))) (mC (.int 3))) aQ))))))
def gY:aa -> OS:=
    (aZ (cE (aU (mOp gNe (mOp mz (au 2) (mC (.int 0))) (mC (.str "name"))))
    (jg 2)
    bB)
    g8)
def fP:aa -> OS:=
    (aZ (eW 2 (mOp ir (au 0) (au 1)))
    gY)
def dm:List PV -> OE:=fnP 2 3 fP
def gi:aa -> OT:=
    (aU (mOp gNe (mOp ir (au 0) (au 2)) (mC (.int 34))))
def jq:aa -> OS:=
    (o5 2 jn (jz (aU (mOp gEq (mOp ir (au 0) (au 2)) (mC (.int 92)))) (mC (.int 2)) (mC (.int 1))))
def ly:aa -> OS:=
    (bE (mOp jn (au 2) (mC (.int 1))))
def lH:aa -> OS:=
    (aZ (d3 gi
    jq fuel)
    ly)
def jk:aa -> OS:=
    (aZ (eW 2 (mOp jn (au 1) (mC (.int 1))))
    lH)
def fz:List PV -> OE:=fnP 2 3 jk
def fO:aa -> OT:=
    (pq (aU (mOp gLt (au 2) (mUn jJ (au 0)))) (pq (uy (fK (b2 dP (ai (mOp ir (au 0) (au 2)) aQ)))) (aU (mOp lr (mOp ir (au 0) (au 2)) (gQ (ai (mC (.int 44)) (ai (mC (.int 93)) (ai (mC (.int 125)) aQ))))))))
def iS:aa -> OS:=
    (o5 2 jn (mC (.int 1)))
def kO:aa -> OS:=
    (jg 2)
def kU:aa -> OS:=
    (aZ (d3 fO
    iS fuel)
    kO)
def iy:aa -> OS:=
    (aZ (eW 2 (au 1))
    kU)
def eI:List PV -> OE:=fnP 2 3 iy
def j4:aa -> OT:=
    (pq (aU (mOp gLt (au 1) (mUn jJ (au 0)))) (fK (b2 dP (ai (mOp ir (au 0) (au 1)) aQ))))
def sk:aa -> OS:=
    (o5 1 jn (mC (.int 1)))
def kx:aa -> OS:=
    (aZ (d3 j4
    sk fuel)
    (bE (mV (mOp gLt (au 1) (mUn jJ (au 0))) (mOp gEq (mOp ir (au 0) (au 1)) (mC (.int 58))))))
def gd:List PV -> OE:=fnP 2 2 kx
def oq:aa -> OS:=
    (bE (gQ (ai (jz (fK (b2 gd (ai (au 0) (ai (au 4) aQ)))) (mC (.str "name")) (mC (.str "text"))) (ai (au 1) (ai (au 4) (ai (mOp jn (au 2) (mC (.int 1))) aQ))))))
def oR:aa -> OS:=
    (aZ (eW 4 (b2 fz (ai (au 0) (ai (au 1) aQ))))
    oq)
def oj:aa -> OS:=
    (aZ (cE (aU (mOp gNe (au 3) (mC (.str "text"))))
    (bE (gQ (ai (au 3) (ai (au 1) (ai (b2 eI (ai (au 0) (ai (au 1) aQ))) (ai (mOp jn (au 2) (mC (.int 1))) aQ))))))
    bB)
    oR)
def oB:aa -> OS:=
    (aZ (eW 3 (qo [(34,.str "text"),(91,.str "row"),(102,.str "false"),(110,.str "null"),(116,.str "true"),(123,.str "fields")] (mOp ir (au 0) (au 1)) (mC (.str "number"))))
    oj)
def iN:List PV -> OE:=fnP 3 5 oB
def iV:aa -> OT:=
    (aU (mOp gLt (au 3) (mUn jJ (au 0))))
def dC:aa -> OS:=
    (aZ (eW 4 (mOp ir (au 0) (au 3)))
    (cE (aU (mOp gIn (au 4) (gQ (ai (mC (.int 91)) (ai (mC (.int 123)) aQ)))))
    (aZ (jT 2 ef (mD (mUn jJ (au 1))))
    (aZ (hU 1 (gQ (ai (mUn (ux [(34,.str "text"),(91,.str "row"),(102,.str "false"),(110,.str "null"),(116,.str "true"),(123,.str "fields")]) (au 4)) (ai (au 3) aQ))))
    (o5 3 jn (mC (.int 1)))))
    (cE (aU (mOp gIn (au 4) (gQ (ai (mC (.int 93)) (ai (mC (.int 125)) aQ)))))
    (aZ (o5 3 jn (mC (.int 1)))
    (aZ (jW 5 (kR 2 ef))
    (zj 1 (au 5) (gQ (ai (mOp mz (mOp ir (au 1) (au 5)) (mC (.int 0))) (ai (mOp mz (mOp ir (au 1) (au 5)) (mC (.int 1))) (ai (au 3) (ai (mUn jJ (au 1)) aQ))))))))
    (cE (y9 (fK (b2 dP (ai (au 4) aQ))) (aU (mOp gIn (au 4) (gQ (ai (mC (.int 44)) (ai (mC (.int 58)) aQ))))))
    (o5 3 jn (mC (.int 1)))
    (aZ (hU 1 (b2 iN (ai (au 0) (ai (au 3) (ai (mUn jJ (au 1)) aQ)))))
    (eW 3 (mOp mz (mOp ir (au 1) (mUn tJ (mC (.int 1)))) (mC (.int 2)))))))))
def mK:aa -> OE:=
    (b2 dm (ai (au 0) (ai (au 1) aQ)))
def mR:aa -> OS:=
    (jt 1 (bE (ql (mUn jJ (au 1)) [1] mK)))
def pk:aa -> OS:=
    (aZ (d3 iV
    dC fuel)
    mR)
def pJ:aa -> OS:=
    (aZ (eW 3 (mC (.int 0)))
    pk)
def lZ:aa -> OS:=
    (aZ (mY 2 (mD (dF aQ)))
    pJ)
def ph:aa -> OS:=
    (aZ (eW 1 (dF aQ))
    lZ)
def lz:aa -> OS:=
    (aZ (u0 (b2 cZ (ai (au 0) aQ)))
    ph)
def gG:List PV -> OE:=fnP 1 6 lz
def gO:aa -> OS:=
    (bE (mV (mIs "int" (au 0)) (yq (mIs "bool" (au 0)))))
def d9:List PV -> OE:=fnP 1 1 gO
def i5:aa -> OS:=
    (aZ (cE (fK (au 0))
    (bE (mOp ir (au 0) (mOp my (au 1) (mUn jJ (au 0)))))
    bB)
    (bE (mC (.int 0))))
def fj:List PV -> OE:=fnP 2 2 i5
def m6:aa -> OS:=
    (bE (mOp my (mOp jn (mOp yl (mOp xx (au 2) (mC (.int 64))) (mC (.int 69621))) (au 2)) (mC (.int 4294967231))))
def mT:aa -> OS:=
    (aZ (eW 2 (mOp my (mOp yl (au 2) (mC (.int 48271))) (mC (.int 4294967279))))
    m6)
def gD:aa -> OS:=
    (aZ (eW 2 (mOp my (mOp jn (b2 fj (ai (au 0) (ai (au 1) aQ))) (mOp yl (mC (.int 104729)) (mOp jn (au 1) (mC (.int 1))))) (mC (.int 4294967291))))
    mT)
def dO:List PV -> OE:=fnP 2 3 gD
def qt:aa -> OE:=
    (mOp my (mOp xx (mOp xx (b2 dO (ai (au 0) (ai (mC (.int 1)) aQ))) (mOp jn (mC (.int 1)) (mOp my (au 1) (mC (.int 9))))) (mC (.int 7))) (mC (.int 2)))
def nC:aa -> OS:=
    (aZ (hU 4 (mUn jJ (au 3)))
    (eW 3 (mOp qb (au 3) (mOp ir (dF (ai (dF (ai (mC (.int 91)) aQ)) (ai (dF (ai (mC (.int 123)) (ai (mC (.int 34)) (ai (mC (.int 97)) (ai (mC (.int 34)) (ai (mC (.int 58)) aQ)))))) aQ))) (au 5)))))
def nF:aa -> OS:=
    (hU 3 (mOp ir (dF (ai (mC (.int 93)) (ai (mC (.int 125)) aQ))) (au 5)))
def rm:aa -> OS:=
    (bE (mV (b2 d9 (ai (au 9) aQ)) (mV (b2 d9 (ai (au 10) aQ)) (mV (mOp gEq (au 9) (au 8)) (mOp gEq (au 10) (au 8))))))
def n4:aa -> OS:=
    (aZ (cE (aU (mOp nQ (au 8) (mC .non)))
    (bE (mV (mOp nQ (au 9) (mC .non)) (mOp nQ (au 10) (mC .non))))
    bB)
    rm)
def oe:aa -> OS:=
    (aZ (q8 11 (jt 3 (u0 (b2 gG (ai (au 3) aQ)))) iA
    (eW 10 (uK 11 "at" fun c=>c == "Fault")))
    n4)
def n8:aa -> OS:=
    (aZ (eW 10 (mC .non))
    oe)
def lV:aa -> OS:=
    (aZ (jt 3 (eW 9 (b2 hV (ai (au 3) aQ))))
    n8)
def lD:aa -> OS:=
    (aZ (cE (aU (mOp gGt (au 1) (mC (.int 64))))
    (eW 8 (mOp ir (au 4) (mC (.int 64))))
    (cE (uy (fK (au 7)))
    (eW 8 (mUn jJ (au 3)))
    bB))
    lV)
def lP:aa -> OS:=
    (aZ (eW 8 (mC .non))
    lD)
def qR:aa -> OS:=
    (aZ (qA 5 (Bu (au 2) (wA (mOp vM (mC (.int 1)) (mUn uP (au 7)))) (mC .non))
    nF)
    lP)
def u5:aa -> OS:=
    (aZ (eW 7 (mOp gGt (mOp my (b2 dO (ai (au 0) (ai (mC (.int 3)) aQ))) (mC (.int 3))) (mC (.int 0))))
    qR)
def uI:aa -> OS:=
    (aZ (cE (fK (au 6))
    (hU 3 (mC (.int 49)))
    bB)
    u5)
def um:aa -> OS:=
    (aZ (eW 6 (zF (mOp gEq (mOp ir (au 2) (mUn tJ (mC (.int 1)))) (mC (.int 1))) (mOp gEq (mOp my (b2 dO (ai (au 0) (ai (mC (.int 2)) aQ))) (mC (.int 2))) (mC (.int 0)))))
    uI)
def pV:aa -> OS:=
    (aZ (jt 2 (uq 5 (au 2)
    nC))
    um)
def p0:aa -> OS:=
    (aZ (eW 4 (dF aQ))
    pV)
def qD:aa -> OS:=
    (aZ (eW 3 (dF aQ))
    p0)
def qw:aa -> OS:=
    (aZ (eW 2 (ql (au 1) [0] qt))
    qD)
def wQ:aa -> OS:=
    (aZ (eW 1 (mOp jn (mC (.int 60)) (mOp my (b2 dO (ai (au 0) (ai (mC (.int 0)) aQ))) (mC (.int 9)))))
    qw)
def n6:List PV -> OE:=fnP 1 12 wQ
theorem tq (ns:List Int) (k:Int):fj [.lst (ns.map .int),.int k] = .ok (.sh (.int (PG.cell ns k))):=by
 unfold fj i5 PG.cell
 cases ns with
 | nil=>simp
 | cons n r=>
   have hp:(0:Int) < (r.length:Int) + 1:=by omega
   have hm:0 <= k % ((r.length:Int) + 1):=Int.emod_nonneg _ (by omega)
   have hm2:k % ((r.length:Int) + 1) < (r.length:Int) + 1:=Int.emod_lt_of_pos _ hp
   have hi:(k % ((r.length:Int) + 1)).toNat < (n ::r).length:=by rw [List.length_cons]; omega
   have ha:atP (PV.int n ::r.map .int) (k % ((r.length:Int) + 1)) = some (.int ((n ::r).getD (k % ((r.length:Int) + 1)).toNat 0)):=by
    rw [BG _ _ hm]
    have:(PV.int n ::r.map .int) = (n ::r).map .int:=rfl
    rw [this,List.getElem?_map,List.getElem?_eq_getElem hi,List.getD_eq_getElem?_getD,List.getElem?_eq_getElem hi]
    rfl
   simp [hp,ha]
theorem kv (ns:List Int) (k:Int):dO [.lst (ns.map .int),.int k] = .ok (.sh (.int (PG.mix ns k))):=by
 unfold PG.mix
 simp [m6,mT,gD,dO,tq]
theorem fZ (b:Int):dP [.int b] = .ok (.sh (.bl (PG.wht b))):=by
 simp -implicitDefEqProofs [fU,dP,gIn,eC,bU,gq,PG.wht]
 simp [Bool.beq_eq_decide_eq]
theorem kd (b:Int):dN [.int b] = .ok (.sh (.bl (PG.fig b))):=by
 by_cases h:48 <= b <;> simp -implicitDefEqProofs [gc,dN,PG.fig,h]
theorem m5 (b:Int):d5 [.int b] = .ok (.sh (match PG.kG b with | some w=>.int w | none=>.non)):=by
 unfold PG.kG
 by_cases h1:48 <= b <;> by_cases h2:b <= 57 <;> by_cases h3:65 <= b <;> by_cases h4:b <= 70 <;> by_cases h5:97 <= b <;> by_cases h6:b <= 102 <;> first | omega | simp -implicitDefEqProofs [kT,kS,kN,gR,d5,kd,PG.fig,h1,h2,h3,h4,h5,h6]
theorem x6 (b:Int):fS [.int b] = .ok (match PG.tls b with | some l=>.fr (l.map PG.aP) | none=>.sh .non):=by
 have h3:b5 [.int b] = .ok (.sh (PG.aP (if b = 224 then .sp 160 191 else if b = 237 then .sp 128 159 else .sp 128 191))):=by
  by_cases h1:b = 224
  . simp -implicitDefEqProofs [fH,fE,ee,b5,h1,PG.aP]
  . by_cases h2:b = 237 <;> simp -implicitDefEqProofs [fH,fE,ee,b5,h1,h2,PG.aP]
 have h4:cu [.int b] = .ok (.sh (PG.aP (if b = 240 then .sp 144 191 else if b = 244 then .sp 128 143 else .sp 128 191))):=by
  by_cases h1:b = 240
  . simp -implicitDefEqProofs [fW,fY,eE,cu,h1,PG.aP]
  . by_cases h2:b = 244 <;> simp -implicitDefEqProofs [fW,fY,eE,cu,h1,h2,PG.aP]
 unfold PG.tls
 by_cases h0:0 <= b /\ b < 128
 . simp -implicitDefEqProofs [ia,ic,hZ,ie,iC,fS,h0.1,h0.2]
 . by_cases ha:194 <= b /\ b < 224
   . have:¬ b < 128:=by omega
     have z:0 <= b:=by omega
     simp -implicitDefEqProofs [ia,ic,hZ,ie,iC,fS,ha.1,ha.2,z,this,PG.aP]
   . by_cases hb:224 <= b /\ b < 240
     . have z1:¬ b < 128:=by omega
       have z2:¬ b < 224:=by omega
       have z:0 <= b:=by omega
       have z3:194 <= b:=by omega
       simp -implicitDefEqProofs [ia,ic,hZ,ie,iC,fS,hb.1,hb.2,z,z1,z2,z3,h3]
       simp [PG.aP]
     . by_cases hc:240 <= b /\ b < 245
       . have z1:¬ b < 128:=by omega
         have z2:¬ b < 224:=by omega
         have z:0 <= b:=by omega
         have z3:194 <= b:=by omega
         have z4:224 <= b:=by omega
         have z5:¬ b < 240:=by omega
         simp -implicitDefEqProofs [ia,ic,hZ,ie,iC,fS,hc.1,hc.2,z,z1,z2,z3,z4,z5,h4]
         simp [PG.aP]
       . simp only [h0,ha,hb,hc,if_false]
         by_cases g0:0 <= b <;> by_cases g1:b < 128 <;> by_cases g2:194 <= b <;> by_cases g3:b < 224 <;> by_cases g4:224 <= b <;> by_cases g5:b < 240 <;> by_cases g6:240 <= b <;> by_cases g7:b < 245 <;> first | omega | simp -implicitDefEqProofs [ia,ic,hZ,ie,iC,fS,g0,g1,g2,g3,g4,g5,g6,g7]
def rI:Option (List PG.It) -> RV
 | some l=>.fr (l.map PG.aP)
 | none=>.sh .non
theorem kP (b:Int):cY [.int b] = .ok (rI (PG.jA b)):=by
 unfold PG.jA
 by_cases h0:b = 48
 . simp -implicitDefEqProofs [gX,gU,eS,cY,h0,rI,PG.aP]
 . by_cases h1:48 <= b <;> by_cases h2:b <= 57 <;> simp -implicitDefEqProofs [gX,gU,eS,cY,h0,h1,h2,kd,PG.fig,rI,PG.aP]
theorem j8 (b:Int):bc [.int b] = .ok (rI (PG.jU b)):=by
 unfold PG.jU
 by_cases h1:b = 91
 . simp -implicitDefEqProofs [ck,cn,cx,cj,cp,cv,cw,b0,bc,h1,rI,PG.aP]
 by_cases h2:b = 123
 . simp -implicitDefEqProofs [ck,cn,cx,cj,cp,cv,cw,b0,bc,h2,rI,PG.aP]
 by_cases h3:b = 34
 . simp -implicitDefEqProofs [ck,cn,cx,cj,cp,cv,cw,b0,bc,h3,rI,PG.aP]
 by_cases h4:b = 45
 . simp -implicitDefEqProofs [ck,cn,cx,cj,cp,cv,cw,b0,bc,h4,rI,PG.aP]
 by_cases h5:b = 110
 . simp -implicitDefEqProofs [ck,cn,cx,cj,cp,cv,cw,b0,bc,h5,rI,PG.aP,fc,dM,eZ,b4,nU,dj,dz,List.lookup]
 by_cases h6:b = 116
 . simp -implicitDefEqProofs [ck,cn,cx,cj,cp,cv,cw,b0,bc,h6,rI,PG.aP,fc,dM,eZ,b4,nU,dj,dz,List.lookup]
 by_cases h7:b = 102
 . simp -implicitDefEqProofs [ck,cn,cx,cj,cp,cv,cw,b0,bc,h7,rI,PG.aP,fc,dM,eZ,b4,nU,dj,dz,List.lookup]
 have z5:(b == 110) = false:=by simpa using h5
 have z6:(b == 116) = false:=by simpa using h6
 have z7:(b == 102) = false:=by simpa using h7
 simp -implicitDefEqProofs [ck,cn,cx,cj,cp,cv,cw,b0,bc,h1,h2,h3,h4,h5,h6,h7,z5,z6,z7,fc,dM,eZ,b4,List.lookup,kP]
 cases PG.jA b <;> simp [rI]
theorem kM:dn [] = .ok (.fr (PG.lW.map PG.aP)):=by
 simp -implicitDefEqProofs [fM,dn,PG.lW,PG.aP]
theorem iW (it:PG.It) (b:Int) (h:it = .lead \/ it = .figures \/ it = .fraction \/ it = .exponent \/ it = .sign):aM [PG.aP it,.int b] = .ok (rI (PG.bh it b)):=by
 rcases h with rfl | rfl | rfl | rfl | rfl
 . simp -implicitDefEqProofs [bq,bj,bg,bp,ba,aM,PG.aP,gEq,eqS,aC,kP]
   cases e:PG.jA b <;> simp [PG.bh,rI,e]
 . by_cases h1:48 <= b <;> by_cases h2:b <= 57 <;> simp -implicitDefEqProofs [bq,bj,bg,bp,ba,aM,PG.aP,gEq,eqS,aC,kd,PG.fig,PG.bh,rI,h1,h2]
 . by_cases h1:b = 46 <;> simp -implicitDefEqProofs [bq,bj,bg,bp,ba,aM,PG.aP,gEq,eqS,aC,PG.bh,rI,h1]
 . by_cases h1:b = 101
   . simp -implicitDefEqProofs [bq,bj,bg,bp,ba,aM,PG.aP,gEq,eqS,aC,PG.bh,rI,h1,gIn,eC,bU,gq]
   . by_cases h2:b = 69
     . simp -implicitDefEqProofs [bq,bj,bg,bp,ba,aM,PG.aP,gEq,eqS,aC,PG.bh,rI,h2,gIn,eC,bU,gq]
     . have z1:¬ 101 = b:=fun z=>h1 z.symm
       have z2:¬ 69 = b:=fun z=>h2 z.symm
       simp -implicitDefEqProofs [bq,bj,bg,bp,ba,aM,PG.aP,gEq,eqS,aC,PG.bh,rI,h1,h2,z1,z2,gIn,eC,bU,gq]
 . by_cases h1:b = 43
   . simp -implicitDefEqProofs [bq,bj,bg,bp,ba,aM,PG.aP,gEq,eqS,aC,PG.bh,rI,h1,gIn,eC,bU,gq]
   . by_cases h2:b = 45
     . simp -implicitDefEqProofs [bq,bj,bg,bp,ba,aM,PG.aP,gEq,eqS,aC,PG.bh,rI,h2,gIn,eC,bU,gq]
     . have z1:¬ 43 = b:=fun z=>h1 z.symm
       have z2:¬ 45 = b:=fun z=>h2 z.symm
       simp -implicitDefEqProofs [bq,bj,bg,bp,ba,aM,PG.aP,gEq,eqS,aC,PG.bh,rI,h1,h2,z1,z2,gIn,eC,bU,gq]
theorem ot (b:Int):∃ x,bf [.int b] = .ok (.sh x) /\ b4 x = !PG.p8 b:=by
 unfold PG.p8
 by_cases h1:b = 34
 . exact ⟨.int 34,by simp -implicitDefEqProofs [b1,bf,eZ,List.lookup,h1],by simp [b4,h1]⟩
 by_cases h2:b = 92
 . exact ⟨.int 92,by simp -implicitDefEqProofs [b1,bf,eZ,List.lookup,h2],by simp [b4,h2]⟩
 by_cases h3:b = 47
 . exact ⟨.int 47,by simp -implicitDefEqProofs [b1,bf,eZ,List.lookup,h3],by simp [b4,h3]⟩
 by_cases h4:b = 98
 . exact ⟨.int 8,by simp -implicitDefEqProofs [b1,bf,eZ,List.lookup,h4],by simp [b4,h4]⟩
 by_cases h5:b = 102
 . exact ⟨.int 12,by simp -implicitDefEqProofs [b1,bf,eZ,List.lookup,h5],by simp [b4,h5]⟩
 by_cases h6:b = 110
 . exact ⟨.int 10,by simp -implicitDefEqProofs [b1,bf,eZ,List.lookup,h6],by simp [b4,h6]⟩
 by_cases h7:b = 114
 . exact ⟨.int 13,by simp -implicitDefEqProofs [b1,bf,eZ,List.lookup,h7],by simp [b4,h7]⟩
 by_cases h8:b = 116
 . exact ⟨.int 9,by simp -implicitDefEqProofs [b1,bf,eZ,List.lookup,h8],by simp [b4,h8]⟩
 have zz:∀ k:Int,¬ b = k -> (b == k) = false:=fun k h=>by simpa using h
 exact ⟨.non,by simp -implicitDefEqProofs [b1,bf,eZ,List.lookup,zz _ h1,zz _ h2,zz _ h3,zz _ h4,zz _ h5,zz _ h6,zz _ h7,zz _ h8],by simp [b4,h1,h2,h3,h4,h5,h6,h7,h8]⟩
theorem ll (b:Int):bY [.int b] = .ok (rI (PG.wb b)):=by
 obtain ⟨x,hx,hn⟩:=ot b
 unfold PG.wb
 by_cases h1:b = 117
 . simp -implicitDefEqProofs [dS,bY,h1,rI,PG.aP]
 . cases hs:PG.p8 b <;> rw [hs] at hn <;> simp at hn <;> simp -implicitDefEqProofs [dS,bY,h1,hx,hn,rI]
theorem Ab (b:Int) (l:List PG.It) (h:PG.tls b = some l):l.length <= 3:=by
 unfold PG.tls at h
 repeat' split at h
 all_goals (first | (cases h; done) | (injection h with h; subst h; simp))
theorem lb (b:Int):bA [.int b] = .ok (rI (PG.oJ b)):=by
 have ht:=x6 b
 unfold PG.oJ
 by_cases h1:b = 34
 . simp -implicitDefEqProofs [dw,du,dy,dq,cL,bA,h1,rI]
 by_cases h2:b = 92
 . simp -implicitDefEqProofs [dw,du,dy,dq,cL,bA,h2,rI,PG.aP]
 cases e:PG.tls b with
 | none=>
   rw [e] at ht
   by_cases h3:b < 32 <;> simp -implicitDefEqProofs [dw,du,dy,dq,cL,bA,h1,h2,h3,rI,ht,b4]
 | some l=>
   rw [e] at ht
   have hl:l.length + 1 <= lim:=jP (by have:=Ab b l e; omega)
   by_cases h3:b < 32 <;> simp -implicitDefEqProofs [dw,du,dy,dq,cL,bA,h1,h2,h3,rI,ht,b4,hl,PG.aP]
theorem ng (w:Int):cJ [.int w] = .ok (rI (PG.xV w)):=by
 unfold PG.xV
 by_cases h1:w < 8
 . simp -implicitDefEqProofs [gv,gw,eQ,cJ,h1,rI,PG.aP]
 . by_cases h2:w < 12 <;> simp -implicitDefEqProofs [gv,gw,eQ,cJ,h1,h2,rI,PG.aP]
theorem nB (it:PG.It) (b:Int) (h:it = .text \/ it = .escape \/ it = .code \/ it = .coded):bt [PG.aP it,.int b] = .ok (rI (PG.bh it b)):=by
 have hw:=m5 b
 rcases h with rfl | rfl | rfl | rfl
 . simp -implicitDefEqProofs [cP,cM,cO,cQ,cN,cq,bt,PG.aP,gEq,eqS,aC,lb]
   cases e:PG.oJ b <;> simp [PG.bh,rI,e]
 . simp -implicitDefEqProofs [cP,cM,cO,cQ,cN,cq,bt,PG.aP,gEq,eqS,aC,ll]
   cases e:PG.wb b <;> simp [PG.bh,rI,e]
 . cases e:PG.kG b with
   | none=>
     rw [e] at hw
     simp -implicitDefEqProofs [cP,cM,cO,cQ,cN,cq,bt,PG.aP,gEq,eqS,aC,hw,b4,PG.bh,e,rI]
   | some w=>
     rw [e] at hw
     by_cases h13:w = 13 <;> simp -implicitDefEqProofs [cP,cM,cO,cQ,cN,cq,bt,PG.aP,gEq,eqS,aC,hw,b4,PG.bh,e,rI,h13]
 . cases e:PG.kG b with
   | none=>
     rw [e] at hw
     simp -implicitDefEqProofs [cP,cM,cO,cQ,cN,cq,bt,PG.aP,gEq,eqS,aC,hw,b4,PG.bh,e,rI]
   | some w=>
     rw [e] at hw
     simp -implicitDefEqProofs [cP,cM,cO,cQ,cN,cq,bt,PG.aP,gEq,eqS,aC,hw,b4,PG.bh,e,ng]
     cases e2:PG.xV w <;> simp [rI]
theorem tu (it:PG.It) (b:Int) (h:it = .hex \/ it = .hexd \/ it = .hexcf):dc [PG.aP it,.int b] = .ok (rI (PG.bh it b)):=by
 have hw:=m5 b
 cases e:PG.kG b with
 | none=>
   rw [e] at hw
   rcases h with rfl | rfl | rfl <;> simp -implicitDefEqProofs [fm,e6,e7,eX,eO,dc,PG.aP,gEq,eqS,aC,hw,b4,PG.bh,e,rI]
 | some w=>
   rw [e] at hw
   rcases h with rfl | rfl | rfl
   . simp -implicitDefEqProofs [fm,e6,e7,eX,eO,dc,PG.aP,gEq,eqS,aC,hw,b4,PG.bh,e,rI]
   . by_cases h13:w = 13 <;> simp -implicitDefEqProofs [fm,e6,e7,eX,eO,dc,PG.aP,gEq,eqS,aC,hw,b4,PG.bh,e,rI,h13]
   . by_cases h13:12 <= w <;> simp -implicitDefEqProofs [fm,e6,e7,eX,eO,dc,PG.aP,gEq,eqS,aC,hw,b4,PG.bh,e,rI,h13]
theorem vU (b:Int) (l:List PG.It) (h:PG.jU b = some l):l.length <= 5:=by
 unfold PG.jU PG.jA at h
 repeat' split at h
 all_goals (first | (cases h; done) | (injection h with h; subst h; decide))
theorem lp (b:Int):bM [.int b] = .ok (rI (PG.bh .row b)):=by
 have hv:=j8 b
 by_cases h1:b = 93
 . simp -implicitDefEqProofs [d6,d8,dk,bM,h1,rI,PG.bh]
 cases e:PG.jU b with
 | none=>rw [e] at hv; simp -implicitDefEqProofs [d6,d8,dk,bM,h1,hv,rI,PG.bh,e,b4]
 | some l=>
   rw [e] at hv
   have hl:l.length + 2 <= lim:=jP (by have:=vU b l e; omega)
   simp -implicitDefEqProofs [d6,d8,dk,bM,h1,hv,rI,PG.bh,e,b4,PG.aP,hl]
theorem jN (b:Int):bD [.int b] = .ok (rI (PG.bh .fields b)):=by
 by_cases h1:b = 125
 . simp -implicitDefEqProofs [de,bD,h1,rI,PG.bh]
 by_cases h2:b = 34 <;> simp -implicitDefEqProofs [de,bD,h1,h2,rI,PG.bh,kM,PG.lW,PG.aP]
theorem iB (it:PG.It) (b:Int) (h:it = .row \/ it = .mrow \/ it = .fields \/ it = .mfields):aR [PG.aP it,.int b] = .ok (rI (PG.bh it b)):=by
 rcases h with rfl | rfl | rfl | rfl
 . simp -implicitDefEqProofs [bW,bX,bZ,bV,bI,aR,PG.aP,gEq,eqS,aC,lp]
   cases e:PG.bh .row b <;> simp [rI]
 . by_cases h1:b = 44
   . simp -implicitDefEqProofs [bW,bX,bZ,bV,bI,aR,PG.aP,gEq,eqS,aC,h1,PG.bh,rI]
   . by_cases h2:b = 93 <;> simp -implicitDefEqProofs [bW,bX,bZ,bV,bI,aR,PG.aP,gEq,eqS,aC,h1,h2,PG.bh,rI]
 . simp -implicitDefEqProofs [bW,bX,bZ,bV,bI,aR,PG.aP,gEq,eqS,aC,jN]
   cases e:PG.bh .fields b <;> simp [rI]
 . by_cases h1:b = 44
   . simp -implicitDefEqProofs [bW,bX,bZ,bV,bI,aR,PG.aP,gEq,eqS,aC,h1,PG.bh,rI,kM,PG.lW]
   . by_cases h2:b = 125 <;> simp -implicitDefEqProofs [bW,bX,bZ,bV,bI,aR,PG.aP,gEq,eqS,aC,h1,h2,PG.bh,rI]
theorem yr (it:PG.It) (b:Int):bS [PG.aP it,.int b] = .ok (rI (PG.bh it b)):=by
 cases it with
 | sp lo hi=>by_cases h1:lo <= b <;> by_cases h2:b <= hi <;> simp -implicitDefEqProofs [bN,bP,bR,bK,bQ,bO,bL,b9,bS,PG.aP,isP,h1,h2,PG.bh,rI]
 | white=>
   cases h:PG.wht b <;> simp -implicitDefEqProofs [bN,bP,bR,bK,bQ,bO,bL,b9,bS,PG.aP,isP,gIn,eC,bU,gEq,eqS,aC,fZ,h,PG.bh,rI]
 | name=>by_cases h:b = 34 <;> simp -implicitDefEqProofs [bN,bP,bR,bK,bQ,bO,bL,b9,bS,PG.aP,isP,gIn,eC,bU,gEq,eqS,aC,h,PG.bh,rI]
 | value=>
   have:=j8 b
   simp -implicitDefEqProofs [bN,bP,bR,bK,bQ,bO,bL,b9,bS,PG.aP,isP,gIn,eC,bU,gEq,eqS,aC,this,PG.bh]
   cases PG.jU b <;> simp [rI]
 | lead=>
   have:=iW .lead b (by simp)
   simp -implicitDefEqProofs only [PG.aP] at this
   simp -implicitDefEqProofs [bN,bP,bR,bK,bQ,bO,bL,b9,bS,PG.aP,isP,gIn,eC,bU,this]
   cases PG.bh .lead b <;> simp [rI]
 | figures=>
   have:=iW .figures b (by simp)
   simp -implicitDefEqProofs only [PG.aP] at this
   simp -implicitDefEqProofs [bN,bP,bR,bK,bQ,bO,bL,b9,bS,PG.aP,isP,gIn,eC,bU,this]
   cases PG.bh .figures b <;> simp [rI]
 | fraction=>
   have:=iW .fraction b (by simp)
   simp -implicitDefEqProofs only [PG.aP] at this
   simp -implicitDefEqProofs [bN,bP,bR,bK,bQ,bO,bL,b9,bS,PG.aP,isP,gIn,eC,bU,this]
   cases PG.bh .fraction b <;> simp [rI]
 | exponent=>
   have:=iW .exponent b (by simp)
   simp -implicitDefEqProofs only [PG.aP] at this
   simp -implicitDefEqProofs [bN,bP,bR,bK,bQ,bO,bL,b9,bS,PG.aP,isP,gIn,eC,bU,this]
   cases PG.bh .exponent b <;> simp [rI]
 | sign=>
   have:=iW .sign b (by simp)
   simp -implicitDefEqProofs only [PG.aP] at this
   simp -implicitDefEqProofs [bN,bP,bR,bK,bQ,bO,bL,b9,bS,PG.aP,isP,gIn,eC,bU,this]
   cases PG.bh .sign b <;> simp [rI]
 | text=>
   have:=nB .text b (by simp)
   simp -implicitDefEqProofs only [PG.aP] at this
   simp -implicitDefEqProofs [bN,bP,bR,bK,bQ,bO,bL,b9,bS,PG.aP,isP,gIn,eC,bU,this]
   cases PG.bh .text b <;> simp [rI]
 | escape=>
   have:=nB .escape b (by simp)
   simp -implicitDefEqProofs only [PG.aP] at this
   simp -implicitDefEqProofs [bN,bP,bR,bK,bQ,bO,bL,b9,bS,PG.aP,isP,gIn,eC,bU,this]
   cases PG.bh .escape b <;> simp [rI]
 | code=>
   have:=nB .code b (by simp)
   simp -implicitDefEqProofs only [PG.aP] at this
   simp -implicitDefEqProofs [bN,bP,bR,bK,bQ,bO,bL,b9,bS,PG.aP,isP,gIn,eC,bU,this]
   cases PG.bh .code b <;> simp [rI]
 | coded=>
   have:=nB .coded b (by simp)
   simp -implicitDefEqProofs only [PG.aP] at this
   simp -implicitDefEqProofs [bN,bP,bR,bK,bQ,bO,bL,b9,bS,PG.aP,isP,gIn,eC,bU,this]
   cases PG.bh .coded b <;> simp [rI]
 | hex=>
   have:=tu .hex b (by simp)
   simp -implicitDefEqProofs only [PG.aP] at this
   simp -implicitDefEqProofs [bN,bP,bR,bK,bQ,bO,bL,b9,bS,PG.aP,isP,gIn,eC,bU,this]
   cases PG.bh .hex b <;> simp [rI]
 | hexd=>
   have:=tu .hexd b (by simp)
   simp -implicitDefEqProofs only [PG.aP] at this
   simp -implicitDefEqProofs [bN,bP,bR,bK,bQ,bO,bL,b9,bS,PG.aP,isP,gIn,eC,bU,this]
   cases PG.bh .hexd b <;> simp [rI]
 | hexcf=>
   have:=tu .hexcf b (by simp)
   simp -implicitDefEqProofs only [PG.aP] at this
   simp -implicitDefEqProofs [bN,bP,bR,bK,bQ,bO,bL,b9,bS,PG.aP,isP,gIn,eC,bU,this]
   cases PG.bh .hexcf b <;> simp [rI]
 | row=>
   have:=iB .row b (by simp)
   simp -implicitDefEqProofs only [PG.aP] at this
   simp -implicitDefEqProofs [bN,bP,bR,bK,bQ,bO,bL,b9,bS,PG.aP,isP,gIn,eC,bU,this]
   cases PG.bh .row b <;> simp [rI]
 | mrow=>
   have:=iB .mrow b (by simp)
   simp -implicitDefEqProofs only [PG.aP] at this
   simp -implicitDefEqProofs [bN,bP,bR,bK,bQ,bO,bL,b9,bS,PG.aP,isP,gIn,eC,bU,this]
   cases PG.bh .mrow b <;> simp [rI]
 | fields=>
   have:=iB .fields b (by simp)
   simp -implicitDefEqProofs only [PG.aP] at this
   simp -implicitDefEqProofs [bN,bP,bR,bK,bQ,bO,bL,b9,bS,PG.aP,isP,gIn,eC,bU,this]
   cases PG.bh .fields b <;> simp [rI]
 | mfields=>
   have:=iB .mfields b (by simp)
   simp -implicitDefEqProofs only [PG.aP] at this
   simp -implicitDefEqProofs [bN,bP,bR,bK,bQ,bO,bL,b9,bS,PG.aP,isP,gIn,eC,bU,this]
   cases PG.bh .mfields b <;> simp [rI]
abbrev cm (st:List PG.It):List PV:=st.reverse.map PG.aP
theorem rJ (st:List PG.It):PG.wk st = .ob "Walk" ["coming"] [.ol ((cm st).map .sh)]:=rfl
theorem sW (st:List PG.It):(PG.wk st).get [.fd "coming"] = some (.ol ((cm st).map .sh)):=by
 simp [rJ,OV.get,OV.at1,jX]
theorem wR (st:List PG.It) (t:OV):(PG.wk st).put [.fd "coming"] t = .ob "Walk" ["coming"] [t]:=by
 simp [rJ,OV.put,OV.at1,OV.we,jX,o3]
theorem ue {ρ:aa} {i:Nat} {s:Sl} {st:List PG.It} (h:ρ[i]? = some (some s)) (hs:slT s = some (PG.wk st)):subAt i ef ρ = some (PG.wk st):=by
 unfold subAt il ef; rw [h]; simp [hs]
theorem sV {ρ:aa} {i:Nat} {s:Sl} {st:List PG.It} (h:ρ[i]? = some (some s)) (hs:slT s = some (PG.wk st)):pFd i ef "coming" jK ρ = some [.fd "coming"]:=by
 unfold pFd
 rw [ue h hs,rJ]
 simp [jK,jX,ef]
theorem qZ {ρ:aa} {i:Nat} {s:Sl} {st:List PG.It} (h:ρ[i]? = some (some s)) (hs:slT s = some (PG.wk st)):subAt i (pFd i ef "coming" jK) ρ = some (.ol ((cm st).map .sh)):=by
 unfold subAt il
 rw [h,sV h hs]
 simp [hs,sW]
theorem DJ (it:PG.It):eU [some (.sh (PG.aP it))] = .ok (PG.opn it):=by
 cases it <;> simp -implicitDefEqProofs [eU,PG.aP,gIn,eC,bU,PG.opn,gq]
theorem vt (l:List PG.It):fL eU gp [] (l.map PG.aP) = .ok ((l.filter PG.opn).map PG.aP):=by
 induction l with
 | nil=>rfl
 | cons it l ih=>
   rw [List.map_cons]
   unfold fL
   have h:=DJ it
   have he:gp [some (.sh (PG.aP it))] = .ok (.sh (PG.aP it)):=rfl
   cases e:PG.opn it <;> rw [e] at h <;> simp [h,ih,e,he]
theorem tD (st:List PG.It) (hl:st.length <= 100000):cg [.bo (PG.wk st)] = .ok (.int (PG.cnt st)) [none]:=by
 have hp:m7 0 (pFd 0 ef "coming" jK) [some (.bo (PG.wk st))] = .ok (.al (cm st)):=by
  unfold m7
  rw [qZ (s:=.bo (PG.wk st)) rfl rfl]
  simp only [o6]
 have hc:(st.reverse.filter PG.opn).length = PG.cnt st:=by unfold PG.cnt; rw [List.filter_reverse,List.length_reverse]
 have hn:PG.cnt st <= lim:=jP (by unfold PG.cnt; have:=List.length_filter_le PG.opn st; omega)
 have he:=vt st.reverse
 simp -implicitDefEqProofs only [cg,jE,fnI,jy,nX,hp,dz,List.map_nil,he,w6,rf,List.map_cons,List.length_cons,List.length_nil,List.replicate,List.append_nil,gE,rN,wq,List.length_map,hc,hn,if_true,wx,kq,dX,AY,Nat.sub_self,tm]
 rfl
theorem zu (it:PG.It):lr (PG.aP it) (.tup [.str "white",.str "figures",.str "fraction",.str "exponent",.str "sign"]) = some (.sh (.bl (!PG.loose it))):=by
 cases it <;> simp -implicitDefEqProofs [PG.aP,lr,eC,bU,PG.loose,gq]
theorem xm (it:PG.It):gIn (PG.aP it) (.tup [.str "white",.str "figures",.str "fraction",.str "exponent",.str "sign"]) = some (.sh (.bl (PG.loose it))):=by
 cases it <;> simp -implicitDefEqProofs [PG.aP,gIn,eC,bU,PG.loose,gq]
theorem Dk {ρ:aa} {i:Nat} {io:Bool} {it:PG.It} {st:List PG.It} (h:ρ[i]? = some (some (.tr io (PG.wk (it ::st))))):kR i (pFd i ef "coming" jK) ρ = .ok (ρ.set i (some (.tr io (PG.wk st)))) (.sh (PG.aP it)):=by
 have hc:(cm (it ::st)).map OV.sh = (cm st).map OV.sh ++ [.sh (PG.aP it)]:=by simp [cm]
 unfold kR
 rw [h,sV h rfl]
 simp only [sW,hc,List.getLast?_concat,List.dropLast_concat,wR]
 rfl
theorem Ck {ρ:aa} {i:Nat} {io:Bool} {l st:List PG.It} {me:aa -> OE} (h:ρ[i]? = some (some (.tr io (PG.wk st)))) (he:me ρ = .ok (.fr (l.map PG.aP).reverse)) (hl:st.length + l.length <= 100000):
  jY i (pFd i ef "coming" jK) me ρ = .nx (ρ.set i (some (.tr io (PG.wk (l ++ st))))):=by
 have hc:(cm (l ++ st)).map OV.sh = (cm st).map OV.sh ++ (l.map PG.aP).reverse.map .sh:=by simp [cm]
 have hl2:st.length + l.length <= lim:=jP (by omega)
 unfold jY tH
 rw [h,sV h rfl]
 simp only [sW,he,dX,List.length_map,List.length_reverse,hl2,if_true,wR]
 rw [rJ,hc]
theorem r9 {ρ:aa} {i:Nat} {io:Bool} {st:List PG.It} (h:ρ[i]? = some (some (.tr io (PG.wk st)))):lR i (pFd i ef "coming" jK) ρ = .ok (!st.isEmpty):=by
 unfold lR
 rw [qZ h rfl]
 cases st <;> simp [cm]
theorem zK {ρ:aa} {i:Nat} {io:Bool} {st:List PG.It} (h:ρ[i]? = some (some (.tr io (PG.wk st)))) (hl:st.length <= 100000):jB "Walk" "brackets" cg [.b i ef] ρ = .ok (.sh (.int (PG.cnt st))):=by
 have ha:jv (.b i ef) ρ = some (.bo (PG.wk st)):=by
  simp only [jv]
  rw [ue h rfl]
  rfl
 have hr:recv "Walk" "brackets" (some (.bo (PG.wk st))) = true:=by
  rw [rJ]
  simp [recv,aC]
 simp only [jB,ha,hr,if_true,pX,iX,Option.bind_some,Option.map_some,tD st hl]
theorem vd (b:Int) (it:PG.It) (st:List PG.It) (io:Bool) (x y:Option Sl) (hl:st.length + 8 <= 100000):fB [some (.tr io (PG.wk (it ::st))),some (.sh (.int b)),x,y] =
  match PG.bh it b with
  | some l=>.rt [some (.tr io (PG.wk (l ++ st))),some (.sh (.int b)),some (.sh (PG.aP it)),some (.ow (l.map PG.aP))] (.sh (.bl (decide (PG.cnt (l ++ st) <= 64))))
  | none=>if PG.loose it then .nx [some (.tr io (PG.wk st)),some (.sh (.int b)),some (.sh (PG.aP it)),some (.sh .non)] else .rt [some (.tr io (PG.wk st)),some (.sh (.int b)),some (.sh (PG.aP it)),some (.sh .non)] (.sh (.bl false)):=by
 have h1:jW 2 (kR 0 (pFd 0 ef "coming" jK)) [some (.tr io (PG.wk (it ::st))),some (.sh (.int b)),x,y] = .nx [some (.tr io (PG.wk st)),some (.sh (.int b)),some (.sh (PG.aP it)),y]:=by
  unfold jW
  rw [Dk (it:=it) (st:=st) (io:=io) rfl]
  rfl
 have hb:=yr it b
 have hlo:=zu it
 unfold fB
 simp only [i6,h1,fg]
 cases e:PG.bh it b with
 | none=>
   rw [e] at hb
   cases e2:PG.loose it <;> rw [e2] at hlo <;> simp -implicitDefEqProofs [hb,rI,b4,hlo]
 | some l=>
   rw [e] at hb
   have hll:=PG.xZ it b l e
   have h2:jY 0 (pFd 0 ef "coming" jK) (zP (au 3) (mUn tJ (mC (.int 1)))) [some (.tr io (PG.wk st)),some (.sh (.int b)),some (.sh (PG.aP it)),some (.ow (l.map PG.aP))] = .nx [some (.tr io (PG.wk (l ++ st))),some (.sh (.int b)),some (.sh (PG.aP it)),some (.ow (l.map PG.aP))]:=
    Ck (io:=io) rfl (by simp [zP]) (by omega)
   have h3:jB "Walk" "brackets" cg [.b 0 ef] [some (.tr io (PG.wk (l ++ st))),some (.sh (.int b)),some (.sh (PG.aP it)),some (.ow (l.map PG.aP))] = .ok (.sh (.int (PG.cnt (l ++ st)))):=zK (io:=io) rfl (by simp; omega)
   have h4:(decide ((PG.cnt (l ++ st):Int) <= 64)) = decide (PG.cnt (l ++ st) <= 64):=by rw [decide_eq_decide]; omega
   simp -implicitDefEqProofs [hb,rI,b4,h2,h3,h4]
theorem vA (b:Int) (io:Bool) (st:List PG.It):∀ (n:Nat) (x y:Option Sl),st.length < n -> st.length + 8 <= 100000 ->
  ∃ x' y',(d3 fA fB n [some (.tr io (PG.wk st)),some (.sh (.int b)),x,y]).andThen (bE (mC (.bl false))) = .rt [some (.tr io (PG.wk (PG.gon st b).1)),some (.sh (.int b)),x',y'] (.sh (.bl (PG.gon st b).2)):=by
 induction st with
 | nil=>
   intro n x y hn hl
   obtain ⟨m,rfl⟩:∃ m,n = m + 1:=⟨n - 1,by simp at hn; omega⟩
   refine ⟨x,y,?_⟩
   have hc:fA [some (.tr io (PG.wk [])),some (.sh (.int b)),x,y] = .ok false:=r9 (i:=0) (ρ:=[some (.tr io (PG.wk [])),some (.sh (.int b)),x,y]) (io:=io) (st:=[]) rfl
   simp [d3,hc,PG.gon]
 | cons it st ih=>
   intro n x y hn hl
   obtain ⟨m,rfl⟩:∃ m,n = m + 1:=⟨n - 1,by simp at hn; omega⟩
   have hc:fA [some (.tr io (PG.wk (it ::st))),some (.sh (.int b)),x,y] = .ok true:=r9 (i:=0) (ρ:=[some (.tr io (PG.wk (it ::st))),some (.sh (.int b)),x,y]) (io:=io) (st:=it ::st) rfl
   have ht:=vd b it st io x y (by simp at hl; omega)
   unfold PG.gon
   cases e:PG.bh it b with
   | some l=>
     rw [e] at ht
     exact ⟨some (.sh (PG.aP it)),some (.ow (l.map PG.aP)),by simp only [d3,hc,fk,if_true,ht,ur,nT]⟩
   | none=>
     rw [e] at ht
     dsimp only at ht ⊢
     cases e2:PG.loose it with
     | false=>
       rw [e2] at ht
       exact ⟨some (.sh (PG.aP it)),some (.sh .non),by simp only [d3,hc,fk,if_true,ht,ur,nT,Bool.false_eq_true,if_false]⟩
     | true=>
       rw [e2] at ht
       obtain ⟨x',y',h⟩:=ih m (some (.sh (PG.aP it))) (some (.sh .non)) (by simp at hn; omega) (by simp at hl; omega)
       exact ⟨x',y',by simp only [d3,hc,fk,if_true,ht,lM,h]⟩
theorem vE (b:Int) (st:List PG.It) (hl:st.length + 8 < 100000):dv [.tr true (PG.wk st),.sh (.int b)] = .ok (.bl (PG.gon st b).2) [some (PG.wk (PG.gon st b).1),none]:=by
 obtain ⟨x',y',h⟩:=vA b true st fuel none none (by unfold fuel; omega) (by omega)
 have e:gk [some (.tr true (PG.wk st)),some (.sh (.int b)),none,none] = _:=h
 show fnI 2 4 gk _ = _
 unfold fnI
 rw [if_pos (by rfl)]
 show tm 2 (gk [some (.tr true (PG.wk st)),some (.sh (.int b)),none,none]) = _
 rw [e]
 rfl
theorem vm (io:Bool) (rw:PV) (row:List Int):∀ (k:Nat) (st:List PG.It) (x y:Option Sl),st.length + 8 * row.length + 8 < 100000 ->
  ∃ x' y',ji 2 3 gH (mX k (row.map .int)) [some (.tr io (PG.wk st)),some (.sh rw),x,y] = if (PG.tk st row).2 = row.length then .nx [some (.tr io (PG.wk (PG.tk st row).1)),some (.sh rw),x',y'] else .rt [some (.tr io (PG.wk (PG.tk st row).1)),some (.sh rw),x',y'] (.sh (.int ((k + (PG.tk st row).2:Nat):Int))):=by
 induction row with
 | nil=>intro k st x y hl; exact ⟨x,y,by simp [mX,ji,PG.tk]⟩
 | cons b row ih=>
   intro k st x y hl
   simp only [List.length_cons] at hl
   have hg:=vE b st (by omega)
   have hlen:=PG.uo st b
   have ht:gH [some (.tr io (PG.wk st)),some (.sh rw),some (.sh (.int k)),some (.sh (.int b))] = if (PG.gon st b).2 then .nx [some (.tr io (PG.wk (PG.gon st b).1)),some (.sh rw),some (.sh (.int k)),some (.sh (.int b))] else .rt [some (.tr io (PG.wk (PG.gon st b).1)),some (.sh rw),some (.sh (.int k)),some (.sh (.int b))] (.sh (.int k)):=by
    have ha:jv (.t 0 ef) [some (.tr io (PG.wk st)),some (.sh rw),some (.sh (.int k)),some (.sh (.int b))] = some (.tr true (PG.wk st)):=by simp [jv,ef]
    have ha2:jv (.e (au 3)) [some (.tr io (PG.wk st)),some (.sh rw),some (.sh (.int k)),some (.sh (.int b))] = some (.sh (.int b)):=by simp [jv]
    have hr:recv "Walk" "goes_on" (some (.tr true (PG.wk st))) = true:=by rw [rJ]; simp [recv,aC]
    have hx:ke "Walk" "goes_on" dv [.t 0 ef,.e (au 3)] [some (.tr io (PG.wk st)),some (.sh rw),some (.sh (.int k)),some (.sh (.int b))] = .ok [some (.tr io (PG.wk (PG.gon st b).1)),some (.sh rw),some (.sh (.int k)),some (.sh (.int b))] (.sh (.bl (PG.gon st b).2)):=by
     simp only [ke,ha,hr,if_true,qG,iX,ha2,Option.bind_some,Option.map_some,hg]
     simp [eV,iL,ef]
    unfold gH zV
    rw [hx]
    cases (PG.gon st b).2 <;> simp
   unfold PG.tk
   simp only [List.map_cons,mX,ji,List.set_cons_succ,List.set_cons_zero,ht]
   cases e:(PG.gon st b).2 with
   | false=>exact ⟨some (.sh (.int k)),some (.sh (.int b)),by simp⟩
   | true=>
     obtain ⟨x',y',h⟩:=ih (k + 1) (PG.gon st b).1 (some (.sh (.int k))) (some (.sh (.int b))) (by omega)
     refine ⟨x',y',?_⟩
     simp only [if_true,lM,h,List.length_cons,Nat.add_right_cancel_iff]
     have:k + 1 + (PG.tk (PG.gon st b).1 row).2 = k + ((PG.tk (PG.gon st b).1 row).2 + 1):=by omega
     rw [this]
theorem Dd (st:List PG.It) (row:List Int) (hl:st.length + 8 * row.length + 8 < 100000):eK [.tr true (PG.wk st),.sh (.lst (row.map .int))] = .ok (.int (PG.tk st row).2) [some (PG.wk (PG.tk st row).1),none]:=by
 obtain ⟨x',y',h⟩:=vm true (.lst (row.map .int)) row 0 st none none hl
 show fnI 2 4 iw _ = _
 unfold fnI
 rw [if_pos (by rfl)]
 show tm 2 (iw [some (.tr true (PG.wk st)),some (.sh (.lst (row.map .int))),none,none]) = _
 unfold iw uC
 simp only [i6,kg,List.getElem?_cons_succ,List.getElem?_cons_zero,dX,xj,h]
 by_cases e:(PG.tk st row).2 = row.length
 . simp [e,tm,pB]
 . simp [e,tm,pB]
theorem tL (st:List PG.It) (hl:st.length <= 100000):cH [.bo (PG.wk st)] = .ok (.bl (st.all PG.loose)) [none]:=by
 have hp:m7 0 (pFd 0 ef "coming" jK) [some (.bo (PG.wk st))] = .ok (.al (cm st)):=by
  unfold m7
  rw [qZ (s:=.bo (PG.wk st)) rfl rfl]
  simp only [o6]
 have hn:st.length <= lim:=jP (by omega)
 have he:dj gu [] (cm st) = .ok ((st.reverse.map PG.loose).map .bl):=by
  rw [List.map_map]
  refine pf _ fun it _=>?_
  simp [gu,xm]
 have hb:yz (.lst ((st.reverse.map PG.loose).map .bl)) = some (.sh (.bl (st.all PG.loose))):=by
  simp only [yz,sF,Option.map_some]
  congr 3
  rw [List.all_map,List.all_reverse]
  rfl
 simp -implicitDefEqProofs only [cH,jD,fnI,jy,vX,hp,dz,List.map_nil,he,w6,rf,List.map_cons,List.length_cons,List.length_nil,List.replicate,List.append_nil,gE,rN,wq,List.length_map,List.length_reverse,hn,if_true,hb,kq,dX,AY,Nat.sub_self,tm]
 rfl
theorem Cb:cK [.tr true (.ob "Walk" [] [])] = .ok .non [some (PG.wk PG.st0)]:=by
 rfl
theorem Bs (row:List Int):∀ st,(PG.tk st row).1.length <= st.length + 8 * row.length + 8:=by
 induction row with
 | nil=>intro st; simp [PG.tk]
 | cons b row ih=>
   intro st
   have:=PG.uo st b
   have h2:=ih (PG.gon st b).1
   unfold PG.tk
   split <;> simp only [List.length_cons] <;> omega
def ofO:Option Nat -> PV
 | some k=>.int k
 | none=>.non
theorem uu (row:List Int) (hl:8 * row.length + 20 < 100000):hV [.lst (row.map .int)] = .ok (.sh (ofO (PG.flt row))):=by
 have ht:=Dd PG.st0 row (by simp [PG.st0]; omega)
 have hlen:=Bs row PG.st0
 have hw:=tL (PG.tk PG.st0 row).1 (by have:PG.st0.length = 3:=rfl; omega)
 have h0:pE "Walk" cK [some (.sh (.lst (row.map .int))),none,none] = .ok (PG.wk PG.st0):=by unfold pE; rw [Cb]
 have h1:jW 2 (ke "Walk" "take" eK [.t 1 ef,.e (au 0)]) [some (.sh (.lst (row.map .int))),some (.tr false (PG.wk PG.st0)),none] = .nx [some (.sh (.lst (row.map .int))),some (.tr false (PG.wk (PG.tk PG.st0 row).1)),some (.sh (.int (PG.tk PG.st0 row).2))]:=by
  have ha:jv (.t 1 ef) [some (.sh (.lst (row.map .int))),some (.tr false (PG.wk PG.st0)),none] = some (.tr true (PG.wk PG.st0)):=by simp [jv,ef]
  have ha2:jv (.e (au 0)) [some (.sh (.lst (row.map .int))),some (.tr false (PG.wk PG.st0)),none] = some (.sh (.lst (row.map .int))):=by simp [jv]
  have hr:recv "Walk" "take" (some (.tr true (PG.wk PG.st0))) = true:=by rw [rJ]; simp [recv,aC]
  unfold jW
  simp only [ke,ha,hr,if_true,qG,iX,ha2,Option.bind_some,Option.map_some,ht]
  simp [eV,iL,ef,nio]
 have h2:jB "Walk" "is_whole" cH [.b 1 ef] [some (.sh (.lst (row.map .int))),some (.tr false (PG.wk (PG.tk PG.st0 row).1)),some (.sh (.int (PG.tk PG.st0 row).2))] = .ok (.sh (.bl ((PG.tk PG.st0 row).1.all PG.loose))):=by
  have ha:jv (.b 1 ef) [some (.sh (.lst (row.map .int))),some (.tr false (PG.wk (PG.tk PG.st0 row).1)),some (.sh (.int (PG.tk PG.st0 row).2))] = some (.bo (PG.wk (PG.tk PG.st0 row).1)):=by
   simp only [jv]
   rw [ue (s:=.tr false (PG.wk (PG.tk PG.st0 row).1)) rfl rfl]
   rfl
  have hr:recv "Walk" "is_whole" (some (.bo (PG.wk (PG.tk PG.st0 row).1))) = true:=by rw [rJ]; simp [recv,aC]
  simp only [jB,ha,hr,if_true,pX,iX,Option.bind_some,Option.map_some,hw]
 unfold PG.flt
 have hd:mY 1 (pE "Walk" cK) [some (.sh (.lst (row.map .int))),none,none] = .nx [some (.sh (.lst (row.map .int))),some (.tr false (PG.wk PG.st0)),none]:=by
  unfold mY; rw [h0]; rfl
 simp -implicitDefEqProofs only [hV,Eb,xA,lN,List.map_cons,List.map_nil,List.length_cons,List.length_nil,List.cons_append,List.nil_append,List.replicate,i6,hd,fg,pd,h1,o7,nZ,zd,nu,rR,kg,List.getElem?_cons_succ,List.getElem?_cons_zero,rf,gE,lE,h2]
 by_cases e:(PG.tk PG.st0 row).2 = row.length
 . cases e2:(PG.tk PG.st0 row).1.all PG.loose <;> simp [e,mM,ofO]
 . have e3:¬ ((PG.tk PG.st0 row).2:Int) = (row.length:Int):=by omega
   simp [e,e3,mM,ofO]
theorem sC (row:List Int) (hl:8 * row.length + 20 < 100000):cZ [.lst (row.map .int)] = match PG.flt row with
  | some k=>.exc "Fault" [("at",.int k)]
  | none=>.ok (.sh .non):=by
 have h:=uu row hl
 cases e:PG.flt row with
 | none=>rw [e] at h; simp -implicitDefEqProofs [eY,cZ,h,ofO,b4]
 | some k=>rw [e] at h; simp -implicitDefEqProofs [eY,cZ,h,ofO,b4]
def sg (k:Bool):List Int:=if k then [123,34,97,34,58] else [91]
def clo (k:Bool):Int:=if k then 125 else 93
def mo (k:Bool):PG.It:=if k then .mfields else .mrow
def R:List Bool -> List PG.It
 | []=>[.white]
 | k ::os=>.white ::mo k ::R os
def S:List Bool -> List PG.It
 | []=>PG.st0
 | false ::os=>.white ::.row ::R os
 | true ::os=>.white ::.value ::.white ::.mfields ::R os
theorem cnt_cons (it:PG.It) (st:List PG.It):PG.cnt (it ::st) = (if PG.opn it then 1 else 0) + PG.cnt st:=by
 unfold PG.cnt
 cases e:PG.opn it <;> simp [e]
 omega
theorem lU (os:List Bool):PG.cnt (R os) = os.length:=by
 induction os with
 | nil=>rfl
 | cons k os ih=>cases k <;> simp [R,cnt_cons,PG.opn,mo,ih] <;> omega
theorem Dt {st st':List PG.It} {b:Int} {r:List Int} (h:PG.gon st b = (st',true)):PG.tk st (b ::r) = ((PG.tk st' r).1,(PG.tk st' r).2 + 1):=by
 simp [PG.tk,h]
theorem Dx {st st':List PG.It} {b:Int} {r:List Int} (h:PG.gon st b = (st',false)):PG.tk st (b ::r) = (st',0):=by
 simp [PG.tk,h]
theorem Du (st:List PG.It) (b:Int) (h:PG.wht b = false):PG.gon (.white ::st) b = PG.gon st b:=by
 simp [PG.gon,PG.bh,h,PG.loose]
theorem fh {it:PG.It} {st l:List PG.It} {b:Int} (h:PG.bh it b = some l):PG.gon (it ::st) b = (l ++ st,decide (PG.cnt (l ++ st) <= 64)):=by
 simp [PG.gon,h]
theorem eP {it:PG.It} {st:List PG.It} {b:Int} (h:PG.bh it b = none) (hl:PG.loose it = true):PG.gon (it ::st) b = PG.gon st b:=by
 simp [PG.gon,h,hl]
def op1 (k:Bool):Int:=if k then 123 else 91
def opI (k:Bool):PG.It:=if k then .fields else .row
theorem Bh (ks:List Bool) (k:Bool):PG.cnt (.white ::opI k ::R ks) = ks.length + 1:=by
 rw [cnt_cons,cnt_cons,lU]; cases k <;> simp [PG.opn,opI] <;> omega
theorem r0 (ks:List Bool) (k:Bool):PG.gon (S ks) (op1 k) = (.white ::opI k ::R ks,decide (ks.length < 64)):=by
 have hd:decide (PG.cnt (.white ::opI k ::R ks) <= 64) = decide (ks.length < 64):=by rw [Bh]; rfl
 rw [<- hd]
 match ks with
 | []=>cases k <;> rfl
 | false ::os=>
   show PG.gon (.white ::.row ::R os) _ = _
   rw [eP (by cases k <;> rfl) rfl,fh (l:=[.white,opI k,.white,.mrow]) (by cases k <;> rfl)]
   rfl
 | true ::os=>
   show PG.gon (.white ::.value ::.white ::.mfields ::R os) _ = _
   rw [eP (by cases k <;> rfl) rfl,fh (l:=[.white,opI k]) (by cases k <;> rfl)]
   rfl
theorem oP {st st':List PG.It} {b:Int} {r:List Int} (h:PG.gon st b = (st',true)):PG.tk st (b ::r) = ((PG.tk st' r).1,(PG.tk st' r).2 + 1):=by
 simp [PG.tk,h]
theorem qV {n:Nat} (h:n <= 64):decide (n <= 64) = true:=by simpa using h
theorem Dl (ks:List Bool) (k:Bool) (h:ks.length < 64) (r:List Int):PG.tk (S ks) (sg k ++ r) = ((PG.tk (S (k ::ks)) r).1,(PG.tk (S (k ::ks)) r).2 + (sg k).length):=by
 have h0:=r0 ks k
 rw [show decide (ks.length < 64) = true by simpa using h] at h0
 cases k with
 | false=>
   show PG.tk (S ks) (op1 false ::r) = _
   rw [oP h0]
   rfl
 | true=>
   show PG.tk (S ks) (op1 true ::34 ::97 ::34 ::58 ::r) = _
   have e1:PG.gon (.white ::.fields ::R ks) 34 = (.text ::.white ::.sp 58 58 ::.white ::.value ::.white ::.mfields ::R ks,true):=by
    rw [eP (by rfl) rfl,fh (l:=.text ::PG.lW) (by rfl)]
    congr 1
    refine qV ?_
    simp [PG.lW,cnt_cons,lU,PG.opn]
    omega
   have e2:PG.gon (.text ::.white ::.sp 58 58 ::.white ::.value ::.white ::.mfields ::R ks) 97 = (.text ::.white ::.sp 58 58 ::.white ::.value ::.white ::.mfields ::R ks,true):=by
    rw [fh (l:=[.text]) (by rfl)]
    congr 1
    refine qV ?_
    simp [cnt_cons,lU,PG.opn]
    omega
   have e3:PG.gon (.text ::.white ::.sp 58 58 ::.white ::.value ::.white ::.mfields ::R ks) 34 = (.white ::.sp 58 58 ::.white ::.value ::.white ::.mfields ::R ks,true):=by
    rw [fh (l:=[]) (by rfl)]
    congr 1
    refine qV ?_
    simp [cnt_cons,lU,PG.opn]
    omega
   have e4:PG.gon (.white ::.sp 58 58 ::.white ::.value ::.white ::.mfields ::R ks) 58 = (.white ::.value ::.white ::.mfields ::R ks,true):=by
    rw [eP (by rfl) rfl,fh (l:=[]) (by rfl)]
    congr 1
    refine qV ?_
    simp [cnt_cons,lU,PG.opn]
    omega
   have h0':PG.gon (S ks) (op1 true) = (.white ::.fields ::R ks,true):=h0
   rw [oP h0',oP e1,oP e2,oP e3,oP e4]
   rfl
theorem uj (ks:List Bool):∀ (os:List Bool) (r:List Int),os.length + ks.length <= 64 -> PG.tk (S os) (ks.flatMap sg ++ r) = ((PG.tk (S (ks.reverse ++ os)) r).1,(PG.tk (S (ks.reverse ++ os)) r).2 + (ks.flatMap sg).length):=by
 induction ks with
 | nil=>intro os r _; simp
 | cons k ks ih=>
   intro os r h
   simp only [List.length_cons] at h
   rw [List.flatMap_cons,List.append_assoc,Dl os k (by omega),ih (k ::os) r (by simp; omega)]
   simp only [List.reverse_cons,List.append_assoc,List.cons_append,List.nil_append,List.length_append]
   congr 1
   omega
theorem zm (os:List Bool) (k:Bool) (r:List Int) (h:os.length = 64):(PG.tk (S os) (sg k ++ r)).2 = 0:=by
 have h0:=r0 os k
 rw [show decide (os.length < 64) = false by simp [h]] at h0
 have:sg k ++ r = op1 k ::((sg k).tail ++ r):=by cases k <;> rfl
 rw [this]
 simp [PG.tk,h0]
theorem CG (k:Bool) (os:List Bool) (h:os.length <= 64) (r:List Int):PG.tk (R (k ::os)) (clo k ::r) = ((PG.tk (R os) r).1,(PG.tk (R os) r).2 + 1):=by
 refine oP ?_
 show PG.gon (.white ::mo k ::R os) _ = _
 rw [eP (by cases k <;> rfl) rfl,fh (l:=[]) (by cases k <;> rfl)]
 congr 1
 exact qV (by simp [lU,h])
theorem zh (ks:List Bool):∀ (os:List Bool) (r:List Int),ks.length + os.length <= 64 -> PG.tk (R (ks ++ os)) (ks.map clo ++ r) = ((PG.tk (R os) r).1,(PG.tk (R os) r).2 + ks.length):=by
 induction ks with
 | nil=>intro os r _; simp
 | cons k ks ih=>
   intro os r h
   simp only [List.length_cons] at h
   rw [List.map_cons,List.cons_append,List.cons_append,CG k _ (by simp; omega),ih os r (by omega)]
   simp only [List.length_cons]
   congr 1
theorem BO (k:Bool) (os:List Bool) (h:os.length < 64) (r:List Int):PG.tk (S (k ::os)) (49 ::r) = ((PG.tk (.figures ::.fraction ::.exponent ::R (k ::os)) r).1,(PG.tk (.figures ::.fraction ::.exponent ::R (k ::os)) r).2 + 1):=by
 refine oP ?_
 have hc:PG.cnt (.figures ::.fraction ::.exponent ::R (k ::os)) <= 64:=by
  rw [cnt_cons,cnt_cons,cnt_cons,lU]; simp [PG.opn]; omega
 cases k with
 | false=>
   show PG.gon (.white ::.row ::R os) _ = _
   rw [eP (by rfl) rfl,fh (l:=[.figures,.fraction,.exponent,.white,.mrow]) (by rfl)]
   congr 1
   exact qV hc
 | true=>
   show PG.gon (.white ::.value ::.white ::.mfields ::R os) _ = _
   rw [eP (by rfl) rfl,fh (l:=[.figures,.fraction,.exponent]) (by rfl)]
   congr 1
   exact qV hc
theorem Ad (k:Bool) (os:List Bool) (h:os.length <= 64) (r:List Int):PG.tk (.figures ::.fraction ::.exponent ::R (k ::os)) (clo k ::r) = ((PG.tk (R os) r).1,(PG.tk (R os) r).2 + 1):=by
 refine oP ?_
 rw [eP (by cases k <;> rfl) rfl,eP (by cases k <;> rfl) rfl,eP (by cases k <;> rfl) rfl]
 show PG.gon (.white ::mo k ::R os) _ = _
 rw [eP (by cases k <;> rfl) rfl,fh (l:=[]) (by cases k <;> rfl)]
 congr 1
 exact qV (by simp [lU,h])
theorem yw (os:List Bool) (h:os.length <= 64) (r:List Int):PG.tk (S (false ::os)) (clo false ::r) = ((PG.tk (R os) r).1,(PG.tk (R os) r).2 + 1):=by
 refine oP ?_
 show PG.gon (.white ::.row ::R os) _ = _
 rw [eP (by rfl) rfl,fh (l:=[]) (by rfl)]
 congr 1
 exact qV (by simp [lU,h])
theorem x8 (fl:Bool) (k:Bool) (os us:List Bool) (hk:k = true -> fl = true) (h:(os ++ us).length < 64):PG.tk (S (k ::(os ++ us))) ((if fl then [49] else []) ++ (k ::os).map clo) = (R us,(if fl then 1 else 0) + os.length + 1):=by
 have h1:=zh os us [] (by simp at h; omega)
 simp only [List.append_nil] at h1
 have e0:PG.tk (R us) [] = (R us,0):=rfl
 rw [e0] at h1
 cases fl with
 | true=>
   show PG.tk _ (49 ::clo k ::os.map clo) = _
   rw [BO k _ h,Ad k _ (by omega),h1]
   simp; omega
 | false=>
   have:k = false:=by cases k with | true=>exact absurd (hk rfl) (by decide) | false=>rfl
   subst this
   show PG.tk _ (clo false ::os.map clo) = _
   rw [yw _ (by omega),h1]
   simp
def rowOf (ks:List Bool) (fl wh:Bool):List Int:=ks.flatMap sg ++ ((if fl then [49] else []) ++ ((if wh then ks else ks.drop 1).reverse).map clo)
theorem yn (ks:List Bool) (fl wh:Bool) (h:64 < ks.length):PG.flt (rowOf ks fl wh) = some ((ks.take 64).flatMap sg).length:=by
 have e:ks.flatMap sg = (ks.take 64).flatMap sg ++ ((ks[64]'h) ::ks.drop 65).flatMap sg:=by
  rw [<- List.flatMap_append]
  congr 1
  rw [<- List.drop_eq_getElem_cons h,List.take_append_drop]
 have hl:(ks.take 64).length = 64:=by simp; omega
 have h1:=uj (ks.take 64) [] (sg (ks[64]'h) ++ ((ks.drop 65).flatMap sg ++ ((if fl then [49] else []) ++ ((if wh then ks else ks.drop 1).reverse).map clo))) (by simp; omega)
 have h2:=zm ((ks.take 64).reverse ++ []) (ks[64]'h) ((ks.drop 65).flatMap sg ++ ((if fl then [49] else []) ++ ((if wh then ks else ks.drop 1).reverse).map clo)) (by simp; omega)
 have e2:rowOf ks fl wh = (ks.take 64).flatMap sg ++ (sg (ks[64]'h) ++ ((ks.drop 65).flatMap sg ++ ((if fl then [49] else []) ++ ((if wh then ks else ks.drop 1).reverse).map clo))):=by
  unfold rowOf
  rw [e,List.flatMap_cons]
  simp only [List.append_assoc]
 have e3:(PG.tk PG.st0 (rowOf ks fl wh)).2 = ((ks.take 64).flatMap sg).length:=by
  rw [e2]
  show (PG.tk (S []) _).2 = _
  rw [h1]
  show (PG.tk _ _).2 + _ = _
  rw [h2]
  omega
 have hne:¬ ((ks.take 64).flatMap sg).length = (rowOf ks fl wh).length:=by
  rw [e2]
  simp only [List.length_append]
  have:0 < (sg (ks[64]'h)).length:=by cases ks[64]'h <;> decide
  omega
 unfold PG.flt
 rw [e3,if_neg (fun z=>hne z.1)]
theorem rH (ks:List Bool) (fl wh:Bool) (h:ks.length <= 64) (h2:2 <= ks.length) (hk:ks.getLast? = some true -> fl = true):PG.flt (rowOf ks fl wh) = if wh then none else some (rowOf ks fl wh).length:=by
 obtain ⟨k,os,e⟩:∃ k os,ks.reverse = k ::os:=by
  cases e:ks.reverse with
  | nil=>have:ks.length = 0:=by rw [<- List.length_reverse,e]; rfl
         omega
  | cons k os=>exact ⟨k,os,rfl⟩
 have hlen:os.length + 1 = ks.length:=by rw [<- List.length_reverse (as:=ks),e]; rfl
 have hk':k = true -> fl = true:=fun z=>hk (by
  rw [<- List.reverse_reverse ks,e,z]; simp)
 have h1:=uj ks [] ((if fl then [49] else []) ++ ((if wh then ks else ks.drop 1).reverse).map clo) (by simpa using h)
 rw [List.append_nil,e] at h1
 cases wh with
 | true=>
   have hm:=x8 fl k os [] hk' (by simp; omega)
   simp only [List.append_nil] at hm
   simp only [if_true] at h1
   rw [e,hm] at h1
   have h3:PG.tk PG.st0 (rowOf ks fl true) = (R [],(if fl then 1 else 0) + os.length + 1 + (ks.flatMap sg).length):=by
    have hrow:rowOf ks fl true = ks.flatMap sg ++ ((if fl then [49] else []) ++ (k ::os).map clo):=by unfold rowOf; rw [if_pos rfl,e]
    rw [hrow]
    exact h1
   unfold PG.flt
   rw [h3]
   have hl:(rowOf ks fl true).length = (if fl then 1 else 0) + os.length + 1 + (ks.flatMap sg).length:=by
    unfold rowOf
    cases fl <;> simp <;> omega
   rw [hl]
   simp [R,PG.loose]
 | false=>
   obtain ⟨k0,kr,e0⟩:∃ k0 kr,ks = k0 ::kr:=by
    cases ks with
    | nil=>simp at h2
    | cons k0 kr=>exact ⟨k0,kr,rfl⟩
   have hr:ks.reverse = kr.reverse ++ [k0]:=by rw [e0]; simp
   obtain ⟨os',e'⟩:∃ os',kr.reverse = k ::os' /\ os = os' ++ [k0]:=by
    rw [hr] at e
    cases e3:kr.reverse with
    | nil=>rw [e3] at e; have:=congrArg List.length e3; rw [e0] at h2; simp at this h2; rw [this] at h2; simp at h2
    | cons a b=>rw [e3] at e; simp at e; exact ⟨b,by rw [e.1],e.2.symm⟩
   have hm:=x8 fl k os' [k0] hk' (by rw [<- e'.2]; omega)
   rw [<- e'.2,<- e'.1] at hm
   have hd:(ks.drop 1).reverse = kr.reverse:=by rw [e0]; rfl
   simp only [Bool.false_eq_true,if_false] at h1
   rw [hd,hm] at h1
   have h3:PG.tk PG.st0 (rowOf ks fl false) = (R [k0],(if fl then 1 else 0) + os'.length + 1 + (ks.flatMap sg).length):=by
    have hrow:rowOf ks fl false = ks.flatMap sg ++ ((if fl then [49] else []) ++ kr.reverse.map clo):=by unfold rowOf; simp only [Bool.false_eq_true,if_false]; rw [hd]
    rw [hrow]
    exact h1
   unfold PG.flt
   rw [h3]
   have hl:(rowOf ks fl false).length = (if fl then 1 else 0) + os'.length + 1 + (ks.flatMap sg).length:=by
    unfold rowOf
    simp only [Bool.false_eq_true,if_false]
    rw [hd,e'.1]
    cases fl <;> simp <;> omega
   rw [hl]
   cases k0 <;> simp [R,PG.loose,mo]
structure Ent where
 nm:String
 at_:Int
 cl:Option (Int × Int)
def gf (e:Ent):PV:=.tup (.str (Str.ofString e.nm) ::.int e.at_ ::(match e.cl with | some (a,n)=>[.int a,.int n] | none=>[]))
abbrev unO (un:List Nat):List OV:=un.map fun i:Nat=>.sh (.int (i:Int))
abbrev NS (r:List Int) (tree:List Ent) (un:List Nat) (p:Nat) (b i:Option Sl):aa:=[some (.sh (.lst (r.map .int))),some (.ow (tree.map gf)),some (.tr false (.ol (unO un))),some (.sh (.int (p:Int))),b,i]
theorem iP {r:List Int} {p:Nat} {b:Int} (h:r[p]? = some b):atP (r.map PV.int) (p:Int) = some (.int b):=by
 rw [iz,List.getElem?_map,h]; rfl
theorem pQ {r:List Int} {tree:List Ent} {un:List Nat} {p:Nat} {b i:Option Sl} (k:Bool) (h:r[p]? = some (op1 k)) (ht:tree.length <= 1000) (hu:un.length <= 1000):
  dC (NS r tree un p b i) = .nx (NS r (tree ++ [⟨if k then "fields" else "row",p,none⟩]) (un ++ [tree.length]) (p + 1) (some (.sh (.int (op1 k)))) i):=by
 have ha:=iP h
 have h1:jT 2 ef (mD (mUn jJ (au 1))) [some (.sh (.lst (r.map .int))),some (.ow (tree.map gf)),some (.tr false (.ol (unO un))),some (.sh (.int (p:Int))),some (.sh (.int (op1 k))),i] = .nx [some (.sh (.lst (r.map .int))),some (.ow (tree.map gf)),some (.tr false (.ol (unO un ++ [.sh (.int (tree.length:Int))]))),some (.sh (.int (p:Int))),some (.sh (.int (op1 k))),i]:=by
  refine q9 (ts:=unO un) (io:=false) rfl ?_ (kZ (by simp; omega))
  simp [mD]
 have hl:tree.length < lim:=kZ (by omega)
 cases k <;> simp only [op1,if_true,Bool.false_eq_true,if_false] at ha h1 ⊢ <;>
  simp -implicitDefEqProofs [dC,ha,gIn,eC,bU,gq,h1,ux,List.lookup,hl,gf]
theorem tM {r:List Int} {tree:List Ent} {un:List Nat} {p:Nat} {b i:Option Sl} (h:r[p]? = some 58):
  dC (NS r tree un p b i) = .nx (NS r tree un (p + 1) (some (.sh (.int 58))) i):=by
 have ha:=iP h
 have hw:PG.wht 58 = false:=rfl
 simp -implicitDefEqProofs [dC,ha,gIn,eC,bU,gq,fZ,hw]
theorem sI {r:List Int} {tree:List Ent} {un:List Nat} {p j:Nat} {b i:Option Sl} {e:Ent} (k:Bool) (h:r[p]? = some (clo k)) (he:tree[j]? = some e):
  dC (NS r tree (un ++ [j]) p b i) = .nx (NS r (tree.set j ⟨e.nm,e.at_,some ((p:Int) + 1,(tree.length:Int))⟩) un (p + 1) (some (.sh (.int (clo k)))) (some (.sh (.int (j:Int))))):=by
 have ha:=iP h
 have h1:∀ x y z i,jW 5 (kR 2 ef) [x,y,some (.tr false (.ol (unO un ++ [.sh (.int (j:Int))]))),z,some (.sh (.int (clo k))),i] = .nx [x,y,some (.tr false (.ol (unO un))),z,some (.sh (.int (clo k))),some (.sh (.int (j:Int)))]:=by
  intro x y z i
  unfold jW
  rw [wU (ts:=unO un) (x:=.sh (.int (j:Int))) (io:=false) rfl]
  rfl
 have hj:j < tree.length:=(List.getElem?_eq_some_iff.mp he).1
 have hat:atP (tree.map gf) (j:Int) = some (gf e):=by rw [iz,List.getElem?_map,he]; rfl
 have hix:ixP tree.length (j:Int) = some j:=zM _ _ hj
 cases k <;> simp only [clo,if_true,Bool.false_eq_true,if_false] at ha h1 ⊢ <;>
  simp -implicitDefEqProofs [dC,ha,gIn,eC,bU,gq,h1,hat,hix,gf,List.map_set]
theorem xK:∃ n,fuel = n + 3:=⟨99997,rfl⟩
theorem sT {r:List Int} {p:Nat} (h1:r[p + 1]? = some 97) (h2:r[p + 2]? = some 34):fz [.lst (r.map .int),.int p] = .ok (.sh (.int ((p:Int) + 3))):=by
 have a1:=iP h1
 have a2:=iP h2
 have e1:(((p + 1:Nat)):Int) = (p:Int) + 1:=by omega
 have e2:(((p + 2:Nat)):Int) = (p:Int) + 1 + 1:=by omega
 rw [e1] at a1
 rw [e2] at a2
 have hc1:∀ x,gi [some (.sh (.lst (r.map .int))),x,some (.sh (.int ((p:Int) + 1)))] = .ok true:=fun x=>by simp [gi,a1]
 have hb1:∀ x,jq [some (.sh (.lst (r.map .int))),x,some (.sh (.int ((p:Int) + 1)))] = .nx [some (.sh (.lst (r.map .int))),x,some (.sh (.int ((p:Int) + 1 + 1)))]:=fun x=>by simp [jq,a1]
 have hc2:∀ x,gi [some (.sh (.lst (r.map .int))),x,some (.sh (.int ((p:Int) + 1 + 1)))] = .ok false:=fun x=>by simp [gi,a2]
 obtain ⟨n,hn⟩:=xK
 have e3:(p:Int) + 1 + 1 + 1 = (p:Int) + 3:=by omega
 simp -implicitDefEqProofs [ly,lH,jk,fz,hn,d3,hc1,hb1,hc2,e3]
theorem u6 {r:List Int} {p:Nat} (h:r[p]? = some 58):gd [.lst (r.map .int),.int p] = .ok (.sh (.bl true)):=by
 have a1:=iP h
 have hw:PG.wht 58 = false:=rfl
 have hl:p < r.length:=(List.getElem?_eq_some_iff.mp h).1
 have hc:j4 [some (.sh (.lst (r.map .int))),some (.sh (.int p))] = .ok false:=by simp [j4,a1,fZ,hw]
 obtain ⟨n,hn⟩:=xK
 simp -implicitDefEqProofs [kx,gd,hn,d3,hc,a1,hl]
theorem rQ {r:List Int} {p:Nat} (k:Bool) (h:r[p]? = some 49) (h2:r[p + 1]? = some (clo k)):eI [.lst (r.map .int),.int p] = .ok (.sh (.int ((p:Int) + 1))):=by
 have a1:=iP h
 have a2:=iP h2
 have e1:(((p + 1:Nat)):Int) = (p:Int) + 1:=by omega
 rw [e1] at a2
 have hl:p < r.length:=(List.getElem?_eq_some_iff.mp h).1
 have hl2:(p:Int) + 1 < (r.length:Int):=by have:=(List.getElem?_eq_some_iff.mp h2).1; omega
 have hw:PG.wht 49 = false:=rfl
 have hw2:PG.wht (clo k) = false:=by cases k <;> rfl
 have hc:∀ x,fO [some (.sh (.lst (r.map .int))),x,some (.sh (.int p))] = .ok true:=fun x=>by
  simp [fO,a1,fZ,hw,hl,lr,eC,bU,gq]
 have hb:∀ x,iS [some (.sh (.lst (r.map .int))),x,some (.sh (.int p))] = .nx [some (.sh (.lst (r.map .int))),x,some (.sh (.int ((p:Int) + 1)))]:=fun x=>by simp [iS]
 have hc2:∀ x,fO [some (.sh (.lst (r.map .int))),x,some (.sh (.int ((p:Int) + 1)))] = .ok false:=fun x=>by
  cases k <;> simp [fO,a2,fZ,hw2,hl2,lr,eC,bU,gq,clo] <;> rfl
 obtain ⟨n,hn⟩:=xK
 simp -implicitDefEqProofs [kO,kU,iy,eI,hn,d3,hc,hb,hc2]
theorem vH {r:List Int} {tree:List Ent} {un:List Nat} {p:Nat} {b i:Option Sl} (h:r[p]? = some 34) (h1:r[p + 1]? = some 97) (h2:r[p + 2]? = some 34) (h3:r[p + 3]? = some 58) (ht:tree.length <= 1000):
  dC (NS r tree un p b i) = .nx (NS r (tree ++ [⟨"name",p,some ((p:Int) + 3,(tree.length:Int) + 1)⟩]) un (p + 3) (some (.sh (.int 34))) i):=by
 have ha:=iP h
 have hw:PG.wht 34 = false:=rfl
 have hl:tree.length < lim:=kZ (by omega)
 have hn:=u6 h3
 have e3:((p + 3:Nat):Int) = (p:Int) + 3:=by omega
 rw [e3] at hn
 have hleaf:iN [.lst (r.map .int),.int p,.int tree.length] = .ok (.sh (gf ⟨"name",p,some ((p:Int) + 3,(tree.length:Int) + 1)⟩)):=by
  simp -implicitDefEqProofs [oq,oR,oj,oB,iN,ha,iF,List.lookup,gNe,eqS,sT h1 h2,hn,gf]
 have hlast:atP (tree.map gf ++ [gf ⟨"name",p,some ((p:Int) + 3,(tree.length:Int) + 1)⟩]) (-1) = some (gf ⟨"name",p,some ((p:Int) + 3,(tree.length:Int) + 1)⟩):=by
  unfold atP
  rw [show (tree.map gf ++ [gf ⟨"name",p,some ((p:Int) + 3,(tree.length:Int) + 1)⟩]).length = tree.length + 1 by simp,sR]
  simp
 simp -implicitDefEqProofs [dC,ha,gIn,eC,bU,gq,fZ,hw,hleaf,hl,hlast]
 simp [gf]
theorem wI {r:List Int} {tree:List Ent} {un:List Nat} {p:Nat} {b i:Option Sl} (k:Bool) (h:r[p]? = some 49) (h1:r[p + 1]? = some (clo k)) (ht:tree.length <= 1000):
  dC (NS r tree un p b i) = .nx (NS r (tree ++ [⟨"number",p,some ((p:Int) + 1,(tree.length:Int) + 1)⟩]) un (p + 1) (some (.sh (.int 49))) i):=by
 have ha:=iP h
 have hw:PG.wht 49 = false:=rfl
 have hl:tree.length < lim:=kZ (by omega)
 have hleaf:iN [.lst (r.map .int),.int p,.int tree.length] = .ok (.sh (gf ⟨"number",p,some ((p:Int) + 1,(tree.length:Int) + 1)⟩)):=by
  simp -implicitDefEqProofs [oq,oR,oj,oB,iN,ha,iF,List.lookup,gNe,eqS,aC,rQ k h h1,gf]
 have hlast:atP (tree.map gf ++ [gf ⟨"number",p,some ((p:Int) + 1,(tree.length:Int) + 1)⟩]) (-1) = some (gf ⟨"number",p,some ((p:Int) + 1,(tree.length:Int) + 1)⟩):=by
  unfold atP
  rw [show (tree.map gf ++ [gf ⟨"number",p,some ((p:Int) + 1,(tree.length:Int) + 1)⟩]).length = tree.length + 1 by simp,sR]
  simp
 simp -implicitDefEqProofs [dC,ha,gIn,eC,bU,gq,fZ,hw,hleaf,hl,hlast]
 simp [gf]
structure Inv (tree:List Ent) (un:List Nat) (ln:Bool):Prop where
 a:∀ i e,tree[i]? = some e -> e.cl = none -> i ∈ un
 b:∀ i ∈ un,i < tree.length
 c:∀ i e,tree[i]? = some e -> e.nm = "name" -> i + 1 < tree.length \/ (ln = true /\ i + 1 = tree.length)
def Done (r:List Int) (n:Nat) (s:aa):Prop:=∃ tree b i p,d3 iV dC n s = .nx (NS r tree [] p b i) /\ Inv tree [] false /\ tree.length <= 1000
theorem uW (r:List Int) (tree:List Ent) (un:List Nat) (p:Nat) (b i:Option Sl):iV (NS r tree un p b i) = .ok (decide (p < r.length)):=by
 simp [iV]
theorem ib {r:List Int} {tree:List Ent} {un:List Nat} {p n:Nat} {b i:Option Sl} {s':aa} (h:p < r.length) (ht:dC (NS r tree un p b i) = .nx s') (hd:Done r n s'):Done r (n + 1) (NS r tree un p b i):=by
 obtain ⟨tree',b',i',p',e,I,hl⟩:=hd
 refine ⟨tree',b',i',p',?_,I,hl⟩
 simp only [d3,uW,h,decide_true,fk,if_true,ht,lM,e]
theorem Inv.add {tree:List Ent} {un:List Nat} {ln:Bool} (I:Inv tree un ln) (e:Ent) (ln':Bool) (h1:e.cl = none -> tree.length ∈ un) (h2:e.nm = "name" -> ln' = true):Inv (tree ++ [e]) un ln' where
 a:=fun i e' hi hc=>by
  by_cases z:i < tree.length
  . rw [List.getElem?_append_left z] at hi; exact I.a i e' hi hc
  . have:i = tree.length:=by have:=(List.getElem?_eq_some_iff.mp hi).1; simp at this; omega
    subst this
    rw [List.getElem?_concat_length] at hi
    cases hi
    exact h1 hc
 b:=fun i hi=>by have:=I.b i hi; simp; omega
 c:=fun i e' hi hn=>by
  by_cases z:i < tree.length
  . left; simp; omega
  . have:i = tree.length:=by have:=(List.getElem?_eq_some_iff.mp hi).1; simp at this; omega
    subst this
    rw [List.getElem?_concat_length] at hi
    cases hi
    right; exact ⟨h2 hn,by simp⟩
theorem Inv.push {tree:List Ent} {un:List Nat} {ln:Bool} (I:Inv tree un ln) (e:Ent) (h2:e.nm ≠ "name"):Inv (tree ++ [e]) (un ++ [tree.length]) false where
 a:=fun i e' hi hc=>by
  by_cases z:i < tree.length
  . rw [List.getElem?_append_left z] at hi; exact List.mem_append_left _ (I.a i e' hi hc)
  . have:i = tree.length:=by have:=(List.getElem?_eq_some_iff.mp hi).1; simp at this; omega
    subst this
    simp
 b:=fun i hi=>by
  rcases List.mem_append.mp hi with z | z
  . have:=I.b i z; simp; omega
  . simp at z; subst z; simp
 c:=fun i e' hi hn=>by
  by_cases z:i < tree.length
  . left; simp; omega
  . have:i = tree.length:=by have:=(List.getElem?_eq_some_iff.mp hi).1; simp at this; omega
    subst this
    rw [List.getElem?_concat_length] at hi
    cases hi
    exact absurd hn h2
theorem Inv.Fv {tree:List Ent} {un:List Nat} {j:Nat} {e:Ent} {x:Int × Int} (I:Inv tree (un ++ [j]) false) (he:tree[j]? = some e):Inv (tree.set j ⟨e.nm,e.at_,some x⟩) un false where
 a:=fun i e' hi hc=>by
  by_cases z:i = j
  . subst z
    have hj:i < tree.length:=(List.getElem?_eq_some_iff.mp he).1
    rw [List.getElem?_set_self hj] at hi
    cases hi
    cases hc
  . rw [List.getElem?_set_ne (fun y=>z y.symm)] at hi
    rcases List.mem_append.mp (I.a i e' hi hc) with y | y
    . exact y
    . simp at y; exact absurd y z
 b:=fun i hi=>by have:=I.b i (List.mem_append_left _ hi); simpa using this
 c:=fun i e' hi hn=>by
  rw [List.length_set]
  by_cases z:i = j
  . subst z
    have hj:i < tree.length:=(List.getElem?_eq_some_iff.mp he).1
    rw [List.getElem?_set_self hj] at hi
    cases hi
    exact I.c i e he hn
  . rw [List.getElem?_set_ne (fun y=>z y.symm)] at hi
    exact I.c i e' hi hn
theorem jo {pre post:List Int} {x:Int} {r:List Int} (h:r = pre ++ x ::post):r[pre.length]? = some x:=by rw [h]; simp
theorem pC {r:List Int} (ks:List Bool):∀ (pre:List Int) (tree:List Ent) (un:List Nat) (n:Nat) (b i:Option Sl),r = pre ++ ks.map clo -> un.length = ks.length -> Inv tree un false -> tree.length <= 1000 -> r.length < n + pre.length -> Done r n (NS r tree un pre.length b i):=by
 induction ks with
 | nil=>
   intro pre tree un n b i hr hu I hl hn
   obtain rfl:un = []:=List.eq_nil_of_length_eq_zero hu
   simp at hr
   subst hr
   obtain ⟨m,rfl⟩:∃ m,n = m + 1:=⟨n - 1,by omega⟩
   exact ⟨tree,b,i,r.length,by simp [d3,uW],I,hl⟩
 | cons k ks ih=>
   intro pre tree un n b i hr hu I hl hn
   rw [List.map_cons] at hr
   have hat:=jo hr
   have hlt:pre.length < r.length:=(List.getElem?_eq_some_iff.mp hat).1
   obtain ⟨m,rfl⟩:∃ m,n = m + 1:=⟨n - 1,by omega⟩
   obtain ⟨un',j,rfl⟩:∃ un' j,un = un' ++ [j]:=by
    rcases List.eq_nil_or_concat un with z | ⟨u,j,z⟩
    . rw [z] at hu; simp at hu
    . exact ⟨u,j,by simpa using z⟩
   have hj:j < tree.length:=I.b j (by simp)
   obtain ⟨e,he⟩:∃ e,tree[j]? = some e:=⟨tree[j],by simp [hj]⟩
   refine ib hlt (sI k hat he) ?_
   have:=ih (pre ++ [clo k]) (tree.set j ⟨e.nm,e.at_,some ((pre.length:Int) + 1,(tree.length:Int))⟩) un' m (some (.sh (.int (clo k)))) (some (.sh (.int (j:Int)))) (by rw [hr]; simp) (by simp at hu; omega) (I.Fv he) (by simpa using hl) (by simp; omega)
   simpa using this
theorem xO {r:List Int} (ks:List Bool) (fl ln:Bool) (pre:List Int) (tree:List Ent) (un:List Nat) (n:Nat) (b i:Option Sl) (hr:r = pre ++ ((if fl then [49] else []) ++ ks.map clo)) (hu:un.length = ks.length) (hk:0 < ks.length) (I:Inv tree un ln) (hf:ln = true -> fl = true) (hl:tree.length <= 900) (hn:r.length < n + pre.length):Done r n (NS r tree un pre.length b i):=by
 cases fl with
 | false=>
   have:ln = false:=by cases ln with | true=>exact absurd (hf rfl) (by decide) | false=>rfl
   subst this
   exact pC ks pre tree un n b i (by simpa using hr) hu I (by omega) hn
 | true=>
   have hr':r = pre ++ 49 ::ks.map clo:=by simpa using hr
   have hat:=jo hr'
   have hlt:pre.length < r.length:=(List.getElem?_eq_some_iff.mp hat).1
   obtain ⟨m,rfl⟩:∃ m,n = m + 1:=⟨n - 1,by omega⟩
   obtain ⟨k,kr,rfl⟩:∃ k kr,ks = k ::kr:=by
    cases ks with
    | nil=>simp at hk
    | cons k kr=>exact ⟨k,kr,rfl⟩
   have h2:r[pre.length + 1]? = some (clo k):=by
    have:r = (pre ++ [49]) ++ clo k ::kr.map clo:=by rw [hr']; simp
    have:=jo this
    simpa using this
   refine ib hlt (wI k hat h2 (by omega)) ?_
   have:=pC (r:=r) (k ::kr) (pre ++ [49]) (tree ++ [⟨"number",pre.length,some ((pre.length:Int) + 1,(tree.length:Int) + 1)⟩]) un m (some (.sh (.int 49))) i (by rw [hr']; simp) hu (I.add _ false (fun z=>by cases z) (fun z=>by simp at z)) (by simp; omega) (by simp; omega)
   simpa using this
theorem vR {r:List Int} (cs:List Bool) (fl:Bool) (hc:0 < cs.length) (ks:List Bool):∀ (ln:Bool) (pre:List Int) (tree:List Ent) (un:List Nat) (n:Nat) (b i:Option Sl),r = pre ++ (ks.flatMap sg ++ ((if fl then [49] else []) ++ cs.map clo)) -> un.length + ks.length = cs.length -> Inv tree un ln -> (ks.getLast?.getD ln = true -> fl = true) -> tree.length + 2 * ks.length <= 900 -> un.length <= 500 -> ks.length <= 100 -> un.length + ks.length <= 500 -> r.length < n + pre.length -> Done r n (NS r tree un pre.length b i):=by
 induction ks with
 | nil=>
   intro ln pre tree un n b i hr hu I hf hl h5 h6 h7 hn
   exact xO cs fl ln pre tree un n b i (by simpa using hr) (by simpa using hu) hc I (by simpa using hf) (by simpa using hl) hn
 | cons k ks ih=>
   intro ln pre tree un n b i hr hu I hf hl h5 h6 h7 hn
   simp only [List.length_cons] at hu hl h6 h7
   rw [List.flatMap_cons] at hr
   have hgl:(k ::ks).getLast?.getD ln = ks.getLast?.getD k:=by
    cases ks with
    | nil=>rfl
    | cons a b=>simp [List.getLast?_cons]
   rw [hgl] at hf
   cases k with
   | false=>
     have hr':r = pre ++ 91 ::(ks.flatMap sg ++ ((if fl then [49] else []) ++ cs.map clo)):=by rw [hr]; simp [sg]
     have hat:=jo hr'
     have hlt:pre.length < r.length:=(List.getElem?_eq_some_iff.mp hat).1
     obtain ⟨m,rfl⟩:∃ m,n = m + 1:=⟨n - 1,by omega⟩
     refine ib hlt (pQ false hat (by omega) (by omega)) ?_
     have:=ih false (pre ++ [91]) (tree ++ [⟨if false = true then "fields" else "row",pre.length,none⟩]) (un ++ [tree.length]) m (some (.sh (.int (op1 false)))) i (by rw [hr']; simp) (by simp; omega) (I.push _ (by simp)) hf (by simp; omega) (by simp; omega) (by omega) (by simp; omega) (by simp; omega)
     simpa using this
   | true=>
     have hr':r = pre ++ 123 ::34 ::97 ::34 ::58 ::(ks.flatMap sg ++ ((if fl then [49] else []) ++ cs.map clo)):=by rw [hr]; simp [sg]
     have hat:=jo hr'
     have h1:r[pre.length + 1]? = some 34:=by
      have:=jo (r:=r) (pre:=pre ++ [123]) (x:=34) (post:=97 ::34 ::58 ::(ks.flatMap sg ++ ((if fl then [49] else []) ++ cs.map clo))) (by rw [hr']; simp)
      simpa using this
     have h2:r[pre.length + 1 + 1]? = some 97:=by
      have:=jo (r:=r) (pre:=pre ++ [123,34]) (x:=97) (post:=34 ::58 ::(ks.flatMap sg ++ ((if fl then [49] else []) ++ cs.map clo))) (by rw [hr']; simp)
      simpa using this
     have h3:r[pre.length + 1 + 2]? = some 34:=by
      have:=jo (r:=r) (pre:=pre ++ [123,34,97]) (x:=34) (post:=58 ::(ks.flatMap sg ++ ((if fl then [49] else []) ++ cs.map clo))) (by rw [hr']; simp)
      simpa using this
     have h4:r[pre.length + 1 + 3]? = some 58:=by
      have:=jo (r:=r) (pre:=pre ++ [123,34,97,34]) (x:=58) (post:=(ks.flatMap sg ++ ((if fl then [49] else []) ++ cs.map clo))) (by rw [hr']; simp)
      simpa using this
     have hlt:pre.length + 1 + 3 < r.length:=(List.getElem?_eq_some_iff.mp h4).1
     obtain ⟨m,rfl⟩:∃ m,n = m + 1 + 1 + 1:=⟨n - 3,by omega⟩
     refine ib (by omega) (pQ true hat (by omega) (by omega)) ?_
     refine ib (by omega) (vH h1 h2 h3 h4 (by simp; omega)) ?_
     refine ib (by omega) (tM h4) ?_
     have I1:=I.push ⟨if true = true then "fields" else "row",pre.length,none⟩ (by simp)
     have I2:=I1.add ⟨"name",((pre.length + 1:Nat):Int),some (((pre.length + 1:Nat):Int) + 3,((tree ++ [⟨if true = true then "fields" else "row",pre.length,none⟩]:List Ent).length:Int) + 1)⟩ true (fun z=>by cases z) (fun _=>rfl)
     have:=ih true (pre ++ [123,34,97,34,58]) _ _ m (some (.sh (.int 58))) i (by rw [hr']; simp) (by simp; omega) I2 hf (by simp; omega) (by simp; omega) (by omega) (by simp; omega) (by simp; omega)
     simpa using this
theorem xH {me:aa -> OE} {ρ:aa} (xs:List PV) (h:∀ x ∈ xs,∃ y,me (ρ ++ [some (.sh x)]) = .ok (.sh y)):∃ ys,dj me ρ xs = .ok ys /\ ys.length = xs.length:=by
 induction xs with
 | nil=>exact ⟨[],rfl,rfl⟩
 | cons x xs ih=>
   obtain ⟨y,hy⟩:=h x List.mem_cons_self
   obtain ⟨ys,h1,h2⟩:=ih fun z hz=>h z (List.mem_cons_of_mem _ hz)
   exact ⟨y ::ys,by simp [dj,hy,h1],by simp [h2]⟩
theorem Aa {tree:List Ent} (I:Inv tree [] false) (i:Nat) (hi:i < tree.length):∃ y,dm [.lst (tree.map gf),.int i] = .ok (.sh y):=by
 have hat:∀ j,j < tree.length -> ∃ e a n,tree[j]? = some e /\ e.cl = some (a,n) /\ atP (tree.map gf) (j:Int) = some (.tup [.str (Str.ofString e.nm),.int e.at_,.int a,.int n]):=by
  intro j hj
  have he:tree[j]? = some tree[j]:=by simp [hj]
  cases hc:tree[j].cl with
  | none=>exact absurd (I.a j _ he hc) (by simp)
  | some x=>
    obtain ⟨a,n⟩:=x
    refine ⟨_,a,n,he,hc,?_⟩
    rw [iz,List.getElem?_map,he]
    simp [gf,hc]
 obtain ⟨e,a,n,he,hc,h1⟩:=hat i hi
 by_cases hn:e.nm = "name"
 . have hi2:i + 1 < tree.length:=by
    rcases I.c i e he hn with z | ⟨z,_⟩
    . exact z
    . cases z
   obtain ⟨e2,a2,n2,he2,hc2,h2⟩:=hat (i + 1) hi2
   have e1:((i + 1:Nat):Int) = (i:Int) + 1:=by omega
   rw [e1] at h2
   exact ⟨.tup [.str (Str.ofString e.nm),.int e.at_,.int a,.int n2],by simp -implicitDefEqProofs [g8,gY,fP,dm,h1,h2,gNe,eqS,aC,hn]⟩
 . exact ⟨_,by simp -implicitDefEqProofs [g8,gY,fP,dm,h1,gNe,eqS,aC,hn]; rfl⟩
theorem sH (ks:List Bool) (fl:Bool) (h:ks.length <= 64) (h2:2 <= ks.length) (hk:ks.getLast? = some true -> fl = true) (hl:(rowOf ks fl true).length <= 1000):∃ ys,gG [.lst ((rowOf ks fl true).map .int)] = .ok (.fr ys):=by
 have hf:=rH ks fl true h h2 hk
 have hr:=sC (rowOf ks fl true) (by omega)
 rw [hf] at hr
 simp only [if_true] at hr
 have hd:=vR (r:=rowOf ks fl true) ks.reverse fl (by simp; omega) ks false [] [] [] fuel none none (by simp [rowOf]) (by simp) ⟨fun i e z=>by simp at z,fun i z=>by simp at z,fun i e z=>by simp at z⟩ (fun z=>hk (by
  cases e:ks.getLast? with
  | none=>rw [e] at z; cases z
  | some x=>rw [e] at z; simp at z; rw [z])) (by simp; omega) (by simp) (by omega) (by simp; omega) (by unfold fuel; simp; omega)
 obtain ⟨tree,b,i,p,hw,I,htl⟩:=hd
 have hw':d3 iV dC fuel [some (.sh (.lst ((rowOf ks fl true).map .int))),some (.ow []),some (.tr false (.ol [])),some (.sh (.int 0)),none,none] = .nx (NS (rowOf ks fl true) tree [] p b i):=hw
 obtain ⟨ys,hy,hyl⟩:=xH (me:=mK) (ρ:=[some (.sh (.lst (tree.map gf)))]) (gy tree.length) (fun x hx=>by
  unfold gy at hx
  obtain ⟨j,hj,rfl⟩:=List.mem_map.mp hx
  obtain ⟨y,hy⟩:=Aa I j (by simpa using hj)
  exact ⟨y,by simp -implicitDefEqProofs [mK,hy]⟩)
 refine ⟨ys,?_⟩
 have hlim:tree.length <= lim:=jP (by omega)
 have hb:-4611686018427387904 <= (tree.length:Int) /\ (tree.length:Int) < 4611686018427387904:=by omega
 simp at hyl
 generalize rowOf ks fl true = r at *
 have e5:mR (NS r tree [] p b i) = .rt [some (.sh (.lst (r.map .int))),some (.sh (.lst (tree.map gf))),some (.tr false (.ol [])),some (.sh (.int p)),b,i] (.fr ys):=by
  have hfz:jf 1 (NS r tree [] p b i) = [some (.sh (.lst (r.map .int))),some (.sh (.lst (tree.map gf))),some (.tr false (.ol [])),some (.sh (.int p)),b,i]:=rfl
  simp -implicitDefEqProofs [mR,hfz,dz,hb,hy,hyl,hlim]
 have e2:lZ [some (.sh (.lst (r.map .int))),some (.ow []),none,none,none,none] = .rt [some (.sh (.lst (r.map .int))),some (.sh (.lst (tree.map gf))),some (.tr false (.ol [])),some (.sh (.int p)),b,i] (.fr ys):=by
  have hsd:mY 2 (mD (dF aQ)) [some (.sh (.lst (r.map .int))),some (.ow []),none,none,none,none] = .nx [some (.sh (.lst (r.map .int))),some (.ow []),some (.tr false (.ol [])),none,none,none]:=by simp [mY,mD]
  simp -implicitDefEqProofs only [lZ,i6,hsd,fg,pJ,qa,vC,dX,nv,List.set_cons_succ,List.set_cons_zero,pk,hw',e5]
 simp -implicitDefEqProofs [gG,lz,hr,ph,e2]
theorem rj (r:List Int) (k:Nat) (hl:r.length <= 1000) (h:PG.flt r = some k):gG [.lst (r.map .int)] = .exc "Fault" [("at",.int k)]:=by
 have hr:=sC r (by omega)
 rw [h] at hr
 simp -implicitDefEqProofs [gG,lz,hr]
def eH (k:Bool):PV:=.int (if k then 1 else 0)
def pls:Nat -> List Bool -> List Nat
 | _,[]=>[]
 | n,k ::ks=>n ::pls (n + (sg k).length) ks
theorem Bd (ks:List Bool):∀ (n j:Nat),j < ks.length -> (pls n ks)[j]? = some (n + ((ks.take j).flatMap sg).length):=by
 induction ks with
 | nil=>intro n j h; simp at h
 | cons k ks ih=>
   intro n j h
   cases j with
   | zero=>simp [pls]
   | succ j=>
     simp only [List.length_cons] at h
     simp only [pls,List.getElem?_cons_succ,List.take_succ_cons,List.flatMap_cons,List.length_append]
     rw [ih _ j (by omega)]
     congr 1
     omega
theorem EE (ks:List Bool):∀ n,(pls n ks).length = ks.length:=by
 induction ks with
 | nil=>intro n; rfl
 | cons k ks ih=>intro n; simp [pls,ih]
abbrev plO (l:List Nat):List PV:=l.map fun n:Nat=>.int (n:Int)
theorem xQ (ks:List Bool):∀ (s d kn x:Option Sl) (y:aa) (row:List Int) (pl:List Nat),row.length + 5 * ks.length <= 1000 -> pl.length + ks.length <= 1000 -> ∃ x',ip 5 nC (ks.map eH) (s ::d ::kn ::some (.ow (row.map .int)) ::some (.ow (plO pl)) ::x ::y) = .nx (s ::d ::kn ::some (.ow ((row ++ ks.flatMap sg).map .int)) ::some (.ow (plO (pl ++ pls row.length ks))) ::x' ::y):=by
 induction ks with
 | nil=>intro s d kn x y row pl _ _; exact ⟨x,by simp [pls]⟩
 | cons k ks ih=>
   intro s d kn x y row pl h1 h2
   simp only [List.length_cons] at h1 h2
   have hsl:(sg k).length <= 5:=by cases k <;> decide
   obtain ⟨x',h⟩:=ih s d kn (some (.sh (eH k))) y (row ++ sg k) (pl ++ [row.length]) (by simp; omega) (by simp; omega)
   refine ⟨x',?_⟩
   have hl:pl.length < lim:=kZ (by omega)
   have hc:∀ m,m <= 10 -> row.length + m <= lim:=fun m hm=>jP (by omega)
   have ht:nC (s ::d ::kn ::some (.ow (row.map .int)) ::some (.ow (plO pl)) ::some (.sh (eH k)) ::y) = .nx (s ::d ::kn ::some (.ow ((row ++ sg k).map .int)) ::some (.ow (plO (pl ++ [row.length]))) ::some (.sh (eH k)) ::y):=by
    cases k <;> simp -implicitDefEqProofs [nC,eH,sg,hl,hc]
   rw [List.map_cons,kY]
   simp only [List.set_cons_succ,List.set_cons_zero,ht,lM,h,List.flatMap_cons,pls,List.length_append]
   simp
theorem xh (ks:List Bool):∀ (s d kn pl x:Option Sl) (y:aa) (row:List Int),row.length + ks.length <= 1000 -> ∃ x',ip 5 nF (ks.map eH) (s ::d ::kn ::some (.ow (row.map .int)) ::pl ::x ::y) = .nx (s ::d ::kn ::some (.ow ((row ++ ks.map clo).map .int)) ::pl ::x' ::y):=by
 induction ks with
 | nil=>intro s d kn pl x y row _; exact ⟨x,by simp⟩
 | cons k ks ih=>
   intro s d kn pl x y row h1
   simp only [List.length_cons] at h1
   obtain ⟨x',h⟩:=ih s d kn pl (some (.sh (eH k))) y (row ++ [clo k]) (by simp; omega)
   refine ⟨x',?_⟩
   have hl:row.length < lim:=kZ (by omega)
   have ht:nF (s ::d ::kn ::some (.ow (row.map .int)) ::pl ::some (.sh (eH k)) ::y) = .nx (s ::d ::kn ::some (.ow ((row ++ [clo k]).map .int)) ::pl ::some (.sh (eH k)) ::y):=by
    cases k <;> simp -implicitDefEqProofs [nF,eH,clo,hl]
   rw [List.map_cons,kY]
   simp only [List.set_cons_succ,List.set_cons_zero,ht,lM,h]
   simp
theorem rV (n:Int):d9 [.int n] = .ok (.sh (.bl true)):=by
 simp -implicitDefEqProofs [gO,d9]
def oS (ks:List Bool) (fl wh:Bool):Option Nat:=if 64 < ks.length then some ((ks.take 64).flatMap sg).length else if wh then none else some (rowOf ks fl wh).length
theorem xg (ks:List Bool):(ks.flatMap sg).length <= 5 * ks.length:=by
 induction ks with
 | nil=>simp
 | cons k ks ih=>have:(sg k).length <= 5:=by cases k <;> decide
                 simp only [List.flatMap_cons,List.length_append,List.length_cons]; omega
theorem Ai (ks:List Bool) (fl wh:Bool) (h:ks.length <= 68):(rowOf ks fl wh).length <= 500:=by
 have:=xg ks
 unfold rowOf
 simp only [List.length_append,List.length_map,List.length_reverse]
 cases fl <;> cases wh <;> simp only [if_true,Bool.false_eq_true,if_false,List.length_drop,List.length_cons,List.length_nil] <;> omega
theorem yN (ks:List Bool) (fl wh:Bool) (h2:2 <= ks.length) (hk:ks.getLast? = some true -> fl = true):PG.flt (rowOf ks fl wh) = oS ks fl wh:=by
 unfold oS
 by_cases h:64 < ks.length
 . rw [if_pos h]; exact yn ks fl wh h
 . rw [if_neg h]; exact rH ks fl wh (by omega) h2 hk
theorem zw (ks:List Bool) (fl wh:Bool) (h2:60 <= ks.length) (h3:ks.length <= 68) (hk:ks.getLast? = some true -> fl = true) (s d kn pl x w f:Option Sl):fin (lV [s,d,kn,some (.ow ((rowOf ks fl wh).map .int)),pl,x,f,w,some (.sh (ofO (oS ks fl wh))),none,none,none]) = .ok (.sh (.bl true)):=by
 have hrl:=Ai ks fl wh h3
 have hfl:=yN ks fl wh (by omega) hk
 have hft:=uu (rowOf ks fl wh) (by omega)
 rw [hfl] at hft
 cases e:oS ks fl wh with
 | some k=>
   rw [e] at hft hfl
   have hex:=rj _ k (by omega) hfl
   generalize rowOf ks fl wh = r at *
   simp -implicitDefEqProofs [lV,jf,hft,n8,oe,hex,iA,n4,rm,ofO,b4,rV,Cf,rP]
 | none=>
   rw [e] at hft
   have hwh:wh = true:=by
    unfold oS at e
    split at e
    . cases e
    . cases wh with
      | true=>rfl
      | false=>simp at e
   subst hwh
   have hle:ks.length <= 64:=by
    unfold oS at e
    split at e
    . cases e
    . omega
   obtain ⟨ys,hn⟩:=sH ks fl hle (by omega) hk (by omega)
   generalize rowOf ks fl true = r at *
   simp -implicitDefEqProofs [lV,jf,hft,n8,oe,hn,n4,ofO,b4]
theorem DW (ns:List Int) (_:ns.length <= 63):n6 [.lst (ns.map .int)] = .ok (.sh (.bl true)):=by
 have hm:=PG.CM ns 0
 obtain ⟨D,hD⟩:∃ D:Nat,60 + PG.mix ns 0 % 9 = (D:Int):=⟨(60 + PG.mix ns 0 % 9).toNat,by omega⟩
 have hD1:60 <= D /\ D <= 68:=by omega
 let kb:Nat -> Bool:=fun j=>decide (PG.mix ns 1 / (1 + (j:Int) % 9) / 7 % 2 = 1)
 obtain ⟨ks,hks⟩:∃ ks:List Bool,ks = (List.range D).map kb:=⟨_,rfl⟩
 have hlen:ks.length = D:=by rw [hks]; simp
 have hel:dj qt [some (.sh (.lst (ns.map .int)))] (gy D) = .ok (ks.map eH):=by
  rw [hks,List.map_map]
  unfold gy
  refine pf _ fun j _=>?_
  have hj:(0:Int) < 1 + (j:Int) % 9:=by omega
  have hj2:1 + (j:Int) % 9 < 1073741824:=by omega
  have hv:PG.mix ns 1 / (1 + (j:Int) % 9) / 7 % 2 = if kb j then 1 else 0:=by
   have:PG.mix ns 1 / (1 + (j:Int) % 9) / 7 % 2 = 0 \/ PG.mix ns 1 / (1 + (j:Int) % 9) / 7 % 2 = 1:=by omega
   rcases this with h | h <;> simp [kb,h]
  simp -implicitDefEqProofs [qt,kv,hj,hj2,eH]
  try (rw [hv]; done)
  try (rw [hv]; cases kb j <;> rfl)
 have hb:-4611686018427387904 <= (D:Int) /\ (D:Int) < 4611686018427387904:=by omega
 have hDl:D <= lim:=jP (by omega)
 clear_value kb
 obtain ⟨x1,h1⟩:=xQ ks (some (.sh (.lst (ns.map .int)))) (some (.sh (.int D))) (some (.sh (.lst (ks.map eH)))) none [none,none,none,none,none,none] [] [] (by simp; omega) (by simp; omega)
 simp only [List.map_nil,List.nil_append,plO,List.length_nil] at h1
 obtain ⟨kl,hkl⟩:∃ kl,ks.getLast? = some kl:=by
  cases e:ks.getLast? with
  | none=>rw [List.getLast?_eq_none_iff] at e; rw [e] at hlen; simp at hlen; omega
  | some k=>exact ⟨k,rfl⟩
 have hat:atP (ks.map eH) (-1) = some (eH kl):=by
  obtain ⟨m,hm⟩:∃ m,ks.length = m + 1:=⟨ks.length - 1,by omega⟩
  unfold atP
  rw [List.length_map,hm,sR]
  simp only [Option.bind_some,List.getElem?_map]
  rw [List.getLast?_eq_getElem?,hm] at hkl
  simp at hkl
  rw [hkl]
  rfl
 obtain ⟨fl,hfl⟩:∃ fl:Bool,fl = (kl || decide (PG.mix ns 2 % 2 = 0)):=⟨_,rfl⟩
 have hk:ks.getLast? = some true -> fl = true:=fun z=>by rw [hkl] at z; injection z with z; subst z; simp [hfl]
 obtain ⟨wh,hwh⟩:∃ wh:Bool,wh = decide (0 < PG.mix ns 3 % 3):=⟨_,rfl⟩
 have hsg:=xg ks
 obtain ⟨x2,h2⟩:=xh (if wh then ks else ks.drop 1).reverse (some (.sh (.lst (ns.map .int)))) (some (.sh (.int D))) (some (.sh (.lst (ks.map eH)))) (some (.ow (plO (pls 0 ks)))) x1 [some (.sh (.bl fl)),some (.sh (.bl wh)),none,none,none,none] (ks.flatMap sg ++ (if fl then [49] else [])) (by cases fl <;> cases wh <;> simp only [if_true,Bool.false_eq_true,if_false,List.length_append,List.length_cons,List.length_nil,List.length_reverse,List.length_drop] <;> omega)
 have hrow:ks.flatMap sg ++ (if fl then [49] else []) ++ (if wh then ks else ks.drop 1).reverse.map clo = rowOf ks fl wh:=by unfold rowOf; simp
 rw [hrow] at h2
 have hend:=zw ks fl wh (by omega) (by omega) hk (some (.sh (.lst (ns.map .int)))) (some (.sh (.int D))) (some (.sh (.lst (ks.map eH)))) (some (.ow (plO (pls 0 ks)))) x2 (some (.sh (.bl wh))) (some (.sh (.bl fl)))
 have e9:fin (lP [some (.sh (.lst (ns.map .int))),some (.sh (.int D)),some (.sh (.lst (ks.map eH))),some (.ow ((rowOf ks fl wh).map .int)),some (.ow (plO (pls 0 ks))),x2,some (.sh (.bl fl)),some (.sh (.bl wh)),none,none,none,none]) = .ok (.sh (.bl true)):=by
  unfold oS at hend
  by_cases h64:64 < D
  . have hp:atP (plO (pls 0 ks)) 64 = some (.int ((ks.take 64).flatMap sg).length):=by
     rw [show (64:Int) = ((64:Nat):Int) from rfl,iz,List.getElem?_map,Bd ks 0 64 (by omega)]
     simp
    rw [hlen,if_pos h64] at hend
    have h64':(64:Int) < (D:Int):=by omega
    simp -implicitDefEqProofs only [lP,lD,i6,qa,vC,dX,nv,List.set_cons_succ,List.set_cons_zero,fg,nZ,nu,rR,kg,List.getElem?_cons_succ,List.getElem?_cons_zero,gE,i8,rq,rN,wm,kq,fk,h64',decide_true,if_true,B7,hp,Option.map_some]
    exact hend
  . rw [hlen,if_neg h64] at hend
    have h64':¬ (64:Int) < (D:Int):=by omega
    cases wh with
    | true=>
      simp -implicitDefEqProofs only [lP,lD,i6,qa,vC,dX,nv,List.set_cons_succ,List.set_cons_zero,fg,nZ,nu,rR,kg,List.getElem?_cons_succ,List.getElem?_cons_zero,gE,i8,rq,rN,wm,kq,fk,h64',decide_false,Bool.false_eq_true,if_false,uG,lE,tZ,qN,oO,Bool.not_true,zf]
      exact hend
    | false=>
      simp -implicitDefEqProofs only [lP,lD,i6,qa,vC,dX,nv,List.set_cons_succ,List.set_cons_zero,fg,nZ,nu,rR,kg,List.getElem?_cons_succ,List.getElem?_cons_zero,gE,i8,rq,rN,wm,kq,fk,h64',decide_false,Bool.false_eq_true,if_false,uG,lE,tZ,qN,oO,Bool.not_false,if_true,rf,wx,List.length_map]
      exact hend
 have hcut:wC (ks.map eH) (some (1 - (if wh = true then 1 else 0))) none = (if wh then ks else ks.drop 1).map eH:=by
  cases wh with
  | true=>
    simp only [if_true]
    show ((ks.map eH).drop 0).take ((ks.map eH).length - 0) = _
    rw [List.drop_zero,List.take_of_length_le (by simp)]
  | false=>
    simp only [Bool.false_eq_true,if_false]
    show ((ks.map eH).drop (min 1 (ks.map eH).length)).take ((ks.map eH).length - (min 1 (ks.map eH).length)) = _
    rw [List.length_map,show min 1 ks.length = 1 by omega,List.take_of_length_le (by simp),List.map_drop]
 have hrev:((if wh then ks else ks.drop 1).map eH).reverse = (if wh then ks else ks.drop 1).reverse.map eH:=by rw [List.map_reverse]
 have e8:fin (qR [some (.sh (.lst (ns.map .int))),some (.sh (.int D)),some (.sh (.lst (ks.map eH))),some (.ow ((ks.flatMap sg ++ (if fl then [49] else [])).map .int)),some (.ow (plO (pls 0 ks))),x1,some (.sh (.bl fl)),some (.sh (.bl wh)),none,none,none,none]) = .ok (.sh (.bl true)):=by
  simp -implicitDefEqProofs only [qR,i6,qA,C5,kg,List.getElem?_cons_succ,List.getElem?_cons_zero,gE,zS,rR,vC,rf,rq,yX,kq,CN,zC,yL,CO,hcut,dX,zy,hrev,h2,fg]
  exact e9
 have hrl:(ks.flatMap sg).length < lim:=kZ (by omega)
 have e4:fin (pV [some (.sh (.lst (ns.map .int))),some (.sh (.int D)),some (.ow (ks.map eH)),some (.ow []),some (.ow []),none,none,none,none,none,none,none]) = .ok (.sh (.bl true)):=by
  have hfz:jf 2 [some (.sh (.lst (ns.map .int))),some (.sh (.int D)),some (.ow (ks.map eH)),some (.ow []),some (.ow []),none,none,none,none,none,none,none] = [some (.sh (.lst (ns.map .int))),some (.sh (.int D)),some (.sh (.lst (ks.map eH))),some (.ow []),some (.ow []),none,none,none,none,none,none,none]:=rfl
  have h7:eW 6 (zF (mOp gEq (mOp ir (au 2) (mUn tJ (mC (.int 1)))) (mC (.int 1))) (mOp gEq (mOp my (b2 dO (ai (au 0) (ai (mC (.int 2)) aQ))) (mC (.int 2))) (mC (.int 0)))) [some (.sh (.lst (ns.map .int))),some (.sh (.int D)),some (.sh (.lst (ks.map eH))),some (.ow ((ks.flatMap sg).map .int)),some (.ow (plO (pls 0 ks))),x1,none,none,none,none,none,none] = .nx [some (.sh (.lst (ns.map .int))),some (.sh (.int D)),some (.sh (.lst (ks.map eH))),some (.ow ((ks.flatMap sg).map .int)),some (.ow (plO (pls 0 ks))),x1,some (.sh (.bl fl)),none,none,none,none,none]:=by
   subst hfl
   cases kl <;> simp -implicitDefEqProofs [hat,eH,kv]
  have h8:cE (fK (au 6)) (hU 3 (mC (.int 49))) bB [some (.sh (.lst (ns.map .int))),some (.sh (.int D)),some (.sh (.lst (ks.map eH))),some (.ow ((ks.flatMap sg).map .int)),some (.ow (plO (pls 0 ks))),x1,some (.sh (.bl fl)),none,none,none,none,none] = .nx [some (.sh (.lst (ns.map .int))),some (.sh (.int D)),some (.sh (.lst (ks.map eH))),some (.ow ((ks.flatMap sg ++ (if fl then [49] else [])).map .int)),some (.ow (plO (pls 0 ks))),x1,some (.sh (.bl fl)),none,none,none,none,none]:=by
   cases fl
   . simp -implicitDefEqProofs
   . simp -implicitDefEqProofs only [nZ,lE,kg,List.getElem?_cons_succ,List.getElem?_cons_zero,i8,rq,tZ,qN,fk,if_true,vp,vC,dX,yP,List.length_map,hrl,List.set_cons_succ,List.set_cons_zero,List.map_append,List.map_cons,List.map_nil]
  have h9:eW 7 (mOp gGt (mOp my (b2 dO (ai (au 0) (ai (mC (.int 3)) aQ))) (mC (.int 3))) (mC (.int 0))) [some (.sh (.lst (ns.map .int))),some (.sh (.int D)),some (.sh (.lst (ks.map eH))),some (.ow ((ks.flatMap sg ++ (if fl then [49] else [])).map .int)),some (.ow (plO (pls 0 ks))),x1,some (.sh (.bl fl)),none,none,none,none,none] = .nx [some (.sh (.lst (ns.map .int))),some (.sh (.int D)),some (.sh (.lst (ks.map eH))),some (.ow ((ks.flatMap sg ++ (if fl then [49] else [])).map .int)),some (.ow (plO (pls 0 ks))),x1,some (.sh (.bl fl)),some (.sh (.bl wh)),none,none,none,none]:=by
   subst hwh
   simp -implicitDefEqProofs [kv]
  simp only [pV,i6,vw,hfz,zc,kg,List.getElem?_cons_succ,List.getElem?_cons_zero,dX,xj,h1,fg,um,h7,uI,h8,u5,h9]
  exact e8
 have e3:fin (p0 [some (.sh (.lst (ns.map .int))),some (.sh (.int D)),some (.ow (ks.map eH)),some (.ow []),none,none,none,none,none,none,none,none]) = .ok (.sh (.bl true)):=by
  simp -implicitDefEqProofs [p0,e4]
 have e2:fin (qD [some (.sh (.lst (ns.map .int))),some (.sh (.int D)),some (.ow (ks.map eH)),none,none,none,none,none,none,none,none,none]) = .ok (.sh (.bl true)):=by
  simp -implicitDefEqProofs [qD,e3]
 have e1:fin (qw [some (.sh (.lst (ns.map .int))),some (.sh (.int D)),none,none,none,none,none,none,none,none,none,none]) = .ok (.sh (.bl true)):=by
  simp -implicitDefEqProofs [qw,hb,dz,hel,hlen,hDl,e2]
 simp -implicitDefEqProofs [n6,wQ,kv,hD,e1]
end L2.plainglass_k08_brackets_deep
namespace L2.plainglass_k08_brackets_deep
open PySem PySem.Spec PyProof.Rows L2.E L2.P
def top (i:Nat):Stmt:=PySem.Challenge.pw_plainglass_k08_brackets_deep.main.body.getD i (.Pass ⟨0,0,0,0⟩)
abbrev jb:Stmt:=top 6
theorem ya:aW ["byte"] ["byte"] (ao jb):=⟨rfl,rfl,rfl,by decide +kernel,rfl,by decide +kernel,by decide +kernel⟩
abbrev da:Stmt:=top 7
theorem lq:aW ["byte"] ["byte"] (ao da):=⟨rfl,rfl,rfl,by decide +kernel,rfl,by decide +kernel,by decide +kernel⟩
abbrev dh:Stmt:=top 8
theorem lS:aW ["byte"] ["byte"] (ao dh):=⟨rfl,rfl,rfl,by decide +kernel,rfl,by decide +kernel,by decide +kernel⟩
abbrev fX:Stmt:=top 30
theorem rb:aW ["byte"] ["byte"] (ao fX):=⟨rfl,rfl,rfl,by decide +kernel,rfl,by decide +kernel,by decide +kernel⟩
abbrev fw:Stmt:=top 31
theorem qq:aW ["byte"] ["byte"] (ao fw):=⟨rfl,rfl,rfl,by decide +kernel,rfl,by decide +kernel,by decide +kernel⟩
abbrev fo:Stmt:=top 32
theorem qi:aW ["byte"] ["byte"] (ao fo):=⟨rfl,rfl,rfl,by decide +kernel,rfl,by decide +kernel,by decide +kernel⟩
abbrev fq:Stmt:=top 33
theorem qC:aW ["byte"] ["byte"] (ao fq):=⟨rfl,rfl,rfl,by decide +kernel,rfl,by decide +kernel,by decide +kernel⟩
abbrev dZ:Stmt:=top 34
theorem nj:aW ["byte"] ["byte"] (ao dZ):=⟨rfl,rfl,rfl,by decide +kernel,rfl,by decide +kernel,by decide +kernel⟩
abbrev ik:Stmt:=top 40
theorem vz:aW ["item","byte"] ["item","byte"] (ao ik):=⟨rfl,rfl,rfl,by decide +kernel,rfl,by decide +kernel,by decide +kernel⟩
abbrev dW:Stmt:=top 41
theorem jF:aW ["byte","rest"] ["byte"] (ao dW):=⟨rfl,rfl,rfl,by decide +kernel,rfl,by decide +kernel,by decide +kernel⟩
abbrev eA:Stmt:=top 42
theorem nK:aW ["byte"] ["byte"] (ao eA):=⟨rfl,rfl,rfl,by decide +kernel,rfl,by decide +kernel,by decide +kernel⟩
abbrev cR:Stmt:=top 43
theorem kI:aW ["item","byte"] ["item","byte"] (ao cR):=⟨rfl,rfl,rfl,by decide +kernel,rfl,by decide +kernel,by decide +kernel⟩
abbrev dg:Stmt:=top 44
theorem iD:aW ["item","byte","worth"] ["item","byte"] (ao dg):=⟨rfl,rfl,rfl,by decide +kernel,rfl,by decide +kernel,by decide +kernel⟩
abbrev cT:Stmt:=top 45
theorem g9:aW ["byte","spans"] ["byte"] (ao cT):=⟨rfl,rfl,rfl,by decide +kernel,rfl,by decide +kernel,by decide +kernel⟩
abbrev cU:Stmt:=top 46
theorem kJ:aW ["byte"] ["byte"] (ao cU):=⟨rfl,rfl,rfl,by decide +kernel,rfl,by decide +kernel,by decide +kernel⟩
abbrev dG:Stmt:=top 47
theorem iY:aW ["worth","second"] ["worth"] (ao dG):=⟨rfl,rfl,rfl,by decide +kernel,rfl,by decide +kernel,by decide +kernel⟩
abbrev eL:Stmt:=top 48
theorem kW:aW ["item","byte","worth"] ["item","byte"] (ao eL):=⟨rfl,rfl,rfl,by decide +kernel,rfl,by decide +kernel,by decide +kernel⟩
abbrev cf:Stmt:=top 49
theorem jO:aW ["item","byte"] ["item","byte"] (ao cf):=⟨rfl,rfl,rfl,by decide +kernel,rfl,by decide +kernel,by decide +kernel⟩
abbrev cS:Stmt:=top 50
theorem hJ:aW ["byte","items"] ["byte"] (ao cS):=⟨rfl,rfl,rfl,by decide +kernel,rfl,by decide +kernel,by decide +kernel⟩
abbrev b3:Stmt:=top 51
theorem i7:aW ["byte"] ["byte"] (ao b3):=⟨rfl,rfl,rfl,by decide +kernel,rfl,by decide +kernel,by decide +kernel⟩
abbrev eB:Stmt:=top 52
theorem oz:aW [] [] (ao eB):=⟨rfl,rfl,rfl,by decide +kernel,rfl,by decide +kernel,by decide +kernel⟩
abbrev jl:Stmt:=top 54
theorem om:aW ["row","walk","at"] ["row"] (ao jl):=⟨rfl,rfl,rfl,by decide +kernel,rfl,by decide +kernel,by decide +kernel⟩
abbrev dU:Stmt:=top 55
theorem jH:aW ["row","at"] ["row"] (ao dU):=⟨rfl,rfl,rfl,by decide +kernel,rfl,by decide +kernel,by decide +kernel⟩
abbrev jj:Stmt:=top 58
theorem fN:aW ["row","tree","unended","at","byte","i"] ["row"] (ao jj):=⟨rfl,rfl,rfl,by decide +kernel,rfl,by decide +kernel,by decide +kernel⟩
abbrev lg:Stmt:=top 59
theorem qO:aW ["row","at","i","kind","end"] ["row","at","i"] (ao lg):=⟨rfl,rfl,rfl,by decide +kernel,rfl,by decide +kernel,by decide +kernel⟩
abbrev ft:Stmt:=top 60
theorem js:aW ["row","at","end"] ["row","at"] (ao ft):=⟨rfl,rfl,rfl,by decide +kernel,rfl,by decide +kernel,by decide +kernel⟩
abbrev fV:Stmt:=top 61
theorem ki:aW ["row","at","end"] ["row","at"] (ao fV):=⟨rfl,rfl,rfl,by decide +kernel,rfl,by decide +kernel,by decide +kernel⟩
abbrev gF:Stmt:=top 62
theorem oo:aW ["row","end"] ["row","end"] (ao gF):=⟨rfl,rfl,rfl,by decide +kernel,rfl,by decide +kernel,by decide +kernel⟩
abbrev er:Stmt:=top 63
theorem km:aW ["tree","i","node"] ["tree","i"] (ao er):=⟨rfl,rfl,rfl,by decide +kernel,rfl,by decide +kernel,by decide +kernel⟩
abbrev fT:Stmt:=top 65
theorem sG:aW ["_law_script","_law_k"] ["_law_script","_law_k"] (ao fT):=⟨rfl,rfl,rfl,by decide +kernel,rfl,by decide +kernel,by decide +kernel⟩
abbrev gC:Stmt:=top 66
theorem lh:aW ["_law_script","_law_k","_law_number"] ["_law_script","_law_k"] (ao gC):=⟨rfl,rfl,rfl,by decide +kernel,rfl,by decide +kernel,by decide +kernel⟩
abbrev fe:Stmt:=top 67
theorem qX:aW ["_law_found"] ["_law_found"] (ao fe):=⟨rfl,rfl,rfl,by decide +kernel,rfl,by decide +kernel,by decide +kernel⟩
abbrev nJ:Stmt:=top 69
theorem fi:aW ["_law_script","_law_deep","_law_kinds","_law_row","_law_places","_law_kind","_law_filled","_law_whole_here","_law_due","_law_found","_law_wrong","e"] ["_law_script"] (ao nJ):=⟨rfl,rfl,rfl,by decide +kernel,rfl,by decide +kernel,by decide +kernel⟩
abbrev dE:Stmt:=inClass (top 39) 0
theorem mx:aW ["self"] ["self"] (ao dE):=⟨rfl,rfl,rfl,by decide +kernel,rfl,by decide +kernel,by decide +kernel⟩
abbrev fb:Stmt:=inClass (top 39) 1
theorem ja:aW ["self","row","at","byte"] ["self","row"] (ao fb):=⟨rfl,rfl,rfl,by decide +kernel,rfl,by decide +kernel,by decide +kernel⟩
abbrev dY:Stmt:=inClass (top 39) 2
theorem gV:aW ["self","byte","item","items"] ["self","byte"] (ao dY):=⟨rfl,rfl,rfl,by decide +kernel,rfl,by decide +kernel,by decide +kernel⟩
abbrev dH:Stmt:=inClass (top 39) 3
theorem mj:aW ["self"] ["self"] (ao dH):=⟨rfl,rfl,rfl,by decide +kernel,rfl,by decide +kernel,by decide +kernel⟩
abbrev dD:Stmt:=inClass (top 39) 5
theorem mH:aW ["self"] ["self"] (ao dD):=⟨rfl,rfl,rfl,by decide +kernel,rfl,by decide +kernel,by decide +kernel⟩
abbrev eM:Stmt:=inClass (top 3) 0
theorem oY:aW ["self","at"] ["self","at"] (ao eM):=⟨rfl,rfl,rfl,by decide +kernel,rfl,by decide +kernel,by decide +kernel⟩
set_option genInjectivity false in
set_option genSizeOf false in
structure Adr where
 fS:Addr
 d_tails:FuncData
 b5:Addr
 d_second_of_three:FuncData
 cu:Addr
 d_second_of_four:FuncData
 dP:Addr
 d_is_white:FuncData
 dN:Addr
 d_is_figure:FuncData
 d5:Addr
 d_hex_worth:FuncData
 dM:Addr
 d_word_rest:FuncData
 bf:Addr
 d_short_escape:FuncData
 bS:Addr
 d_behind:FuncData
 bc:Addr
 d_behind_value:FuncData
 cY:Addr
 d_behind_lead:FuncData
 aM:Addr
 d_behind_in_number:FuncData
 bt:Addr
 d_behind_in_text:FuncData
 bA:Addr
 d_behind_character:FuncData
 bY:Addr
 d_behind_backslash:FuncData
 cJ:Addr
 d_behind_code_d:FuncData
 dc:Addr
 d_behind_hex:FuncData
 aR:Addr
 d_behind_in_brackets:FuncData
 bM:Addr
 d_behind_row_begin:FuncData
 bD:Addr
 d_behind_fields_begin:FuncData
 dn:Addr
 d_member_rest:FuncData
 hV:Addr
 d_fault:FuncData
 cZ:Addr
 d_refuse_fault:FuncData
 gG:Addr
 d_nodes:FuncData
 iN:Addr
 d_leaf:FuncData
 eI:Addr
 d_plain_end:FuncData
 fz:Addr
 d_text_end:FuncData
 gd:Addr
 d_is_name:FuncData
 dm:Addr
 d_with_member:FuncData
 fj:Addr
 d_law_cell:FuncData
 dO:Addr
 d_law_mix:FuncData
 d9:Addr
 d_law_whole:FuncData
 n6:Addr
 d_law:FuncData
 cK:Addr
 d_Walk___init__:FuncData
 eK:Addr
 d_Walk_take:FuncData
 dv:Addr
 d_Walk_goes_on:FuncData
 cg:Addr
 d_Walk_brackets:FuncData
 cH:Addr
 d_Walk_is_whole:FuncData
 C_GlassError:Addr
 C_Fault:Addr
 f_Fault_init:Addr
 d_Fault_init:FuncData
 C_Walk:Addr
 v_TAIL:Addr
 v_BLANK:Value
 v_QUOTE:Value
 v_PLUS:Value
 v_COMMA:Value
 v_MINUS:Value
 v_POINT:Value
 v_NOUGHT:Value
 v_NINE:Value
 v_COLON:Value
 v_BIG_E:Value
 v_ROW_BEGIN:Value
 v_BACKSLASH:Value
 v_ROW_END:Value
 v_SMALL_E:Value
 v_SMALL_U:Value
 v_FIELDS_BEGIN:Value
 v_FIELDS_END:Value
 v_WHITE:Addr
 v_WORDS:Addr
 v_SHORT_ESCAPES:Addr
 v_MOST_BRACKETS:Value
 v_LOOSE:Addr
 v_UNENDED:Addr
 v_KINDS:Addr
structure Txt (K:PySem.W.Frag) (mg:Str -> Option Value) (t:Adr):Prop where
 F_tails:Fun K "tails" "tails" jb t.fS t.d_tails
 iC:mg "tails" = some (.ref t.fS)
 b_tails:Binds K t.d_tails ["byte"] []
 F_second_of_three:Fun K "second_of_three" "second_of_three" da t.b5 t.d_second_of_three
 ee:mg "second_of_three" = some (.ref t.b5)
 b_second_of_three:Binds K t.d_second_of_three ["byte"] []
 F_second_of_four:Fun K "second_of_four" "second_of_four" dh t.cu t.d_second_of_four
 eE:mg "second_of_four" = some (.ref t.cu)
 b_second_of_four:Binds K t.d_second_of_four ["byte"] []
 F_is_white:Fun K "is_white" "is_white" fX t.dP t.d_is_white
 fU:mg "is_white" = some (.ref t.dP)
 b_is_white:Binds K t.d_is_white ["byte"] []
 F_is_figure:Fun K "is_figure" "is_figure" fw t.dN t.d_is_figure
 gc:mg "is_figure" = some (.ref t.dN)
 b_is_figure:Binds K t.d_is_figure ["byte"] []
 F_hex_worth:Fun K "hex_worth" "hex_worth" fo t.d5 t.d_hex_worth
 gR:mg "hex_worth" = some (.ref t.d5)
 b_hex_worth:Binds K t.d_hex_worth ["byte"] []
 F_word_rest:Fun K "word_rest" "word_rest" fq t.dM t.d_word_rest
 fc:mg "word_rest" = some (.ref t.dM)
 b_word_rest:Binds K t.d_word_rest ["byte"] []
 F_short_escape:Fun K "short_escape" "short_escape" dZ t.bf t.d_short_escape
 b1:mg "short_escape" = some (.ref t.bf)
 b_short_escape:Binds K t.d_short_escape ["byte"] []
 F_behind:Fun K "behind" "behind" ik t.bS t.d_behind
 b9:mg "behind" = some (.ref t.bS)
 b_behind:Binds K t.d_behind ["item","byte"] []
 F_behind_value:Fun K "behind_value" "behind_value" dW t.bc t.d_behind_value
 b0:mg "behind_value" = some (.ref t.bc)
 b_behind_value:Binds K t.d_behind_value ["byte"] []
 F_behind_lead:Fun K "behind_lead" "behind_lead" eA t.cY t.d_behind_lead
 eS:mg "behind_lead" = some (.ref t.cY)
 b_behind_lead:Binds K t.d_behind_lead ["byte"] []
 F_behind_in_number:Fun K "behind_in_number" "behind_in_number" cR t.aM t.d_behind_in_number
 ba:mg "behind_in_number" = some (.ref t.aM)
 b_behind_in_number:Binds K t.d_behind_in_number ["item","byte"] []
 F_behind_in_text:Fun K "behind_in_text" "behind_in_text" dg t.bt t.d_behind_in_text
 cq:mg "behind_in_text" = some (.ref t.bt)
 b_behind_in_text:Binds K t.d_behind_in_text ["item","byte"] []
 F_behind_character:Fun K "behind_character" "behind_character" cT t.bA t.d_behind_character
 cL:mg "behind_character" = some (.ref t.bA)
 b_behind_character:Binds K t.d_behind_character ["byte"] []
 F_behind_backslash:Fun K "behind_backslash" "behind_backslash" cU t.bY t.d_behind_backslash
 dS:mg "behind_backslash" = some (.ref t.bY)
 b_behind_backslash:Binds K t.d_behind_backslash ["byte"] []
 F_behind_code_d:Fun K "behind_code_d" "behind_code_d" dG t.cJ t.d_behind_code_d
 eQ:mg "behind_code_d" = some (.ref t.cJ)
 b_behind_code_d:Binds K t.d_behind_code_d ["worth"] []
 F_behind_hex:Fun K "behind_hex" "behind_hex" eL t.dc t.d_behind_hex
 eO:mg "behind_hex" = some (.ref t.dc)
 b_behind_hex:Binds K t.d_behind_hex ["item","byte"] []
 F_behind_in_brackets:Fun K "behind_in_brackets" "behind_in_brackets" cf t.aR t.d_behind_in_brackets
 bI:mg "behind_in_brackets" = some (.ref t.aR)
 b_behind_in_brackets:Binds K t.d_behind_in_brackets ["item","byte"] []
 F_behind_row_begin:Fun K "behind_row_begin" "behind_row_begin" cS t.bM t.d_behind_row_begin
 dk:mg "behind_row_begin" = some (.ref t.bM)
 b_behind_row_begin:Binds K t.d_behind_row_begin ["byte"] []
 F_behind_fields_begin:Fun K "behind_fields_begin" "behind_fields_begin" b3 t.bD t.d_behind_fields_begin
 de:mg "behind_fields_begin" = some (.ref t.bD)
 b_behind_fields_begin:Binds K t.d_behind_fields_begin ["byte"] []
 F_member_rest:Fun K "member_rest" "member_rest" eB t.dn t.d_member_rest
 fM:mg "member_rest" = some (.ref t.dn)
 b_member_rest:Binds K t.d_member_rest [] []
 F_fault:Fun K "fault" "fault" jl t.hV t.d_fault
 lN:mg "fault" = some (.ref t.hV)
 b_fault:Binds K t.d_fault ["row"] []
 F_refuse_fault:Fun K "refuse_fault" "refuse_fault" dU t.cZ t.d_refuse_fault
 eY:mg "refuse_fault" = some (.ref t.cZ)
 b_refuse_fault:Binds K t.d_refuse_fault ["row"] []
 F_nodes:Fun K "nodes" "nodes" jj t.gG t.d_nodes
 lz:mg "nodes" = some (.ref t.gG)
 b_nodes:Binds K t.d_nodes ["row"] []
 F_leaf:Fun K "leaf" "leaf" lg t.iN t.d_leaf
 oB:mg "leaf" = some (.ref t.iN)
 b_leaf:Binds K t.d_leaf ["row","at","i"] []
 F_plain_end:Fun K "plain_end" "plain_end" ft t.eI t.d_plain_end
 iy:mg "plain_end" = some (.ref t.eI)
 b_plain_end:Binds K t.d_plain_end ["row","at"] []
 F_text_end:Fun K "text_end" "text_end" fV t.fz t.d_text_end
 jk:mg "text_end" = some (.ref t.fz)
 b_text_end:Binds K t.d_text_end ["row","at"] []
 F_is_name:Fun K "is_name" "is_name" gF t.gd t.d_is_name
 kx:mg "is_name" = some (.ref t.gd)
 b_is_name:Binds K t.d_is_name ["row","end"] []
 F_with_member:Fun K "with_member" "with_member" er t.dm t.d_with_member
 fP:mg "with_member" = some (.ref t.dm)
 b_with_member:Binds K t.d_with_member ["tree","i"] []
 F_law_cell:Fun K "_law_cell" "_law_cell" fT t.fj t.d_law_cell
 i5:mg "_law_cell" = some (.ref t.fj)
 b_law_cell:Binds K t.d_law_cell ["_law_script","_law_k"] []
 F_law_mix:Fun K "_law_mix" "_law_mix" gC t.dO t.d_law_mix
 gD:mg "_law_mix" = some (.ref t.dO)
 b_law_mix:Binds K t.d_law_mix ["_law_script","_law_k"] []
 F_law_whole:Fun K "_law_whole" "_law_whole" fe t.d9 t.d_law_whole
 gO:mg "_law_whole" = some (.ref t.d9)
 b_law_whole:Binds K t.d_law_whole ["_law_found"] []
 F_law:Fun K "law" "law" nJ t.n6 t.d_law
 wQ:mg "law" = some (.ref t.n6)
 b_law:Binds K t.d_law ["_law_script"] []
 F_Walk___init__:Fun K "__init__" "Walk.__init__" dE t.cK t.d_Walk___init__
 b_Walk___init__:Binds K t.d_Walk___init__ ["self"] []
 F_Walk_take:Fun K "take" "Walk.take" fb t.eK t.d_Walk_take
 h_Walk_take:Meth K t.C_Walk "take" t.eK
 b_Walk_take:Binds K t.d_Walk_take ["self","row"] []
 F_Walk_goes_on:Fun K "goes_on" "Walk.goes_on" dY t.dv t.d_Walk_goes_on
 h_Walk_goes_on:Meth K t.C_Walk "goes_on" t.dv
 b_Walk_goes_on:Binds K t.d_Walk_goes_on ["self","byte"] []
 F_Walk_brackets:Fun K "brackets" "Walk.brackets" dH t.cg t.d_Walk_brackets
 h_Walk_brackets:Meth K t.C_Walk "brackets" t.cg
 b_Walk_brackets:Binds K t.d_Walk_brackets ["self"] []
 F_Walk_is_whole:Fun K "is_whole" "Walk.is_whole" dD t.cH t.d_Walk_is_whole
 h_Walk_is_whole:Meth K t.C_Walk "is_whole" t.cH
 b_Walk_is_whole:Binds K t.d_Walk_is_whole ["self"] []
 n_isinstance:mg "isinstance" = none
 n_tuple:mg "tuple" = none
 n_len:mg "len" = none
 n_range:mg "range" = none
 n_int:mg "int" = none
 n_bool:mg "bool" = none
 n_reversed:mg "reversed" = none
 n_enumerate:mg "enumerate" = none
 n_all:mg "all" = none
 n_ValueError:mg "ValueError" = none
 m_Walk:mg "Walk" = some (.ref t.C_Walk)
 c_Walk:Cls K t.C_Walk
 k_Walk:Mk K t.C_Walk t.cK
 na_Walk_coming:iM K t.C_Walk "coming"
 m_GlassError:mg "GlassError" = some (.ref t.C_GlassError)
 e_GlassError:uf K t.C_GlassError [.type "ValueError",.type "Exception",.type "BaseException",.type "object"]
 x_GlassError:PySem.W.excIn K t.C_GlassError [.type "ValueError",.type "Exception",.type "BaseException",.type "object"] "ValueError.__new__" = true
 m_Fault:mg "Fault" = some (.ref t.C_Fault)
 e_Fault:uf K t.C_Fault [.ref t.C_GlassError,.type "ValueError",.type "Exception",.type "BaseException",.type "object"]
 F_Fault_init:Fun K "__init__" "Fault.__init__" eM t.f_Fault_init t.d_Fault_init
 b_Fault_init:Binds K t.d_Fault_init ["self","at"] []
 k_Fault:XMk K mg "Fault" t.C_Fault t.f_Fault_init [.ref t.C_GlassError,.type "ValueError",.type "Exception",.type "BaseException",.type "object"] "at"
 m_TAIL:mg "TAIL" = some (.ref t.v_TAIL)
 r_TAIL:RelV (.ref t.v_TAIL) (.ref t.v_TAIL)
 q_TAIL:∀ H,SqT K H t.v_TAIL [.int 128,.int 191]
 m_BLANK:mg "BLANK" = some t.v_BLANK
 r_BLANK:RelV (.int 32) t.v_BLANK
 m_QUOTE:mg "QUOTE" = some t.v_QUOTE
 r_QUOTE:RelV (.int 34) t.v_QUOTE
 m_PLUS:mg "PLUS" = some t.v_PLUS
 r_PLUS:RelV (.int 43) t.v_PLUS
 m_COMMA:mg "COMMA" = some t.v_COMMA
 r_COMMA:RelV (.int 44) t.v_COMMA
 m_MINUS:mg "MINUS" = some t.v_MINUS
 r_MINUS:RelV (.int 45) t.v_MINUS
 m_POINT:mg "POINT" = some t.v_POINT
 r_POINT:RelV (.int 46) t.v_POINT
 m_NOUGHT:mg "NOUGHT" = some t.v_NOUGHT
 r_NOUGHT:RelV (.int 48) t.v_NOUGHT
 m_NINE:mg "NINE" = some t.v_NINE
 r_NINE:RelV (.int 57) t.v_NINE
 m_COLON:mg "COLON" = some t.v_COLON
 r_COLON:RelV (.int 58) t.v_COLON
 m_BIG_E:mg "BIG_E" = some t.v_BIG_E
 r_BIG_E:RelV (.int 69) t.v_BIG_E
 m_ROW_BEGIN:mg "ROW_BEGIN" = some t.v_ROW_BEGIN
 r_ROW_BEGIN:RelV (.int 91) t.v_ROW_BEGIN
 m_BACKSLASH:mg "BACKSLASH" = some t.v_BACKSLASH
 r_BACKSLASH:RelV (.int 92) t.v_BACKSLASH
 m_ROW_END:mg "ROW_END" = some t.v_ROW_END
 r_ROW_END:RelV (.int 93) t.v_ROW_END
 m_SMALL_E:mg "SMALL_E" = some t.v_SMALL_E
 r_SMALL_E:RelV (.int 101) t.v_SMALL_E
 m_SMALL_U:mg "SMALL_U" = some t.v_SMALL_U
 r_SMALL_U:RelV (.int 117) t.v_SMALL_U
 m_FIELDS_BEGIN:mg "FIELDS_BEGIN" = some t.v_FIELDS_BEGIN
 r_FIELDS_BEGIN:RelV (.int 123) t.v_FIELDS_BEGIN
 m_FIELDS_END:mg "FIELDS_END" = some t.v_FIELDS_END
 r_FIELDS_END:RelV (.int 125) t.v_FIELDS_END
 m_WHITE:mg "WHITE" = some (.ref t.v_WHITE)
 r_WHITE:RelV (.ref t.v_WHITE) (.ref t.v_WHITE)
 q_WHITE:∀ H,SqT K H t.v_WHITE [.int 9,.int 10,.int 13,.int 32]
 m_WORDS:mg "WORDS" = some (.ref t.v_WORDS)
 r_WORDS:RelV (.ref t.v_WORDS) (.ref t.v_WORDS)
 q_WORDS:DKP K t.v_WORDS [(110,.tup ([117,108,108].map .int)),(116,.tup ([114,117,101].map .int)),(102,.tup ([97,108,115,101].map .int))]
 m_SHORT_ESCAPES:mg "SHORT_ESCAPES" = some (.ref t.v_SHORT_ESCAPES)
 r_SHORT_ESCAPES:RelV (.ref t.v_SHORT_ESCAPES) (.ref t.v_SHORT_ESCAPES)
 q_SHORT_ESCAPES:DKP K t.v_SHORT_ESCAPES [(34,.int 34),(92,.int 92),(47,.int 47),(98,.int 8),(102,.int 12),(110,.int 10),(114,.int 13),(116,.int 9)]
 m_MOST_BRACKETS:mg "MOST_BRACKETS" = some t.v_MOST_BRACKETS
 r_MOST_BRACKETS:RelV (.int 64) t.v_MOST_BRACKETS
 m_LOOSE:mg "LOOSE" = some (.ref t.v_LOOSE)
 r_LOOSE:RelV (.ref t.v_LOOSE) (.ref t.v_LOOSE)
 q_LOOSE:∀ H,SqT K H t.v_LOOSE [.str "white",.str "figures",.str "fraction",.str "exponent",.str "sign"]
 m_UNENDED:mg "UNENDED" = some (.ref t.v_UNENDED)
 r_UNENDED:RelV (.ref t.v_UNENDED) (.ref t.v_UNENDED)
 q_UNENDED:∀ H,SqT K H t.v_UNENDED [.str "row",.str "more row",.str "fields",.str "more fields"]
 m_KINDS:mg "KINDS" = some (.ref t.v_KINDS)
 r_KINDS:RelV (.ref t.v_KINDS) (.ref t.v_KINDS)
 q_KINDS:DKP K t.v_KINDS [(34,.str "text"),(91,.str "row"),(102,.str "false"),(110,.str "null"),(116,.str "true"),(123,.str "fields")]
def cA (t:Adr) (c:String):Option Addr:=if c = "GlassError" then some t.C_GlassError else if c = "Fault" then some t.C_Fault else if c = "Walk" then some t.C_Walk else none
theorem nL {K:PySem.W.Frag} {mg:Str -> Option Value} {t:Adr} (T:Txt K mg t):∀ c C b,cA t c = some C -> iA c = some b -> pI K t.C_Fault C b:=by
 intro c C b h1 h2
 unfold cA at h1
 unfold iA at h2
 by_cases e:c = "GlassError"
 . subst e; simp at h2
 rw [if_neg e] at h1
 by_cases e:c = "Fault"
 . subst e; simp at h1 h2; subst h1; subst h2; exact takes T.e_Fault T.e_Fault (by simp)
 rw [if_neg e] at h1
 by_cases e:c = "Walk"
 . subst e; simp at h2
 rw [if_neg e] at h1
 cases h1
theorem gb {K:PySem.W.Frag} {mg:Str -> Option Value} {t:Adr} (T:Txt K mg t):∀ c C,cA t c = some C -> jK c = true -> Cls K C /\ iM K C "coming":=by
 intro c C h1 h2
 unfold cA at h1
 unfold jK at h2
 by_cases e:c = "GlassError"
 . subst e; simp at h2
 rw [if_neg e] at h1
 by_cases e:c = "Fault"
 . subst e; simp at h2
 rw [if_neg e] at h1
 by_cases e:c = "Walk"
 . subst e; simp at h1; subst h1; exact ⟨T.c_Walk,T.na_Walk_coming⟩
 rw [if_neg e] at h1
 cases h1
theorem DH {K:PySem.W.Frag} {mg:Str -> Option Value} {t:Adr} (T:Txt K mg t):∀ c C,cA t c = some C -> (c == "Fault") = true -> oA K C "at":=by
 intro c C h1 h2
 unfold cA at h1
 by_cases e:c = "GlassError"
 . subst e; simp at h2
 rw [if_neg e] at h1
 by_cases e:c = "Fault"
 . subst e; simp at h1; subst h1; exact T.k_Fault.xc
 rw [if_neg e] at h1
 by_cases e:c = "Walk"
 . subst e; simp at h2
 rw [if_neg e] at h1
 cases h1
section
variable {P:Program} {w:World} {K:PySem.W.Frag} {mg:Str -> Option Value} {base:Heap} {t:Adr}
theorem oZ (T:Txt K mg t):cy P w K mg base (CXE P w) 1 t.f_Fault_init t.d_Fault_init ["self","at"] (n9 t.C_Fault "at"):=yx T.F_Fault_init oY T.k_Fault.xc fun _ _ _ _ _ _=>vZ (qv 0) (qv 1)
theorem mB (T:Txt K mg t):cy P w K mg base (CXE P w) 1 t.cK t.d_Walk___init__ ["self"] (spI K (cA t) cK):=
 rY T.F_Walk___init__ mx fun cdv A outer s H E hr=>⟨_,(ak (BZ (qv 0) (bu (ae aF (ae aF (ae aF aj)))))),
  (zr gW (Bq (br (af aG (af aG (af aG av))))) (gb T))⟩
theorem p7 (T:Txt K mg t):cy P w K mg base (CXE P w) 1 t.dM t.d_word_rest ["byte"] (spP K (cA t) dM):=
 fG T.F_word_rest qC fun cdv A outer s H E hr=>⟨_,(ak (aB (r6 (aH rfl T.m_WORDS T.r_WORDS) (qv 0)))),
  (aE (sj T.q_WORDS ag))⟩
theorem ju (T:Txt K mg t):cy P w K mg base (CXE P w) 1 t.dN t.d_is_figure ["byte"] (spP K (cA t) dN):=
 fG T.F_is_figure qq fun cdv A outer s H E hr=>⟨_,(ak (aB (ye iZ iZ (aH rfl T.m_NOUGHT T.r_NOUGHT) (qv 0) (aH rfl T.m_NINE T.r_NINE)))),
  (aE (gK i0 i0 aq ag aq))⟩
theorem ka (T:Txt K mg t):cy P w K mg base (CXE P w) 2 t.cY t.d_behind_lead ["byte"] (spP K (cA t) cY):=
 fG T.F_behind_lead nK fun cdv A outer s H E hr=>⟨_,(ah (bw (aD cD (qv 0) (aH rfl T.m_NOUGHT T.r_NOUGHT) (aL _)) (ak (aB (bu (ae aF (ae aF aj))))) aK)
   (ah (bw (dR (aN ((ju T).mono (by decide)) hr rfl T.gc T.F_is_figure.kp T.b_is_figure .nil aS (ae (qv 0) aj)) (fun _=>rfl)) (ak (aB (bu (ae aF (ae aF (ae aF aj)))))) aK)
   (ak (aB b8)))),
  (ax (bz (ay (aw cC ag aq)) (aE (br (af aG (af aG av)))) aJ)
    (ax (bz (eD (aV (af ag av))) (aE (br (af aG (af aG (af aG av))))) aJ)
    (aE cb)))⟩
theorem jG (T:Txt K mg t):cy P w K mg base (CXE P w) 3 t.bc t.d_behind_value ["byte"] (spP K (cA t) bc):=
 fG T.F_behind_value jF fun cdv A outer s H E hr=>⟨_,(ah (bw (aD cD (qv 0) (aH rfl T.m_ROW_BEGIN T.r_ROW_BEGIN) (aL _)) (ak (aB (bu (ae aF (ae aF aj))))) aK)
   (ah (bw (aD cD (qv 0) (aH rfl T.m_FIELDS_BEGIN T.r_FIELDS_BEGIN) (aL _)) (ak (aB (bu (ae aF (ae aF aj))))) aK)
   (ah (bw (aD cD (qv 0) (aH rfl T.m_QUOTE T.r_QUOTE) (aL _)) (ak (aB (bu (ae aF aj)))) aK)
   (ah (bw (aD cD (qv 0) (aH rfl T.m_MINUS T.r_MINUS) (aL _)) (ak (aB (bu (ae aF aj)))) aK)
   (ah (b7 (i:=1) jF.nd rfl (by first | exact Or.inl rfl | exact Or.inr rfl) (aN ((p7 T).mono (by decide)) hr rfl T.fc T.F_word_rest.kp T.b_word_rest .nil aS (ae (qv 0) aj)))
   (ah (bw (aD qE (qv 1) b8 (aL _)) (ak (aB (qH (M:=[]) (ι:=[]) (x:="sign") ⟨rfl,rfl,rfl,rfl,rfl,rfl,rfl,rfl,rfl,rfl,rfl,by decide +kernel⟩ rfl (Di (qv 1)) fun _ _ _ _=>(dJ (ae (qv 0) (ae (qv 0) aj)))))) aK)
   (ak (aB (aN ((ka T).mono (by decide)) hr rfl T.eS T.F_behind_lead.kp T.b_behind_lead .nil aS (ae (qv 0) aj)))))))))),
  (ax (bz (ay (aw cC ag aq)) (aE (br (af aG (af aG av)))) aJ)
    (ax (bz (ay (aw cC ag aq)) (aE (br (af aG (af aG av)))) aJ)
    (ax (bz (ay (aw cC ag aq)) (aE (br (af aG av))) aJ)
    (ax (bz (ay (aw cC ag aq)) (aE (br (af aG av))) aJ)
    (ax (cF (aV (af ag av)))
    (ax (bz (ay (aw qQ ag cb)) (aE (xM (by decide) ag (dI (af ag (af ag av))))) aJ)
    (aE (aV (af ag av)))))))))⟩
theorem kE (T:Txt K mg t):cy P w K mg base (CXE P w) 3 t.aM t.d_behind_in_number ["item","byte"] (spP K (cA t) aM):=
 fG T.F_behind_in_number kI fun cdv A outer s H E hr=>⟨_,(ah (bw (aD cD (qv 0) aF (aL _)) (ak (aB (aN ((ka T).mono (by decide)) hr rfl T.eS T.F_behind_lead.kp T.b_behind_lead .nil aS (ae (qv 1) aj)))) aK)
   (ah (bw (aD cD (qv 0) aF (aL _)) (ak (aB (dB (by exact (dR (aN ((ju T).mono (by decide)) hr rfl T.gc T.F_is_figure.kp T.b_is_figure .nil aS (ae (qv 1) aj)) (fun _=>rfl))) (bu (ae aF aj)) b8))) aK)
   (ah (bw (aD cD (qv 0) aF (aL _)) (ak (aB (dB (by exact (aD cD (qv 1) (aH rfl T.m_POINT T.r_POINT) (aL _))) (bu (ae (dJ (ae (aH rfl T.m_NOUGHT T.r_NOUGHT) (ae (aH rfl T.m_NINE T.r_NINE) aj))) (ae aF aj))) b8))) aK)
   (ah (bw (aD cD (qv 0) aF (aL _)) (ak (aB (dB (by exact (aD gT (qv 1) (dJ (ae (aH rfl T.m_SMALL_E T.r_SMALL_E) (ae (aH rfl T.m_BIG_E T.r_BIG_E) aj))) rfl)) (bu (ae aF (ae (dJ (ae (aH rfl T.m_NOUGHT T.r_NOUGHT) (ae (aH rfl T.m_NINE T.r_NINE) aj))) (ae aF aj)))) b8))) aK)
   (ak (aB (dB (by exact (aD gT (qv 1) (dJ (ae (aH rfl T.m_PLUS T.r_PLUS) (ae (aH rfl T.m_MINUS T.r_MINUS) aj))) rfl)) (bu aj) b8))))))),
  (ax (bz (ay (aw cC ag aG)) (aE (aV (af ag av))) aJ)
    (ax (bz (ay (aw cC ag aG)) (aE (gP (eD (aV (af ag av))) (br (af aG av)) cb)) aJ)
    (ax (bz (ay (aw cC ag aG)) (aE (gP (ay (aw cC ag aq)) (br (af (dI (af aq (af aq av))) (af aG av))) cb)) aJ)
    (ax (bz (ay (aw cC ag aG)) (aE (gP (ay (aw (jI hr.units) ag (dI (af aq (af aq av))))) (br (af aG (af (dI (af aq (af aq av))) (af aG av)))) cb)) aJ)
    (aE (gP (ay (aw (jI hr.units) ag (dI (af aq (af aq av))))) (br av) cb))))))⟩
theorem lB (T:Txt K mg t):cy P w K mg base (CXE P w) 2 t.d5 t.d_hex_worth ["byte"] (spP K (cA t) d5):=
 fG T.F_hex_worth qi fun cdv A outer s H E hr=>⟨_,(ah (bw (dR (aN ((ju T).mono (by decide)) hr rfl T.gc T.F_is_figure.kp T.b_is_figure .nil aS (ae (qv 0) aj)) (fun _=>rfl)) (ak (aB (dr qg (qv 0) (aH rfl T.m_NOUGHT T.r_NOUGHT)))) aK)
   (ah (bw (ig iZ iZ aA (qv 0) aA) (ak (aB (dr qg (qv 0) aA))) aK)
   (ah (bw (ig iZ iZ aA (qv 0) aA) (ak (aB (dr qg (qv 0) aA))) aK)
   (ak (aB b8))))),
  (ax (bz (eD (aV (af ag av))) (aE (aw qe ag aq)) aJ)
    (ax (bz (ay (gK i0 i0 aq ag aq)) (aE (aw qe ag aq)) aJ)
    (ax (bz (ay (gK i0 i0 aq ag aq)) (aE (aw qe ag aq)) aJ)
    (aE cb))))⟩
theorem mw (T:Txt K mg t):cy P w K mg base (CXE P w) 1 t.cJ t.d_behind_code_d ["worth"] (spP K (cA t) cJ):=
 fG T.F_behind_code_d iY fun cdv A outer s H E hr=>⟨_,(ah (bw (aD jZ (qv 0) aA (aL _)) (ak (aB (bu (ae aF (ae aF aj))))) aK)
   (ah (bw (aD jZ (qv 0) aA (aL _)) (ah (b7 (i:=1) iY.nd rfl (by first | exact Or.inl rfl | exact Or.inr rfl) (bu (ae (dJ (ae (aH rfl T.m_BACKSLASH T.r_BACKSLASH) (ae (aH rfl T.m_BACKSLASH T.r_BACKSLASH) aj))) (ae (dJ (ae (aH rfl T.m_SMALL_U T.r_SMALL_U) (ae (aH rfl T.m_SMALL_U T.r_SMALL_U) aj))) (ae aF (ae aF (ae aF (ae aF aj))))))))
   (ak (aB (dr kC (bu (ae aF (ae aF aj))) (qv 1))))) aK)
   (ak (aB b8)))),
  (ax (bz (ay (aw j7 ag aq)) (aE (br (af aG (af aG av)))) aJ)
    (ax (bz (ay (aw j7 ag aq)) (ax (cF (br (af (dI (af aq (af aq av))) (af (dI (af aq (af aq av))) (af aG (af aG (af aG (af aG av))))))))
    (aE (aw mP (br (af aG (af aG av))) ag))) aJ)
    (aE cb)))⟩
theorem kX (T:Txt K mg t):cy P w K mg base (CXE P w) 1 t.b5 t.d_second_of_three ["byte"] (spP K (cA t) b5):=
 fG T.F_second_of_three lq fun cdv A outer s H E hr=>⟨_,(ah (bw (aD cD (qv 0) aA (aL _)) (ak (aB (dJ (ae aA (ae aA aj))))) aK)
   (ah (bw (aD cD (qv 0) aA (aL _)) (ak (aB (dJ (ae aA (ae aA aj))))) aK)
   (ak (aB (aH rfl T.m_TAIL T.r_TAIL))))),
  (ax (bz (ay (aw cC ag aq)) (aE (dI (af aq (af aq av)))) aJ)
    (ax (bz (ay (aw cC ag aq)) (aE (dI (af aq (af aq av)))) aJ)
    (aE (i9 T.q_TAIL))))⟩
theorem lA (T:Txt K mg t):cy P w K mg base (CXE P w) 1 t.cu t.d_second_of_four ["byte"] (spP K (cA t) cu):=
 fG T.F_second_of_four lS fun cdv A outer s H E hr=>⟨_,(ah (bw (aD cD (qv 0) aA (aL _)) (ak (aB (dJ (ae aA (ae aA aj))))) aK)
   (ah (bw (aD cD (qv 0) aA (aL _)) (ak (aB (dJ (ae aA (ae aA aj))))) aK)
   (ak (aB (aH rfl T.m_TAIL T.r_TAIL))))),
  (ax (bz (ay (aw cC ag aq)) (aE (dI (af aq (af aq av)))) aJ)
    (ax (bz (ay (aw cC ag aq)) (aE (dI (af aq (af aq av)))) aJ)
    (aE (i9 T.q_TAIL))))⟩
theorem wM (T:Txt K mg t):cy P w K mg base (CXE P w) 2 t.fS t.d_tails ["byte"] (spP K (cA t) fS):=
 fG T.F_tails ya fun cdv A outer s H E hr=>⟨_,(ah (bw (ig iZ jZ aA (qv 0) aA) (ak (aB (bu aj))) aK)
   (ah (bw (ig iZ jZ aA (qv 0) aA) (ak (aB (bu (ae (aH rfl T.m_TAIL T.r_TAIL) aj)))) aK)
   (ah (bw (ig iZ jZ aA (qv 0) aA) (ak (aB (bu (ae (aN ((kX T).mono (by decide)) hr rfl T.ee T.F_second_of_three.kp T.b_second_of_three .nil aS (ae (qv 0) aj)) (ae (aH rfl T.m_TAIL T.r_TAIL) aj))))) aK)
   (ah (bw (ig iZ jZ aA (qv 0) aA) (ak (aB (bu (ae (aN ((lA T).mono (by decide)) hr rfl T.eE T.F_second_of_four.kp T.b_second_of_four .nil aS (ae (qv 0) aj)) (ae (aH rfl T.m_TAIL T.r_TAIL) (ae (aH rfl T.m_TAIL T.r_TAIL) aj)))))) aK)
   (ak (aB b8)))))),
  (ax (bz (ay (gK i0 j7 aq ag aq)) (aE (br av)) aJ)
    (ax (bz (ay (gK i0 j7 aq ag aq)) (aE (br (af (i9 T.q_TAIL) av))) aJ)
    (ax (bz (ay (gK i0 j7 aq ag aq)) (aE (br (af (aV (af ag av)) (af (i9 T.q_TAIL) av)))) aJ)
    (ax (bz (ay (gK i0 j7 aq ag aq)) (aE (br (af (aV (af ag av)) (af (i9 T.q_TAIL) (af (i9 T.q_TAIL) av))))) aJ)
    (aE cb)))))⟩
theorem kF (T:Txt K mg t):cy P w K mg base (CXE P w) 3 t.bA t.d_behind_character ["byte"] (spP K (cA t) bA):=
 fG T.F_behind_character g9 fun cdv A outer s H E hr=>⟨_,(ah (bw (aD cD (qv 0) (aH rfl T.m_QUOTE T.r_QUOTE) (aL _)) (ak (aB (bu aj))) aK)
   (ah (bw (aD cD (qv 0) (aH rfl T.m_BACKSLASH T.r_BACKSLASH) (aL _)) (ak (aB (bu (ae aF (ae aF aj))))) aK)
   (ah (b7 (i:=1) g9.nd rfl (by first | exact Or.inl rfl | exact Or.inr rfl) (aN ((wM T).mono (by decide)) hr rfl T.iC T.F_tails.kp T.b_tails .nil aS (ae (qv 0) aj)))
   (ah (bw (rZ (Ap (aD jZ (qv 0) (aH rfl T.m_BLANK T.r_BLANK) (aL _)) (v8 (aD kf (qv 1) b8 (aL _))))) (ak (aB b8)) aK)
   (ak (aB (dr kC (qv 1) (bu (ae aF aj))))))))),
  (ax (bz (ay (aw cC ag aq)) (aE (br av)) aJ)
    (ax (bz (ay (aw cC ag aq)) (aE (br (af aG (af aG av)))) aJ)
    (ax (cF (aV (af ag av)))
    (ax (bz (A6 (ay (aw j7 ag aq)) (ay (aw jV ag cb))) (aE cb) aJ)
    (aE (aw mP ag (br (af aG av))))))))⟩
theorem nr (T:Txt K mg t):cy P w K mg base (CXE P w) 1 t.bf t.d_short_escape ["byte"] (spP K (cA t) bf):=
 fG T.F_short_escape nj fun cdv A outer s H E hr=>⟨_,(ak (aB (r6 (aH rfl T.m_SHORT_ESCAPES T.r_SHORT_ESCAPES) (qv 0)))),
  (aE (sj T.q_SHORT_ESCAPES ag))⟩
theorem kH (T:Txt K mg t):cy P w K mg base (CXE P w) 2 t.bY t.d_behind_backslash ["byte"] (spP K (cA t) bY):=
 fG T.F_behind_backslash kJ fun cdv A outer s H E hr=>⟨_,(ah (bw (aD cD (qv 0) (aH rfl T.m_SMALL_U T.r_SMALL_U) (aL _)) (ak (aB (bu (ae aF aj)))) aK)
   (ak (aB (dB (by exact (aD kf (aN ((nr T).mono (by decide)) hr rfl T.b1 T.F_short_escape.kp T.b_short_escape .nil aS (ae (qv 0) aj)) b8 (aL _))) b8 (bu aj))))),
  (ax (bz (ay (aw cC ag aq)) (aE (br (af aG av))) aJ)
    (aE (gP (ay (aw jV (aV (af ag av)) cb)) cb (br av))))⟩
theorem lK (T:Txt K mg t):cy P w K mg base (CXE P w) 4 t.bt t.d_behind_in_text ["item","byte"] (spP K (cA t) bt):=
 fG T.F_behind_in_text iD fun cdv A outer s H E hr=>⟨_,(ah (bw (aD cD (qv 0) aF (aL _)) (ak (aB (aN ((kF T).mono (by decide)) hr rfl T.cL T.F_behind_character.kp T.b_behind_character .nil aS (ae (qv 1) aj)))) aK)
   (ah (bw (aD cD (qv 0) aF (aL _)) (ak (aB (aN ((kH T).mono (by decide)) hr rfl T.dS T.F_behind_backslash.kp T.b_behind_backslash .nil aS (ae (qv 1) aj)))) aK)
   (ah (b7 (i:=2) iD.nd rfl (by first | exact Or.inl rfl | exact Or.inr rfl) (aN ((lB T).mono (by decide)) hr rfl T.gR T.F_hex_worth.kp T.b_hex_worth .nil aS (ae (qv 1) aj)))
   (ah (bw (aD kf (qv 2) b8 (aL _)) (ak (aB b8)) aK)
   (ah (bw (aD cD (qv 0) aF (aL _)) (ak (aB (dB (by exact (aD cD (qv 2) aA (aL _))) (bu (ae aF aj)) (bu (ae aF (ae aF (ae aF aj))))))) aK)
   (ak (aB (aN ((mw T).mono (by decide)) hr rfl T.eQ T.F_behind_code_d.kp T.b_behind_code_d .nil aS (ae (qv 2) aj))))))))),
  (ax (bz (ay (aw cC ag aG)) (aE (aV (af ag av))) aJ)
    (ax (bz (ay (aw cC ag aG)) (aE (aV (af ag av))) aJ)
    (ax (cF (aV (af ag av)))
    (ax (bz (ay (aw jV ag cb)) (aE cb) aJ)
    (ax (bz (ay (aw cC ag aG)) (aE (gP (ay (aw cC ag aq)) (br (af aG av)) (br (af aG (af aG (af aG av)))))) aJ)
    (aE (aV (af ag av))))))))⟩
theorem oU (T:Txt K mg t):cy P w K mg base (CXE P w) 3 t.dc t.d_behind_hex ["item","byte"] (spP K (cA t) dc):=
 fG T.F_behind_hex kW fun cdv A outer s H E hr=>⟨_,(ah (b7 (i:=2) kW.nd rfl (by first | exact Or.inl rfl | exact Or.inr rfl) (aN ((lB T).mono (by decide)) hr rfl T.gR T.F_hex_worth.kp T.b_hex_worth .nil aS (ae (qv 1) aj)))
   (ah (bw (aD kf (qv 2) b8 (aL _)) (ak (aB b8)) aK)
   (ah (bw (aD cD (qv 0) aF (aL _)) (ak (aB (dB (by exact (aD cD (qv 2) aA (aL _))) (bu aj) b8))) aK)
   (ah (bw (aD cD (qv 0) aF (aL _)) (ak (aB (dB (by exact (aD DV (qv 2) aA (aL _))) (bu aj) b8))) aK)
   (ak (aB (bu aj))))))),
  (ax (cF (aV (af ag av)))
    (ax (bz (ay (aw jV ag cb)) (aE cb) aJ)
    (ax (bz (ay (aw cC ag aG)) (aE (gP (ay (aw cC ag aq)) (br av) cb)) aJ)
    (ax (bz (ay (aw cC ag aG)) (aE (gP (ay (aw DL ag aq)) (br av) cb)) aJ)
    (aE (br av))))))⟩
theorem kK (T:Txt K mg t):cy P w K mg base (CXE P w) 4 t.bM t.d_behind_row_begin ["byte"] (spP K (cA t) bM):=
 fG T.F_behind_row_begin hJ fun cdv A outer s H E hr=>⟨_,(ah (bw (aD cD (qv 0) (aH rfl T.m_ROW_END T.r_ROW_END) (aL _)) (ak (aB (bu aj))) aK)
   (ah (b7 (i:=1) hJ.nd rfl (by first | exact Or.inl rfl | exact Or.inr rfl) (aN ((jG T).mono (by decide)) hr rfl T.b0 T.F_behind_value.kp T.b_behind_value .nil aS (ae (qv 0) aj)))
   (ak (aB (dB (by exact (aD kf (qv 1) b8 (aL _))) b8 (dr kC (qv 1) (bu (ae aF (ae aF aj))))))))),
  (ax (bz (ay (aw cC ag aq)) (aE (br av)) aJ)
    (ax (cF (aV (af ag av)))
    (aE (gP (ay (aw jV ag cb)) cb (aw mP ag (br (af aG (af aG av))))))))⟩
theorem ko (T:Txt K mg t):cy P w K mg base (CXE P w) 1 t.dn t.d_member_rest [] (spP K (cA t) dn):=
 fG T.F_member_rest oz fun cdv A outer s H E hr=>⟨_,(ak (aB (bu (ae aF (ae (dJ (ae (aH rfl T.m_COLON T.r_COLON) (ae (aH rfl T.m_COLON T.r_COLON) aj))) (ae aF (ae aF (ae aF (ae aF aj))))))))),
  (aE (br (af aG (af (dI (af aq (af aq av))) (af aG (af aG (af aG (af aG av))))))))⟩
theorem jw (T:Txt K mg t):cy P w K mg base (CXE P w) 2 t.bD t.d_behind_fields_begin ["byte"] (spP K (cA t) bD):=
 fG T.F_behind_fields_begin i7 fun cdv A outer s H E hr=>⟨_,(ah (bw (aD cD (qv 0) (aH rfl T.m_FIELDS_END T.r_FIELDS_END) (aL _)) (ak (aB (bu aj))) aK)
   (ak (aB (dB (by exact (aD cD (qv 0) (aH rfl T.m_QUOTE T.r_QUOTE) (aL _))) (dr kC (bu (ae aF aj)) (pH ((ko T).mono (by decide)) hr rfl T.fM T.F_member_rest.kp T.b_member_rest aS)) b8)))),
  (ax (bz (ay (aw cC ag aq)) (aE (br av)) aJ)
    (aE (gP (ay (aw cC ag aq)) (aw mP (br (af aG av)) (aV av)) cb)))⟩
theorem jL (T:Txt K mg t):cy P w K mg base (CXE P w) 5 t.aR t.d_behind_in_brackets ["item","byte"] (spP K (cA t) aR):=
 fG T.F_behind_in_brackets jO fun cdv A outer s H E hr=>⟨_,(ah (bw (aD cD (qv 0) aF (aL _)) (ak (aB (aN ((kK T).mono (by decide)) hr rfl T.dk T.F_behind_row_begin.kp T.b_behind_row_begin .nil aS (ae (qv 1) aj)))) aK)
   (ah (bw (aD cD (qv 0) aF (aL _)) (ak (aB (aN ((jw T).mono (by decide)) hr rfl T.de T.F_behind_fields_begin.kp T.b_behind_fields_begin .nil aS (ae (qv 1) aj)))) aK)
   (ah (bw (aD cD (qv 0) aF (aL _)) (ah (bw (aD cD (qv 1) (aH rfl T.m_COMMA T.r_COMMA) (aL _)) (ak (aB (bu (ae aF (ae aF (ae aF (ae aF aj))))))) aK)
   (ak (aB (dB (by exact (aD cD (qv 1) (aH rfl T.m_ROW_END T.r_ROW_END) (aL _))) (bu aj) b8)))) aK)
   (ah (bw (aD cD (qv 1) (aH rfl T.m_COMMA T.r_COMMA) (aL _)) (ak (aB (dr kC (bu (ae aF (ae aF aj))) (pH ((ko T).mono (by decide)) hr rfl T.fM T.F_member_rest.kp T.b_member_rest aS)))) aK)
   (ak (aB (dB (by exact (aD cD (qv 1) (aH rfl T.m_FIELDS_END T.r_FIELDS_END) (aL _))) (bu aj) b8))))))),
  (ax (bz (ay (aw cC ag aG)) (aE (aV (af ag av))) aJ)
    (ax (bz (ay (aw cC ag aG)) (aE (aV (af ag av))) aJ)
    (ax (bz (ay (aw cC ag aG)) (ax (bz (ay (aw cC ag aq)) (aE (br (af aG (af aG (af aG (af aG av)))))) aJ)
    (aE (gP (ay (aw cC ag aq)) (br av) cb))) aJ)
    (ax (bz (ay (aw cC ag aq)) (aE (aw mP (br (af aG (af aG av))) (aV av))) aJ)
    (aE (gP (ay (aw cC ag aq)) (br av) cb))))))⟩
theorem iJ (T:Txt K mg t):cy P w K mg base (CXE P w) 1 t.dP t.d_is_white ["byte"] (spP K (cA t) dP):=
 fG T.F_is_white rb fun cdv A outer s H E hr=>⟨_,(ak (aB (fR gT (qv 0) (aH rfl T.m_WHITE T.r_WHITE) rfl))),
  (aE (aw (jI hr.units) ag (i9 T.q_WHITE)))⟩
theorem vJ (T:Txt K mg t):cy P w K mg base (CXE P w) 6 t.bS t.d_behind ["item","byte"] (spP K (cA t) bS):=
 fG T.F_behind vz fun cdv A outer s H E hr=>⟨_,(ah (bw (dR (df oh rfl T.n_isinstance L2.E.boot_isinstance (ae (qv 0) (ae (qK (v:=.ty _) rfl T.n_tuple L2.E.boot_tuple rfl) aj))) (fun _=>rfl)) (ak (aB (dB (by exact (ig iZ iZ (eh iR (qv 0) aA (fun _ _=>rfl)) (qv 1) (eh iR (qv 0) aA (fun _ _=>rfl)))) (bu aj) b8))) aK)
   (ah (bw (aD gT (qv 0) (dJ (ae aF (ae aF (ae aF (ae aF (ae aF aj)))))) rfl) (ak (aB (aN ((kE T).mono (by decide)) hr rfl T.ba T.F_behind_in_number.kp T.b_behind_in_number .nil aS (ae (qv 0) (ae (qv 1) aj))))) aK)
   (ah (bw (aD gT (qv 0) (dJ (ae aF (ae aF (ae aF (ae aF aj))))) rfl) (ak (aB (aN ((lK T).mono (by decide)) hr rfl T.cq T.F_behind_in_text.kp T.b_behind_in_text .nil aS (ae (qv 0) (ae (qv 1) aj))))) aK)
   (ah (bw (aD gT (qv 0) (dJ (ae aF (ae aF (ae aF aj)))) rfl) (ak (aB (aN ((oU T).mono (by decide)) hr rfl T.eO T.F_behind_hex.kp T.b_behind_hex .nil aS (ae (qv 0) (ae (qv 1) aj))))) aK)
   (ah (bw (aD gT (qv 0) (aH rfl T.m_UNENDED T.r_UNENDED) rfl) (ak (aB (aN ((jL T).mono (by decide)) hr rfl T.bI T.F_behind_in_brackets.kp T.b_behind_in_brackets .nil aS (ae (qv 0) (ae (qv 1) aj))))) aK)
   (ah (bw (aD cD (qv 0) aF (aL _)) (ak (aB (dB (by exact (dR (aN ((iJ T).mono (by decide)) hr rfl T.fU T.F_is_white.kp T.b_is_white .nil aS (ae (qv 1) aj)) (fun _=>rfl))) (bu (ae aF aj)) b8))) aK)
   (ah (bw (aD cD (qv 0) aF (aL _)) (ak (aB (dB (by exact (aD cD (qv 1) (aH rfl T.m_QUOTE T.r_QUOTE) (aL _))) (bu (ae aF aj)) b8))) aK)
   (ak (aB (aN ((jG T).mono (by decide)) hr rfl T.b0 T.F_behind_value.kp T.b_behind_value .nil aS (ae (qv 1) aj))))))))))),
  (ax (bz (eD (tW ag)) (aE (gP (ay (gK i0 i0 (aw iQ ag aq) ag (aw iQ ag aq))) (br av) cb)) aJ)
    (ax (bz (ay (aw (jI hr.units) ag (dI (af aG (af aG (af aG (af aG (af aG av)))))))) (aE (aV (af ag (af ag av)))) aJ)
    (ax (bz (ay (aw (jI hr.units) ag (dI (af aG (af aG (af aG (af aG av))))))) (aE (aV (af ag (af ag av)))) aJ)
    (ax (bz (ay (aw (jI hr.units) ag (dI (af aG (af aG (af aG av)))))) (aE (aV (af ag (af ag av)))) aJ)
    (ax (bz (ay (aw (jI hr.units) ag (p6 fun S=>by unfold Rep; exact ⟨_,_,rfl,T.q_UNENDED S,(.cons (by unfold Rep; rfl) (.cons (by unfold Rep; rfl) (.cons (by unfold Rep; rfl) (.cons (by unfold Rep; rfl) .nil))))⟩))) (aE (aV (af ag (af ag av)))) aJ)
    (ax (bz (ay (aw cC ag aG)) (aE (gP (eD (aV (af ag av))) (br (af aG av)) cb)) aJ)
    (ax (bz (ay (aw cC ag aG)) (aE (gP (ay (aw cC ag aq)) (br (af aG av)) cb)) aJ)
    (aE (aV (af ag av))))))))))⟩
theorem mf (T:Txt K mg t):cy P w K mg base (CXE P w) 1 t.cg t.d_Walk_brackets ["self"] (spI K (cA t) cg):=
 rY T.F_Walk_brackets mj fun cdv A outer s H E hr=>⟨_,(ak (aB (df b6 rfl T.n_len L2.E.boot_len (ae (vi (M:=[]) (ι:=[]) (x:="item") ⟨rfl,rfl,rfl,rfl,rfl,rfl,rfl,rfl,rfl,rfl,rfl,by decide +kernel⟩ rfl (qz (oH (qv 0))) (fun _ _ _ _=>(aD gT (qv 0) (aH rfl T.m_UNENDED T.r_UNENDED) rfl)) fun _ _ _ _=>(qv 0)) aj)))),
  (aE (fF gz (tV (by decide) (uU (rL gW (gb T))) (ay (aw (jI hr.units) ag (p6 fun S=>by unfold Rep; exact ⟨_,_,rfl,T.q_UNENDED S,(.cons (by unfold Rep; rfl) (.cons (by unfold Rep; rfl) (.cons (by unfold Rep; rfl) (.cons (by unfold Rep; rfl) .nil))))⟩))) ag)))⟩
theorem m9 (T:Txt K mg t):cy P w K mg base (CXE P w) 7 t.dv t.d_Walk_goes_on ["self","byte"] (spI K (cA t) dv):=
 rY T.F_Walk_goes_on gV fun cdv A outer s H E hr=>⟨_,(ah (jQ iu (dR (oH (qv 0)) (fun _=>rfl)) (ah (b7 (i:=2) gV.nd rfl (by first | exact Or.inl rfl | exact Or.inr rfl) (xv PySem.F.plainAttrs_list PySem.F.slot_list_pop PySem.F.type_list_pop xY (oH (qv 0))))
   (ah (b7 (i:=3) gV.nd rfl (by first | exact Or.inl rfl | exact Or.inr rfl) (aN ((vJ T).mono (by decide)) hr rfl T.b9 T.F_behind.kp T.b_behind .nil aS (ae (qv 2) (ae (qv 1) aj))))
   (ah (bw (aD qE (qv 3) b8 (aL _)) (ah (hR (oy PySem.F.plainAttrs_list PySem.F.slot_list_extend PySem.F.type_list_extend vO (oH (qv 0)) (ae (Co (qv 3) (xJ sZ aA)) aj)))
   (ak (aB (fR iZ (pz (qv 0) T.c_Walk T.h_Walk_brackets ((mf T).mono (by decide)) hr T.b_Walk_brackets aS) (aH rfl T.m_MOST_BRACKETS T.r_MOST_BRACKETS) (aL _))))) aK)
   (ak (bw (aD o8 (qv 2) (aH rfl T.m_LOOSE T.r_LOOSE) rfl) (ak (aB AH)) aK))))))
   (ak (aB AH))),
  (ax (kj (vh (rL gW (gb T))) (ax (qd (uX (rL gW (gb T))))
    (ax (cF (aV (af ag (af ag av))))
    (ax (bz (ay (aw qQ ag cb)) (ax (tY (rL gW (gb T)) (BB ag (xp tU aq)))
    (aE (aw i0 (rM rfl rfl (AF gW) ny) aq))) aJ)
    (bz (ay (aw (sA hr.units) ag (p6 fun S=>by unfold Rep; exact ⟨_,_,rfl,T.q_LOOSE S,(.cons (by unfold Rep; rfl) (.cons (by unfold Rep; rfl) (.cons (by unfold Rep; rfl) (.cons (by unfold Rep; rfl) (.cons (by unfold Rep; rfl) .nil)))))⟩))) (aE Ar) aJ)))))
    (aE Ar))⟩
theorem pU (T:Txt K mg t):cy P w K mg base (CXE P w) 8 t.eK t.d_Walk_take ["self","row"] (spI K (cA t) eK):=
 rY T.F_Walk_take ja fun cdv A outer s H E hr=>⟨_,(ah (ug iu rfl (zk rfl T.n_enumerate (ae (qv 1) aj)) (B6 rfl (si (nA (i:=2) ja.nd rfl (by first | exact Or.inl rfl | exact Or.inr rfl)) (si (nA (i:=3) ja.nd rfl (by first | exact Or.inl rfl | exact Or.inr rfl)) yZ))) (ak (bw (ua (dR (se (qv 0) T.c_Walk T.h_Walk_goes_on ((m9 T).mono (by decide)) hr T.b_Walk_goes_on aS (ae (qv 3) aj)) (fun _=>rfl))) (ak (aB (qv 2))) aK)))
   (ak (aB (df b6 rfl T.n_len L2.E.boot_len (ae (qv 1) aj))))),
  (ax (Ah ag (yO (rn rfl rfl (Ay gW) (sv (AU (W:=fun _ _ _ _=>False) ag) ny)) kz aJ))
    (aE (fF gz ag)))⟩
theorem mI (T:Txt K mg t):cy P w K mg base (CXE P w) 1 t.cH t.d_Walk_is_whole ["self"] (spI K (cA t) cH):=
 rY T.F_Walk_is_whole mH fun cdv A outer s H E hr=>⟨_,(ak (aB (df vB rfl T.n_all L2.E.boot_all (ae (qH (M:=[]) (ι:=[]) (x:="item") ⟨rfl,rfl,rfl,rfl,rfl,rfl,rfl,rfl,rfl,rfl,rfl,by decide +kernel⟩ rfl (qz (oH (qv 0))) fun _ _ _ _=>(fR gT (qv 0) (aH rfl T.m_LOOSE T.r_LOOSE) rfl)) aj)))),
  (aE (fF (BF hr.hd) (xR (by decide) (uU (rL gW (gb T))) (aw (jI hr.units) ag (p6 fun S=>by unfold Rep; exact ⟨_,_,rfl,T.q_LOOSE S,(.cons (by unfold Rep; rfl) (.cons (by unfold Rep; rfl) (.cons (by unfold Rep; rfl) (.cons (by unfold Rep; rfl) (.cons (by unfold Rep; rfl) .nil)))))⟩)))))⟩
theorem rG (T:Txt K mg t):cy P w K mg base (CXE P w) 9 t.hV t.d_fault ["row"] (spP K (cA t) hV):=
 fG T.F_fault om fun cdv A outer s H E hr=>⟨_,(ah (b7 (i:=1) om.nd rfl (by first | exact Or.inl rfl | exact Or.inr rfl) (wJ T.k_Walk (mB T) (hr.mono (by decide)) rfl T.m_Walk T.b_Walk___init__))
   (ah (b7 (i:=2) om.nd rfl (by first | exact Or.inl rfl | exact Or.inr rfl) (se (qv 1) T.c_Walk T.h_Walk_take ((pU T).mono (by decide)) hr T.b_Walk_take aS (ae (qv 0) aj)))
   (ah (bw (rZ (p9 (aD cD (qv 2) (df b6 rfl T.n_len L2.E.boot_len (ae (qv 0) aj)) (aL _)) (pY (dR (pz (qv 1) T.c_Walk T.h_Walk_is_whole ((mI T).mono (by decide)) hr T.b_Walk_is_whole aS) (fun _=>rfl))))) (ak (aB b8)) aK)
   (ak (aB (qv 2)))))),
  (ax (uY (zG rfl))
    (ax (qd (rn rfl rfl (Ay gW) (sv (AU (W:=fun _ _ _ _=>False) ag) ny)))
    (ax (bz (qs (ay (aw cC ag (fF gz ag))) (eD (rM rfl rfl (AF gW) ny))) (aE cb) aJ)
    kz)))⟩
theorem nk (T:Txt K mg t):cy P w K mg base (CXE P w) 10 t.cZ t.d_refuse_fault ["row"] (spP K (cA t) cZ):=
 fG T.F_refuse_fault jH fun cdv A outer s H E hr=>⟨_,(ah (b7 (i:=1) jH.nd rfl (by first | exact Or.inl rfl | exact Or.inr rfl) (aN ((rG T).mono (by decide)) hr rfl T.lN T.F_fault.kp T.b_fault .nil aS (ae (qv 0) aj)))
   (ak (bw (aD qE (qv 1) b8 (aL _)) (ak (ve T.k_Fault (oZ T) T.b_Fault_init (hr.mono (by decide)) aS rfl (ae (qv 1) aj))) aK))),
  (ax (cF (aV (af ag av)))
    (bz (ay (aw qQ ag cb)) (vI rfl (af ag av)) aJ))⟩
theorem nI (T:Txt K mg t):cy P w K mg base (CXE P w) 1 t.dm t.d_with_member ["tree","i"] (spP K (cA t) dm):=
 fG T.F_with_member km fun cdv A outer s H E hr=>⟨_,(ah (b7 (i:=2) km.nd rfl (by first | exact Or.inl rfl | exact Or.inr rfl) (eh d0 (qv 0) (qv 1) (fun _ _=>rfl)))
   (ah (bw (aD wj (eh iR (qv 2) aA (fun _ _=>rfl)) aF (aL _)) (ak (aB (qv 2))) aK)
   (ak (aB (dJ (ae (eh iR (qv 2) aA (fun _ _=>rfl)) (ae (eh iR (qv 2) aA (fun _ _=>rfl)) (ae (eh iR (qv 2) aA (fun _ _=>rfl)) (ae (eh iR (eh d0 (qv 0) (dr iO (qv 1) aA) (fun _ _=>rfl)) aA (fun _ _=>rfl)) aj))))))))),
  (ax (cF (aw eT ag ag))
    (ax (bz (ay (aw wK (aw iQ ag aq) aG)) kz aJ)
    (aE (dI (af (aw iQ ag aq) (af (aw iQ ag aq) (af (aw iQ ag aq) (af (aw iQ (aw eT ag (aw iT ag aq)) aq) av))))))))⟩
theorem rK (T:Txt K mg t):cy P w K mg base (CXE P w) 1 t.fz t.d_text_end ["row","at"] (spP K (cA t) fz):=
 fG T.F_text_end ki fun cdv A outer s H E hr=>⟨_,(ah (b7 (i:=2) ki.nd rfl (by first | exact Or.inl rfl | exact Or.inr rfl) (dr iO (qv 1) aA))
   (ah (jQ iu (aD wj (eh d0 (qv 0) (qv 2) (fun _ _=>rfl)) (aH rfl T.m_QUOTE T.r_QUOTE) (aL _)) (ak (mQ (i:=2) ki.nd rfl (Or.inl rfl) (dB (by exact (aD cD (eh d0 (qv 0) (qv 2) (fun _ _=>rfl)) (aH rfl T.m_BACKSLASH T.r_BACKSLASH) (aL _))) aA aA) mS)))
   (ak (aB (dr iO (qv 2) aA))))),
  (ax (cF (aw iT ag aq))
    (ax (kj (ay (aw wK (aw eT ag ag) aq)) (gB (gP (ay (aw cC (aw eT ag ag) aq)) aq aq)))
    (aE (aw iT ag aq))))⟩
theorem qU (T:Txt K mg t):cy P w K mg base (CXE P w) 2 t.eI t.d_plain_end ["row","at"] (spP K (cA t) eI):=
 fG T.F_plain_end js fun cdv A outer s H E hr=>⟨_,(ah (b7 (i:=2) js.nd rfl (by first | exact Or.inl rfl | exact Or.inr rfl) (qv 1))
   (ah (jQ iu (rZ (p9 (aD jZ (qv 2) (df b6 rfl T.n_len L2.E.boot_len (ae (qv 0) aj)) (aL _)) (p9 (ua (dR (aN ((iJ T).mono (by decide)) hr rfl T.fU T.F_is_white.kp T.b_is_white .nil aS (ae (eh d0 (qv 0) (qv 2) (fun _ _=>rfl)) aj)) (fun _=>rfl))) (pY (aD o8 (eh d0 (qv 0) (qv 2) (fun _ _=>rfl)) (dJ (ae (aH rfl T.m_COMMA T.r_COMMA) (ae (aH rfl T.m_ROW_END T.r_ROW_END) (ae (aH rfl T.m_FIELDS_END T.r_FIELDS_END) aj)))) rfl))))) (ak (mQ (i:=2) js.nd rfl (Or.inl rfl) aA mS)))
   (ak (aB (qv 2))))),
  (ax (cF ag)
    (ax (kj (qs (ay (aw j7 ag (fF gz ag))) (qs (w9 (eD (aV (af (aw eT ag ag) av)))) (ay (aw (sA hr.units) (aw eT ag ag) (dI (af aq (af aq (af aq av)))))))) (gB aq))
    kz))⟩
theorem tw (T:Txt K mg t):cy P w K mg base (CXE P w) 2 t.gd t.d_is_name ["row","end"] (spP K (cA t) gd):=
 fG T.F_is_name oo fun cdv A outer s H E hr=>⟨_,(ah (jQ iu (rZ (p9 (aD jZ (qv 1) (df b6 rfl T.n_len L2.E.boot_len (ae (qv 0) aj)) (aL _)) (pY (dR (aN ((iJ T).mono (by decide)) hr rfl T.fU T.F_is_white.kp T.b_is_white .nil aS (ae (eh d0 (qv 0) (qv 1) (fun _ _=>rfl)) aj)) (fun _=>rfl))))) (ak (mQ (i:=1) oo.nd rfl (Or.inl rfl) aA mS)))
   (ak (aB (mi (fR jZ (qv 1) (df b6 rfl T.n_len L2.E.boot_len (ae (qv 0) aj)) (aL _)) (oQ (fR cD (eh d0 (qv 0) (qv 1) (fun _ _=>rfl)) (aH rfl T.m_COLON T.r_COLON) (aL _))))))),
  (ax (kj (qs (ay (aw j7 ag (fF gz ag))) (eD (aV (af (aw eT ag ag) av)))) (gB aq))
    (aE (mJ (aw j7 ag (fF gz ag)) (aw cC (aw eT ag ag) aq))))⟩
theorem zp (T:Txt K mg t):cy P w K mg base (CXE P w) 3 t.iN t.d_leaf ["row","at","i"] (spP K (cA t) iN):=
 fG T.F_leaf qO fun cdv A outer s H E hr=>⟨_,(ah (b7 (i:=3) qO.nd rfl (by first | exact Or.inl rfl | exact Or.inr rfl) (vN (aH rfl T.m_KINDS T.r_KINDS) (eh d0 (qv 0) (qv 1) (fun _ _=>rfl)) aF))
   (ah (bw (aD wj (qv 3) aF (aL _)) (ak (aB (dJ (ae (qv 3) (ae (qv 1) (ae (aN ((qU T).mono (by decide)) hr rfl T.iy T.F_plain_end.kp T.b_plain_end .nil aS (ae (qv 0) (ae (qv 1) aj))) (ae (dr iO (qv 2) aA) aj))))))) aK)
   (ah (b7 (i:=4) qO.nd rfl (by first | exact Or.inl rfl | exact Or.inr rfl) (aN ((rK T).mono (by decide)) hr rfl T.jk T.F_text_end.kp T.b_text_end .nil aS (ae (qv 0) (ae (qv 1) aj))))
   (ak (aB (dJ (ae (dB (by exact (dR (aN ((tw T).mono (by decide)) hr rfl T.kx T.F_is_name.kp T.b_is_name .nil aS (ae (qv 0) (ae (qv 4) aj))) (fun _=>rfl))) aF aF) (ae (qv 1) (ae (qv 4) (ae (dr iO (qv 2) aA) aj)))))))))),
  (ax (cF (u9 T.q_KINDS (aw eT ag ag) aG))
    (ax (bz (ay (aw wK ag aG)) (aE (dI (af ag (af ag (af (aV (af ag (af ag av))) (af (aw iT ag aq) av)))))) aJ)
    (ax (cF (aV (af ag (af ag av))))
    (aE (dI (af (gP (eD (aV (af ag (af ag av)))) aG aG) (af ag (af ag (af (aw iT ag aq) av)))))))))⟩
theorem yd (T:Txt K mg t):cy P w K mg base (CXE P w) 11 t.gG t.d_nodes ["row"] (spP K (cA t) gG):=
 fG T.F_nodes fN fun cdv A outer s H E hr=>⟨_,(ah (hR (aN ((nk T).mono (by decide)) hr rfl T.eY T.F_refuse_fault.kp T.b_refuse_fault .nil aS (ae (qv 0) aj)))
   (ah (b7 (i:=1) fN.nd rfl (by first | exact Or.inl rfl | exact Or.inr rfl) (bu aj))
   (ah (b7 (i:=2) fN.nd rfl (by first | exact Or.inl rfl | exact Or.inr rfl) (bu aj))
   (ah (b7 (i:=3) fN.nd rfl (by first | exact Or.inl rfl | exact Or.inr rfl) aA)
   (ah (jQ iu (aD jZ (qv 3) (df b6 rfl T.n_len L2.E.boot_len (ae (qv 0) aj)) (aL _)) (ah (b7 (i:=4) fN.nd rfl (by first | exact Or.inl rfl | exact Or.inr rfl) (eh d0 (qv 0) (qv 3) (fun _ _=>rfl)))
   (ak (bw (aD gT (qv 4) (dJ (ae (aH rfl T.m_ROW_BEGIN T.r_ROW_BEGIN) (ae (aH rfl T.m_FIELDS_BEGIN T.r_FIELDS_BEGIN) aj))) rfl) (ah (hR (oy PySem.F.plainAttrs_list PySem.F.slot_list_append PySem.F.type_list_append fD (qv 2) (ae (df b6 rfl T.n_len L2.E.boot_len (ae (qv 1) aj)) aj)))
   (ah (hR (oy PySem.F.plainAttrs_list PySem.F.slot_list_append PySem.F.type_list_append fD (qv 1) (ae (dJ (ae (eh D9 (aH rfl T.m_KINDS T.r_KINDS) (qv 4) (fun _ _=>rfl)) (ae (qv 3) aj))) aj)))
   (ak (mQ (i:=3) fN.nd rfl (Or.inl rfl) aA mS)))) (ak (bw (aD gT (qv 4) (dJ (ae (aH rfl T.m_ROW_END T.r_ROW_END) (ae (aH rfl T.m_FIELDS_END T.r_FIELDS_END) aj))) rfl) (ah (mQ (i:=3) fN.nd rfl (Or.inl rfl) aA mS)
   (ah (b7 (i:=5) fN.nd rfl (by first | exact Or.inl rfl | exact Or.inr rfl) (xv PySem.F.plainAttrs_list PySem.F.slot_list_pop PySem.F.type_list_pop xY (qv 2)))
   (ak (CY (dJ (ae (eh iR (eh d0 (qv 1) (qv 5) (fun _ _=>rfl)) aA (fun _ _=>rfl)) (ae (eh iR (eh d0 (qv 1) (qv 5) (fun _ _=>rfl)) aA (fun _ _=>rfl)) (ae (qv 3) (ae (df b6 rfl T.n_len L2.E.boot_len (ae (qv 1) aj)) aj))))) (Cn (qv 1) (qv 5) set_list))))) (ak (bw (rZ (Ap (dR (aN ((iJ T).mono (by decide)) hr rfl T.fU T.F_is_white.kp T.b_is_white .nil aS (ae (qv 4) aj)) (fun _=>rfl)) (v8 (aD gT (qv 4) (dJ (ae (aH rfl T.m_COMMA T.r_COMMA) (ae (aH rfl T.m_COLON T.r_COLON) aj))) rfl)))) (ak (mQ (i:=3) fN.nd rfl (Or.inl rfl) aA mS)) (ah (hR (oy PySem.F.plainAttrs_list PySem.F.slot_list_append PySem.F.type_list_append fD (qv 1) (ae (aN ((zp T).mono (by decide)) hr rfl T.oB T.F_leaf.kp T.b_leaf .nil aS (ae (qv 0) (ae (qv 3) (ae (df b6 rfl T.n_len L2.E.boot_len (ae (qv 1) aj)) aj)))) aj)))
   (ak (b7 (i:=3) fN.nd rfl (by first | exact Or.inl rfl | exact Or.inr rfl) (eh iR (eh d0 (qv 1) (xJ sZ aA) (fun _ _=>rfl)) aA (fun _ _=>rfl)))))))))))))
   (ak (aB (qH (M:=["tree"]) (ι:=[1]) (x:="i") ⟨rfl,rfl,rfl,rfl,rfl,rfl,rfl,rfl,rfl,rfl,rfl,by decide +kernel⟩ rfl (pD rfl T.n_range (ae (df b6 rfl T.n_len L2.E.boot_len (ae (qv 1) aj)) aj)) fun _ _ _ _=>(aN ((nI T).mono (by decide)) hr rfl T.fP T.F_with_member.kp T.b_with_member .nil wX (ae (qv 0) (ae (qv 1) aj))))))))))),
  (ax (uz (aV (af ag av)))
    (ax (cF (br av))
    (ax (uY (Bq (br av)))
    (ax (cF aq)
    (ax (kj (ay (aw j7 ag (fF gz ag))) (ax (cF (aw eT ag ag))
    (bz (ay (aw (jI hr.units) ag (dI (af aq (af aq av))))) (ax (tF gW (Bq (fF gz ag)))
    (ax (i4 (dI (af (zD T.q_KINDS ag) (af ag av))))
    (gB aq))) (bz (ay (aw (jI hr.units) ag (dI (af aq (af aq av))))) (ax (gB aq)
    (ax (qd (uX gW))
    (Ce ag (dI (af (aw iQ (aw eT ag ag) aq) (af (aw iQ (aw eT ag ag) aq) (af ag (af (fF gz ag) av)))))))) (bz (A6 (eD (aV (af ag av))) (ay (aw (jI hr.units) ag (dI (af aq (af aq av)))))) (gB aq) (ax (i4 (aV (af ag (af ag (af (fF gz ag) av)))))
    (cF (aw iQ (aw eT ag (xp tU aq)) aq))))))))
    (kB (i:=1) (aE (rW (by decide) (fF gz ag) (aV (af ag (af ag av)))))))))))⟩
theorem lO (T:Txt K mg t):cy P w K mg base (CXE P w) 1 t.d9 t.d_law_whole ["_law_found"] (spP K (cA t) d9):=
 fG T.F_law_whole qX fun cdv A outer s H E hr=>⟨_,(ak (aB (mi (df oh rfl T.n_isinstance L2.E.boot_isinstance (ae (qv 0) (ae (qK (v:=.ty _) rfl T.n_int L2.E.boot_int rfl) aj))) (oQ (Bi (df oh rfl T.n_isinstance L2.E.boot_isinstance (ae (qv 0) (ae (qK (v:=.ty _) rfl T.n_bool L2.E.boot_bool rfl) aj)))))))),
  (aE (mJ (tW ag) (Df (tW ag))))⟩
theorem rX (T:Txt K mg t):cy P w K mg base (CXE P w) 1 t.fj t.d_law_cell ["_law_script","_law_k"] (spP K (cA t) fj):=
 fG T.F_law_cell sG fun cdv A outer s H E hr=>⟨_,(ah (bw (dR (qv 0) (fun _=>rfl)) (ak (aB (eh d0 (qv 0) (dr jm (qv 1) (df b6 rfl T.n_len L2.E.boot_len (ae (qv 0) aj))) (fun _ _=>rfl)))) aK)
   (ak (aB aA))),
  (ax (bz (eD ag) (aE (aw eT ag (aw je ag (fF gz ag)))) aJ)
    (aE aq))⟩
theorem jh (T:Txt K mg t):cy P w K mg base (CXE P w) 2 t.dO t.d_law_mix ["_law_script","_law_k"] (spP K (cA t) dO):=
 fG T.F_law_mix lh fun cdv A outer s H E hr=>⟨_,(ah (b7 (i:=2) lh.nd rfl (by first | exact Or.inl rfl | exact Or.inr rfl) (dr jm (dr iO (aN ((rX T).mono (by decide)) hr rfl T.i5 T.F_law_cell.kp T.b_law_cell .nil aS (ae (qv 0) (ae (qv 1) aj))) (dr uh aA (dr iO (qv 1) aA))) aA))
   (ah (b7 (i:=2) lh.nd rfl (by first | exact Or.inl rfl | exact Or.inr rfl) (dr jm (dr uh (qv 2) aA) aA))
   (ak (aB (dr jm (dr iO (dr uh (dr qT (qv 2) aA) aA) (qv 2)) aA))))),
  (ax (cF (aw je (aw iT (aV (af ag (af ag av))) (aw tN aq (aw iT ag aq))) aq))
    (ax (cF (aw je (aw tN ag aq) aq))
    (aE (aw je (aw iT (aw tN (aw qk ag aq) aq) ag) aq))))⟩
theorem Cz (T:Txt K mg t):cy P w K mg base (CXE P w) 12 t.n6 t.d_law ["_law_script"] (spP K (cA t) n6):=
 fG T.F_law fi fun cdv A outer s H E hr=>⟨_,(ah (b7 (i:=1) fi.nd rfl (by first | exact Or.inl rfl | exact Or.inr rfl) (dr iO aA (dr jm (aN ((jh T).mono (by decide)) hr rfl T.gD T.F_law_mix.kp T.b_law_mix .nil aS (ae (qv 0) (ae aA aj))) aA)))
   (ah (yV (i:=2) fi.nd rfl (by first | exact Or.inl rfl | exact Or.inr rfl) (M:=["_law_script"]) (ι:=[0]) (x:="_law_k") ⟨rfl,rfl,rfl,rfl,rfl,rfl,rfl,rfl,rfl,rfl,rfl,by decide +kernel⟩ rfl (pD rfl T.n_range (ae (qv 1) aj)) fun _ _ _ _=>(dr jm (dr qT (dr qT (aN ((jh T).mono (by decide)) hr rfl T.gD T.F_law_mix.kp T.b_law_mix .nil wX (ae (qv 0) (ae aA aj))) (dr iO aA (dr jm (qv 1) aA))) aA) aA))
   (ah (b7 (i:=3) fi.nd rfl (by first | exact Or.inl rfl | exact Or.inr rfl) (bu aj))
   (ah (b7 (i:=4) fi.nd rfl (by first | exact Or.inl rfl | exact Or.inr rfl) (bu aj))
   (ah (ug iu rfl (qz (qv 2)) (nA (i:=5) fi.nd rfl (by first | exact Or.inl rfl | exact Or.inr rfl)) (ah (hR (oy PySem.F.plainAttrs_list PySem.F.slot_list_append PySem.F.type_list_append fD (qv 4) (ae (df b6 rfl T.n_len L2.E.boot_len (ae (qv 3) aj)) aj)))
   (ak (b7 (i:=3) fi.nd rfl (by first | exact Or.inl rfl | exact Or.inr rfl) (dr kC (qv 3) (eh d0 (bu (ae (bu (ae aA aj)) (ae (bu (ae aA (ae aA (ae aA (ae aA (ae aA aj)))))) aj))) (qv 5) (fun _ _=>rfl)))))))
   (ah (b7 (i:=6) fi.nd rfl (by first | exact Or.inl rfl | exact Or.inr rfl) (Ei (fR cD (eh d0 (qv 2) (xJ sZ aA) (fun _ _=>rfl)) aA (aL _)) (oQ (fR cD (dr jm (aN ((jh T).mono (by decide)) hr rfl T.gD T.F_law_mix.kp T.b_law_mix .nil aS (ae (qv 0) (ae aA aj))) aA) aA (aL _)))))
   (ah (bw (dR (qv 6) (fun _=>rfl)) (ak (hR (oy PySem.F.plainAttrs_list PySem.F.slot_list_append PySem.F.type_list_append fD (qv 3) (ae aA aj)))) aK)
   (ah (b7 (i:=7) fi.nd rfl (by first | exact Or.inl rfl | exact Or.inr rfl) (fR AM (dr jm (aN ((jh T).mono (by decide)) hr rfl T.gD T.F_law_mix.kp T.b_law_mix .nil aS (ae (qv 0) (ae aA aj))) aA) aA (aL _)))
   (ah (ug iu rfl (C4 rfl T.n_reversed (ae (yb zT (qv 2) (Ak (dr qg aA (vq vQ rfl T.n_int L2.E.boot_int (ae (qv 7) aj)))) yG) aj)) (nA (i:=5) fi.nd rfl (by first | exact Or.inl rfl | exact Or.inr rfl)) (ak (hR (oy PySem.F.plainAttrs_list PySem.F.slot_list_append PySem.F.type_list_append fD (qv 3) (ae (eh d0 (bu (ae aA (ae aA aj))) (qv 5) (fun _ _=>rfl)) aj)))))
   (ah (b7 (i:=8) fi.nd rfl (by first | exact Or.inl rfl | exact Or.inr rfl) b8)
   (ah (bw (aD AM (qv 1) aA (aL _)) (ak (b7 (i:=8) fi.nd rfl (by first | exact Or.inl rfl | exact Or.inr rfl) (eh d0 (qv 4) aA (fun _ _=>rfl)))) (ak (bw (ua (dR (qv 7) (fun _=>rfl))) (ak (b7 (i:=8) fi.nd rfl (by first | exact Or.inl rfl | exact Or.inr rfl) (df b6 rfl T.n_len L2.E.boot_len (ae (qv 3) aj)))) aK)))
   (ah (b7 (i:=9) fi.nd rfl (by first | exact Or.inl rfl | exact Or.inr rfl) (aN ((rG T).mono (by decide)) hr rfl T.lN T.F_fault.kp T.b_fault .nil aS (ae (qv 3) aj)))
   (ah (b7 (i:=10) fi.nd rfl (by first | exact Or.inl rfl | exact Or.inr rfl) b8)
   (ah (wz (i:=11) ⟨rfl,rfl⟩ fi.nd rfl rfl (fun _ _ _ hW hO=>(ak (hR (aN ((yd T).mono (by decide)) hr rfl T.lz T.F_nodes.kp T.b_nodes .nil hW (ae (qv 3) aj))))) rfl T.m_Fault (fun _=>(ak (b7 (i:=10) fi.nd rfl (by first | exact Or.inl rfl | exact Or.inr rfl) (yF (qv 11))))) aS)
   (ah (bw (aD kf (qv 8) b8 (aL _)) (ak (aB (mi (fR kf (qv 9) b8 (aL _)) (oQ (fR kf (qv 10) b8 (aL _)))))) aK)
   (ak (aB (mi (aN ((lO T).mono (by decide)) hr rfl T.gO T.F_law_whole.kp T.b_law_whole .nil aS (ae (qv 9) aj)) (mi (aN ((lO T).mono (by decide)) hr rfl T.gO T.F_law_whole.kp T.b_law_whole .nil aS (ae (qv 10) aj)) (mi (fR cD (qv 9) (qv 8) (aL _)) (oQ (fR cD (qv 10) (qv 8) (aL _))))))))))))))))))))))),
  (ax (cF (aw iT aq (aw je (aV (af ag (af aq av))) aq)))
    (ax (cF (rW (by decide) ag (aw je (aw qk (aw qk (aV (af ag (af aq av))) (aw iT aq (aw je ag aq))) aq) aq)))
    (ax (cF (br av))
    (ax (cF (br av))
    (ax (kB (i:=2) (zx ag (ax (i4 (fF gz ag))
    (cF (aw mP ag (aw eT (br (af (br (af aq av)) (af (br (af aq (af aq (af aq (af aq (af aq av)))))) av))) ag))))))
    (ax (cF (DK (aw cC (aw eT ag (xp tU aq)) aq) (aw cC (aw je (aV (af ag (af aq av))) aq) aq)))
    (ax (bz (eD ag) (i4 aq) aJ)
    (ax (cF (aw As (aw je (aV (af ag (af aq av))) aq) aq))
    (ax (xD (BD ag (ze (aw qe aq (fF An ag))) zW) (i4 (aw eT (br (af aq (af aq av))) ag)))
    (ax (cF cb)
    (ax (bz (ay (aw As ag aq)) (cF (aw eT ag aq)) (bz (w9 (eD ag)) (cF (fF gz ag)) aJ))
    (ax (kB (i:=3) (cF (aV (af ag av))))
    (ax (cF cb)
    (ax (x9 (fun _=>(kB (i:=3) (uz (aV (af ag av))))) (cF (zg (DH T))) (nL T))
    (ax (bz (ay (aw jV ag cb)) (aE (mJ (aw jV ag cb) (aw jV ag cb))) aJ)
    (aE (mJ (aV (af ag av)) (mJ (aV (af ag av)) (mJ (aw cC ag ag) (aw cC ag ag))))))))))))))))))))⟩
end
open PySem.W in
theorem all_mk {l:PySem.W.OpenLaw} {w:World} {K:PySem.W.Frag} {h:Heap} {mg:Str -> Option Value} {fa:Addr} (X:K.In h) (G:h.Ns mainGlobals mg) (hfa:mg "law" = some (.ref fa))
  (a0:nsIn K mainGlobals "tails" = some (some (.ref f0))) (l0:K.lookup f0 = some ⟨oc0,od0,.func (fnOf "tails" "tails" (aY jb) (aT jb) (ao jb) .none kV0 dc0 pm0 an0 cd0 ct0),sl0⟩) (c0:codeIn K cd0 "tails" = true) (k0:keepIn K (.ref f0) = true)
  (a1:nsIn K mainGlobals "second_of_three" = some (some (.ref f1))) (l1:K.lookup f1 = some ⟨oc1,od1,.func (fnOf "second_of_three" "second_of_three" (aY da) (aT da) (ao da) .none kV1 dc1 pm1 an1 cd1 ct1),sl1⟩) (c1:codeIn K cd1 "second_of_three" = true) (k1:keepIn K (.ref f1) = true)
  (a2:nsIn K mainGlobals "second_of_four" = some (some (.ref f2))) (l2:K.lookup f2 = some ⟨oc2,od2,.func (fnOf "second_of_four" "second_of_four" (aY dh) (aT dh) (ao dh) .none kV2 dc2 pm2 an2 cd2 ct2),sl2⟩) (c2:codeIn K cd2 "second_of_four" = true) (k2:keepIn K (.ref f2) = true)
  (a3:nsIn K mainGlobals "is_white" = some (some (.ref f3))) (l3:K.lookup f3 = some ⟨oc3,od3,.func (fnOf "is_white" "is_white" (aY fX) (aT fX) (ao fX) .none kV3 dc3 pm3 an3 cd3 ct3),sl3⟩) (c3:codeIn K cd3 "is_white" = true) (k3:keepIn K (.ref f3) = true)
  (a4:nsIn K mainGlobals "is_figure" = some (some (.ref f4))) (l4:K.lookup f4 = some ⟨oc4,od4,.func (fnOf "is_figure" "is_figure" (aY fw) (aT fw) (ao fw) .none kV4 dc4 pm4 an4 cd4 ct4),sl4⟩) (c4:codeIn K cd4 "is_figure" = true) (k4:keepIn K (.ref f4) = true)
  (a5:nsIn K mainGlobals "hex_worth" = some (some (.ref f5))) (l5:K.lookup f5 = some ⟨oc5,od5,.func (fnOf "hex_worth" "hex_worth" (aY fo) (aT fo) (ao fo) .none kV5 dc5 pm5 an5 cd5 ct5),sl5⟩) (c5:codeIn K cd5 "hex_worth" = true) (k5:keepIn K (.ref f5) = true)
  (a6:nsIn K mainGlobals "word_rest" = some (some (.ref f6))) (l6:K.lookup f6 = some ⟨oc6,od6,.func (fnOf "word_rest" "word_rest" (aY fq) (aT fq) (ao fq) .none kV6 dc6 pm6 an6 cd6 ct6),sl6⟩) (c6:codeIn K cd6 "word_rest" = true) (k6:keepIn K (.ref f6) = true)
  (a7:nsIn K mainGlobals "short_escape" = some (some (.ref f7))) (l7:K.lookup f7 = some ⟨oc7,od7,.func (fnOf "short_escape" "short_escape" (aY dZ) (aT dZ) (ao dZ) .none kV7 dc7 pm7 an7 cd7 ct7),sl7⟩) (c7:codeIn K cd7 "short_escape" = true) (k7:keepIn K (.ref f7) = true)
  (a8:nsIn K mainGlobals "behind" = some (some (.ref f8))) (l8:K.lookup f8 = some ⟨oc8,od8,.func (fnOf "behind" "behind" (aY ik) (aT ik) (ao ik) .none kV8 dc8 pm8 an8 cd8 ct8),sl8⟩) (c8:codeIn K cd8 "behind" = true) (k8:keepIn K (.ref f8) = true)
  (a9:nsIn K mainGlobals "behind_value" = some (some (.ref f9))) (l9:K.lookup f9 = some ⟨oc9,od9,.func (fnOf "behind_value" "behind_value" (aY dW) (aT dW) (ao dW) .none kV9 dc9 pm9 an9 cd9 ct9),sl9⟩) (c9:codeIn K cd9 "behind_value" = true) (k9:keepIn K (.ref f9) = true)
  (a10:nsIn K mainGlobals "behind_lead" = some (some (.ref f10))) (l10:K.lookup f10 = some ⟨oc10,od10,.func (fnOf "behind_lead" "behind_lead" (aY eA) (aT eA) (ao eA) .none kV10 dc10 pm10 an10 cd10 ct10),sl10⟩) (c10:codeIn K cd10 "behind_lead" = true) (k10:keepIn K (.ref f10) = true)
  (a11:nsIn K mainGlobals "behind_in_number" = some (some (.ref f11))) (l11:K.lookup f11 = some ⟨oc11,od11,.func (fnOf "behind_in_number" "behind_in_number" (aY cR) (aT cR) (ao cR) .none kV11 dc11 pm11 an11 cd11 ct11),sl11⟩) (c11:codeIn K cd11 "behind_in_number" = true) (k11:keepIn K (.ref f11) = true)
  (a12:nsIn K mainGlobals "behind_in_text" = some (some (.ref f12))) (l12:K.lookup f12 = some ⟨oc12,od12,.func (fnOf "behind_in_text" "behind_in_text" (aY dg) (aT dg) (ao dg) .none kV12 dc12 pm12 an12 cd12 ct12),sl12⟩) (c12:codeIn K cd12 "behind_in_text" = true) (k12:keepIn K (.ref f12) = true)
  (a13:nsIn K mainGlobals "behind_character" = some (some (.ref f13))) (l13:K.lookup f13 = some ⟨oc13,od13,.func (fnOf "behind_character" "behind_character" (aY cT) (aT cT) (ao cT) .none kV13 dc13 pm13 an13 cd13 ct13),sl13⟩) (c13:codeIn K cd13 "behind_character" = true) (k13:keepIn K (.ref f13) = true)
  (a14:nsIn K mainGlobals "behind_backslash" = some (some (.ref f14))) (l14:K.lookup f14 = some ⟨oc14,od14,.func (fnOf "behind_backslash" "behind_backslash" (aY cU) (aT cU) (ao cU) .none kV14 dc14 pm14 an14 cd14 ct14),sl14⟩) (c14:codeIn K cd14 "behind_backslash" = true) (k14:keepIn K (.ref f14) = true)
  (a15:nsIn K mainGlobals "behind_code_d" = some (some (.ref f15))) (l15:K.lookup f15 = some ⟨oc15,od15,.func (fnOf "behind_code_d" "behind_code_d" (aY dG) (aT dG) (ao dG) .none kV15 dc15 pm15 an15 cd15 ct15),sl15⟩) (c15:codeIn K cd15 "behind_code_d" = true) (k15:keepIn K (.ref f15) = true)
  (a16:nsIn K mainGlobals "behind_hex" = some (some (.ref f16))) (l16:K.lookup f16 = some ⟨oc16,od16,.func (fnOf "behind_hex" "behind_hex" (aY eL) (aT eL) (ao eL) .none kV16 dc16 pm16 an16 cd16 ct16),sl16⟩) (c16:codeIn K cd16 "behind_hex" = true) (k16:keepIn K (.ref f16) = true)
  (a17:nsIn K mainGlobals "behind_in_brackets" = some (some (.ref f17))) (l17:K.lookup f17 = some ⟨oc17,od17,.func (fnOf "behind_in_brackets" "behind_in_brackets" (aY cf) (aT cf) (ao cf) .none kV17 dc17 pm17 an17 cd17 ct17),sl17⟩) (c17:codeIn K cd17 "behind_in_brackets" = true) (k17:keepIn K (.ref f17) = true)
  (a18:nsIn K mainGlobals "behind_row_begin" = some (some (.ref f18))) (l18:K.lookup f18 = some ⟨oc18,od18,.func (fnOf "behind_row_begin" "behind_row_begin" (aY cS) (aT cS) (ao cS) .none kV18 dc18 pm18 an18 cd18 ct18),sl18⟩) (c18:codeIn K cd18 "behind_row_begin" = true) (k18:keepIn K (.ref f18) = true)
  (a19:nsIn K mainGlobals "behind_fields_begin" = some (some (.ref f19))) (l19:K.lookup f19 = some ⟨oc19,od19,.func (fnOf "behind_fields_begin" "behind_fields_begin" (aY b3) (aT b3) (ao b3) .none kV19 dc19 pm19 an19 cd19 ct19),sl19⟩) (c19:codeIn K cd19 "behind_fields_begin" = true) (k19:keepIn K (.ref f19) = true)
  (a20:nsIn K mainGlobals "member_rest" = some (some (.ref f20))) (l20:K.lookup f20 = some ⟨oc20,od20,.func (fnOf "member_rest" "member_rest" (aY eB) (aT eB) (ao eB) .none kV20 dc20 pm20 an20 cd20 ct20),sl20⟩) (c20:codeIn K cd20 "member_rest" = true) (k20:keepIn K (.ref f20) = true)
  (a21:nsIn K mainGlobals "fault" = some (some (.ref f21))) (l21:K.lookup f21 = some ⟨oc21,od21,.func (fnOf "fault" "fault" (aY jl) (aT jl) (ao jl) .none kV21 dc21 pm21 an21 cd21 ct21),sl21⟩) (c21:codeIn K cd21 "fault" = true) (k21:keepIn K (.ref f21) = true)
  (a22:nsIn K mainGlobals "refuse_fault" = some (some (.ref f22))) (l22:K.lookup f22 = some ⟨oc22,od22,.func (fnOf "refuse_fault" "refuse_fault" (aY dU) (aT dU) (ao dU) .none kV22 dc22 pm22 an22 cd22 ct22),sl22⟩) (c22:codeIn K cd22 "refuse_fault" = true) (k22:keepIn K (.ref f22) = true)
  (a23:nsIn K mainGlobals "nodes" = some (some (.ref f23))) (l23:K.lookup f23 = some ⟨oc23,od23,.func (fnOf "nodes" "nodes" (aY jj) (aT jj) (ao jj) .none kV23 dc23 pm23 an23 cd23 ct23),sl23⟩) (c23:codeIn K cd23 "nodes" = true) (k23:keepIn K (.ref f23) = true)
  (a24:nsIn K mainGlobals "leaf" = some (some (.ref f24))) (l24:K.lookup f24 = some ⟨oc24,od24,.func (fnOf "leaf" "leaf" (aY lg) (aT lg) (ao lg) .none kV24 dc24 pm24 an24 cd24 ct24),sl24⟩) (c24:codeIn K cd24 "leaf" = true) (k24:keepIn K (.ref f24) = true)
  (a25:nsIn K mainGlobals "plain_end" = some (some (.ref f25))) (l25:K.lookup f25 = some ⟨oc25,od25,.func (fnOf "plain_end" "plain_end" (aY ft) (aT ft) (ao ft) .none kV25 dc25 pm25 an25 cd25 ct25),sl25⟩) (c25:codeIn K cd25 "plain_end" = true) (k25:keepIn K (.ref f25) = true)
  (a26:nsIn K mainGlobals "text_end" = some (some (.ref f26))) (l26:K.lookup f26 = some ⟨oc26,od26,.func (fnOf "text_end" "text_end" (aY fV) (aT fV) (ao fV) .none kV26 dc26 pm26 an26 cd26 ct26),sl26⟩) (c26:codeIn K cd26 "text_end" = true) (k26:keepIn K (.ref f26) = true)
  (a27:nsIn K mainGlobals "is_name" = some (some (.ref f27))) (l27:K.lookup f27 = some ⟨oc27,od27,.func (fnOf "is_name" "is_name" (aY gF) (aT gF) (ao gF) .none kV27 dc27 pm27 an27 cd27 ct27),sl27⟩) (c27:codeIn K cd27 "is_name" = true) (k27:keepIn K (.ref f27) = true)
  (a28:nsIn K mainGlobals "with_member" = some (some (.ref f28))) (l28:K.lookup f28 = some ⟨oc28,od28,.func (fnOf "with_member" "with_member" (aY er) (aT er) (ao er) .none kV28 dc28 pm28 an28 cd28 ct28),sl28⟩) (c28:codeIn K cd28 "with_member" = true) (k28:keepIn K (.ref f28) = true)
  (a29:nsIn K mainGlobals "_law_cell" = some (some (.ref f29))) (l29:K.lookup f29 = some ⟨oc29,od29,.func (fnOf "_law_cell" "_law_cell" (aY fT) (aT fT) (ao fT) .none kV29 dc29 pm29 an29 cd29 ct29),sl29⟩) (c29:codeIn K cd29 "_law_cell" = true) (k29:keepIn K (.ref f29) = true)
  (a30:nsIn K mainGlobals "_law_mix" = some (some (.ref f30))) (l30:K.lookup f30 = some ⟨oc30,od30,.func (fnOf "_law_mix" "_law_mix" (aY gC) (aT gC) (ao gC) .none kV30 dc30 pm30 an30 cd30 ct30),sl30⟩) (c30:codeIn K cd30 "_law_mix" = true) (k30:keepIn K (.ref f30) = true)
  (a31:nsIn K mainGlobals "_law_whole" = some (some (.ref f31))) (l31:K.lookup f31 = some ⟨oc31,od31,.func (fnOf "_law_whole" "_law_whole" (aY fe) (aT fe) (ao fe) .none kV31 dc31 pm31 an31 cd31 ct31),sl31⟩) (c31:codeIn K cd31 "_law_whole" = true) (k31:keepIn K (.ref f31) = true)
  (a32:nsIn K mainGlobals "law" = some (some (.ref f32))) (l32:K.lookup f32 = some ⟨oc32,od32,.func (fnOf "law" "law" (aY nJ) (aT nJ) (ao nJ) .none kV32 dc32 pm32 an32 cd32 ct32),sl32⟩) (c32:codeIn K cd32 "law" = true) (k32:keepIn K (.ref f32) = true)
  (a33:findIn K (.ref C2) "__init__" = some (some (.ref f33))) (i33:isFn K (.ref f33) = true) (l33:K.lookup f33 = some ⟨oc33,od33,.func (fnOf "__init__" "Walk.__init__" (aY dE) (aT dE) (ao dE) .none kV33 dc33 pm33 an33 cd33 ct33),sl33⟩) (c33:codeIn K cd33 "Walk.__init__" = true) (k33:keepIn K (.ref f33) = true)
  (a34:findIn K (.ref C2) "take" = some (some (.ref f34))) (i34:isFn K (.ref f34) = true) (l34:K.lookup f34 = some ⟨oc34,od34,.func (fnOf "take" "Walk.take" (aY fb) (aT fb) (ao fb) .none kV34 dc34 pm34 an34 cd34 ct34),sl34⟩) (c34:codeIn K cd34 "Walk.take" = true) (k34:keepIn K (.ref f34) = true)
  (a35:findIn K (.ref C2) "goes_on" = some (some (.ref f35))) (i35:isFn K (.ref f35) = true) (l35:K.lookup f35 = some ⟨oc35,od35,.func (fnOf "goes_on" "Walk.goes_on" (aY dY) (aT dY) (ao dY) .none kV35 dc35 pm35 an35 cd35 ct35),sl35⟩) (c35:codeIn K cd35 "Walk.goes_on" = true) (k35:keepIn K (.ref f35) = true)
  (a36:findIn K (.ref C2) "brackets" = some (some (.ref f36))) (i36:isFn K (.ref f36) = true) (l36:K.lookup f36 = some ⟨oc36,od36,.func (fnOf "brackets" "Walk.brackets" (aY dH) (aT dH) (ao dH) .none kV36 dc36 pm36 an36 cd36 ct36),sl36⟩) (c36:codeIn K cd36 "Walk.brackets" = true) (k36:keepIn K (.ref f36) = true)
  (a37:findIn K (.ref C2) "is_whole" = some (some (.ref f37))) (i37:isFn K (.ref f37) = true) (l37:K.lookup f37 = some ⟨oc37,od37,.func (fnOf "is_whole" "Walk.is_whole" (aY dD) (aT dD) (ao dD) .none kV37 dc37 pm37 an37 cd37 ct37),sl37⟩) (c37:codeIn K cd37 "Walk.is_whole" = true) (k37:keepIn K (.ref f37) = true)
  (z0:nsIn K mainGlobals "isinstance" = some none)
  (z1:nsIn K mainGlobals "tuple" = some none)
  (z2:nsIn K mainGlobals "len" = some none)
  (z3:nsIn K mainGlobals "range" = some none)
  (z4:nsIn K mainGlobals "int" = some none)
  (z5:nsIn K mainGlobals "bool" = some none)
  (z6:nsIn K mainGlobals "reversed" = some none)
  (z7:nsIn K mainGlobals "enumerate" = some none)
  (z8:nsIn K mainGlobals "all" = some none)
  (z9:nsIn K mainGlobals "ValueError" = some none)
  (ca2:nsIn K mainGlobals "Walk" = some (some (.ref C2))) (pg2:plainGet K C2 Str.empty = true) (hd2:hasDictIn K C2 = true) (po2:plainOver K C2 = true) (sa2:findIn K (.ref C2) "__setattr__" = some (some (.builtin "object.__setattr__"))) (mk2:makesIn K C2 = true) (kc2:keepIn K (.ref C2) = true)
  (na2_0:findIn K (.ref C2) "coming" = some none)
  (ca0:nsIn K mainGlobals "GlassError" = some (some (.ref C0))) (cl0:K.lookup C0 = some (excClassObj nm0 qn0 C0 N0 bs0 [.type "ValueError",.type "Exception",.type "BaseException",.type "object"] hd0 sn0 sub0 ab0 co0 dd0 p00 p10 p20 p30 p50 id0))
  (cx0:excIn K C0 [.type "ValueError",.type "Exception",.type "BaseException",.type "object"] "ValueError.__new__" = true)
  (ca1:nsIn K mainGlobals "Fault" = some (some (.ref C1))) (cl1:K.lookup C1 = some (excClassObj nm1 qn1 C1 N1 bs1 [.ref C0,.type "ValueError",.type "Exception",.type "BaseException",.type "object"] hd1 sn1 sub1 ab1 co1 dd1 p01 p11 p21 p31 p51 "ValueError.__new__"))
  (ii1:findIn K (.ref C1) "__init__" = some (some (.ref fi1))) (il1:K.lookup fi1 = some ⟨.type "function",oi1,.func (fnOf "__init__" "Fault.__init__" (aY eM) (aT eM) (ao eM) .none kI1 dI1 pI1 ai1 cI1 tI1),si1⟩) (ic1:codeIn K cI1 "Fault.__init__" = true) (ik1:keepIn K (.ref fi1) = true)
  (xa1:hasDictIn K C1 = true) (xc1:findIn K (.ref C1) "__setattr__" = some (some (.builtin "object.__setattr__"))) (xd1:findIn K (.ref C1) "__getattribute__" = some (some (.builtin "BaseException.__getattribute__"))) (xe1:findIn K (.ref C1) "__getattr__" = some none) (xf1:findIn K (.ref C1) "at" = some none)
  (va0:nsIn K mainGlobals "TAIL" = some (some (.ref v0))) (vl0:K.lookup v0 = some ⟨.type "tuple",vd0,.seq #[.int 128 t0_0,.int 191 t0_1] vn0,vs0⟩)
  (va1:nsIn K mainGlobals "BLANK" = some (some (.int 32 t1)))
  (va2:nsIn K mainGlobals "QUOTE" = some (some (.int 34 t2)))
  (va3:nsIn K mainGlobals "PLUS" = some (some (.int 43 t3)))
  (va4:nsIn K mainGlobals "COMMA" = some (some (.int 44 t4)))
  (va5:nsIn K mainGlobals "MINUS" = some (some (.int 45 t5)))
  (va6:nsIn K mainGlobals "POINT" = some (some (.int 46 t6)))
  (va7:nsIn K mainGlobals "NOUGHT" = some (some (.int 48 t7)))
  (va8:nsIn K mainGlobals "NINE" = some (some (.int 57 t8)))
  (va9:nsIn K mainGlobals "COLON" = some (some (.int 58 t9)))
  (va10:nsIn K mainGlobals "BIG_E" = some (some (.int 69 t10)))
  (va11:nsIn K mainGlobals "ROW_BEGIN" = some (some (.int 91 t11)))
  (va12:nsIn K mainGlobals "BACKSLASH" = some (some (.int 92 t12)))
  (va13:nsIn K mainGlobals "ROW_END" = some (some (.int 93 t13)))
  (va14:nsIn K mainGlobals "SMALL_E" = some (some (.int 101 t14)))
  (va15:nsIn K mainGlobals "SMALL_U" = some (some (.int 117 t15)))
  (va16:nsIn K mainGlobals "FIELDS_BEGIN" = some (some (.int 123 t16)))
  (va17:nsIn K mainGlobals "FIELDS_END" = some (some (.int 125 t17)))
  (va18:nsIn K mainGlobals "WHITE" = some (some (.ref v18))) (vl18:K.lookup v18 = some ⟨.type "tuple",vd18,.seq #[.int 9 t18_0,.int 10 t18_1,.int 13 t18_2,.int 32 t18_3] vn18,vs18⟩)
  (va19:nsIn K mainGlobals "WORDS" = some (some (.ref v19))) (vl19:K.lookup v19 = some ⟨.type "dict",none,.dict #[⟨110,.int 110 tk19_0,.ref w19_0⟩,⟨116,.int 116 tk19_1,.ref w19_1⟩,⟨102,.int 102 tk19_2,.ref w19_2⟩] ep19,#[]⟩)
  (wl19_0:K.lookup w19_0 = some ⟨.type "tuple",wd19_0,.seq #[.int 117 tx19_0_0,.int 108 tx19_0_1,.int 108 tx19_0_2] wn19_0,ws19_0⟩)
  (wl19_1:K.lookup w19_1 = some ⟨.type "tuple",wd19_1,.seq #[.int 114 tx19_1_0,.int 117 tx19_1_1,.int 101 tx19_1_2] wn19_1,ws19_1⟩)
  (wl19_2:K.lookup w19_2 = some ⟨.type "tuple",wd19_2,.seq #[.int 97 tx19_2_0,.int 108 tx19_2_1,.int 115 tx19_2_2,.int 101 tx19_2_3] wn19_2,ws19_2⟩)
  (vm19:(v19 == sysModules) = false)
  (va20:nsIn K mainGlobals "SHORT_ESCAPES" = some (some (.ref v20))) (vl20:K.lookup v20 = some ⟨.type "dict",none,.dict #[⟨34,.int 34 tk20_0,(.int 34 tv20_0)⟩,⟨92,.int 92 tk20_1,(.int 92 tv20_1)⟩,⟨47,.int 47 tk20_2,(.int 47 tv20_2)⟩,⟨98,.int 98 tk20_3,(.int 8 tv20_3)⟩,⟨102,.int 102 tk20_4,(.int 12 tv20_4)⟩,⟨110,.int 110 tk20_5,(.int 10 tv20_5)⟩,⟨114,.int 114 tk20_6,(.int 13 tv20_6)⟩,⟨116,.int 116 tk20_7,(.int 9 tv20_7)⟩] ep20,#[]⟩)
  (vm20:(v20 == sysModules) = false)
  (va21:nsIn K mainGlobals "MOST_BRACKETS" = some (some (.int 64 t21)))
  (va22:nsIn K mainGlobals "LOOSE" = some (some (.ref v22))) (vl22:K.lookup v22 = some ⟨.type "tuple",vd22,.seq #[.str "white" t22_0,.str "figures" t22_1,.str "fraction" t22_2,.str "exponent" t22_3,.str "sign" t22_4] vn22,vs22⟩)
  (va23:nsIn K mainGlobals "UNENDED" = some (some (.ref v23))) (vl23:K.lookup v23 = some ⟨.type "tuple",vd23,.seq #[.str "row" t23_0,.str "more row" t23_1,.str "fields" t23_2,.str "more fields" t23_3] vn23,vs23⟩)
  (va24:nsIn K mainGlobals "KINDS" = some (some (.ref v24))) (vl24:K.lookup v24 = some ⟨.type "dict",none,.dict #[⟨34,.int 34 tk24_0,(.str "text" tv24_0)⟩,⟨91,.int 91 tk24_1,(.str "row" tv24_1)⟩,⟨102,.int 102 tk24_2,(.str "false" tv24_2)⟩,⟨110,.int 110 tk24_3,(.str "null" tv24_3)⟩,⟨116,.int 116 tk24_4,(.str "true" tv24_4)⟩,⟨123,.int 123 tk24_5,(.str "fields" tv24_5)⟩] ep24,#[]⟩)
  (vm24:(v24 == sysModules) = false):
  ∃ fd:FuncData,(∀ (s:Shared) (v:Value),BindsTo s fd ⟨[v],[]⟩ [("_law_script",v)]) /\ ∀ base:Heap,K.In base -> base.Ns mainGlobals mg -> cy l.prog w K mg base (CXE l.prog w) 12 fa fd ["_law_script"] (qf K):=by
 have e:=hfa.symm.trans (PySem.W.mg_of X G a32)
 cases e
 have T:Txt K mg ⟨f0,_,f1,_,f2,_,f3,_,f4,_,f5,_,f6,_,f7,_,f8,_,f9,_,f10,_,f11,_,f12,_,f13,_,f14,_,f15,_,f16,_,f17,_,f18,_,f19,_,f20,_,f21,_,f22,_,f23,_,f24,_,f25,_,f26,_,f27,_,f28,_,f29,_,f30,_,f31,_,f32,_,f33,_,f34,_,f35,_,f36,_,f37,_,C0,C1,fi1,_,C2,v0,_,_,_,_,_,_,_,_,_,_,_,_,_,_,_,_,_,v18,v19,v20,_,v22,v23,v24⟩:=⟨aI (st:=jb) l0 c0 k0,PySem.W.mg_of X G a0,(aI (st:=jb) l0 c0 k0).binds (ps:=["byte"]) fun _ _ _ _ _ _ us hl=>match us,hl with | [_],_=>rfl,
  aI (st:=da) l1 c1 k1,PySem.W.mg_of X G a1,(aI (st:=da) l1 c1 k1).binds (ps:=["byte"]) fun _ _ _ _ _ _ us hl=>match us,hl with | [_],_=>rfl,
  aI (st:=dh) l2 c2 k2,PySem.W.mg_of X G a2,(aI (st:=dh) l2 c2 k2).binds (ps:=["byte"]) fun _ _ _ _ _ _ us hl=>match us,hl with | [_],_=>rfl,
  aI (st:=fX) l3 c3 k3,PySem.W.mg_of X G a3,(aI (st:=fX) l3 c3 k3).binds (ps:=["byte"]) fun _ _ _ _ _ _ us hl=>match us,hl with | [_],_=>rfl,
  aI (st:=fw) l4 c4 k4,PySem.W.mg_of X G a4,(aI (st:=fw) l4 c4 k4).binds (ps:=["byte"]) fun _ _ _ _ _ _ us hl=>match us,hl with | [_],_=>rfl,
  aI (st:=fo) l5 c5 k5,PySem.W.mg_of X G a5,(aI (st:=fo) l5 c5 k5).binds (ps:=["byte"]) fun _ _ _ _ _ _ us hl=>match us,hl with | [_],_=>rfl,
  aI (st:=fq) l6 c6 k6,PySem.W.mg_of X G a6,(aI (st:=fq) l6 c6 k6).binds (ps:=["byte"]) fun _ _ _ _ _ _ us hl=>match us,hl with | [_],_=>rfl,
  aI (st:=dZ) l7 c7 k7,PySem.W.mg_of X G a7,(aI (st:=dZ) l7 c7 k7).binds (ps:=["byte"]) fun _ _ _ _ _ _ us hl=>match us,hl with | [_],_=>rfl,
  aI (st:=ik) l8 c8 k8,PySem.W.mg_of X G a8,(aI (st:=ik) l8 c8 k8).binds (ps:=["item","byte"]) fun _ _ _ _ _ _ us hl=>match us,hl with | [_,_],_=>rfl,
  aI (st:=dW) l9 c9 k9,PySem.W.mg_of X G a9,(aI (st:=dW) l9 c9 k9).binds (ps:=["byte"]) fun _ _ _ _ _ _ us hl=>match us,hl with | [_],_=>rfl,
  aI (st:=eA) l10 c10 k10,PySem.W.mg_of X G a10,(aI (st:=eA) l10 c10 k10).binds (ps:=["byte"]) fun _ _ _ _ _ _ us hl=>match us,hl with | [_],_=>rfl,
  aI (st:=cR) l11 c11 k11,PySem.W.mg_of X G a11,(aI (st:=cR) l11 c11 k11).binds (ps:=["item","byte"]) fun _ _ _ _ _ _ us hl=>match us,hl with | [_,_],_=>rfl,
  aI (st:=dg) l12 c12 k12,PySem.W.mg_of X G a12,(aI (st:=dg) l12 c12 k12).binds (ps:=["item","byte"]) fun _ _ _ _ _ _ us hl=>match us,hl with | [_,_],_=>rfl,
  aI (st:=cT) l13 c13 k13,PySem.W.mg_of X G a13,(aI (st:=cT) l13 c13 k13).binds (ps:=["byte"]) fun _ _ _ _ _ _ us hl=>match us,hl with | [_],_=>rfl,
  aI (st:=cU) l14 c14 k14,PySem.W.mg_of X G a14,(aI (st:=cU) l14 c14 k14).binds (ps:=["byte"]) fun _ _ _ _ _ _ us hl=>match us,hl with | [_],_=>rfl,
  aI (st:=dG) l15 c15 k15,PySem.W.mg_of X G a15,(aI (st:=dG) l15 c15 k15).binds (ps:=["worth"]) fun _ _ _ _ _ _ us hl=>match us,hl with | [_],_=>rfl,
  aI (st:=eL) l16 c16 k16,PySem.W.mg_of X G a16,(aI (st:=eL) l16 c16 k16).binds (ps:=["item","byte"]) fun _ _ _ _ _ _ us hl=>match us,hl with | [_,_],_=>rfl,
  aI (st:=cf) l17 c17 k17,PySem.W.mg_of X G a17,(aI (st:=cf) l17 c17 k17).binds (ps:=["item","byte"]) fun _ _ _ _ _ _ us hl=>match us,hl with | [_,_],_=>rfl,
  aI (st:=cS) l18 c18 k18,PySem.W.mg_of X G a18,(aI (st:=cS) l18 c18 k18).binds (ps:=["byte"]) fun _ _ _ _ _ _ us hl=>match us,hl with | [_],_=>rfl,
  aI (st:=b3) l19 c19 k19,PySem.W.mg_of X G a19,(aI (st:=b3) l19 c19 k19).binds (ps:=["byte"]) fun _ _ _ _ _ _ us hl=>match us,hl with | [_],_=>rfl,
  aI (st:=eB) l20 c20 k20,PySem.W.mg_of X G a20,(aI (st:=eB) l20 c20 k20).binds (ps:=[]) fun _ _ _ _ _ _ us hl=>match us,hl with | [],_=>rfl,
  aI (st:=jl) l21 c21 k21,PySem.W.mg_of X G a21,(aI (st:=jl) l21 c21 k21).binds (ps:=["row"]) fun _ _ _ _ _ _ us hl=>match us,hl with | [_],_=>rfl,
  aI (st:=dU) l22 c22 k22,PySem.W.mg_of X G a22,(aI (st:=dU) l22 c22 k22).binds (ps:=["row"]) fun _ _ _ _ _ _ us hl=>match us,hl with | [_],_=>rfl,
  aI (st:=jj) l23 c23 k23,PySem.W.mg_of X G a23,(aI (st:=jj) l23 c23 k23).binds (ps:=["row"]) fun _ _ _ _ _ _ us hl=>match us,hl with | [_],_=>rfl,
  aI (st:=lg) l24 c24 k24,PySem.W.mg_of X G a24,(aI (st:=lg) l24 c24 k24).binds (ps:=["row","at","i"]) fun _ _ _ _ _ _ us hl=>match us,hl with | [_,_,_],_=>rfl,
  aI (st:=ft) l25 c25 k25,PySem.W.mg_of X G a25,(aI (st:=ft) l25 c25 k25).binds (ps:=["row","at"]) fun _ _ _ _ _ _ us hl=>match us,hl with | [_,_],_=>rfl,
  aI (st:=fV) l26 c26 k26,PySem.W.mg_of X G a26,(aI (st:=fV) l26 c26 k26).binds (ps:=["row","at"]) fun _ _ _ _ _ _ us hl=>match us,hl with | [_,_],_=>rfl,
  aI (st:=gF) l27 c27 k27,PySem.W.mg_of X G a27,(aI (st:=gF) l27 c27 k27).binds (ps:=["row","end"]) fun _ _ _ _ _ _ us hl=>match us,hl with | [_,_],_=>rfl,
  aI (st:=er) l28 c28 k28,PySem.W.mg_of X G a28,(aI (st:=er) l28 c28 k28).binds (ps:=["tree","i"]) fun _ _ _ _ _ _ us hl=>match us,hl with | [_,_],_=>rfl,
  aI (st:=fT) l29 c29 k29,PySem.W.mg_of X G a29,(aI (st:=fT) l29 c29 k29).binds (ps:=["_law_script","_law_k"]) fun _ _ _ _ _ _ us hl=>match us,hl with | [_,_],_=>rfl,
  aI (st:=gC) l30 c30 k30,PySem.W.mg_of X G a30,(aI (st:=gC) l30 c30 k30).binds (ps:=["_law_script","_law_k"]) fun _ _ _ _ _ _ us hl=>match us,hl with | [_,_],_=>rfl,
  aI (st:=fe) l31 c31 k31,PySem.W.mg_of X G a31,(aI (st:=fe) l31 c31 k31).binds (ps:=["_law_found"]) fun _ _ _ _ _ _ us hl=>match us,hl with | [_],_=>rfl,
  aI (st:=nJ) l32 c32 k32,PySem.W.mg_of X G a32,(aI (st:=nJ) l32 c32 k32).binds (ps:=["_law_script"]) fun _ _ _ _ _ _ us hl=>match us,hl with | [_],_=>rfl,
  aI (st:=dE) l33 c33 k33,(aI (st:=dE) l33 c33 k33).binds (ps:=["self"]) fun _ _ _ _ _ _ us hl=>match us,hl with | [_],_=>rfl,
  aI (st:=fb) l34 c34 k34,⟨a34,i34,k34⟩,(aI (st:=fb) l34 c34 k34).binds (ps:=["self","row"]) fun _ _ _ _ _ _ us hl=>match us,hl with | [_,_],_=>rfl,
  aI (st:=dY) l35 c35 k35,⟨a35,i35,k35⟩,(aI (st:=dY) l35 c35 k35).binds (ps:=["self","byte"]) fun _ _ _ _ _ _ us hl=>match us,hl with | [_,_],_=>rfl,
  aI (st:=dH) l36 c36 k36,⟨a36,i36,k36⟩,(aI (st:=dH) l36 c36 k36).binds (ps:=["self"]) fun _ _ _ _ _ _ us hl=>match us,hl with | [_],_=>rfl,
  aI (st:=dD) l37 c37 k37,⟨a37,i37,k37⟩,(aI (st:=dD) l37 c37 k37).binds (ps:=["self"]) fun _ _ _ _ _ _ us hl=>match us,hl with | [_],_=>rfl,
  PySem.W.mg_none_of X G z0,
  PySem.W.mg_none_of X G z1,
  PySem.W.mg_none_of X G z2,
  PySem.W.mg_none_of X G z3,
  PySem.W.mg_none_of X G z4,
  PySem.W.mg_none_of X G z5,
  PySem.W.mg_none_of X G z6,
  PySem.W.mg_none_of X G z7,
  PySem.W.mg_none_of X G z8,
  PySem.W.mg_none_of X G z9,
  PySem.W.mg_of X G ca2,⟨pg2,hd2,po2,sa2⟩,⟨mk2,a33,i33,kc2⟩,
  na2_0,
  PySem.W.mg_of X G ca0,⟨by simp,_,_,_,_,_,_,_,_,_,_,_,_,_,_,_,_,cl0⟩,
  cx0,
  PySem.W.mg_of X G ca1,⟨by simp,_,_,_,_,_,_,_,_,_,_,_,_,_,_,_,_,cl1⟩,
  aI (st:=eM) il1 ic1 ik1,(aI (st:=eM) il1 ic1 ik1).binds (ps:=["self","at"]) fun _ _ _ _ _ _ us hl=>match us,hl with | [_,_],_=>rfl,
  ⟨PySem.W.mg_of X G ca1,⟨_,_,_,_,_,_,_,_,_,_,_,_,_,_,_,cl1⟩,by simp,yW ⟨by simp,_,_,_,_,_,_,_,_,_,_,_,_,_,_,_,_,cl0⟩ cx0,ii1,⟨_,il1,rfl⟩,⟨xa1,vy cl1 (by rw [jr,jr]; decide),xc1,xd1,xe1,xf1⟩⟩,
  PySem.W.mg_of X G va0,rfl,fun H=>.inr ⟨_,_,_,vl0,rfl,rfl,(by show 2 <= sizeLine; decide),.cons ⟨_,rfl⟩ (.cons ⟨_,rfl⟩ (.nil))⟩,
  PySem.W.mg_of X G va1,⟨t1,rfl⟩,
  PySem.W.mg_of X G va2,⟨t2,rfl⟩,
  PySem.W.mg_of X G va3,⟨t3,rfl⟩,
  PySem.W.mg_of X G va4,⟨t4,rfl⟩,
  PySem.W.mg_of X G va5,⟨t5,rfl⟩,
  PySem.W.mg_of X G va6,⟨t6,rfl⟩,
  PySem.W.mg_of X G va7,⟨t7,rfl⟩,
  PySem.W.mg_of X G va8,⟨t8,rfl⟩,
  PySem.W.mg_of X G va9,⟨t9,rfl⟩,
  PySem.W.mg_of X G va10,⟨t10,rfl⟩,
  PySem.W.mg_of X G va11,⟨t11,rfl⟩,
  PySem.W.mg_of X G va12,⟨t12,rfl⟩,
  PySem.W.mg_of X G va13,⟨t13,rfl⟩,
  PySem.W.mg_of X G va14,⟨t14,rfl⟩,
  PySem.W.mg_of X G va15,⟨t15,rfl⟩,
  PySem.W.mg_of X G va16,⟨t16,rfl⟩,
  PySem.W.mg_of X G va17,⟨t17,rfl⟩,
  PySem.W.mg_of X G va18,rfl,fun H=>.inr ⟨_,_,_,vl18,rfl,rfl,(by show 4 <= sizeLine; decide),.cons ⟨_,rfl⟩ (.cons ⟨_,rfl⟩ (.cons ⟨_,rfl⟩ (.cons ⟨_,rfl⟩ (.nil))))⟩,
  PySem.W.mg_of X G va19,rfl,⟨[(110,.ref w19_0),(116,.ref w19_1),(102,.ref w19_2)],⟨vm19,by simp,_,_,vl19,.cons ⟨rfl,⟨_,rfl⟩,rfl⟩ (.cons ⟨rfl,⟨_,rfl⟩,rfl⟩ (.cons ⟨rfl,⟨_,rfl⟩,rfl⟩ (.nil)))⟩,.cons ⟨rfl,fun _=>by unfold Rep; exact ⟨_,[.int 117,.int 108,.int 108],rfl,.inr ⟨_,_,_,wl19_0,rfl,rfl,(by show 3 <= sizeLine; decide),.cons ⟨_,rfl⟩ (.cons ⟨_,rfl⟩ (.cons ⟨_,rfl⟩ (.nil)))⟩,bG.ints (ns:=[117,108,108])⟩⟩ (.cons ⟨rfl,fun _=>by unfold Rep; exact ⟨_,[.int 114,.int 117,.int 101],rfl,.inr ⟨_,_,_,wl19_1,rfl,rfl,(by show 3 <= sizeLine; decide),.cons ⟨_,rfl⟩ (.cons ⟨_,rfl⟩ (.cons ⟨_,rfl⟩ (.nil)))⟩,bG.ints (ns:=[114,117,101])⟩⟩ (.cons ⟨rfl,fun _=>by unfold Rep; exact ⟨_,[.int 97,.int 108,.int 115,.int 101],rfl,.inr ⟨_,_,_,wl19_2,rfl,rfl,(by show 4 <= sizeLine; decide),.cons ⟨_,rfl⟩ (.cons ⟨_,rfl⟩ (.cons ⟨_,rfl⟩ (.cons ⟨_,rfl⟩ (.nil))))⟩,bG.ints (ns:=[97,108,115,101])⟩⟩ (.nil)))⟩,
  PySem.W.mg_of X G va20,rfl,⟨[(34,.int 34),(92,.int 92),(47,.int 47),(98,.int 8),(102,.int 12),(110,.int 10),(114,.int 13),(116,.int 9)],⟨vm20,by simp,_,_,vl20,.cons ⟨rfl,⟨_,rfl⟩,⟨_,rfl⟩⟩ (.cons ⟨rfl,⟨_,rfl⟩,⟨_,rfl⟩⟩ (.cons ⟨rfl,⟨_,rfl⟩,⟨_,rfl⟩⟩ (.cons ⟨rfl,⟨_,rfl⟩,⟨_,rfl⟩⟩ (.cons ⟨rfl,⟨_,rfl⟩,⟨_,rfl⟩⟩ (.cons ⟨rfl,⟨_,rfl⟩,⟨_,rfl⟩⟩ (.cons ⟨rfl,⟨_,rfl⟩,⟨_,rfl⟩⟩ (.cons ⟨rfl,⟨_,rfl⟩,⟨_,rfl⟩⟩ (.nil))))))))⟩,.cons ⟨rfl,fun _=>by unfold Rep; rfl⟩ (.cons ⟨rfl,fun _=>by unfold Rep; rfl⟩ (.cons ⟨rfl,fun _=>by unfold Rep; rfl⟩ (.cons ⟨rfl,fun _=>by unfold Rep; rfl⟩ (.cons ⟨rfl,fun _=>by unfold Rep; rfl⟩ (.cons ⟨rfl,fun _=>by unfold Rep; rfl⟩ (.cons ⟨rfl,fun _=>by unfold Rep; rfl⟩ (.cons ⟨rfl,fun _=>by unfold Rep; rfl⟩ (.nil))))))))⟩,
  PySem.W.mg_of X G va21,⟨t21,rfl⟩,
  PySem.W.mg_of X G va22,rfl,fun H=>.inr ⟨_,_,_,vl22,rfl,rfl,(by show 5 <= sizeLine; decide),.cons ⟨_,rfl⟩ (.cons ⟨_,rfl⟩ (.cons ⟨_,rfl⟩ (.cons ⟨_,rfl⟩ (.cons ⟨_,rfl⟩ (.nil)))))⟩,
  PySem.W.mg_of X G va23,rfl,fun H=>.inr ⟨_,_,_,vl23,rfl,rfl,(by show 4 <= sizeLine; decide),.cons ⟨_,rfl⟩ (.cons ⟨_,rfl⟩ (.cons ⟨_,rfl⟩ (.cons ⟨_,rfl⟩ (.nil))))⟩,
  PySem.W.mg_of X G va24,rfl,⟨[(34,.str "text"),(91,.str "row"),(102,.str "false"),(110,.str "null"),(116,.str "true"),(123,.str "fields")],⟨vm24,by simp,_,_,vl24,.cons ⟨rfl,⟨_,rfl⟩,⟨_,rfl⟩⟩ (.cons ⟨rfl,⟨_,rfl⟩,⟨_,rfl⟩⟩ (.cons ⟨rfl,⟨_,rfl⟩,⟨_,rfl⟩⟩ (.cons ⟨rfl,⟨_,rfl⟩,⟨_,rfl⟩⟩ (.cons ⟨rfl,⟨_,rfl⟩,⟨_,rfl⟩⟩ (.cons ⟨rfl,⟨_,rfl⟩,⟨_,rfl⟩⟩ (.nil))))))⟩,.cons ⟨rfl,fun _=>by unfold Rep; rfl⟩ (.cons ⟨rfl,fun _=>by unfold Rep; rfl⟩ (.cons ⟨rfl,fun _=>by unfold Rep; rfl⟩ (.cons ⟨rfl,fun _=>by unfold Rep; rfl⟩ (.cons ⟨rfl,fun _=>by unfold Rep; rfl⟩ (.cons ⟨rfl,fun _=>by unfold Rep; rfl⟩ (.nil))))))⟩⟩
 exact ⟨_,fun s v=>.of_eq rfl,fun base _ _=>(Cz T).imp (zJ fun ns h=>DW ns h)⟩
theorem walk {l:PySem.W.OpenLaw} {q:Program} {loose:List Str} {XP:(Str -> Option Value) -> Heap -> Prop} {YP:World -> Heap -> Prop} {d:DefRec} {K:Params -> PySem.W.Frag} (hn:l.most = some 63) (hdf:d.params.defaults = [])
  (hY:∀ (w:World) (h:Heap),YP w h -> (K w.params).In h)
  (F:∀ (w:World) (mg:Str -> Option Value) (fa:Addr) (h:Heap),(K w.params).In h -> h.Ns mainGlobals mg -> mg d.name = some (.ref fa) ->
    ∃ fd:FuncData,(∀ (s:Shared) (u:Value),BindsTo s fd ⟨[u],[]⟩ [("_law_script",u)]) /\ ∀ base:Heap,(K w.params).In base -> base.Ns mainGlobals mg -> cy l.prog w (K w.params) mg base (CXE l.prog w) 12 fa fd ["_law_script"] (qf (K w.params))):
  PySem.W.WalkO q loose XP YP l.row.toRowW d [] (fun f vs=>PySem.call f vs):=
 L2.zU (n:=63) (k:=12) (x:="_law_script") (CX:=fun w=>CXE l.prog w) (sp:=fun w=>qf (K w.params)) hn (by decide) hdf ⟨rfl,by decide,by decide⟩ hY F (fun _ _ a ns hl _ hS=>⟨a,ns,rfl,hS,hl,fun _=>rfl⟩) fun _ _ _ _ _ z=>let ⟨_,_,_,_,_,_,_,_,_,_,f⟩:=z; f
end L2.plainglass_k08_brackets_deep
open PySem PySem.W PyProof.Rows
namespace PySem.W.Fast
def tw2641825309820886543:=0
def tw2539055389378202851:=0
def tw1178917448998871571:=0
def tw3003877709148945189:=0
def tw2004789725258703641:=0
def tw2591117739562197119:=0
def tw15531293384493560625:=0
def tw7213479132130708628:=0
def tw17584606415248380528:=0
def tw10835502425580668908:=0
def tw4961756848881550910:=0
def tw8214102021168575081:=0
def tw7676509134764884371:=0
def tw10546941097893642518:=0
end PySem.W.Fast
set_option maxRecDepth 100000 in
set_option maxHeartbeats 0 in
theorem PySem.Challenge.cw_plainglass_k08_brackets_deep_holds : PySem.Challenge.rw_plainglass_k08_brackets_deep.Holds := by
 w_on; o_law; k_head; (case hw=>w_witness2)
 k_fill
 refine L2.plainglass_k08_brackets_deep.walk (l:=PySem.Challenge.rw_plainglass_k08_brackets_deep) rfl rfl (fun w h Y=>PySem.W.kIn_of Y) ?F
 case F=>
  intro w mg fa h KX G hmg
  refine' L2.plainglass_k08_brackets_deep.all_mk KX G hmg ?a0 ?l0 ?c0 ?k0 ?a1 ?l1 ?c1 ?k1 ?a2 ?l2 ?c2 ?k2 ?a3 ?l3 ?c3 ?k3 ?a4 ?l4 ?c4 ?k4 ?a5 ?l5 ?c5 ?k5 ?a6 ?l6 ?c6 ?k6 ?a7 ?l7 ?c7 ?k7 ?a8 ?l8 ?c8 ?k8 ?a9 ?l9 ?c9 ?k9 ?a10 ?l10 ?c10 ?k10 ?a11 ?l11 ?c11 ?k11 ?a12 ?l12 ?c12 ?k12 ?a13 ?l13 ?c13 ?k13 ?a14 ?l14 ?c14 ?k14 ?a15 ?l15 ?c15 ?k15 ?a16 ?l16 ?c16 ?k16 ?a17 ?l17 ?c17 ?k17 ?a18 ?l18 ?c18 ?k18 ?a19 ?l19 ?c19 ?k19 ?a20 ?l20 ?c20 ?k20 ?a21 ?l21 ?c21 ?k21 ?a22 ?l22 ?c22 ?k22 ?a23 ?l23 ?c23 ?k23 ?a24 ?l24 ?c24 ?k24 ?a25 ?l25 ?c25 ?k25 ?a26 ?l26 ?c26 ?k26 ?a27 ?l27 ?c27 ?k27 ?a28 ?l28 ?c28 ?k28 ?a29 ?l29 ?c29 ?k29 ?a30 ?l30 ?c30 ?k30 ?a31 ?l31 ?c31 ?k31 ?a32 ?l32 ?c32 ?k32 ?a33 ?i33 ?l33 ?c33 ?k33 ?a34 ?i34 ?l34 ?c34 ?k34 ?a35 ?i35 ?l35 ?c35 ?k35 ?a36 ?i36 ?l36 ?c36 ?k36 ?a37 ?i37 ?l37 ?c37 ?k37 ?z0 ?z1 ?z2 ?z3 ?z4 ?z5 ?z6 ?z7 ?z8 ?z9 ?ca2 ?pg2 ?hd2 ?po2 ?sa2 ?mk2 ?kc2 ?na2_0 ?ca0 ?cl0 ?cx0 ?ca1 ?cl1 ?ii1 ?il1 ?ic1 ?ik1 ?xa1 ?xc1 ?xd1 ?xe1 ?xf1 ?va0 ?vl0 ?va1 ?va2 ?va3 ?va4 ?va5 ?va6 ?va7 ?va8 ?va9 ?va10 ?va11 ?va12 ?va13 ?va14 ?va15 ?va16 ?va17 ?va18 ?vl18 ?va19 ?vl19 ?wl19_0 ?wl19_1 ?wl19_2 ?vm19 ?va20 ?vl20 ?vm20 ?va21 ?va22 ?vl22 ?va23 ?vl23 ?va24 ?vl24 ?vm24
  (case ca2=>k_is)
  (case a0=>k_is)
  (case l0=>k_is)
  (case c0=>k_is)
  (case k0=>k_is)
  (case a1=>k_is)
  (case l1=>k_is)
  (case c1=>k_is)
  (case k1=>k_is)
  (case a2=>k_is)
  (case l2=>k_is)
  (case c2=>k_is)
  (case k2=>k_is)
  (case a3=>k_is)
  (case l3=>k_is)
  (case c3=>k_is)
  (case k3=>k_is)
  (case a4=>k_is)
  (case l4=>k_is)
  (case c4=>k_is)
  (case k4=>k_is)
  (case a5=>k_is)
  (case l5=>k_is)
  (case c5=>k_is)
  (case k5=>k_is)
  (case a6=>k_is)
  (case l6=>k_is)
  (case c6=>k_is)
  (case k6=>k_is)
  (case a7=>k_is)
  (case l7=>k_is)
  (case c7=>k_is)
  (case k7=>k_is)
  (case a8=>k_is)
  (case l8=>k_is)
  (case c8=>k_is)
  (case k8=>k_is)
  (case a9=>k_is)
  (case l9=>k_is)
  (case c9=>k_is)
  (case k9=>k_is)
  (case a10=>k_is)
  (case l10=>k_is)
  (case c10=>k_is)
  (case k10=>k_is)
  (case a11=>k_is)
  (case l11=>k_is)
  (case c11=>k_is)
  (case k11=>k_is)
  (case a12=>k_is)
  (case l12=>k_is)
  (case c12=>k_is)
  (case k12=>k_is)
  (case a13=>k_is)
  (case l13=>k_is)
  (case c13=>k_is)
  (case k13=>k_is)
  (case a14=>k_is)
  (case l14=>k_is)
  (case c14=>k_is)
  (case k14=>k_is)
  (case a15=>k_is)
  (case l15=>k_is)
  (case c15=>k_is)
  (case k15=>k_is)
  (case a16=>k_is)
  (case l16=>k_is)
  (case c16=>k_is)
  (case k16=>k_is)
  (case a17=>k_is)
  (case l17=>k_is)
  (case c17=>k_is)
  (case k17=>k_is)
  (case a18=>k_is)
  (case l18=>k_is)
  (case c18=>k_is)
  (case k18=>k_is)
  (case a19=>k_is)
  (case l19=>k_is)
  (case c19=>k_is)
  (case k19=>k_is)
  (case a20=>k_is)
  (case l20=>k_is)
  (case c20=>k_is)
  (case k20=>k_is)
  (case a21=>k_is)
  (case l21=>k_is)
  (case c21=>k_is)
  (case k21=>k_is)
  (case a22=>k_is)
  (case l22=>k_is)
  (case c22=>k_is)
  (case k22=>k_is)
  (case a23=>k_is)
  (case l23=>k_is)
  (case c23=>k_is)
  (case k23=>k_is)
  (case a24=>k_is)
  (case l24=>k_is)
  (case c24=>k_is)
  (case k24=>k_is)
  (case a25=>k_is)
  (case l25=>k_is)
  (case c25=>k_is)
  (case k25=>k_is)
  (case a26=>k_is)
  (case l26=>k_is)
  (case c26=>k_is)
  (case k26=>k_is)
  (case a27=>k_is)
  (case l27=>k_is)
  (case c27=>k_is)
  (case k27=>k_is)
  (case a28=>k_is)
  (case l28=>k_is)
  (case c28=>k_is)
  (case k28=>k_is)
  (case a29=>k_is)
  (case l29=>k_is)
  (case c29=>k_is)
  (case k29=>k_is)
  (case a30=>k_is)
  (case l30=>k_is)
  (case c30=>k_is)
  (case k30=>k_is)
  (case a31=>k_is)
  (case l31=>k_is)
  (case c31=>k_is)
  (case k31=>k_is)
  (case a32=>k_is)
  (case l32=>k_is)
  (case c32=>k_is)
  (case k32=>k_is)
  (case a33=>k_is)
  (case i33=>k_is)
  (case l33=>k_is)
  (case c33=>k_is)
  (case k33=>k_is)
  (case a34=>k_is)
  (case i34=>k_is)
  (case l34=>k_is)
  (case c34=>k_is)
  (case k34=>k_is)
  (case a35=>k_is)
  (case i35=>k_is)
  (case l35=>k_is)
  (case c35=>k_is)
  (case k35=>k_is)
  (case a36=>k_is)
  (case i36=>k_is)
  (case l36=>k_is)
  (case c36=>k_is)
  (case k36=>k_is)
  (case a37=>k_is)
  (case i37=>k_is)
  (case l37=>k_is)
  (case c37=>k_is)
  (case k37=>k_is)
  (case z0=>k_is)
  (case z1=>k_is)
  (case z2=>k_is)
  (case z3=>k_is)
  (case z4=>k_is)
  (case z5=>k_is)
  (case z6=>k_is)
  (case z7=>k_is)
  (case z8=>k_is)
  (case z9=>k_is)
  (case pg2=>k_is)
  (case hd2=>k_is)
  (case po2=>k_is)
  (case sa2=>k_is)
  (case mk2=>k_is)
  (case kc2=>k_is)
  (case na2_0=>k_is)
  (case ca0=>k_is)
  (case cl0=>k_is)
  (case cx0=>k_exc)
  (case ca1=>k_is)
  (case cl1=>k_is)
  (case ii1=>k_is)
  (case il1=>k_is)
  (case ic1=>k_is)
  (case ik1=>k_is)
  (case xa1=>k_is)
  (case xc1=>k_is)
  (case xd1=>k_is)
  (case xe1=>k_is)
  (case xf1=>k_is)
  (case va0=>k_is)
  (case vl0=>k_is)
  (case va1=>k_is)
  (case va2=>k_is)
  (case va3=>k_is)
  (case va4=>k_is)
  (case va5=>k_is)
  (case va6=>k_is)
  (case va7=>k_is)
  (case va8=>k_is)
  (case va9=>k_is)
  (case va10=>k_is)
  (case va11=>k_is)
  (case va12=>k_is)
  (case va13=>k_is)
  (case va14=>k_is)
  (case va15=>k_is)
  (case va16=>k_is)
  (case va17=>k_is)
  (case va18=>k_is)
  (case vl18=>k_is)
  (case va19=>k_is)
  (case vl19=>k_is)
  (case wl19_0=>k_is)
  (case wl19_1=>k_is)
  (case wl19_2=>k_is)
  (case vm19=>first | decide | rfl)
  (case va20=>k_is)
  (case vl20=>k_is)
  (case vm20=>first | decide | rfl)
  (case va21=>k_is)
  (case va22=>k_is)
  (case vl22=>k_is)
  (case va23=>k_is)
  (case vl23=>k_is)
  (case va24=>k_is)
  (case vl24=>k_is)
  (case vm24=>first | decide | rfl)
