import PyProof.Rows.All
import Wide.All
import OpenK.AllK
import Wide.FinOn
import Lean
import PyProof.EqAt
import PyProof.EqKinds
import PyProof.TupleCall
import PySem.Challenge.RW_plainglass_k19_numbers_told
set_option Elab.async false
set_option linter.all false
set_option maxRecDepth 100000
namespace L2
open PySem PySem.Spec PyProof.Rows
abbrev Key:=Sum Int Str
def BK:Key -> Value -> Bool
 | .inl k,v=>Value.isInt k v
 | .inr x,v=>Value.isStrOf x v
def GF (w:World):Key -> Int
 | .inl k=>hashInt k
 | .inr x=>hashStr w x
theorem eA:∀ {k:Key} {v:Value},BK k v = true -> (∃ i t,k = Sum.inl i /\ v = Value.int i t) \/ (∃ x t,k = Sum.inr x /\ v = Value.str x t)
 | .inl i,v,h=>by
   obtain ⟨t,e⟩:=Value.isInt_shape (k:=i) (v:=v) h
   exact .inl ⟨i,t,rfl,e⟩
 | .inr x,v,h=>by
   obtain ⟨t,e⟩:=Value.isStrOf_shape (x:=x) (v:=v) h
   exact .inr ⟨x,t,rfl,e⟩
theorem CK (a b:Int):decide ((Sum.inl a:Key) = Sum.inl b) = (a == b):=by
 by_cases e:a = b
 . subst e; simp
 . have h:¬ (Sum.inl a:Key) = Sum.inl b:=fun q=>e (Sum.inl.inj q)
   rw [decide_eq_false h]
   exact (beq_eq_false_iff_ne.mpr e).symm
theorem Ec (a b:Str):decide ((Sum.inr a:Key) = Sum.inr b) = decide (a = b):=by
 by_cases e:a = b
 . subst e; simp
 . have h:¬ (Sum.inr a:Key) = Sum.inr b:=fun q=>e (Sum.inr.inj q)
   rw [decide_eq_false h,decide_eq_false e]
theorem Ed (a:Int) (b:Str):decide ((Sum.inl a:Key) = Sum.inr b) = false:=decide_eq_false (fun q=>nomatch q)
theorem CW (a:Str) (b:Int):decide ((Sum.inr a:Key) = Sum.inl b) = false:=decide_eq_false (fun q=>nomatch q)
def sX (prog:Program) (w:World):PySem.KeyKind prog w Key where
 is:=BK
 hash:=GF w
 inj:=fun v a b ha hb=>by
  rcases eA ha with ⟨i,t,rfl,rfl⟩ | ⟨x,t,rfl,rfl⟩
  . rcases eA hb with ⟨j,u,rfl,e⟩ | ⟨y,u,rfl,e⟩
    . injection e with e1 _; rw [e1]
    . exact nomatch e
  . rcases eA hb with ⟨j,u,rfl,e⟩ | ⟨y,u,rfl,e⟩
    . exact nomatch e
    . injection e with e1 _; rw [e1]
 byValue:=fun k v h=>by
  rcases eA h with ⟨i,t,rfl,rfl⟩ | ⟨x,t,rfl,rfl⟩ <;> rfl
 pyHash:=fun hv h=>by
  rcases eA hv with ⟨i,t,rfl,rfl⟩ | ⟨x,t,rfl,rfl⟩
  . exact wpAny_pyHash_int h
  . exact wpAny_pyHash_str h
 eqBool:=fun hu hv h=>by
  rcases eA hu with ⟨i,t,rfl,rfl⟩ | ⟨x,t,rfl,rfl⟩
  . rcases eA hv with ⟨j,u,rfl,rfl⟩ | ⟨y,u,rfl,rfl⟩
    . rw [CK] at h; exact wpAny_eqBool_int h
    . rw [Ed] at h; exact SeqAt.EqAt.int_str i t y u _ _ _ _ h
  . rcases eA hv with ⟨j,u,rfl,rfl⟩ | ⟨y,u,rfl,rfl⟩
    . rw [CW] at h; exact SeqAt.EqAt.str_int x t j u _ _ _ _ h
    . rw [Ec] at h; exact wpAny_eqBool_str h
 «strs»:=fun k x t v h=>by
  rcases eA h with ⟨i,u,rfl,e⟩ | ⟨y,u,rfl,e⟩
  . exact nomatch e
  . injection e with e1 _
    subst e1
    cases v <;> rfl
end L2
namespace L2
open PySem PySem.Spec PyProof.Rows
inductive V where
 | non | bl (b:Bool) | int (i:Int) | str (x:Str) | byt (b:Array UInt8) | flt (b:UInt64) | ref (a:Addr) | ty (n:String)
 deriving DecidableEq
def RelV:V -> Value -> Prop
 | .non,u=>u = Value.none
 | .bl b,u=>u = Value.bool b
 | .int i,u=>∃ t,u = Value.int i t
 | .str x,u=>∃ t,u = Value.str x t
 | .byt b,u=>∃ t,u = Value.bytes b t
 | .flt b,u=>∃ t,u = Value.float b t
 | .ref a,u=>u = Value.ref a
 | .ty n,u=>u = Value.type n
abbrev Vals:List V -> List Value -> Prop:=Paired RelV
theorem Vals.length {xs:List V} {us:List Value} (r:Vals xs us):xs.length = us.length:=Paired.length r
theorem Vals.get:∀ {xs:List V} {us:List Value} {i:Nat} {x:V},Vals xs us -> xs[i]? = some x -> ∃ u,us[i]? = some u /\ RelV x u
 | _,_,_,_,.nil,e=>by simp at e
 | _,_,0,_,.cons r _,e=>by simp at e; subst e; exact ⟨_,rfl,r⟩
 | _,_,i + 1,x,.cons _ t,e=>by
   obtain ⟨u,h1,h2⟩:=Vals.get (i:=i) (x:=x) t (by simpa using e)
   exact ⟨u,by simpa using h1,h2⟩
theorem Vals.set {x:V} {u:Value} (r:RelV x u):∀ {xs:List V} {us:List Value} (i:Nat),Vals xs us -> Vals (xs.set i x) (us.set i u)
 | _,_,_,.nil=>.nil
 | _,_,0,.cons _ t=>.cons r t
 | _,_,i + 1,.cons q t=>.cons q (Vals.set r i t)
theorem Vals.append:∀ {xs ys:List V} {us ws:List Value},Vals xs us -> Vals ys ws -> Vals (xs ++ ys) (us ++ ws)
 | _,_,_,_,.nil,s=>s
 | _,_,_,_,.cons r t,s=>.cons r (Vals.append t s)
theorem Vals.take:∀ {xs:List V} {us:List Value} (n:Nat),Vals xs us -> Vals (xs.take n) (us.take n)
 | _,_,0,_=>.nil
 | _,_,_ + 1,.nil=>.nil
 | _,_,n + 1,.cons r t=>.cons r (Vals.take n t)
theorem Vals.drop:∀ {xs:List V} {us:List Value} (n:Nat),Vals xs us -> Vals (xs.drop n) (us.drop n)
 | _,_,0,r=>r
 | _,_,_ + 1,.nil=>.nil
 | _,_,n + 1,.cons _ t=>Vals.drop n t
def bM:Option V -> Option Value -> Prop
 | some v,some u=>RelV v u
 | none,none=>True
 | _,_=>False
def KV {κ:Type}:List (κ × V) -> List (κ × Value) -> Prop:=Paired fun (p:κ × V) (q:κ × Value)=>p.1 = q.1 /\ RelV p.2 q.2
def kV:Key -> V
 | .inl i=>.int i
 | .inr x=>.str x
inductive HO where
  | lst (xs:List V)
  | tup (xs:List V)
  | dK (kvs:List (Key × V)) | dT (kvs:List (List Key × V))
  | set (S:Int -> Bool) (n:Nat)
  | ins (C dx:Addr) (fs:List (Str × V))
  | own (x:Addr)
  | xd (fs:List (Str × V))
  | met (f x:Addr)
  | rng (lo hi:Int)
  | frz (o:Obj) (u:HO)
  | tbl (ps:Array Value)
  | ext (φ:Heap -> Prop)
abbrev Hp:=Addr -> Option HO
def upd (H:Hp) (a:Addr) (o:HO):Hp:=fun b=>if b = a then some o else H b
theorem ba {H:Hp} {a:Addr} {o:HO}:upd H a o a = some o:=by unfold upd; rw [if_pos rfl]
theorem aW {H:Hp} {a b:Addr} {o:HO} (h:b ≠ a):upd H a o b = H b:=by unfold upd; rw [if_neg h]
theorem cF {H:Hp} {a b:Addr} {o:HO} (h:H a = some o) (h':H b = none):a ≠ b:=by
 intro e; subst e; rw [h] at h'; cases h'
section
variable (P:Program) (w:World)
def hX (H:Hp) (h:Heap) (a:Addr):HO -> Prop
 | .lst xs=>xs.length <= sizeLine /\ ∃ (its:List Value) (n:Nat),Vals xs its /\ h.get? a = some { cls:=.type "list",data:=.seq its.toArray n }
 | .tup xs=>xs.length <= sizeLine /\ ∃ its:List Value,Vals xs its /\ IsTup h a its.toArray
 | .dK kvs=>kvs.length <= sizeLine /\ (a == sysModules) = false /\ ∃ vs,KV kvs vs /\ h.DictOf (sX P w) a vs
 | .dT kvs=>kvs.length <= sizeLine /\ (a == sysModules) = false /\ ∃ xs:List (List Key × Addr × Value),
    Paired (fun (p:List Key × V) (q:List Key × Addr × Value)=>p.1 = q.1 /\ H q.2.1 = some (.tup (p.1.map kV)) /\ RelV p.2 q.2.2) kvs xs /\
    ∃ o es ep,h.get? a = some o /\ o.ExactDict /\ o.data = .dict es ep /\ es.toList = xs.map (entryOfKey (tupleKind (sX P w))) /\ (xs.map (·.1)).Nodup
 | .set S n=>h.SetOf (intKind P w) a S n
 | .ins C dx fs=>H dx = some (.own a) /\ fs.length <= 1000 /\ dx ≠ a /\ h.get? a = some (PySem.W.instObj C dx) /\
    ∃ mA,h.Ns1 dx mA /\ (∀ f,bM (fs.lookup f) (mA f)) /\ PySem.Within mA (fs.map (·.1))
 | .own _=>∃ o,h.get? a = some o
 | .xd fs=>∃ mA,h.Ns1 a mA /\ ∀ f,bM (fs.lookup f) (mA f)
 | .rng lo hi=>∃ t u v,h.get? a = some { cls:=.type "range",data:=.fields #[.int lo t,.int hi u,.int 1 v] }
 | .frz o u=>h.get? a = some o /\ hX H h a u
 | .tbl ps=>h.get? a = some { cls:=.none,data:=.fields ps }
 | .met f x=>h.get? a = some (PySem.W.methodObj (.ref f) (.ref x))
 | .ext φ=>φ h /\ (∃ o,h.get? a = some o) /\ ∀ h1 h2:Heap,φ h1 -> (∀ o,h1.get? a = some o -> h2.get? a = some o) -> φ h2
def HOk (H:Hp) (h:Heap):Prop:=∀ a o,H a = some o -> hX P w H h a o
end
section
variable {P:Program} {w:World} {H H':Hp} {h h':Heap} {a:Addr} {o:HO}
theorem hX.lt (x:hX P w H h a o):a < h.objs.size:=by
 cases o with
 | lst xs=>obtain ⟨_,_,_,_,e⟩:=x; exact Heap.lt_size e
 | tup xs=>obtain ⟨_,_,_,p⟩:=x; exact p.lt
 | dK kvs=>obtain ⟨_,_,_,_,o,_,_,e,_⟩:=x; exact Heap.lt_size e
 | dT kvs=>obtain ⟨_,_,_,_,o,_,_,e,_⟩:=x; exact Heap.lt_size e
 | set S n=>obtain ⟨o,_,_,_,e,_⟩:=x; exact Heap.lt_size e
 | ins C dx fs=>obtain ⟨_,_,_,e,_⟩:=x; exact Heap.lt_size e
 | own y=>obtain ⟨_,e⟩:=x; exact Heap.lt_size e
 | xd fs=>obtain ⟨_,⟨_,_,_,e,_⟩,_⟩:=x; exact Heap.lt_size e
 | rng lo hi=>obtain ⟨_,_,_,e⟩:=x; exact Heap.lt_size e
 | frz ob u=>obtain ⟨e,_⟩:=x; exact Heap.lt_size e
 | tbl ps=>exact Heap.lt_size (show h.get? a = some _ from x)
 | met f y=>exact Heap.lt_size (show h.get? a = some _ from x)
 | ext φ=>obtain ⟨_,⟨_,e⟩,_⟩:=x; exact Heap.lt_size e
theorem Paired.Eh {α β:Type} {F G:α -> β -> Prop}:∀ {l₁:List α} {l₂:List β},Paired F l₁ l₂ -> (∀ a b,F a b -> G a b) -> Paired G l₁ l₂
 | _,_,.nil,_=>.nil
 | _,_,.cons r t,f=>.cons (f _ _ r) (Paired.Eh t f)
theorem hX.nT (x:hX P w H h a o) (k:∀ b u,(b = a \/ H b = some (.own a)) -> h.get? b = some u -> h'.get? b = some u)
  (ho:∀ b,H b = some (.own a) -> H' b = some (.own a)) (ht:∀ b xs,H b = some (.tup xs) -> H' b = some (.tup xs)):hX P w H' h' a o:=by
 induction o with
 | lst xs=>obtain ⟨z,its,n,r,e⟩:=x; exact ⟨z,its,n,r,k _ _ (.inl rfl) e⟩
 | tup xs=>obtain ⟨z,its,r,ob,e,c⟩:=x; exact ⟨z,its,r,ob,k _ _ (.inl rfl) e,c⟩
 | dK kvs=>obtain ⟨z,y,vs,r,ob,es,ep,e,c⟩:=x; exact ⟨z,y,vs,r,ob,es,ep,k _ _ (.inl rfl) e,c⟩
 | dT kvs=>
   obtain ⟨z,y,xs,r,ob,es,ep,e,c⟩:=x
   exact ⟨z,y,xs,Paired.Eh r fun p q z=>⟨z.1,ht _ _ z.2.1,z.2.2⟩,ob,es,ep,k _ _ (.inl rfl) e,c⟩
 | set S n=>obtain ⟨ob,es,ep,t,e,c⟩:=x; exact ⟨ob,es,ep,t,k _ _ (.inl rfl) e,c⟩
 | ins C dx fs=>
   obtain ⟨d,z,ne,e,mA,⟨od,es,ep,e2,c⟩,r⟩:=x
   exact ⟨ho _ d,z,ne,k _ _ (.inl rfl) e,mA,⟨od,es,ep,k _ _ (.inr d) e2,c⟩,r⟩
 | own y=>obtain ⟨ob,e⟩:=x; exact ⟨ob,k _ _ (.inl rfl) e⟩
 | xd fs=>obtain ⟨mA,⟨od,es,ep,e,c⟩,r⟩:=x; exact ⟨mA,⟨od,es,ep,k _ _ (.inl rfl) e,c⟩,r⟩
 | rng lo hi=>obtain ⟨t,u,v,e⟩:=x; exact ⟨t,u,v,k _ _ (.inl rfl) e⟩
 | frz ob u ih=>obtain ⟨e,q⟩:=x; exact ⟨k _ _ (.inl rfl) e,ih q⟩
 | tbl ps=>
   have e:h.get? a = some { cls:=.none,data:=.fields ps }:=x
   show h'.get? a = some { cls:=.none,data:=.fields ps }
   exact k a _ (.inl rfl) e
 | met f y=>
   have e:h.get? a = some (PySem.W.methodObj (.ref f) (.ref y)):=x
   show h'.get? a = some (PySem.W.methodObj (.ref f) (.ref y))
   exact k a _ (.inl rfl) e
 | ext φ=>obtain ⟨p,⟨o,e⟩,st⟩:=x; exact ⟨st _ _ p fun o q=>k _ _ (.inl rfl) q,⟨o,k _ _ (.inl rfl) e⟩,st⟩
theorem HOk.lt (x:HOk P w H h) (e:H a = some o):a < h.objs.size:=(x a o e).lt
theorem HOk.fresh (x:HOk P w H h) (e:h.objs.size <= a):H a = none:=by
 cases q:H a with
 | none=>rfl
 | some u=>exact absurd (Nat.lt_of_lt_of_le (x.lt q) e) (Nat.lt_irrefl _)
theorem HOk.kept (x:HOk P w H h) (k:∀ b u,h.get? b = some u -> h'.get? b = some u):HOk P w H h':=fun a o e=>
 (x a o e).nT (fun b u _ q=>k b u q) (fun _ q=>q) fun _ _ q=>q
theorem HOk.laid (x:HOk P w H h) (k:∀ b u,h.get? b = some u -> h'.get? b = some u) (hp:h.objs.size <= a) (new:hX P w (upd H a o) h' a o):HOk P w (upd H a o) h':=fun b u e=>by
 have hn:=x.fresh hp
 by_cases hb:b = a
 . subst hb; rw [ba] at e; cases e; exact new
 . rw [aW hb] at e
   exact (x b u e).nT (fun c v _ q=>k c v q) (fun c q=>by rw [aW (cF q hn)]; exact q) fun c xs q=>by rw [aW (cF q hn)]; exact q
end
def Rd (H:Hp) (a:Addr) (u:HO):Prop:=H a = some u \/ ∃ o,H a = some (.frz o u)
theorem Rd.ok {P:Program} {w:World} {H:Hp} {h:Heap} {a:Addr} {u:HO} (r:Rd H a u) (x:HOk P w H h):hX P w H h a u:=by
 rcases r with r | ⟨o,r⟩
 . exact x a u r
 . obtain ⟨_,q⟩:=x a _ r
   exact q
def Mut:Option HO -> Prop
 | some (.lst _)=>True
 | some (.dK _)=>True
 | some (.dT _)=>True
 | some (.set _ _)=>True
 | some (.ins _ _ _)=>True
 | some (.ext _)=>True
 | _=>False
section
variable {P:Program} {w:World} {H:Hp} {h h':Heap} {x e:Addr} {o':HO}
theorem HOk.write (ok:HOk P w H h) (mu:Mut (H x)) (he:e = x \/ H e = some (.own x)) (k:∀ b u,b ≠ e -> h.get? b = some u -> h'.get? b = some u) (heo:∃ u,h'.get? e = some u)
  (new:hX P w (upd H x o') h' x o'):HOk P w (upd H x o') h':=fun b u q=>by
 have nown:∀ c y,H c = some (.own y) -> c ≠ x:=fun c y r z=>by subst z; rw [r] at mu; exact mu
 have ntup:∀ c xs,H c = some (.tup xs) -> c ≠ x:=fun c xs r z=>by subst z; rw [r] at mu; exact mu
 by_cases hb:b = x
 . subst hb; rw [ba] at q; cases q; exact new
 . rw [aW hb] at q
   by_cases hbe:b = e
   . have q':H b = some (.own x):=by
      rcases he with z | z
      . exact absurd (hbe.trans z) hb
      . rw [hbe]; exact z
     rw [q] at q'; cases q'
     obtain ⟨v,hv⟩:=heo
     exact ⟨v,by rw [hbe]; exact hv⟩
   . refine (ok b u q).nT (fun c v hc r=>k c v ?_ r) (fun c r=>by rw [aW (nown c b r)]; exact r) fun c xs r=>by rw [aW (ntup c xs r)]; exact r
     rcases hc with rfl | hc
     . exact hbe
     . rintro rfl
       rcases he with z | z
       . exact nown c b hc z
       . rw [hc] at z; cases z; exact hb rfl
end
structure Un (fs ex:List Addr) (H H':Hp) (h h':Heap):Prop where
 keep:∀ b o,h.get? b = some o -> H b = none -> b ∉ fs -> b ∉ ex -> h'.get? b = some o
 slot:∀ b o,h.get? b = some o -> H b = none -> b ∈ fs -> b ∉ ex -> ∃ sl,h'.get? b = some { o with slots:=sl }
 free:∀ b o,h.get? b = some o -> H b = none -> b ∉ ex -> H' b = none
 there:∀ b o,h.get? b = some o -> b ∉ ex -> ∃ o',h'.get? b = some o'
 tups:∀ b xs,H b = some (.tup xs) -> H' b = some (.tup xs)
 frzs:∀ b o u,H b = some (.frz o u) -> H' b = some (.frz o u)
 tbls:∀ b ps,H b = some (.tbl ps) -> ∃ more,H' b = some (.tbl (ps ++ more))
section
variable {fs fs' ex ex':List Addr} {H H1 H2:Hp} {h h1 h2 h':Heap} {a x e:Addr} {o:HO}
theorem Un.any (u:Un fs ex H H1 h h1) {b:Addr} {ob:Obj} (q:h.get? b = some ob) (n:H b = none) (hx:b ∉ ex):∃ sl,h1.get? b = some { ob with slots:=sl }:=by
 by_cases hb:b ∈ fs
 . exact u.slot b ob q n hb hx
 . exact ⟨ob.slots,u.keep b ob q n hb hx⟩
theorem Un.kept (k:∀ b u,h.get? b = some u -> h'.get? b = some u):Un fs ex H H h h':=
 ⟨fun b ob q _ _ _=>k b ob q,fun b ob q _ _ _=>⟨ob.slots,k b ob q⟩,fun _ _ _ n _=>n,fun b ob q _=>⟨ob,k b ob q⟩,fun _ _ q=>q,fun _ _ _ q=>q,fun _ ps q=>⟨#[],by rw [q]; simp⟩⟩
theorem Un.refl:Un fs ex H H h h:=Un.kept fun _ _ q=>q
theorem Un.laid (k:∀ b u,h.get? b = some u -> h'.get? b = some u) (hp:h.objs.size <= a) (hn:H a = none):Un fs ex H (upd H a o) h h' where
 keep:=fun b u q _ _ _=>k b u q
 slot:=fun b u q _ _ _=>⟨u.slots,k b u q⟩
 free:=fun b u q n _=>by rw [aW (Nat.ne_of_lt (Nat.lt_of_lt_of_le (Heap.lt_size q) hp))]; exact n
 there:=fun b u q _=>⟨u,k b u q⟩
 tups:=fun b xs q=>by rw [aW (cF q hn)]; exact q
 frzs:=fun b u xs q=>by rw [aW (cF q hn)]; exact q
 tbls:=fun b ps q=>⟨#[],by rw [aW (cF q hn),q]; simp⟩
theorem Un.write (mu:Mut (H x)) (he:e = x \/ H e = some (.own x)) (k:∀ b u,b ≠ e -> h.get? b = some u -> h'.get? b = some u) (heo:∃ u,h'.get? e = some u):Un fs ex H (upd H x o) h h':=by
 have hx:∀ b,H b = none -> b ≠ x:=fun b n z=>by subst z; rw [n] at mu; exact mu
 have hb:∀ b,H b = none -> b ≠ e:=fun b n z=>by
  subst z
  rcases he with r | r
  . exact hx b n r
  . rw [n] at r; cases r
 have hm:∀ b u,H b = some u -> ¬ Mut (some u) -> b ≠ x:=fun b u q nm z=>by subst z; rw [q] at mu; exact nm mu
 refine ⟨fun b u q n _ _=>k b u (hb b n) q,fun b u q n _ _=>⟨u.slots,k b u (hb b n) q⟩,fun b u q n _=>by rw [aW (hx b n)]; exact n,fun b u q _=>?_,
  fun b xs q=>by rw [aW (hm b _ q fun z=>z)]; exact q,fun b u xs q=>by rw [aW (hm b _ q fun z=>z)]; exact q,fun b ps q=>⟨#[],by rw [aW (hm b _ q fun z=>z),q]; simp⟩⟩
 by_cases hbe:b = e
 . subst hbe; exact heo
 . exact ⟨u,k b u hbe q⟩
end
def trk (h:Heap) (H:Hp):List Addr:=(List.range h.objs.size).filter fun a=>(H a).isSome
def se (h:Heap) (H:Hp):Heap:=PySem.W.hideAll h (trk h H)
theorem xu (h:Heap) (H:Hp):(se h H).objs.size = h.objs.size:=PySem.W.hideAll_size _ _
theorem zN {h:Heap} {H:Hp} {b:Addr} {o:Obj} (e:h.get? b = some o) (n:H b = none):(se h H).get? b = some o:=
 PySem.W.hideAll_get _ e fun hm=>by
  have q:(H b).isSome = true:=(List.mem_filter.mp hm).2
  rw [n] at q; simp at q
theorem A6 {h:Heap} {H:Hp} {b:Addr} {o:Obj} (e:(se h H).get? b = some o):h.get? b = some o /\ H b = none:=by
 have e':h.get? b = some o:=PySem.W.of_hideAll (trk h H) e
 refine ⟨e',?_⟩
 cases q:H b with
 | none=>rfl
 | some x=>
   have hm:b ∈ trk h H:=List.mem_filter.mpr ⟨List.mem_range.mpr (Heap.lt_size e'),by simp [q]⟩
   have z:(se h H).get? b = none:=PySem.W.hideAll_none (trk h H) hm
   rw [z] at e; cases e
def A5 (g h:Heap) (L:Addr):List (Addr × Obj):=(List.range h.objs.size).filterMap fun a=>if a = L \/ (g.get? a).isSome = true then none else (h.get? a).map fun o=>(a,o)
def rest (g h:Heap) (L d:Addr):List (Addr × Obj):=(A5 g h L).filter fun p=>decide (p.1 ≠ d)
end L2
namespace L2
open PySem PySem.Spec PyProof.Rows
structure Mod (K:PySem.W.Frag) (mg:Str -> Option Value) (base:Heap):Prop where
 kin:K.In base
 glob:base.Ns mainGlobals mg
 blt:∃ mb,base.Ns builtinsNs mb /\ ∀ x:Str,x ≠ "__name__" -> mb x = bootBuiltins x
 nolimit:base.NoLimit
structure Cx where
 prog:Program
 w:World
 K:PySem.W.Frag
 mg:Str -> Option Value
 base:Heap
 A:Around
 N:List Str
 s₀:Shared
 H₀:Hp
 env:Env
 outer:List Env
 stack:List Env
 ex:List Addr
 fn:Str -> Bool
 calm:Bool
 pn:List (Addr × Obj)
 xe:Value -> Shared -> Prop
def frs (l:List Env):List Addr:=l.filterMap (·.frame)
abbrev Cx.fs (X:Cx):List Addr:=frs X.outer
def Vis (sc:Scope) (x:Str):Prop:=sc.names.lookup x = some .local \/ sc.names.lookup x = some .cell \/ sc.names.lookup x = some .free
def Loc (sc:Scope) (x:Str):Prop:=sc.names.lookup x = some .local \/ sc.names.lookup x = some .cell
def Look (env:Env) (h:Heap) (m:Str -> Option Value) (x:Str) (u:Value):Prop:=
 (env.kindOf x = some .local /\ m x = some u) \/ ((env.kindOf x = some .cell \/ env.kindOf x = some .free) /\ ∃ c,env.cells.lookup x = some c /\ h.IsCell c (some u))
structure Cx.Ok (X:Cx):Prop where
 mod:Mod X.K X.mg X.base
 kind:X.env.scope.kind = .function
 glob:X.env.globals = mainGlobals
 blt:X.env.builtins = builtinsNs
 above:X.s₀.heap.objs.size <= X.env.locals
 inj:∀ x y c,X.env.cells.lookup x = some c -> X.env.cells.lookup y = some c -> x = y
 has:∀ x,(X.env.kindOf x = some .cell \/ X.env.kindOf x = some .free) -> ∃ c,X.env.cells.lookup x = some c
 cab:∀ x c,X.fn x = true -> X.env.cells.lookup x = some c -> X.s₀.heap.objs.size <= c
 hd:X.calm = true -> X.A.handled = none
 frames:X.A.frames = some X.stack
 stk:X.stack = X.outer \/ (X.stack = X.env ::X.outer /\ X.env.frame = some X.env.locals)
 exf:∀ b ∈ X.ex,b ≠ X.env.locals /\ ∀ x c,X.env.cells.lookup x = some c -> c ≠ b
 bs:∀ b o,X.base.get? b = some o -> X.s₀.heap.get? b = some o /\ X.H₀ b = none
 bsz:X.base.objs.size <= X.s₀.heap.objs.size
 noex:∀ b o,X.base.get? b = some o -> b ∉ X.ex
 exfs:∀ b ∈ X.ex,b ∉ X.fs
 qD:X.s₀.heap.FunFrames X.base X.outer
 frf:∀ b ∈ X.fs,X.H₀ b = none
structure Inv (X:Cx) (pins:List (Addr × Obj)) (σ:List (Option V)) (H:Hp) (s:Shared):Prop where
 ok:X.Ok
 os:s.os = X.s₀.os
 bare:AllBare s.gens
 base:Un X.fs X.ex X.H₀ H X.s₀.heap s.heap
 loc:∃ m,s.heap.Ns X.env.locals m /\ ∀ (i:Nat) (x:Str) (v:V),X.N[i]? = some x -> σ[i]? = some (some v) -> Vis X.env.scope x -> ∃ u,RelV v u /\ Look X.env s.heap m x u
 cell:∀ x c,X.env.cells.lookup x = some c -> ∃ v,s.heap.IsCell c v
 free:H X.env.locals = none
 freeC:∀ x c,X.env.cells.lookup x = some c -> H c = none
 pin:∀ p ∈ X.pn ++ pins,s.heap.get? p.1 = some p.2 /\ H p.1 = none /\ p.1 ≠ X.env.locals /\ p.1 ∉ X.fs /\ ∀ v,p.2.data ≠ .cell v
 hok:HOk X.prog X.w H s.heap
 len:σ.length = X.N.length
section
variable {X:Cx} {pins:List (Addr × Obj)} {σ:List (Option V)} {H H':Hp} {s:Shared} {h':Heap}
theorem Cx.Ok.G6 (ok:X.Ok) {b:Addr} {o:Obj} (e:X.base.get? b = some o):b ∉ X.fs:=fun hb=>by
 have:=(ok.qD.mem hb).1
 rw [e] at this; cases this
theorem Inv.bs (I:Inv X pins σ H s):∀ b o,X.base.get? b = some o -> s.heap.get? b = some o /\ H b = none:=fun b o e=>
 ⟨I.base.keep b o (I.ok.bs b o e).1 (I.ok.bs b o e).2 (I.ok.G6 e) (I.ok.noex b o e),I.base.free b o (I.ok.bs b o e).1 (I.ok.bs b o e).2 (I.ok.noex b o e)⟩
theorem Inv.bk (I:Inv X pins σ H s):∀ b o,X.base.get? b = some o -> s.heap.get? b = some o:=fun b o e=>(I.bs b o e).1
theorem Inv.mod (I:Inv X pins σ H s):Mod X.K X.mg X.base:=I.ok.mod
theorem Inv.kIn (I:Inv X pins σ H s):X.K.In s.heap:=I.ok.mod.kin.keeps I.bk
theorem Inv.nolimit (I:Inv X pins σ H s):s.heap.NoLimit:=I.ok.mod.nolimit.keeps I.bk
theorem Inv.lt (I:Inv X pins σ H s):X.env.locals < s.heap.objs.size:=let ⟨_,hn,_⟩:=I.loc; hn.lt
theorem Inv.sz (I:Inv X pins σ H s):X.s₀.heap.objs.size <= s.heap.objs.size:=Nat.le_trans I.ok.above (Nat.le_of_lt I.lt)
theorem Inv.GK (I:Inv X pins σ H s) {a:Addr} (h:s.heap.objs.size <= a):a ∉ X.fs:=fun hb=>by
 obtain ⟨_,o,ho,_⟩:=I.ok.qD.mem hb
 exact absurd (Nat.lt_of_lt_of_le (Heap.lt_size ho) (Nat.le_trans I.sz h)) (Nat.lt_irrefl _)
theorem Inv.cne (I:Inv X pins σ H s):∀ x c,X.env.cells.lookup x = some c -> c ≠ X.env.locals:=fun x c e z=>by
 obtain ⟨v,o,ho,hd⟩:=I.cell x c e
 obtain ⟨m,⟨o',es,ep,ho',hd',_⟩,_⟩:=I.loc
 rw [z,ho'] at ho; cases ho; rw [hd'] at hd; cases hd
theorem Inv.qD (I:Inv X pins σ H s):s.heap.FunFrames X.base X.outer:=by
 have all:∀ (l:List Env),(∀ b ∈ frs l,b ∈ X.fs) -> X.s₀.heap.FunFrames X.base l -> s.heap.FunFrames X.base l:=by
  intro l
  induction l with
  | nil=>intro _ _; trivial
  | cons env r ih=>
    intro hs hl
    obtain ⟨hk,⟨L,o,hf,hn,ho,hd⟩,hr⟩:=hl
    have hL:L ∈ X.fs:=hs L (by unfold frs; rw [List.filterMap_cons,hf]; exact List.mem_cons_self)
    obtain ⟨sl,e⟩:=I.base.slot L o ho (I.ok.frf L hL) hL fun z=>I.ok.exfs L z hL
    exact ⟨hk,⟨L,_,hf,hn,e,hd⟩,ih (fun b hb=>hs b (by unfold frs; rw [List.filterMap_cons,hf]; exact List.mem_cons_of_mem _ hb)) hr⟩
 exact all X.outer (fun _ hb=>hb) I.ok.qD
theorem Inv.stack (I:Inv X pins σ H s):s.heap.FunFrames X.base X.stack:=by
 rcases I.ok.stk with e | ⟨e,hf⟩
 . rw [e]; exact I.qD
 . rw [e]
   obtain ⟨m,hn,_⟩:=I.loc
   refine .cons (by rw [I.ok.kind]; decide) hf hn ?_ I.qD
   exact Heap.get?_none_of_le (Nat.le_trans I.ok.bsz I.ok.above)
theorem Inv.vA (I:Inv X pins σ H s):∀ b ∈ frs X.stack,b ∈ X.env.locals ::X.fs:=fun b hb=>by
 rcases I.ok.stk with e | ⟨e,hf⟩
 . rw [e] at hb; exact List.mem_cons_of_mem _ hb
 . rw [e] at hb
   unfold frs at hb
   rw [List.filterMap_cons,hf] at hb
   exact hb
theorem Inv.sk (I:Inv X pins σ H s):∀ b ∈ frs X.stack,H b = none:=fun b hb=>by
 rcases List.mem_cons.mp (I.vA b hb) with e | hb
 . rw [e]; exact I.free
 . obtain ⟨_,o,ho,_⟩:=I.ok.qD.mem hb
   exact I.base.free b o ho (I.ok.frf b hb) fun z=>I.ok.exfs b z hb
theorem Inv.step {g':Array GenState} {t':Nat} {d':Drawn} {ch:List Addr} (I:Inv X pins σ H s)
  (hch:∀ b ∈ ch,(b ∈ X.ex \/ X.s₀.heap.objs.size <= b) /\ b ≠ X.env.locals /\ (∀ x c,X.env.cells.lookup x = some c -> c ≠ b) /\ ∀ p ∈ X.pn ++ pins,p.1 ≠ b)
  (keep:∀ b o,b ≠ X.env.locals -> b ∉ X.fs -> b ∉ ch -> s.heap.get? b = some o -> H b = none -> h'.get? b = some o)
  (slot:∀ b o,b ≠ X.env.locals -> b ∈ X.fs -> b ∉ ch -> s.heap.get? b = some o -> H b = none -> ∃ sl,h'.get? b = some { o with slots:=sl }) (free:∀ b o,b ∉ ch -> s.heap.get? b = some o -> H b = none -> H' b = none)
  (there:∀ b o,b ∉ ch -> s.heap.get? b = some o -> ∃ o',h'.get? b = some o')
  (tups:∀ b xs,H b = some (.tup xs) -> H' b = some (.tup xs)) (frzs:∀ b o u,H b = some (.frz o u) -> H' b = some (.frz o u)) (tbls:∀ b ps,H b = some (.tbl ps) -> ∃ more,H' b = some (.tbl (ps ++ more)))
  (ns:∀ m,s.heap.Ns X.env.locals m -> h'.Ns X.env.locals m) (hok:HOk X.prog X.w H' h') (hg:AllBare g'):
  Inv X pins σ H' { s with heap:=h',gens:=g',drawn:=d',toks:=t' }:=by
 have neL:∀ b o,X.s₀.heap.get? b = some o -> b ≠ X.env.locals:=fun b o e=>Nat.ne_of_lt (Nat.lt_of_lt_of_le (Heap.lt_size e) I.ok.above)
 have neC:∀ b o,X.s₀.heap.get? b = some o -> b ∉ X.ex -> b ∉ ch:=fun b o e hx hb=>by
  rcases (hch b hb).1 with z | z
  . exact hx z
  . exact absurd (Nat.lt_of_lt_of_le (Heap.lt_size e) z) (Nat.lt_irrefl _)
 have cellK:∀ x c,X.env.cells.lookup x = some c -> ∀ v,s.heap.IsCell c v -> h'.IsCell c v:=fun x c e v ⟨o,ho,hd⟩=>by
  have nch:c ∉ ch:=fun z=>(hch c z).2.2.1 x c e rfl
  by_cases hc:c ∈ X.fs
  . obtain ⟨sl,q⟩:=slot c o (I.cne x c e) hc nch ho (I.freeC x c e)
    exact ⟨_,q,hd⟩
  . exact ⟨o,keep c o (I.cne x c e) hc nch ho (I.freeC x c e),hd⟩
 refine ⟨I.ok,I.os,hg,⟨fun b o e n hb hx=>?_,fun b o e n hb hx=>?_,fun b o e n hx=>?_,fun b o e hx=>?_,fun b xs e=>tups b xs (I.base.tups b xs e),fun b o xs e=>frzs b o xs (I.base.frzs b o xs e),fun b ps e=>?_⟩,?_,fun x c e=>?_,?_,fun x c e=>?_,fun p hp=>?_,hok,I.len⟩
 . exact keep b o (neL b o e) hb (neC b o e hx) (I.base.keep b o e n hb hx) (I.base.free b o e n hx)
 . obtain ⟨sl,e1⟩:=I.base.slot b o e n hb hx
   obtain ⟨sl',e2⟩:=slot b _ (neL b o e) hb (neC b o e hx) e1 (I.base.free b o e n hx)
   exact ⟨sl',e2⟩
 . obtain ⟨o',e1⟩:=I.base.there b o e hx
   exact free b o' (neC b o e hx) e1 (I.base.free b o e n hx)
 . obtain ⟨o',e1⟩:=I.base.there b o e hx
   exact there b o' (neC b o e hx) e1
 . obtain ⟨m1,e1⟩:=I.base.tbls b ps e
   obtain ⟨m2,e2⟩:=tbls b _ e1
   exact ⟨m1 ++ m2,by rw [e2,Array.append_assoc]⟩
 . obtain ⟨m,hn,hl⟩:=I.loc
   refine ⟨m,ns m hn,fun i x v e1 e2 e3=>?_⟩
   obtain ⟨u,r,l⟩:=hl i x v e1 e2 e3
   refine ⟨u,r,?_⟩
   rcases l with l | ⟨k,c,e,z⟩
   . exact .inl l
   . exact .inr ⟨k,c,e,cellK x c e _ z⟩
 . obtain ⟨v,z⟩:=I.cell x c e
   exact ⟨v,cellK x c e v z⟩
 . obtain ⟨m,⟨o,_,_,ho,_⟩,_⟩:=I.loc
   exact free _ o (fun z=>(hch _ z).2.1 rfl) ho I.free
 . obtain ⟨v,o,ho,hd⟩:=I.cell x c e
   exact free c o (fun z=>(hch c z).2.2.1 x c e rfl) ho (I.freeC x c e)
 . obtain ⟨e,n,ne,nf,d⟩:=I.pin p hp
   have nch:p.1 ∉ ch:=fun z=>(hch p.1 z).2.2.2 p hp rfl
   exact ⟨keep p.1 p.2 ne nf nch e n,free p.1 p.2 nch e n,ne,nf,d⟩
theorem Inv.un {t':Nat} (I:Inv X pins σ H s) (u:Un X.fs [] H H' s.heap h') (hok:HOk X.prog X.w H' h'):Inv X pins σ H' { s with heap:=h',toks:=t' }:=by
 obtain ⟨m,⟨o,es,ep,ho,r⟩,_⟩:=id I.loc
 obtain ⟨sl,hL⟩:=u.any ho I.free (by simp)
 exact I.step (g':=s.gens) (d':=s.drawn) (ch:=[]) (fun _ z=>nomatch z) (fun b o _ hb _ e n=>u.keep b o e n hb (by simp)) (fun b o _ hb _ e n=>u.slot b o e n hb (by simp)) (fun b o _ e n=>u.free b o e n (by simp)) (fun b o _ e=>u.there b o e (by simp)) u.tups u.frzs u.tbls (fun m' hm=>by
  obtain ⟨o',es',ep',ho',r'⟩:=hm
  rw [ho] at ho'; cases ho'
  exact ⟨_,es',ep',hL,r'⟩) hok I.bare
theorem Inv.call {g':Array GenState} {t':Nat} {d':Drawn} {ch:List Addr} (I:Inv X pins σ H s) (u:Un (frs X.stack) ch H H' s.heap h') (hok:HOk X.prog X.w H' h') (hg:AllBare g')
  (hch:∀ b ∈ ch,(b ∈ X.ex \/ X.s₀.heap.objs.size <= b) /\ b ≠ X.env.locals /\ (∀ x c,X.env.cells.lookup x = some c -> c ≠ b) /\ ∀ p ∈ X.pn ++ pins,p.1 ≠ b):
  Inv X pins σ H' { s with heap:=h',gens:=g',drawn:=d',toks:=t' }:=by
 obtain ⟨m,⟨o,es,ep,ho,r⟩,_⟩:=id I.loc
 obtain ⟨sl,hL⟩:=u.any ho I.free fun z=>(hch _ z).2.1 rfl
 exact I.step (ch:=ch) hch (fun b o hL hb hc e n=>u.keep b o e n (fun z=>(List.mem_cons.mp (I.vA b z)).elim hL hb) hc) (fun b o _ _ hc e n=>u.any e n hc) (fun b o hc e n=>u.free b o e n hc) (fun b o hc e=>u.there b o e hc) u.tups u.frzs u.tbls (fun m' hm=>by
  obtain ⟨o',es',ep',ho',r'⟩:=hm
  rw [ho] at ho'; cases ho'
  exact ⟨_,es',ep',hL,r'⟩) hok hg
theorem Inv.turned {t':Nat} {it:Addr} (I:Inv X pins σ H s) (k:∀ b o,b ≠ it -> s.heap.get? b = some o -> h'.get? b = some o) (hn:H it = none) (hL:it ≠ X.env.locals)
  (h1:it ∈ X.ex \/ X.s₀.heap.objs.size <= it) (h2:∀ x c,X.env.cells.lookup x = some c -> c ≠ it) (h3:∀ p ∈ X.pn ++ pins,p.1 ≠ it):Inv X pins σ H { s with heap:=h',toks:=t' }:=by
 have nit:∀ b u,H b = some u -> b ≠ it:=fun b u e z=>by rw [z,hn] at e; cases e
 refine I.step (g':=s.gens) (d':=s.drawn) (ch:=[it]) (fun b hb=>?_) (fun b o _ _ hc e _=>k b o (fun z=>hc (by simp [z])) e) (fun b o _ _ hc e _=>⟨o.slots,k b o (fun z=>hc (by simp [z])) e⟩) (fun _ _ _ _ n=>n)
  (fun b o hc e=>⟨o,k b o (fun z=>hc (by simp [z])) e⟩) (fun _ _ e=>e) (fun _ _ _ e=>e) (fun b ps e=>⟨#[],by rw [e]; simp⟩) (fun m hm=>?_) (fun b u e=>?_) I.bare
 . have e:b = it:=by simpa using hb
   subst e
   exact ⟨h1,hL,h2,h3⟩
 . obtain ⟨o,es,ep,ho,r⟩:=hm
   exact ⟨o,es,ep,k _ o (Ne.symm hL) ho,r⟩
 . refine (I.hok b u e).nT (fun c v hc q=>k c v ?_ q) (fun _ q=>q) fun _ _ q=>q
   rcases hc with z | z
   . rw [z]; exact nit b u e
   . exact nit c _ z
theorem Inv.tok (I:Inv X pins σ H s) (t:Nat):Inv X pins σ H { s with toks:=t }:=I.un (h':=s.heap) (t':=t) Un.refl I.hok
theorem Inv.kept {t':Nat} (I:Inv X pins σ H s) (k:∀ b u,s.heap.get? b = some u -> h'.get? b = some u):Inv X pins σ H { s with heap:=h',toks:=t' }:=I.un (Un.kept k) (I.hok.kept k)
theorem Inv.laid {a:Addr} {o:HO} {t':Nat} (I:Inv X pins σ H s) (k:∀ b u,s.heap.get? b = some u -> h'.get? b = some u) (hp:s.heap.objs.size <= a) (new:hX X.prog X.w (upd H a o) h' a o):
  Inv X pins σ (upd H a o) { s with heap:=h',toks:=t' }:=I.un (Un.laid k hp (I.hok.fresh hp)) (I.hok.laid k hp new)
theorem Inv.write {x e:Addr} {o:HO} {t':Nat} (I:Inv X pins σ H s) (mu:Mut (H x)) (he:e = x \/ H e = some (.own x)) (k:∀ b u,b ≠ e -> s.heap.get? b = some u -> h'.get? b = some u) (heo:∃ u,h'.get? e = some u)
  (new:hX X.prog X.w (upd H x o) h' x o):Inv X pins σ (upd H x o) { s with heap:=h',toks:=t' }:=I.un (Un.write mu he k heo) (I.hok.write mu he k heo new)
theorem Inv.wy {pins':List (Addr × Obj)} (I:Inv X pins σ H s) (h:∀ p ∈ pins',s.heap.get? p.1 = some p.2 /\ H p.1 = none /\ p.1 ≠ X.env.locals /\ p.1 ∉ X.fs /\ ∀ v,p.2.data ≠ .cell v):Inv X pins' σ H s:=
 ⟨I.ok,I.os,I.bare,I.base,I.loc,I.cell,I.free,I.freeC,fun p hp=>(List.mem_append.mp hp).elim (fun z=>I.pin p (List.mem_append_left _ z)) (h p),I.hok,I.len⟩
theorem uM {N:List Str} (hN:N.Nodup) {i j:Nat} {x:Str} (a:N[i]? = some x) (b:N[j]? = some x):i = j:=by
 obtain ⟨h1,e1⟩:=List.getElem?_eq_some_iff.mp a
 obtain ⟨h2,e2⟩:=List.getElem?_eq_some_iff.mp b
 exact (List.getElem_inj hN).mp (e1.trans e2.symm)
theorem xG {M:Model} {A:Around} {E:Value -> Shared -> Prop} {i:Nat} {x:Str} {v:V} {u:Value} {Q:Unit -> Shared -> Prop} (I:Inv X pins σ H s) (hN:X.N.Nodup) (hi:X.N[i]? = some x) (hx:Loc X.env.scope x) (r:RelV v u)
  (h:∀ s',Inv X pins (σ.set i (some v)) H s' -> (∃ a,Heap.SameBut a s.heap s'.heap /\ (a = X.env.locals \/ X.env.cells.lookup x = some a)) -> Q () s') (hf:X.fn x = true \/ X.env.scope.names.lookup x = some .local:=by first | exact .inl rfl | exact .inr rfl | assumption):wpAny M A (storeName X.env x u) Q E s:=by
 obtain ⟨m,hn,hl⟩:=id I.loc
 have hcls:(X.env.scope.kind == .class || (X.env.scope.kind == .module && X.env.locals != X.env.globals)) = false:=by rw [I.ok.kind]; rfl
 have hiσ:i < σ.length:=by rw [I.len]; exact (List.getElem?_eq_some_iff.mp hi).1
 have cne:=I.cne
 have tracked:∀ {a:Addr} {h':Heap},(∃ o,s.heap.get? a = some o /\ H a = none) -> Heap.SameBut a s.heap h' -> HOk X.prog X.w H h':=fun {a h'} ha hs b ob e=>by
  obtain ⟨_,_,hfree⟩:=ha
  refine (I.hok b ob e).nT (fun c w' hc q=>(hs.2 c ?_).trans q) (fun _ q=>q) fun _ _ q=>q
  rintro rfl
  rcases hc with rfl | hc
  . rw [hfree] at e; cases e
  . rw [hfree] at hc; cases hc
 rcases hx with hk | hk
 . refine wpAny_storeName_local hk hn (fun h' hn' hs=>?_) hcls
   obtain ⟨oL,_,_,hoL,_⟩:=id hn
   refine h _ ⟨I.ok,I.os,I.bare,⟨fun b o e n hb hx=>?_,fun b o e n hb hx=>?_,I.base.free,fun b o e hx=>?_,I.base.tups,I.base.frzs,I.base.tbls⟩,⟨_,hn',fun j y v' e1 e2 e3=>?_⟩,fun y c e=>?_,I.free,I.freeC,fun p hp=>?_,tracked ⟨oL,hoL,I.free⟩ hs,by simpa using I.len⟩ ⟨_,hs,.inl rfl⟩
   . exact (hs.2 b (Nat.ne_of_lt (Nat.lt_of_lt_of_le (Heap.lt_size e) I.ok.above))).trans (I.base.keep b o e n hb hx)
   . obtain ⟨sl,e1⟩:=I.base.slot b o e n hb hx
     exact ⟨sl,(hs.2 b (Nat.ne_of_lt (Nat.lt_of_lt_of_le (Heap.lt_size e) I.ok.above))).trans e1⟩
   . obtain ⟨o',e1⟩:=I.base.there b o e hx
     exact ⟨o',(hs.2 b (Nat.ne_of_lt (Nat.lt_of_lt_of_le (Heap.lt_size e) I.ok.above))).trans e1⟩
   . by_cases hj:j = i
     . subst hj
       rw [hi] at e1; cases e1
       rw [List.getElem?_set_self hiσ] at e2
       cases e2
       exact ⟨u,r,.inl ⟨hk,by simp⟩⟩
     . rw [List.getElem?_set_ne (Ne.symm hj)] at e2
       obtain ⟨u',r',q⟩:=hl j y v' e1 e2 e3
       refine ⟨u',r',?_⟩
       rcases q with ⟨k,e⟩ | ⟨k,c,e,z⟩
       . refine .inl ⟨k,?_⟩
         have:y ≠ x:=fun e=>hj (uM hN e1 (e ▸ hi))
         simp [this,e]
       . exact .inr ⟨k,c,e,z.sameBut hs (cne y c e)⟩
   . obtain ⟨w',z⟩:=I.cell y c e
     exact ⟨w',z.sameBut hs (cne y c e)⟩
   . obtain ⟨e,n,ne,nf,d⟩:=I.pin p hp
     exact ⟨(hs.2 p.1 ne).trans e,n,ne,nf,d⟩
 . have hfn:X.fn x = true:=by
    rcases hf with z | z
    . exact z
    . rw [z] at hk; cases hk
   obtain ⟨c,hc⟩:=I.ok.has x (.inl hk)
   obtain ⟨w',z⟩:=I.cell x c hc
   refine wpAny_storeName_cell I.ok.kind hk hc z (fun h' hc' hs=>?_)
   obtain ⟨oc,hoc,hocd⟩:=id z
   refine h { s with heap:=h' } ⟨I.ok,I.os,I.bare,⟨fun b o e n hb hx=>?_,fun b o e n hb hx=>?_,I.base.free,fun b o e hx=>?_,I.base.tups,I.base.frzs,I.base.tbls⟩,⟨m,hn.sameBut hs (Ne.symm (cne x c hc)),fun j y v' e1 e2 e3=>?_⟩,fun y c' e=>?_,I.free,I.freeC,fun p hp=>?_,tracked ⟨oc,hoc,I.freeC x c hc⟩ hs,by simpa using I.len⟩ ⟨c,hs,.inr hc⟩
   . exact (hs.2 b (Nat.ne_of_lt (Nat.lt_of_lt_of_le (Heap.lt_size e) (I.ok.cab x c hfn hc)))).trans (I.base.keep b o e n hb hx)
   . obtain ⟨sl,e1⟩:=I.base.slot b o e n hb hx
     exact ⟨sl,(hs.2 b (Nat.ne_of_lt (Nat.lt_of_lt_of_le (Heap.lt_size e) (I.ok.cab x c hfn hc)))).trans e1⟩
   . obtain ⟨o',e1⟩:=I.base.there b o e hx
     exact ⟨o',(hs.2 b (Nat.ne_of_lt (Nat.lt_of_lt_of_le (Heap.lt_size e) (I.ok.cab x c hfn hc)))).trans e1⟩
   . by_cases hj:j = i
     . subst hj
       rw [hi] at e1; cases e1
       rw [List.getElem?_set_self hiσ] at e2
       cases e2
       exact ⟨u,r,.inr ⟨.inl hk,c,hc,hc'⟩⟩
     . rw [List.getElem?_set_ne (Ne.symm hj)] at e2
       obtain ⟨u',r',q⟩:=hl j y v' e1 e2 e3
       refine ⟨u',r',?_⟩
       rcases q with q | ⟨k,c',e,z'⟩
       . exact .inl q
       . refine .inr ⟨k,c',e,z'.sameBut hs ?_⟩
         rintro rfl
         exact hj (uM hN e1 (I.ok.inj _ _ _ e hc ▸ hi))
   . by_cases hcc:c' = c
     . subst hcc; exact ⟨_,hc'⟩
     . obtain ⟨w2,z2⟩:=I.cell y c' e
       exact ⟨w2,z2.sameBut hs hcc⟩
   . obtain ⟨e,n,ne,nf,d⟩:=I.pin p hp
     refine ⟨(hs.2 p.1 ?_).trans e,n,ne,nf,d⟩
     intro q
     rw [q,hoc] at e
     have q':oc = p.2:=Option.some.inj e
     exact d w' (by rw [<- q']; exact hocd)
theorem lN {M:Model} {A:Around} {E:Value -> Shared -> Prop} {i:Nat} {x:Str} {v:V} {u:Value} {Q:Unit -> Shared -> Prop} (I:Inv X pins σ H s) (hN:X.N.Nodup) (hi:X.N[i]? = some x) (hx:Loc X.env.scope x) (r:RelV v u)
  (h:∀ s',Inv X pins (σ.set i (some v)) H s' -> Q () s') (hf:X.fn x = true \/ X.env.scope.names.lookup x = some .local:=by first | exact .inl rfl | exact .inr rfl | assumption):wpAny M A (storeName X.env x u) Q E s:=
 xG I hN hi hx r (fun s' I' _=>h s' I') hf
theorem Inv.BS {s':Shared} {ch:List Addr} (I:Inv X pins σ H s) (ho:s'.os = s.os) (u:Un (frs X.stack) ch H H' s.heap s'.heap) (hok:HOk X.prog X.w H' s'.heap) (hg:AllBare s'.gens)
  (hch:∀ b ∈ ch,(b ∈ X.ex \/ X.s₀.heap.objs.size <= b) /\ b ≠ X.env.locals /\ (∀ x c,X.env.cells.lookup x = some c -> c ≠ b) /\ ∀ p ∈ X.pn ++ pins,p.1 ≠ b):Inv X pins σ H' s':=by
 obtain ⟨h',g',d',t',o'⟩:=s'
 have e:o' = s.os:=ho
 subst e
 exact I.call (g':=g') (t':=t') (d':=d') u hok hg hch
end
abbrev XK:=Value -> Option Addr -> Hp -> Prop
abbrev St:=List (Option V)
abbrev VK:=V -> Hp -> Prop
abbrev TE:=St -> Hp -> VK -> Prop
abbrev TT:=St -> Hp -> (Bool -> Hp -> Prop) -> Prop
abbrev TA:=St -> Hp -> (List V -> Hp -> Prop) -> Prop
structure Ends where
 nx:St -> Hp -> Prop
 rt:VK
 bk:St -> Hp -> Prop:=fun _ _=>False
 ct:St -> Hp -> Prop:=fun _ _=>False
abbrev TS:=Ends -> St -> Hp -> Prop
def EP (X:Cx) (pins:List (Addr × Obj)) (σ:St) (Q:VK) (u:Value) (s':Shared):Prop:=∃ v H',Inv X pins σ H' s' /\ RelV v u /\ Q v H'
def TP (X:Cx) (pins:List (Addr × Obj)) (σ:St) (Q:Bool -> Hp -> Prop) (b:Bool) (s':Shared):Prop:=∃ H',Inv X pins σ H' s' /\ Q b H'
def AP (X:Cx) (pins:List (Addr × Obj)) (σ:St) (Q:List V -> Hp -> Prop) (us:List Value) (s':Shared):Prop:=∃ vs H',Inv X pins σ H' s' /\ Vals vs us /\ Q vs H'
def SP (X:Cx) (pins:List (Addr × Obj)) (D:Ends) (f:Flow) (s':Shared):Prop:=
 match f with
 | .next=>∃ σ' H',Inv X pins σ' H' s' /\ D.nx σ' H'
 | .brk=>∃ σ' H',Inv X pins σ' H' s' /\ D.bk σ' H'
 | .cont=>∃ σ' H',Inv X pins σ' H' s' /\ D.ct σ' H'
 | .ret u=>∃ v σ' H',Inv X pins σ' H' s' /\ RelV v u /\ D.rt v H'
def PE (X:Cx) (e:Expr) (t:TE):Prop:=
 ∀ (pins:List (Addr × Obj)) (s:Shared) (σ:St) (H:Hp) (Q:VK),Inv X pins σ H s -> t σ H Q -> wpAny (model X.prog X.w) X.A (eval e X.env) (EP X pins σ Q) X.xe s
def PT (X:Cx) (e:Expr) (t:TT):Prop:=
 ∀ (pins:List (Addr × Obj)) (s:Shared) (σ:St) (H:Hp) (Q:Bool -> Hp -> Prop),Inv X pins σ H s -> t σ H Q -> wpAny (model X.prog X.w) X.A (isTrue e X.env (eval e X.env)) (TP X pins σ Q) X.xe s
def PW (X:Cx) (e:Expr) (t:TT):Prop:=
 ∀ (whole:Sem Value) (pins:List (Addr × Obj)) (s:Shared) (σ:St) (H:Hp) (Q:Bool -> Hp -> Prop),Inv X pins σ H s -> t σ H Q -> wpAny (model X.prog X.w) X.A (isTrue e X.env whole) (TP X pins σ Q) X.xe s
theorem PW.pt {X:Cx} {e:Expr} {t:TT} (h:PW X e t):PT X e t:=h _
def PA (X:Cx) (es:List Expr) (t:TA):Prop:=
 ∀ (pos:Pos) (pins:List (Addr × Obj)) (s:Shared) (σ:St) (H:Hp) (Q:List V -> Hp -> Prop),Inv X pins σ H s -> t σ H Q -> wpAny (model X.prog X.w) X.A (spliced (backTo pos (starEach es X.env))) (AP X pins σ Q) X.xe s
def PS (X:Cx) (st:Stmt) (t:TS):Prop:=
 ∀ (pins:List (Addr × Obj)) (s:Shared) (σ:St) (H:Hp) (D:Ends),Inv X pins σ H s -> t D σ H -> wpAny (model X.prog X.w) X.A (exec st X.env) (SP X pins D) X.xe s
def PSs (X:Cx) (st:List Stmt) (t:TS):Prop:=
 ∀ (pins:List (Addr × Obj)) (s:Shared) (σ:St) (H:Hp) (D:Ends),Inv X pins σ H s -> t D σ H -> wpAny (model X.prog X.w) X.A (execs st X.env) (SP X pins D) X.xe s
theorem thn {α:Type} {t:Sem α} {Q Q':α -> Shared -> Prop} {M:Model} {A:Around} {E:Value -> Shared -> Prop} {s:Shared} (h:wpAny M A t Q E s) (hQ:∀ a s,Q a s -> Q' a s):wpAny M A t Q' E s:=wpAny_mono h hQ fun _ _ x=>x
end L2
namespace L2
open PySem PySem.Spec PyProof.Rows
section
variable {X:Cx}
theorem bin {a b:Expr} {ta tb:TE} (ha:PE X a ta) (hb:PE X b tb) {pins:List (Addr × Obj)} {s:Shared} {σ:St} {H:Hp} {R:V -> V -> Hp -> Prop} (I:Inv X pins σ H s) (h:ta σ H fun x H1=>tb σ H1 fun y H2=>R x y H2)
  {α:Type} {Q:α -> Shared -> Prop} {f:Value -> Value -> Sem α}
  (hf:∀ v u s2 x y H2,Inv X pins σ H2 s2 -> RelV x v -> RelV y u -> R x y H2 -> wpAny (model X.prog X.w) X.A (f v u) Q X.xe s2):
  wpAny (model X.prog X.w) X.A (eval a X.env) (fun v s₁=>wpAny (model X.prog X.w) X.A (eval b X.env) (fun u s₂=>wpAny (model X.prog X.w) X.A (f v u) Q X.xe s₂) X.xe s₁) X.xe s:=by
 refine thn (ha pins s σ H _ I h) fun v s1 ⟨x,H1,I1,r1,q1⟩=>?_
 refine thn (hb pins s1 σ H1 _ I1 q1) fun u s2 ⟨y,H2,I2,r2,q2⟩=>?_
 exact hf v u s2 x y H2 I2 r1 r2 q2
def qB (i:Nat):TE:=fun σ H Q=>∃ v,σ[i]? = some (some v) /\ Q v H
def tC (v:V):TE:=fun _ H Q=>Q v H
theorem C8 {i:Nat} {x:Str} {pos:Pos} (hN:X.N[i]? = some x) (hv:Vis X.env.scope x) (hd:(x == ("__debug__":Str)) = false:=by decide) (hcd:(x == ("__classdict__":Str)) = false:=by decide):PE X (.Name x pos) (qB i):=by
 intro pins s σ H Q I h
 obtain ⟨v,e,h⟩:=h
 obtain ⟨m,hn,hl⟩:=I.loc
 obtain ⟨u,r,l⟩:=hl i x v hN e hv
 have fin:EP X pins σ Q u s:=⟨v,H,I,r,h⟩
 rcases l with ⟨hk,hm⟩ | ⟨hk,c,hc,hcell⟩
 . exact wpAny_Name (wpAny_loadName_local I.ok.kind hk hn hm fin) hd
 . rcases hk with hk | hk
   . exact wpAny_Name (wpAny_loadName_cell I.ok.kind hk hc hcell fin) hd
   . exact wpAny_Name (wpAny_loadName_free I.ok.kind hk hc hcell fin hcd) hd
theorem Dw {i j pos}:PE X (.Constant (.int i) j pos) (tC (.int i)):=fun _ _ _ H _ I h=>wpAny_Constant_int ⟨.int i,H,I.tok _,⟨_,rfl⟩,h⟩
theorem E0 {b j pos}:PE X (.Constant (.bool b) j pos) (tC (.bl b)):=fun _ _ _ H _ I h=>Constant_bool ⟨.bl b,H,I,rfl,h⟩
theorem Ep {j pos}:PE X (.Constant .none j pos) (tC .non):=fun _ _ _ H _ I h=>Constant_none ⟨.non,H,I,rfl,h⟩
theorem EC {x j pos}:PE X (.Constant (.str x) j pos) (tC (.str x)):=fun _ _ _ H _ I h=>Calls.Constant_str ⟨.str x,H,I.tok _,⟨_,rfl⟩,h⟩
def Gl (X:Cx) (x:Str):Prop:=X.env.kindOf x = some .globalImplicit
theorem mm {E:Value -> Shared -> Prop} {pins:List (Addr × Obj)} {s:Shared} {σ:St} {H:Hp} {x:Str} {u:Value} {pos:Pos} {Q:Value -> Shared -> Prop} (I:Inv X pins σ H s) (hg:Gl X x) (hm:X.mg x = some u) (h:Q u s)
  (hd:(x == ("__debug__":Str)) = false:=by decide):wpAny (model X.prog X.w) X.A (eval (.Name x pos) X.env) Q E s:=
 Calls.Name_function_global I.ok.kind hg (Calls.loadGlobal_global (by rw [I.ok.glob]; exact I.mod.glob.keeps I.bk) hm h) hd
theorem rZ {E:Value -> Shared -> Prop} {pins:List (Addr × Obj)} {s:Shared} {σ:St} {H:Hp} {x:Str} {u:Value} {pos:Pos} {Q:Value -> Shared -> Prop} (I:Inv X pins σ H s) (hg:Gl X x) (hm:X.mg x = none) (hv:bootBuiltins x = some u) (h:Q u s)
  (hn:x ≠ "__name__":=by decide) (hd:(x == ("__debug__":Str)) = false:=by decide):wpAny (model X.prog X.w) X.A (eval (.Name x pos) X.env) Q E s:=by
 obtain ⟨mb,h1,h2⟩:=I.mod.blt
 exact Calls.Name_function_global I.ok.kind hg (Calls.loadGlobal_builtin (by rw [I.ok.glob]; exact I.mod.glob.keeps I.bk) hm (by rw [I.ok.blt]; exact h1.keeps I.bk) ((h2 x hn).trans hv) h) hd
theorem Bj {x:Str} {v:V} {u:Value} {pos:Pos} (hg:Gl X x) (hm:X.mg x = some u) (r:RelV v u) (hd:(x == ("__debug__":Str)) = false:=by decide):PE X (.Name x pos) (tC v):=
 fun _ _ _ H _ I h=>mm I hg hm ⟨v,H,I,r,h⟩ hd
theorem BJ {x:Str} {v:V} {u:Value} {pos:Pos} (hg:Gl X x) (hm:X.mg x = none) (hv:bootBuiltins x = some u) (r:RelV v u) (hn:x ≠ "__name__":=by decide) (hd:(x == ("__debug__":Str)) = false:=by decide):PE X (.Name x pos) (tC v):=
 fun _ _ _ H _ I h=>rZ I hg hm hv ⟨v,H,I,r,h⟩ hn hd
variable {a b:Expr} {ta tb:TE} {pos:Pos}
def PC (X:Cx) (op:CmpOp) (a b:Expr) (t:TE):Prop:=
 ∀ (pins:List (Addr × Obj)) (s:Shared) (σ:St) (H:Hp) (Q:VK),Inv X pins σ H s -> t σ H Q ->
   wpAny (model X.prog X.w) X.A (eval a X.env) (fun v s₁=>wpAny (model X.prog X.w) X.A (eval b X.env) (fun u s₂=>wpAny (model X.prog X.w) X.A (compareOp op v u) (EP X pins σ Q) X.xe s₂) X.xe s₁) X.xe s
variable {tA tB':TT} {rest:List Expr}
def Ej (t u:TT):TT:=fun σ H Q=>t σ H fun c H1=>if c = true then u σ H1 Q else Q false H1
def tOr (t u:TT):TT:=fun σ H Q=>t σ H fun c H1=>if c = true then Q true H1 else u σ H1 Q
def BD (t:TT):TT:=fun σ H Q=>t σ H fun c H1=>Q (!c) H1
theorem Bo (ha:PT X a tA):PW X (.BoolOp .And [a] pos) tA:=by
 intro wh pins s σ H Q I h
 refine isTrue_and (thn (ha pins s σ H Q I h) fun c s1 e=>?_)
 cases c with
 | true=>exact isTrue_and_nil e
 | false=>exact e
theorem Eu (ha:PT X a tA):PW X (.BoolOp .Or [a] pos) tA:=by
 intro wh pins s σ H Q I h
 refine isTrue_or (thn (ha pins s σ H Q I h) fun c s1 e=>?_)
 cases c with
 | false=>exact isTrue_or_nil e
 | true=>exact e
theorem DS (ha:PT X a tA) (hb:PW X (.BoolOp .And (b ::rest) pos) tB'):PW X (.BoolOp .And (a ::b ::rest) pos) (Ej tA tB'):=by
 intro wh pins s σ H Q I h
 refine isTrue_and (thn (ha pins s σ H _ I h) fun c s1 ⟨H1,I1,q1⟩=>?_)
 cases c with
 | true=>exact hb wh pins s1 σ H1 Q I1 q1
 | false=>exact ⟨H1,I1,q1⟩
theorem E1 (ha:PT X a tA) (hb:PW X (.BoolOp .Or (b ::rest) pos) tB'):PW X (.BoolOp .Or (a ::b ::rest) pos) (tOr tA tB'):=by
 intro wh pins s σ H Q I h
 refine isTrue_or (thn (ha pins s σ H _ I h) fun c s1 ⟨H1,I1,q1⟩=>?_)
 cases c with
 | true=>exact ⟨H1,I1,q1⟩
 | false=>exact hb wh pins s1 σ H1 Q I1 q1
theorem DX (ha:PT X a tA):PT X (.UnaryOp .Not a pos) (BD tA):=by
 intro pins s σ H Q I h
 exact isTrue_not (ha pins s σ H (fun c H1=>Q (!c) H1) I h)
def yk (ta tb:TE):TE:=fun σ H Q=>ta σ H fun x H1=>∃ c,x = .bl c /\ if c = true then tb σ H1 Q else Q (.bl false) H1
def y7 (ta:TE):TE:=fun σ H Q=>ta σ H fun x H1=>∃ c,x = .bl c /\ Q (.bl (!c)) H1
theorem DK {op} {t:TE} (h:PE X a t):PE X (.BoolOp op [a] pos) t:=fun pins s σ H Q I hw=>BoolOp_one (h pins s σ H Q I hw)
theorem Dr (ha:PE X a ta) (hb:PE X (.BoolOp .And (b ::rest) pos) tb):PE X (.BoolOp .And (a ::b ::rest) pos) (yk ta tb):=by
 intro pins s σ H Q I h
 refine BoolOp_and (thn (ha pins s σ H _ I h) fun v s1 ⟨x,H1,I1,r1,q1⟩=>?_)
 obtain ⟨c,rfl,q1⟩:=q1
 cases r1
 refine wpAny_truthy_bool ?_
 cases c with
 | true=>exact hb pins s1 σ H1 Q I1 q1
 | false=>exact ⟨.bl false,H1,I1,rfl,q1⟩
theorem DF (ha:PE X a ta):PE X (.UnaryOp .Not a pos) (y7 ta):=by
 intro pins s σ H Q I h
 refine UnaryOp_ (thn (ha pins s σ H _ I h) fun v s1 ⟨x,H1,I1,r1,q1⟩=>?_)
 obtain ⟨c,rfl,q1⟩:=q1
 cases r1
 exact not_of (wpAny_truthy_bool ⟨.bl (!c),H1,I1,rfl,q1⟩)
def tIf (t:TT) (ta tb:TE):TE:=fun σ H Q=>t σ H fun c H1=>if c = true then ta σ H1 Q else tb σ H1 Q
theorem zZ {c:Expr} (hc:PT X c tA) (ha:PE X a ta) (hb:PE X b tb):PE X (.IfExp c a b pos) (tIf tA ta tb):=by
 intro pins s σ H Q I h
 refine wpAny_IfExp (thn (hc pins s σ H _ I h) fun d s1 ⟨H1,I1,q1⟩=>?_)
 cases d with
 | true=>exact ha pins s1 σ H1 Q I1 q1
 | false=>exact hb pins s1 σ H1 Q I1 q1
end
end L2
namespace L2
open PySem PySem.Spec PyProof.Rows
def SqL (K:PySem.W.Frag) (H:Hp) (a:Addr) (xs:List V):Prop:=
 Rd H a (.lst xs) \/
  ∃ (o:Obj) (its:Array Value) (n:Nat),K.lookup a = some o /\ o.cls = .type "list" /\ o.dict = none /\ o.data = .seq its n /\ its.size <= sizeLine /\ Vals xs its.toList
def SqT (K:PySem.W.Frag) (H:Hp) (a:Addr) (xs:List V):Prop:=
 Rd H a (.tup xs) \/
  ∃ (o:Obj) (its:Array Value) (n:Nat),K.lookup a = some o /\ o.cls = .type "tuple" /\ o.data = .seq its n /\ its.size <= sizeLine /\ Vals xs its.toList
def Hq:Value -> Option V
 | .none=>some .non
 | .bool b=>some (.bl b)
 | .int i _=>some (.int i)
 | .str x _=>some (.str x)
 | .bytes b _=>some (.byt b)
 | .float b _=>some (.flt b)
 | .ref a=>some (.ref a)
 | .type n=>some (.ty n)
 | _=>none
theorem RelV.abs {x:V} {u:Value} (r:RelV x u):Hq u = some x:=by
 cases x with
 | non=>cases r; rfl
 | bl _=>cases r; rfl
 | int _=>obtain ⟨t,rfl⟩:=r; rfl
 | str _=>obtain ⟨t,rfl⟩:=r; rfl
 | byt _=>obtain ⟨t,rfl⟩:=r; rfl
 | flt _=>obtain ⟨t,rfl⟩:=r; rfl
 | ref _=>cases r; rfl
 | ty _=>cases r; rfl
theorem RelV.inj {x y:V} {u:Value} (r:RelV x u) (q:RelV y u):x = y:=Option.some.inj (r.abs.symm.trans q.abs)
theorem Vals.inj:∀ {xs ys:List V} {us:List Value},Vals xs us -> Vals ys us -> xs = ys
 | _,_,_,.nil,.nil=>rfl
 | _,_,_,.cons r t,.cons r' t'=>by rw [r.inj r',Vals.inj t t']
section
variable {X:Cx} {pins:List (Addr × Obj)} {σ:St} {H:Hp} {s:Shared} {a:Addr} {xs ys:List V}
theorem Inv.list (I:Inv X pins σ H s) (h:SqL X.K H a xs):∃ its:List Value,Vals xs its /\ PlainL s.heap a its.toArray /\ xs.length <= sizeLine:=by
 rcases h with h | ⟨o,its,n,hk,hc,hd,hs,hz,r⟩
 . obtain ⟨z,its,n,r,e⟩:=h.ok I.hok
   exact ⟨its,r,⟨_,n,e,rfl,rfl,rfl⟩,z⟩
 . refine ⟨its.toList,r,⟨o,n,I.kIn a o hk,hc,hd,by simpa using hs⟩,?_⟩
   have e:=r.length
   simp only [Array.length_toList] at e
   omega
theorem Inv.tuple (I:Inv X pins σ H s) (h:SqT X.K H a xs):∃ its:List Value,Vals xs its /\ IsTup s.heap a its.toArray /\ xs.length <= sizeLine:=by
 rcases h with h | ⟨o,its,n,hk,hc,hs,hz,r⟩
 . obtain ⟨z,its,r,p⟩:=h.ok I.hok
   exact ⟨its,r,p,z⟩
 . refine ⟨its.toList,r,⟨o,I.kIn a o hk,hc,n,by simpa using hs⟩,?_⟩
   have e:=r.length
   simp only [Array.length_toList] at e
   omega
theorem Inv.uY (I:Inv X pins σ H s) (h:SqL X.K H a xs) (h':SqL X.K H a ys):xs = ys:=by
 obtain ⟨its,r,⟨o,n,e,_,_,d⟩,_⟩:=I.list h
 obtain ⟨its',r',⟨o',n',e',_,_,d'⟩,_⟩:=I.list h'
 rw [e] at e'; cases e'
 rw [d] at d'
 injection d' with d1 _
 have:its = its':=by simpa using congrArg Array.toList d1
 subst this
 exact r.inj r'
theorem Inv.xQ (I:Inv X pins σ H s) (h:SqT X.K H a xs) (h':SqT X.K H a ys):xs = ys:=by
 obtain ⟨its,r,⟨o,e,_,n,d⟩,_⟩:=I.tuple h
 obtain ⟨its',r',⟨o',e',_,n',d'⟩,_⟩:=I.tuple h'
 rw [e] at e'; cases e'
 rw [d] at d'
 injection d' with d1 _
 have:its = its':=by simpa using congrArg Array.toList d1
 subst this
 exact r.inj r'
end
section
variable {X:Cx} {st:Stmt} {rest:List Stmt} {t u:TS} {e:Expr} {te:TE} {pos:Pos}
def zr:TS:=fun D σ H=>D.nx σ H
def Eo (t u:TS):TS:=fun D σ H=>t { D with nx:=u D } σ H
theorem AE:PSs X [] zr:=fun _ _ σ H _ I h=>wpAny_execs_nil ⟨σ,H,I,h⟩
theorem Ai (h1:PS X st t) (h2:PSs X rest u):PSs X (st ::rest) (Eo t u):=by
 intro pins s σ H D I h
 refine wpAny_execs_cons (thn (h1 pins s σ H { D with nx:=u D } I h) fun f s1 q=>?_)
 cases f with
 | next=>
   obtain ⟨σ',H',I',q⟩:=q
   exact h2 pins s1 σ' H' D I' q
 | ret v=>exact q
 | brk=>exact q
 | cont=>exact q
theorem wZ (h1:PS X st t):PSs X [st] t:=by
 intro pins s σ H D I h
 refine wpAny_execs_cons (thn (h1 pins s σ H D I h) fun f s1 q=>?_)
 cases f with
 | next=>exact wpAny_execs_nil q
 | ret v=>exact q
 | brk=>exact q
 | cont=>exact q
theorem Inv.quiet {pins:List (Addr × Obj)} {σ:St} {H:Hp} {s:Shared} (I:Inv X pins σ H s):interactive X.env = false:=by simp [interactive,I.ok.kind]
def rL (te:TE):TS:=fun D σ H=>te σ H fun _ H1=>D.nx σ H1
theorem AM (he:PE X e te) (hs:swapsWith e none pos.line X.env = pure false:=by rfl):PS X (.Expr e pos) (rL te):=by
 intro pins s σ H D I h
 exact wpAny_Expr_any (thn (he pins s σ H _ I h) fun v s1 ⟨x,H1,I1,r1,q1⟩=>⟨σ,H1,I1,q1⟩) I.quiet hs
def Bp (te:TE):TS:=fun D σ H=>te σ H D.rt
theorem CZ (he:PE X e te):PS X (.Return (some e) pos) (Bp te):=by
 intro pins s σ H D I h
 exact wpAny_Return_some (thn (he pins s σ H _ I h) fun v s1 ⟨x,H1,I1,r1,q1⟩=>⟨x,σ,H1,I1,r1,q1⟩)
def A4 (c:TT) (t u:TS):TS:=fun D σ H=>c σ H fun b H1=>if b = true then t D σ H1 else u D σ H1
theorem FH {c:Expr} {a b:List Stmt} {tc:TT} (hc:PT X c tc) (ha:PSs X a t) (hb:PSs X b u):PS X (.If c a b pos) (A4 tc t u):=by
 intro pins s σ H D I h
 refine wpAny_If (thn (hc pins s σ H _ I h) fun d s1 ⟨H1,I1,q1⟩=>?_)
 cases d with
 | true=>exact ha pins s1 σ H1 D I1 q1
 | false=>exact hb pins s1 σ H1 D I1 q1
end
abbrev TG:=V -> St -> Hp -> (St -> Hp -> Prop) -> Prop
abbrev TGs:=List V -> St -> Hp -> (St -> Hp -> Prop) -> Prop
def PG (X:Cx) (target:Expr) (t:TG):Prop:=
 ∀ (pins:List (Addr × Obj)) (s:Shared) (σ:St) (H:Hp) (v:V) (u:Value) (Q:St -> Hp -> Prop),Inv X pins σ H s -> RelV v u -> t v σ H Q ->
   wpAny (model X.prog X.w) X.A (assign target X.env u) (fun _ s'=>∃ σ' H',Inv X pins σ' H' s' /\ Q σ' H') X.xe s
def PGs (X:Cx) (ts:List Expr) (t:TGs):Prop:=
 ∀ (pins:List (Addr × Obj)) (s:Shared) (σ:St) (H:Hp) (vs:List V) (us:List Value) (Q:St -> Hp -> Prop),Inv X pins σ H s -> Vals vs us -> t vs σ H Q ->
   wpAny (model X.prog X.w) X.A (assignInOrder ((assignEach ts X.env).map (·.2)) us) (fun _ s'=>∃ σ' H',Inv X pins σ' H' s' /\ Q σ' H') X.xe s
abbrev A3:=V -> V -> V -> Hp -> (Hp -> Prop) -> Prop
def Es (X:Cx) (t:A3):Prop:=
 ∀ (pins:List (Addr × Obj)) (s:Shared) (σ:St) (H:Hp) (o i v:V) (ov iv u:Value) (Q:Hp -> Prop),Inv X pins σ H s -> RelV o ov -> RelV i iv -> RelV v u -> t o i v H Q ->
   wpAny (model X.prog X.w) X.A (setItem ov iv u) (fun _ s'=>∃ H',Inv X pins σ H' s' /\ Q H') X.xe s
abbrev TIp:=V -> V -> Hp -> VK -> Prop
def PIp (X:Cx) (op:Operator) (t:TIp):Prop:=
 ∀ (pins:List (Addr × Obj)) (s:Shared) (σ:St) (H:Hp) (x y:V) (v u:Value) (Q:VK),Inv X pins σ H s -> RelV x v -> RelV y u -> t x y H Q ->
   wpAny (model X.prog X.w) X.A (inplaceOp op v u) (EP X pins σ Q) X.xe s
section
variable {X:Cx} {pos:Pos}
def kO (i:Nat):TG:=fun v σ H Q=>Q (σ.set i (some v)) H
theorem BG {i:Nat} {x:Str} (hN:X.N.Nodup) (hi:X.N[i]? = some x) (hx:Loc X.env.scope x) (hf:X.fn x = true \/ X.env.scope.names.lookup x = some .local:=by first | exact .inl rfl | exact .inr rfl | assumption):PG X (.Name x pos) (kO i):=by
 intro pins s σ H v u Q I r h
 exact wpAny_assign_Name (lN I hN hi hx r (fun s' I'=>⟨_,H,I',h⟩) hf)
def CF:TGs:=fun vs σ H Q=>vs = [] /\ Q σ H
def wo (t:TG) (u:TGs):TGs:=fun vs σ H Q=>∃ v r,vs = v ::r /\ t v σ H fun σ' H'=>u r σ' H' Q
theorem BH:PGs X [] CF:=by
 intro pins s σ H vs us Q I r h
 obtain ⟨e,h⟩:=h
 subst e
 cases r
 exact assignInOrder_nil ⟨σ,H,I,h⟩
theorem yV {e:Expr} {es:List Expr} {t:TG} {u:TGs} (h1:PG X e t) (h2:PGs X es u)
  (hs:(assignEach (e ::es) X.env).map (·.2) = assign e X.env ::(assignEach es X.env).map (·.2):=by rfl):PGs X (e ::es) (wo t u):=by
 intro pins s σ H vs us Q I r h
 obtain ⟨v,vr,e1,h⟩:=h
 subst e1
 cases r with
 | cons r rr=>
   rw [hs]
   refine assignInOrder_cons (thn (h1 pins s σ H _ _ _ I r h) fun _ s1 ⟨σ1,H1,I1,q1⟩=>?_)
   exact h2 pins s1 σ1 H1 _ _ Q I1 rr q1
def CI (K:PySem.W.Frag) (n:Nat) (t:TGs):TG:=fun v σ H Q=>∃ a xs,v = .ref a /\ SqT K H a xs /\ xs.length = n /\ t xs σ H Q
theorem CH {es:List Expr} {k:Nat} {t:TGs} {n:Nat} (hc:X.calm = true) (h:PGs X es t)
  (hn:(assignEach es X.env).length = n:=by rfl) (hst:(assignEach es X.env).findIdx? (·.1) = none:=by rfl):PG X (.Tuple es k pos) (CI X.K n t):=by
 intro pins s σ H v u Q I r hw
 obtain ⟨a,xs,e1,hq,hl,hw⟩:=hw
 subst e1
 cases r
 obtain ⟨its,rv,ht,hz⟩:=I.tuple hq
 refine assign_Tuple_tuple (I.ok.hd hc) ht (by simp [hn,<- hl,rv.length]) hst fun h' hx=>?_
 have I1:Inv X pins σ H { s with heap:=h' }:=I.kept (t':=s.toks) fun b o e=>hx b o (Nat.ne_of_lt (Heap.lt_size e)) e
 exact h pins _ σ H xs _ Q I1 (by simpa using rv) hw
def Du (to ti:TE) (t:A3):TG:=fun v σ H Q=>to σ H fun o H1=>ti σ H1 fun i H2=>t o i v H2 fun H3=>Q σ H3
theorem DR {o i:Expr} {to ti:TE} {t:A3} (ho:PE X o to) (hi:PE X i ti) (hs:Es X t)
  (ha:∀ v,assign (.Subscript o i pos) X.env v = (do
    let ov <- holding [v] (eval o X.env)
    let iv <- holding [v,ov] (eval i X.env)
    standAt pos
    holding [v,ov,iv] (setItem ov iv v)
    release [v,ov,iv] []):=by intro _; rfl):PG X (.Subscript o i pos) (Du to ti t):=by
 intro pins s σ H v u Q I r h
 rw [ha]
 refine wpAny_bind (wpAny_holding (thn (ho pins s σ H _ I h) fun ov s1 ⟨x,H1,I1,r1,q1⟩=>?_))
 refine wpAny_bind (wpAny_holding (thn (hi pins s1 σ H1 _ I1 q1) fun iv s2 ⟨y,H2,I2,r2,q2⟩=>?_))
 refine wpAny_bind (wpAny_standAt (wpAny_bind (wpAny_holding (thn (hs pins s2 σ H2 x y v ov iv u _ I2 r1 r2 r q2) fun _ s3 ⟨H3,I3,q3⟩=>?_))))
 exact wpAny_release ⟨σ,H3,I3,q3⟩
def uC (te:TE) (g:TG):TS:=fun D σ H=>te σ H fun x H1=>g x σ H1 D.nx
theorem CQ {tg e:Expr} {te:TE} {g:TG} (he:PE X e te) (hg:PG X tg g) (hs:swapsWithSole [tg] e pos.line X.env = pure false:=by rfl) (hw:swappedStores [tg] e X.env = pure none:=by rfl)
  (h1:(assignEach [tg] X.env).map (·.2) = [assign tg X.env]:=by rfl):PS X (.Assign [tg] e pos) (uC te g):=by
 intro pins s σ H D I h
 refine wpAny_Assign_stores (thn (he pins s σ H _ I h) fun v s1 ⟨x,H1,I1,r1,q1⟩=>?_) hs hw
 rw [h1]
 exact thn (hg pins s1 σ H1 x v _ I1 r1 q1) fun _ s2 q=>q
theorem Dk {i:Nat} {x:Str} {e:Expr} {te:TE} {pos':Pos} (hN:X.N.Nodup) (hi:X.N[i]? = some x) (hx:Loc X.env.scope x) (he:PE X e te) (hs:swapsWith e (some (.Name x pos')) pos.line X.env = pure false:=by rfl) (hf:X.fn x = true \/ X.env.scope.names.lookup x = some .local:=by first | exact .inl rfl | exact .inr rfl | assumption):
  PS X (.Assign [.Name x pos'] e pos) (uC te (kO i)):=by
 intro pins s σ H D I h
 refine wpAny_Assign_Name (thn (he pins s σ H _ I h) fun v s1 ⟨y,H1,I1,r1,q1⟩=>?_) hs
 exact lN I1 hN hi hx r1 (fun s2 I2=>⟨_,H1,I2,q1⟩) hf
def AD (i:Nat) (te:TE) (ti:TIp):TS:=fun D σ H=>∃ x,σ[i]? = some (some x) /\ te σ H fun y H1=>ti x y H1 fun z H2=>D.nx (σ.set i (some z)) H2
theorem D3 {i:Nat} {x:Str} {e:Expr} {te:TE} {op:Operator} {ti:TIp} {pos':Pos} (hN:X.N.Nodup) (hi:X.N[i]? = some x) (hx:Loc X.env.scope x) (he:PE X e te) (ho:PIp X op ti) (hf:X.fn x = true \/ X.env.scope.names.lookup x = some .local:=by first | exact .inl rfl | exact .inr rfl | assumption):
  PS X (.AugAssign (.Name x pos') op e pos) (AD i te ti):=by
 intro pins s σ H D I h
 obtain ⟨v,e1,h⟩:=h
 obtain ⟨m,hn,hl⟩:=I.loc
 have vis:Vis X.env.scope x:=by rcases hx with k | k; exact .inl k; exact .inr (.inl k)
 obtain ⟨u,r,l⟩:=hl i x v hi e1 vis
 refine wpAny_AugAssign_Name ?_
 have go:wpAny (model X.prog X.w) X.A (eval e X.env) (fun w s₂=>wpAny (model X.prog X.w) X.A (inplaceOp op u w) (fun r s₃=>wpAny (model X.prog X.w) X.A (storeName X.env x r) (fun _=>SP X pins D .next) X.xe s₃) X.xe s₂) X.xe s:=by
  refine thn (he pins s σ H _ I h) fun w s1 ⟨y,H1,I1,r1,q1⟩=>?_
  refine thn (ho pins s1 σ H1 v y u w _ I1 r r1 q1) fun z s2 ⟨zv,H2,I2,r2,q2⟩=>?_
  exact lN I2 hN hi hx r2 (fun s3 I3=>⟨_,H2,I3,q2⟩) hf
 rcases l with ⟨hk,hm⟩ | ⟨hk,c,hc,hcell⟩
 . exact wpAny_loadName_local I.ok.kind hk hn hm go
 . rcases hk with hk | hk
   . exact wpAny_loadName_cell I.ok.kind hk hc hcell go
   . rcases hx with k | k
     . have:X.env.scope.names.lookup x = some .free:=hk
       rw [k] at this; cases this
     . have:X.env.scope.names.lookup x = some .free:=hk
       rw [k] at this; cases this
def ipI (f:Int -> Int -> Int):TIp:=fun x y H Q=>∃ i j,x = .int i /\ y = .int j /\ Q (.int (f i j)) H
theorem lg:PIp X .Add (ipI fun i j=>i + j):=by
 intro pins s σ H x y v u Q I r1 r2 h
 obtain ⟨i,j,e1,e2,q⟩:=h
 subst e1; subst e2
 obtain ⟨t,rfl⟩:=r1
 obtain ⟨t',rfl⟩:=r2
 exact iadd_int ⟨.int _,H,I.tok _,⟨_,rfl⟩,q⟩
end
section
variable {X:Cx} {pos:Pos}
def vV (c:TT) (tb:TS):TS:=fun D σ H=>∃ W:Nat -> St -> Hp -> Prop,(∃ m,W m σ H) /\ ∀ m σ H,W m σ H ->
 c σ H fun b H1=>if b = true then ∃ N:St -> Hp -> Prop,(∀ σ' H',N σ' H' -> ∃ m',m' < m /\ W m' σ' H') /\ tb { D with nx:=N,ct:=N,bk:=D.nx } σ H1 else D.nx σ H1
theorem yP {c:Expr} {body:List Stmt} {tc:TT} {tb:TS} (hp:PassesOwn (model X.prog X.w) X.A X.env X.xe) (hc:PT X c tc) (hb:PSs X body tb):PS X (.While c body [] pos) (vV tc tb):=by
 intro pins s σ H D I h
 obtain ⟨W,⟨m0,w0⟩,turn⟩:=h
 refine wpAny_While (codeAny_whileLoop (fun n s'=>∃ σ' H',Inv X pins σ' H' s' /\ W n σ' H') ?_ m0 ⟨σ,H,I,w0⟩)
 rintro n s1 ⟨σ1,H1,I1,w1⟩
 refine wpAny_passesOwn hp (thn (hc pins s1 σ1 H1 _ I1 (turn n σ1 H1 w1)) fun b s2 ⟨H2,I2,q2⟩=>?_)
 cases b with
 | true=>
   obtain ⟨N,hN,q2⟩:=q2
   rw [if_pos rfl]
   refine wpAny_passesOwn hp (thn (hb pins s2 σ1 H2 _ I2 q2) fun f s3 q3=>?_)
   cases f with
   | next=>
     obtain ⟨σ3,H3,I3,n3⟩:=q3
     obtain ⟨m',hm,w3⟩:=hN σ3 H3 n3
     exact ⟨m',hm,σ3,H3,I3,w3⟩
   | cont=>
     obtain ⟨σ3,H3,I3,n3⟩:=q3
     obtain ⟨m',hm,w3⟩:=hN σ3 H3 n3
     exact ⟨m',hm,σ3,H3,I3,w3⟩
   | brk=>exact q3
   | ret v=>exact q3
 | false=>
   rw [if_neg Bool.false_ne_true]
   exact wpAny_execs_nil ⟨σ1,H2,I2,q2⟩
end
structure It where
 go:Nat -> Hp -> Prop
 yld:Nat -> Hp -> V -> Hp -> Prop
 stop:Nat -> Hp -> Prop
def oz (X:Cx) (pins:List (Addr × Obj)) (H:Hp) (b:Addr):Prop:=
 H b = none /\ b ≠ X.env.locals /\ b ∉ X.fs /\ (b ∈ X.ex \/ X.s₀.heap.objs.size <= b) /\ (∀ x c,X.env.cells.lookup x = some c -> c ≠ b) /\ ∀ p ∈ X.pn ++ pins,p.1 ≠ b
theorem Inv.BC {X:Cx} {pins:List (Addr × Obj)} {σ:St} {H H':Hp} {s:Shared} {b:Addr} (I:Inv X pins σ H s) (hb:s.heap.objs.size <= b) (hn:H' b = none):oz X pins H' b:=by
 refine ⟨hn,Nat.ne_of_gt (Nat.lt_of_lt_of_le I.lt hb),I.GK hb,.inr (Nat.le_trans I.sz hb),fun x c e z=>?_,fun p hp z=>?_⟩
 . obtain ⟨v,q⟩:=I.cell x c e
   exact absurd (Nat.lt_of_lt_of_le q.lt (by rw [z]; exact hb)) (Nat.lt_irrefl _)
 . exact absurd (Nat.lt_of_lt_of_le (Heap.lt_size (I.pin p hp).1) (by rw [z]; exact hb)) (Nat.lt_irrefl _)
structure Turn (P:Program) (w:World) (K:PySem.W.Frag) (tg:Expr) (J:It) (fp:List Addr) (it:Addr) (tn:Nat -> Heap -> Prop):Prop where
 mem:it ∈ fp
 obj:∀ i h,tn i h -> ∀ b ∈ fp,∃ o,h.get? b = some o /\ ∀ v,o.data ≠ .cell v
 keep:∀ i h h',tn i h -> (∀ b ∈ fp,∀ o,h.get? b = some o -> h'.get? b = some o) -> tn i h'
 item:∀ (X:Cx),X.prog = P -> X.w = w -> X.K = K -> X.calm = true -> ∀ (i:Nat) (pins:List (Addr × Obj)) (s:Shared) (σ:St) (H:Hp) (E:Value -> Shared -> Prop),Inv X pins σ H s -> (∀ b ∈ fp,oz X pins H b) -> tn i s.heap -> J.go i H ->
  wpAny (model P w) X.A (pyNext (.ref it)) (fun r s1=>∃ u,r = some u /\
   wpAny (model P w) X.A (letOwnedTupleGo tg (.ref it) u) (fun _ s2=>∃ x H',Inv X pins σ H' s2 /\ RelV x u /\ J.yld i H x H' /\ tn (i + 1) s2.heap /\ ∀ b ∈ fp,H' b = none) E s1) E s
 done:∀ (X:Cx),X.prog = P -> X.w = w -> X.K = K -> X.calm = true -> ∀ (i:Nat) (pins:List (Addr × Obj)) (s:Shared) (σ:St) (H:Hp) (E:Value -> Shared -> Prop),Inv X pins σ H s -> (∀ b ∈ fp,oz X pins H b) -> tn i s.heap -> J.stop i H ->
  wpAny (model P w) X.A (pyNext (.ref it)) (fun r s1=>r = none /\ Inv X pins σ H s1) E s
 self:∀ (A:Around) (i:Nat) (s:Shared) (Q:Value -> Shared -> Prop) (E:Value -> Shared -> Prop),tn i s.heap -> Q (.ref it) s -> wpAny (model P w) A (pyIter (.ref it)) Q E s
abbrev TI:=St -> Hp -> (It -> Hp -> Prop) -> Prop
def PIE (X:Cx) (pins:List (Addr × Obj)) (σ:St) (tg:Expr) (R:It -> Hp -> Prop) (itv:Value) (s2:Shared):Prop:=
 ∃ (it:Addr) (fp:List Addr) (tn:Nat -> Heap -> Prop) (J:It) (H':Hp),itv = .ref it /\ Inv X pins σ H' s2 /\ Turn X.prog X.w X.K tg J fp it tn /\ tn 0 s2.heap /\ (∀ b ∈ fp,oz X pins H' b) /\ R J H'
def PI (X:Cx) (tg iter:Expr) (wi:TI):Prop:=
 ∀ (pins:List (Addr × Obj)) (s:Shared) (σ:St) (H:Hp) (R:It -> Hp -> Prop),Inv X pins σ H s -> wi σ H R ->
   wpAny (model X.prog X.w) X.A (eval iter X.env) (fun v s1=>wpAny (model X.prog X.w) X.A (pyIter v) (PIE X pins σ tg R) X.xe s1) X.xe s
theorem zF {M:Model} {A:Around} {E:Value -> Shared -> Prop} {s:Shared} {tg:Expr} {it:Addr} {u:Value} {o:Obj} {n:String} {vs:Array Value} {Q:Unit -> Shared -> Prop} (ho:s.heap.get? it = some o) (hc:o.cls = .type n) (hd:o.data = .fields vs)
  (hn:["enumerate","zip","dict_itemiterator","dict_reverseitemiterator","odict_iterator","itertools.zip_longest","itertools.pairwise"].contains n = false) (hQ:Q () s):wpAny M A (letOwnedTupleGo tg (.ref it) u) Q E s:=by
 unfold letOwnedTupleGo
 cases tg <;> first
  | exact wpAny_pure hQ
  | (cases u <;> first
      | exact wpAny_pure hQ
      | (refine wpAny_bind (wpAny_load ho ?_)
         rw [hc,hd]
         show wpAny M A (if (["enumerate","zip","dict_itemiterator","dict_reverseitemiterator","odict_iterator","itertools.zip_longest","itertools.pairwise"].contains n && vs[0]? == some (rawInt _)) = true then _ else _) Q E s
         rw [if_neg (by intro h; rw [hn,Bool.false_and] at h; cases h)]
         exact wpAny_pure hQ))
def Itl (K:PySem.W.Frag) (a:Addr):It:=
 ⟨fun i H=>∃ xs x,SqL K H a xs /\ xs[i]? = some x,fun i H x H'=>H' = H /\ ∀ xs,SqL K H a xs -> xs[i]? = some x,fun i H=>∃ xs,SqL K H a xs /\ xs.length <= i⟩
def Itt (K:PySem.W.Frag) (a:Addr):It:=
 ⟨fun i H=>∃ xs x,SqT K H a xs /\ xs[i]? = some x,fun i H x H'=>H' = H /\ ∀ xs,SqT K H a xs -> xs[i]? = some x,fun i H=>∃ xs,SqT K H a xs /\ xs.length <= i⟩
def Itr (lo:Int) (n:Nat):It:=⟨fun i _=>i < n,fun i H x H'=>H' = H /\ x = .int (lo + i),fun i _=>n <= i⟩
theorem xA {P:Program} {w:World} {K:PySem.W.Frag} {tg:Expr} (a it:Addr):Turn P w K tg (Itl K a) [it] it (fun i h=>h.IsListIter it a i) where
 mem:=by simp
 obj:=fun i h st b hb=>by
  have e:b = it:=by simpa using hb
  subst e
  obtain ⟨o,e,c,d⟩:=st
  exact ⟨o,e,fun v z=>by rw [d] at z; cases z⟩
 keep:=fun i h h' st k=>st.at fun o e=>k it (by simp) o e
 item:=by
  intro X hP hw hK hc i pins s σ H E I hf st hg
  subst hP hw hK
  obtain ⟨xs,x,hq,hx⟩:=hg
  obtain ⟨its,rv,p,hz⟩:=I.list hq
  obtain ⟨u,hu,ru⟩:=rv.get hx
  obtain ⟨f0,f1,f2,f3,f4,f5⟩:=hf it (by simp)
  refine wpAny_pyNext_list_item st p.isList (x:=u) (by simpa using hu) fun h' st' sb=>?_
  have I1:Inv X pins σ H { s with heap:=h' }:=I.turned (t':=s.toks) (fun b o hb e=>(sb.2 b hb).trans e) f0 f1 f3 f4 f5
  obtain ⟨o,e,c,d⟩:=id st'
  exact ⟨u,rfl,zF (s:={ s with heap:=h' }) e c d (by decide) ⟨x,H,I1,ru,⟨rfl,fun ys hy=>by rw [I.uY hy hq]; exact hx⟩,st',fun b hb=>(hf b hb).1⟩⟩
 done:=by
  intro X hP hw hK hc i pins s σ H E I hf st hg
  subst hP hw hK
  obtain ⟨xs,hq,hx⟩:=hg
  obtain ⟨its,rv,p,hz⟩:=I.list hq
  obtain ⟨f0,f1,f2,f3,f4,f5⟩:=hf it (by simp)
  have hl:=rv.length
  exact wpAny_pyNext_list_end (I.ok.hd hc) st p.isList (by simp; omega) fun h' eb=>⟨rfl,I.turned (t':=s.toks) (fun b o hb e=>eb b o hb e) f0 f1 f3 f4 f5⟩
 self:=fun _ _ _ _ _ st h=>wpAny_pyIter_listiter st h
theorem vq {P:Program} {w:World} {K:PySem.W.Frag} {tg:Expr} (a it:Addr):Turn P w K tg (Itt K a) [it] it (fun i h=>h.IsTupleIter it a i) where
 mem:=by simp
 obj:=fun i h st b hb=>by
  have e:b = it:=by simpa using hb
  subst e
  obtain ⟨o,e,c,d⟩:=st
  exact ⟨o,e,fun v z=>by rw [d] at z; cases z⟩
 keep:=fun i h h' st k=>st.at fun o e=>k it (by simp) o e
 item:=by
  intro X hP hw hK hc i pins s σ H E I hf st hg
  subst hP hw hK
  obtain ⟨xs,x,hq,hx⟩:=hg
  obtain ⟨its,rv,p,hz⟩:=I.tuple hq
  obtain ⟨u,hu,ru⟩:=rv.get hx
  obtain ⟨f0,f1,f2,f3,f4,f5⟩:=hf it (by simp)
  refine wpAny_pyNext_tuple_item st (show s.heap.IsTuple a its.toArray from p) (x:=u) (by simpa using hu) fun h' st' sb=>?_
  have I1:Inv X pins σ H { s with heap:=h' }:=I.turned (t':=s.toks) (fun b o hb e=>(sb.2 b hb).trans e) f0 f1 f3 f4 f5
  obtain ⟨o,e,c,d⟩:=id st'
  exact ⟨u,rfl,zF (s:={ s with heap:=h' }) e c d (by decide) ⟨x,H,I1,ru,⟨rfl,fun ys hy=>by rw [I.xQ hy hq]; exact hx⟩,st',fun b hb=>(hf b hb).1⟩⟩
 done:=by
  intro X hP hw hK hc i pins s σ H E I hf st hg
  subst hP hw hK
  obtain ⟨xs,hq,hx⟩:=hg
  obtain ⟨its,rv,p,hz⟩:=I.tuple hq
  obtain ⟨f0,f1,f2,f3,f4,f5⟩:=hf it (by simp)
  have hl:=rv.length
  exact wpAny_pyNext_tuple_end (I.ok.hd hc) st (show s.heap.IsTuple a its.toArray from p) (by simp; omega) fun h' eb=>⟨rfl,I.turned (t':=s.toks) (fun b o hb e=>eb b o hb e) f0 f1 f3 f4 f5⟩
 self:=fun _ _ _ _ _ st h=>wpAny_pyIter_tupleiter st h
theorem u6 {P:Program} {w:World} {K:PySem.W.Frag} {tg:Expr} (it:Addr) (lo:Int) (n:Nat):Turn P w K tg (Itr lo n) [it] it (fun i h=>IsRangeIter h it (lo + (i:Nat) * 1) ((n:Int) - (i:Nat)) 1) where
 mem:=by simp
 obj:=fun i h st b hb=>by
  have e:b = it:=by simpa using hb
  subst e
  exact ⟨_,st,fun v z=>by
   have z':Data.fields _ = Data.cell v:=z
   cases z'⟩
 keep:=fun i h h' st k=>k it (by simp) _ st
 item:=by
  intro X hP hw hK hc i pins s σ H E I hf st hg
  subst hP hw hK
  obtain ⟨f0,f1,f2,f3,f4,f5⟩:=hf it (by simp)
  have W:=Walks.range (prog:=X.prog) (w:=X.w) (I.ok.hd hc) it lo 1 n
  refine W.item i s _ _ hg st fun v h' tk hv st' kk=>?_
  obtain ⟨t,rfl⟩:=hv
  have I1:Inv X pins σ H { s with heap:=h',toks:=tk }:=I.turned (fun b o hb e=>kk b o (by simpa using hb) e) f0 f1 f3 f4 f5
  refine ⟨_,rfl,zF (s:={ s with heap:=h',toks:=tk }) (n:="range_iterator") st' rfl rfl (by decide) ⟨.int (lo + i),H,I1,⟨t,?_⟩,⟨rfl,rfl⟩,st',fun b hb=>(hf b hb).1⟩⟩
  rw [Int.mul_one]
 done:=by
  intro X hP hw hK hc i pins s σ H E I hf st hg
  subst hP hw hK
  obtain ⟨f0,f1,f2,f3,f4,f5⟩:=hf it (by simp)
  exact wpAny_pyNext_range_end (I.ok.hd hc) st (by have:n <= i:=hg; omega) fun h' eb=>⟨rfl,I.turned (t':=s.toks) (fun b o hb e=>eb b o hb e) f0 f1 f3 f4 f5⟩
 self:=fun _ _ _ _ _ st h=>wpAny_pyIter_rangeiter st h
end L2
namespace L2
open PySem PySem.Spec PyProof.Rows
section
variable {X:Cx} {tg:Expr}
def tP (K:PySem.W.Frag) (tl:TE):TI:=fun σ H R=>tl σ H fun x H1=>∃ a,x = .ref a /\ (∃ xs,SqL K H1 a xs) /\ R (Itl K a) H1
def Dg (K:PySem.W.Frag) (tl:TE):TI:=fun σ H R=>tl σ H fun x H1=>∃ a,x = .ref a /\ (∃ xs,SqT K H1 a xs) /\ R (Itt K a) H1
theorem BA {l:Expr} {tl:TE} (hl:PE X l tl):PI X tg l (tP X.K tl):=by
 intro pins s σ H R I h
 refine thn (hl pins s σ H _ I h) fun v s1 ⟨x,H1,I1,r1,q1⟩=>?_
 obtain ⟨a,e,⟨xs,hq⟩,q⟩:=q1
 subst e
 cases r1
 obtain ⟨its,rv,p,hz⟩:=I1.list hq
 refine wpAny_pyIter_list p.isList ?_
 refine ⟨s1.heap.objs.size,[s1.heap.objs.size],_,_,H1,rfl,I1.kept (t':=s1.toks) fun b o e=>Heap.get?_push_of_some _ e,xA a _,⟨_,Heap.get?_push_size _ rfl,rfl,rfl⟩,fun b hb=>?_,q⟩
 have e:b = s1.heap.objs.size:=by simpa using hb
 subst e
 exact I1.BC (Nat.le_refl _) (I1.hok.fresh (Nat.le_refl _))
theorem Dl {l:Expr} {tl:TE} (hl:PE X l tl):PI X tg l (Dg X.K tl):=by
 intro pins s σ H R I h
 refine thn (hl pins s σ H _ I h) fun v s1 ⟨x,H1,I1,r1,q1⟩=>?_
 obtain ⟨a,e,⟨xs,hq⟩,q⟩:=q1
 subst e
 cases r1
 obtain ⟨its,rv,p,hz⟩:=I1.tuple hq
 refine wpAny_pyIter_tuple (show s1.heap.IsTuple a its.toArray from p) ?_
 refine ⟨s1.heap.objs.size,[s1.heap.objs.size],_,_,H1,rfl,I1.kept (t':=s1.toks) fun b o e=>Heap.get?_push_of_some _ e,vq a _,⟨_,Heap.get?_push_size _ rfl,rfl,rfl⟩,fun b hb=>?_,q⟩
 have e:b = s1.heap.objs.size:=by simpa using hb
 subst e
 exact I1.BC (Nat.le_refl _) (I1.hok.fresh (Nat.le_refl _))
theorem yI {pins:List (Addr × Obj)} {σ:St} {H:Hp} {s:Shared} {R:It -> Hp -> Prop} {E:Value -> Shared -> Prop} {lo hi:Int} {t u v:Tok} {tk:Nat} (I:Inv X pins σ H s) (h1:-(2 ^ 62) <= lo) (h2:lo < 2 ^ 62) (h3:-(2 ^ 62) <= hi) (h4:hi < 2 ^ 62)
  (q:R (Itr lo (hi - lo).toNat) H):wpAny (model X.prog X.w) X.A (pyIter (.ref s.heap.objs.size)) (PIE X pins σ tg R) E { s with heap:=s.heap.push { cls:=.type "range",data:=.fields #[.int lo t,.int hi u,.int 1 v] },toks:=tk }:=by
 refine wpAny_pyIter_range (IsRange.new ..) (small_one h1 h2 h3 h4) ?_
 have I1:Inv X pins σ H { s with heap:=s.heap.push { cls:=.type "range",data:=.fields #[.int lo t,.int hi u,.int 1 v] },toks:=tk }:=I.kept fun b o e=>Heap.get?_push_of_some _ e
 refine ⟨(s.heap.push { cls:=.type "range",data:=.fields #[.int lo t,.int hi u,.int 1 v] }).objs.size,[(s.heap.push { cls:=.type "range",data:=.fields #[.int lo t,.int hi u,.int 1 v] }).objs.size],_,_,H,rfl,
  I1.kept (t':=tk) fun b o e=>Heap.get?_push_of_some _ e,u6 _ lo (hi - lo).toNat,?_,fun b hb=>?_,q⟩
 . have e1:lo + ((0:Nat):Int) * 1 = lo:=by simp
   have e2:(((hi - lo).toNat:Nat):Int) - ((0:Nat):Int) = Builtin.Range.rangeSize lo hi 1:=by rw [rangeSize_one]; split <;> omega
   show IsRangeIter _ _ (lo + ((0:Nat):Int) * 1) ((((hi - lo).toNat:Nat):Int) - ((0:Nat):Int)) 1
   rw [e1,e2]
   exact Heap.get?_push_size _ rfl
 . have e:b = (s.heap.push { cls:=.type "range",data:=.fields #[.int lo t,.int hi u,.int 1 v] }).objs.size:=by simpa using hb
   subst e
   exact I1.BC (Nat.le_refl _) (I1.hok.fresh (Nat.le_refl _))
def wm (ta:TA):TI:=fun σ H R=>ta σ H fun vs H1=>∃ j:Int,vs = [.int j] /\ -(2 ^ 62) <= j /\ j < 2 ^ 62 /\ R (Itr 0 j.toNat) H1
theorem xk {a:Expr} {ta:TA} {p pos:Pos} (hg:Gl X "range") (hm:X.mg "range" = none) (ha:PA X [a] ta) (hs:starEach [a] X.env = [(false,eval a X.env)]:=by rfl):PI X tg (.Call (.Name "range" p) [a] [] pos) (wm ta):=by
 intro pins s σ H R I h
 refine Call_ (rZ I hg hm boot_range (PyProof.Rows.callWith_type1 (thn (ha pos pins s σ H _ I h) fun us s1 ⟨vs,H1,I1,r1,q1⟩=>?_) hs rfl))
 obtain ⟨j,e,q1,q2,q⟩:=q1
 subst e
 cases r1 with
 | cons r rr=>
   cases rr
   obtain ⟨t,rfl⟩:=r
   exact call_range_1 (yI I1 (by omega) (by omega) q1 q2 (by simpa using q))
def y8 (wi:TI) (g:TG) (tb:TS):TS:=fun D σ H=>wi σ H fun J H1=>∃ W:Nat -> Nat -> St -> Hp -> Prop,(∃ m,W 0 m σ H1) /\ ∀ i m σ H,W i m σ H ->
 (J.stop i H /\ D.nx σ H) \/ (J.go i H /\ ∃ N:St -> Hp -> Prop,(∀ σ' H',N σ' H' -> ∃ m',m' < m /\ W (i + 1) m' σ' H') /\ ∀ x H',J.yld i H x H' -> g x σ H' fun σ2 H2=>tb { D with nx:=N,ct:=N,bk:=D.nx } σ2 H2)
def r0 (fp:List Addr) (h:Heap):List (Addr × Obj):=fp.filterMap fun b=>(h.get? b).map fun o=>(b,o)
theorem fW {fp:List Addr} {h:Heap} {b:Addr} {o:Obj} (hb:b ∈ fp) (e:h.get? b = some o):(b,o) ∈ r0 fp h:=List.mem_filterMap.mpr ⟨b,hb,by rw [e]; rfl⟩
theorem xh {fp:List Addr} {h:Heap} {p:Addr × Obj} (hp:p ∈ r0 fp h):p.1 ∈ fp /\ h.get? p.1 = some p.2:=by
 obtain ⟨b,hb,e⟩:=List.mem_filterMap.mp hp
 cases q:h.get? b with
 | none=>rw [q] at e; cases e
 | some o=>
   rw [q] at e
   have e':(b,o) = p:=Option.some.inj e
   subst e'
   exact ⟨hb,q⟩
theorem Inv.pinned {pins:List (Addr × Obj)} {σ:St} {H:Hp} {s:Shared} {fp:List Addr} (I:Inv X pins σ H s) (hf:∀ b ∈ fp,oz X pins H b) (ho:∀ b ∈ fp,∃ o,s.heap.get? b = some o /\ ∀ v,o.data ≠ .cell v):Inv X (pins ++ r0 fp s.heap) σ H s:=
 I.wy fun p hp=>(List.mem_append.mp hp).elim (fun z=>I.pin p (List.mem_append_right _ z)) fun z=>by
  obtain ⟨hb,e⟩:=xh z
  obtain ⟨f0,f1,f2,_⟩:=hf p.1 hb
  obtain ⟨o,e',d⟩:=ho p.1 hb
  rw [e] at e'; cases e'
  exact ⟨e,f0,f1,f2,d⟩
theorem Inv.jQ {pins pl:List (Addr × Obj)} {σ:St} {H:Hp} {s:Shared} (I:Inv X (pins ++ pl) σ H s):Inv X pins σ H s:=I.wy fun p hp=>I.pin p (List.mem_append_right _ (List.mem_append_left _ hp))
theorem CT {iter:Expr} {body:List Stmt} {wi:TI} {g:TG} {tb:TS} {pos:Pos} (hp:PassesOwn (model X.prog X.w) X.A X.env X.xe) (hc:X.calm = true) (hi:PI X tg iter wi) (hg:PG X tg g) (hb:PSs X body tb)
  (hs:∀ x,foldedSetIterable iter X.env x = pure x:=by intro _; rfl):PS X (.For tg iter body [] pos) (y8 wi g tb):=by
 intro pins s σ H D I h
 refine wpAny_For (thn (hi pins s σ H _ I h) fun v s1 h1=>thn h1 fun itv s2 h2=>?_) hs
 obtain ⟨it,fp,tn,J,H2,e,I2,T,st2,f2,W,⟨m0,w0⟩,turn⟩:=h2
 subst e
 have stat:∀ {H':Hp},(∀ b ∈ fp,H' b = none) -> ∀ b ∈ fp,oz X pins H' b:=fun hn b hb=>⟨hn b hb,(f2 b hb).2⟩
 refine codeAny_forLoop_any (fun n s'=>∃ i σ' H',Inv X pins σ' H' s' /\ tn i s'.heap /\ (∀ b ∈ fp,H' b = none) /\ W i n σ' H') ?_ m0 ⟨0,σ,H2,I2,st2,fun b hb=>(f2 b hb).1,w0⟩
 rintro n s3 ⟨i,σ3,H3,I3,st3,fr3,w3⟩
 rcases turn i n σ3 H3 w3 with ⟨stop,qn⟩ | ⟨go,N,hN,step⟩
 . refine wpAny_passesOwn hp (thn (T.done X rfl rfl rfl hc i pins s3 σ3 H3 X.xe I3 (stat fr3) st3 stop) fun r s4 ⟨hr,I4⟩=>?_)
   subst hr
   exact wpAny_execs_nil ⟨σ3,H3,I4,qn⟩
 . refine wpAny_passesOwn hp (thn (T.item X rfl rfl rfl hc i pins s3 σ3 H3 X.xe I3 (stat fr3) st3 go) fun r s4 ⟨u,hr,h4⟩=>?_)
   subst hr
   refine wpAny_passesOwn hp (thn h4 fun _ s5 ⟨x,H5,I5,r5,y5,st5,fr5⟩=>?_)
   have I5':=I5.pinned (stat fr5) (T.obj _ _ st5)
   refine wpAny_passesOwn hp (thn (hg _ s5 σ3 H5 x u _ I5' r5 (step x H5 y5)) fun _ s6 ⟨σ6,H6,I6,q6⟩=>?_)
   refine wpAny_passesOwn hp (thn (hb _ s6 σ6 H6 _ I6 q6) fun f s7 q7=>?_)
   have again:∀ {σ7:St} {H7:Hp},Inv X (pins ++ r0 fp s5.heap) σ7 H7 s7 -> N σ7 H7 -> ∃ m,m < n /\ ∃ i σ' H',Inv X pins σ' H' s7 /\ tn i s7.heap /\ (∀ b ∈ fp,H' b = none) /\ W i m σ' H':=fun {σ7 H7} I7 n7=>by
    obtain ⟨m',hm,w7⟩:=hN σ7 H7 n7
    refine ⟨m',hm,i + 1,σ7,H7,I7.jQ,T.keep _ _ _ st5 fun b hb o e=>(I7.pin (b,o) (List.mem_append_right _ (List.mem_append_right _ (fW hb e)))).1,fun b hb=>?_,w7⟩
    obtain ⟨o,e,d⟩:=T.obj _ _ st5 b hb
    exact (I7.pin (b,o) (List.mem_append_right _ (List.mem_append_right _ (fW hb e)))).2.1
   cases f with
   | next=>obtain ⟨σ7,H7,I7,n7⟩:=q7; exact again I7 n7
   | cont=>obtain ⟨σ7,H7,I7,n7⟩:=q7; exact again I7 n7
   | brk=>obtain ⟨σ7,H7,I7,q7⟩:=q7; exact ⟨σ7,H7,I7.jQ,q7⟩
   | ret v=>obtain ⟨x7,σ7,H7,I7,r7,q7⟩:=q7; exact ⟨x7,σ7,H7,I7.jQ,r7,q7⟩
end
theorem zS {K:PySem.W.Frag} {a:Addr} {xs:List V} {g:TG} {tb:TS} {D:Ends} {σ:St} {H:Hp} (Pv:Nat -> St -> Hp -> Prop) (h0:Pv 0 σ H) (hl:∀ i σ H,i <= xs.length -> Pv i σ H -> SqL K H a xs)
  (hs:∀ i x σ H,xs[i]? = some x -> Pv i σ H -> g x σ H fun σ2 H2=>tb { D with nx:=Pv (i + 1),ct:=Pv (i + 1),bk:=D.nx } σ2 H2) (hd:∀ σ H,Pv xs.length σ H -> D.nx σ H):
  ∃ W:Nat -> Nat -> St -> Hp -> Prop,(∃ m,W 0 m σ H) /\ ∀ i m σ H,W i m σ H ->
    ((Itl K a).stop i H /\ D.nx σ H) \/ ((Itl K a).go i H /\ ∃ N:St -> Hp -> Prop,(∀ σ' H',N σ' H' -> ∃ m',m' < m /\ W (i + 1) m' σ' H') /\ ∀ x H',(Itl K a).yld i H x H' -> g x σ H' fun σ2 H2=>tb { D with nx:=N,ct:=N,bk:=D.nx } σ2 H2):=by
 refine ⟨fun i m σ H=>m = xs.length - i /\ i <= xs.length /\ Pv i σ H,⟨xs.length,by simp,Nat.zero_le _,h0⟩,?_⟩
 rintro i m σ H ⟨rfl,hi,p⟩
 have q:=hl i σ H hi p
 by_cases hlt:i < xs.length
 . refine .inr ⟨⟨xs,xs[i],q,by simp [hlt]⟩,Pv (i + 1),fun σ' H' p'=>⟨xs.length - (i + 1),by omega,rfl,hlt,p'⟩,fun x H' y=>?_⟩
   obtain ⟨e,y⟩:=y
   subst e
   exact hs i x σ _ (y xs q) p
 . have e:i = xs.length:=by omega
   subst e
   exact .inl ⟨⟨xs,q,Nat.le_refl _⟩,hd σ H p⟩
theorem xZ {lo:Int} {n:Nat} {g:TG} {tb:TS} {D:Ends} {σ:St} {H:Hp} (Pv:Nat -> St -> Hp -> Prop) (h0:Pv 0 σ H)
  (hs:∀ i σ H,i < n -> Pv i σ H -> g (.int (lo + i)) σ H fun σ2 H2=>tb { D with nx:=Pv (i + 1),ct:=Pv (i + 1),bk:=D.nx } σ2 H2) (hd:∀ σ H,Pv n σ H -> D.nx σ H):
  ∃ W:Nat -> Nat -> St -> Hp -> Prop,(∃ m,W 0 m σ H) /\ ∀ i m σ H,W i m σ H ->
    ((Itr lo n).stop i H /\ D.nx σ H) \/ ((Itr lo n).go i H /\ ∃ N:St -> Hp -> Prop,(∀ σ' H',N σ' H' -> ∃ m',m' < m /\ W (i + 1) m' σ' H') /\ ∀ x H',(Itr lo n).yld i H x H' -> g x σ H' fun σ2 H2=>tb { D with nx:=N,ct:=N,bk:=D.nx } σ2 H2):=by
 refine ⟨fun i m σ H=>m = n - i /\ i <= n /\ Pv i σ H,⟨n,by simp,Nat.zero_le _,h0⟩,?_⟩
 rintro i m σ H ⟨rfl,hi,p⟩
 by_cases hlt:i < n
 . refine .inr ⟨hlt,Pv (i + 1),fun σ' H' p'=>⟨n - (i + 1),by omega,rfl,hlt,p'⟩,fun x H' y=>?_⟩
   obtain ⟨e,y⟩:=y
   subst e y
   exact hs i σ _ hlt p
 . have e:i = n:=by omega
   subst e
   exact .inl ⟨Nat.le_refl _,hd σ H p⟩
end L2
namespace L2
open PySem PySem.Spec PyProof.Rows
abbrev R2:=V -> V -> Hp -> VK -> Prop
def OpR (X:Cx) (f:Value -> Value -> Sem Value) (r:R2):Prop:=
 ∀ (pins:List (Addr × Obj)) (s:Shared) (σ:St) (H:Hp) (x y:V) (v u:Value) (Q:VK),Inv X pins σ H s -> RelV x v -> RelV y u -> r x y H Q ->
   wpAny (model X.prog X.w) X.A (f v u) (EP X pins σ Q) X.xe s
def UnR (X:Cx) (f:Value -> Sem Value) (r:V -> Hp -> VK -> Prop):Prop:=
 ∀ (pins:List (Addr × Obj)) (s:Shared) (σ:St) (H:Hp) (x:V) (v:Value) (Q:VK),Inv X pins σ H s -> RelV x v -> r x H Q ->
   wpAny (model X.prog X.w) X.A (f v) (EP X pins σ Q) X.xe s
def qQ (X:Cx) (f:Value) (r:List V -> Hp -> VK -> Prop):Prop:=
 ∀ (pins:List (Addr × Obj)) (s:Shared) (σ:St) (H:Hp) (xs:List V) (us:List Value) (Q:VK),Inv X pins σ H s -> Vals xs us -> r xs H Q ->
   wpAny (model X.prog X.w) X.A (call f us) (EP X pins σ Q) X.xe s
def GB (X:Cx) (r:V -> Hp -> (Bool -> Hp -> Prop) -> Prop):Prop:=
 ∀ (pins:List (Addr × Obj)) (s:Shared) (σ:St) (H:Hp) (x:V) (v:Value) (Q:Bool -> Hp -> Prop),Inv X pins σ H s -> RelV x v -> r x H Q ->
   wpAny (model X.prog X.w) X.A (truthy v) (TP X pins σ Q) X.xe s
def tOp (r:R2) (ta tb:TE):TE:=fun σ H Q=>ta σ H fun x H1=>tb σ H1 fun y H2=>r x y H2 Q
def tUn (r:V -> Hp -> VK -> Prop) (ta:TE):TE:=fun σ H Q=>ta σ H fun x H1=>r x H1 Q
def rI (C:Int -> Int -> Prop) (g:Int -> Int -> V):R2:=fun x y H Q=>∃ i j,x = .int i /\ y = .int j /\ C i j /\ Q (g i j) H
def rI0 (g:Int -> Int -> V):R2:=fun x y H Q=>∃ i j,x = .int i /\ y = .int j /\ Q (g i j) H
def rU (g:Int -> V):V -> Hp -> VK -> Prop:=fun x H Q=>∃ i,x = .int i /\ Q (g i) H
section
variable {X:Cx} {a b c:Expr} {ta tb tc:TE} {pos:Pos}
theorem DY (ha:PE X a ta) (hb:PE X b tb) {pins:List (Addr × Obj)} {s:Shared} {σ:St} {H:Hp} {R:V -> V -> Hp -> Prop} (I:Inv X pins σ H s)
  (h:ta σ H fun x H1=>tb σ H1 fun y H2=>R x y H2) {Q:Value -> Shared -> Prop} {f:Value -> Value -> Sem Value}
  (hf:∀ v u s2 x y H2,Inv X pins σ H2 s2 -> RelV x v -> RelV y u -> R x y H2 -> wpAny (model X.prog X.w) X.A (f v u) Q X.xe s2):
  wpAny (model X.prog X.w) X.A (eval a X.env) (fun v s₁=>wpAny (model X.prog X.w) X.A (eval b X.env) (fun u s₂=>wpAny (model X.prog X.w) X.A (f v u) Q X.xe s₂) X.xe s₁) X.xe s:=by
 refine thn (ha pins s σ H _ I h) fun v s1 ⟨x,H1,I1,r1,q1⟩=>?_
 refine thn (hb pins s1 σ H1 _ I1 q1) fun u s2 ⟨y,H2,I2,r2,q2⟩=>?_
 exact hf v u s2 x y H2 I2 r1 r2 q2
theorem FJ {op:Operator} {r:R2} (ho:OpR X (binaryOp op) r) (ha:PE X a ta) (hb:PE X b tb):PE X (.BinOp a op b pos) (tOp r ta tb):=by
 intro pins s σ H Q I h
 exact wpAny_BinOp (DY ha hb I h fun v u s2 x y H2 I2 rx ry q=>ho pins s2 σ H2 x y v u Q I2 rx ry q)
theorem Fs {op:UnaryOp} {r:V -> Hp -> VK -> Prop} (ho:UnR X (unaryOp op) r) (ha:PE X a ta):PE X (.UnaryOp op a pos) (tUn r ta):=by
 intro pins s σ H Q I h
 exact UnaryOp_ (thn (ha pins s σ H _ I h) fun v s1 ⟨x,H1,I1,r1,q1⟩=>ho pins s1 σ H1 x v Q I1 r1 q1)
theorem opI {f:Value -> Value -> Sem Value} {C:Int -> Int -> Prop} {g:Int -> Int -> Int}
  (rule:∀ (i j:Int) (t u:Tok) (s:Shared) (Q:Value -> Shared -> Prop) (E:Value -> Shared -> Prop),C i j -> Q (.int (g i j) s.toks) { s with toks:=s.toks + 1 } -> wpAny (model X.prog X.w) X.A (f (.int i t) (.int j u)) Q E s):
  OpR X f (rI C fun i j=>.int (g i j)):=by
 intro pins s σ H x y v u Q I rx ry h
 obtain ⟨i,j,rfl,rfl,hc,q⟩:=h
 obtain ⟨t,rfl⟩:=rx
 obtain ⟨t',rfl⟩:=ry
 exact rule i j t t' s _ _ hc ⟨.int (g i j),H,I.tok _,⟨_,rfl⟩,q⟩
theorem E6 {f:Value -> Value -> Sem Value} {g:Int -> Int -> Int}
  (rule:∀ (i j:Int) (t u:Tok) (s:Shared) (Q:Value -> Shared -> Prop) (E:Value -> Shared -> Prop),Q (.int (g i j) s.toks) { s with toks:=s.toks + 1 } -> wpAny (model X.prog X.w) X.A (f (.int i t) (.int j u)) Q E s):
  OpR X f (rI0 fun i j=>.int (g i j)):=by
 intro pins s σ H x y v u Q I rx ry h
 obtain ⟨i,j,rfl,rfl,q⟩:=h
 obtain ⟨t,rfl⟩:=rx
 obtain ⟨t',rfl⟩:=ry
 exact rule i j t t' s _ _ ⟨.int (g i j),H,I.tok _,⟨_,rfl⟩,q⟩
theorem A8 {f:Value -> Value -> Sem Value} {g:Int -> Int -> Bool}
  (rule:∀ (i j:Int) (t u:Tok) (s:Shared) (Q:Value -> Shared -> Prop) (E:Value -> Shared -> Prop),Q (.bool (g i j)) s -> wpAny (model X.prog X.w) X.A (f (.int i t) (.int j u)) Q E s):
  OpR X f (rI0 fun i j=>.bl (g i j)):=by
 intro pins s σ H x y v u Q I rx ry h
 obtain ⟨i,j,rfl,rfl,q⟩:=h
 obtain ⟨t,rfl⟩:=rx
 obtain ⟨t',rfl⟩:=ry
 exact rule i j t t' s _ _ ⟨.bl (g i j),H,I,rfl,q⟩
def CG (i j:Int):Prop:=0 < j /\ j < 1073741824
def D4 (i j:Int):Prop:=0 <= j /\ j <= 1000000 /\ i.natAbs < 2 ^ 64
def yY (i j:Int):Prop:=(-(2 ^ 64) < i /\ i < 2 ^ 64) \/ (-(2 ^ 64) < j /\ j < 2 ^ 64)
theorem yY.ok {i j:Int} (h:yY i j):IntMulOk i j:=by
 rcases h with ⟨h1,h2⟩ | ⟨h1,h2⟩
 . exact .of_left (intBits_le_64 h1 h2)
 . exact .of_right (intBits_le_64 h1 h2)
theorem fN:OpR X (binaryOp .Add) (rI0 fun i j=>.int (i + j)):=E6 fun _ _ _ _ _ _ _ q=>add_int q
theorem ng:OpR X (binaryOp .Sub) (rI0 fun i j=>.int (i - j)):=E6 fun _ _ _ _ _ _ _ q=>sub_int q
theorem oC:OpR X (binaryOp .Mult) (rI yY fun i j=>.int (i * j)):=opI fun _ _ _ _ _ _ _ hc q=>mul_int q hc.ok
theorem kh:OpR X (binaryOp .FloorDiv) (rI CG fun i j=>.int (i / j)):=opI fun i j _ _ _ _ _ hc q=>by
 have h1:(0:Int) < j:=hc.1
 have h2:j < 1073741824:=hc.2
 exact floordiv_int (by omega) (by rw [Int.fdiv_eq_ediv_of_nonneg i (by omega)]; exact q) (.inl (PyProof.noPylong_small (by omega)))
theorem ft:OpR X (binaryOp .Mod) (rI (fun _ j=>0 < j) fun i j=>.int (i % j)):=opI fun i j _ _ _ _ _ hc q=>by
 have h1:(0:Int) < j:=hc
 exact mod_int' (by omega) (by rw [Int.fmod_eq_emod_of_nonneg i (by omega)]; exact q)
theorem vU:OpR X (binaryOp .Pow) (rI D4 fun i j=>.int (i ^ j.toNat)):=opI fun _ _ _ _ _ _ _ hc q=>pow_int_small hc.1 hc.2.1 hc.2.2 q
theorem unI {f:Value -> Sem Value} {g:Int -> Int}
  (rule:∀ (i:Int) (t:Tok) (s:Shared) (Q:Value -> Shared -> Prop) (E:Value -> Shared -> Prop),Q (.int (g i) s.toks) { s with toks:=s.toks + 1 } -> wpAny (model X.prog X.w) X.A (f (.int i t)) Q E s):
  UnR X f (rU fun i=>.int (g i)):=by
 intro pins s σ H x v Q I rx h
 obtain ⟨i,rfl,q⟩:=h
 obtain ⟨t,rfl⟩:=rx
 exact rule i t s _ _ ⟨.int (g i),H,I.tok _,⟨_,rfl⟩,q⟩
theorem oF:UnR X (unaryOp .USub) (rU fun i=>.int (-i)):=unI fun _ _ _ _ _ q=>neg_int q
end
def Cy:V -> V -> Bool
 | .non,.non=>true | .non,.int _=>true | .int _,.non=>true | .non,.bl _=>true | .bl _,.non=>true | .non,.str _=>true | .str _,.non=>true
 | .int _,.int _=>true | .bl _,.bl _=>true | .str _,.str _=>true | .byt _,.byt _=>true
 | .int _,.str _=>true | .str _,.int _=>true | .bl _,.str _=>true | .str _,.bl _=>true
 | _,_=>false
def rEq:R2:=fun x y H Q=>Cy x y = true /\ Q (.bl (decide (x = y))) H
def rNe:R2:=fun x y H Q=>Cy x y = true /\ Q (.bl (!decide (x = y))) H
theorem wK {i j:Int}:decide (V.int i = V.int j) = (i == j):=by
 rw [Bool.eq_iff_iff]
 simp
theorem yc {i j:Bool}:decide (V.bl i = V.bl j) = (i == j):=by
 rw [Bool.eq_iff_iff]
 simp
theorem wV {i j:Str}:decide (V.str i = V.str j) = (i == j):=by
 rw [Bool.eq_iff_iff]
 simp
theorem wC {i j:Array UInt8}:decide (V.byt i = V.byt j) = (i.toList == j.toList):=by
 rw [Bool.eq_iff_iff]
 cases i
 cases j
 simp
section
variable {X:Cx} {a b c:Expr} {ta tb tc:TE} {pos:Pos}
theorem cH {pins:List (Addr × Obj)} {σ:St} {H:Hp} {s:Shared} {Q:VK} {k k':Bool} (I:Inv X pins σ H s) (q:Q (.bl k) H) (e:k = k'):EP X pins σ Q (.bool k') s:=by
 subst e
 exact ⟨.bl k,H,I,rfl,q⟩
theorem cf:OpR X (compareOp .Eq) rEq:=by
 intro pins s σ H x y v u Q I rx ry h
 obtain ⟨hs,q⟩:=h
 cases x with
 | non=>
   cases rx
   cases y with
   | non=>cases ry; exact PySem.EqNone.eq_none_none (cH I q (by simp))
   | bl j=>cases ry; exact PySem.EqNone.eq_none_bool (cH I q (by simp))
   | int j=>obtain ⟨t',rfl⟩:=ry; exact PySem.EqNone.eq_none_int (cH I q (by simp))
   | str j=>obtain ⟨t',rfl⟩:=ry; exact PySem.EqNone.eq_none_str (cH I q (by simp))
   | _=>exact absurd (show false = true from hs) Bool.false_ne_true
 | bl i=>
   cases rx
   cases y with
   | non=>cases ry; exact PySem.EqNone.eq_bool_none (cH I q (by simp))
   | bl j=>cases ry; exact eq_bool (cH I q yc)
   | str j=>obtain ⟨t',rfl⟩:=ry; exact PySem.EqMixed.eq_bool_str (cH I q (by simp))
   | _=>exact absurd (show false = true from hs) Bool.false_ne_true
 | int i=>
   obtain ⟨t,rfl⟩:=rx
   cases y with
   | non=>cases ry; exact PySem.EqNone.eq_int_none (cH I q (by simp))
   | int j=>obtain ⟨t',rfl⟩:=ry; exact eq_int (cH I q wK)
   | str j=>obtain ⟨t',rfl⟩:=ry; exact PySem.EqMixed.eq_int_str (cH I q (by simp))
   | _=>exact absurd (show false = true from hs) Bool.false_ne_true
 | str i=>
   obtain ⟨t,rfl⟩:=rx
   cases y with
   | non=>cases ry; exact PySem.EqNone.eq_str_none (cH I q (by simp))
   | bl j=>cases ry; exact PySem.EqMixed.eq_str_bool (cH I q (by simp))
   | int j=>obtain ⟨t',rfl⟩:=ry; exact PySem.EqMixed.eq_str_int (cH I q (by simp))
   | str j=>obtain ⟨t',rfl⟩:=ry; exact eq_str (cH I q wV)
   | _=>exact absurd (show false = true from hs) Bool.false_ne_true
 | byt i=>
   obtain ⟨t,rfl⟩:=rx
   cases y with
   | byt j=>obtain ⟨t',rfl⟩:=ry; exact PySem.W.eq_bytes (cH I q wC)
   | _=>exact absurd (show false = true from hs) Bool.false_ne_true
 | _=>cases y <;> exact absurd (show false = true from hs) Bool.false_ne_true
theorem qZ:OpR X (compareOp .NotEq) rNe:=by
 intro pins s σ H x y v u Q I rx ry h
 obtain ⟨hs,q⟩:=h
 cases x with
 | non=>
   cases rx
   cases y with
   | non=>cases ry; exact PySem.EqNone.ne_none_none (cH I q (by simp))
   | bl j=>cases ry; exact PySem.EqNone.ne_none_bool (cH I q (by simp))
   | int j=>obtain ⟨t',rfl⟩:=ry; exact PySem.EqNone.ne_none_int (cH I q (by simp))
   | str j=>obtain ⟨t',rfl⟩:=ry; exact PySem.EqNone.ne_none_str (cH I q (by simp))
   | _=>exact absurd (show false = true from hs) Bool.false_ne_true
 | bl i=>
   cases rx
   cases y with
   | non=>cases ry; exact PySem.EqNone.ne_bool_none (cH I q (by simp))
   | bl j=>cases ry; exact ne_bool (cH I q (congrArg not yc))
   | str j=>obtain ⟨t',rfl⟩:=ry; exact PySem.EqMixed.ne_bool_str (cH I q (by simp))
   | _=>exact absurd (show false = true from hs) Bool.false_ne_true
 | int i=>
   obtain ⟨t,rfl⟩:=rx
   cases y with
   | non=>cases ry; exact PySem.EqNone.ne_int_none (cH I q (by simp))
   | int j=>obtain ⟨t',rfl⟩:=ry; exact ne_int (cH I q (congrArg not wK))
   | str j=>obtain ⟨t',rfl⟩:=ry; exact PySem.EqMixed.ne_int_str (cH I q (by simp))
   | _=>exact absurd (show false = true from hs) Bool.false_ne_true
 | str i=>
   obtain ⟨t,rfl⟩:=rx
   cases y with
   | non=>cases ry; exact PySem.EqNone.ne_str_none (cH I q (by simp))
   | bl j=>cases ry; exact PySem.EqMixed.ne_str_bool (cH I q (by simp))
   | int j=>obtain ⟨t',rfl⟩:=ry; exact PySem.EqMixed.ne_str_int (cH I q (by simp))
   | str j=>obtain ⟨t',rfl⟩:=ry; exact ne_str (cH I q (congrArg not wV))
   | _=>exact absurd (show false = true from hs) Bool.false_ne_true
 | byt i=>
   obtain ⟨t,rfl⟩:=rx
   cases y with
   | byt j=>obtain ⟨t',rfl⟩:=ry; exact PySem.W.ne_bytes (cH I q (congrArg not wC))
   | _=>exact absurd (show false = true from hs) Bool.false_ne_true
 | _=>cases y <;> exact absurd (show false = true from hs) Bool.false_ne_true
theorem jq:OpR X (compareOp .Lt) (rI0 fun i j=>.bl (decide (i < j))):=A8 fun _ _ _ _ _ _ _ q=>lt_int q
theorem jN:OpR X (compareOp .LtE) (rI0 fun i j=>.bl (decide (i <= j))):=A8 fun _ _ _ _ _ _ _ q=>le_int q
theorem Ck:OpR X (compareOp .Gt) (rI0 fun i j=>.bl (decide (j < i))):=A8 fun _ _ _ _ _ _ _ q=>gt_int q
theorem E8:OpR X (compareOp .GtE) (rI0 fun i j=>.bl (decide (j <= i))):=A8 fun _ _ _ _ _ _ _ q=>ge_int q
theorem p7:OpR X (compareOp .Is) (fun x y H Q=>y = .non /\ Q (.bl (decide (x = .non))) H):=by
 intro pins s σ H x y v u Q I rx ry h
 obtain ⟨rfl,q⟩:=h
 cases ry
 refine is_none_gen (cH I q ?_)
 cases x <;> first
  | (cases rx; rfl)
  | (obtain ⟨t,rfl⟩:=rx; rfl)
theorem sL:OpR X (compareOp .IsNot) (fun x y H Q=>y = .non /\ Q (.bl (!decide (x = .non))) H):=by
 intro pins s σ H x y v u Q I rx ry h
 obtain ⟨rfl,q⟩:=h
 cases ry
 refine isnot_none_gen (cH I q ?_)
 cases x <;> first
  | (cases rx; rfl)
  | (obtain ⟨t,rfl⟩:=rx; rfl)
theorem aP (b:Expr) {op:CmpOp} (h:op ≠ .In:=by decide) (h2:op ≠ .NotIn:=by decide):behindInMarks op b = false:=by
 have e1:(op == CmpOp.In) = false:=by cases op <;> first | rfl | exact absurd rfl h
 have e2:(op == CmpOp.NotIn) = false:=by cases op <;> first | rfl | exact absurd rfl h2
 cases b <;> simp [behindInMarks,e1,e2]
theorem A2 {op:CmpOp} {r:R2} (ho:OpR X (compareOp op) r) (ha:PE X a ta) (hb:PE X b tb) (hm:behindInMarks op b = false):PE X (.Compare a [op] [b] pos) (tOp r ta tb):=by
 intro pins s σ H Q I h
 exact wpAny_Compare1 (DY ha hb I h fun v u s2 x y H2 I2 rx ry q=>ho pins s2 σ H2 x y v u Q I2 rx ry q) hm
def tZ (t:TE):TT:=fun σ H Q=>t σ H fun x H'=>∃ k,x = .bl k /\ Q k H'
theorem Bx {op:CmpOp} {r:R2} (ho:OpR X (compareOp op) r) (ha:PE X a ta) (hb:PE X b tb) (hm:behindInMarks op b = false):PT X (.Compare a [op] [b] pos) (tZ (tOp r ta tb)):=by
 intro pins s σ H Q I h
 refine wpAny_isTrue_Compare1 (thn (ha pins s σ H _ I h) fun v s1 ⟨x,H1,I1,r1,q1⟩=>thn (hb pins s1 σ H1 _ I1 q1) fun u s2 ⟨y,H2,I2,r2,q2⟩=>
  thn (ho pins s2 σ H2 x y v u _ I2 r1 r2 q2) fun c s3 ⟨z,H3,I3,r3,k,e,q3⟩=>?_) hm
 subst e
 cases r3
 exact wpAny_truthy_bool ⟨H3,I3,q3⟩
def qg (r r':R2) (ta tb tc:TE):TE:=fun σ H Q=>ta σ H fun x H1=>tb σ H1 fun y H2=>r x y H2 fun z H3=>∃ k,z = .bl k /\
 (if k = true then tc σ H3 fun w' H4=>r' y w' H4 Q else Q (.bl false) H3)
theorem zi {op op':CmpOp} {r r':R2} (ho:OpR X (compareOp op) r) (ho':OpR X (compareOp op') r') (ha:PE X a ta) (hb:PE X b tb) (hc:PE X c tc)
  (hm:lastMarks [op,op'] [b,c] = false:=by with_unfolding_all rfl):PE X (.Compare a [op,op'] [b,c] pos) (qg r r' ta tb tc):=by
 intro pins s σ H Q I h
 refine Compare_chain (thn (ha pins s σ H _ I h) fun v s1 ⟨x,H1,I1,r1,q1⟩=>chain_link (thn (hb pins s1 σ H1 _ I1 q1) fun u s2 ⟨y,H2,I2,r2,q2⟩=>
  thn (ho pins s2 σ H2 x y v u _ I2 r1 r2 q2) fun d s3 ⟨z,H3,I3,r3,k,e,q3⟩=>?_)) hm
 subst e
 cases r3
 refine wpAny_truthy_bool ?_
 cases k with
 | false=>exact ite_ff ⟨.bl false,H3,I3,rfl,q3⟩
 | true=>exact ite_tt (chain_last (thn (hc pins s3 σ H3 _ I3 q3) fun w' s4 ⟨z',H4,I4,r4,q4⟩=>ho' pins s4 σ H4 y z' u w' Q I4 r2 r4 q4))
theorem x8 {op op':CmpOp} {r r':R2} (ho:OpR X (compareOp op) r) (ho':OpR X (compareOp op') r') (ha:PE X a ta) (hb:PE X b tb) (hc:PE X c tc)
  (hm:lastMarks [op,op'] [b,c] = false:=by with_unfolding_all rfl):PT X (.Compare a [op,op'] [b,c] pos) (tZ (qg r r' ta tb tc)):=by
 intro pins s σ H Q I h
 refine isTrue_chain (thn (ha pins s σ H _ I h) fun v s1 ⟨x,H1,I1,r1,q1⟩=>test_link (thn (hb pins s1 σ H1 _ I1 q1) fun u s2 ⟨y,H2,I2,r2,q2⟩=>
  thn (ho pins s2 σ H2 x y v u _ I2 r1 r2 q2) fun d s3 ⟨z,H3,I3,r3,k,e,q3⟩=>?_)) hm
 subst e
 cases r3
 refine wpAny_truthy_bool ?_
 cases k with
 | false=>
   obtain ⟨k',e',q'⟩:=q3
   cases e'
   exact ite_ff ⟨H3,I3,q'⟩
 | true=>
   refine ite_tt (test_last (thn (hc pins s3 σ H3 _ I3 q3) fun w' s4 ⟨z',H4,I4,r4,q4⟩=>thn (ho' pins s4 σ H4 y z' u w' _ I4 r2 r4 q4) fun d' s5 ⟨z2,H5,I5,r5,k2,e2,q5⟩=>?_))
   subst e2
   cases r5
   exact wpAny_truthy_bool ⟨H5,I5,q5⟩
def vG (K:PySem.W.Frag) (x:V) (H:Hp) (k:Bool):Prop:=
 match x with
 | .non=>k = false
 | .bl b=>k = b
 | .int i=>k = (i != 0)
 | .str y=>y.length <= sizeLine /\ k = ((y.length:Int) != 0)
 | .byt y=>y.size <= sizeLine /\ k = ((y.size:Int) != 0)
 | .ref p=>(∃ xs,SqL K H p xs /\ k = !xs.isEmpty) \/ (∃ xs,SqT K H p xs /\ k = !xs.isEmpty) \/ ∃ kvs,H p = some (.dK kvs) /\ k = !kvs.isEmpty
 | _=>False
theorem vz {κ:Type} {kvs:List (κ × V)} {vs:List (κ × Value)} (r:KV kvs vs):(!vs.isEmpty) = !kvs.isEmpty:=by
 cases r <;> rfl
theorem pN {xs:List V} {its:List Value} (r:Vals xs its):(!its.toArray.isEmpty) = !xs.isEmpty:=by
 cases r <;> simp
theorem pK:(sizeLine:Nat) < 2 ^ 63:=by rw [sizeLine_eq]; decide
theorem DO:GB X (fun x H Q=>∃ k,vG X.K x H k /\ Q k H):=by
 intro pins s σ H x v Q I rx h
 obtain ⟨k,e,q⟩:=h
 have hl:=pK
 have hs:sizeLine = 16777216:=sizeLine_eq
 cases x with
 | non=>
   cases rx
   have e':k = false:=e
   subst e'
   exact truthy_none ⟨H,I,q⟩
 | bl b=>
   cases rx
   have e':k = b:=e
   subst e'
   exact wpAny_truthy_bool ⟨H,I,q⟩
 | int i=>
   obtain ⟨t,rfl⟩:=rx
   have e':k = (i != 0):=e
   subst e'
   exact PySem.P.truthy_int ⟨H,I,q⟩
 | str y=>
   obtain ⟨t,rfl⟩:=rx
   obtain ⟨hy,e'⟩:y.length <= sizeLine /\ k = ((y.length:Int) != 0):=e
   subst e'
   exact PySem.P.truthy_str (by omega) ⟨H,I.tok _,q⟩
 | byt y=>
   obtain ⟨t,rfl⟩:=rx
   obtain ⟨hy,e'⟩:y.size <= sizeLine /\ k = ((y.size:Int) != 0):=e
   subst e'
   exact PySem.W.truthy_bytes (by omega) ⟨H,I.tok _,q⟩
 | ref p=>
   cases rx
   have e':(∃ xs,SqL X.K H p xs /\ k = !xs.isEmpty) \/ (∃ xs,SqT X.K H p xs /\ k = !xs.isEmpty) \/ ∃ kvs,H p = some (.dK kvs) /\ k = !kvs.isEmpty:=e
   rcases e' with ⟨xs,hx,e'⟩ | ⟨xs,hx,e'⟩ | ⟨kvs,hx,e'⟩
   . subst e'
     obtain ⟨its,r,pl,hz⟩:=I.list hx
     have hlen:=r.length
     exact wpAny_truthy_list pl.isList (by simp only [List.size_toArray]; omega) ⟨H,I.tok _,by rw [pN r]; exact q⟩
   . subst e'
     obtain ⟨its,r,pl,hz⟩:=I.tuple hx
     have hlen:=r.length
     exact truthy_tuple pl (by simp only [List.size_toArray]; omega) ⟨H,I.tok _,by rw [pN r]; exact q⟩
   . subst e'
     obtain ⟨hz,hS,vs,r,m⟩:kvs.length <= sizeLine /\ (p == sysModules) = false /\ ∃ vs,KV kvs vs /\ s.heap.DictOf (sX X.prog X.w) p vs:=I.hok p _ hx
     have hlen:kvs.length = vs.length:=Paired.length r
     exact wpAny_truthy_dict hS m (by omega) ⟨H,I.tok _,by rw [vz r]; exact q⟩
 | _=>exact (show False from e).elim
theorem yR (ha:PE X a ta) (he:∀ whole,isTrue a X.env whole = (do let v <- whole; standAt a.pos; holding [v] (truthy v))):
  PT X a (fun σ H Q=>ta σ H fun x H'=>∃ k,vG X.K x H' k /\ Q k H'):=by
 intro pins s σ H Q I h
 exact isTrue_plain (thn (ha pins s σ H _ I h) fun v s1 ⟨x,H1,I1,r1,q1⟩=>DO pins s1 σ H1 x v Q I1 r1 q1) (he _)
theorem vals1 {x:V} {us:List Value} (r:Vals [x] us):∃ u,us = [u] /\ RelV x u:=by
 cases r with
 | cons r1 r2=>cases r2; exact ⟨_,rfl,r1⟩
theorem yQ:qQ X (.builtin "abs") (fun xs H Q=>∃ i,xs = [.int i] /\ Q (.int (if i < 0 then -i else i)) H):=by
 intro pins s σ H xs us Q I r h
 obtain ⟨i,rfl,q⟩:=h
 obtain ⟨u,rfl,t,rfl⟩:=vals1 r
 exact call_abs_int fun u tk=>⟨.int (if i < 0 then -i else i),H,I.tok _,⟨_,rfl⟩,q⟩
end
end L2
namespace L2
open PySem PySem.Spec PyProof.Rows
structure u5 (h:Heap) (x dx C:Addr) (mA:Str -> Option Value):Prop where
 obj:h.get? x = some (PySem.W.instObj C dx)
 ns:h.Ns1 dx mA
 ne:dx ≠ x
theorem xx {h:Heap} {dx:Addr} {mA:Str -> Option Value} (n:h.Ns1 dx mA):∃ od,h.get? dx = some od /\ ∀ name,PySem.W.lookIn name od = some (mA name):=by
 obtain ⟨o,es,ep,ho,hd,hk,_,hm⟩:=n
 refine ⟨o,ho,fun name=>?_⟩
 have e:=hm name
 unfold nsFind findBy at e
 rw [<- Array.find?_toList] at e
 unfold PySem.W.lookIn
 rw [hd]
 dsimp only
 split
 . rename_i y q
   rw [q] at e
   exact congrArg some e
 . rename_i q
   rw [q] at e
   have a:es.toList.any (·.refKey) = false:=by
    rw [List.any_eq_false]
    intro y hy
    obtain ⟨z,t,hkey⟩:=hk y (Array.mem_toList_iff.mp hy)
    simp [DictEntry.refKey,hkey]
   have a':¬ es.toList.any (·.refKey) = true:=by rw [a]; exact Bool.false_ne_true
   rw [if_neg a']
   exact congrArg some e
theorem u5.look {h:Heap} {x dx C:Addr} {mA:Str -> Option Value} (I:u5 h x dx C mA):∃ od,PySem.W.InstAt h x (PySem.W.instObj C dx) C (some od) /\ ∀ name,PySem.W.lookIn name od = some (mA name):=
 let ⟨od,ho,hl⟩:=xx I.ns
 ⟨od,⟨I.obj,rfl,rfl,ho⟩,hl⟩
section
variable {prog:Program} {w:World} {A:Around} {E:Value -> Shared -> Prop} {s:Shared} {K:PySem.W.Frag} {x dx C f:Addr} {mA:Str -> Option Value} {name:Str} {v:Value}
theorem get_map {expr:Bool} {Q:Value -> Shared -> Prop} (X:K.In s.heap) (I:u5 s.heap x dx C mA) (hg:PySem.W.plainGet K C name = true) (hh:PySem.W.hasDictIn K C = true)
  (ha:PySem.W.findIn K (.ref C) name = some none) (hv:mA name = some v) (hv':PySem.W.handedIn v = true) (h:Q v { s with toks:=s.toks + 1 }):
  wpAny (model prog w) A (getAttr (.ref x) name expr) Q E s:=by
 obtain ⟨od,J,hl⟩:=I.look
 exact PySem.W.get_value X J (PySem.W.plainGet_of hg).1 (PySem.W.findObj_own hh ha rfl (by rw [hl,hv])) hv' h
theorem yd {pl:Sem Bool} {Q:Value × List Value -> Shared -> Prop} (X:K.In s.heap) (I:u5 s.heap x dx C mA) (hg:PySem.W.plainGet K C name = true)
  (hf:PySem.W.findIn K (.ref C) name = some (some (.ref f))) (ht:PySem.W.isFn K (.ref f) = true) (hv:mA name = none) (h:Q (.ref f,[.ref x]) s):
  wpAny (model prog w) A (getMethod (.ref x) name pl) Q E s:=by
 obtain ⟨od,J,hl⟩:=I.look
 exact PySem.W.method_fn X J (PySem.W.plainGet_of hg).1 (PySem.W.plainGet_of hg).2 hf (beq_iff_eq.mp ht) (by show (PySem.W.lookIn name od).map (·.isSome) = some false; rw [hl,hv]; rfl) h
theorem AV {ns:List Str} {Q:Unit -> Shared -> Prop} (X:K.In s.heap) (I:u5 s.heap x dx C mA)
  (hs:PySem.W.findIn K (.ref C) "__setattr__" = some (some (.builtin "object.__setattr__"))) (hp:PySem.W.plainOver K C = true) (ht:PySem.W.takerIn K C name = some none) (hh:PySem.W.hasDictIn K C = true)
  (hw:PySem.Within mA ns) (hsz:ns.length <= sizeLine)
  (h:∀ h',u5 h' x dx C (fun y=>if y = name then some v else mA y) -> Heap.SameBut dx s.heap h' -> Q () { s with heap:=h',toks:=s.toks + 2 }):
  wpAny (model prog w) A (setAttr (.ref x) name v) Q E s:=by
 obtain ⟨od,J,hl⟩:=I.look
 refine PySem.W.set_plain X J hs (PySem.W.osa_open (s:={ s with toks:=s.toks + 1 }) (r:=none) X J hp ht fun b=>?_)
 obtain ⟨cd,hc,hd'⟩:=PySem.W.any_some hh
 have hx:s.heap.get? x = some ⟨.ref C,some dx,.plain,#[]⟩:=I.obj
 refine wpAny_bind (wpAny_pure (wpAny_bind (wpAny_bind (wpAny_loadPart hx (wpAny_bind (PySem.W.Looks.here (s:={ s with toks:=s.toks + 1 }) (PySem.W.looks_clsIn X hc) ?_))))))
 rw [hd']
 refine wpAny_pure (a:=some dx) (wpAny_bind (wpAny_pure (wpAny_bind ?_)))
 refine wpAny_nsSet1 (s:={ s with toks:=s.toks + 1 }) I.ns fun h' hn2 hs2=>?_
 obtain ⟨oD,esD,epD,hoD,hdD,hcD⟩:=hn2.count (PySem.Within.cons name v hw)
 refine wpAny_bind (wpAny_lookBehind hoD (by rw [hdD]; exact pastItsLine_dict (Nat.le_trans hcD (by rw [List.length_cons]; omega))) ?_)
 exact wpAny_pure (h _ ⟨(hs2.2 _ (Ne.symm I.ne)).trans I.obj,hn2,I.ne⟩ hs2)
theorem zP {R:Result -> Shared -> Prop} {vs:List Value} {kw:List (Str × Value)} (X:K.In s.heap) (hm:PySem.W.makesIn K C = true)
  (hi:PySem.W.findIn K (.ref C) "__init__" = some (some (.ref f))) (hf:PySem.W.typeIn K (.ref f) = some (.type "function"))
  (h:codeAny (model prog w) (A.under (.builtin "type.__call__" ⟨.ref C ::vs,kw⟩)) (.call (.ref f) ⟨.ref (s.heap.objs.size + 1) ::vs,kw⟩) (PySem.W.InitBack (s.heap.objs.size + 1) R)
    { s with heap:=(s.heap.push PySem.W.emptyDict).push (PySem.W.instObj C s.heap.objs.size) }):
  codeAny (model prog w) A (.call (.ref C) ⟨vs,kw⟩) R s:=by
 obtain ⟨hh,g,d,t,os⟩:=s
 exact PySem.W.make_core (PySem.W.makes_of X hm) (PySem.W.looks_findIn X hi) (fun self=>PySem.W.bind_fn X self hf) (.inl rfl) h
end
def iI (f:Str) (v:V):List (Str × V) -> List (Str × V)
 | []=>[(f,v)]
 | (g,x) ::r=>if g = f then (g,v) ::r else (g,x) ::iI f v r
theorem oW (f g:Str) (v:V):∀ fs:List (Str × V),(iI f v fs).lookup g = if g = f then some v else fs.lookup g
 | []=>by
   show List.lookup g [(f,v)] = _
   by_cases h:g = f
   . have hb:(g == f) = true:=beq_iff_eq.mpr h
     simp only [List.lookup,hb,if_pos h]
   . have hb:(g == f) = false:=beq_eq_false_iff_ne.mpr h
     simp only [List.lookup,hb,if_neg h]
 | (k,x) ::r=>by
   have ih:=oW f g v r
   rw [show iI f v ((k,x) ::r) = (if k = f then (k,v) ::r else (k,x) ::iI f v r) from rfl]
   by_cases hk:k = f
   . rw [if_pos hk]
     by_cases h:g = k
     . have hb:(g == k) = true:=beq_iff_eq.mpr h
       simp only [List.lookup,hb,if_pos (h.trans hk)]
     . have hb:(g == k) = false:=beq_eq_false_iff_ne.mpr h
       simp only [List.lookup,hb,if_neg (fun e:g = f=>h (e.trans hk.symm))]
   . rw [if_neg hk]
     by_cases h:g = k
     . have hb:(g == k) = true:=beq_iff_eq.mpr h
       simp only [List.lookup,hb,if_neg (fun e:g = f=>hk (h.symm.trans e))]
     . have hb:(g == k) = false:=beq_eq_false_iff_ne.mpr h
       simp only [List.lookup,hb]
       exact ih
theorem oi (f:Str) (v:V):∀ fs:List (Str × V),f ∈ (iI f v fs).map (·.1) /\ ∀ g,g ∈ fs.map (·.1) -> g ∈ (iI f v fs).map (·.1)
 | []=>⟨by simp [iI],fun g h=>by simp at h⟩
 | (k,x) ::r=>by
   obtain ⟨i1,i2⟩:=oi f v r
   rw [show iI f v ((k,x) ::r) = (if k = f then (k,v) ::r else (k,x) ::iI f v r) from rfl]
   by_cases hk:k = f
   . rw [if_pos hk]
     subst hk
     exact ⟨by simp,fun g h=>by simpa using h⟩
   . rw [if_neg hk]
     refine ⟨?_,fun g h=>?_⟩
     . rw [List.map_cons]
       exact List.mem_cons_of_mem _ i1
     . rw [List.map_cons] at h ⊢
       rcases List.mem_cons.mp h with e | e
       . exact List.mem_cons.mpr (.inl e)
       . exact List.mem_cons_of_mem _ (i2 g e)
theorem oX (f:Str) (v:V):∀ fs:List (Str × V),(iI f v fs).length <= fs.length + 1
 | []=>by simp [iI]
 | (k,x) ::r=>by
   have ih:=oX f v r
   rw [show iI f v ((k,x) ::r) = (if k = f then (k,v) ::r else (k,x) ::iI f v r) from rfl]
   by_cases hk:k = f
   . rw [if_pos hk,List.length_cons,List.length_cons]; omega
   . rw [if_neg hk,List.length_cons,List.length_cons]; omega
theorem bM.some_of {v:V} {o:Option Value} (r:bM (some v) o):∃ u,o = some u /\ RelV v u:=by
 cases o with
 | none=>exact (show False from r).elim
 | some u=>exact ⟨u,rfl,r⟩
theorem bM.none_of {o:Option Value} (r:bM none o):o = none:=by
 cases o with
 | none=>rfl
 | some u=>exact (show False from r).elim
theorem xM {v:V} {u:Value} (r:RelV v u):PySem.W.handedIn u = true:=by
 cases v with
 | non=>cases (show u = Value.none from r); rfl
 | bl b=>cases (show u = Value.bool b from r); rfl
 | int i=>obtain ⟨t,e⟩:=(show ∃ t,u = Value.int i t from r); cases e; rfl
 | str x=>obtain ⟨t,e⟩:=(show ∃ t,u = Value.str x t from r); cases e; rfl
 | byt b=>obtain ⟨t,e⟩:=(show ∃ t,u = Value.bytes b t from r); cases e; rfl
 | flt b=>obtain ⟨t,e⟩:=(show ∃ t,u = Value.float b t from r); cases e; rfl
 | ref a=>cases (show u = Value.ref a from r); rfl
 | ty n=>cases (show u = Value.type n from r); rfl
section
variable {P:Program} {w:World} {H H':Hp} {h h':Heap} {a C dx:Addr} {fs fs':List (Str × V)}
theorem sG (hok:HOk P w H h) (e:H a = some (.ins C dx fs)):∃ mA,u5 h a dx C mA /\ (∀ f,bM (fs.lookup f) (mA f)) /\ PySem.Within mA (fs.map (·.1)) /\ fs.length <= 1000 /\ H dx = some (.own a):=by
 obtain ⟨d,z,ne,ob,mA,n,r,q⟩:=(show hX P w H h a (.ins C dx fs) from hok a _ e)
 exact ⟨mA,⟨ob,n,ne⟩,r,q,z,d⟩
end
structure Cls (K:PySem.W.Frag) (C:Addr):Prop where
 pg:PySem.W.plainGet K C Str.empty = true
 hd:PySem.W.hasDictIn K C = true
 po:PySem.W.plainOver K C = true
 sa:PySem.W.findIn K (.ref C) "__setattr__" = some (some (.builtin "object.__setattr__"))
theorem Cls.get {K:PySem.W.Frag} {C:Addr} (c:Cls K C) (f:Str):PySem.W.plainGet K C f = true:=c.pg
def jF (K:PySem.W.Frag) (C:Addr) (f:Str):Prop:=PySem.W.findIn K (.ref C) f = some none
theorem jF.ET {K:PySem.W.Frag} {C:Addr} {f:Str} (n:jF K C f):PySem.W.takerIn K C f = some none:=by
 unfold PySem.W.takerIn
 rw [show PySem.W.findIn K (.ref C) f = some none from n]
 rfl
structure Meth (K:PySem.W.Frag) (C:Addr) (m:Str) (f:Addr):Prop where
 at_:PySem.W.findIn K (.ref C) m = some (some (.ref f))
 fn:PySem.W.isFn K (.ref f) = true
 kp:PySem.W.keepIn K (.ref f) = true
section
variable {X:Cx} {pins:List (Addr × Obj)} {σ:St} {H:Hp} {s:Shared} {a C dx:Addr} {fs:List (Str × V)} {f:Str} {v:V} {A:Around} {E:Value -> Shared -> Prop}
theorem vH {b:Bool} {Q:Value -> Shared -> Prop} (I:Inv X pins σ H s) (e:H a = some (.ins C dx fs)) (c:Cls X.K C) (n:jF X.K C f) (l:fs.lookup f = some v)
  (h:∀ u s',Inv X pins σ H s' -> RelV v u -> Q u s'):wpAny (model X.prog X.w) A (getAttr (.ref a) f b) Q E s:=by
 obtain ⟨mA,O,r,_,_,_⟩:=sG I.hok e
 obtain ⟨u,hu,ru⟩:=bM.some_of (v:=v) (o:=mA f) (by rw [<- l]; exact r f)
 exact get_map I.kIn O (c.get f) c.hd n hu (xM ru) (h u _ (I.tok _) ru)
theorem qd {m:Str} {g:Addr} {pl:Sem Bool} {Q:Value × List Value -> Shared -> Prop} (I:Inv X pins σ H s) (e:H a = some (.ins C dx fs)) (c:Cls X.K C) (k:Meth X.K C m g) (l:fs.lookup m = none)
  (h:Q (.ref g,[.ref a]) s):wpAny (model X.prog X.w) A (getMethod (.ref a) m pl) Q E s:=by
 obtain ⟨mA,O,r,_,_,_⟩:=sG I.hok e
 have hn:mA m = none:=bM.none_of (by rw [<- l]; exact r m)
 exact yd I.kIn O (c.get m) k.at_ k.fn hn h
theorem vM {y:V} {u:Value} {Q:Unit -> Shared -> Prop} (I:Inv X pins σ H s) (e:H a = some (.ins C dx fs)) (c:Cls X.K C) (n:jF X.K C f) (hl:fs.length < 1000) (ry:RelV y u)
  (h:∀ s',Inv X pins σ (upd H a (.ins C dx (iI f y fs))) s' -> Q () s'):wpAny (model X.prog X.w) A (setAttr (.ref a) f u) Q E s:=by
 obtain ⟨mA,O,r,wi,_,ho⟩:=sG I.hok e
 have hz:(fs.map (·.1)).length <= sizeLine:=by rw [List.length_map,sizeLine_eq]; omega
 refine AV I.kIn O c.sa c.po n.ET c.hd wi hz fun h' O' sb=>h _ ?_
 have hd:∃ o,h'.get? dx = some o:=let ⟨o,_,_,e',_⟩:=O'.ns; ⟨o,e'⟩
 refine I.write (x:=a) (e:=dx) (by rw [e]; exact True.intro) (.inr ho) (fun b q hb z=>(sb.2 b hb).trans z) hd ?_
 refine ⟨by rw [aW O.ne]; exact ho,?_,O.ne,O'.obj,_,O'.ns,fun g=>?_,fun g hg=>?_⟩
 . have:=oX f y fs; omega
 . show bM ((iI f y fs).lookup g) (if g = f then some u else mA g)
   rw [oW]
   by_cases q:g = f
   . rw [if_pos q,if_pos q]; exact ry
   . rw [if_neg q,if_neg q]; exact r g
 . by_cases q:g = f
   . rw [q]; exact (oi f y fs).1
   . refine (oi f y fs).2 g (wi g fun z=>hg ?_)
     show (if g = f then some u else mA g) = none
     rw [if_neg q]; exact z
theorem Inv.made (I:Inv X pins σ H s):Inv X pins σ (upd (upd H s.heap.objs.size (.own (s.heap.objs.size + 1))) (s.heap.objs.size + 1) (.ins C s.heap.objs.size []))
  { s with heap:=(s.heap.push PySem.W.emptyDict).push (PySem.W.instObj C s.heap.objs.size) }:=by
 have e1:(s.heap.push PySem.W.emptyDict).get? s.heap.objs.size = some PySem.W.emptyDict:=Heap.get?_push_size s.heap rfl
 have e2:((s.heap.push PySem.W.emptyDict).push (PySem.W.instObj C s.heap.objs.size)).get? (s.heap.objs.size + 1) = some (PySem.W.instObj C s.heap.objs.size):=by
  have:=Heap.get?_push_size (s.heap.push PySem.W.emptyDict) (o:=PySem.W.instObj C s.heap.objs.size) rfl
  rwa [Heap.size_push] at this
 have e3:(s.heap.push PySem.W.emptyDict).Ns s.heap.objs.size (fun _=>none):=⟨PySem.W.emptyDict,#[],_,e1,rfl,(fun e he=>absurd he (by simp)),fun _=>rfl⟩
 have I1:=I.laid (a:=s.heap.objs.size) (o:=.own (s.heap.objs.size + 1)) (h':=s.heap.push PySem.W.emptyDict) (t':=s.toks) (fun b u q=>Heap.get?_push_of_some _ q) (Nat.le_refl _) ⟨_,e1⟩
 refine I1.laid (a:=s.heap.objs.size + 1) (o:=.ins C s.heap.objs.size []) (t':=s.toks) (fun b u q=>Heap.get?_push_of_some _ q) (Nat.le_of_eq (Heap.size_push _ _)) ?_
 have ne:s.heap.objs.size ≠ s.heap.objs.size + 1:=Nat.ne_of_lt (Nat.lt_succ_self _)
 refine ⟨by rw [aW ne,ba],Nat.zero_le _,ne,e2,fun _=>none,(Heap.Ns1.of_empty e3).at fun o q=>Heap.get?_push_of_some _ q,fun _=>True.intro,fun y hy=>absurd rfl hy⟩
theorem Bl {prog:Program} {w:World} {env:Env} {e:Expr} {f:Str} {pos:Pos} {s:Shared} {Q:Value -> Shared -> Prop} (hb:attributeBase e f env (eval e env) = eval e env)
  (h:wpAny (model prog w) A (eval e env) (fun o s₁=>wpAny (model prog w) A (getAttr o f true) Q E s₁) E s):wpAny (model prog w) A (eval (.Attribute e f pos) env) Q E s:=
 Attribute_any_ h (by rw [arm_eval_Attribute,hb])
end
def C9 (K:PySem.W.Frag) (ta:TE) (f:Str):TE:=fun σ H Q=>ta σ H fun x H1=>∃ a C dx fs v,x = .ref a /\ H1 a = some (.ins C dx fs) /\ Cls K C /\ jF K C f /\ fs.lookup f = some v /\ Q v H1
def CP (K:PySem.W.Frag) (ta tv:TE) (f:Str):TS:=fun D σ H=>tv σ H fun y H1=>ta σ H1 fun x H2=>∃ a C dx fs,x = .ref a /\ H2 a = some (.ins C dx fs) /\ Cls K C /\ jF K C f /\ fs.length < 1000 /\
 D.nx σ (upd H2 a (.ins C dx (iI f y fs)))
section
variable {X:Cx} {o e value:Expr} {f:Str} {pos pos' tpos:Pos} {ta tv:TE}
theorem Dt (he:PE X e ta) (hb:attributeBase e f X.env (eval e X.env) = eval e X.env):PE X (.Attribute e f pos) (C9 X.K ta f):=by
 intro pins s σ H Q I h
 refine Bl hb (thn (he pins s σ H _ I h) fun u s1 ⟨x,H1,I1,rx,a,C,dx,fs,v,ex,ea,c,n,l,q⟩=>?_)
 subst ex
 obtain rfl:u = Value.ref a:=rx
 exact vH I1 ea c n l fun u' s2 I2 ru=>⟨v,H1,I2,ru,q⟩
theorem CV (ha:PE X o ta) (hv:PE X value tv) (hs:swapsWith value (some (.Attribute o f pos')) pos.line X.env = pure false):PS X (.Assign [.Attribute o f pos'] value pos) (CP X.K ta tv f):=by
 intro pins s σ H D I h
 refine plainObj_wpAny_Assign_Attribute (thn (hv pins s σ H _ I h) fun u s1 ⟨y,H1,I1,ry,q⟩=>thn (ha pins s1 σ H1 _ I1 q) fun ov s2 ⟨x,H2,I2,rx,a,C,dx,fs,ex,ea,c,n,l,q2⟩=>?_) hs
 subst ex
 obtain rfl:ov = Value.ref a:=rx
 exact vM I2 ea c n l ry fun s3 I3=>⟨σ,_,I3,q2⟩
end
end L2
namespace L2
open PySem PySem.Spec PyProof.Rows
structure gj (k:Nat) (A:Around):Prop where
 hd:A.handled = none
 dp:A.depth + 3 * k + 5 < recursionLimit
 un:A.units + 16 * k + 200 < cLine
theorem gj.mono {j k:Nat} {A:Around} (r:gj k A) (h:j <= k):gj j A:=⟨r.hd,by have:=r.dp; omega,by have:=r.un; omega⟩
theorem gj.deeper {k:Nat} {A:Around} (r:gj (k + 1) A) (env:Env):gj k (A.deeper env):=
 ⟨r.hd,by have:=r.dp; show A.depth + 1 + 3 * k + 5 < _; omega,by have:=r.un; show A.units + 3 + 16 * k + 200 < _; omega⟩
theorem vt {A:Around} {C:Addr} {us:List Value} {kw:List (Str × Value)}:(A.under (.builtin "type.__call__" ⟨.ref C ::us,kw⟩)).depth = A.depth + 1:=by
 first | rfl | simp [Around.under,Code.weight,Code.isCreation,Code.isGuard,Code.isCaller,Code.frames,Code.isFrame,guardIds]
theorem vD {A:Around} {C:Addr} {us:List Value} {kw:List (Str × Value)}:(A.under (.builtin "type.__call__" ⟨.ref C ::us,kw⟩)).units = A.units + 1:=by
 first | rfl | simp [Around.under,Code.cUnits,Code.frames,Code.isFrame]
theorem gj.make {k:Nat} {A:Around} (r:gj (k + 1) A) (C:Addr) (us:List Value) (kw:List (Str × Value)):gj k (A.under (.builtin "type.__call__" ⟨.ref C ::us,kw⟩)):=
 ⟨r.hd,by have:=r.dp; rw [vt]; omega,by have:=r.un; rw [vD]; omega⟩
theorem gj.depth {k:Nat} {A:Around} (r:gj k A):A.depth < recursionLimit:=by have:=r.dp; omega
theorem gj.units {k:Nat} {A:Around} (r:gj k A):A.units + 64 < cLine:=by have:=r.un; omega
def kU:TA:=fun _ H Q=>Q [] H
def jm (ta:TE) (tr:TA):TA:=fun σ H Q=>ta σ H fun x H1=>tr σ H1 fun xs H2=>Q (x ::xs) H2
section
variable {X:Cx} {e:Expr} {es:List Expr} {te:TE} {t:TA} {pos:Pos}
theorem CM:PA X [] kU:=fun _ _ _ _ H Q I h=>Calls.spliced_nil ⟨[],H,I,.nil,h⟩
theorem Ap (ha:PE X e te) (hr:PA X es t) (hs:starEach (e ::es) X.env = (false,eval e X.env) ::starEach es X.env:=by rfl):PA X (e ::es) (jm te t):=by
 intro pos pins s σ H Q I h
 rw [hs]
 show wpAny _ _ (spliced ((false,eval e X.env) ::backTo pos (starEach es X.env))) _ _ s
 refine Calls.spliced_cons (thn (ha pins s σ H _ I h) fun u s1 ⟨x,H1,I1,r1,q1⟩=>?_)
 exact thn (hr pos pins s1 σ H1 _ I1 q1) fun us s2 ⟨xs,H2,I2,r2,q2⟩=>⟨x ::xs,H2,I2,.cons r1 r2,q2⟩
def Ez (t:TA):TE:=fun σ H Q=>t σ H fun xs H1=>xs.length <= sizeLine /\ ∀ p,H1 p = none -> Q (.ref p) (upd H1 p (.tup xs))
def Dy (t:TA):TE:=fun σ H Q=>t σ H fun xs H1=>xs.length <= sizeLine /\ ∀ p,H1 p = none -> Q (.ref p) (upd H1 p (.lst xs))
theorem C4 {x1} (h:PA X es t):PE X (.Tuple es x1 pos) (Ez t):=by
 intro pins s σ H Q I hq
 refine wpAny_Tuple_spliced (thn (h pos pins s σ H _ I hq) fun us s1 ⟨xs,H1,I1,r,z,q⟩=>⟨by rw [<- r.length]; exact z,?_⟩)
 have hf:H1 s1.heap.objs.size = none:=I1.hok.fresh (Nat.le_refl _)
 refine ⟨.ref s1.heap.objs.size,upd H1 s1.heap.objs.size (.tup xs),I1.laid (t':=s1.toks) (fun b u e=>Heap.get?_push_of_some _ e) (Nat.le_refl _) ?_,rfl,q _ hf⟩
 exact ⟨z,us,r,⟨_,Heap.get?_push_size _ rfl,rfl,_,rfl⟩⟩
theorem De (h:PA X es t):PE X (.List es pos) (Dy t):=by
 intro pins s σ H Q I hq
 refine wpAny_List_spliced (thn (h pos pins s σ H _ I hq) fun us s1 ⟨xs,H1,I1,r,z,q⟩=>⟨by rw [<- r.length]; exact z,?_⟩)
 have hf:H1 s1.heap.objs.size = none:=I1.hok.fresh (Nat.le_refl _)
 refine ⟨.ref s1.heap.objs.size,upd H1 s1.heap.objs.size (.lst xs),I1.laid (t':=s1.toks) (fun b u e=>Heap.get?_push_of_some _ e) (Nat.le_refl _) ?_,rfl,q _ hf⟩
 exact ⟨z,us,0,r,Heap.get?_push_size _ rfl⟩
end
abbrev Sp:=List V -> Hp -> VK -> XK -> Prop
abbrev CXT:=List Env -> Hp -> Shared -> XK -> Value -> Shared -> Prop
structure u2 (P:Program) (w:World) (K:PySem.W.Frag) (mg:Str -> Option Value) (base:Heap) (A:Around) (outer:List Env) (s:Shared) (H:Hp):Prop where
 frames:A.frames = some outer
 mod:Mod K mg base
 bs:∀ b o,base.get? b = some o -> s.heap.get? b = some o /\ H b = none
 bsz:base.objs.size <= s.heap.objs.size
 qD:s.heap.FunFrames base outer
 frf:∀ b ∈ frs outer,H b = none
 hok:HOk P w H s.heap
 bare:AllBare s.gens
def CE (outer:List Env) (P:Program) (w:World) (H:Hp) (s:Shared) (Q:VK) (u:Value) (s':Shared):Prop:=
 ∃ v H',s'.os = s.os /\ AllBare s'.gens /\ Un (frs outer) [] H H' s.heap s'.heap /\ HOk P w H' s'.heap /\ RelV v u /\ Q v H'
def CR (CX:CXT) (outer:List Env) (P:Program) (w:World) (H:Hp) (s:Shared) (Q:VK) (E:XK) (r:Result) (s':Shared):Prop:=
 match r with
 | .ok (.ret u)=>CE outer P w H s Q u s'
 | .ok _=>False
 | .error e=>CX outer H s E e s'
structure b0 (P:Program) (w:World) (K:PySem.W.Frag) (mg:Str -> Option Value) (base:Heap) (CX:CXT) (k:Nat) (f:Addr) (fd:FuncData) (ps:List Str) (sp:Sp):Prop where
 len:∀ vs H Q E,sp vs H Q E -> vs.length = ps.length
 run:∀ (A:Around) (outer:List Env) (s:Shared) (H:Hp) (args:Args) (us:List Value) (vs:List V) (Q:VK) (E:XK),gj k A -> u2 P w K mg base A outer s H -> BindsTo s fd args (ps.zip us) -> Vals vs us -> sp vs H Q E ->
  codeAny (model P w) A (.call (.ref f) args) (CR CX outer P w H s Q E) s
theorem b0.mono {P:Program} {w:World} {K:PySem.W.Frag} {mg:Str -> Option Value} {base:Heap} {CX:CXT} {j k:Nat} {f:Addr} {fd:FuncData} {ps:List Str} {sp:Sp} (F:b0 P w K mg base CX j f fd ps sp) (h:j <= k):
  b0 P w K mg base CX k f fd ps sp:=⟨F.len,fun A outer s H args us vs Q E hr=>F.run A outer s H args us vs Q E (hr.mono h)⟩
theorem b0.imp {P:Program} {w:World} {K:PySem.W.Frag} {mg:Str -> Option Value} {base:Heap} {CX:CXT} {k:Nat} {f:Addr} {fd:FuncData} {ps:List Str} {sp sp':Sp} (F:b0 P w K mg base CX k f fd ps sp)
  (h:∀ vs H Q E,sp' vs H Q E -> sp vs H Q E):b0 P w K mg base CX k f fd ps sp':=
 ⟨fun vs H Q E q=>F.len vs H Q E (h _ _ _ _ q),fun A outer s H args us vs Q E hr he hb hv hs=>F.run A outer s H args us vs Q E hr he hb hv (h _ _ _ _ hs)⟩
theorem u2.make {P:Program} {w:World} {K:PySem.W.Frag} {mg:Str -> Option Value} {base:Heap} {A:Around} {outer:List Env} {s:Shared} {H:Hp} (e:u2 P w K mg base A outer s H) (C:Addr) (us:List Value) (kw:List (Str × Value)):
  u2 P w K mg base (A.under (.builtin "type.__call__" ⟨.ref C ::us,kw⟩)) outer s H:=⟨by first | exact e.frames | (simpa [Around.under,Code.envs,Code.isFrame,pushEnvs] using e.frames),e.mod,e.bs,e.bsz,e.qD,e.frf,e.hok,e.bare⟩
section
variable {X:Cx} {pins:List (Addr × Obj)} {σ:St} {H:Hp} {s s':Shared}
theorem Inv.Er (I:Inv X pins σ H s):u2 X.prog X.w X.K X.mg X.base X.A X.stack s H:=
 ⟨I.ok.frames,I.ok.mod,I.bs,Nat.le_trans I.ok.bsz I.sz,I.stack,I.sk,I.hok,I.bare⟩
theorem Inv.after {Q:VK} {u:Value} (I:Inv X pins σ H s) (h:CE X.stack X.prog X.w H s Q u s'):EP X pins σ Q u s':=by
 obtain ⟨v,H',os,bare,un,hok,r,q⟩:=h
 obtain ⟨hh,g,d,t,os'⟩:=s'
 obtain rfl:os' = s.os:=os
 exact ⟨v,H',I.call (h':=hh) (g':=g) (d':=d) (t':=t) (ch:=[]) un hok bare (fun b z=>absurd z (by simp)),r,q⟩
end
def yo (C:Addr) (sp:Sp) (dvs:List V) (E:XK) (t:TA):TE:=fun σ H Q=>t σ H fun vs H1=>∀ x dx,H1 x = none -> H1 dx = none -> dx ≠ x ->
 sp (.ref x ::(vs ++ dvs)) (upd (upd H1 dx (.own x)) x (.ins C dx [])) (fun v H2=>v = .non /\ Q (.ref x) H2) E
def Binds (K:PySem.W.Frag) (fd:FuncData) (ps:List Str) (ds:List Value):Prop:=
 ∀ (s:Shared) (us:List Value),K.In s.heap -> (us ++ ds).length = ps.length -> BindsTo s fd ⟨us,[]⟩ (ps.zip (us ++ ds))
theorem Binds.all {K:PySem.W.Frag} {fd:FuncData} {ps:List Str} (h:∀ us:List Value,us.length = ps.length -> bindArgs fd ⟨us,[]⟩ = pure (ps.zip us)):Binds K fd ps []:=fun s us _ hl=>by
 rw [List.append_nil] at hl ⊢
 exact .of_eq (h us hl)
def Passes (CX:CXT) (X:Cx) (E:XK):Prop:=∀ (pins:List (Addr × Obj)) (σ:St) (H:Hp) (s:Shared) (e:Value) (s':Shared),Inv X pins σ H s -> CX X.stack H s E e s' -> X.xe e s'
section
variable {X:Cx} {CX:CXT} {k:Nat} {f C:Addr} {fd:FuncData} {ps:List Str} {sp:Sp} {dvs:List V} {ds:List Value} {E:XK} {x m:Str} {p pos apos:Pos} {e o:Expr} {es:List Expr} {ta:TE} {t:TA}
structure Mk (K:PySem.W.Frag) (C f:Addr):Prop where
 makes:PySem.W.makesIn K C = true
 init:PySem.W.findIn K (.ref C) "__init__" = some (some (.ref f))
 fn:PySem.W.isFn K (.ref f) = true
 kp:PySem.W.keepIn K (.ref C) = true
theorem yB {pins:List (Addr × Obj)} {σ:St} {H:Hp} {s:Shared} {Q:VK} {us:List Value} {vs:List V} (M:Mk X.K C f) (F:b0 X.prog X.w X.K X.mg X.base CX k f fd ps sp) (hr:gj (k + 1) X.A) (hb:Binds X.K fd ps ds) (hd:Vals dvs ds)
  (hx:Passes CX X E) (I:Inv X pins σ H s) (r:Vals vs us)
  (h:∀ x dx,H x = none -> H dx = none -> dx ≠ x -> sp (.ref x ::(vs ++ dvs)) (upd (upd H dx (.own x)) x (.ins C dx [])) (fun v H2=>v = .non /\ Q (.ref x) H2) E):
  wpAny (model X.prog X.w) X.A (call (.ref C) us) (EP X pins σ Q) X.xe s:=by
 have hq:=h (s.heap.objs.size + 1) s.heap.objs.size (I.hok.fresh (Nat.le_succ _)) (I.hok.fresh (Nat.le_refl _)) (Nat.ne_of_lt (Nat.lt_succ_self _))
 have I2:=Inv.made (C:=C) I
 have r2:Vals (V.ref (s.heap.objs.size + 1) ::(vs ++ dvs)) (Value.ref (s.heap.objs.size + 1) ::(us ++ ds)):=.cons rfl (r.append hd)
 have hl:(Value.ref (s.heap.objs.size + 1) ::us ++ ds).length = ps.length:=by
  have e:=r2.length
  rw [F.len _ _ _ _ hq] at e
  exact e.symm
 refine wpAny_call (zP (f:=f) I.kIn M.makes M.init (beq_iff_eq.mp M.fn) (codeAny_mono (F.run _ X.stack _ _ ⟨Value.ref (s.heap.objs.size + 1) ::us,[]⟩ (Value.ref (s.heap.objs.size + 1) ::(us ++ ds)) _ _ E (hr.make C us [])
  (I2.Er.make C us []) (hb _ (Value.ref (s.heap.objs.size + 1) ::us) I2.kIn hl) r2 hq) fun r s' hq'=>?_))
 cases r with
 | error e=>exact hx pins σ _ _ e s' I2 hq'
 | ok fl=>
   cases fl with
   | ret u=>
     obtain ⟨v,H',I3,rv,ev,q3⟩:=I2.after hq'
     subst ev
     exact ⟨rv,⟨V.ref (s.heap.objs.size + 1),H',I3,rfl,q3⟩⟩
   | next=>exact False.elim hq'
   | brk=>exact False.elim hq'
   | cont=>exact False.elim hq'
theorem y6 (M:Mk X.K C f) (F:b0 X.prog X.w X.K X.mg X.base CX k f fd ps sp) (hr:gj (k + 1) X.A) (hg:Gl X x) (hm:X.mg x = some (.ref C)) (hb:Binds X.K fd ps ds) (hd:Vals dvs ds) (hx:Passes CX X E)
  (hdb:(x == ("__debug__":Str)) = false:=by decide):PE X (.Call (.Name x p) [] [] pos) (yo C sp dvs E kU):=by
 intro pins s σ H Q I h
 refine wpAny_Call_Name_kw (mm I hg hm ?_ hdb)
 exact PySem.W.callWith_K0 I.kIn M.kp (yB (us:=[]) M F hr hb hd hx I .nil h)
end
structure aS (N P:List Str) (sc:Scope):Prop where
 kind:sc.kind = .function
 co:sc.isCoroutine = false
 gen:sc.isGenerator = false
 nd:N.Nodup
 pre:N.take P.length = P
 par:∀ x ∈ P,sc.names.lookup x = some .local \/ sc.names.lookup x = some .cell
 nofree:∀ y ∈ sc.names,y.2 ≠ .free
theorem q9 {kindOf:Str -> Option NameKind} {x:Str}:∀ {binds:List (Str × Value)} {m:Str -> Option Value},(∀ v,(x,v) ∉ binds) -> bindL kindOf binds m x = m x
 | [],_,_=>rfl
 | (n,v) ::r,m,h=>by
   unfold bindL
   rw [q9 fun w hw=>h w (List.mem_cons_of_mem _ hw)]
   split
   . have:x ≠ n:=by rintro rfl; exact h v List.mem_cons_self
     simp [this]
   . rfl
theorem rA {kindOf:Str -> Option NameKind} {x:Str}:∀ {binds:List (Str × Value)} {m:Str -> Option Value},(∀ v,(x,v) ∉ binds) -> bindC kindOf binds m x = m x
 | [],_,_=>rfl
 | (n,v) ::r,m,h=>by
   unfold bindC
   rw [rA fun w hw=>h w (List.mem_cons_of_mem _ hw)]
   split
   . rfl
   . have:x ≠ n:=by rintro rfl; exact h v List.mem_cons_self
     simp [this]
theorem rl {kindOf:Str -> Option NameKind} {x:Str} {v:Value}:∀ {P:List Str} {vs:List Value} {i:Nat} {m:Str -> Option Value},P.Nodup -> P[i]? = some x -> vs[i]? = some v -> kindOf x = some .local ->
  bindL kindOf (P.zip vs) m x = some v
 | [],_,_,_,_,h,_,_=>by simp at h
 | _ ::_,[],_,_,_,_,h,_=>by simp at h
 | p ::P,w ::vs,0,m,nd,h1,h2,hk=>by
   simp at h1 h2; subst h1; subst h2
   show bindL kindOf ((p,w) ::P.zip vs) m p = _
   unfold bindL
   rw [q9 fun v hv=>(List.nodup_cons.mp nd).1 (List.of_mem_zip hv).1,if_pos hk]
   simp
 | p ::P,w ::vs,i + 1,m,nd,h1,h2,hk=>by
   show bindL kindOf ((p,w) ::P.zip vs) m x = _
   unfold bindL
   exact rl (i:=i) (List.nodup_cons.mp nd).2 (by simpa using h1) (by simpa using h2) hk
theorem qY {kindOf:Str -> Option NameKind} {x:Str} {v:Value}:∀ {P:List Str} {vs:List Value} {i:Nat} {m:Str -> Option Value},P.Nodup -> P[i]? = some x -> vs[i]? = some v -> kindOf x ≠ some .local ->
  bindC kindOf (P.zip vs) m x = some v
 | [],_,_,_,_,h,_,_=>by simp at h
 | _ ::_,[],_,_,_,_,h,_=>by simp at h
 | p ::P,w ::vs,0,m,nd,h1,h2,hk=>by
   simp at h1 h2; subst h1; subst h2
   show bindC kindOf ((p,w) ::P.zip vs) m p = _
   unfold bindC
   rw [rA fun v hv=>(List.nodup_cons.mp nd).1 (List.of_mem_zip hv).1,if_neg hk]
   simp
 | p ::P,w ::vs,i + 1,m,nd,h1,h2,hk=>by
   show bindC kindOf ((p,w) ::P.zip vs) m x = _
   unfold bindC
   exact qY (i:=i) (List.nodup_cons.mp nd).2 (by simpa using h1) (by simpa using h2) hk
def start (N:List Str) (vs:List V):St:=vs.map some ++ List.replicate (N.length - vs.length) none
def nL (CX:CXT) (P:Program) (w:World) (K:PySem.W.Frag) (mg:Str -> Option Value) (base:Heap) (N:List Str) (qual:Str) (scope:Scope) (f:Addr) (cd:Value) (A:Around) (outer:List Env) (s:Shared) (H:Hp) (E:XK):Cx where
 prog:=P
 w:=w
 K:=K
 mg:=mg
 base:=base
 A:=A.deeper (envOfC qual scope s.heap.objs.size f cd)
 N:=N
 s₀:=s
 H₀:=H
 env:=envOfC qual scope s.heap.objs.size f cd
 outer:=outer
 stack:=envOfC qual scope s.heap.objs.size f cd ::outer
 ex:=[]
 calm:=true
 fn:=fun _=>true
 pn:=[]
 xe:=fun e s'=>wpAny (model P w) (A.deeper (envOfC qual scope s.heap.objs.size f cd)) (leaving (envOfC qual scope s.heap.objs.size f cd) e) (fun _ s''=>CX outer H s E e s'') (fun e' s''=>CX outer H s E e' s'') s'
theorem tV {sc:Scope} {n:Nat} {x:Str} (h:sc.names.lookup x = some .cell):∃ c,(cellsFrom n sc.names []).lookup x = some c:=by
 have q:=PySem.W.cellsFrom_some sc.names n [] (.inl h)
 exact Option.isSome_iff_exists.mp q
theorem xt {CX:CXT} {P:Program} {w:World} {K:PySem.W.Frag} {mg:Str -> Option Value} {base:Heap} {N ps:List Str} {qual:Str} {scope:Scope} {f:Addr} {cd:Value} {A:Around} {outer:List Env} {s s1:Shared} {H:Hp} {E:XK} {us:List Value} {vs:List V}
  (S:aS N ps scope) (hd:A.handled = none) (e0:u2 P w K mg base A outer s H) (hl:vs.length = ps.length) (r:Vals vs us)
  (x:InCallC s s.heap.objs.size (bindL (envOfC qual scope s.heap.objs.size f cd).kindOf (ps.zip us) fun _=>none) (cellsFrom (s.heap.objs.size + 1) scope.names []) (bindC (envOfC qual scope s.heap.objs.size f cd).kindOf (ps.zip us) fun _=>none) s1):
  Inv (nL CX P w K mg base N qual scope f cd A outer s H E) [] (start N vs) H s1:=by
 have hpl:ps.length <= N.length:=by have:=congrArg List.length S.pre; rw [List.length_take] at this; omega
 obtain ⟨h1,tk,rfl,hk⟩:=x.done
 have noA:∀ b:Addr,b ∉ (nL CX P w K mg base N qual scope f cd A outer s H E).ex:=fun b z=>absurd (show b ∈ ([]:List Addr) from z) (by simp)
 refine ⟨⟨e0.mod,S.kind,rfl,rfl,Nat.le_refl _,fun y z c h1 h2=>?_,fun y hy=>?_,fun y c _ h=>?_,fun _=>hd,Around.frames_deeper e0.frames,.inr ⟨rfl,rfl⟩,fun b z=>absurd z (noA b),e0.bs,e0.bsz,fun b _ _=>noA b,fun b z=>absurd z (noA b),e0.qD,e0.frf⟩,
  rfl,e0.bare,Un.kept hk,⟨_,x.toInCall.ns,fun i y v h1 h2 h3=>?_⟩,fun y c h=>⟨_,x.cell y c h⟩,e0.hok.fresh (Nat.le_refl _),fun y c h=>?_,fun p hp=>absurd (show p ∈ ([]:List (Addr × Obj)) from hp) (by simp),e0.hok.kept hk,?_⟩
 . exact name_of_addr x.apart (PySem.mem_of_lookup h1) (PySem.mem_of_lookup h2)
 . have hy:scope.names.lookup y = some .cell \/ scope.names.lookup y = some .free:=hy
   rcases hy with hy | hy
   . exact tV hy
   . exact absurd rfl (S.nofree _ (PySem.mem_of_lookup hy))
 . exact Nat.le_of_lt (x.above y c (PySem.mem_of_lookup h))
 . have hi:i < vs.length:=by
    unfold start at h2
    by_cases hi:i < vs.length
    . exact hi
    . rw [List.getElem?_append_right (by simpa using hi)] at h2
      rw [List.getElem?_replicate] at h2
      split at h2 <;> cases h2
   have ha:vs[i]? = some v:=by
    unfold start at h2
    rw [List.getElem?_append_left (by simpa using hi),List.getElem?_map] at h2
    cases e:vs[i]? with
    | none=>rw [e] at h2; cases h2
    | some a=>rw [e] at h2; cases h2; rfl
   obtain ⟨u,hu,rv⟩:=r.get ha
   have hp:ps[i]? = some y:=by
    rw [<- S.pre,List.getElem?_take_of_lt (by omega)]; exact h1
   have ndP:ps.Nodup:=by rw [<- S.pre]; exact S.nd.sublist (List.take_sublist _ _)
   refine ⟨u,rv,?_⟩
   rcases S.par y (List.mem_of_getElem? hp) with k | k
   . exact .inl ⟨k,rl ndP hp hu k⟩
   . obtain ⟨c,e⟩:=tV (n:=s.heap.objs.size + 1) k
     refine .inr ⟨.inl k,c,e,?_⟩
     have q:=x.cell y c e
     rw [qY ndP hp hu (by show scope.names.lookup y ≠ _; rw [k]; decide)] at q
     exact q
 . exact e0.hok.fresh (Nat.le_of_lt (x.above y c (PySem.mem_of_lookup h)))
 . unfold start
   show _ = N.length
   rw [List.length_append,List.length_map,List.length_replicate]
   omega
theorem E4 {CX:CXT} {P:Program} {w:World} {K:PySem.W.Frag} {mg:Str -> Option Value} {base:Heap} {k:Nat} {f:Addr} {name qual:Str} {params:Arguments} {body:List Stmt} {scope:Scope} {dV kV doc pm cdv ct oc:Value} {an od:Option Addr}
  {osl:Array (Option Value)} {N ps:List Str} {sp:Sp} (lk:K.lookup f = some ⟨oc,od,.func (PySem.W.fnOf name qual params body scope dV kV doc pm an cdv ct),osl⟩) (hcd:PySem.W.codeIn K cdv qual = true) (S:aS N ps scope)
  (len:∀ vs H Q E,sp vs H Q E -> vs.length = ps.length)
  (hbody:∀ (A:Around) (outer:List Env) (s:Shared) (H:Hp) (vs:List V) (Q:VK) (E:XK),gj k (A.deeper (envOfC qual scope s.heap.objs.size f cdv)) -> sp vs H Q E ->
    ∃ t,PSs (nL CX P w K mg base N qual scope f cdv A outer s H E) body t /\ t { nx:=fun _ H'=>Q .non H',rt:=Q } (start N vs) H):
  b0 P w K mg base CX (k + 1) f (PySem.W.fnOf name qual params body scope dV kV doc pm an cdv ct) ps sp:=by
 refine ⟨len,fun A outer s H args us vs Q E hr e0 hb r hsp=>?_⟩
 have hl:=len _ _ _ _ hsp
 have KX:K.In s.heap:=e0.mod.kin.keeps fun b o e=>(e0.bs b o e).1
 have lim:s.heap.NoLimit:=e0.mod.nolimit.keeps fun b o e=>(e0.bs b o e).1
 have hkind:∀ y ∈ ps.zip us,scope.names.lookup y.1 = some .local \/ (scope.names.lookup y.1 = some .cell /\ ((cellsFrom (s.heap.objs.size + 1) scope.names []).lookup y.1).isSome = true):=fun ⟨n,v⟩ hy=>by
  rcases S.par n (List.of_mem_zip hy).1 with q | q
  . exact .inl q
  . exact .inr ⟨q,PySem.W.cellsFrom_some _ _ _ (.inl q)⟩
 refine codeAny_call_function hr.depth (KX _ _ lk) rfl S.co S.gen rfl (PySem.W.codeRec_of KX hcd) (hb _ _ _ _ ?_)
 refine wpAny_newFunctionEnv_cells S.kind hkind fun env he s1 x=>?_
 subst he
 refine ⟨lim.keeps x.toInCall.keep,codeAny_func ?_⟩
 obtain ⟨t,ht,hq⟩:=hbody A outer s H vs Q E (hr.deeper _) hsp
 have I:Inv (nL CX P w K mg base N qual scope f cdv A outer s H E) [] (start N vs) H s1:=xt S hr.hd e0 hl r x
 refine wpAny_mono (ht [] s1 (start N vs) H _ I hq) (fun fl s' hs=>?_) fun e s' hs=>hs
 have fin:∀ {σ':St} {H':Hp} {v:V} {u:Value},Inv (nL CX P w K mg base N qual scope f cdv A outer s H E) [] σ' H' s' -> RelV v u -> Q v H' -> CE outer P w H s Q u s':=
  fun {σ' H' v u} J rv q=>⟨v,H',J.os,J.bare,J.base,J.hok,rv,q⟩
 cases fl with
 | ret u=>
   obtain ⟨v,σ',H',J,rv,q⟩:=hs
   exact fin J rv q
 | next=>
   obtain ⟨σ',H',J,q⟩:=hs
   exact fin (v:=V.non) (u:=Value.none) J rfl q
 | brk=>
   obtain ⟨_,_,_,q⟩:=hs
   exact False.elim q
 | cont=>
   obtain ⟨_,_,_,q⟩:=hs
   exact False.elim q
end L2
namespace L2
open PySem PySem.Spec PyProof.Rows
section
variable {X:Cx} {x:Str} {p pos:Pos} {e:Expr} {es:List Expr} {t:TA} {id T:String} {r:List V -> Hp -> VK -> Prop}
def tCB (r:List V -> Hp -> VK -> Prop) (t:TA):TE:=fun σ H Q=>t σ H fun vs H1=>r vs H1 Q
theorem zY (hc:qQ X (.builtin id) r) (hg:Gl X x) (hm:X.mg x = none) (hv:bootBuiltins x = some (.builtin id)) (ha:PA X (e ::es) t) (hn:x ≠ "__name__":=by decide) (hdb:(x == ("__debug__":Str)) = false:=by decide)
  (he:starEach (e ::es) X.env = (false,eval e X.env) ::starEach es X.env:=by rfl) (hpl:(backTo pos (starEach es X.env)).any (·.1) = false:=by rfl):PE X (.Call (.Name x p) (e ::es) [] pos) (tCB r t):=by
 intro pins s σ H Q I h
 refine wpAny_Call_Name_kw (rZ I hg hm hv ?_ hn hdb)
 exact PyProof.Rows.callWith_builtin1 (thn (ha pos pins s σ H _ I h) fun us s1 ⟨vs,H1,I1,r1,q1⟩=>hc pins s1 σ H1 vs us Q I1 r1 q1) he hpl
end
end L2
namespace HT
open PySem PyProof.Rows
section
open PySem.SeqAt
open PySem.AutoSeq1 (wpAny_loadPart')
open PySem.MeetsSeq PySem.MeetsSeq2 PySem.MeetsSeq3
end
section
variable {prog:Program} {w:World} {A:Around} {E:Value -> Shared -> Prop} {s:Shared}
def sIx (n d:Nat):Option Int -> Nat
 | none=>d
 | some v=>if v < 0 then (v + (n:Int)).toNat else min v.toNat n
end
end HT
namespace L2
open PySem PySem.Spec PyProof.Rows
abbrev TO:=St -> Hp -> (Option Int -> Hp -> Prop) -> Prop
def PO (X:Cx) (e:Option Expr) (t:TO):Prop:=
 ∀ (pins:List (Addr × Obj)) (s:Shared) (σ:St) (H:Hp) (Q:Option Int -> Hp -> Prop),Inv X pins σ H s -> t σ H Q ->
   wpAny (model X.prog X.w) X.A (evalPart e X.env) (fun u s'=>∃ o H',Inv X pins σ H' s' /\ IsPart u o /\ Q o H') X.xe s
def tH:TO:=fun _ H Q=>Q none H
def zu (t:TE):TO:=fun σ H Q=>t σ H fun x H1=>∃ i,x = .int i /\ Q (some i) H1
section
variable {X:Cx} {e:Expr} {te:TE} {lo hi:Option Expr} {tl th:TO} {pos p2:Pos}
theorem Bt:PO X none tH:=by
 intro pins s σ H Q I h
 rw [evalPart_none]
 exact wpAny_pure ⟨none,H,I,.none,h⟩
theorem Bf (h:PE X e te):PO X (some e) (zu te):=by
 intro pins s σ H Q I hw
 rw [evalPart_some]
 refine thn (h pins s σ H _ I hw) fun u s1 ⟨x,H1,I1,r1,q1⟩=>?_
 obtain ⟨i,rfl,q⟩:=q1
 obtain ⟨t,rfl⟩:=r1
 exact ⟨some i,H1,I1,.int i t,q⟩
def SlR (X:Cx) (r:V -> Option Int -> Option Int -> Hp -> VK -> Prop):Prop:=
 ∀ (pins:List (Addr × Obj)) (s:Shared) (σ:St) (H:Hp) (x:V) (v vl vu:Value) (lo hi:Option Int) (sl:Addr) (Q:VK),Inv X pins σ H s -> RelV x v -> s.heap.IsSliceOf sl vl vu .none -> IsPart vl lo -> IsPart vu hi -> r x lo hi H Q ->
   ∃ T id,typeLookup (.type T) "__getitem__" = pure (some (.builtin id)) /\ s.TypeIs v T /\ wpAny (model X.prog X.w) X.A (getItem v (.ref sl)) (EP X pins σ Q) X.xe s
def tSl (r:V -> Option Int -> Option Int -> Hp -> VK -> Prop) (te:TE) (tl th:TO):TE:=fun σ H Q=>te σ H fun x H1=>tl σ H1 fun l H2=>th σ H2 fun u H3=>r x l u H3 Q
theorem Ag {r:V -> Option Int -> Option Int -> Hp -> VK -> Prop} (hr:SlR X r) (he:PE X e te) (hl:PO X lo tl) (hu:PO X hi th):PE X (.Subscript e (.Slice lo hi none p2) pos) (tSl r te tl th):=by
 intro pins s σ H Q I h
 refine Subscript_ (thn (he pins s σ H _ I h) fun v s1 ⟨x,H1,I1,r1,q1⟩=>?_)
 refine wpAny_Slice (thn (hl pins s1 σ H1 _ I1 q1) fun vl s2 ⟨l,H2,I2,pl,q2⟩=>thn (hu pins s2 σ H2 _ I2 q2) fun vu s3 ⟨u,H3,I3,pu,q3⟩=>?_)
 rw [evalPart_none]
 refine wpAny_pure ?_
 have I4:Inv X pins σ H3 { s3 with heap:=s3.heap.push { cls:=.type "slice",data:=.fields #[vl,vu,.none] } }:=I3.kept (t':=s3.toks) fun b ob q=>Heap.get?_push_of_some _ q
 obtain ⟨T,id,hT,ht,hg⟩:=hr pins { s3 with heap:=s3.heap.push { cls:=.type "slice",data:=.fields #[vl,vu,.none] } } σ H3 x v vl vu l u s3.heap.objs.size Q I4 r1 (Heap.IsSliceOf.new ..) pl pu q3
 show wpAny (model X.prog X.w) X.A (subscriptTail e (.Slice lo hi none p2) v (.ref s3.heap.objs.size)) (EP X pins σ Q) X.xe { s3 with heap:=s3.heap.push { cls:=.type "slice",data:=.fields #[vl,vu,.none] } }
 exact tail_any (ops:=[.ref s3.heap.objs.size,v]) ht hT hg (by with_unfolding_all rfl)
def xg (xs:List V) (lo hi:Option Int):List V:=(xs.drop (HT.sIx xs.length 0 lo)).take (HT.sIx xs.length xs.length hi - HT.sIx xs.length 0 lo)
theorem tM (xs:List V) (lo hi:Option Int):(xg xs lo hi).length <= xs.length:=by
 unfold xg
 rw [List.length_take,List.length_drop]
 omega
end
end L2
namespace L2
open PySem PySem.Spec PyProof.Rows
def ixN (n:Nat) (i:Int):Option Nat:=if 0 <= i then (if i < n then some i.toNat else none) else if -(n:Int) <= i then some (i + n).toNat else none
def atI {α:Type} (xs:List α) (i:Int):Option α:=(ixN xs.length i).bind fun j=>xs[j]?
theorem wU {n:Nat} {i:Int} {j:Nat} (h:ixN n i = some j):seqIndex? i n = some j /\ j < n /\ -(n:Int) <= i /\ i < n:=by
 unfold ixN at h
 by_cases h0:0 <= i
 . rw [if_pos h0] at h
   by_cases h1:i < n
   . rw [if_pos h1] at h
     have e:i.toNat = j:=Option.some.inj h
     exact ⟨by rw [seqIndex_of h0 h1,e],by omega,by omega,h1⟩
   . rw [if_neg h1] at h; cases h
 . rw [if_neg h0] at h
   by_cases h1:-(n:Int) <= i
   . rw [if_pos h1] at h
     have e:(i + n).toNat = j:=Option.some.inj h
     exact ⟨by rw [seqIndex_neg (by omega) h1,e],by omega,h1,by omega⟩
   . rw [if_neg h1] at h; cases h
theorem wF {α:Type} {xs:List α} {i:Int} {v:α} (h:atI xs i = some v):∃ j,seqIndex? i xs.length = some j /\ xs[j]? = some v /\ j < xs.length /\ -(xs.length:Int) <= i /\ i < xs.length:=by
 unfold atI at h
 cases e:ixN xs.length i with
 | none=>rw [e] at h; cases h
 | some j=>
   rw [e] at h
   obtain ⟨h1,h2,h3,h4⟩:=wU e
   exact ⟨j,h1,h,h2,h3,h4⟩
def wR (b:Expr):Prop:=∀ o i,subscripted b false o i = operate [o,i] (getItem o i)
def IxR (X:Cx) (r:R2):Prop:=
 ∀ (value slice:Expr) (pins:List (Addr × Obj)) (s:Shared) (σ:St) (H:Hp) (x y:V) (v u:Value) (Q:VK),Inv X pins σ H s -> RelV x v -> RelV y u -> r x y H Q ->
   subscripted slice false v u = operate [v,u] (getItem v u) -> wpAny (model X.prog X.w) X.A (subscriptTail value slice v u) (EP X pins σ Q) X.xe s
def MtR (X:Cx) (id:String) (r:V -> List V -> Hp -> VK -> Prop):Prop:=
 ∀ (pins:List (Addr × Obj)) (s:Shared) (σ:St) (H:Hp) (x:V) (xs:List V) (v:Value) (us:List Value) (Q:VK),Inv X pins σ H s -> RelV x v -> Vals xs us -> r x xs H Q ->
   wpAny (model X.prog X.w) X.A (call (.builtin id) (v ::us)) (EP X pins σ Q) X.xe s
section
variable {X:Cx} {a b:Expr} {ta tb:TE} {pos:Pos}
theorem Fi {r:R2} (hr:IxR X r) (ha:PE X a ta) (hb:PE X b tb) (hs:wR b):PE X (.Subscript a b pos) (tOp r ta tb):=by
 intro pins s σ H Q I h
 exact Subscript_ (DY ha hb I h fun v u s2 x y H2 I2 rx ry q=>hr a b pins s2 σ H2 x y v u Q I2 rx ry q (hs _ _))
def FL (K:PySem.W.Frag):R2:=fun x y H Q=>∃ p xs i v,x = .ref p /\ y = .int i /\ SqL K H p xs /\ atI xs i = some v /\ Q v H
def Fh (K:PySem.W.Frag):R2:=fun x y H Q=>∃ p xs i v,x = .ref p /\ y = .int i /\ SqT K H p xs /\ atI xs i = some v /\ Q v H
theorem eh:IxR X (FL X.K):=by
 intro value slice pins s σ H x y v u Q I rx ry h hs
 obtain ⟨p,xs,i,z,rfl,rfl,hq,he,q⟩:=h
 cases rx
 obtain ⟨t,rfl⟩:=ry
 obtain ⟨its,r,pl,hz⟩:=I.list hq
 obtain ⟨j,h1,h2,h3,h4,h5⟩:=wF he
 obtain ⟨w,ew,rw'⟩:=r.get h2
 have hl:=r.length
 have hn:=pK
 have fin:EP X pins σ Q w s:=⟨z,H,I,rw',q⟩
 by_cases h0:0 <= i
 . have hj:i.toNat = j:=by
    rw [seqIndex_of h0 h5] at h1
    exact Option.some.inj h1
   exact item_listR pl.isList h0 (by omega) (by rw [hj]; simpa using ew) fin hs
 . have hj:(i + (its.toArray.size:Int)).toNat = j:=by
    rw [seqIndex_neg (by omega) h4] at h1
    rw [List.size_toArray,<- hl]
    exact Option.some.inj h1
   exact subscriptTail_builtinR (x:=w) pl.isList.typeIs slot_list_getitem.lookup
    (wpAny_getItem_list_neg (Q:=fun r s'=>r = w /\ EP X pins σ Q r s') pl.isList (by omega) (by rw [List.size_toArray] <;> omega) (by omega) (by rw [hj]; simpa using ew) ⟨rfl,fin⟩) hs
theorem fP:IxR X (Fh X.K):=by
 intro value slice pins s σ H x y v u Q I rx ry h hs
 obtain ⟨p,xs,i,z,rfl,rfl,hq,he,q⟩:=h
 cases rx
 obtain ⟨t,rfl⟩:=ry
 obtain ⟨its,r,pl,hz⟩:=I.tuple hq
 obtain ⟨j,h1,h2,h3,h4,h5⟩:=wF he
 obtain ⟨w,ew,rw'⟩:=r.get h2
 have hl:=r.length
 have hn:=pK
 have fin:EP X pins σ Q w s:=⟨z,H,I,rw',q⟩
 exact subscriptTail_builtinR (x:=w) pl.typeIs slot_tuple_getitem.lookup
  (getItem_tuple (j:=j) (Q:=fun r s'=>r = w /\ EP X pins σ Q r s') pl (by omega) (by omega) (by rw [List.size_toArray,<- hl]; exact h1) (by simpa using ew) ⟨rfl,fin⟩) hs
theorem vk (its:List Value) (n j:Nat) (u:Value):Obj.mapSeq (·.setIfInBounds j u) { cls:=.type "list",data:=.seq its.toArray n } = { cls:=.type "list",data:=.seq (its.set j u).toArray n }:=by
 simp [Obj.mapSeq]
theorem Inv.lst {pins:List (Addr × Obj)} {σ:St} {H:Hp} {s:Shared} {p:Addr} {xs:List V} (I:Inv X pins σ H s) (h:H p = some (.lst xs)):
  ∃ (its:List Value) (n:Nat),Vals xs its /\ s.heap.get? p = some { cls:=.type "list",data:=.seq its.toArray n } /\ xs.length <= sizeLine:=by
 obtain ⟨z,its,n,r,e⟩:=I.hok p _ h
 exact ⟨its,n,r,e,z⟩
theorem Inv.Ex {pins:List (Addr × Obj)} {σ:St} {H:Hp} {s:Shared} {p:Addr} {xs ys:List V} {its its':List Value} {n n':Nat} {f:Obj -> Obj} (I:Inv X pins σ H s) (h:H p = some (.lst xs))
  (ho:s.heap.get? p = some { cls:=.type "list",data:=.seq its.toArray n }) (hf:f { cls:=.type "list",data:=.seq its.toArray n } = { cls:=.type "list",data:=.seq its'.toArray n' }) (r:Vals ys its') (hz:ys.length <= sizeLine) (t:Nat):
  Inv X pins σ (upd H p (.lst ys)) { s with heap:=s.heap.update p f,toks:=t }:=by
 have e:(s.heap.update p f).get? p = some { cls:=.type "list",data:=.seq its'.toArray n' }:=by
  rw [Heap.get?_update_self f ho (by rw [hf] <;> rfl),hf]
 refine I.write (x:=p) (e:=p) (by rw [h]; trivial) (.inl rfl) (fun b u hb q=>(Heap.get?_update_other _ _ (Ne.symm hb)).trans q) ⟨_,e⟩ ?_
 exact ⟨hz,its',n',r,e⟩
def BY:V -> V -> V -> Hp -> (Hp -> Prop) -> Prop:=fun o i v H Q=>∃ p xs k j,o = .ref p /\ i = .int k /\ H p = some (.lst xs) /\ ixN xs.length k = some j /\ Q (upd H p (.lst (xs.set j v)))
theorem set_list:Es X BY:=by
 intro pins s σ H o i v ov iv u Q I ro ri rv h
 obtain ⟨p,xs,k,j,rfl,rfl,hp,hj,q⟩:=h
 cases ro
 obtain ⟨t,rfl⟩:=ri
 obtain ⟨its,n,r,ho,hz⟩:=I.lst hp
 obtain ⟨h1,h2,h3,h4⟩:=wU hj
 have hl:=r.length
 have hn:=pK
 have I':Inv X pins σ (upd H p (.lst (xs.set j v))) { s with heap:=s.heap.update p (Obj.mapSeq (·.setIfInBounds j u)) }:=
  I.Ex hp ho (vk its n j u) (r.set rv j) (by rw [List.length_set]; exact hz) s.toks
 by_cases h0:0 <= k
 . have hk:k.toNat = j:=by
    rw [seqIndex_of h0 h4] at h1
    exact Option.some.inj h1
   exact PySem.W.ki_setAt ho h0 (by omega) (by rw [List.size_toArray,<- hl]; exact h4) (by rw [hk]; exact ⟨_,I',q⟩)
 . have hk:(k + (its.toArray.size:Int)).toNat = j:=by
    rw [seqIndex_neg (by omega) h3] at h1
    rw [List.size_toArray,<- hl]
    exact Option.some.inj h1
   exact PySem.W.ki_setBack ho (by omega) (by rw [List.size_toArray,<- hl]; exact h3) (by omega) (by rw [hk]; exact ⟨_,I',q⟩)
theorem tm (lo hi:Option Int) (n:Nat):(sliceBounds lo hi none n).1 = ((HT.sIx n 0 lo:Nat):Int) /\ (sliceBounds lo hi none n).2.1 = ((HT.sIx n n hi:Nat):Int) /\ (sliceBounds lo hi none n).2.2 = 1:=by
 refine ⟨?_,?_,rfl⟩
 . cases lo with
   | none=>simp [sliceBounds,HT.sIx]
   | some i=>
     simp only [sliceBounds,HT.sIx,Option.getD_none,show (1:Int) > 0 by decide,if_true]
     by_cases h:i < 0
     . simp only [h,if_true] <;> omega
     . simp only [h,if_false] <;> omega
 . cases hi with
   | none=>simp [sliceBounds,HT.sIx]
   | some i=>
     simp only [sliceBounds,HT.sIx,Option.getD_none,show (1:Int) > 0 by decide,if_true]
     by_cases h:i < 0
     . simp only [h,if_true] <;> omega
     . simp only [h,if_false] <;> omega
theorem qG (its:List Value) (lo hi:Option Int):slicePick its.toArray lo hi none = ((its.drop (HT.sIx its.length 0 lo)).take (HT.sIx its.length its.length hi - HT.sIx its.length 0 lo)).toArray:=by
 obtain ⟨h1,h2,h3⟩:=tm lo hi its.toArray.size
 unfold slicePick
 rw [h1,h2,h3]
 simp only [sliceRange_one,pick_run,List.size_toArray] <;> rfl
def Ff (K:PySem.W.Frag):V -> Option Int -> Option Int -> Hp -> VK -> Prop:=fun x lo hi H Q=>∃ a xs,x = .ref a /\ SqL K H a xs /\ ∀ p,H p = none -> Q (.ref p) (upd H p (.lst (xg xs lo hi)))
theorem ku:SlR X (Ff X.K):=by
 intro pins s σ H x v vl vu lo hi sl Q I rx hs pl pu h
 obtain ⟨a,xs,rfl,hx,q⟩:=h
 cases rx
 obtain ⟨its,r,ht,hz⟩:=I.list hx
 have hlen:=r.length
 refine ⟨"list",_,slot_list_getitem.lookup,ht.isList.typeIs,?_⟩
 refine wpAny_getItem_list_slice ht.isList hs pl pu .none (by simp) ?_ (by rw [List.size_toArray] <;> omega)
 rw [qG,<- hlen]
 refine ⟨.ref s.heap.objs.size,_,I.laid (t':=s.toks) (o:=.lst (xg xs lo hi)) (fun b ob q=>Heap.get?_push_of_some _ q) (Nat.le_refl _) ?_,rfl,q _ (I.hok.fresh (Nat.le_refl _))⟩
 exact ⟨Nat.le_trans (tM xs lo hi) hz,_,0,(r.drop (HT.sIx xs.length 0 lo)).take (HT.sIx xs.length xs.length hi - HT.sIx xs.length 0 lo),Heap.get?_push_size _ rfl⟩
def mU:V -> Bool
 | .non=>true
 | .bl _=>true
 | .int _=>true
 | .str _=>true
 | _=>false
def eqV:V -> V -> Bool
 | .non,.non=>true
 | .bl a,.bl b=>a == b
 | .bl a,.int b=>(if a then 1 else 0) == b
 | .int a,.bl b=>a == (if b then 1 else 0)
 | .int a,.int b=>a == b
 | .str a,.str b=>a == b
 | _,_=>false
theorem DA {A:Around} {s:Shared} {y x:V} {u v:Value} (ry:RelV y u) (rx:RelV x v) (fy:mU y = true) (fx:mU x = true):SeqAt.EqAt A s u v (eqV y x):=by
 cases y with
 | non=>
   cases ry
   cases x with
   | non=>cases rx; exact SeqAt.EqAt.same _
   | bl b=>cases rx; exact SeqAt.EqAt.none_bool b
   | int b=>obtain ⟨t,rfl⟩:=rx; exact SeqAt.EqAt.none_int b t
   | str b=>obtain ⟨t,rfl⟩:=rx; exact SeqAt.EqAt.none_str b t
   | _=>exact absurd (show false = true from fx) Bool.false_ne_true
 | bl a=>
   cases ry
   cases x with
   | non=>cases rx; exact SeqAt.EqAt.bool_none a
   | bl b=>cases rx; exact SeqAt.EqAt.bool_bool a b
   | int b=>obtain ⟨t,rfl⟩:=rx; exact SeqAt.EqAt.bool_int a b t
   | str b=>obtain ⟨t,rfl⟩:=rx; exact SeqAt.EqAt.bool_str a b t
   | _=>exact absurd (show false = true from fx) Bool.false_ne_true
 | int a=>
   obtain ⟨t',rfl⟩:=ry
   cases x with
   | non=>cases rx; exact SeqAt.EqAt.int_none a t'
   | bl b=>cases rx; exact SeqAt.EqAt.int_bool a t' b
   | int b=>obtain ⟨t,rfl⟩:=rx; exact SeqAt.EqAt.int_int a t' b t
   | str b=>obtain ⟨t,rfl⟩:=rx; exact SeqAt.EqAt.int_str a t' b t
   | _=>exact absurd (show false = true from fx) Bool.false_ne_true
 | str a=>
   obtain ⟨t',rfl⟩:=ry
   cases x with
   | non=>cases rx; exact SeqAt.EqAt.str_none a t'
   | bl b=>cases rx; exact SeqAt.EqAt.str_bool a t' b
   | int b=>obtain ⟨t,rfl⟩:=rx; exact SeqAt.EqAt.str_int a t' b t
   | str b=>obtain ⟨t,rfl⟩:=rx; exact SeqAt.EqAt.str_str a t' b t
   | _=>exact absurd (show false = true from fx) Bool.false_ne_true
 | _=>exact absurd (show false = true from fy) Bool.false_ne_true
def eqU (x:V) (u:Value):Bool:=match u with
 | .none=>eqV .non x
 | .bool b=>eqV (.bl b) x
 | .int i _=>eqV (.int i) x
 | .str z _=>eqV (.str z) x
 | _=>false
theorem ya {x y:V} {u:Value} (r:RelV y u) (f:mU y = true):eqU x u = eqV y x:=by
 cases y with
 | non=>cases r; rfl
 | bl b=>cases r; rfl
 | int i=>obtain ⟨t,rfl⟩:=r; rfl
 | str z=>obtain ⟨t,rfl⟩:=r; rfl
 | _=>exact absurd (show false = true from f) Bool.false_ne_true
theorem nI {x:V}:∀ {xs:List V} {us:List Value},Vals xs us -> xs.all mU = true -> us.any (eqU x) = xs.any fun y=>eqV y x
 | _,_,.nil,_=>rfl
 | y ::xs,u ::us,.cons r t,f=>by
   rw [List.all_cons,Bool.and_eq_true] at f
   rw [List.any_cons,List.any_cons,ya r f.1,nI t f.2]
theorem lP {A:Around} {s:Shared} {x:V} {v:Value} (rx:RelV x v) (fx:mU x = true):∀ {xs:List V} {us:List Value},Vals xs us -> xs.all mU = true -> ∀ u ∈ us,SeqAt.EqAt A s u v (eqU x u)
 | _,_,.nil,_=>fun u hu=>by cases hu
 | y ::xs,u ::us,.cons r t,f=>fun u' hu=>by
   rw [List.all_cons,Bool.and_eq_true] at f
   rcases List.mem_cons.mp hu with rfl | hu
   . rw [ya r f.1]; exact DA r rx f.1 fx
   . exact lP rx fx t f.2 u' hu
def inV (x:V) (xs:List V):Bool:=xs.any fun y=>eqV y x
def rIn (K:PySem.W.Frag) (neg:Bool):R2:=fun x y H Q=>∃ p xs,y = .ref p /\ (SqL K H p xs \/ SqT K H p xs) /\ mU x = true /\ xs.all mU = true /\ Q (.bl (if neg then !inV x xs else inV x xs)) H
theorem xO:OpR X (compareOp .In) (rIn X.K false):=by
 intro pins s σ H x y v u Q I rx ry h
 obtain ⟨p,xs,rfl,hq,fx,fs,q⟩:=h
 cases ry
 rcases hq with hq | hq
 . obtain ⟨its,r,pl,hz⟩:=I.list hq
   refine SeqAt.in_listAt (eqU x) pl.isList (fun w hw=>lP rx fx r fs w (by simpa using hw)) ⟨.bl _,H,I,rfl,?_⟩
   rw [show its.toArray.any (eqU x) = its.any (eqU x) by simp,nI r fs]
   exact q
 . obtain ⟨its,r,pl,hz⟩:=I.tuple hq
   refine SeqAt.in_tupleAt (eqU x) pl (fun w hw=>lP rx fx r fs w (by simpa using hw)) ⟨.bl _,H,I,rfl,?_⟩
   rw [show its.toArray.any (eqU x) = its.any (eqU x) by simp,nI r fs]
   exact q
theorem sW:OpR X (compareOp .NotIn) (rIn X.K true):=by
 intro pins s σ H x y v u Q I rx ry h
 obtain ⟨p,xs,rfl,hq,fx,fs,q⟩:=h
 cases ry
 rcases hq with hq | hq
 . obtain ⟨its,r,pl,hz⟩:=I.list hq
   refine SeqAt.notIn_listAt (eqU x) pl.isList (fun w hw=>lP rx fx r fs w (by simpa using hw)) ⟨.bl _,H,I,rfl,?_⟩
   rw [show its.toArray.any (eqU x) = its.any (eqU x) by simp,nI r fs]
   exact q
 . obtain ⟨its,r,pl,hz⟩:=I.tuple hq
   refine SeqAt.notIn_tupleAt (eqU x) pl (fun w hw=>lP rx fx r fs w (by simpa using hw)) ⟨.bl _,H,I,rfl,?_⟩
   rw [show its.toArray.any (eqU x) = its.any (eqU x) by simp,nI r fs]
   exact q
theorem b9:qQ X (.builtin "len") (fun xs H Q=>∃ p ys,xs = [.ref p] /\ (SqL X.K H p ys \/ SqT X.K H p ys) /\ Q (.int ys.length) H):=by
 intro pins s σ H xs us Q I r h
 obtain ⟨p,ys,rfl,hq,q⟩:=h
 obtain ⟨u,rfl,rx⟩:=vals1 r
 cases rx
 have hn:=pK
 rcases hq with hq | hq
 . obtain ⟨its,r',pl,hz⟩:=I.list hq
   have hlen:=r'.length
   exact Calls.call_len_list pl.isList (by simp only [List.size_toArray] <;> omega) ⟨.int ys.length,H,I.tok _,⟨s.toks + 1,by rw [List.size_toArray,hlen]⟩,q⟩
 . obtain ⟨its,r',pl,hz⟩:=I.tuple hq
   have hlen:=r'.length
   exact len_tuple pl (by simp only [List.size_toArray] <;> omega) ⟨.int ys.length,H,I.tok _,⟨s.toks + 1,by rw [List.size_toArray,hlen]⟩,q⟩
def tyV (K:PySem.W.Frag) (T:String) (x:V) (H:Hp):Prop:=match x with
 | .str _=>T = "str"
 | .int _=>T = "int"
 | .ref p=>(T = "list" /\ ∃ xs,SqL K H p xs) \/ (T = "tuple" /\ ∃ o,K.lookup p = some o /\ o.cls = .type "tuple" /\ o.dict = none) \/
    (T = "dict" /\ ((∃ kvs,H p = some (.dK kvs)) \/ ∃ kvs,H p = some (.dT kvs))) \/ (T = "set" /\ ∃ S n,H p = some (.set S n))
 | _=>False
theorem yl {pins:List (Addr × Obj)} {σ:St} {H:Hp} {s:Shared} {T:String} {x:V} {v:Value} (I:Inv X pins σ H s) (r:RelV x v) (ty:tyV X.K T x H):
  s.TypeIs v T /\ ∀ a,v = .ref a -> ∃ ob,s.heap.get? a = some ob /\ ob.dict = none:=by
 cases x with
 | str z=>
   obtain ⟨t,rfl⟩:=r
   cases (show T = "str" from ty)
   exact ⟨typeIs_str s z t,fun _ e=>nomatch e⟩
 | int i=>
   obtain ⟨t,rfl⟩:=r
   cases (show T = "int" from ty)
   exact ⟨typeIs_int s i t,fun _ e=>nomatch e⟩
 | ref p=>
   cases r
   rcases ty with ⟨rfl,xs,hq⟩ | ⟨rfl,o,hk,hc,hd⟩ | ⟨rfl,hk⟩ | ⟨rfl,S,n,hk⟩
   . obtain ⟨its,_,pl,_⟩:=I.list hq
     refine ⟨pl.isList.typeIs,fun a e=>?_⟩
     cases e
     obtain ⟨o,n,e,c,hd,_⟩:=pl
     exact ⟨o,e,hd⟩
   . refine ⟨⟨o,I.kIn p o hk,hc⟩,fun a e=>?_⟩
     cases e
     exact ⟨o,I.kIn _ o hk,hd⟩
   . have z:∃ o,s.heap.get? p = some o /\ o.ExactDict:=by
      rcases hk with ⟨kvs,hk⟩ | ⟨kvs,hk⟩
      . obtain ⟨_,_,_,_,o,_,_,e,ex,_⟩:=I.hok p _ hk
        exact ⟨o,e,ex⟩
      . obtain ⟨_,_,_,_,o,_,_,e,ex,_⟩:=I.hok p _ hk
        exact ⟨o,e,ex⟩
     obtain ⟨o,e,ex⟩:=z
     refine ⟨⟨o,e,ex.1⟩,fun a e2=>?_⟩
     cases e2
     exact ⟨o,e,ex.2.1⟩
   . obtain ⟨o,_,_,_,e,ex,_⟩:=I.hok p _ hk
     refine ⟨⟨o,e,ex.1⟩,fun a e2=>?_⟩
     cases e2
     exact ⟨o,e,ex.2.1⟩
 | _=>exact False.elim ty
def DJ (K:PySem.W.Frag) (T:String) (r:V -> List V -> Hp -> VK -> Prop) (to:TE):TE:=fun σ H Q=>to σ H fun x H1=>tyV K T x H1 /\ r x [] H1 Q
def tBM (K:PySem.W.Frag) (T:String) (r:V -> List V -> Hp -> VK -> Prop) (to:TE) (t:TA):TE:=fun σ H Q=>to σ H fun x H1=>tyV K T x H1 /\ t σ H1 fun xs H2=>r x xs H2 Q
variable {o e:Expr} {es:List Expr} {to:TE} {t:TA} {name:Str} {apos cpos:Pos} {T id:String} {r:V -> List V -> Hp -> VK -> Prop}
theorem D0 (pa:PlainAttrs T) (slot:Slot T name id) (hty:typeOf (.builtin id) = pure (.type "method_descriptor")) (hm:MtR X id r) (ho:PE X o to)
  (hbase:attributeBase o name X.env (eval o X.env) = eval o X.env:=by rfl) (hline:(apos.endLine == cpos.line) = true:=by rfl):PE X (.Call (.Attribute o name apos) [] [] cpos) (DJ X.K T r to):=by
 intro pins s σ H Q I h
 refine wpAny_Call_method0_late hbase hline (thn (ho pins s σ H _ I h) fun v s1 ⟨x,H1,I1,r1,ty,q1⟩=>?_)
 obtain ⟨h1,h2⟩:=yl I1 r1 ty
 exact ⟨T,id,pa,slot,hty,h1,h2,Calls.callWith_builtin rfl (PySem.evalArgs_none (hm pins s1 σ H1 x [] v [] Q I1 r1 .nil q1))⟩
theorem Fl (pa:PlainAttrs T) (slot:Slot T name id) (hty:typeOf (.builtin id) = pure (.type "method_descriptor")) (hm:MtR X id r) (ho:PE X o to) (ha:PA X (e ::es) t)
  (hbase:attributeBase o name X.env (eval o X.env) = eval o X.env:=by rfl)
  (hfew:((backTo cpos (starEach (e ::es) X.env)).all (fun x=>!x.1) && (backToKw cpos (keywordEach [] X.env)).all (fun x=>x.1.isSome)
    && decide ((e ::es).length + ([]:List Keyword).length + (if ([]:List Keyword).isEmpty then 0 else 1) < 30)) = true:=by rfl)
  (hline:(apos.endLine == cpos.line) = true:=by rfl) (hs:starEach (e ::es) X.env = (false,eval e X.env) ::starEach es X.env:=by rfl) (hplain:(backTo cpos (starEach es X.env)).any (·.1) = false:=by rfl):
  PE X (.Call (.Attribute o name apos) (e ::es) [] cpos) (tBM X.K T r to t):=by
 intro pins s σ H Q I h
 refine wpAny_Call_method_late hbase hfew hline rfl (thn (ho pins s σ H _ I h) fun v s1 ⟨x,H1,I1,r1,ty,q1⟩=>?_)
 obtain ⟨h1,h2⟩:=yl I1 r1 ty
 refine ⟨T,id,pa,slot,hty,h1,h2,?_⟩
 have hA:=ha cpos pins s1 σ H1 _ I1 q1
 rw [hs] at hA ⊢
 refine Calls.callWith_builtin (by show (false || (backTo cpos (starEach es X.env)).any (·.1)) = false; rw [hplain] <;> rfl) (Calls.evalArgs_plain ?_)
 exact thn hA fun us s2 ⟨vs,H2,I2,r2,q2⟩=>hm pins s2 σ H2 x vs v us Q I2 r1 r2 q2
end
end L2
namespace L2
open PySem PySem.Spec PyProof.Rows
def MtM (X:Cx) (id:String) (r:V -> List V -> Hp -> VK -> Prop):Prop:=
 ∀ (pins:List (Addr × Obj)) (s:Shared) (σ:St) (H:Hp) (x:V) (xs:List V) (v:Value) (us:List Value) (Q:VK),Inv X pins σ H s -> RelV x v -> Vals xs us -> r x xs H Q ->
   wpAny (model X.prog X.w) X.A (call (.builtin id) (v ::us)) (EP X pins σ Q) X.xe s
theorem Vals.one:∀ {x:V} {us:List Value},Vals [x] us -> ∃ u,us = [u] /\ RelV x u
 | _,_,.cons r .nil=>⟨_,rfl,r⟩
theorem Vals.two:∀ {x y:V} {us:List Value},Vals [x,y] us -> ∃ u v,us = [u,v] /\ RelV x u /\ RelV y v
 | _,_,_,.cons r (.cons q .nil)=>⟨_,_,rfl,r,q⟩
theorem Vals.zero:∀ {us:List Value},Vals [] us -> us = []
 | _,.nil=>rfl
theorem Vals.dropLast {xs:List V} {us:List Value} (h:Vals xs us):Vals xs.dropLast us.dropLast:=by
 induction h with
 | nil=>exact .nil
 | cons r t ih=>
   cases t with
   | nil=>exact .nil
   | cons q t'=>exact .cons r ih
theorem Vals.eraseIdx:∀ {xs:List V} {us:List Value} (i:Nat),Vals xs us -> Vals (xs.eraseIdx i) (us.eraseIdx i)
 | _,_,_,.nil=>.nil
 | _,_,0,.cons _ t=>t
 | _,_,i + 1,.cons r t=>.cons r (Vals.eraseIdx i t)
theorem v7 {α:Type} (l:List α):l.eraseIdx (l.length - 1) = l.dropLast:=by
 induction l with
 | nil=>rfl
 | cons a r ih=>
   cases r with
   | nil=>rfl
   | cons b r=>
     have e:(a ::b ::r).length - 1 = ((b ::r).length - 1) + 1:=by
      have h1:(a ::b ::r).length = r.length + 2:=rfl
      have h2:(b ::r).length = r.length + 1:=rfl
      omega
     rw [e,List.eraseIdx_cons_succ,ih]
     all_goals rfl
section
variable {X:Cx} {pins:List (Addr × Obj)} {σ:St} {H:Hp} {s:Shared} {l b:Addr} {xs ys zs:List V}
theorem Inv.CC {its its':List Value} {n:Nat} {f:Array Value -> Array Value} {t':Nat} (I:Inv X pins σ H s) (hH:H l = some (.lst xs))
  (e:s.heap.get? l = some { cls:=.type "list",data:=.seq its.toArray n }) (hf:f its.toArray = its'.toArray) (hv:Vals ys its') (hz:ys.length <= sizeLine):
  Inv X pins σ (upd H l (.lst ys)) { s with heap:=s.heap.update l (Obj.mapSeq f),toks:=t' }:=by
 have q:=PySem.IsL.update e f
 rw [hf] at q
 refine I.write (x:=l) (e:=l) (by rw [hH]; exact trivial) (.inl rfl) (fun b' u hb hu=>(Heap.get?_update_other s.heap (Obj.mapSeq f) (Ne.symm hb)).trans hu) ⟨_,q⟩ ?_
 exact ⟨hz,its',_,hv,q⟩
theorem Inv.Ew {its:List Value} {t':Nat} (I:Inv X pins σ H s) (hv:Vals ys its) (hz:ys.length <= sizeLine):
  Inv X pins σ (upd H s.heap.objs.size (.lst ys)) { s with heap:=s.heap.push { cls:=.type "list",data:=.seq its.toArray },toks:=t' }:=
 I.laid (fun _ _ q=>Heap.get?_push_of_some _ q) (Nat.le_refl _) ⟨hz,its,0,hv,Heap.get?_push_size _ rfl⟩
theorem Inv.fresh (I:Inv X pins σ H s):H s.heap.objs.size = none:=I.hok.fresh (Nat.le_refl _)
theorem Inv.Bd (I:Inv X pins σ H s) (hH:H l = some (.lst xs)):xs.length <= sizeLine /\ ∃ (its:List Value) (n:Nat),Vals xs its /\ xs.length = its.length /\ s.heap.get? l = some { cls:=.type "list",data:=.seq its.toArray n }:=by
 obtain ⟨z,its,n,r,e⟩:=I.hok l _ hH
 exact ⟨z,its,n,r,r.length,e⟩
theorem zl {n:Nat} (h:n <= sizeLine):Builtin.List.listTooLong n = false:=by
 unfold Builtin.List.listTooLong
 exact decide_eq_false (by omega)
end
section
variable {X:Cx}
def sE:V -> List V -> Hp -> VK -> Prop:=fun x vs H Q=>∃ l xs y,x = .ref l /\ vs = [y] /\ H l = some (.lst xs) /\ xs.length < sizeLine /\ Q .non (upd H l (.lst (xs ++ [y])))
theorem ib:MtM X "list.append" sE:=by
 intro pins s σ H x vs v us Q I rx rv h
 obtain ⟨l,xs,y,rfl,rfl,hH,hz,q⟩:=h
 cases rx
 obtain ⟨u,rfl,ru⟩:=rv.one
 obtain ⟨z,its,n,r,hl,e⟩:=I.Bd hH
 refine call_meets F.slot_list_append ⟨_,e,rfl⟩ F.entry_list_append (F.args_list_append_2 _ _) (PySem.list_append l its.toArray n u (by rw [List.size_toArray]; omega)) ⟨e,?_⟩
 refine ⟨.non,_,I.CC (its':=its ++ [u]) hH e (by simp) (r.append (.cons ru .nil)) ?_,rfl,q⟩
 rw [List.length_append,List.length_singleton]
 omega
def wj:V -> List V -> Hp -> VK -> Prop:=fun x vs H Q=>∃ l b xs zs,x = .ref l /\ vs = [.ref b] /\ H l = some (.lst xs) /\ H b = some (.lst zs) /\ xs.length + zs.length <= sizeLine /\ Q .non (upd H l (.lst (xs ++ zs)))
theorem xE:MtM X "list.extend" wj:=by
 intro pins s σ H x vs v us Q I rx rv h
 obtain ⟨l,b,xs,zs,rfl,rfl,hH,hB,hz,q⟩:=h
 cases rx
 obtain ⟨u,rfl,ru⟩:=rv.one
 cases ru
 obtain ⟨z,its,n,r,hl,e⟩:=I.Bd hH
 obtain ⟨z2,its2,n2,r2,hl2,e2⟩:=I.Bd hB
 have hsz:its.toArray.size + its2.toArray.size <= sizeLine:=by rw [List.size_toArray,List.size_toArray]; omega
 have hlong:¬ (!its.toArray.isEmpty && Builtin.List.listTooLong (its.toArray.size + its2.toArray.size)) = true:=by
  rw [zl hsz,Bool.and_false]
  exact Bool.false_ne_true
 refine call_meets F.slot_list_extend ⟨_,e,rfl⟩ F.entry_list_extend (F.args_list_extend_2 _ _)
  (AutoSeq1.list_extend_list_list_0 l its.toArray n b its2.toArray n2 hlong (by rw [List.size_toArray]; omega) (by omega)) ⟨e,e2,?_⟩
 refine ⟨.non,_,I.CC (its':=its ++ its2) hH e (by simp) (r.append r2) ?_,rfl,q⟩
 rw [List.length_append]
 omega
def Fd:V -> List V -> Hp -> VK -> Prop:=fun x vs H Q=>∃ l xs y,x = .ref l /\ vs = [] /\ H l = some (.lst xs) /\ xs[xs.length - 1]? = some y /\ Q y (upd H l (.lst xs.dropLast))
theorem yz:MtM X "list.pop" Fd:=by
 intro pins s σ H x vs v us Q I rx rv h
 obtain ⟨l,xs,y,rfl,rfl,hH,hy,q⟩:=h
 cases rx
 have hus:=rv.zero
 subst hus
 obtain ⟨z,its,n,r,hl,e⟩:=I.Bd hH
 obtain ⟨u,hu,ru⟩:=r.get hy
 have hy':its.toArray[its.toArray.size - 1]? = some u:=by
  show its.toArray[its.length - 1]? = some u
  rw [<- Array.getElem?_toList,<- hl]
  exact hu
 refine call_meets F.slot_list_pop ⟨_,e,rfl⟩ F.entry_list_pop (F.args_list_pop_1 _) (MeetsSeq.list_pop_last l its.toArray n u hy' (by rw [List.size_toArray]; omega)) ⟨e,?_⟩
 refine ⟨y,_,I.CC (its':=its.dropLast) hH e ?_ r.dropLast ?_,ru,q⟩
 . show its.toArray.eraseIdxIfInBounds (its.toArray.size - 1) = its.dropLast.toArray
   rw [List.size_toArray,List.eraseIdxIfInBounds_toArray,v7]
 . rw [List.length_dropLast]
   omega
end
section
variable {prog:Program} {w:World} {A:Around} {E:Value -> Shared -> Prop} {s:Shared}
set_option maxRecDepth 100000 in
end
end L2
namespace Att
open PySem PySem.W PySem.Calls PyProof.Rows
theorem o7 {P:Params} {h:Heap}:∀ (ns:List Int) (vs:List Value),WellAll P h vs (ns.map WData.int) -> IntsAre vs ns:=by
 intro ns
 induction ns with
 | nil=>
   intro vs w
   rw [List.map_nil] at w
   cases w
   exact .nil
 | cons n ns ih=>
   intro vs w
   rw [List.map_cons] at w
   cases w with
   | cons a b=>
     cases a
     exact .cons _ _ (ih _ b)
theorem x5 {l:OpenLaw} {n:Nat} (hn:l.most = some n) {P:Params} {h:Heap} {args:List WData} {vals:List Value}
  (hpre:l.row.toRowW.claim.pre args = true) (hwl:WellAll P h vals args):
  ∃ a vs ns,vals = [Value.ref a] /\ args = [WData.list (ns.map WData.int)] /\ h.get? a = some { cls:=.type "list",data:=.seq vs.toArray } /\ IntsAre vs ns /\ ns.length <= n:=by
 have hsh:WShape.hasAll [] args [.list .int] = true:=(pre_splitW hpre).1
 have hc:l.pre.holds [] { args:=args } = true:=(pre_splitW hpre).2
 obtain ⟨d,r,rfl,h1,h2⟩:=hasAllW_cons hsh
 obtain rfl:=hasAllW_nil h2
 obtain ⟨xs,rfl,h3⟩:=hasW_list h1
 obtain ⟨ns,rfl⟩:=items_int h3
 have hlen:ns.length <= n:=by
  unfold OpenLaw.pre at hc
  have h4:(WTm.not (.lt (.lit (.int (n:Int))) (.len (.arg 0)))).holds [] { args:=[.list (ns.map .int)] } = true:=by
   have h4:=(holds_andW hc).1
   rw [hn] at h4
   exact h4
  have h5:=condW_of h4 (w_not (w_lt w_lit (w_len_list (w_arg rfl))))
  rw [List.length_map] at h5
  refine Nat.le_of_not_lt fun q=>?_
  have q':(n:Int) < ((ns.length:Nat):Int):=by omega
  first
   | (rw [decide_eq_true q'] at h5; exact absurd h5 (by decide))
   | (simp at h5; omega)
 cases hwl with
 | cons w1 w2=>
   cases w2
   cases w1 with
   | list ho hall=>exact ⟨_,_,ns,rfl,rfl,ho,o7 ns _ hall,hlen⟩
theorem xo (l:OpenLaw) (args:List WData):l.row.toRowW.claim.post args (.bool true) args = true:=
 postW_of (r:=l.row.toRowW) (X:=(true == true))
  (show WShape.has [] (.bool true) .bool = true by first | rfl | decide | simp [WShape.has,WShape.arms,WShape.armsAll])
  (show (WTm.eq .res (.lit (.bool true))).value [] { args:=args,res:=some (.bool true),after:=args } = some (.bool (true == true)) from w_eq_bool (w_res rfl) w_lit) rfl
theorem tX {l:OpenLaw} {n:Nat} {q:Program} {loose:List Str} {XP:(Str -> Option Value) -> Heap -> Prop} {YP:World -> Heap -> Prop} {d:DefRec}
  (hn:l.most = some n) (hdf:d.params.defaults = [])
  (call:∀ (w:World) (s₀ s₁:Shared) (mg mb:Str -> Option Value) (fa:Addr) (o:Obj) (pm cd doc:Value) (a:Addr) (vs:List Value) (ns:List Int),
    Ground q loose [] XP w s₀ mg mb s₁.heap -> YP w s₁.heap ->
    s₁.heap.get? fa = some o -> o.data = .func (docDef d.name d.params d.body d.scope pm cd doc) -> s₁.heap.CodeRec cd d.name -> mg d.name = some (.ref fa) ->
    s₁.heap.get? a = some { cls:=.type "list",data:=.seq vs.toArray } -> IntsAre vs ns -> ns.length <= n -> s₁.gens = #[] ->
    codeAny (model l.prog w) callerA (.call (.ref fa) ⟨[.ref a],[]⟩) (fun r s'=>r = .ok (.ret (.bool true)) /\ OldK s₁.heap s'.heap /\ s'.os = s₁.os /\ AllBare s'.gens) s₁):
  WalkO q loose XP YP l.row.toRowW d [] (fun f vs=>PySem.call f vs):=by
 intro w s₀ s₁ mg mb G Y fa o pm cd doc dV kV ho hd hcd hD hmg hg args vals as hpre hlay hrd hwl hlo
 obtain rfl:dV = .none:=Dflts.none hD hdf
 obtain rfl:kV = .none:=Dflts.noKw hD
 obtain ⟨a,vs,ns,rfl,rfl,hobj,hints,hlen⟩:=x5 hn hpre hwl
 refine enter_call (codeAny_mono (call w s₀ s₁ mg mb fa o pm cd doc a vs ns G Y ho (fd_plain hd) hcd hmg hobj hints hlen hg) fun r s' hq=>?_)
 obtain ⟨rfl,h2,h3,h4⟩:=hq
 exact ⟨.inl ⟨.bool true,.bool true,[],rfl,fun _=>rfl,.bool true,xo l _,fun _=>⟨List.Pairwise.nil,fun _ hm=>(nomatch hm)⟩⟩,h2,h3,h4⟩
end Att
namespace L2
open PySem PySem.Spec PyProof.Rows
theorem rm:∀ {vs:List Value} {ns:List Int},IntsAre vs ns -> Vals (ns.map V.int) vs
 | _,_,.nil=>.nil
 | _,_,.cons n t h=>.cons ⟨t,rfl⟩ (rm h)
def Dm (H:Hp):Prop:=∀ b,H b = none \/ ∃ o xs,H b = some (.frz o (.lst xs))
theorem yj {P:Program} {w:World} {K:PySem.W.Frag} {mg mb:Str -> Option Value} {CX:CXT} {k:Nat} {fa a:Addr} {fd:FuncData} {x:Str} {sp:Sp} {s₁:Shared} {vs:List Value} {ns:List Int}
  (KX:K.In s₁.heap) (hns:s₁.heap.Ns mainGlobals mg) (hb:s₁.heap.Ns builtinsNs mb) (hbb:∀ x:Str,x ≠ "__name__" -> mb x = bootBuiltins x) (hlim:s₁.heap.NoLimit) (hg:s₁.gens = #[])
  (ha:s₁.heap.get? a = some { cls:=.type "list",data:=.seq vs.toArray }) (hi:IntsAre vs ns) (hl:ns.length <= sizeLine) (hr:gj k callerA)
  (F:∀ base:Heap,K.In base -> base.Ns mainGlobals mg -> b0 P w K mg base CX k fa fd [x] sp) (hbind:∀ (s:Shared) (u:Value),BindsTo s fd ⟨[u],[]⟩ [(x,u)])
  (hsp:∀ H:Hp,Dm H -> SqL K H a (ns.map V.int) -> sp [.ref a] H (fun v _=>v = .bl true) fun _ _ _=>False)
  (hCX:∀ H e s',CX [] H s₁ (fun _ _ _=>False) e s' -> False):
  codeAny (model P w) callerA (.call (.ref fa) ⟨[.ref a],[]⟩) (fun r s'=>r = .ok (.ret (.bool true)) /\ OldK s₁.heap s'.heap /\ s'.os = s₁.os /\ AllBare s'.gens) s₁:=by
 have rv:=rm hi
 have lenV:=hi.length
 have core:∀ H:Hp,Dm H -> SqL K H a (ns.map V.int) -> HOk P w H s₁.heap -> (∀ b,H b ≠ none -> b = a) -> (H a ≠ none -> K.lookup a = none) ->
   codeAny (model P w) callerA (.call (.ref fa) ⟨[.ref a],[]⟩) (fun r s'=>r = .ok (.ret (.bool true)) /\ OldK s₁.heap s'.heap /\ s'.os = s₁.os /\ AllBare s'.gens) s₁:=by
  intro H hO hS hok hA hK
  have base_of:∀ {b:Addr} {o:Obj},s₁.heap.get? b = some o -> H b = none -> (se s₁.heap H).get? b = some o:=fun e n=>zN e n
  have noA:∀ {b:Addr} {o:Obj} {es:Array DictEntry} {ep:Nat},s₁.heap.get? b = some o -> o.data = .dict es ep -> H b = none:=fun {b o es ep} e d=>by
   cases q:H b with
   | none=>rfl
   | some u=>
     have e':b = a:=hA b (by rw [q]; simp)
     subst e'
     rw [ha] at e; cases e
     have d':Data.seq vs.toArray _ = Data.dict es ep:=d
     cases d'
  have nsK:∀ {b:Addr} {m:Str -> Option Value},s₁.heap.Ns b m -> (se s₁.heap H).Ns b m:=fun {b m} ⟨o,es,ep,e,d,r⟩=>⟨o,es,ep,base_of e (noA e d),d,r⟩
  have hKb:K.In (se s₁.heap H):=fun b o e=>base_of (KX b o e) (by
   cases q:H b with
   | none=>rfl
   | some u=>
     have e':b = a:=hA b (by rw [q]; simp)
     subst e'
     rw [hK (by rw [q]; simp)] at e; cases e)
  have hM:Mod K mg (se s₁.heap H):=⟨hKb,nsK hns,⟨mb,nsK hb,hbb⟩,let ⟨mc,h1,h2⟩:=hlim; ⟨mc,nsK h1,h2⟩⟩
  have e0:u2 P w K mg (se s₁.heap H) callerA [] s₁ H:=⟨rfl,hM,fun b o e=>A6 e,Nat.le_of_eq (xu _ _),trivial,fun b hb=>absurd (show b ∈ ([]:List Addr) from hb) (by simp),hok,.of_eq hg⟩
  refine codeAny_mono ((F _ hKb (nsK hns)).run callerA [] s₁ H ⟨[.ref a],[]⟩ [.ref a] [.ref a] _ _ hr e0 (hbind s₁ (.ref a)) (.cons rfl .nil) (hsp H hO hS)) fun r s' h=>?_
  cases r with
  | error e=>exact (hCX H e s' h).elim
  | ok fl=>
    cases fl with
    | next=>exact False.elim h
    | brk=>exact False.elim h
    | cont=>exact False.elim h
    | ret u=>
      obtain ⟨v,H',os,bare,un,hok',r',q⟩:=h
      have q':v = .bl true:=q
      subst q'
      obtain rfl:u = Value.bool true:=r'
      refine ⟨rfl,OldK.of_keep fun b o e=>?_,os,bare⟩
      cases q:H b with
      | none=>exact un.keep b o e q (by intro z; exact absurd (show b ∈ ([]:List Addr) from z) (by simp)) (by simp)
      | some u=>
        rcases hO b with z | ⟨ob,xs,z⟩
        . rw [q] at z; cases z
        . have z2:=un.frzs b ob _ z
          obtain ⟨e1,_⟩:=hok b _ z
          obtain ⟨e2,_⟩:=hok' b _ z2
          rw [e] at e1; cases e1
          exact e2
 cases hk:K.lookup a with
 | some o=>
   have e:=KX a o hk
   rw [ha] at e
   cases e
   refine core (fun _=>none) (fun _=>.inl rfl) (.inr ⟨_,vs.toArray,_,hk,rfl,rfl,rfl,by rw [List.size_toArray,lenV]; exact hl,by simpa using rv⟩) (fun b u z=>by have z':(none:Option HO) = some u:=z; cases z') (fun b z=>absurd rfl z) fun z=>absurd rfl z
 | none=>
   refine core (fun b=>if b = a then some (.frz { cls:=.type "list",data:=.seq vs.toArray } (.lst (ns.map V.int))) else none) (fun b=>?_) (.inl (.inr ⟨{ cls:=.type "list",data:=.seq vs.toArray },if_pos rfl⟩)) (fun b u z=>?_) (fun b z=>?_) fun _=>hk
   . by_cases hb:b = a
     . exact .inr ⟨_,_,if_pos hb⟩
     . exact .inl (if_neg hb)
   . by_cases hb:b = a
     . have z':=(if_pos hb).symm.trans z
       cases z'
       subst hb
       exact ⟨ha,by rw [List.length_map]; exact hl,vs,_,rv,ha⟩
     . have z':=(if_neg hb).symm.trans z
       cases z'
   . by_cases hb:b = a
     . exact hb
     . exact absurd (if_neg hb) z
end L2
namespace L2
open PySem PySem.Spec PyProof.Rows
abbrev KOf {K:PySem.W.Frag} {h:Heap} (_:K.In h):PySem.W.Frag:=K
theorem AZ {l:PySem.W.OpenLaw} {n k:Nat} {q:Program} {loose:List Str} {XP:(Str -> Option Value) -> Heap -> Prop} {YP:World -> Heap -> Prop} {d:DefRec} {K:Params -> PySem.W.Frag} {CX:World -> CXT} {sp:World -> Sp} {x:Str}
  (hn:l.most = some n) (hn2:n <= sizeLine) (hdf:d.params.defaults = []) (hr:gj k callerA)
  (hY:∀ (w:World) (h:Heap),YP w h -> (K w.params).In h)
  (F:∀ (w:World) (mg:Str -> Option Value) (fa:Addr) (h:Heap),(K w.params).In h -> h.Ns mainGlobals mg -> mg d.name = some (.ref fa) ->
    ∃ fd:FuncData,(∀ (s:Shared) (u:Value),BindsTo s fd ⟨[u],[]⟩ [(x,u)]) /\
      ∀ base:Heap,(K w.params).In base -> base.Ns mainGlobals mg -> b0 l.prog w (K w.params) mg base (CX w) k fa fd [x] (sp w))
  (hsp:∀ (w:World) (H:Hp) (a:Addr) (ns:List Int),ns.length <= n -> Dm H -> SqL (K w.params) H a (ns.map V.int) -> sp w [.ref a] H (fun v _=>v = .bl true) fun _ _ _=>False)
  (hCX:∀ (w:World) (H:Hp) (s:Shared) (e:Value) (s':Shared),CX w [] H s (fun _ _ _=>False) e s' -> False):
  PySem.W.WalkO q loose XP YP l.row.toRowW d [] (fun f vs=>PySem.call f vs):=by
 refine Att.tX hn hdf fun w s₀ s₁ mg mb fa o pm cd doc a vs ns G Y ho hd hcd hmg hobj hints hlen hg=>?_
 have KX:=hY w _ Y
 obtain ⟨fd,hb,hF⟩:=F w mg fa _ KX G.T.g hmg
 exact yj KX G.T.g G.T.b G.T.builtins G.T.nolimit hg hobj hints (Nat.le_trans hlen hn2) hr hF hb (fun H hO hS=>hsp w H a ns hlen hO hS) fun H e s'=>hCX w H s₁ e s'
end L2
namespace L2
open PySem PySem.Spec PyProof.Rows
def inClass (s:Stmt) (j:Nat):Stmt:=match s with
 | .ClassDef _ _ _ body _ _ _ _ _ _ _=>body.getD j (.Pass ⟨0,0,0,0⟩)
 | _=>.Pass ⟨0,0,0,0⟩
def aV (s:Stmt):Arguments:=match s with
 | .FunctionDef _ a _ _ _ _ _ _ _ _=>a
 | _=>{ posonlyargs:=[],args:=[],vararg:=none,kwonlyargs:=[],kw_defaults:=[],kwarg:=none,defaults:=[] }
def aR (s:Stmt):List Stmt:=match s with
 | .FunctionDef _ _ b _ _ _ _ _ _ _=>b
 | _=>[]
def ao (s:Stmt):Scope:=match s with
 | .FunctionDef _ _ _ _ _ _ sc _ _ _=>sc
 | _=>{ kind:=.function,names:=[],isGenerator:=false,isCoroutine:=false }
structure Fun (K:PySem.W.Frag) (x qual:Str) (st:Stmt) (f:Addr) (fd:FuncData):Prop where
 ex:∃ (oc:Value) (od:Option Addr) (kV doc pm:Value) (an:Option Addr) (cdv ct:Value) (osl:Array (Option Value)),
  fd = PySem.W.fnOf x qual (aV st) (aR st) (ao st) .none kV doc pm an cdv ct /\ K.lookup f = some ⟨oc,od,.func fd,osl⟩ /\ PySem.W.codeIn K cdv qual = true
 kp:PySem.W.keepIn K (.ref f) = true
section
variable {P:Program} {w:World} {K:PySem.W.Frag} {mg:Str -> Option Value} {base:Heap}
theorem Fun.binds {x qual:Str} {st:Stmt} {f:Addr} {fd:FuncData} {ps:List Str} (F:Fun K x qual st f fd)
  (h:∀ (kV doc pm:Value) (an:Option Addr) (cdv ct:Value) (us:List Value),us.length = ps.length -> bindArgs (PySem.W.fnOf x qual (aV st) (aR st) (ao st) .none kV doc pm an cdv ct) ⟨us,[]⟩ = pure (ps.zip us)):Binds K fd ps []:=by
 obtain ⟨oc,od,kV,doc,pm,an,cdv,ct,osl,rfl,lk,hcd⟩:=F.ex
 exact .all (h kV doc pm an cdv ct)
theorem aE {x qual:Str} {st:Stmt} {f:Addr} {oc:Value} {od an:Option Addr} {osl:Array (Option Value)} {kV doc pm cdv ct:Value} (l:K.lookup f = some ⟨oc,od,.func (PySem.W.fnOf x qual (aV st) (aR st) (ao st) .none kV doc pm an cdv ct),osl⟩)
  (c:PySem.W.codeIn K cdv qual = true) (k:PySem.W.keepIn K (.ref f) = true):Fun K x qual st f (PySem.W.fnOf x qual (aV st) (aR st) (ao st) .none kV doc pm an cdv ct):=⟨⟨oc,od,kV,doc,pm,an,cdv,ct,osl,rfl,l,c⟩,k⟩
end
section
variable {X:Cx}
theorem pv (i:Nat) {x:Str} {pos:Pos} (hN:X.N[i]? = some x:=by rfl) (hv:Vis X.env.scope x:=by first | exact Or.inl rfl | exact Or.inr (Or.inl rfl) | exact Or.inr (Or.inr rfl)) (hd:(x == ("__debug__":Str)) = false:=by decide)
  (hcd:(x == ("__classdict__":Str)) = false:=by decide):PE X (.Name x pos) (qB i):=C8 hN hv hd hcd
end
theorem uv {A B:Prop} (h:B):if false = true then A else B:=by
 rw [if_neg Bool.false_ne_true]
 exact h
theorem ub {A B:Prop} (h:A):if true = true then A else B:=by
 rw [if_pos rfl]
 exact h
def aF (H H':Hp):Prop:=∀ b o,H b = some o -> H' b = some o
theorem aF.refl (H:Hp):aF H H:=fun _ _ h=>h
theorem aF.trans {H H1 H2:Hp} (a:aF H H1) (b:aF H1 H2):aF H H2:=fun c o h=>b c o (a c o h)
theorem aF.free {H H':Hp} (e:aF H H') {l:Addr} (h:H' l = Option.none):H l = Option.none:=by
 cases q:H l with
 | none=>rfl
 | some o=>
   rw [e l o q] at h
   cases h
theorem aF.seq {K:PySem.W.Frag} {H H':Hp} {a:Addr} {xs:List V} (e:aF H H') (h:SqL K H a xs):SqL K H' a xs:=by
 rcases h with (h | ⟨o,h⟩) | h
 . exact .inl (.inl (e _ _ h))
 . exact .inl (.inr ⟨o,e _ _ h⟩)
 . exact .inr h
end L2
namespace L2
open PySem PySem.Spec PyProof.Rows
section
variable {κ:Type} [DecidableEq κ]
theorem bM.getD {o:Option V} {u:Option Value} {d:V} {d':Value} (r:bM o u) (rd:RelV d d'):RelV (o.getD d) (u.getD d'):=by
 cases o with
 | none=>cases u with
   | none=>exact rd
   | some _=>exact (show False from r).elim
 | some _=>cases u with
   | none=>exact (show False from r).elim
   | some _=>exact r
end
abbrev KT (H:Hp):List (List Key × V) -> List (List Key × Addr × Value) -> Prop:=Paired fun p q=>p.1 = q.1 /\ H q.2.1 = some (.tup (p.1.map kV)) /\ RelV p.2 q.2.2
theorem KT.keeps {H H':Hp} {kvs:List (List Key × V)} {xs:List (List Key × Addr × Value)} (r:KT H kvs xs) (ht:∀ b ys,H b = some (.tup ys) -> H' b = some (.tup ys)):KT H' kvs xs:=
 Paired.Eh r fun _ _ z=>⟨z.1,ht _ _ z.2.1,z.2.2⟩
section
variable {X:Cx} {pins:List (Addr × Obj)} {σ:St} {H:Hp} {s:Shared} {a:Addr} {y v:V} {u r:Value} {o:Option V} {A:Around} {E:Value -> Shared -> Prop}
theorem Inv.big (I:Inv X pins σ H s):sysModules < s.heap.objs.size:=by
 have h:mainGlobals < s.heap.objs.size:=(I.mod.glob.keeps I.bk).lt
 exact Nat.lt_trans (by decide) h
end
end L2
namespace L2
open PySem PySem.Spec PyProof.Rows
end L2
set_option maxHeartbeats 4000000
namespace L2.E
open PySem PySem.Spec PyProof.Rows
def Dp (a C:Addr) (dx:Option Addr) (h:Heap):Prop:=∃ o vs,h.get? a = some o /\ o.cls = .ref C /\ o.dict = dx /\ o.data = .fields vs /\ vs.size = 6
def TbO (T:Addr) (h:Heap):Prop:=∃ o ts,h.get? T = some o /\ o.data = .fields ts /\ 3 < ts.size
abbrev nM (a C:Addr) (dx:Option Addr):HO:=.ext (Dp a C dx)
abbrev oTb (T:Addr):HO:=.ext (TbO T)
theorem v5 {P:Program} {w:World} {H:Hp} {h:Heap} {a C:Addr} {dx:Option Addr} (x:Dp a C dx h):hX P w H h a (nM a C dx):=by
 refine ⟨x,let ⟨o,_,e,_⟩:=x; ⟨o,e⟩,fun h1 h2 p k=>?_⟩
 obtain ⟨o,vs,e,r⟩:=p
 exact ⟨o,vs,k o e,r⟩
theorem Cc {P:Program} {w:World} {H:Hp} {h:Heap} {T:Addr} (x:TbO T h):hX P w H h T (oTb T):=by
 refine ⟨x,let ⟨o,_,e,_⟩:=x; ⟨o,e⟩,fun h1 h2 p k=>?_⟩
 obtain ⟨o,vs,e,r⟩:=p
 exact ⟨o,vs,k o e,r⟩
theorem zQ {H:Hp} {a:Addr} {o:HO} (h:H a = some o):upd H a o = H:=by
 funext b
 unfold upd
 split
 . rename_i e
   rw [e,h]
 . rfl
structure Fly (H:Hp) (h:Heap) (a C:Addr) (dx:Option Addr):Prop where
 exc:H a = some (nM a C dx)
 tb:∃ o vs,h.get? a = some o /\ o.data = .fields vs /\ (vs[1]? = some Value.none \/ ∃ T,vs[1]? = some (.ref T) /\ H T = some (oTb T) /\ T ≠ a)
structure xI (H:Hp) (h:Heap) (a C:Addr) (dx:Option Addr):Prop where
 exc:H a = some (nM a C dx)
 tb:∃ o vs T,h.get? a = some o /\ o.data = .fields vs /\ vs[1]? = some (.ref T) /\ H T = some (oTb T) /\ T ≠ a
theorem xI.fly {H:Hp} {h:Heap} {a C:Addr} {dx:Option Addr} (F:xI H h a C dx):Fly H h a C dx:=
 let ⟨o,vs,T,e1,e2,e3,e4,e5⟩:=F.tb
 ⟨F.exc,o,vs,e1,e2,.inr ⟨T,e3,e4,e5⟩⟩
section
variable {X:Cx} {pins:List (Addr × Obj)} {σ:St} {H:Hp} {s:Shared} {a C:Addr} {dx:Option Addr}
theorem yJ {h₁:Heap} (I:Inv X pins σ H s) (k:Heap.SlotsOnly (frs X.stack) s.heap h₁):Un (frs X.stack) [] H H s.heap h₁ where
 keep:=fun b o e _ hb _=>(k.2.1 b hb).trans e
 slot:=fun b o e _ _ _=>k.2.2 b o e
 free:=fun _ _ _ n _=>n
 there:=fun b o e _=>let ⟨_,q⟩:=k.2.2 b o e; ⟨_,q⟩
 tups:=fun _ _ q=>q
 frzs:=fun _ _ _ q=>q
 tbls:=fun _ ps q=>⟨#[],by rw [q]; simp⟩
theorem xY {h₁:Heap} (I:Inv X pins σ H s) (k:Heap.SlotsOnly (frs X.stack) s.heap h₁):HOk X.prog X.w H h₁:=fun b o e=>by
 have nf:∀ c u,H c = some u -> c ∉ frs X.stack:=fun c u q z=>by rw [I.sk c z] at q; cases q
 refine (I.hok b o e).nT (fun c v hc q=>(k.2.1 c ?_).trans q) (fun _ q=>q) fun _ _ q=>q
 rcases hc with z | z
 . rw [z]; exact nf b o e
 . exact nf c _ z
theorem AA {i:Nat} {v:Value} (I:Inv X pins σ H s) (e:H a = some (nM a C dx)):
  Inv X pins σ H { s with heap:=s.heap.update a (Obj.mapFields (·.setIfInBounds i v)) }:=by
 obtain ⟨⟨o,vs,ho,hc,hd,hf,hz⟩,_,_⟩:=I.hok a _ e
 have hs:=Heap.get?_update_self (Obj.mapFields (·.setIfInBounds i v)) ho (Obj.isFreed_of_fields (Obj.data_mapFields hf _))
 have q:=I.write (x:=a) (e:=a) (o:=nM a C dx) (t':=s.toks) (h':=s.heap.update a (Obj.mapFields (·.setIfInBounds i v))) (by rw [e]; trivial) (.inl rfl)
  (fun b u hb q=>(Heap.get?_update_other _ _ (Ne.symm hb)).trans q) ⟨_,hs⟩ (v5 ⟨_,_,hs,by rw [Obj.cls_mapFields]; exact hc,by obtain ⟨c,d,dt,sl⟩:=o; cases dt <;> exact hd,Obj.data_mapFields hf _,by simpa using hz⟩)
 rw [zQ e] at q
 exact q
theorem yu {T:Addr} {i:Nat} {v:Value} (I:Inv X pins σ H s) (e:H T = some (oTb T)):
  Inv X pins σ H { s with heap:=s.heap.update T (Obj.mapFields (·.setIfInBounds i v)) }:=by
 obtain ⟨⟨o,vs,ho,hf,hz⟩,_,_⟩:=I.hok T _ e
 have hs:=Heap.get?_update_self (Obj.mapFields (·.setIfInBounds i v)) ho (Obj.isFreed_of_fields (Obj.data_mapFields hf _))
 have q:=I.write (x:=T) (e:=T) (o:=oTb T) (t':=s.toks) (h':=s.heap.update T (Obj.mapFields (·.setIfInBounds i v))) (by rw [e]; trivial) (.inl rfl)
  (fun b u hb q=>(Heap.get?_update_other _ _ (Ne.symm hb)).trans q) ⟨_,hs⟩ (Cc ⟨_,_,hs,Obj.data_mapFields hf _,by simpa using hz⟩)
 rw [zQ e] at q
 exact q
theorem tL {L:Addr} {head:Value} {had:Bool} {Q:Unit -> Shared -> Prop} {E:Value -> Shared -> Prop} (I:Inv X pins σ H s) (hst:X.stack = X.env ::X.outer) (hf:X.env.frame = some L) (e:H a = some (nM a C dx))
  (h:∀ s' H',Inv X pins σ H' s' -> aF H H' -> xI H' s'.heap a C dx -> Q () s'):
  wpAny (model X.prog X.w) X.A (do let fr <- frameOf X.env; let pl <- entryPlaceOf L had; let b <- EntryCells.newEntry head fr .none (rawInt L) .none pl; setField (.ref a) 1 b) Q E s:=by
 have hfr:X.A.frames = some (X.env ::X.outer):=by rw [<- hst]; exact I.ok.frames
 have hl:s.heap.FunFrames X.base (X.env ::X.outer):=by rw [<- hst]; exact I.stack
 refine wpAny_bind (wpAny_frameOf_fun hfr hl hf fun h₁ k₁=>?_)
 have k₁':Heap.SlotsOnly (frs X.stack) s.heap h₁:=by rw [hst]; exact k₁
 have I₁:=I.call (g':=s.gens) (t':=s.toks) (d':=s.drawn) (ch:=[]) (yJ I k₁') (xY I k₁') I.bare (fun b z=>absurd z (by simp))
 refine wpAny_bind (wpAny_entryPlaceOf fun pl hpl=>?_)
 unfold EntryCells.newEntry newFields
 refine wpAny_bind (wpAny_newObj_type ?_ (hpl.sizeOk5 _ _ _ _ _))
 have big:3 < ([head,.ref L,.none,rawInt L,.none] ++ (if pl.isEmpty then List.replicate 6 Value.none else pl)).toArray.size:=by
  rw [List.size_toArray,List.length_append]
  show 3 < 5 + _
  omega
 have new:=Heap.get?_push_size h₁ (o:={ cls:=.type "traceback",dict:=none,data:=.fields ([head,.ref L,.none,rawInt L,.none] ++ (if pl.isEmpty then List.replicate 6 Value.none else pl)).toArray }) rfl
 have fr:H h₁.objs.size = none:=I₁.hok.fresh (Nat.le_refl _)
 have ne:h₁.objs.size ≠ a:=fun z=>by rw [z,e] at fr; cases fr
 have I₂:=I₁.laid (a:=h₁.objs.size) (o:=oTb h₁.objs.size) (t':=s.toks) (fun b u q=>Heap.get?_push_of_some _ q) (Nat.le_refl _) (Cc ⟨_,_,new,rfl,big⟩)
 have g:aF H (upd H h₁.objs.size (oTb h₁.objs.size)):=fun b u q=>by rw [aW (cF q fr)]; exact q
 obtain ⟨⟨o,vs,ho,hc,hd,hv,hz⟩,_,_⟩:=I₂.hok a _ (g _ _ e)
 refine wpAny_setField ho hv (by omega) ?_
 refine h _ _ (AA I₂ (g _ _ e)) g ⟨g _ _ e,_,_,h₁.objs.size,Heap.get?_update_self _ ho (Obj.isFreed_of_fields (Obj.data_mapFields hv _)),Obj.data_mapFields hv _,by simp [hz],ba,ne⟩
theorem Bn {Q:Unit -> Shared -> Prop} {E:Value -> Shared -> Prop} (I:Inv X pins σ H s) (hst:X.stack = X.env ::X.outer /\ X.env.frame = some X.env.locals) (F:Fly H s.heap a C dx)
  (h:∀ s' H',Inv X pins σ H' s' -> aF H H' -> xI H' s'.heap a C dx -> Q () s'):wpAny (model X.prog X.w) X.A (noteFrame (.ref a) X.env) Q E s:=by
 obtain ⟨o,vs,ho,hv,hw⟩:=F.tb
 unfold noteFrame
 simp only [hst.2]
 rcases hw with h1 | ⟨T,h1,hT,ne⟩
 . refine wpAny_bind (wpAny_field ho hv h1 ?_)
   rw [if_neg (by decide)]
   exact tL I hst.1 hst.2 F.exc h
 . obtain ⟨⟨oT,ts,hoT,hdT,hz⟩,_,_⟩:=I.hok T _ hT
   refine wpAny_bind (wpAny_field ho hv h1 ?_)
   rw [if_pos (show (Value.ref T != Value.none) = true from by simp)]
   have h3:ts[3]? = some ts[3]:=by simp [hz]
   refine wpAny_bind (wpAny_field hoT hdT h3 ?_)
   by_cases c:(ts[3] == rawInt X.env.locals) = true
   . rw [if_pos c]
     exact wpAny_pure (h s H I (aF.refl H) ⟨F.exc,o,vs,T,ho,hv,h1,hT,ne⟩)
   . rw [if_neg c]
     refine wpAny_bind (wpAny_setField hoT hdT hz ?_)
     exact tL (yu I hT) hst.1 hst.2 F.exc h
theorem xq {x:Option Addr} {Q:Unit -> Shared -> Prop} {E:Value -> Shared -> Prop} (I:Inv X pins σ H s) (F:xI H s.heap a C dx)
  (h:∀ s',Inv X pins σ H s' -> xI H s'.heap a C dx -> Q () s'):wpAny (model X.prog X.w) X.A (setFlight (.ref a) x) Q E s:=by
 obtain ⟨o,vs,T,ho,hv,h1,hT,ne⟩:=F.tb
 unfold setFlight
 obtain ⟨⟨oT,ts,hoT,hdT,hz⟩,_,_⟩:=I.hok T _ hT
 refine wpAny_bind (wpAny_field ho hv h1 ?_)
 rw [if_pos (show (Value.ref T != Value.none) = true from by simp)]
 refine wpAny_setField hoT hdT hz ?_
 exact h _ (yu I hT) ⟨F.exc,o,vs,T,(Heap.get?_update_other _ _ ne).trans ho,hv,h1,hT,ne⟩
end
def CXE (P:Program) (w:World):CXT:=fun outer H s E e s'=>∃ a C dx H',e = .ref a /\ s'.os = s.os /\ AllBare s'.gens /\ Un (frs outer) [] H H' s.heap s'.heap /\ HOk P w H' s'.heap /\ Fly H' s'.heap a C dx /\ E (.ref C) (some a) H'
abbrev XW:=Value -> Option Addr -> St -> Hp -> Prop
def Thr (X:Cx) (W:XW):Prop:=∀ (pins:List (Addr × Obj)) (σ:St) (H:Hp) (s:Shared) (a C:Addr) (dx:Option Addr),Inv X pins σ H s -> Fly H s.heap a C dx -> W (.ref C) (some a) σ H -> X.xe (.ref a) s
section
variable {CX:CXT} {P:Program} {w:World} {K:PySem.W.Frag} {mg:Str -> Option Value} {base:Heap} {N:List Str} {qual:Str} {scope:Scope} {f:Addr} {cd:Value} {A:Around} {outer:List Env} {s₀:Shared} {H₀:Hp} {E:XK}
theorem aI:Thr (nL (CXE P w) P w K mg base N qual scope f cd A outer s₀ H₀ E) (fun C a _ H=>∀ H',aF H H' -> E C a H'):=by
 intro pins σ H s a C dx I F hw
 show wpAny _ _ (leaving _ _) _ _ s
 unfold leaving
 refine wpAny_bind (Bn I ⟨rfl,rfl⟩ F fun s1 H1 I1 g1 F1=>?_)
 refine xq I1 F1 fun s2 I2 F2=>?_
 exact ⟨a,C,dx,H1,rfl,I2.os,I2.bare,I2.base,I2.hok,F2.fly,hw H1 g1⟩
theorem fZ:PassesOwn (model P w) (nL (CXE P w) P w K mg base N qual scope f cd A outer s₀ H₀ E).A (nL (CXE P w) P w K mg base N qual scope f cd A outer s₀ H₀ E).env (nL (CXE P w) P w K mg base N qual scope f cd A outer s₀ H₀ E).xe:=by
 show PassesOwn (model P w) (A.deeper (envOfC qual scope s₀.heap.objs.size f cd)) (envOfC qual scope s₀.heap.objs.size f cd) (fun e s'=>wpAny (model P w) (A.deeper (envOfC qual scope s₀.heap.objs.size f cd)) (leaving (envOfC qual scope s₀.heap.objs.size f cd) e) (fun _ s''=>CXE P w outer H₀ s₀ E e s'') (fun e' s''=>CXE P w outer H₀ s₀ E e' s'') s')
 passes_own
end
section
variable {X:Cx} {k:Nat} {f:Addr} {fd:FuncData} {ps:List Str} {sp:Sp} {dvs:List V} {ds:List Value} {W:XW} {x m:Str} {p pos apos:Pos} {e o:Expr} {es:List Expr} {ta:TE} {t:TA}
def qf (sp:Sp) (dvs:List V) (W:XW) (t:TA):TE:=fun σ H Q=>t σ H fun vs H1=>sp (vs ++ dvs) H1 Q fun C a H'=>W C a σ H'
theorem pw {pins:List (Addr × Obj)} {σ:St} {H:Hp} {s:Shared} {Q:VK} {us:List Value} {vs:List V} (F:b0 X.prog X.w X.K X.mg X.base (CXE X.prog X.w) k f fd ps sp) (hr:gj k X.A) (hb:Binds X.K fd ps ds) (hd:Vals dvs ds) (hx:Thr X W)
  (I:Inv X pins σ H s) (r:Vals vs us) (h:sp (vs ++ dvs) H Q fun C a H'=>W C a σ H'):wpAny (model X.prog X.w) X.A (call (.ref f) us) (EP X pins σ Q) X.xe s:=by
 have r2:Vals (vs ++ dvs) (us ++ ds):=r.append hd
 have hl:(us ++ ds).length = ps.length:=by rw [<- r2.length]; exact F.len _ _ _ _ h
 refine wpAny_call (codeAny_mono (F.run X.A X.stack s H ⟨us,[]⟩ (us ++ ds) (vs ++ dvs) Q _ hr I.Er (hb s us I.kIn hl) r2 h) fun r s' hq=>?_)
 cases r with
 | error e=>
   obtain ⟨a,C,dx,H',rfl,ho,bare,un,hok,fl,hw⟩:=hq
   exact hx pins σ H' s' a C dx (I.BS ho un hok bare fun b z=>absurd z (by simp)) fl hw
 | ok fl=>
   cases fl with
   | ret u=>exact I.after hq
   | next=>exact False.elim hq
   | brk=>exact False.elim hq
   | cont=>exact False.elim hq
theorem yN (F:b0 X.prog X.w X.K X.mg X.base (CXE X.prog X.w) k f fd ps sp) (hr:gj k X.A) (hg:Gl X x) (hm:X.mg x = some (.ref f)) (hk:PySem.W.keepIn X.K (.ref f) = true) (hb:Binds X.K fd ps ds) (hd:Vals dvs ds) (hx:Thr X W)
  (ha:PA X (e ::es) t) (hdb:(x == ("__debug__":Str)) = false:=by decide) (he:starEach (e ::es) X.env = (false,eval e X.env) ::starEach es X.env:=by rfl) (hpl:(backTo pos (starEach es X.env)).any (·.1) = false:=by rfl):
  PE X (.Call (.Name x p) (e ::es) [] pos) (qf sp dvs W t):=by
 intro pins s σ H Q I h
 refine wpAny_Call_Name_kw (mm I hg hm ?_ hdb)
 refine PySem.W.callWith_K (h₀:=X.base) I.ok.mod.kin hk (thn (ha pos pins s σ H _ I h) fun us s1 ⟨vs,H1,I1,r,q⟩=>⟨I1.kIn,?_⟩) he hpl
 exact pw F hr hb hd hx I1 r q
theorem xr (F:b0 X.prog X.w X.K X.mg X.base (CXE X.prog X.w) k f fd ps sp) (hr:gj k X.A) (hg:Gl X x) (hm:X.mg x = some (.ref f)) (hk:PySem.W.keepIn X.K (.ref f) = true) (hb:Binds X.K fd ps ds) (hd:Vals dvs ds) (hx:Thr X W)
  (hdb:(x == ("__debug__":Str)) = false:=by decide):PE X (.Call (.Name x p) [] [] pos) (qf sp dvs W kU):=by
 intro pins s σ H Q I h
 refine wpAny_Call_Name_kw (mm I hg hm ?_ hdb)
 exact PySem.W.callWith_K0 I.kIn hk (pw (us:=[]) F hr hb hd hx I .nil h)
end
end L2.E
namespace L2.E
open PySem PySem.Spec PyProof.Rows
theorem zq {P:Program} {w:World} {H:Hp} {h:Heap} {a:Addr} {o:HO} (x:hX P w H h a o):∃ u,h.get? a = some u:=by
 cases o with
 | lst xs=>obtain ⟨_,_,_,_,e⟩:=x; exact ⟨_,e⟩
 | tup xs=>obtain ⟨_,_,_,u,e,_⟩:=x; exact ⟨_,e⟩
 | dK kvs=>obtain ⟨_,_,_,_,o,_,_,e,_⟩:=x; exact ⟨_,e⟩
 | dT kvs=>obtain ⟨_,_,_,_,o,_,_,e,_⟩:=x; exact ⟨_,e⟩
 | set S n=>obtain ⟨o,_,_,_,e,_⟩:=x; exact ⟨_,e⟩
 | ins C dx fs=>obtain ⟨_,_,_,e,_⟩:=x; exact ⟨_,e⟩
 | own y=>exact x
 | xd fs=>obtain ⟨_,⟨_,_,_,e,_⟩,_⟩:=x; exact ⟨_,e⟩
 | rng lo hi=>obtain ⟨_,_,_,e⟩:=x; exact ⟨_,e⟩
 | frz ob u=>obtain ⟨e,_⟩:=x; exact ⟨_,e⟩
 | tbl ps=>exact ⟨_,x⟩
 | met f y=>exact ⟨_,x⟩
 | ext φ=>exact x.2.1
section
variable {X:Cx} {pins:List (Addr × Obj)} {σ:St} {H:Hp} {s:Shared} {h':Heap} {a:Addr} {o:HO}
theorem tI (I:Inv X pins σ H s) (hn:s.heap.get? a = none):H a = none:=by
 cases q:H a with
 | none=>rfl
 | some u=>
   obtain ⟨v,e⟩:=zq (I.hok a u q)
   rw [hn] at e; cases e
theorem BX (I:Inv X pins σ H s) (k:∀ b u,s.heap.get? b = some u -> h'.get? b = some u) (hn:s.heap.get? a = none) (new:hX X.prog X.w (upd H a o) h' a o):
  Inv X pins σ (upd H a o) { s with heap:=h' }:=by
 have fr:=tI I hn
 have ne:∀ b u,s.heap.get? b = some u -> b ≠ a:=fun b u q z=>by rw [z,hn] at q; cases q
 have un:Un X.fs [] H (upd H a o) s.heap h':=⟨fun b u q _ _ _=>k b u q,fun b u q _ _ _=>⟨u.slots,k b u q⟩,fun b u q n _=>by rw [aW (ne b u q)]; exact n,fun b u q _=>⟨u,k b u q⟩,
  fun b xs q=>by rw [aW (cF q fr)]; exact q,fun b u xs q=>by rw [aW (cF q fr)]; exact q,fun b ps q=>⟨#[],by rw [aW (cF q fr),q]; simp⟩⟩
 refine I.un (t':=s.toks) un fun b u q=>?_
 by_cases hb:b = a
 . subst hb
   rw [ba] at q; cases q
   exact new
 . rw [aW hb] at q
   exact (I.hok b u q).nT (fun c v _ z=>k c v z) (fun c z=>by rw [aW (cF z fr)]; exact z) fun c xs z=>by rw [aW (cF z fr)]; exact z
end
def vF (C:Addr) (W:XW) (t:TA):TS:=fun D σ H=>t σ H fun vs H1=>vs.length <= sizeLine /\ ∀ a,H1 a = none -> W (.ref C) (some a) σ (upd H1 a (nM a C none))
theorem wH {K:PySem.W.Frag} {h₀:Heap} {mg:Str -> Option Value} {x:Str} {C:Addr} {bmB:List Value} {newId:String} (X:K.In h₀) (e:mg x = some (.ref C)) (q:PySem.W.excIn K C bmB newId = true):
  OwnCls x C bmB newId mg h₀:=by
 refine ⟨e,?_⟩
 unfold PySem.W.excIn at q
 split at q
 next dd cd sl ho=>
  split at q
  next C' bm k0 k1 k2 k3 n k5 hm hs=>
   simp only [Bool.and_eq_true,beq_iff_eq,Bool.not_eq_true'] at q
   obtain ⟨⟨⟨⟨⟨e1,e2⟩,del⟩,ht⟩,ok⟩,ini⟩:=q
   subst e1 e2
   cases cd with
   | mk nm bs mro ns qn hd sn sub ab col dl=>
     dsimp only at hm del ok ini
     subst hm del
     have z:sl = #[k0,k1,k2,k3,some (.builtin n),k5]:=by cases sl; simp only at hs; rw [hs]
     subst z
     exact ⟨bm,ns,nm,qn,bs,hd,sn,sub,ab,col,dd,k0,k1,k2,k3,k5,_,X _ _ ho,.of_isNs (PySem.W.isNs_of_in X ok),PySem.W.nsMap_none_of_in X ok ini,PySem.W.tail_of_in X ht⟩
  next=>cases q
 next=>cases q
theorem Ba {X:Cx} {pins:List (Addr × Obj)} {σ:St} {H:Hp} {s:Shared} {h':Heap} {e C:Addr} {us:List Value} (I:Inv X pins σ H s) (hm:Heap.MadeExcOf s.heap h' e (.ref C) us):
  H e = none /\ Inv X pins σ (upd H e (nM e C none)) { s with heap:=h' } /\ Fly (upd H e (nM e C none)) h' e C none:=by
 obtain ⟨t,he,_,_⟩:=hm.there
 refine ⟨tI I hm.new,BX I hm.keeps hm.new (v5 ⟨_,_,he,rfl,rfl,rfl,rfl⟩),ba,_,_,he,rfl,.inl rfl⟩
section
variable {X:Cx} {x:Str} {np cpos pos:Pos} {e₀:Expr} {rest:List Expr} {t:TA} {W:XW} {C:Addr} {B newId initId:String} {bm:List Value}
theorem zk (hT:Thr X W) (hh:X.A.handled = none) (FB:ExcBaseFacts B newId initId bm) (hg:Gl X x) (hm:X.mg x = some (.ref C)) (hC:PySem.W.excIn X.K C bm newId = true) (ha:PA X (e₀ ::rest) t)
  (he:starEach (e₀ ::rest) X.env = (false,eval e₀ X.env) ::starEach rest X.env:=by rfl) (hpl:(backTo cpos (starEach rest X.env)).any (·.1) = false:=by rfl) (hd:(x == ("__debug__":Str)) = false:=by decide):
  PS X (.Raise (some (.Call (.Name x np) (e₀ ::rest) [] cpos)) none pos) (vF C W t):=by
 intro pins s σ H D I h
 have O:=wH I.mod.kin hm hC
 obtain ⟨tl,N,nm,q,bs,hdct,sn,sub,ab,col,dd,k0,k1,k2,k3,k5,mN,hc,hN,hni,T⟩:=O.obj
 refine wpAny_Raise_call_subT (nm:=nm) (q:=q) (N:=N) (bs:=bs) (hdct:=hdct) (sn:=sn) (sub:=sub)
  (ab:=ab) (col:=col) (dd:=dd) (k0:=k0) (k1:=k1) (k2:=k2) (k3:=k3) (k5:=k5) (mN:=mN) FB (T.hasType FB.hasBase) hh ?_ hni (mm I hg hm ⟨rfl,?_⟩ hd)
 . rw [he]
   show (false || (backTo cpos (starEach rest X.env)).any (·.1)) = false
   rw [hpl]; rfl
 . have hsp:=ha cpos pins s σ H _ I h
   rw [he] at hsp ⊢
   refine Calls.evalArgs_plain (wpAny_mono hsp (fun us s2 ⟨vs,H2,I2,r,z,w⟩=>⟨rfl,by rw [<- r.length]; exact z,I2.bk _ _ hc,hN.keeps I2.bk,T.keeps I2.bk,fun h' e hm=>?_⟩) fun _ _ y=>y)
   obtain ⟨f1,f2,f3⟩:=Ba I2 hm
   exact hT pins σ _ _ e C none f2 f3 (w e f1)
end
def uN (K:PySem.W.Frag) (C:Addr) (bm:List Value):Prop:=bm.contains (.type "BaseException") = true /\ ∃ nm q N bs hdct sn sub ab col dd k0 k1 k2 k3 k5 newId,K.lookup C = some (excClassObj nm q C N bs bm hdct sn sub ab col dd k0 k1 k2 k3 k5 newId)
def EU (K:PySem.W.Frag) (T C:Addr) (b:Bool):Prop:=∃ bmC bmT,uN K C bmC /\ uN K T bmT /\ (Value.ref C ::bmC).contains (.ref T) = b
end L2.E
namespace L2.E
open PySem PySem.Spec PyProof.Rows
end L2.E
namespace L2.E
open PySem PySem.Spec PyProof.Rows
abbrev blk (X:Cx) (scope:Scope) (cl:List (Str × Addr)) (N:List Str) (C:Addr) (s₀:Shared) (H₀:Hp) (ex:List Addr):Cx:=
 { prog:=X.prog,w:=X.w,K:=X.K,mg:=X.mg,base:=X.base,A:=X.A,N:=N,s₀:=s₀,H₀:=H₀,env:=compEnvC scope cl C X.env,outer:=X.stack,stack:=X.stack,ex:=ex,fn:=fun _=>false,calm:=X.calm,pn:=[],xe:=fun _ _=>False }
theorem yZ {X:Cx}:Thr X (fun _ _ _ _=>False):=fun _ _ _ _ _ _ _ _ _ h=>h.elim
structure ni (X:Cx) (scope:Scope) (cl:List (Str × Addr)) (M:List Str) (ι:List Nat) (x:Str):Prop where
 clos:closureFor scope X.env = pure cl
 kind:scope.kind = .function
 nocell:(scope.names.all fun p=>p.2 != .cell) = true
 locs:(scope.names.all fun p=>p.2 != .local || scope.names.lookup p.1 == some .local) = true
 var:scope.names.lookup x = some .local
 names:M.map some = ι.map fun i=>X.N[i]?
 cells:M.map (fun y=>scope.names.lookup y) = M.map fun _=>some .free
 kinds:M.map X.env.kindOf = M.map fun _=>some .cell
 same:M.map (fun y=>cl.lookup y) = M.map fun y=>X.env.cells.lookup y
 sub:cl.map (fun p=>X.env.cells.lookup p.1) = cl.map fun p=>some p.2
 all:(scope.names.all fun p=>!(p.2 == .free) || (cl.lookup p.1).isSome) = true
 nd:(M ++ [x]).Nodup
theorem sY {α β:Type} {f g:α -> β} {l:List α} (h:l.map f = l.map g) {a:α} (ha:a ∈ l):f a = g a:=by
 induction l with
 | nil=>cases ha
 | cons b r ih=>
   rw [List.map_cons,List.map_cons] at h
   injection h with h1 h2
   rcases List.mem_cons.mp ha with z | z
   . rw [z]; exact h1
   . exact ih h2 z
theorem sN {scope:Scope} {env:Env} {y:Str} (h:scope.names.lookup y = some .free):(relabel scope env).names.lookup y = some .cell \/ (relabel scope env).names.lookup y = some .free:=by
 unfold relabel
 dsimp only
 generalize scope.names = l at h
 induction l with
 | nil=>cases h
 | cons p r ih=>
   obtain ⟨n,k⟩:=p
   rw [List.lookup_cons] at h
   rw [List.map_cons]
   by_cases e:(y == n) = true
   . rw [e] at h
     have hk:k = .free:=Option.some.inj h
     subst hk
     dsimp only
     split
     . rw [List.lookup_cons,e]; exact .inl rfl
     . rw [List.lookup_cons,e]; exact .inr rfl
   . have e':(y == n) = false:=by simpa using e
     rw [e'] at h
     dsimp only
     split
     . rw [List.lookup_cons,e']; exact ih h
     . rw [List.lookup_cons,e']; exact ih h
theorem rX {scope:Scope} {env:Env} {y:Str} (hc:(scope.names.all fun p=>p.2 != .cell) = true) (h:(relabel scope env).names.lookup y = some .cell \/ (relabel scope env).names.lookup y = some .free):∃ p ∈ scope.names,p.1 = y /\ p.2 = .free:=by
 unfold relabel at h
 dsimp only at h
 generalize scope.names = l at h hc
 induction l with
 | nil=>rcases h with h | h <;> cases h
 | cons p r ih=>
   obtain ⟨n,k⟩:=p
   rw [List.all_cons,Bool.and_eq_true] at hc
   rw [List.map_cons] at h
   by_cases e:(y == n) = true
   . refine ⟨(n,k),List.mem_cons_self,(beq_iff_eq.mp e).symm,?_⟩
     dsimp only at h ⊢
     split at h
     . rename_i c
       simp only [Bool.and_eq_true,beq_iff_eq] at c
       exact c.1.1
     . rw [List.lookup_cons,e] at h
       have hk:(k != NameKind.cell) = true:=hc.1
       rcases h with h | h
       . have:k = .cell:=Option.some.inj h
         subst this
         exact absurd hk (by decide)
       . exact Option.some.inj h
   . have e':(y == n) = false:=by simpa using e
     have h':(List.map (fun x=>match x with | (n,k)=>if (k == NameKind.free && env.scope.kind == ScopeKind.function && env.kindOf n == some NameKind.cell) = true then (n,NameKind.cell) else (n,k)) r).lookup y = some .cell \/
       (List.map (fun x=>match x with | (n,k)=>if (k == NameKind.free && env.scope.kind == ScopeKind.function && env.kindOf n == some NameKind.cell) = true then (n,NameKind.cell) else (n,k)) r).lookup y = some .free:=by
      dsimp only at h
      split at h
      . rw [List.lookup_cons,e'] at h; exact h
      . rw [List.lookup_cons,e'] at h; exact h
     obtain ⟨q,hq,z⟩:=ih h' hc.2
     exact ⟨q,List.mem_cons_of_mem _ hq,z⟩
def pick (ι:List Nat) (σ:St):St:=ι.map fun i=>(σ[i]?).join
def uB (wi:TI) (ι:List Nat) (te:TE):TE:=fun σ H Q=>wi σ H fun J H1=>∀ D,H1 D = none -> ∃ W:Nat -> Nat -> List V -> Hp -> Prop,(∃ m,W 0 m [] (upd H1 D (.lst []))) /\ ∀ i m ys H,W i m ys H ->
 H D = some (.lst ys) /\ ((J.stop i H /\ Q (.ref D) H) \/ (J.go i H /\ ∀ x H',J.yld i H x H' -> te (pick ι σ ++ [some x]) H' fun y H2=>H2 D = some (.lst ys) /\ ys.length < sizeLine /\ ∃ m',m' < m /\ W (i + 1) m' (ys ++ [y]) (upd H2 D (.lst (ys ++ [y])))))
section
variable {X:Cx} {scope:Scope} {cl:List (Str × Addr)} {M:List Str} {ι:List Nat} {x:Str}
theorem ni.pS (S:ni X scope cl M ι x) {y:Str} {c:Addr} (h:cl.lookup y = some c):X.env.cells.lookup y = some c:=sY S.sub (PySem.mem_of_lookup h)
theorem yT {pins:List (Addr × Obj)} {σ:St} {H:Hp} {s:Shared} {h₁:Heap} {t':Nat} {ex:List Addr} (S:ni X scope cl M ι x) (I:Inv X pins σ H s) (hex:∀ b ∈ ex,oz X pins H b /\ b < s.heap.objs.size) (hn:h₁.Ns s.heap.objs.size (fun _=>none))
  (hk:∀ b o,s.heap.get? b = some o -> h₁.get? b = some o):Inv (blk X scope cl (M ++ [x]) s.heap.objs.size s H ex) [] (pick ι σ ++ [none]) H { s with heap:=h₁,toks:=t' }:=by
 have noM:∀ b:Addr,b ∈ ex -> b ≠ s.heap.objs.size:=fun b hb=>Nat.ne_of_lt (hex b hb).2
 have fsx:∀ b ∈ ex,b ∉ frs X.stack:=fun b hb z=>by
  obtain ⟨⟨_,f1,f2,_⟩,_⟩:=hex b hb
  rcases List.mem_cons.mp (I.vA b z) with e | e
  . exact f1 e
  . exact f2 e
 have base0:∀ b o,X.base.get? b = some o -> b ∉ ex:=fun b o e z=>by
  obtain ⟨⟨_,_,_,f3,_⟩,_⟩:=hex b z
  rcases f3 with f | f
  . exact I.ok.noex b o e f
  . exact absurd (Nat.lt_of_lt_of_le (Heap.lt_size e) (Nat.le_trans I.ok.bsz f)) (Nat.lt_irrefl _)
 refine ⟨⟨I.ok.mod,S.kind,I.ok.glob,I.ok.blt,Nat.le_refl _,fun y z c h1 h2=>I.ok.inj y z c (S.pS h1) (S.pS h2),fun y hy=>?_,fun y c z=>absurd z Bool.false_ne_true,I.ok.hd,I.ok.frames,.inl rfl,
  fun b hb=>⟨noM b hb,fun y c h z=>(hex b hb).1.2.2.2.2.1 y c (S.pS h) z⟩,I.bs,Nat.le_trans I.ok.bsz I.sz,base0,fsx,I.stack,I.sk⟩,
  rfl,I.bare,Un.kept hk,⟨_,hn,fun i y v e1 e2 e3=>?_⟩,fun y c h=>?_,I.fresh,fun y c h=>?_,fun p hp=>absurd (show p ∈ ([]:List (Addr × Obj)) from hp) (by simp),I.hok.kept hk,?_⟩
 . obtain ⟨p,hp,rfl,hpf⟩:=rX S.nocell hy
   have q:=List.all_eq_true.mp S.all p hp
   rw [hpf] at q
   have q':(cl.lookup p.1).isSome = true:=by
    cases e:(cl.lookup p.1).isSome with
    | true=>rfl
    | false=>rw [e] at q; exact absurd q (by decide)
   exact Option.isSome_iff_exists.mp q'
 . have hiM:i < M.length:=by
    by_cases hlt:i < M.length
    . exact hlt
    . exfalso
      have hl:(pick ι σ).length = M.length:=by
       have q:=congrArg List.length S.names
       rw [List.length_map,List.length_map] at q
       unfold pick
       rw [List.length_map,q]
      rw [List.getElem?_append_right (by omega),hl] at e2
      have:i - M.length = 0 \/ 1 <= i - M.length:=by omega
      rcases this with z | z
      . rw [z] at e2; cases e2
      . rw [List.getElem?_eq_none (by simpa using z)] at e2; cases e2
   have hl:ι.length = M.length:=by
    have q:=congrArg List.length S.names
    rw [List.length_map,List.length_map] at q
    exact q.symm
   rw [List.getElem?_append_left hiM] at e1
   have hyM:y ∈ M:=List.mem_of_getElem? e1
   have e2':((σ[ι[i]]?).join) = some v:=by
    rw [List.getElem?_append_left (by unfold pick; rw [List.length_map]; omega)] at e2
    unfold pick at e2
    rw [List.getElem?_map,List.getElem?_eq_getElem (by omega)] at e2
    exact Option.some.inj e2
   have e4:σ[ι[i]]? = some (some v):=by
    cases q:σ[ι[i]]? with
    | none=>rw [q] at e2'; cases e2'
    | some w=>rw [q] at e2'; exact congrArg some e2'
   have e5:X.N[ι[i]]? = some y:=by
    have q:=congrArg (fun l=>l[i]?) S.names
    rw [List.getElem?_map,List.getElem?_map,e1,List.getElem?_eq_getElem (by omega)] at q
    exact (Option.some.inj q).symm
   have kc:X.env.kindOf y = some .cell:=sY S.kinds hyM
   obtain ⟨m,hm,hl⟩:=I.loc
   obtain ⟨u,r,q⟩:=hl _ y v e5 e4 (.inr (.inl kc))
   refine ⟨u,r,.inr ⟨?_,?_⟩⟩
   . exact sN (sY S.cells hyM)
   . rcases q with ⟨k,_⟩ | ⟨_,c,e,o,ho,hd⟩
     . rw [kc] at k; cases k
     . exact ⟨c,(sY S.same hyM).trans e,o,hk _ _ ho,hd⟩
 . obtain ⟨v,o,ho,hd⟩:=I.cell y c (S.pS h)
   exact ⟨v,o,hk _ _ ho,hd⟩
 . exact I.freeC y c (S.pS h)
 . have q:=congrArg List.length S.names
   rw [List.length_map,List.length_map] at q
   show (pick ι σ ++ [none]).length = (M ++ [x]).length
   unfold pick
   rw [List.length_append,List.length_append,List.length_map,q]
   rfl
theorem xb {pins:List (Addr × Obj)} {σ σ':St} {H H':Hp} {s s':Shared} {h':Heap} {ex:List Addr} {C:Addr} (I:Inv X pins σ H s) (hC:C = s.heap.objs.size) (hex:∀ b ∈ ex,oz X pins H b) {N:List Str} (J:Inv (blk X scope cl N C s H ex) [] σ' H' s')
  (hs:Heap.SameBut C s'.heap h'):Inv X pins σ H' { s' with heap:=h' }:=by
 subst hC
 have K:Inv X pins σ H' s':=I.BS (ch:=ex) J.os J.base J.hok J.bare fun b hb=>by
  obtain ⟨_,f1,_,f3,f4,f5⟩:=hex b hb
  exact ⟨f3,f1,f4,f5⟩
 refine K.turned (t':=s'.toks) (it:=s.heap.objs.size) (fun b o hb e=>(hs.2 b hb).trans e) J.free (Nat.ne_of_gt I.lt) (.inr I.sz) (fun y c e z=>?_) (fun p hp z=>?_)
 . obtain ⟨v,q⟩:=I.cell y c e
   exact absurd (z ▸ q.lt) (Nat.lt_irrefl _)
 . exact absurd (z ▸ Heap.lt_size (I.pin p hp).1) (Nat.lt_irrefl _)
theorem xS (elt target iter:Expr) (scope:Scope) (pos:Pos) (it acc:Value) (env:Env):
  compTurn (.ListComp elt [⟨target,iter,[],0⟩] scope pos) 0 it acc env = (do
   standAt iter.pos
   match <- pyNext it with
   | none=>pure (.done .next)
   | some v=>do
     letOwnedTupleGo target it v
     assign target env v
     (do let x <- eval elt env; let _ <- call (.builtin "list.append") [acc,x]; pure ())
     again (.compLoop (.ListComp elt [⟨target,iter,[],0⟩] scope pos) 0 it acc env)):=by rfl
theorem Bc {elt iter:Expr} {px pos:Pos} {wi:TI} {te:TE} (S:ni X scope cl M ι x) (hc:X.calm = true) (hi:PI X (.Name x px) iter wi) (he:∀ C s₀ H₀ ex,PE (blk X scope cl (M ++ [x]) C s₀ H₀ ex) elt te)
  (hs:∀ v,foldedSetIterable iter X.env v = pure v:=by intro _; rfl):PE X (.ListComp elt [⟨.Name x px,iter,[],0⟩] scope pos) (uB wi ι te):=by
 intro pins s σ H Q I h
 rw [eval_ListComp]
 refine wpAny_comprehension_free (use:=none) rfl hs S.clos S.kind (fun y hy hl=>?_) (wpAny_mono (hi pins s σ H _ I h) (fun v s1 h1=>wpAny_mono h1 (fun itv s2 h2=>?_) fun _ _ z=>z) fun _ _ z=>z)
 . have q:=List.all_eq_true.mp S.locs y hy
   rw [hl] at q
   simpa using q
 obtain ⟨it,fp,tn,J,H2,rfl,I2,T,st2,f2,hW⟩:=h2
 have I3:=I2.Ew (ys:=[]) (its:=[]) (t':=s2.toks) .nil (Nat.zero_le _)
 obtain ⟨W,⟨m0,w0⟩,turn⟩:=hW s2.heap.objs.size I2.fresh
 have fpo:∀ b ∈ fp,b < s2.heap.objs.size:=fun b hb=>let ⟨_,e,_⟩:=T.obj _ _ st2 b hb; Heap.lt_size e
 have f3:∀ b ∈ fp,oz X pins (upd H2 s2.heap.objs.size (.lst [])) b:=fun b hb=>by
  obtain ⟨q0,q⟩:=f2 b hb
  exact ⟨by rw [aW (Nat.ne_of_lt (fpo b hb))]; exact q0,q⟩
 show wpAny _ _ (newObj (.type "list") _ none) _ _ s2
 refine wpAny_newObj_type (wpAny_newFunctionEnv (fun y hy=>?_) (by intro y hy; simp at hy) (fun h₁ hn₁ sb₁=>?_) S.kind)
 . have q:=List.all_eq_true.mp S.nocell y hy
   simpa using q
 have hsz:(s2.heap.push { cls:=.type "list",dict:=none,data:=.seq ([]:List Value).toArray }).objs.size = s2.heap.objs.size + 1:=Heap.size_push ..
 have hk₁:∀ b o,(s2.heap.push { cls:=.type "list",dict:=none,data:=.seq ([]:List Value).toArray }).get? b = some o -> h₁.get? b = some o:=fun b o e=>
  (sb₁.2 b (Nat.ne_of_lt (Heap.lt_size e))).trans (Heap.get?_push_of_some _ e)
 have J0:=yT (t':=s2.toks + ([]:List (Str × Value)).length) S I3 (ex:=fp) (fun b hb=>⟨f3 b hb,Nat.lt_of_lt_of_le (fpo b hb) (by rw [hsz]; exact Nat.le_succ _)⟩) hn₁ hk₁
 have old:∀ b ∈ fp,∀ o,s2.heap.get? b = some o -> h₁.get? b = some o:=fun b _ o e=>hk₁ b o (Heap.get?_push_of_some _ e)
 have st₁:tn 0 h₁:=T.keep _ _ _ st2 old
 have loop:codeAny (model X.prog X.w) X.A (.compLoop (.ListComp elt [⟨.Name x px,iter,[],0⟩] scope pos) 0 (.ref it) (.ref s2.heap.objs.size) (compEnvC scope cl (s2.heap.objs.size + 1) X.env))
   (compPost (model X.prog X.w) X.A X.xe none (EP X pins σ Q) (.ref s2.heap.objs.size) (s2.heap.objs.size + 1)) { s2 with heap:=h₁,toks:=s2.toks + ([]:List (Str × Value)).length }:=by
  rw [hsz] at J0
  refine codeAny_loop rfl (fun n s'=>∃ i H' ys v,Inv (blk X scope cl (M ++ [x]) (s2.heap.objs.size + 1) { s2 with heap:=s2.heap.push { cls:=.type "list",data:=.seq ([]:List Value).toArray },toks:=s2.toks } (upd H2 s2.heap.objs.size (.lst [])) fp) [] (pick ι σ ++ [v]) H' s' /\ tn i s'.heap /\ (∀ b ∈ fp,H' b = none) /\ W i n ys H')
   (fun n s' hI=>?_) m0 ⟨0,_,[],none,J0,st₁,fun b hb=>(f3 b hb).1,w0⟩
  obtain ⟨i,H',ys,v,J',st',fr',w'⟩:=hI
  obtain ⟨hD,alt⟩:=turn i n ys H' w'
  have fpY:∀ {G:Hp},(∀ b ∈ fp,G b = none) -> ∀ b ∈ fp,oz (blk X scope cl (M ++ [x]) (s2.heap.objs.size + 1) { s2 with heap:=s2.heap.push { cls:=.type "list",data:=.seq ([]:List Value).toArray },toks:=s2.toks } (upd H2 s2.heap.objs.size (.lst [])) fp) [] G b:=fun hG b hb=>
   ⟨hG b hb,(J'.ok.exf b hb).1,J'.ok.exfs b hb,.inl hb,(J'.ok.exf b hb).2,fun p hp=>absurd (show p ∈ ([]:List (Addr × Obj)) from hp) (by simp)⟩
  show wpAny _ _ ((compTurn _ 0 (.ref it) (.ref s2.heap.objs.size) (compEnvC scope cl (s2.heap.objs.size + 1) X.env)).onRaise _) _ _ s'
  refine wpAny_noted (wpAny_noRaise ?_)
  rw [xS]
  refine wpAny_bind (wpAny_standAt (wpAny_bind ?_))
  rcases alt with ⟨stop,qn⟩ | ⟨go,step⟩
  . refine thn (T.done (blk X scope cl (M ++ [x]) (s2.heap.objs.size + 1) _ _ fp) rfl rfl rfl hc i [] s' _ H' _ J' (fpY fr') st' stop) fun r s4 ⟨hr,J4⟩=>?_
    subst hr
    refine wpAny_pure ?_
    obtain ⟨m,hm,_⟩:=id J4.loc
    refine ⟨m,hm,fun h' sb=>⟨.ref s2.heap.objs.size,H',xb I3 hsz.symm f3 J4 sb,rfl,qn⟩⟩
  . refine thn (T.item (blk X scope cl (M ++ [x]) (s2.heap.objs.size + 1) _ _ fp) rfl rfl rfl hc i [] s' _ H' _ J' (fpY fr') st' go) fun r s4 ⟨u,hr,h4⟩=>?_
    subst hr
    refine wpAny_bind (thn h4 fun _ s5 ⟨z,H5,J5,r5,y5,st5,fr5⟩=>?_)
    have J5':=J5.pinned (fpY fr5) (T.obj _ _ st5)
    have hxN:(M ++ [x])[M.length]? = some x:=by simp
    refine wpAny_bind ?_
    refine wpAny_assign_Name ?_
    refine lN (X:=blk X scope cl (M ++ [x]) (s2.heap.objs.size + 1) _ _ fp) (i:=M.length) (v:=z) J5' S.nd hxN (.inl (lookup_relabel_local S.var)) r5 (fun s6 J6=>?_) (.inr (lookup_relabel_local S.var))
    have hlp:(pick ι σ).length = M.length:=by
     have q:=congrArg List.length S.names
     rw [List.length_map,List.length_map] at q
     unfold pick
     rw [List.length_map,q]
    have hset:(pick ι σ ++ [v]).set M.length (some z) = pick ι σ ++ [some z]:=by
     rw [<- hlp,List.set_append_right _ _ (Nat.le_refl _),Nat.sub_self]
     rfl
    rw [hset] at J6
    refine wpAny_bind (wpAny_bind (thn (he _ _ _ _ _ s6 _ H5 _ J6 (step z H5 y5)) fun yv s7 ⟨y,H7,J7,r7,hD7,hz7,m',hm',w7⟩=>?_))
    refine wpAny_bind (thn (ib (X:=blk X scope cl (M ++ [x]) (s2.heap.objs.size + 1) _ _ fp) _ s7 _ H7 (.ref s2.heap.objs.size) [y] (.ref s2.heap.objs.size) [yv] (fun _ G=>G = upd H7 s2.heap.objs.size (.lst (ys ++ [y]))) J7 rfl (.cons r7 .nil) ⟨_,_,y,rfl,rfl,hD7,hz7,rfl⟩) fun _ s8 ⟨_,H8,J8,_,e8⟩=>?_)
    subst e8
    refine wpAny_pure (wpAny_pure ⟨rfl,m',hm',i + 1,_,_,some z,J8.jQ,?_,fun b hb=>?_,w7⟩)
    . exact T.keep _ _ _ st5 fun b hb o e=>(J8.pin (b,o) (List.mem_append_right _ (List.mem_append_right _ (fW hb e)))).1
    . obtain ⟨o,e,d⟩:=T.obj _ _ st5 b hb
      exact (J8.pin (b,o) (List.mem_append_right _ (List.mem_append_right _ (fW hb e)))).2.1
 rw [hsz] at *
 exact codeAny_compStart_list loop (T.self X.A 0 _ _ _ st₁ loop)
end
end L2.E
namespace L2.E
open PySem PySem.Spec PyProof.Rows
section
variable {X:Cx}
def IsV (K:PySem.W.Frag) (T:String) (x:V) (H:Hp) (b:Bool):Prop:=match x with
 | .int _=>(T = "int" /\ b = true) \/ (T = "bool" /\ b = false) \/ (T = "list" /\ b = false) \/ (T = "tuple" /\ b = false) \/ (T = "str" /\ b = false)
 | .bl _=>(T = "int" /\ b = true) \/ (T = "bool" /\ b = true) \/ (T = "list" /\ b = false) \/ (T = "tuple" /\ b = false) \/ (T = "str" /\ b = false)
 | .non=>(T = "int" /\ b = false) \/ (T = "bool" /\ b = false) \/ (T = "list" /\ b = false) \/ (T = "tuple" /\ b = false) \/ (T = "str" /\ b = false)
 | .str _=>(T = "int" /\ b = false) \/ (T = "bool" /\ b = false) \/ (T = "list" /\ b = false) \/ (T = "tuple" /\ b = false) \/ (T = "str" /\ b = true)
 | .ref p=>((∃ xs,SqL K H p xs) /\ ((T = "int" /\ b = false) \/ (T = "bool" /\ b = false) \/ (T = "list" /\ b = true) \/ (T = "tuple" /\ b = false) \/ (T = "str" /\ b = false))) \/
    ((∃ xs,SqT K H p xs) /\ ((T = "int" /\ b = false) \/ (T = "bool" /\ b = false) \/ (T = "list" /\ b = false) \/ (T = "tuple" /\ b = true) \/ (T = "str" /\ b = false)))
 | _=>False
theorem nY:qQ X (.builtin "isinstance") (fun xs H Q=>∃ x T b,xs = [x,.ty T] /\ IsV X.K T x H b /\ Q (.bl b) H):=by
 intro pins s σ H vs us Q I rv h
 obtain ⟨x,T,b,rfl,hv,q⟩:=h
 obtain ⟨u,v,rfl,ru,rT⟩:=rv.two
 cases rT
 cases x with
 | int i=>
   obtain ⟨t,rfl⟩:=ru
   rcases hv with ⟨rfl,rfl⟩ | ⟨rfl,rfl⟩ | ⟨rfl,rfl⟩ | ⟨rfl,rfl⟩ | ⟨rfl,rfl⟩
   . exact IsiPair.int_int ⟨.bl _,H,I,rfl,q⟩
   . exact IsiPair.int_bool ⟨.bl _,H,I.tok _,rfl,q⟩
   . exact IsiPair.int_list ⟨.bl _,H,I.tok _,rfl,q⟩
   . exact IsiPair.int_tuple ⟨.bl _,H,I.tok _,rfl,q⟩
   . exact IsiPair.int_str ⟨.bl _,H,I.tok _,rfl,q⟩
 | bl i=>
   cases ru
   rcases hv with ⟨rfl,rfl⟩ | ⟨rfl,rfl⟩ | ⟨rfl,rfl⟩ | ⟨rfl,rfl⟩ | ⟨rfl,rfl⟩
   . exact IsiPair.bool_int ⟨.bl _,H,I,rfl,q⟩
   . exact IsiPair.bool_bool ⟨.bl _,H,I,rfl,q⟩
   . exact IsiPair.bool_list ⟨.bl _,H,I.tok _,rfl,q⟩
   . exact IsiPair.bool_tuple ⟨.bl _,H,I.tok _,rfl,q⟩
   . exact IsiPair.bool_str ⟨.bl _,H,I.tok _,rfl,q⟩
 | non=>
   cases ru
   rcases hv with ⟨rfl,rfl⟩ | ⟨rfl,rfl⟩ | ⟨rfl,rfl⟩ | ⟨rfl,rfl⟩ | ⟨rfl,rfl⟩
   . exact IsiPair.NoneType_int ⟨.bl _,H,I.tok _,rfl,q⟩
   . exact IsiPair.NoneType_bool ⟨.bl _,H,I.tok _,rfl,q⟩
   . exact IsiPair.NoneType_list ⟨.bl _,H,I.tok _,rfl,q⟩
   . exact IsiPair.NoneType_tuple ⟨.bl _,H,I.tok _,rfl,q⟩
   . exact IsiPair.NoneType_str ⟨.bl _,H,I.tok _,rfl,q⟩
 | str i=>
   obtain ⟨t,rfl⟩:=ru
   rcases hv with ⟨rfl,rfl⟩ | ⟨rfl,rfl⟩ | ⟨rfl,rfl⟩ | ⟨rfl,rfl⟩ | ⟨rfl,rfl⟩
   . exact IsiPair.str_int ⟨.bl _,H,I.tok _,rfl,q⟩
   . exact IsiPair.str_bool ⟨.bl _,H,I.tok _,rfl,q⟩
   . exact IsiPair.str_list ⟨.bl _,H,I.tok _,rfl,q⟩
   . exact IsiPair.str_tuple ⟨.bl _,H,I.tok _,rfl,q⟩
   . exact IsiPair.str_str ⟨.bl _,H,I,rfl,q⟩
 | ref p=>
   cases ru
   rcases hv with ⟨⟨xs,hS⟩,hv⟩ | ⟨⟨xs,hS⟩,hv⟩
   . obtain ⟨its,r,pl,hz⟩:=I.list hS
     obtain ⟨o,e,c,_⟩:=pl.isList
     rcases hv with ⟨rfl,rfl⟩ | ⟨rfl,rfl⟩ | ⟨rfl,rfl⟩ | ⟨rfl,rfl⟩ | ⟨rfl,rfl⟩
     . exact IsiPair.list_int e c ⟨.bl _,H,I.tok _,rfl,q⟩
     . exact IsiPair.list_bool e c ⟨.bl _,H,I.tok _,rfl,q⟩
     . exact IsiPair.list_list e c ⟨.bl _,H,I,rfl,q⟩
     . exact IsiPair.list_tuple e c ⟨.bl _,H,I.tok _,rfl,q⟩
     . exact IsiPair.list_str e c ⟨.bl _,H,I.tok _,rfl,q⟩
   . obtain ⟨its,r,pl,hz⟩:=I.tuple hS
     obtain ⟨o,e,c,_⟩:=pl
     rcases hv with ⟨rfl,rfl⟩ | ⟨rfl,rfl⟩ | ⟨rfl,rfl⟩ | ⟨rfl,rfl⟩ | ⟨rfl,rfl⟩
     . exact IsiPair.tuple_int e c ⟨.bl _,H,I.tok _,rfl,q⟩
     . exact IsiPair.tuple_bool e c ⟨.bl _,H,I.tok _,rfl,q⟩
     . exact IsiPair.tuple_list e c ⟨.bl _,H,I.tok _,rfl,q⟩
     . exact IsiPair.tuple_tuple e c ⟨.bl _,H,I,rfl,q⟩
     . exact IsiPair.tuple_str e c ⟨.bl _,H,I.tok _,rfl,q⟩
 | _=>exact hv.elim
theorem boot_bool:bootBuiltins "bool" = some (.type "bool"):=by decide +kernel
theorem boot_isinstance:bootBuiltins "isinstance" = some (.builtin "isinstance"):=by decide +kernel
theorem boot_all:bootBuiltins "all" = some (.builtin "all"):=by decide +kernel
theorem boot_tuple:bootBuiltins "tuple" = some (.type "tuple"):=by decide +kernel
theorem boot_list:bootBuiltins "list" = some (.type "list"):=by decide +kernel
theorem boot_int:bootBuiltins "int" = some (.type "int"):=by decide +kernel
theorem boot_len:bootBuiltins "len" = some (.builtin "len"):=by decide +kernel
end
section
variable {P:Program} {w:World} {K:PySem.W.Frag} {mg:Str -> Option Value} {base:Heap}
theorem okX {x qual:Str} {st:Stmt} {f:Addr} {fd:FuncData} {N ps:List Str} {k:Nat} {sp:Sp} (F:Fun K x qual st f fd) (S:aS N ps (ao st)) (len:∀ vs H Q E,sp vs H Q E -> vs.length = ps.length)
  (hbody:∀ (cdv:Value) (A:Around) (outer:List Env) (s:Shared) (H:Hp) (vs:List V) (Q:VK) (E:XK),gj k (A.deeper (envOfC qual (ao st) s.heap.objs.size f cdv)) -> sp vs H Q E ->
    ∃ t,PSs (nL (CXE P w) P w K mg base N qual (ao st) f cdv A outer s H E) (aR st) t /\ t { nx:=fun _ H'=>Q .non H',rt:=Q } (start N vs) H):b0 P w K mg base (CXE P w) (k + 1) f fd ps sp:=by
 obtain ⟨oc,od,kV,doc,pm,an,cdv,ct,osl,rfl,lk,hcd⟩:=F.ex
 exact E4 lk hcd S len fun A outer s H vs Q E hr hsp=>hbody cdv A outer s H vs Q E hr hsp
end
end L2.E
namespace L2.E
open PySem PySem.Spec PyProof.Rows
theorem SqL.new {K:PySem.W.Frag} {H:Hp} {p:Addr} {xs:List V} (h:H p = some (.lst xs)):SqL K H p xs:=.inl (.inl h)
theorem SqT.new {K:PySem.W.Frag} {H:Hp} {p:Addr} {xs:List V} (h:H p = some (.tup xs)):SqT K H p xs:=.inl (.inl h)
theorem sq {H:Hp} {p q:Addr} {o:HO} (h:H q = some o) (n:H p = none):q ≠ p:=fun z=>by rw [z,n] at h; cases h
theorem _root_.L2.aF.upd {H H':Hp} {p:Addr} {o:HO} (e:aF H H') (n:H p = none):aF H (upd H' p o):=fun b u h=>by
 rw [aW (sq h n)]; exact e b u h
theorem _root_.L2.aF.new {H:Hp} {p:Addr} {o:HO} (n:H p = none):aF H (L2.upd H p o):=(aF.refl H).upd n
abbrev Goes (H:Hp) (E:XK) (C:Addr) (dx:Option Addr):Prop:=∀ H' a,aF H H' -> H' a = some (nM a C dx) -> E (.ref C) (some a) H'
end L2.E
namespace L2.E
open PySem PySem.Spec PyProof.Rows
theorem takes {K:PySem.W.Frag} {T C:Addr} {b:Bool} {bmC bmT:List Value} (h1:uN K C bmC) (h2:uN K T bmT) (h:(Value.ref C ::bmC).contains (.ref T) = b):EU K T C b:=⟨bmC,bmT,h1,h2,h⟩
end L2.E
namespace L2.E
open PySem PySem.Spec PyProof.Rows
section
variable {X:Cx}
def B9 (K:PySem.W.Frag):R2:=fun x y H Q=>∃ l b xs zs,x = .ref l /\ y = .ref b /\ SqL K H l xs /\ SqL K H b zs /\ xs.length + zs.length <= sizeLine /\ ∀ p,H p = none -> Q (.ref p) (upd H p (.lst (xs ++ zs)))
theorem gB:OpR X (binaryOp .Add) (B9 X.K):=by
 intro pins s σ H x y v u Q I rx ry h
 obtain ⟨l,b,xs,zs,rfl,rfl,hH,hB,hz,q⟩:=h
 cases rx
 cases ry
 obtain ⟨its,r,pl,_⟩:=I.list hH
 obtain ⟨its2,r2,pl2,_⟩:=I.list hB
 obtain ⟨⟨cls,dd,data,sl⟩,ho,hc,n,hd⟩:=pl.isList
 obtain ⟨⟨cls2,dd2,data2,sl2⟩,ho2,hc2,n2,hd2⟩:=pl2.isList
 simp only at hc hd hc2 hd2
 subst hc hd hc2 hd2
 have hsz:its.toArray.size + its2.toArray.size <= sizeLine:=by rw [List.size_toArray,List.size_toArray,<- r.length,<- r2.length]; exact hz
 refine concat_meets ⟨_,ho,rfl⟩ ⟨_,ho2,rfl⟩ noFill_list_add seq_list_add PySem.F.slot_list_add PySem.F.entry_list_add (PySem.F.args_list_add_2 _ _) (list_addW l b its.toArray its2.toArray n n2 dd dd2 sl sl2 hsz) ⟨ho,ho2,?_⟩
 have ea:its.toArray ++ its2.toArray = (its ++ its2).toArray:=by simp
 rw [ea]
 exact ⟨.ref _,_,I.Ew (t':=s.toks) (r.append r2) (by rw [List.length_append]; exact hz),rfl,q _ I.fresh⟩
theorem qR:qQ X (.builtin "all") (fun xs H Q=>∃ (p:Addr) (bs:List Bool),xs = [.ref p] /\ SqL X.K H p (bs.map V.bl) /\ X.A.handled = none /\ Q (.bl (bs.all id)) H):=by
 intro pins s σ H vs us Q I rv h
 obtain ⟨p,bs,rfl,hp,hh,q⟩:=h
 obtain ⟨u,rfl,ru⟩:=rv.one
 cases ru
 obtain ⟨its,r,pl,_⟩:=I.list hp
 have hl:=r.length
 have isl:s.heap.IsList p its.toArray:=pl.isList
 obtain ⟨o,e,_⟩:=id isl
 refine call_all_walk (wpAny_pyIter_list isl ?_)
 have ne:p ≠ s.heap.objs.size:=Nat.ne_of_lt (Heap.lt_size e)
 have tv:∀ (i:Nat) (v:Value),its.toArray[i]? = some v -> ∃ b,bs[i]? = some b /\ v = Value.bool b:=fun i v hv=>by
  have hv':its[i]? = some v:=by simpa using hv
  have hi:i < its.length:=(List.getElem?_eq_some_iff.mp hv').1
  rw [<- hl,List.length_map] at hi
  have hx:(bs.map V.bl)[i]? = some (V.bl bs[i]):=by simp [hi]
  obtain ⟨u,hu,ru⟩:=r.get hx
  rw [hv'] at hu; cases hu
  exact ⟨bs[i],by simp [hi],ru⟩
 refine ⟨s.heap.objs.size,_,_,_,_,_,(fun i=>(bs[i]?).getD false),rfl,Walks.list (A:=X.A.in1) hh s.heap.objs.size p ne its.toArray,⟨⟨_,Heap.get?_push_size _ rfl,rfl,rfl⟩,isl.at fun o e=>Heap.get?_push_of_some _ e⟩,fun i v s' Q' E' hP hQ=>?_,fun h' tk hk=>?_⟩
 . obtain ⟨b,hb,rfl⟩:=tv i v hP
   have hQ':Q' ((bs[i]?).getD false) s':=hQ
   rw [hb] at hQ'
   exact wpAny_truthy_bool hQ'
 . have en:its.toArray.size = bs.length:=by rw [List.size_toArray,<- hl,List.length_map]
   have eb:(List.range its.toArray.size).all (fun i=>(bs[i]?).getD false) = bs.all id:=by
    rw [en]
    rw [Bool.eq_iff_iff,List.all_eq_true,List.all_eq_true]
    constructor
    . intro hA b hb
      obtain ⟨i,hi,rfl⟩:=List.mem_iff_getElem.mp hb
      have:=hA i (by simpa using hi)
      simpa [hi] using this
    . intro hA i hi
      have hi':i < bs.length:=by simpa using hi
      have:=hA bs[i] (List.getElem_mem hi')
      simpa [hi'] using this
   rw [eb]
   refine ⟨.bl _,H,I.kept (h':=h') (t':=tk) fun b o e'=>hk b o ?_ (Heap.get?_push_of_some _ e'),rfl,q⟩
   have lt:=Heap.lt_size e'
   intro z
   have z':b = s.heap.objs.size:=by simpa using z
   exact absurd (z' ▸ lt) (Nat.lt_irrefl _)
end
end L2.E
namespace L2.E
open PySem PySem.Spec PyProof.Rows
def isStar:Expr -> Bool
 | .Starred ..=>true
 | _=>false
theorem mi {e:Expr} {es:List Expr} {env:Env} (h:isStar e = false):starEach (e ::es) env = (false,eval e env) ::starEach es env:=by
 cases e <;> first | rfl | cases h
theorem yX {X:Cx} {e:Expr} {es:List Expr} {te:TE} {t:TA} (ha:PE X e te) (hr:PA X es t) (hs:isStar e = false:=by rfl):PA X (e ::es) (jm te t):=Ap ha hr (mi hs)
end L2.E
namespace L2.P
open PySem
def ixP (n:Nat) (i:Int):Option Nat:=if 0 <= i then (if i < n then some i.toNat else none) else if -(n:Int) <= i then some (i + n).toNat else none
def atP {α:Type} (xs:List α) (i:Int):Option α:=(ixP xs.length i).bind fun j=>xs[j]?
def mH (n d:Nat):Option Int -> Nat
 | none=>d
 | some v=>if v < 0 then (v + (n:Int)).toNat else min v.toNat n
inductive PV where
 | non | bl (b:Bool) | int (i:Int) | str (s:Str) | lst (xs:List PV) | tup (xs:List PV)
inductive OV where
 | sh (x:PV) | ol (ts:List OV) | ob (c:String) (ks:List Str) (ts:List OV)
   | di (kvs:List (Int × PV)) | dt (kvs:List (List Int × PV))
inductive Sl where
 | sh (x:PV) | ow (xs:List PV) | ex (c:String) (fs:List (Str × PV))
   | tr (io:Bool) (t:OV) | bo (t:OV)
abbrev ae:=List (Option Sl)
inductive RV where
 | sh (x:PV) | fr (xs:List PV) | al (xs:List PV)
def RV.pv:RV -> PV
 | .sh x=>x
 | .fr xs=>.lst xs
 | .al xs=>.lst xs
abbrev XF:=List (Str × PV)
inductive OE where
 | ok (r:RV) | exc (c:String) (fs:XF) | bad
inductive OT where
 | ok (b:Bool) | exc (c:String) (fs:XF) | bad
inductive OA where
 | ok (xs:List PV) | exc (c:String) (fs:XF) | bad
inductive OS where
 | nx (ρ:ae) | rt (ρ:ae) (r:RV) | bk (ρ:ae) | ct (ρ:ae) | exc (ρ:ae) (c:String) (fs:XF) | bad
def OE.bind:OE -> (RV -> OE) -> OE
 | .ok r,f=>f r
 | .exc c fs,_=>.exc c fs
 | .bad,_=>.bad
def OE.fi:OE -> (RV -> OT) -> OT
 | .ok r,f=>f r
 | .exc c fs,_=>.exc c fs
 | .bad,_=>.bad
def OE.eW:OE -> (RV -> OA) -> OA
 | .ok r,f=>f r
 | .exc c fs,_=>.exc c fs
 | .bad,_=>.bad
def OE.bL (ρ:ae):OE -> (RV -> OS) -> OS
 | .ok r,f=>f r
 | .exc c fs,_=>.exc ρ c fs
 | .bad,_=>.bad
def OT.bind:OT -> (Bool -> OE) -> OE
 | .ok r,f=>f r
 | .exc c fs,_=>.exc c fs
 | .bad,_=>.bad
def OT.fi:OT -> (Bool -> OT) -> OT
 | .ok r,f=>f r
 | .exc c fs,_=>.exc c fs
 | .bad,_=>.bad
def OT.bL (ρ:ae):OT -> (Bool -> OS) -> OS
 | .ok r,f=>f r
 | .exc c fs,_=>.exc ρ c fs
 | .bad,_=>.bad
def OA.bind:OA -> (List PV -> OE) -> OE
 | .ok r,f=>f r
 | .exc c fs,_=>.exc c fs
 | .bad,_=>.bad
def OA.eW:OA -> (List PV -> OA) -> OA
 | .ok r,f=>f r
 | .exc c fs,_=>.exc c fs
 | .bad,_=>.bad
def OA.bL (ρ:ae):OA -> (List PV -> OS) -> OS
 | .ok r,f=>f r
 | .exc c fs,_=>.exc ρ c fs
 | .bad,_=>.bad
def au (i:Nat):ae -> OE:=fun ρ=>match ρ[i]? with
 | some (some (.sh x))=>.ok (.sh x)
 | some (some (.ow xs))=>.ok (.al xs)
 | _=>.bad
def mC (x:PV):ae -> OE:=fun _=>.ok (.sh x)
def oE:Option RV -> OE
 | some r=>.ok r
 | none=>.bad
def mOp (g:PV -> PV -> Option RV) (ma mb:ae -> OE):ae -> OE:=fun ρ=>(ma ρ).bind fun a=>(mb ρ).bind fun b=>oE (g a.pv b.pv)
def gI (C:Int -> Int -> Bool) (f:Int -> Int -> PV):PV -> PV -> Option RV
 | .int i,.int j=>if C i j then some (.sh (f i j)) else none
 | _,_=>none
def gV:=gI (fun _ _=>true) fun i j=>.int (i + j)
def pI:=gI (fun _ _=>true) fun i j=>.int (i - j)
def qH:=gI (fun i j=>(decide (-(2 ^ 64) < i) && decide (i < 2 ^ 64)) || (decide (-(2 ^ 64) < j) && decide (j < 2 ^ 64))) fun i j=>.int (i * j)
def qz:=gI (fun _ j=>decide (0 < j) && decide (j < 1073741824)) fun i j=>.int (i / j)
def gW:=gI (fun _ j=>decide (0 < j)) fun i j=>.int (i % j)
def ui:=gI (fun i j=>decide (0 <= j) && (decide (j <= 1000000) && decide (i.natAbs < 2 ^ 64))) fun i j=>.int (i ^ j.toNat)
def gLt:=gI (fun _ _=>true) fun i j=>.bl (decide (i < j))
def gLe:=gI (fun _ _=>true) fun i j=>.bl (decide (i <= j))
def gGt:=gI (fun _ _=>true) fun i j=>.bl (decide (j < i))
def gGe:=gI (fun _ _=>true) fun i j=>.bl (decide (j <= i))
def eqS:PV -> PV -> Option Bool
 | .non,.non=>some true | .non,.int _=>some false | .int _,.non=>some false | .non,.bl _=>some false | .bl _,.non=>some false | .non,.str _=>some false | .str _,.non=>some false
 | .int a,.int b=>some (decide (a = b)) | .bl a,.bl b=>some (decide (a = b)) | .str a,.str b=>some (decide (a = b))
 | .int _,.str _=>some false | .str _,.int _=>some false | .bl _,.str _=>some false | .str _,.bl _=>some false
 | _,_=>none
def gEq:PV -> PV -> Option RV:=fun x y=>(eqS x y).map fun b=>.sh (.bl b)
def gNe:PV -> PV -> Option RV:=fun x y=>(eqS x y).map fun b=>.sh (.bl (!b))
def jG:RV -> Option PV
 | .sh x=>some x
 | .fr xs=>some (.lst xs)
 | .al _=>none
def aO:ae -> OA:=fun _=>.ok []
def aj (me:ae -> OE) (mr:ae -> OA):ae -> OA:=fun ρ=>(me ρ).eW fun r=>match jG r with
 | some x=>(mr ρ).eW fun xs=>.ok (x ::xs)
 | none=>.bad
def lim:Nat:=16777216
def dD (ma:ae -> OA):ae -> OE:=fun ρ=>(ma ρ).bind fun xs=>if xs.length <= lim then .ok (.fr xs) else .bad
def gF (ma:ae -> OA):ae -> OE:=fun ρ=>(ma ρ).bind fun xs=>if xs.length <= lim then .ok (.sh (.tup xs)) else .bad
def aZ (f:List PV -> OE) (ma:ae -> OA):ae -> OE:=fun ρ=>(ma ρ).bind f
def mUn (g:PV -> Option RV) (ma:ae -> OE):ae -> OE:=fun ρ=>(ma ρ).bind fun a=>oE (g a.pv)
def p5:PV -> Option RV
 | .int i=>some (.sh (.int (-i)))
 | _=>none
def kY:PV -> Option RV
 | .lst xs=>some (.sh (.int xs.length))
 | .tup xs=>some (.sh (.int xs.length))
 | _=>none
def B4:PV -> Option RV
 | .int i=>some (.sh (.int i))
 | .bl b=>some (.sh (.int (if b then 1 else 0)))
 | _=>none
def wa:PV -> Option RV
 | .lst xs=>some (.fr xs)
 | .tup xs=>some (.fr xs)
 | _=>none
def jK:PV -> PV -> Option RV
 | .lst xs,.int i=>(atP xs i).map .sh
 | _,_=>none
def jV:PV -> PV -> Option RV
 | .tup xs,.int i=>(atP xs i).map .sh
 | _,_=>none
def mx:PV -> PV -> Option RV
 | .lst xs,.lst ys=>if xs.length + ys.length <= lim then some (.fr (xs ++ ys)) else none
 | _,_=>none
def vo:List PV -> Option (List Int)
 | []=>some []
 | .int i ::r=>(vo r).map (i ::·)
 | _ ::_=>none
def lZ:List PV -> Option (List Bool)
 | []=>some []
 | .bl i ::r=>(lZ r).map (i ::·)
 | _ ::_=>none
def xi:PV -> Option RV
 | .lst xs=>(lZ xs).map fun bs=>.sh (.bl (bs.all id))
 | _=>none
def isP (T:String):PV -> Option Bool
 | .int _=>if T = "int" then some true else if T = "bool" \/ T = "list" \/ T = "tuple" \/ T = "str" then some false else none
 | .bl _=>if T = "int" \/ T = "bool" then some true else if T = "list" \/ T = "tuple" \/ T = "str" then some false else none
 | .non=>if T = "int" \/ T = "bool" \/ T = "list" \/ T = "tuple" \/ T = "str" then some false else none
 | .str _=>if T = "str" then some true else if T = "int" \/ T = "bool" \/ T = "list" \/ T = "tuple" then some false else none
 | .lst _=>if T = "list" then some true else if T = "int" \/ T = "bool" \/ T = "tuple" \/ T = "str" then some false else none
 | .tup _=>if T = "tuple" then some true else if T = "int" \/ T = "bool" \/ T = "list" \/ T = "str" then some false else none
def mIs (T:String) (ma:ae -> OE):ae -> OE:=mUn (fun x=>(isP T x).map fun b=>.sh (.bl b)) ma
def qb:PV -> Option Bool
 | .non=>some false
 | .bl b=>some b
 | .int i=>some (i != 0)
 | .lst xs=>some (!xs.isEmpty)
 | .tup xs=>some (!xs.isEmpty)
 | .str _=>none
def oT:Option Bool -> OT
 | some b=>.ok b
 | none=>.bad
def gi (ma:ae -> OE):ae -> OT:=fun ρ=>(ma ρ).fi fun r=>oT (qb r.pv)
def aQ (ma:ae -> OE):ae -> OT:=fun ρ=>(ma ρ).fi fun r=>match r.pv with
 | .bl b=>.ok b
 | _=>.bad
def wu (m:ae -> OT):ae -> OT:=fun ρ=>(m ρ).fi fun b=>.ok (!b)
def mY (m n:ae -> OT):ae -> OT:=fun ρ=>(m ρ).fi fun b=>if b = true then n ρ else .ok false
def yt (m n:ae -> OT):ae -> OT:=fun ρ=>(m ρ).fi fun b=>if b = true then .ok true else n ρ
def uI (m n:ae -> OE):ae -> OE:=fun ρ=>(m ρ).bind fun r=>match r.pv with
 | .bl b=>if b = true then n ρ else .ok (.sh (.bl false))
 | _=>.bad
def GJ (m n:ae -> OE):ae -> OE:=fun ρ=>(m ρ).bind fun r=>match r.pv with
 | .bl b=>if b = true then .ok (.sh (.bl true)) else n ρ
 | _=>.bad
def zI (m:ae -> OE):ae -> OE:=fun ρ=>(m ρ).bind fun r=>match r.pv with
 | .bl b=>.ok (.sh (.bl (!b)))
 | _=>.bad
def ki (c:ae -> OT) (m n:ae -> OE):ae -> OE:=fun ρ=>(c ρ).bind fun b=>if b = true then m ρ else n ρ
def jL (g g':PV -> PV -> Option RV) (ma mb mc:ae -> OE):ae -> OE:=fun ρ=>(ma ρ).bind fun a=>(mb ρ).bind fun b=>(oE (g a.pv b.pv)).bind fun r=>match r.pv with
 | .bl k=>if k = true then (mc ρ).bind fun c=>oE (g' b.pv c.pv) else .ok (.sh (.bl false))
 | _=>.bad
def OS.andThen:OS -> (ae -> OS) -> OS
 | .nx ρ,k=>k ρ
 | o,_=>o
def OS.turn:OS -> (ae -> OS) -> OS
 | .nx ρ,k=>k ρ
 | .ct ρ,k=>k ρ
 | .bk ρ,_=>.nx ρ
 | o,_=>o
def aT (a b:ae -> OS):ae -> OS:=fun ρ=>(a ρ).andThen b
def bc:ae -> OS:=fun ρ=>.nx ρ
def Ee:ae -> OS:=fun ρ=>.bk ρ
def FN:ae -> OS:=fun ρ=>.ct ρ
def yF:RV -> Option Sl
 | .sh x=>some (.sh x)
 | .fr xs=>some (.ow xs)
 | .al _=>none
def cK (i:Nat) (me:ae -> OE):ae -> OS:=fun ρ=>(me ρ).bL ρ fun r=>match yF r with
 | some s=>.nx (ρ.set i (some s))
 | none=>.bad
def b7 (c:ae -> OT) (m n:ae -> OS):ae -> OS:=fun ρ=>(c ρ).bL ρ fun b=>if b = true then m ρ else n ρ
def bp (me:ae -> OE):ae -> OS:=fun ρ=>(me ρ).bL ρ fun r=>match r with
 | .al _=>.bad
 | r=>.rt ρ r
def iA (i:Nat):ae -> OS:=fun ρ=>match ρ[i]? with
 | some (some (.sh x))=>.rt ρ (.sh x)
 | some (some (.ow xs))=>.rt (ρ.set i none) (.fr xs)
 | _=>.bad
def FE:ae -> OS:=fun ρ=>.rt ρ (.sh .non)
def zH (me:ae -> OE):ae -> OS:=fun ρ=>(me ρ).bL ρ fun _=>.nx ρ
def lW (i:Nat) (ρ:ae):ae:=match ρ[i]? with
 | some (some (.ow xs))=>ρ.set i (some (.sh (.lst xs)))
 | _=>ρ
def kg (i:Nat) (me:ae -> OE):ae -> OS:=fun ρ=>match ρ[i]? with
 | some (some (.ow xs))=>(me ρ).bL ρ fun r=>match jG r with
   | some y=>if xs.length < lim then .nx (ρ.set i (some (.ow (xs ++ [y])))) else .bad
   | none=>.bad
 | _=>.bad
def AY (i:Nat) (me:ae -> OE):ae -> OS:=fun ρ=>match ρ[i]? with
 | some (some (.ow xs))=>(me ρ).bL ρ fun r=>match r with
   | .fr ys=>if xs.length + ys.length <= lim then .nx (ρ.set i (some (.ow (xs ++ ys)))) else .bad
   | _=>.bad
 | _=>.bad
def jy (i:Nat) (mb:ae -> OS):List PV -> ae -> OS
 | [],ρ=>.nx ρ
 | x ::xs,ρ=>(mb (ρ.set i (some (.sh x)))).turn (jy i mb xs)
def vy:RV -> Option (List PV)
 | .sh (.lst xs)=>some xs
 | .fr xs=>some xs
 | _=>none
def wX (i:Nat) (ml:ae -> OE) (mb:ae -> OS):ae -> OS:=fun ρ=>(ml ρ).bL ρ fun r=>match vy r with
 | some xs=>jy i mb xs ρ
 | none=>.bad
def eU (n:Nat):List PV:=(List.range n).map fun k:Nat=>PV.int (k:Int)
def yA (i:Nat) (me:ae -> OE) (mb:ae -> OS):ae -> OS:=fun ρ=>(me ρ).bL ρ fun r=>match r.pv with
 | .int j=>if -(2 ^ 62) <= j /\ j < 2 ^ 62 then jy i mb (eU j.toNat) ρ else .bad
 | _=>.bad
def bH (mc:ae -> OT) (mb:ae -> OS):Nat -> ae -> OS
 | 0,_=>.bad
 | n + 1,ρ=>(mc ρ).bL ρ fun b=>if b = true then (mb ρ).turn (bH mc mb n) else .nx ρ
def pL:PV -> Option Int
 | .int i=>some i
 | _=>none
def mQ (m:ae -> OE):ae -> OE:=fun ρ=>(m ρ).bind fun r=>match r.pv with
 | .int i=>.ok (.sh (.int i))
 | _=>.bad
def lM (xs:List PV) (lo hi:Option Int):List PV:=(xs.drop (mH xs.length 0 lo)).take (mH xs.length xs.length hi - mH xs.length 0 lo)
def Dd (x:PV) (lo hi:Option Int):Option RV:=match x with
 | .lst xs=>some (.fr (lM xs lo hi))
 | _=>none
def tj (ma ml mh:ae -> OE):ae -> OE:=fun ρ=>(ma ρ).bind fun a=>(ml ρ).bind fun l=>(mh ρ).bind fun h=>oE (Dd a.pv (pL l.pv) (pL h.pv))
def dN (ι:List Nat) (ρ:ae):ae:=ι.map fun i=>(ρ[i]?).join
def dy (me:ae -> OE) (ρ:ae):List PV -> OA
 | []=>.ok []
 | x ::xs=>(me (ρ ++ [some (.sh x)])).eW fun r=>match jG r with
   | some y=>(dy me ρ xs).eW fun ys=>.ok (y ::ys)
   | none=>.bad
def noX:OA -> OE
 | .ok xs=>if xs.length <= lim then .ok (.fr xs) else .bad
 | _=>.bad
def sH (ml:ae -> OE) (ι:List Nat) (me:ae -> OE):ae -> OE:=fun ρ=>(ml ρ).bind fun r=>match r.pv with
 | .lst xs=>noX (dy me (dN ι ρ) xs)
 | _=>.bad
def vv (mn:ae -> OE) (ι:List Nat) (me:ae -> OE):ae -> OE:=fun ρ=>(mn ρ).bind fun r=>match r.pv with
 | .int j=>if -(2 ^ 62) <= j /\ j < 2 ^ 62 then noX (dy me (dN ι ρ) (eU j.toNat)) else .bad
 | _=>.bad
def vR (c:String) (ma:ae -> OA):ae -> OS:=fun ρ=>(ma ρ).bL ρ fun xs=>if xs.length <= lim then .exc ρ c [] else .bad
def wd:OS -> OS
 | .exc _ _ _=>.bad
 | o=>o
def Gx (mb:ae -> OS) (takes:String -> Option Bool) (ms:ae -> OS):ae -> OS:=fun ρ=>match mb ρ with
 | .exc ρ' c fs=>(match takes c with
   | some true=>wd (ms ρ')
   | some false=>.exc ρ' c fs
   | none=>.bad)
 | o=>o
def Fb (i:Nat):OS -> OS
 | .nx ρ=>.nx (ρ.set i none)
 | .bk ρ=>.bk (ρ.set i none)
 | .ct ρ=>.ct (ρ.set i none)
 | o=>o
def Ds (i:Nat) (mb:ae -> OS) (takes:String -> Option Bool) (ms:ae -> OS):ae -> OS:=fun ρ=>match mb ρ with
 | .exc ρ' c fs=>(match takes c with
   | some true=>Fb i (wd (ms (ρ'.set i (some (.ex c fs)))))
   | some false=>.exc ρ' c fs
   | none=>.bad)
 | o=>o
def Hi (i:Nat) (under:String -> Bool):ae -> OE:=fun ρ=>match ρ[i]? with
 | some (some (.ex c _))=>if under c = true then .ok (.sh (.bl true)) else .bad
 | _=>.bad
def fin:OS -> OE
 | .nx _=>.ok (.sh .non)
 | .rt _ (.al _)=>.bad
 | .rt _ r=>.ok r
 | .exc _ c fs=>.exc c fs
 | _=>.bad
def kZ (n:Nat) (xs:List PV):ae:=xs.map (fun x=>some (.sh x)) ++ List.replicate (n - xs.length) none
def fnP (np n:Nat) (m:ae -> OS):List PV -> OE:=fun xs=>if xs.length = np then fin (m (kZ n xs)) else .bad
def fuel:Nat:=100000
def j4 (i:Nat) (m:ae -> OS):ae -> OS:=fun ρ=>m (lW i ρ)
def o9 (i:Nat) (g:PV -> PV -> Option RV) (me:ae -> OE):ae -> OS:=fun ρ=>match ρ[i]? with
 | some (some (.sh x))=>(me ρ).bL ρ fun r=>match g x r.pv with
   | some (.sh z)=>.nx (ρ.set i (some (.sh z)))
   | _=>.bad
 | _=>.bad
def cj:PV -> Bool
 | .non=>true
 | _=>false
def uQ:PV -> PV -> Option RV
 | x,.non=>some (.sh (.bl (cj x)))
 | _,_=>none
def rM:PV -> PV -> Option RV
 | x,.non=>some (.sh (.bl (!cj x)))
 | _,_=>none
def EZ (xs:List PV) (i:Int) (y:PV):List PV:=xs.take (if i < 0 then (i + (xs.length:Int)).toNat else min i.toNat xs.length) ++ y ::xs.drop (if i < 0 then (i + (xs.length:Int)).toNat else min i.toNat xs.length)
def AK (i:Nat) (mk me:ae -> OE):ae -> OS:=fun ρ=>match ρ[i]? with
 | some (some (.ow xs))=>(aj mk (aj me aO) ρ).bL ρ fun ys=>match ys with
   | [.int k,y]=>if (-(2 ^ 63) <= k /\ k < 2 ^ 63) /\ xs.length < lim then .nx (ρ.set i (some (.ow (EZ xs k y)))) else .bad
   | _=>.bad
 | _=>.bad
@[simp] theorem ve (i:Nat) (ρ:ae):au i ρ = (match ρ[i]? with
  | some (some (.sh x))=>.ok (.sh x)
  | some (some (.ow xs))=>.ok (.al xs)
  | _=>.bad):=rfl
@[simp] theorem BV (g:PV -> PV -> Option RV) (ma mb:ae -> OE) (ρ:ae):mOp g ma mb ρ = ((ma ρ).bind fun a=>(mb ρ).bind fun b=>oE (g a.pv b.pv)):=rfl
@[simp] theorem FZ (me:ae -> OE) (mr:ae -> OA) (ρ:ae):aj me mr ρ = ((me ρ).eW fun r=>match jG r with
  | some x=>(mr ρ).eW fun xs=>.ok (x ::xs)
  | none=>.bad):=rfl
@[simp] theorem HA (ma:ae -> OA) (ρ:ae):dD ma ρ = ((ma ρ).bind fun xs=>if xs.length <= lim then .ok (.fr xs) else .bad):=rfl
@[simp] theorem Hg (ma:ae -> OA) (ρ:ae):gF ma ρ = ((ma ρ).bind fun xs=>if xs.length <= lim then .ok (.sh (.tup xs)) else .bad):=rfl
@[simp] theorem Gh (f:List PV -> OE) (ma:ae -> OA) (ρ:ae):aZ f ma ρ = ((ma ρ).bind f):=rfl
@[simp] theorem zx (g:PV -> Option RV) (ma:ae -> OE) (ρ:ae):mUn g ma ρ = ((ma ρ).bind fun a=>oE (g a.pv)):=rfl
@[simp] theorem yf (ma:ae -> OE) (ρ:ae):gi ma ρ = ((ma ρ).fi fun r=>oT (qb r.pv)):=rfl
@[simp] theorem wt (ma:ae -> OE) (ρ:ae):aQ ma ρ = ((ma ρ).fi fun r=>match r.pv with
  | .bl b=>.ok b
  | _=>.bad):=rfl
@[simp] theorem FT (m:ae -> OT) (ρ:ae):wu m ρ = ((m ρ).fi fun b=>.ok (!b)):=rfl
@[simp] theorem Ax (m n:ae -> OT) (ρ:ae):mY m n ρ = ((m ρ).fi fun b=>if b = true then n ρ else .ok false):=rfl
@[simp] theorem G3 (m n:ae -> OT) (ρ:ae):yt m n ρ = ((m ρ).fi fun b=>if b = true then .ok true else n ρ):=rfl
@[simp] theorem Gf (m n:ae -> OE) (ρ:ae):uI m n ρ = ((m ρ).bind fun r=>match r.pv with
  | .bl b=>if b = true then n ρ else .ok (.sh (.bl false))
  | _=>.bad):=rfl
@[simp] theorem Hr (m n:ae -> OE) (ρ:ae):GJ m n ρ = ((m ρ).bind fun r=>match r.pv with
  | .bl b=>if b = true then .ok (.sh (.bl true)) else n ρ
  | _=>.bad):=rfl
@[simp] theorem F5 (m:ae -> OE) (ρ:ae):zI m ρ = ((m ρ).bind fun r=>match r.pv with
  | .bl b=>.ok (.sh (.bl (!b)))
  | _=>.bad):=rfl
@[simp] theorem G7 (c:ae -> OT) (m n:ae -> OE) (ρ:ae):ki c m n ρ = ((c ρ).bind fun b=>if b = true then m ρ else n ρ):=rfl
@[simp] theorem FC (g g':PV -> PV -> Option RV) (ma mb mc:ae -> OE) (ρ:ae):jL g g' ma mb mc ρ = ((ma ρ).bind fun a=>(mb ρ).bind fun b=>(oE (g a.pv b.pv)).bind fun r=>match r.pv with
  | .bl k=>if k = true then (mc ρ).bind fun c=>oE (g' b.pv c.pv) else .ok (.sh (.bl false))
  | _=>.bad):=rfl
@[simp] theorem jJ (a b:ae -> OS) (ρ:ae):aT a b ρ = ((a ρ).andThen b):=rfl
@[simp] theorem AW (ρ:ae):bc  ρ = (.nx ρ):=rfl
@[simp] theorem Fy (ρ:ae):Ee  ρ = (.bk ρ):=rfl
@[simp] theorem FR (ρ:ae):FN  ρ = (.ct ρ):=rfl
@[simp] theorem D5 (i:Nat) (me:ae -> OE) (ρ:ae):cK i me ρ = ((me ρ).bL ρ fun r=>match yF r with
  | some s=>.nx (ρ.set i (some s))
  | none=>.bad):=rfl
@[simp] theorem zw (c:ae -> OT) (m n:ae -> OS) (ρ:ae):b7 c m n ρ = ((c ρ).bL ρ fun b=>if b = true then m ρ else n ρ):=rfl
@[simp] theorem zC (me:ae -> OE) (ρ:ae):bp me ρ = ((me ρ).bL ρ fun r=>match r with
  | .al _=>.bad
  | r=>.rt ρ r):=rfl
@[simp] theorem EH (i:Nat) (ρ:ae):iA i ρ = (match ρ[i]? with
  | some (some (.sh x))=>.rt ρ (.sh x)
  | some (some (.ow xs))=>.rt (ρ.set i none) (.fr xs)
  | _=>.bad):=rfl
@[simp] theorem Gj (me:ae -> OE) (ρ:ae):zH me ρ = ((me ρ).bL ρ fun _=>.nx ρ):=rfl
@[simp] theorem ER (i:Nat) (me:ae -> OE) (ρ:ae):kg i me ρ = (match ρ[i]? with
  | some (some (.ow xs))=>(me ρ).bL ρ fun r=>match jG r with
    | some y=>if xs.length < lim then .nx (ρ.set i (some (.ow (xs ++ [y])))) else .bad
    | none=>.bad
  | _=>.bad):=rfl
@[simp] theorem ED (i:Nat) (me:ae -> OE) (ρ:ae):AY i me ρ = (match ρ[i]? with
  | some (some (.ow xs))=>(me ρ).bL ρ fun r=>match r with
    | .fr ys=>if xs.length + ys.length <= lim then .nx (ρ.set i (some (.ow (xs ++ ys)))) else .bad
    | _=>.bad
  | _=>.bad):=rfl
@[simp] theorem Gi (i:Nat) (ml:ae -> OE) (mb:ae -> OS) (ρ:ae):wX i ml mb ρ = ((ml ρ).bL ρ fun r=>match vy r with
  | some xs=>jy i mb xs ρ
  | none=>.bad):=rfl
@[simp] theorem FQ (i:Nat) (me:ae -> OE) (mb:ae -> OS) (ρ:ae):yA i me mb ρ = ((me ρ).bL ρ fun r=>match r.pv with
  | .int j=>if -(2 ^ 62) <= j /\ j < 2 ^ 62 then jy i mb (eU j.toNat) ρ else .bad
  | _=>.bad):=rfl
@[simp] theorem Gq (m:ae -> OE) (ρ:ae):mQ m ρ = ((m ρ).bind fun r=>match r.pv with
  | .int i=>.ok (.sh (.int i))
  | _=>.bad):=rfl
@[simp] theorem HB (ma ml mh:ae -> OE) (ρ:ae):tj ma ml mh ρ = ((ma ρ).bind fun a=>(ml ρ).bind fun l=>(mh ρ).bind fun h=>oE (Dd a.pv (pL l.pv) (pL h.pv))):=rfl
@[simp] theorem yK (ml:ae -> OE) (ι:List Nat) (me:ae -> OE) (ρ:ae):sH ml ι me ρ = ((ml ρ).bind fun r=>match r.pv with
  | .lst xs=>noX (dy me (dN ι ρ) xs)
  | _=>.bad):=rfl
@[simp] theorem Fu (mn:ae -> OE) (ι:List Nat) (me:ae -> OE) (ρ:ae):vv mn ι me ρ = ((mn ρ).bind fun r=>match r.pv with
  | .int j=>if -(2 ^ 62) <= j /\ j < 2 ^ 62 then noX (dy me (dN ι ρ) (eU j.toNat)) else .bad
  | _=>.bad):=rfl
@[simp] theorem E5 (c:String) (ma:ae -> OA) (ρ:ae):vR c ma ρ = ((ma ρ).bL ρ fun xs=>if xs.length <= lim then .exc ρ c [] else .bad):=rfl
@[simp] theorem GA (mb:ae -> OS) (takes:String -> Option Bool) (ms:ae -> OS) (ρ:ae):Gx mb takes ms ρ = (match mb ρ with
  | .exc ρ' c fs=>(match takes c with
    | some true=>wd (ms ρ')
    | some false=>.exc ρ' c fs
    | none=>.bad)
  | o=>o):=rfl
@[simp] theorem EY (i:Nat) (mb:ae -> OS) (takes:String -> Option Bool) (ms:ae -> OS) (ρ:ae):Ds i mb takes ms ρ = (match mb ρ with
  | .exc ρ' c fs=>(match takes c with
    | some true=>Fb i (wd (ms (ρ'.set i (some (.ex c fs)))))
    | some false=>.exc ρ' c fs
    | none=>.bad)
  | o=>o):=rfl
@[simp] theorem GN (i:Nat) (under:String -> Bool) (ρ:ae):Hi i under ρ = (match ρ[i]? with
  | some (some (.ex c _))=>if under c = true then .ok (.sh (.bl true)) else .bad
  | _=>.bad):=rfl
@[simp] theorem ES (i:Nat) (m:ae -> OS) (ρ:ae):j4 i m ρ = (m (lW i ρ)):=rfl
@[simp] theorem Hz (i:Nat) (g:PV -> PV -> Option RV) (me:ae -> OE) (ρ:ae):o9 i g me ρ = (match ρ[i]? with
  | some (some (.sh x))=>(me ρ).bL ρ fun r=>match g x r.pv with
    | some (.sh z)=>.nx (ρ.set i (some (.sh z)))
    | _=>.bad
  | _=>.bad):=rfl
@[simp] theorem EL (i:Nat) (mk me:ae -> OE) (ρ:ae):AK i mk me ρ = (match ρ[i]? with
  | some (some (.ow xs))=>(aj mk (aj me aO) ρ).bL ρ fun ys=>match ys with
    | [.int k,y]=>if (-(2 ^ 63) <= k /\ k < 2 ^ 63) /\ xs.length < lim then .nx (ρ.set i (some (.ow (EZ xs k y)))) else .bad
    | _=>.bad
  | _=>.bad):=rfl
@[simp] theorem Fz (x:PV) (ρ:ae):mC x ρ = .ok (.sh x):=rfl
@[simp] theorem Hs (ρ:ae):aO ρ = .ok []:=rfl
@[simp] theorem FV (ρ:ae):FE ρ = .rt ρ (.sh .non):=rfl
@[simp] theorem mf (r:RV) (f:RV -> OE):OE.bind (.ok r) f = f r:=rfl
@[simp] theorem Di (c:String) (fs:XF) (f:RV -> OE):OE.bind (.exc c fs) f = .exc c fs:=rfl
@[simp] theorem CB {p:Prop} [Decidable p] (x y:OE) (f:RV -> OE):OE.bind (if p then x else y) f = if p then OE.bind x f else OE.bind y f:=by split <;> rfl
@[simp] theorem vc (r:RV) (f:RV -> OT):OE.fi (.ok r) f = f r:=rfl
@[simp] theorem BO (c:String) (fs:XF) (f:RV -> OT):OE.fi (.exc c fs) f = .exc c fs:=rfl
@[simp] theorem Cn {p:Prop} [Decidable p] (x y:OE) (f:RV -> OT):OE.fi (if p then x else y) f = if p then OE.fi x f else OE.fi y f:=by split <;> rfl
@[simp] theorem DV (r:RV) (f:RV -> OA):OE.eW (.ok r) f = f r:=rfl
@[simp] theorem BQ (c:String) (fs:XF) (f:RV -> OA):OE.eW (.exc c fs) f = .exc c fs:=rfl
@[simp] theorem B1 {p:Prop} [Decidable p] (x y:OE) (f:RV -> OA):OE.eW (if p then x else y) f = if p then OE.eW x f else OE.eW y f:=by split <;> rfl
@[simp] theorem EG (r:Bool) (f:Bool -> OE):OT.bind (.ok r) f = f r:=rfl
@[simp] theorem Eg (c:String) (fs:XF) (f:Bool -> OE):OT.bind (.exc c fs) f = .exc c fs:=rfl
@[simp] theorem DW {p:Prop} [Decidable p] (x y:OT) (f:Bool -> OE):OT.bind (if p then x else y) f = if p then OT.bind x f else OT.bind y f:=by split <;> rfl
@[simp] theorem DN (r:Bool) (f:Bool -> OT):OT.fi (.ok r) f = f r:=rfl
@[simp] theorem Cu (c:String) (fs:XF) (f:Bool -> OT):OT.fi (.exc c fs) f = .exc c fs:=rfl
@[simp] theorem Cv {p:Prop} [Decidable p] (x y:OT) (f:Bool -> OT):OT.fi (if p then x else y) f = if p then OT.fi x f else OT.fi y f:=by split <;> rfl
@[simp] theorem EF (r:List PV) (f:List PV -> OE):OA.bind (.ok r) f = f r:=rfl
@[simp] theorem CL (c:String) (fs:XF) (f:List PV -> OE):OA.bind (.exc c fs) f = .exc c fs:=rfl
@[simp] theorem D8 {p:Prop} [Decidable p] (x y:OA) (f:List PV -> OE):OA.bind (if p then x else y) f = if p then OA.bind x f else OA.bind y f:=by split <;> rfl
@[simp] theorem Dx (r:List PV) (f:List PV -> OA):OA.eW (.ok r) f = f r:=rfl
@[simp] theorem BR (c:String) (fs:XF) (f:List PV -> OA):OA.eW (.exc c fs) f = .exc c fs:=rfl
@[simp] theorem BW {p:Prop} [Decidable p] (x y:OA) (f:List PV -> OA):OA.eW (if p then x else y) f = if p then OA.eW x f else OA.eW y f:=by split <;> rfl
@[simp] theorem jj (ρ:ae) (r:RV) (f:RV -> OS):OE.bL ρ (.ok r) f = f r:=rfl
@[simp] theorem Ce (ρ:ae) (c:String) (fs:XF) (f:RV -> OS):OE.bL ρ (.exc c fs) f = .exc ρ c fs:=rfl
@[simp] theorem B0 {p:Prop} [Decidable p] (ρ:ae) (x y:OE) (f:RV -> OS):OE.bL ρ (if p then x else y) f = if p then OE.bL ρ x f else OE.bL ρ y f:=by split <;> rfl
@[simp] theorem d5 (ρ:ae) (r:Bool) (f:Bool -> OS):OT.bL ρ (.ok r) f = f r:=rfl
@[simp] theorem Cs (ρ:ae) (c:String) (fs:XF) (f:Bool -> OS):OT.bL ρ (.exc c fs) f = .exc ρ c fs:=rfl
@[simp] theorem Cp {p:Prop} [Decidable p] (ρ:ae) (x y:OT) (f:Bool -> OS):OT.bL ρ (if p then x else y) f = if p then OT.bL ρ x f else OT.bL ρ y f:=by split <;> rfl
@[simp] theorem Ef (ρ:ae) (r:List PV) (f:List PV -> OS):OA.bL ρ (.ok r) f = f r:=rfl
@[simp] theorem Ca (ρ:ae) (c:String) (fs:XF) (f:List PV -> OS):OA.bL ρ (.exc c fs) f = .exc ρ c fs:=rfl
@[simp] theorem Cb {p:Prop} [Decidable p] (ρ:ae) (x y:OA) (f:List PV -> OS):OA.bL ρ (if p then x else y) f = if p then OA.bL ρ x f else OA.bL ρ y f:=by split <;> rfl
@[simp] theorem fc (ρ:ae) (k:ae -> OS):(OS.nx ρ).andThen k = k ρ:=rfl
@[simp] theorem iW (ρ:ae) (k:ae -> OS):(OS.nx ρ).turn k = k ρ:=rfl
@[simp] theorem CS (ρ:ae) (k:ae -> OS):(OS.bk ρ).andThen k = OS.bk ρ:=rfl
@[simp] theorem FU (ρ:ae) (k:ae -> OS):(OS.bk ρ).turn k = .nx ρ:=rfl
@[simp] theorem Eb (ρ:ae) (k:ae -> OS):(OS.ct ρ).andThen k = OS.ct ρ:=rfl
@[simp] theorem Gp (ρ:ae) (k:ae -> OS):(OS.ct ρ).turn k = k ρ:=rfl
@[simp] theorem pM (ρ:ae) (r:RV) (k:ae -> OS):(OS.rt ρ r).andThen k = OS.rt ρ r:=rfl
@[simp] theorem wN (ρ:ae) (r:RV) (k:ae -> OS):(OS.rt ρ r).turn k = OS.rt ρ r:=rfl
@[simp] theorem Cm (ρ:ae) (c:String) (fs:XF) (k:ae -> OS):(OS.exc ρ c fs).andThen k = OS.exc ρ c fs:=rfl
@[simp] theorem FI (ρ:ae) (c:String) (fs:XF) (k:ae -> OS):(OS.exc ρ c fs).turn k = OS.exc ρ c fs:=rfl
@[simp] theorem B2 {p:Prop} [Decidable p] (x y:OS) (k:ae -> OS):OS.andThen (if p then x else y) k = if p then x.andThen k else y.andThen k:=by split <;> rfl
@[simp] theorem FG {p:Prop} [Decidable p] (x y:OS) (k:ae -> OS):OS.turn (if p then x else y) k = if p then x.turn k else y.turn k:=by split <;> rfl
@[simp] theorem G9 (ρ:ae):fin (.nx ρ) = .ok (.sh .non):=rfl
@[simp] theorem HC (ρ:ae) (x:PV):fin (.rt ρ (.sh x)) = .ok (.sh x):=rfl
@[simp] theorem GY (ρ:ae) (x:List PV):fin (.rt ρ (.fr x)) = .ok (.fr x):=rfl
@[simp] theorem Ge (ρ:ae) (c:String) (fs:XF):fin (.exc ρ c fs) = .exc c fs:=rfl
@[simp] theorem FY {p:Prop} [Decidable p] (x y:OS):fin (if p then x else y) = if p then fin x else fin y:=by split <;> rfl
@[simp] theorem FA (x:PV):RV.pv (.sh x) = x:=rfl
@[simp] theorem Ci (x:List PV):RV.pv (.fr x) = .lst x:=rfl
@[simp] theorem Cf (x:List PV):RV.pv (.al x) = .lst x:=rfl
@[simp] theorem tu (r:RV):oE (some r) = .ok r:=rfl
@[simp] theorem F8 (r:Bool):oT (some r) = .ok r:=rfl
@[simp] theorem EE (i:Nat) (mb:ae -> OS) (ρ:ae):jy i mb [] ρ = .nx ρ:=rfl
@[simp] theorem nr (i:Nat) (mb:ae -> OS) (x:PV) (xs:List PV) (ρ:ae):jy i mb (x ::xs) ρ = (mb (ρ.set i (some (.sh x)))).turn (jy i mb xs):=rfl
@[simp] theorem GV (i j:Int):gV (.int i) (.int j) = some (.sh (.int (i + j))):=rfl
@[simp] theorem GW (i j:Int):pI (.int i) (.int j) = some (.sh (.int (i - j))):=rfl
@[simp] theorem Aj (i j:Int):qH (.int i) (.int j) = if ((decide (-(2 ^ 64) < i) && decide (i < 2 ^ 64)) || (decide (-(2 ^ 64) < j) && decide (j < 2 ^ 64))) = true then some (.sh (.int (i * j))) else none:=rfl
@[simp] theorem He (i j:Int):qz (.int i) (.int j) = if (decide (0 < j) && decide (j < 1073741824)) = true then some (.sh (.int (i / j))) else none:=rfl
@[simp] theorem GP (i j:Int):gW (.int i) (.int j) = if decide (0 < j) = true then some (.sh (.int (i % j))) else none:=rfl
@[simp] theorem Gv (i j:Int):ui (.int i) (.int j) = if (decide (0 <= j) && (decide (j <= 1000000) && decide (i.natAbs < 2 ^ 64))) = true then some (.sh (.int (i ^ j.toNat))) else none:=rfl
@[simp] theorem EW (i j:Int):gLt (.int i) (.int j) = some (.sh (.bl (decide (i < j)))):=rfl
@[simp] theorem HG (i j:Int):gLe (.int i) (.int j) = some (.sh (.bl (decide (i <= j)))):=rfl
@[simp] theorem HH (i j:Int):gGt (.int i) (.int j) = some (.sh (.bl (decide (j < i)))):=rfl
@[simp] theorem HJ (i j:Int):gGe (.int i) (.int j) = some (.sh (.bl (decide (j <= i)))):=rfl
@[simp] theorem HR (i j:Int):gEq (.int i) (.int j) = some (.sh (.bl (decide (i = j)))):=rfl
@[simp] theorem HX (i j:Int):gNe (.int i) (.int j) = some (.sh (.bl (!decide (i = j)))):=rfl
@[simp] theorem HF (i j:Bool):gEq (.bl i) (.bl j) = some (.sh (.bl (decide (i = j)))):=rfl
@[simp] theorem HZ (i j:Bool):gNe (.bl i) (.bl j) = some (.sh (.bl (!decide (i = j)))):=rfl
@[simp] theorem DD (xs:List PV):kY (.lst xs) = some (.sh (.int xs.length)):=rfl
@[simp] theorem GI (xs:List PV):kY (.tup xs) = some (.sh (.int xs.length)):=rfl
@[simp] theorem G5 (xs:List PV) (i:Int):jK (.lst xs) (.int i) = (atP xs i).map .sh:=rfl
@[simp] theorem G1 (xs:List PV) (i:Int):jV (.tup xs) (.int i) = (atP xs i).map .sh:=rfl
@[simp] theorem GL (xs ys:List PV):mx (.lst xs) (.lst ys) = if xs.length + ys.length <= lim then some (.fr (xs ++ ys)) else none:=rfl
@[simp] theorem Hl {p:Prop} [Decidable p] (x y:Option RV):oE (if p then x else y) = if p then oE x else oE y:=by split <;> rfl
@[simp] theorem GU (b:Bool):qb (.bl b) = some b:=rfl
@[simp] theorem GO (i:Int):qb (.int i) = some (i != 0):=rfl
@[simp] theorem Hu (xs:List PV):qb (.lst xs) = some (!xs.isEmpty):=rfl
@[simp] theorem Hy (xs:List PV):qb (.tup xs) = some (!xs.isEmpty):=rfl
@[simp] theorem G0:qb .non = some false:=rfl
@[simp] theorem EN (i:Int):isP "int" (.int i) = some true:=rfl
@[simp] theorem DL (i:Int):isP "bool" (.int i) = some false:=rfl
@[simp] theorem DG (i:Bool):isP "bool" (.bl i) = some true:=rfl
@[simp] theorem Dz (xs:List PV):isP "list" (.lst xs) = some true:=rfl
@[simp] theorem EM (xs:List PV):wa (.lst xs) = some (.fr xs):=rfl
@[simp] theorem EJ (xs:List PV):wa (.tup xs) = some (.fr xs):=rfl
@[simp] theorem Hn (xs:List PV) (lo hi:Option Int):Dd (.lst xs) lo hi = some (.fr (lM xs lo hi)):=rfl
@[simp] theorem FW:pL .non = none:=rfl
@[simp] theorem FX (i:Int):pL (.int i) = some i:=rfl
@[simp] theorem Hv (i:Int):p5 (.int i) = some (.sh (.int (-i))):=rfl
@[simp] theorem FP (i:Int):B4 (.int i) = some (.sh (.int i)):=rfl
@[simp] theorem Gb (i:Bool):B4 (.bl i) = some (.sh (.int (if i then 1 else 0))):=rfl
@[simp] theorem Gu (x:PV):jG (.sh x) = some x:=rfl
@[simp] theorem F4 (x:List PV):jG (.fr x) = some (.lst x):=rfl
@[simp] theorem Bs (x:PV):yF (.sh x) = some (.sh x):=rfl
@[simp] theorem Ga (x:List PV):yF (.fr x) = some (.ow x):=rfl
@[simp] theorem tW (np n:Nat) (m:ae -> OS) (xs:List PV):fnP np n m xs = if xs.length = np then fin (m (kZ n xs)) else .bad:=rfl
@[simp] theorem nU (n:Nat) (xs:List PV):kZ n xs = xs.map (fun x=>some (.sh x)) ++ List.replicate (n - xs.length) none:=rfl
@[simp] theorem DU (xs:List PV):vy (.sh (.lst xs)) = some xs:=rfl
@[simp] theorem F9 (xs:List PV):vy (.fr xs) = some xs:=rfl
@[simp] theorem Hf (x:PV):uQ x .non = some (.sh (.bl (cj x))):=rfl
@[simp] theorem F7 (x:PV):rM x .non = some (.sh (.bl (!cj x))):=rfl
@[simp] theorem zg (xs:List PV):noX (.ok xs) = if xs.length <= lim then .ok (.fr xs) else .bad:=rfl
@[simp] theorem D6 (me:ae -> OE) (ρ:ae):dy me ρ [] = .ok []:=rfl
@[simp] theorem DM (f:RV -> OE):OE.bind .bad f = .bad:=rfl
@[simp] theorem Cr (f:RV -> OT):OE.fi .bad f = .bad:=rfl
@[simp] theorem Cj (f:RV -> OA):OE.eW .bad f = .bad:=rfl
@[simp] theorem Ea (f:Bool -> OE):OT.bind .bad f = .bad:=rfl
@[simp] theorem Cg (f:Bool -> OT):OT.fi .bad f = .bad:=rfl
@[simp] theorem CJ (f:List PV -> OE):OA.bind .bad f = .bad:=rfl
@[simp] theorem B8 (f:List PV -> OA):OA.eW .bad f = .bad:=rfl
@[simp] theorem B6 (ρ:ae) (f:RV -> OS):OE.bL ρ .bad f = .bad:=rfl
@[simp] theorem Co (ρ:ae) (f:Bool -> OS):OT.bL ρ .bad f = .bad:=rfl
@[simp] theorem BP (ρ:ae) (f:List PV -> OS):OA.bL ρ .bad f = .bad:=rfl
@[simp] theorem B5 (k:ae -> OS):OS.bad.andThen k = .bad:=rfl
@[simp] theorem EX (k:ae -> OS):OS.bad.turn k = .bad:=rfl
@[simp] theorem F0:fin .bad = .bad:=rfl
@[simp] theorem Gg:oE none = .bad:=rfl
@[simp] theorem F3:oT none = .bad:=rfl
@[simp] theorem Gm (x:List PV):jG (.al x) = none:=rfl
@[simp] theorem Gd (x:List PV):yF (.al x) = none:=rfl
@[simp] theorem HU:(0 <= lim) = True:=by simp [lim]
@[simp] theorem HL:(1 <= lim) = True:=by simp [lim]
@[simp] theorem HP:(2 <= lim) = True:=by simp [lim]
@[simp] theorem HI:(3 <= lim) = True:=by simp [lim]
@[simp] theorem HK:(4 <= lim) = True:=by simp [lim]
@[simp] theorem HQ:(5 <= lim) = True:=by simp [lim]
@[simp] theorem HW:(6 <= lim) = True:=by simp [lim]
@[simp] theorem HN:(7 <= lim) = True:=by simp [lim]
@[simp] theorem H0:(8 <= lim) = True:=by simp [lim]
@[simp] theorem HS:(9 <= lim) = True:=by simp [lim]
@[simp] theorem GX:(10 <= lim) = True:=by simp [lim]
@[simp] theorem G8:(11 <= lim) = True:=by simp [lim]
@[simp] theorem GZ:(12 <= lim) = True:=by simp [lim]
@[simp] theorem G2:(13 <= lim) = True:=by simp [lim]
@[simp] theorem GC:(14 <= lim) = True:=by simp [lim]
@[simp] theorem Ho:(15 <= lim) = True:=by simp [lim]
@[simp] theorem Hc:(16 <= lim) = True:=by simp [lim]
theorem iJ {n:Nat} (h:n <= 1000000):n <= lim:=by unfold lim; omega
theorem vK {n:Nat} (h:n <= 1000000):n < lim:=by unfold lim; omega
theorem nR {α:Type} (xs:List α) (k:Nat):atP xs (k:Int) = xs[k]?:=by
 unfold atP ixP
 by_cases h:k < xs.length
 . simp [h]
 . simp [h]
@[simp] theorem HE {α:Type} (xs:List α):atP xs 0 = xs[0]?:=nR xs 0
@[simp] theorem HD {α:Type} (xs:List α):atP xs 1 = xs[1]?:=nR xs 1
@[simp] theorem Gr {α:Type} (xs:List α) (n:Nat):atP xs (no_index (OfNat.ofNat n:Int)) = xs[n]?:=nR xs n
theorem Cz {α:Type} (xs:List α) (i:Int) (h:0 <= i):atP xs i = xs[i.toNat]?:=by
 have:=nR xs i.toNat
 rwa [Int.toNat_of_nonneg h] at this
@[simp] theorem HM (T:String) (ma:ae -> OE) (ρ:ae):mIs T ma ρ = (ma ρ).bind fun a=>oE ((isP T a.pv).map fun b=>.sh (.bl b)):=rfl
@[simp] theorem CU (ns:List Int):vo (ns.map .int) = some ns:=by
  induction ns with
  | nil=>rfl
  | cons n ns ih=>show (vo (ns.map .int)).map (n ::·) = _; rw [ih]; rfl
@[simp] theorem oQ (ns:List Bool):lZ (ns.map .bl) = some ns:=by
  induction ns with
  | nil=>rfl
  | cons n ns ih=>show (lZ (ns.map .bl)).map (n ::·) = _; rw [ih]; rfl
@[simp] theorem D7 (n:Nat):(eU n).length = n:=by simp [eU]
theorem rJ {me:ae -> OE} {ρ:ae} {α:Type} {g:α -> PV} {f:α -> PV} (l:List α) (h:∀ a ∈ l,me (ρ ++ [some (.sh (g a))]) = .ok (.sh (f a))):dy me ρ (l.map g) = .ok (l.map f):=by
 induction l with
 | nil=>rfl
 | cons a l ih=>
   have h1:=h a (List.mem_cons_self)
   have h2:=ih fun b hb=>h b (List.mem_cons_of_mem _ hb)
   simp [dy,h1,h2]
def yr (b:Bool):PV -> Bool
 | .bl c=>decide (c = b)
 | _=>false
def G4:PV -> PV -> Option RV
 | x,.bl b=>some (.sh (.bl (yr b x)))
 | _,_=>none
def By:PV -> PV -> Option RV
 | x,.bl b=>some (.sh (.bl (!yr b x)))
 | _,_=>none
@[simp] theorem GS (x:PV) (b:Bool):G4 x (.bl b) = some (.sh (.bl (yr b x))):=rfl
@[simp] theorem EO (x:PV) (b:Bool):By x (.bl b) = some (.sh (.bl (!yr b x))):=rfl
@[simp] theorem Hk (b c:Bool):yr b (.bl c) = decide (c = b):=rfl
def sA (c:String) (f:Str) (ma:ae -> OA):ae -> OS:=fun ρ=>(ma ρ).bL ρ fun xs=>match xs with
 | [x]=>.exc ρ c [(f,x)]
 | _=>.bad
@[simp] theorem EI (c:String) (f:Str) (ma:ae -> OA) (ρ:ae):sA c f ma ρ = (ma ρ).bL ρ fun xs=>match xs with
  | [x]=>.exc ρ c [(f,x)]
  | _=>.bad:=rfl
def Fx (i:Nat) (f:Str) (under:String -> Bool):ae -> OE:=fun ρ=>match ρ[i]? with
 | some (some (.ex c fs))=>if under c = true then (match fs.lookup f with
   | some x=>.ok (.sh x)
   | none=>.bad) else .bad
 | _=>.bad
@[simp] theorem Gn (i:Nat) (f:Str) (under:String -> Bool) (ρ:ae):Fx i f under ρ = match ρ[i]? with
  | some (some (.ex c fs))=>if under c = true then (match fs.lookup f with
    | some x=>.ok (.sh x)
    | none=>.bad) else .bad
  | _=>.bad:=rfl
def Ht (ma mb:ae -> OE):ae -> OE:=fun ρ=>(ma ρ).bind fun a=>(mb ρ).bind fun b=>match a,b.pv with
 | .fr xs,.int k=>if (-(2 ^ 63) <= k /\ k < 2 ^ 63) /\ xs.length * k.toNat <= lim then .ok (.fr (List.replicate k.toNat xs).flatten) else .bad
 | _,_=>.bad
@[simp] theorem Gz (ma mb:ae -> OE) (ρ:ae):Ht ma mb ρ = (ma ρ).bind fun a=>(mb ρ).bind fun b=>match a,b.pv with
  | .fr xs,.int k=>if (-(2 ^ 63) <= k /\ k < 2 ^ 63) /\ xs.length * k.toNat <= lim then .ok (.fr (List.replicate k.toNat xs).flatten) else .bad
  | _,_=>.bad:=rfl
def Aw (i:Nat) (mk mv:ae -> OE):ae -> OS:=fun ρ=>match ρ[i]? with
 | some (some (.ow xs))=>(mv ρ).bL ρ fun r=>match jG r with
   | some y=>(mk ρ).bL ρ fun kk=>match kk.pv with
     | .int k=>match ixP xs.length k with
       | some j=>.nx (ρ.set i (some (.ow (xs.set j y))))
       | none=>.bad
     | _=>.bad
   | none=>.bad
 | _=>.bad
@[simp] theorem GG (i:Nat) (mk mv:ae -> OE) (ρ:ae):Aw i mk mv ρ = match ρ[i]? with
  | some (some (.ow xs))=>(mv ρ).bL ρ fun r=>match jG r with
    | some y=>(mk ρ).bL ρ fun kk=>match kk.pv with
      | .int k=>match ixP xs.length k with
        | some j=>.nx (ρ.set i (some (.ow (xs.set j y))))
        | none=>.bad
      | _=>.bad
    | none=>.bad
  | _=>.bad:=rfl
end L2.P
namespace L2.P
open PySem PySem.Spec PyProof.Rows L2 L2.E
mutual
def Rep (K:PySem.W.Frag) (S:Hp):PV -> V -> Prop
 | .non,v=>v = .non
 | .bl b,v=>v = .bl b
 | .int i,v=>v = .int i
 | .str s,v=>v = .str s
 | .lst xs,v=>∃ p vs,v = .ref p /\ SqL K S p vs /\ bU K S xs vs
 | .tup xs,v=>∃ p vs,v = .ref p /\ SqT K S p vs /\ bU K S xs vs
def bU (K:PySem.W.Frag) (S:Hp):List PV -> List V -> Prop
 | [],vs=>vs = []
 | x ::xs,vs=>∃ v r,vs = v ::r /\ Rep K S x v /\ bU K S xs r
end
theorem _root_.L2.aF.tup {K:PySem.W.Frag} {H H':Hp} {a:Addr} {xs:List V} (e:aF H H') (h:SqT K H a xs):SqT K H' a xs:=by
 rcases h with (h | ⟨o,h⟩) | h
 . exact .inl (.inl (e _ _ h))
 . exact .inl (.inr ⟨o,e _ _ h⟩)
 . exact .inr h
section
variable {K:PySem.W.Frag} {S S':Hp}
mutual
theorem Rep.mono (s:aF S S'):∀ {x:PV} {v:V},Rep K S x v -> Rep K S' x v
 | .non,_,h=>by unfold Rep at h ⊢; exact h
 | .bl _,_,h=>by unfold Rep at h ⊢; exact h
 | .int _,_,h=>by unfold Rep at h ⊢; exact h
 | .str _,_,h=>by unfold Rep at h ⊢; exact h
 | .lst _,_,h=>by
   unfold Rep at h ⊢
   obtain ⟨p,vs,e,q,r⟩:=h
   exact ⟨p,vs,e,aF.seq s q,bU.mono s r⟩
 | .tup _,_,h=>by
   unfold Rep at h ⊢
   obtain ⟨p,vs,e,q,r⟩:=h
   exact ⟨p,vs,e,aF.tup s q,bU.mono s r⟩
theorem bU.mono (s:aF S S'):∀ {xs:List PV} {vs:List V},bU K S xs vs -> bU K S' xs vs
 | [],_,h=>by unfold bU at h ⊢; exact h
 | _ ::_,_,h=>by
   unfold bU at h ⊢
   obtain ⟨v,r,e,q,t⟩:=h
   exact ⟨v,r,e,Rep.mono s q,bU.mono s t⟩
end
theorem bU.nil:bU K S [] []:=by unfold bU; rfl
theorem bU.cons {x:PV} {xs:List PV} {v:V} {vs:List V} (h:Rep K S x v) (t:bU K S xs vs):bU K S (x ::xs) (v ::vs):=by unfold bU; exact ⟨v,vs,rfl,h,t⟩
theorem bU.nil_inv {vs:List V} (h:bU K S [] vs):vs = []:=by unfold bU at h; exact h
theorem bU.cons_inv {x:PV} {xs:List PV} {vs:List V} (h:bU K S (x ::xs) vs):∃ v r,vs = v ::r /\ Rep K S x v /\ bU K S xs r:=by unfold bU at h; exact h
theorem bU.append {xs ys:List PV} {vs us:List V} (h:bU K S xs vs) (t:bU K S ys us):bU K S (xs ++ ys) (vs ++ us):=by
 induction xs generalizing vs with
 | nil=>rw [h.nil_inv]; exact t
 | cons x xs ih=>
   obtain ⟨v,r,rfl,q,h'⟩:=h.cons_inv
   exact .cons q (ih h')
theorem bU.length {xs:List PV} {vs:List V} (h:bU K S xs vs):vs.length = xs.length:=by
 induction xs generalizing vs with
 | nil=>rw [h.nil_inv]; rfl
 | cons x xs ih=>
   obtain ⟨v,r,rfl,q,h'⟩:=h.cons_inv
   simp [ih h']
theorem bU.get {xs:List PV} {vs:List V} (h:bU K S xs vs):∀ {i:Nat} {x:PV},xs[i]? = some x -> ∃ v,vs[i]? = some v /\ Rep K S x v:=by
 induction xs generalizing vs with
 | nil=>intro i x e; simp at e
 | cons y xs ih=>
   obtain ⟨v,r,rfl,q,h'⟩:=h.cons_inv
   intro i x e
   cases i with
   | zero=>simp at e; subst e; exact ⟨v,rfl,q⟩
   | succ i=>simp at e; obtain ⟨u,e1,e2⟩:=ih h' e; exact ⟨u,by simpa using e1,e2⟩
theorem bU.Fe {xs:List PV} {vs:List V} (h:bU K S xs vs) {i:Nat} {v:V} (e:vs[i]? = some v):∃ x,xs[i]? = some x /\ Rep K S x v:=by
 have hi:i < xs.length:=by rw [<- h.length]; exact (List.getElem?_eq_some_iff.mp e).1
 obtain ⟨u,e1,e2⟩:=h.get (i:=i) (x:=xs[i]) (by simp [hi])
 rw [e] at e1; cases e1
 exact ⟨_,by simp [hi],e2⟩
theorem bU.take {xs:List PV} {vs:List V} (h:bU K S xs vs):∀ n,bU K S (xs.take n) (vs.take n):=by
 induction xs generalizing vs with
 | nil=>intro n; rw [h.nil_inv]; simpa using bU.nil
 | cons y xs ih=>
   obtain ⟨v,r,rfl,q,h'⟩:=h.cons_inv
   intro n
   cases n with
   | zero=>exact .nil
   | succ n=>exact .cons q (ih h' n)
theorem bU.drop {xs:List PV} {vs:List V} (h:bU K S xs vs):∀ n,bU K S (xs.drop n) (vs.drop n):=by
 induction xs generalizing vs with
 | nil=>intro n; rw [h.nil_inv]; simpa using bU.nil
 | cons y xs ih=>
   obtain ⟨v,r,rfl,q,h'⟩:=h.cons_inv
   intro n
   cases n with
   | zero=>exact .cons q h'
   | succ n=>exact ih h' n
theorem bU.ints {ns:List Int}:bU K S (ns.map .int) (ns.map V.int):=by
 induction ns with
 | nil=>exact .nil
 | cons n ns ih=>exact .cons (by unfold Rep; rfl) ih
theorem bU.set {xs:List PV} {vs:List V} {x:PV} {v:V} (h:bU K S xs vs) (q:Rep K S x v):∀ i,bU K S (xs.set i x) (vs.set i v):=by
 induction xs generalizing vs with
 | nil=>intro i; rw [h.nil_inv]; exact .nil
 | cons y xs ih=>
   obtain ⟨u,r,rfl,qu,h'⟩:=h.cons_inv
   intro i
   cases i with
   | zero=>exact .cons q h'
   | succ i=>exact .cons qu (ih h' i)
end
end L2.P
namespace L2.P
open PySem PySem.Spec PyProof.Rows L2 L2.E
def mq (K:PySem.W.Frag) (cls:String -> Option Addr) (S H:Hp) (c:String) (fs:XF) (a C:Addr):Prop:=
 cls c = some C /\ ∃ dx,H a = some (nM a C dx) /\ (fs = [] \/ ∃ d us,dx = some d /\ H d = some (.xd us) /\ fs.map (·.1) = us.map (·.1) /\ bU K S (fs.map (·.2)) (us.map (·.2)))
def isX:HO -> Bool
 | .ext _=>true
 | .xd _=>true
 | _=>false
def yW (K:PySem.W.Frag) (S:Hp) (kvs:List (Int × PV)) (us:List (Key × V)):Prop:=Paired (fun (p:Int × PV) (q:Key × V)=>q.1 = Sum.inl p.1 /\ Rep K S p.2 q.2) kvs us
def uP (K:PySem.W.Frag) (S:Hp) (kvs:List (List Int × PV)) (us:List (List Key × V)):Prop:=Paired (fun (p:List Int × PV) (q:List Key × V)=>q.1 = p.1.map Sum.inl /\ Rep K S p.2 q.2) kvs us
theorem yW.mono {K:PySem.W.Frag} {S S':Hp} (s:aF S S'):∀ {kvs:List (Int × PV)} {us:List (Key × V)},yW K S kvs us -> yW K S' kvs us
 | _,_,.nil=>.nil
 | _,_,.cons h t=>.cons ⟨h.1,Rep.mono s h.2⟩ (yW.mono s t)
theorem uP.mono {K:PySem.W.Frag} {S S':Hp} (s:aF S S'):∀ {kvs:List (List Int × PV)} {us:List (List Key × V)},uP K S kvs us -> uP K S' kvs us
 | _,_,.nil=>.nil
 | _,_,.cons h t=>.cons ⟨h.1,Rep.mono s h.2⟩ (uP.mono s t)
mutual
def bM (K:PySem.W.Frag) (cls:String -> Option Addr) (S H:Hp):OV -> V -> List Addr -> Prop
 | .sh x,v,fp=>fp = [] /\ Rep K S x v
 | .ol ts,v,fp=>∃ p vs f,v = .ref p /\ H p = some (.lst vs) /\ fp = p ::f /\ bJ K cls S H ts vs f
 | .ob c ks ts,v,fp=>∃ p C dx us f,v = .ref p /\ cls c = some C /\ H p = some (.ins C dx us) /\ H dx = some (.own p) /\ us.map (·.1) = ks /\ fp = p ::dx ::f /\ bJ K cls S H ts (us.map (·.2)) f
 | .di kvs,v,fp=>∃ p us,v = .ref p /\ H p = some (.dK us) /\ fp = [p] /\ yW K S kvs us
 | .dt kvs,v,fp=>∃ p us,v = .ref p /\ H p = some (.dT us) /\ fp = [p] /\ uP K S kvs us
def bJ (K:PySem.W.Frag) (cls:String -> Option Addr) (S H:Hp):List OV -> List V -> List Addr -> Prop
 | [],vs,fp=>vs = [] /\ fp = []
 | t ::ts,vs,fp=>∃ v r f1 f2,vs = v ::r /\ fp = f1 ++ f2 /\ bM K cls S H t v f1 /\ bJ K cls S H ts r f2
end
def pd (K:PySem.W.Frag) (cls:String -> Option Addr) (Av G S H:Hp) (i:Nat):Sl -> V -> List Addr -> Prop
 | .sh x,v,fp=>fp = [] /\ Rep K S x v
 | .ow xs,v,fp=>∃ p vs,v = .ref p /\ fp = [p] /\ G p = none /\ S p = none /\ H p = some (.lst vs) /\ bU K S xs vs
 | .ex c fs,v,fp=>fp = [] /\ ∃ a C,v = .ref a /\ mq K cls S H c fs a C
 | .tr io t,v,fp=>bM K cls S H t v fp /\ fp.Nodup /\ (∀ a ∈ fp,G a = none /\ S a = none) /\ (io = true -> Av i = some (.lst [v]))
 | .bo t,v,fp=>fp = [] /\ ∃ f,bM K cls S G t v f
def BN (K:PySem.W.Frag) (cls:String -> Option Addr) (G S H:Hp):Sl -> V -> Prop
 | .sh x,v=>Rep K S x v
 | .ow xs,v=>∃ p vs,v = .ref p /\ G p = none /\ S p = none /\ H p = some (.lst vs) /\ bU K S xs vs
 | .ex c fs,v=>∃ a C,v = .ref a /\ mq K cls S H c fs a C
 | _,_=>True
def jT (K:PySem.W.Frag) (B S H:Hp):RV -> V -> Prop
 | .sh x,v=>Rep K S x v
 | .fr xs,v=>∃ p vs,v = .ref p /\ B p = none /\ S p = none /\ H p = some (.lst vs) /\ bU K S xs vs
 | .al xs,v=>∃ p vs,v = .ref p /\ SqL K H p vs /\ bU K S xs vs
def RdV (K:PySem.W.Frag) (S H:Hp):PV -> V -> Prop
 | .lst xs,v=>∃ p vs,v = .ref p /\ SqL K H p vs /\ bU K S xs vs
 | x,v=>Rep K S x v
structure SRF (K:PySem.W.Frag) (cls:String -> Option Addr) (Av G S₀:Hp) (ρ:ae) (σ:St) (S H:Hp) (F:Nat -> List Addr):Prop where
 gh:aF G H
 s0:aF S₀ S
 sh:aF S H
 new:∀ b,S b ≠ none -> S₀ b ≠ none \/ G b = none
 own:∀ (i:Nat) (s:Sl),ρ[i]? = some (some s) -> ∃ v,σ[i]? = some (some v) /\ pd K cls Av G S H i s v (F i)
 apart:∀ i j a,a ∈ F i -> a ∈ F j -> i = j
 live:∀ i a,a ∈ F i -> (∃ o,H a = some o /\ isX o = false) /\ G a = none /\ S a = none
 len:ρ.length = σ.length
def SR (K:PySem.W.Frag) (cls:String -> Option Addr) (Av G S₀:Hp) (ρ:ae) (σ:St) (S H:Hp):Prop:=∃ F,SRF K cls Av G S₀ ρ σ S H F
section
variable {K:PySem.W.Frag} {cls:String -> Option Addr} {Av G S₀ S S' H H' B:Hp} {ρ:ae} {σ:St} {F:Nat -> List Addr}
theorem SR.gh (I:SR K cls Av G S₀ ρ σ S H):aF G H:=let ⟨_,J⟩:=I; J.gh
theorem SR.s0 (I:SR K cls Av G S₀ ρ σ S H):aF S₀ S:=let ⟨_,J⟩:=I; J.s0
theorem SR.sh (I:SR K cls Av G S₀ ρ σ S H):aF S H:=let ⟨_,J⟩:=I; J.sh
theorem SR.new (I:SR K cls Av G S₀ ρ σ S H):∀ b,S b ≠ none -> S₀ b ≠ none \/ G b = none:=let ⟨_,J⟩:=I; J.new
theorem SR.len (I:SR K cls Av G S₀ ρ σ S H):ρ.length = σ.length:=let ⟨_,J⟩:=I; J.len
theorem pd.one {i:Nat} {s:Sl} {v:V} {fp:List Addr} (h:pd K cls Av G S H i s v fp):BN K cls G S H s v:=by
 cases s with
 | sh x=>exact h.2
 | ow xs=>obtain ⟨p,vs,e,_,r⟩:=h; exact ⟨p,vs,e,r⟩
 | ex c fs=>exact h.2
 | tr io t=>trivial
 | bo t=>trivial
theorem SR.good (I:SR K cls Av G S₀ ρ σ S H) (i:Nat) (s:Sl) (e:ρ[i]? = some (some s)):∃ v,σ[i]? = some (some v) /\ BN K cls G S H s v:=by
 obtain ⟨F,J⟩:=I
 obtain ⟨v,e1,r⟩:=J.own i s e
 exact ⟨v,e1,r.one⟩
theorem mq.mono {c:String} {fs:XF} {a C:Addr} (h:mq K cls S H c fs a C) (s:aF S S') (g:aF H H'):mq K cls S' H' c fs a C:=by
 obtain ⟨h1,dx,h2,h3⟩:=h
 refine ⟨h1,dx,g _ _ h2,?_⟩
 rcases h3 with h3 | ⟨d,us,e1,e2,e3,e4⟩
 . exact .inl h3
 . exact .inr ⟨d,us,e1,g _ _ e2,e3,e4.mono s⟩
theorem mq.Fq {c:String} {fs:XF} {a C:Addr} (h:mq K cls S H c fs a C) (s:aF S S') (g:∀ b o,isX o = true -> H b = some o -> H' b = some o):mq K cls S' H' c fs a C:=by
 obtain ⟨h1,dx,h2,h3⟩:=h
 refine ⟨h1,dx,g _ _ rfl h2,?_⟩
 rcases h3 with h3 | ⟨d,us,e1,e2,e3,e4⟩
 . exact .inl h3
 . exact .inr ⟨d,us,e1,g _ _ rfl e2,e3,e4.mono s⟩
mutual
theorem bM.mono (s:aF S S'):∀ {t:OV} {v:V} {fp:List Addr},bM K cls S H t v fp -> (∀ a ∈ fp,∀ o,H a = some o -> H' a = some o) -> bM K cls S' H' t v fp
 | .sh _,_,_,h,_=>by unfold bM at h ⊢; exact ⟨h.1,Rep.mono s h.2⟩
 | .ol _,_,_,h,g=>by
   unfold bM at h ⊢
   obtain ⟨p,vs,f,e,q,e2,r⟩:=h
   subst e2
   exact ⟨p,vs,f,e,g p (by simp) _ q,rfl,bJ.mono s r fun a ha=>g a (by simp [ha])⟩
 | .ob _ _ _,_,_,h,g=>by
   unfold bM at h ⊢
   obtain ⟨p,C,dx,us,f,e,c,q,q2,k,e2,r⟩:=h
   subst e2
   exact ⟨p,C,dx,us,f,e,c,g p (by simp) _ q,g dx (by simp) _ q2,k,rfl,bJ.mono s r fun a ha=>g a (by simp [ha])⟩
 | .di _,_,_,h,g=>by
   unfold bM at h ⊢
   obtain ⟨p,us,e,q,e2,r⟩:=h
   subst e2
   exact ⟨p,us,e,g p (by simp) _ q,rfl,r.mono s⟩
 | .dt _,_,_,h,g=>by
   unfold bM at h ⊢
   obtain ⟨p,us,e,q,e2,r⟩:=h
   subst e2
   exact ⟨p,us,e,g p (by simp) _ q,rfl,r.mono s⟩
theorem bJ.mono (s:aF S S'):∀ {ts:List OV} {vs:List V} {fp:List Addr},bJ K cls S H ts vs fp -> (∀ a ∈ fp,∀ o,H a = some o -> H' a = some o) -> bJ K cls S' H' ts vs fp
 | [],_,_,h,_=>by unfold bJ at h ⊢; exact h
 | _ ::_,_,_,h,g=>by
   unfold bJ at h ⊢
   obtain ⟨v,r,f1,f2,e,e2,q,t⟩:=h
   subst e2
   exact ⟨v,r,f1,f2,e,rfl,bM.mono s q fun a ha=>g a (List.mem_append_left _ ha),bJ.mono s t fun a ha=>g a (List.mem_append_right _ ha)⟩
end
mutual
theorem bM.live:∀ {t:OV} {v:V} {fp:List Addr},bM K cls S H t v fp -> ∀ a ∈ fp,∃ o,H a = some o /\ isX o = false
 | .sh _,_,_,h,a,ha=>by unfold bM at h; rw [h.1] at ha; cases ha
 | .ol _,_,_,h,a,ha=>by
   unfold bM at h
   obtain ⟨p,vs,f,e,q,e2,r⟩:=h
   subst e2
   rcases List.mem_cons.mp ha with z | z
   . subst z; exact ⟨_,q,rfl⟩
   . exact bJ.live r a z
 | .ob _ _ _,_,_,h,a,ha=>by
   unfold bM at h
   obtain ⟨p,C,dx,us,f,e,c,q,q2,k,e2,r⟩:=h
   subst e2
   rcases List.mem_cons.mp ha with z | z
   . subst z; exact ⟨_,q,rfl⟩
   . rcases List.mem_cons.mp z with z | z
     . subst z; exact ⟨_,q2,rfl⟩
     . exact bJ.live r a z
 | .di _,_,_,h,a,ha=>by
   unfold bM at h
   obtain ⟨p,us,e,q,e2,r⟩:=h
   subst e2
   have z:a = p:=by simpa using ha
   subst z
   exact ⟨_,q,rfl⟩
 | .dt _,_,_,h,a,ha=>by
   unfold bM at h
   obtain ⟨p,us,e,q,e2,r⟩:=h
   subst e2
   have z:a = p:=by simpa using ha
   subst z
   exact ⟨_,q,rfl⟩
theorem bJ.live:∀ {ts:List OV} {vs:List V} {fp:List Addr},bJ K cls S H ts vs fp -> ∀ a ∈ fp,∃ o,H a = some o /\ isX o = false
 | [],_,_,h,a,ha=>by unfold bJ at h; rw [h.2] at ha; cases ha
 | _ ::_,_,_,h,a,ha=>by
   unfold bJ at h
   obtain ⟨v,r,f1,f2,e,e2,q,t⟩:=h
   subst e2
   rcases List.mem_append.mp ha with z | z
   . exact bM.live q a z
   . exact bJ.live t a z
end
theorem pd.mono {i:Nat} {sl:Sl} {v:V} {fp:List Addr} (h:pd K cls Av G S H i sl v fp) (s:aF S S') (g:∀ a ∈ fp,∀ o,H a = some o -> H' a = some o) (x:∀ b o,isX o = true -> H b = some o -> H' b = some o) (n:∀ a ∈ fp,S' a = none):pd K cls Av G S' H' i sl v fp:=by
 cases sl with
 | sh y=>exact ⟨h.1,Rep.mono s h.2⟩
 | ow xs=>
   obtain ⟨p,vs,e,e2,h1,h2,h3,h4⟩:=h
   subst e2
   exact ⟨p,vs,e,rfl,h1,n p (by simp),g p (by simp) _ h3,h4.mono s⟩
 | ex c fs=>obtain ⟨e,a,C,e2,q⟩:=h; exact ⟨e,a,C,e2,q.Fq s x⟩
 | tr io t=>exact ⟨h.1.mono s g,h.2.1,fun a ha=>⟨(h.2.2.1 a ha).1,n a ha⟩,h.2.2.2⟩
 | bo t=>obtain ⟨e,f,r⟩:=h; exact ⟨e,f,r.mono s fun _ _ _ z=>z⟩
theorem RdV.mono {x:PV} {v:V} (h:RdV K S H x v) (s:aF S S') (g:aF H H'):RdV K S' H' x v:=by
 cases x with
 | lst xs=>obtain ⟨p,vs,e,q,r⟩:=h; exact ⟨p,vs,e,aF.seq g q,r.mono s⟩
 | non=>exact Rep.mono s h
 | bl b=>exact Rep.mono s h
 | int i=>exact Rep.mono s h
 | str x=>exact Rep.mono s h
 | tup xs=>exact Rep.mono s h
theorem Rep.rd {x:PV} {v:V} (h:Rep K S x v) (g:aF S H):RdV K S H x v:=by
 cases x with
 | lst xs=>unfold Rep at h; obtain ⟨p,vs,e,q,r⟩:=h; exact ⟨p,vs,e,aF.seq g q,r⟩
 | non=>exact h
 | bl b=>exact h
 | int i=>exact h
 | str x=>exact h
 | tup xs=>exact h
theorem jT.rd {r:RV} {v:V} (h:jT K B S H r v) (g:aF S H):RdV K S H r.pv v:=by
 cases r with
 | sh x=>exact Rep.rd h g
 | fr xs=>obtain ⟨p,vs,e,_,_,q,r⟩:=h; exact ⟨p,vs,e,SqL.new q,r⟩
 | al xs=>exact h
theorem SRF.change (I:SRF K cls Av G S₀ ρ σ S H F) (gh:aF G H') (s:aF S S') (sh:aF S' H') (new:∀ b,S' b ≠ none -> S₀ b ≠ none \/ G b = none)
  (g:∀ i a,a ∈ F i -> ∀ o,H a = some o -> H' a = some o) (x:∀ b o,isX o = true -> H b = some o -> H' b = some o) (n:∀ i a,a ∈ F i -> S' a = none):SRF K cls Av G S₀ ρ σ S' H' F where
 gh:=gh
 s0:=I.s0.trans s
 sh:=sh
 new:=new
 own:=fun i t e=>by
  obtain ⟨v,e1,r⟩:=I.own i t e
  exact ⟨v,e1,r.mono s (fun a ha=>g i a ha) x fun a ha=>n i a ha⟩
 apart:=I.apart
 live:=fun i a ha=>by
  obtain ⟨⟨o,h1,h2⟩,h3,_⟩:=I.live i a ha
  exact ⟨⟨o,g i a ha o h1,h2⟩,h3,n i a ha⟩
 len:=I.len
theorem SRF.same (I:SRF K cls Av G S₀ ρ σ S H F) (g:aF H H'):SRF K cls Av G S₀ ρ σ S H' F:=
 I.change (I.gh.trans g) (aF.refl _) (I.sh.trans g) I.new (fun _ _ _ o e=>g _ _ e) (fun _ _ _ e=>g _ _ e) fun i a ha=>(I.live i a ha).2.2
theorem SR.same (I:SR K cls Av G S₀ ρ σ S H) (g:aF H H'):SR K cls Av G S₀ ρ σ S H':=let ⟨F,J⟩:=I; ⟨F,J.same g⟩
theorem set_inv {α:Type} {l:List (Option α)} {i j:Nat} {x:Option α} {s:α} (h:(l.set i x)[j]? = some (some s)):(j = i /\ x = some s /\ i < l.length) \/ (j ≠ i /\ l[j]? = some (some s)):=by
 by_cases e:j = i
 . subst e
   rw [List.getElem?_set] at h
   simp only [if_true] at h
   split at h
   . rename_i hl
     exact .inl ⟨rfl,Option.some.inj h,hl⟩
   . cases h
 . rw [List.getElem?_set_ne (Ne.symm e)] at h
   exact .inr ⟨e,h⟩
theorem CO {α:Type} {l:List (Option α)} {i:Nat} {x:Option α} (h:i < l.length):(l.set i x)[i]? = some x:=by
 rw [List.getElem?_set]; simp [h]
def mJ (F:Nat -> List Addr) (i:Nat) (fp:List Addr):Nat -> List Addr:=fun j=>if j = i then fp else F j
theorem iB {i:Nat} {fp:List Addr}:mJ F i fp i = fp:=by unfold mJ; rw [if_pos rfl]
theorem e7 {i j:Nat} {fp:List Addr} (h:j ≠ i):mJ F i fp j = F j:=by unfold mJ; rw [if_neg h]
theorem SRF.put {i:Nat} {s:Option Sl} {u:Option V} {fp:List Addr} (I:SRF K cls Av G S₀ ρ σ S H F) (h:∀ t,s = some t -> ∃ v,u = some v /\ pd K cls Av G S H i t v fp)
  (hl:∀ a ∈ fp,(∃ o,H a = some o /\ isX o = false) /\ G a = none /\ S a = none) (ap:∀ j a,j ≠ i -> a ∈ fp -> a ∉ F j):SRF K cls Av G S₀ (ρ.set i s) (σ.set i u) S H (mJ F i fp) where
 gh:=I.gh
 s0:=I.s0
 sh:=I.sh
 new:=I.new
 own:=fun j t e=>by
  rcases set_inv e with ⟨rfl,e1,hl⟩ | ⟨ne,e1⟩
  . obtain ⟨v,e2,r⟩:=h t e1
    exact ⟨v,by rw [CO (by rw [<- I.len]; exact hl),e2],by rw [iB]; exact r⟩
  . rw [List.getElem?_set_ne (Ne.symm ne),e7 ne]
    exact I.own j t e1
 apart:=fun j k a h1 h2=>by
  by_cases ej:j = i
  . by_cases ek:k = i
    . rw [ej,ek]
    . subst ej; rw [iB] at h1; rw [e7 ek] at h2; exact absurd h2 (ap k a ek h1)
  . by_cases ek:k = i
    . subst ek; rw [iB] at h2; rw [e7 ej] at h1; exact absurd h1 (ap j a ej h2)
    . rw [e7 ej] at h1; rw [e7 ek] at h2; exact I.apart j k a h1 h2
 live:=fun j a ha=>by
  by_cases ej:j = i
  . subst ej; rw [iB] at ha; exact hl a ha
  . rw [e7 ej] at ha; exact I.live j a ha
 len:=by simp [I.len]
theorem SR.tQ {i:Nat} {x:PV} {v:V} (I:SR K cls Av G S₀ ρ σ S H) (h:Rep K S x v):SR K cls Av G S₀ (ρ.set i (some (.sh x))) (σ.set i (some v)) S H:=by
 obtain ⟨F,J⟩:=I
 exact ⟨_,J.put (fp:=[]) (fun t e=>by cases e; exact ⟨v,rfl,rfl,h⟩) (fun a ha=>nomatch ha) fun j a _ ha=>nomatch ha⟩
theorem SR.EV {i:Nat} {v:Option V} (I:SR K cls Av G S₀ ρ σ S H):SR K cls Av G S₀ (ρ.set i none) (σ.set i v) S H:=by
 obtain ⟨F,J⟩:=I
 exact ⟨_,J.put (fp:=[]) (fun t e=>nomatch e) (fun a ha=>nomatch ha) fun j a _ ha=>nomatch ha⟩
theorem jR {α:Type} {l:List α} {i:Nat} {x:α} (h:l[i]? = some x):l.set i x = l:=by
 apply List.ext_getElem?
 intro j
 by_cases e:i = j
 . subst e; rw [List.getElem?_set,if_pos rfl,if_pos (List.getElem?_eq_some_iff.mp h).1,h]
 . rw [List.getElem?_set_ne e]
theorem SR.drop {i:Nat} (I:SR K cls Av G S₀ ρ σ S H):SR K cls Av G S₀ (ρ.set i none) σ S H:=by
 cases e:σ[i]? with
 | some v=>have:=I.EV (i:=i) (v:=v); rwa [jR e] at this
 | none=>
   have h1:σ.length <= i:=List.getElem?_eq_none_iff.mp e
   rw [List.set_eq_of_length_le (by rw [I.len]; exact h1)]
   exact I
theorem SR.mut {i:Nat} {xs ys:List PV} {p:Addr} {us:List V} (I:SR K cls Av G S₀ ρ σ S H) (hi:ρ[i]? = some (some (.ow xs))) (hv:σ[i]? = some (some (.ref p))) (hr:bU K S ys us):SR K cls Av G S₀ (ρ.set i (some (.ow ys))) σ S (upd H p (.lst us)):=by
 obtain ⟨F,J⟩:=I
 obtain ⟨v,e1,q,vs,e2,e3,hG,hS,hH,_⟩:=J.own i _ hi
 rw [hv] at e1
 cases e1
 cases e2
 have J1:SRF K cls Av G S₀ (ρ.set i none) (σ.set i none) S H (mJ F i []):=J.put (fun t e=>nomatch e) (fun a ha=>nomatch ha) fun j a _ ha=>nomatch ha
 have off:∀ j a,a ∈ mJ F i [] j -> a ≠ p:=fun j a ha z=>by
  by_cases ej:j = i
  . subst ej; rw [iB] at ha; cases ha
  . rw [e7 ej] at ha
    exact ej (J.apart j i a ha (by rw [e3,z]; simp))
 have J2:=J1.change (H':=upd H p (.lst us)) (J.gh.upd hG) (aF.refl _) (J.sh.upd hS) J.new (fun j a ha o h=>by rw [aW (off j a ha)]; exact h)
  (fun b o hx h=>by
    rw [aW]
    . exact h
    . intro z; rw [z,hH] at h; cases h; cases hx)
  fun j a ha=>(J1.live j a ha).2.2
 have J3:=J2.put (i:=i) (s:=some (.ow ys)) (u:=some (.ref p)) (fp:=[p]) (fun t e=>by cases e; exact ⟨_,rfl,p,us,rfl,rfl,hG,hS,ba,hr⟩) (fun a ha=>by
  have z:a = p:=by simpa using ha
  subst z
  exact ⟨⟨_,ba,rfl⟩,hG,hS⟩) fun j a hj ha hz=>by
   have z:a = p:=by simpa using ha
   exact off j a hz z
 rw [List.set_set,List.set_set,jR hv] at J3
 exact ⟨_,J3⟩
theorem SR.FD {i:Nat} {xs:List PV} (I:SR K cls Av G S₀ ρ σ S H) (hi:ρ[i]? = some (some (.ow xs))):∃ S',aF S S' /\ SR K cls Av G S₀ (ρ.set i (some (.sh (.lst xs)))) σ S' H:=by
 obtain ⟨F,J⟩:=I
 obtain ⟨v,hv,p,vs,e2,e3,hG,hS,hH,hr⟩:=J.own i _ hi
 subst e2
 have J1:SRF K cls Av G S₀ (ρ.set i none) (σ.set i none) S H (mJ F i []):=J.put (fun t e=>nomatch e) (fun a ha=>nomatch ha) fun j a _ ha=>nomatch ha
 have off:∀ j a,a ∈ mJ F i [] j -> a ≠ p:=fun j a ha z=>by
  by_cases ej:j = i
  . subst ej; rw [iB] at ha; cases ha
  . rw [e7 ej] at ha
    exact ej (J.apart j i a ha (by rw [e3,z]; simp))
 have J2:=J1.change (S':=upd S p (.lst vs)) (H':=H) J.gh (aF.new hS) (fun b u h=>by
   by_cases e:b = p
   . subst e; rw [ba] at h; cases h; exact hH
   . rw [aW e] at h; exact J.sh b u h) (fun b h=>by
   by_cases e:b = p
   . subst e; exact .inr hG
   . rw [aW e] at h; exact J.new b h) (fun _ _ _ _ h=>h) (fun _ _ _ h=>h) fun j a ha=>by
     rw [aW (off j a ha)]; exact (J1.live j a ha).2.2
 have J3:=J2.put (i:=i) (s:=some (.sh (.lst xs))) (u:=some (.ref p)) (fp:=[]) (fun t e=>by
  cases e
  refine ⟨_,rfl,rfl,?_⟩
  unfold Rep
  exact ⟨p,vs,rfl,SqL.new ba,hr.mono (aF.new hS)⟩) (fun a ha=>nomatch ha) fun j a _ ha=>nomatch ha
 rw [List.set_set,List.set_set,jR hv] at J3
 exact ⟨_,aF.new hS,_,J3⟩
end
end L2.P
namespace L2.P
open PySem PySem.Spec PyProof.Rows L2 L2.E
structure bt (S H S' H':Hp):Prop where
 s:aF S S'
 g:aF H H'
 sh:aF S' H'
 new:∀ b,S' b ≠ none -> S b ≠ none \/ H b = none
theorem bt.refl {S H:Hp} (h:aF S H):bt S H S H:=⟨aF.refl _,aF.refl _,h,fun _ z=>.inl z⟩
theorem bt.trans {S H S1 H1 S2 H2:Hp} (a:bt S H S1 H1) (b:bt S1 H1 S2 H2):bt S H S2 H2:=
 ⟨a.s.trans b.s,a.g.trans b.g,b.sh,fun x h=>by
   rcases b.new x h with z | z
   . exact a.new x z
   . exact .inr (a.g.free z)⟩
theorem SRF.grow {K:PySem.W.Frag} {cls:String -> Option Addr} {Av G S₀ S S' H H':Hp} {ρ:ae} {σ:St} {F:Nat -> List Addr} (I:SRF K cls Av G S₀ ρ σ S H F) (w:bt S H S' H'):SRF K cls Av G S₀ ρ σ S' H' F:=
 I.change (I.gh.trans w.g) w.s w.sh (fun b h=>by
  rcases w.new b h with z | z
  . exact I.new b z
  . exact .inr (I.gh.free z)) (fun i a _ o h=>w.g _ _ h) (fun b o _ h=>w.g _ _ h) fun i a ha=>by
    obtain ⟨⟨o,h1,_⟩,_,h3⟩:=I.live i a ha
    cases q:S' a with
    | none=>rfl
    | some o=>
      rcases w.new a (by rw [q]; simp) with z | z
      . exact absurd h3 z
      . rw [h1] at z; cases z
theorem SR.grow {K:PySem.W.Frag} {cls:String -> Option Addr} {Av G S₀ S S' H H':Hp} {ρ:ae} {σ:St} (I:SR K cls Av G S₀ ρ σ S H) (w:bt S H S' H'):SR K cls Av G S₀ ρ σ S' H':=let ⟨F,J⟩:=I; ⟨F,J.grow w⟩
theorem SR.E7 {K:PySem.W.Frag} {cls:String -> Option Addr} {Av G S₀ S S' H H':Hp} {ρ:ae} {σ:St} {i:Nat} {xs:List PV} {v:V} (I:SR K cls Av G S₀ ρ σ S H) (w:bt S H S' H') (h:jT K H S' H' (.fr xs) v):SR K cls Av G S₀ (ρ.set i (some (.ow xs))) (σ.set i (some v)) S' H':=by
 obtain ⟨F,J⟩:=I
 obtain ⟨p,vs,rfl,hB,hS,hH,hr⟩:=h
 have hG:=J.gh.free hB
 refine ⟨_,(J.grow w).put (fp:=[p]) (fun t e=>by cases e; exact ⟨_,rfl,p,vs,rfl,rfl,hG,hS,hH,hr⟩) (fun a ha=>?_) fun j a _ ha hz=>?_⟩
 . have z:a = p:=by simpa using ha
   subst z
   exact ⟨⟨_,hH,rfl⟩,hG,hS⟩
 . have z:a = p:=by simpa using ha
   subst z
   obtain ⟨⟨o,h1,_⟩,_⟩:=J.live j a hz
   rw [hB] at h1; cases h1
theorem bt.heap {S H:Hp} {p:Addr} {o:HO} (h:aF S H) (hp:H p = none):bt S H S (upd H p o):=⟨aF.refl _,aF.new hp,h.trans (aF.new hp),fun _ z=>.inl z⟩
theorem bt.both {S H:Hp} {p:Addr} {o:HO} (h:aF S H) (hp:H p = none):bt S H (upd S p o) (upd H p o):=by
 have hS:=h.free hp
 refine ⟨aF.new hS,aF.new hp,fun b u z=>?_,fun b z=>?_⟩
 . by_cases e:b = p
   . subst e; rw [ba] at z ⊢; exact z
   . rw [aW e] at z ⊢; exact h b u z
 . by_cases e:b = p
   . subst e; exact .inr hp
   . rw [aW e] at z; exact .inl z
section
variable (K:PySem.W.Frag) (cls:String -> Option Addr) (W:XW)
def jn (σ:St) (S H:Hp) (Q:VK):OE -> Prop
 | .ok r=>∀ v S' H',bt S H S' H' -> jT K H S' H' r v -> Q v H'
 | .exc c fs=>∀ a C S' H',bt S H S' H' -> mq K cls S' H' c fs a C -> W (.ref C) (some a) σ H'
 | .bad=>False
def oP (σ:St) (S H:Hp) (Q:Bool -> Hp -> Prop):OT -> Prop
 | .ok b=>∀ S' H',bt S H S' H' -> Q b H'
 | .exc c fs=>∀ a C S' H',bt S H S' H' -> mq K cls S' H' c fs a C -> W (.ref C) (some a) σ H'
 | .bad=>False
def rG (σ:St) (S H:Hp) (Q:List V -> Hp -> Prop):OA -> Prop
 | .ok xs=>∀ vs S' H',bt S H S' H' -> bU K S' xs vs -> Q vs H'
 | .exc c fs=>∀ a C S' H',bt S H S' H' -> mq K cls S' H' c fs a C -> W (.ref C) (some a) σ H'
 | .bad=>False
def gA (Av G S₀:Hp) (S:Hp) (D:Ends):OS -> Prop
 | .nx ρ=>∀ σ' S' H',SR K cls Av G S₀ ρ σ' S' H' -> aF S S' -> D.nx σ' H'
 | .bk ρ=>∀ σ' S' H',SR K cls Av G S₀ ρ σ' S' H' -> aF S S' -> D.bk σ' H'
 | .ct ρ=>∀ σ' S' H',SR K cls Av G S₀ ρ σ' S' H' -> aF S S' -> D.ct σ' H'
 | .rt ρ r=>∀ v σ' S' H',SR K cls Av G S₀ ρ σ' S' H' -> aF S S' -> jT K G S' H' r v -> D.rt v H'
 | .exc ρ c fs=>∀ a C σ' S' H',SR K cls Av G S₀ ρ σ' S' H' -> aF S S' -> mq K cls S' H' c fs a C -> W (.ref C) (some a) σ' H'
 | .bad=>False
def JE (te:TE) (m:ae -> OE):Prop:=∀ Av G S₀ ρ σ S H Q,SR K cls Av G S₀ ρ σ S H -> jn K cls W σ S H Q (m ρ) -> te σ H Q
def JT (te:TT) (m:ae -> OT):Prop:=∀ Av G S₀ ρ σ S H Q,SR K cls Av G S₀ ρ σ S H -> oP K cls W σ S H Q (m ρ) -> te σ H Q
def JA (te:TA) (m:ae -> OA):Prop:=∀ Av G S₀ ρ σ S H Q,SR K cls Av G S₀ ρ σ S H -> rG K cls W σ S H Q (m ρ) -> te σ H Q
def JS (ts:TS) (m:ae -> OS):Prop:=∀ Av G S₀ ρ σ S H D,SR K cls Av G S₀ ρ σ S H -> gA K cls W Av G S₀ S D (m ρ) -> ts D σ H
end
section
variable {K:PySem.W.Frag} {cls:String -> Option Addr} {W:XW} {Av G S₀ S S' H H' B B':Hp} {ρ:ae} {σ:St} {Q:VK}
theorem jT.back {r:RV} {v:V} (h:jT K B' S H r v) (g:aF B B'):jT K B S H r v:=by
 cases r with
 | sh x=>exact h
 | fr xs=>obtain ⟨p,vs,e,h1,h2⟩:=h; exact ⟨p,vs,e,g.free h1,h2⟩
 | al xs=>exact h
theorem jn.back {o:OE} {S1 H1:Hp} (w:bt S H S1 H1) (h:jn K cls W σ S H Q o):jn K cls W σ S1 H1 Q o:=by
 cases o with
 | ok r=>exact fun v S' H' w' r=>h v S' H' (w.trans w') (r.back w.g)
 | exc c fs=>exact fun a C S' H' w' r=>h a C S' H' (w.trans w') r
 | bad=>exact h
theorem oP.back {o:OT} {Q:Bool -> Hp -> Prop} {S1 H1:Hp} (w:bt S H S1 H1) (h:oP K cls W σ S H Q o):oP K cls W σ S1 H1 Q o:=by
 cases o with
 | ok r=>exact fun S' H' w'=>h S' H' (w.trans w')
 | exc c fs=>exact fun a C S' H' w' r=>h a C S' H' (w.trans w') r
 | bad=>exact h
theorem rG.back {o:OA} {Q:List V -> Hp -> Prop} {S1 H1:Hp} (w:bt S H S1 H1) (h:rG K cls W σ S H Q o):rG K cls W σ S1 H1 Q o:=by
 cases o with
 | ok r=>exact fun v S' H' w' r=>h v S' H' (w.trans w') r
 | exc c fs=>exact fun a C S' H' w' r=>h a C S' H' (w.trans w') r
 | bad=>exact h
theorem gA.back {o:OS} {D:Ends} {S1:Hp} (s:aF S S1) (h:gA K cls W Av G S₀ S D o):gA K cls W Av G S₀ S1 D o:=by
 cases o with
 | nx ρ=>exact fun σ' S' H' I s'=>h σ' S' H' I (s.trans s')
 | bk ρ=>exact fun σ' S' H' I s'=>h σ' S' H' I (s.trans s')
 | ct ρ=>exact fun σ' S' H' I s'=>h σ' S' H' I (s.trans s')
 | rt ρ r=>exact fun v σ' S' H' I s'=>h v σ' S' H' I (s.trans s')
 | exc ρ c fs=>exact fun a C σ' S' H' I s'=>h a C σ' S' H' I (s.trans s')
 | bad=>exact h
theorem JE.go {te:TE} {m:ae -> OE} {f:RV -> OE} {Q':VK} (h:JE K cls W te m) (I:SR K cls Av G S₀ ρ σ S H) (p:jn K cls W σ S H Q ((m ρ).bind f))
  (k:∀ r v S1 H1,SR K cls Av G S₀ ρ σ S1 H1 -> bt S H S1 H1 -> jT K H S1 H1 r v -> jn K cls W σ S1 H1 Q (f r) -> Q' v H1):te σ H Q':=by
 refine h Av G S₀ ρ σ S H Q' I ?_
 cases e:m ρ with
 | ok r=>rw [e] at p; exact fun v S1 H1 w r1=>k r v S1 H1 (I.grow w) w r1 (p.back w)
 | exc c fs=>rw [e] at p; exact p
 | bad=>rw [e] at p; exact p
theorem JE.goT {te:TE} {m:ae -> OE} {f:RV -> OT} {Q':VK} {Q:Bool -> Hp -> Prop} (h:JE K cls W te m) (I:SR K cls Av G S₀ ρ σ S H) (p:oP K cls W σ S H Q ((m ρ).fi f))
  (k:∀ r v S1 H1,SR K cls Av G S₀ ρ σ S1 H1 -> bt S H S1 H1 -> jT K H S1 H1 r v -> oP K cls W σ S1 H1 Q (f r) -> Q' v H1):te σ H Q':=by
 refine h Av G S₀ ρ σ S H Q' I ?_
 cases e:m ρ with
 | ok r=>rw [e] at p; exact fun v S1 H1 w r1=>k r v S1 H1 (I.grow w) w r1 (p.back w)
 | exc c fs=>rw [e] at p; exact p
 | bad=>rw [e] at p; exact p
theorem JE.goS {te:TE} {m:ae -> OE} {f:RV -> OS} {Q':VK} {D:Ends} (h:JE K cls W te m) (I:SR K cls Av G S₀ ρ σ S H) (p:gA K cls W Av G S₀ S D ((m ρ).bL ρ f))
  (k:∀ r v S1 H1,SR K cls Av G S₀ ρ σ S1 H1 -> bt S H S1 H1 -> jT K H S1 H1 r v -> gA K cls W Av G S₀ S1 D (f r) -> Q' v H1):te σ H Q':=by
 refine h Av G S₀ ρ σ S H Q' I ?_
 cases e:m ρ with
 | ok r=>rw [e] at p; exact fun v S1 H1 w r1=>k r v S1 H1 (I.grow w) w r1 (p.back w.s)
 | exc c fs=>rw [e] at p; exact fun a C S' H' w x=>p a C σ S' H' (I.grow w) w.s x
 | bad=>rw [e] at p; exact p
theorem JT.go {te:TT} {m:ae -> OT} {f:Bool -> OE} {Q':Bool -> Hp -> Prop} (h:JT K cls W te m) (I:SR K cls Av G S₀ ρ σ S H) (p:jn K cls W σ S H Q ((m ρ).bind f))
  (k:∀ b S1 H1,SR K cls Av G S₀ ρ σ S1 H1 -> bt S H S1 H1 -> jn K cls W σ S1 H1 Q (f b) -> Q' b H1):te σ H Q':=by
 refine h Av G S₀ ρ σ S H Q' I ?_
 cases e:m ρ with
 | ok r=>rw [e] at p; exact fun S1 H1 w=>k r S1 H1 (I.grow w) w (p.back w)
 | exc c fs=>rw [e] at p; exact p
 | bad=>rw [e] at p; exact p
theorem JT.goT {te:TT} {m:ae -> OT} {f:Bool -> OT} {Q Q':Bool -> Hp -> Prop} (h:JT K cls W te m) (I:SR K cls Av G S₀ ρ σ S H) (p:oP K cls W σ S H Q ((m ρ).fi f))
  (k:∀ b S1 H1,SR K cls Av G S₀ ρ σ S1 H1 -> bt S H S1 H1 -> oP K cls W σ S1 H1 Q (f b) -> Q' b H1):te σ H Q':=by
 refine h Av G S₀ ρ σ S H Q' I ?_
 cases e:m ρ with
 | ok r=>rw [e] at p; exact fun S1 H1 w=>k r S1 H1 (I.grow w) w (p.back w)
 | exc c fs=>rw [e] at p; exact p
 | bad=>rw [e] at p; exact p
theorem JT.goS {te:TT} {m:ae -> OT} {f:Bool -> OS} {Q':Bool -> Hp -> Prop} {D:Ends} (h:JT K cls W te m) (I:SR K cls Av G S₀ ρ σ S H) (p:gA K cls W Av G S₀ S D ((m ρ).bL ρ f))
  (k:∀ b S1 H1,SR K cls Av G S₀ ρ σ S1 H1 -> bt S H S1 H1 -> gA K cls W Av G S₀ S1 D (f b) -> Q' b H1):te σ H Q':=by
 refine h Av G S₀ ρ σ S H Q' I ?_
 cases e:m ρ with
 | ok r=>rw [e] at p; exact fun S1 H1 w=>k r S1 H1 (I.grow w) w (p.back w.s)
 | exc c fs=>rw [e] at p; exact fun a C S' H' w x=>p a C σ S' H' (I.grow w) w.s x
 | bad=>rw [e] at p; exact p
theorem JA.go {te:TA} {m:ae -> OA} {f:List PV -> OE} {Q':List V -> Hp -> Prop} (h:JA K cls W te m) (I:SR K cls Av G S₀ ρ σ S H) (p:jn K cls W σ S H Q ((m ρ).bind f))
  (k:∀ xs vs S1 H1,SR K cls Av G S₀ ρ σ S1 H1 -> bt S H S1 H1 -> bU K S1 xs vs -> jn K cls W σ S1 H1 Q (f xs) -> Q' vs H1):te σ H Q':=by
 refine h Av G S₀ ρ σ S H Q' I ?_
 cases e:m ρ with
 | ok r=>rw [e] at p; exact fun v S1 H1 w r1=>k r v S1 H1 (I.grow w) w r1 (p.back w)
 | exc c fs=>rw [e] at p; exact p
 | bad=>rw [e] at p; exact p
theorem JA.goA {te:TA} {m:ae -> OA} {f:List PV -> OA} {Q Q':List V -> Hp -> Prop} (h:JA K cls W te m) (I:SR K cls Av G S₀ ρ σ S H) (p:rG K cls W σ S H Q ((m ρ).eW f))
  (k:∀ xs vs S1 H1,SR K cls Av G S₀ ρ σ S1 H1 -> bt S H S1 H1 -> bU K S1 xs vs -> rG K cls W σ S1 H1 Q (f xs) -> Q' vs H1):te σ H Q':=by
 refine h Av G S₀ ρ σ S H Q' I ?_
 cases e:m ρ with
 | ok r=>rw [e] at p; exact fun v S1 H1 w r1=>k r v S1 H1 (I.grow w) w r1 (p.back w)
 | exc c fs=>rw [e] at p; exact p
 | bad=>rw [e] at p; exact p
theorem JA.goS {te:TA} {m:ae -> OA} {f:List PV -> OS} {Q':List V -> Hp -> Prop} {D:Ends} (h:JA K cls W te m) (I:SR K cls Av G S₀ ρ σ S H) (p:gA K cls W Av G S₀ S D ((m ρ).bL ρ f))
  (k:∀ xs vs S1 H1,SR K cls Av G S₀ ρ σ S1 H1 -> bt S H S1 H1 -> bU K S1 xs vs -> gA K cls W Av G S₀ S1 D (f xs) -> Q' vs H1):te σ H Q':=by
 refine h Av G S₀ ρ σ S H Q' I ?_
 cases e:m ρ with
 | ok r=>rw [e] at p; exact fun v S1 H1 w r1=>k r v S1 H1 (I.grow w) w r1 (p.back w.s)
 | exc c fs=>rw [e] at p; exact fun a C S' H' w x=>p a C σ S' H' (I.grow w) w.s x
 | bad=>rw [e] at p; exact p
theorem af {i:Nat}:JE K cls W (qB i) (au i):=by
 intro Av G S₀ ρ σ S H Q I p
 unfold au at p
 split at p
 . rename_i x e
   obtain ⟨v,e1,r⟩:=I.good i _ e
   exact ⟨v,e1,p v S H (bt.refl I.sh) r⟩
 . rename_i xs e
   obtain ⟨v,e1,a,vs,e2,_,_,h3,h4⟩:=I.good i _ e
   exact ⟨v,e1,p v S H (bt.refl I.sh) ⟨a,vs,e2,SqL.new h3,h4⟩⟩
 . exact p.elim
theorem sT {x:PV} {v:V} (h:∀ S,Rep K S x v):JE K cls W (tC v) (mC x):=fun Av G S₀ ρ σ S H Q I p=>p v S H (bt.refl I.sh) (h S)
theorem ai {n:Int}:JE K cls W (tC (.int n)) (mC (.int n)):=sT fun _=>by unfold Rep; rfl
theorem Af {n:Bool}:JE K cls W (tC (.bl n)) (mC (.bl n)):=sT fun _=>by unfold Rep; rfl
theorem cZ:JE K cls W (tC .non) (mC .non):=sT fun _=>by unfold Rep; rfl
theorem aM {n:Str}:JE K cls W (tC (.str n)) (mC (.str n)):=sT fun _=>by unfold Rep; rfl
theorem ky {p:Addr} {ns:List Int} (h:∀ S,SqT K S p (ns.map V.int)):JE K cls W (tC (.ref p)) (mC (.tup (ns.map .int))):=sT fun S=>by unfold Rep; exact ⟨p,_,rfl,h S,bU.ints⟩
def JR (K:PySem.W.Frag) (r:R2) (g:PV -> PV -> Option RV):Prop:=∀ S H x y v u rr Q,aF S H -> RdV K S H x v -> RdV K S H y u -> g x y = some rr ->
 (∀ z S' H',bt S H S' H' -> jT K H S' H' rr z -> Q z H') -> r v u H Q
theorem av {r:R2} {g:PV -> PV -> Option RV} {ta tb:TE} {ma mb:ae -> OE} (hr:JR K r g) (ha:JE K cls W ta ma) (hb:JE K cls W tb mb):JE K cls W (tOp r ta tb) (mOp g ma mb):=by
 intro Av G S₀ ρ σ S H Q I p
 refine ha.go I p fun a v S1 H1 I1 w1 r1 p1=>hb.go I1 p1 fun b u S2 H2 I2 w2 r2 p2=>?_
 cases e:g a.pv b.pv with
 | none=>rw [e] at p2; exact p2.elim
 | some rr=>
   rw [e] at p2
   exact hr S2 H2 a.pv b.pv v u rr Q I2.sh ((r1.rd I1.sh).mono w2.s w2.g) (r2.rd I2.sh) e p2
def sv:PV -> V
 | .non=>.non
 | .bl b=>.bl b
 | .int i=>.int i
 | .str s=>.str s
 | _=>.non
theorem du {i:Int} {v:V} (h:RdV K S H (.int i) v):v = .int i:=by unfold RdV Rep at h; exact h
theorem lR {i:Bool} {v:V} (h:RdV K S H (.bl i) v):v = .bl i:=by unfold RdV Rep at h; exact h
theorem jk {i:Str} {v:V} (h:RdV K S H (.str i) v):v = .str i:=by unfold RdV Rep at h; exact h
theorem gX {v:V} (h:RdV K S H .non v):v = .non:=by unfold RdV Rep at h; exact h
theorem hV {xs:List PV} {v:V} (h:RdV K S H (.lst xs) v):∃ p vs,v = .ref p /\ SqL K H p vs /\ bU K S xs vs:=h
theorem lL {xs:List PV} {v:V} (h:RdV K S H (.tup xs) v):∃ p vs,v = .ref p /\ SqT K S p vs /\ bU K S xs vs:=by unfold RdV Rep at h; exact h
theorem v9 {C:Int -> Int -> Prop} {c:Int -> Int -> Bool} {f:Int -> Int -> PV} {fv:Int -> Int -> V} (hc:∀ i j,c i j = true -> C i j) (hf:∀ S i j,Rep K S (f i j) (fv i j)):JR K (rI C fv) (gI c f):=by
 intro S H x y v u rr Q I hx hy e k
 unfold gI at e
 split at e
 . rename_i i j
   split at e
   . rename_i hcc
     cases e
     exact ⟨i,j,du hx,du hy,hc i j hcc,k _ S H (bt.refl I) (hf S i j)⟩
   . cases e
 . cases e
theorem oq {f:Int -> Int -> PV} {fv:Int -> Int -> V} (hf:∀ S i j,Rep K S (f i j) (fv i j)):JR K (rI0 fv) (gI (fun _ _=>true) f):=by
 intro S H x y v u rr Q I hx hy e k
 unfold gI at e
 split at e
 . rename_i i j
   simp only [if_true] at e
   cases e
   exact ⟨i,j,du hx,du hy,k _ S H (bt.refl I) (hf S i j)⟩
 . cases e
theorem fR:JR K (rI0 fun i j=>.int (i + j)) gV:=oq fun _ _ _=>by unfold Rep; rfl
theorem nz:JR K (rI0 fun i j=>.int (i - j)) pI:=oq fun _ _ _=>by unfold Rep; rfl
theorem oo:JR K (rI yY fun i j=>.int (i * j)) qH:=v9 (fun i j h=>by simpa [yY,Bool.or_eq_true,Bool.and_eq_true,decide_eq_true_eq] using h) fun _ _ _=>by unfold Rep; rfl
theorem j9:JR K (rI CG fun i j=>.int (i / j)) qz:=v9 (fun i j h=>by simpa [CG,Bool.and_eq_true,decide_eq_true_eq] using h) fun _ _ _=>by unfold Rep; rfl
theorem fo:JR K (rI (fun _ j=>0 < j) fun i j=>.int (i % j)) gW:=v9 (fun i j h=>by simpa using h) fun _ _ _=>by unfold Rep; rfl
theorem vZ:JR K (rI D4 fun i j=>.int (i ^ j.toNat)) ui:=v9 (fun i j h=>by simpa [D4,Bool.and_eq_true,decide_eq_true_eq] using h) fun _ _ _=>by unfold Rep; rfl
theorem jA:JR K (rI0 fun i j=>.bl (decide (i < j))) gLt:=oq fun _ _ _=>by unfold Rep; rfl
theorem jW:JR K (rI0 fun i j=>.bl (decide (i <= j))) gLe:=oq fun _ _ _=>by unfold Rep; rfl
theorem B3:JR K (rI0 fun i j=>.bl (decide (j < i))) gGt:=oq fun _ _ _=>by unfold Rep; rfl
theorem Fg:JR K (rI0 fun i j=>.bl (decide (j <= i))) gGe:=oq fun _ _ _=>by unfold Rep; rfl
theorem zD {x y:PV} {v u:V} {b:Bool} (hx:RdV K S H x v) (hy:RdV K S H y u) (e:eqS x y = some b):Cy v u = true /\ decide (v = u) = b:=by
 unfold eqS at e
 split at e
 all_goals first
  | (have h1:=gX hx; subst h1; have h2:=gX hy; subst h2; cases e; exact ⟨rfl,by simp⟩)
  | (have h1:=gX hx; subst h1; have h2:=du hy; subst h2; cases e; exact ⟨rfl,by simp⟩)
  | (have h1:=du hx; subst h1; have h2:=gX hy; subst h2; cases e; exact ⟨rfl,by simp⟩)
  | (have h1:=gX hx; subst h1; have h2:=lR hy; subst h2; cases e; exact ⟨rfl,by simp⟩)
  | (have h1:=lR hx; subst h1; have h2:=gX hy; subst h2; cases e; exact ⟨rfl,by simp⟩)
  | (have h1:=gX hx; subst h1; have h2:=jk hy; subst h2; cases e; exact ⟨rfl,by simp⟩)
  | (have h1:=jk hx; subst h1; have h2:=gX hy; subst h2; cases e; exact ⟨rfl,by simp⟩)
  | (have h1:=du hx; subst h1; have h2:=du hy; subst h2; cases e; exact ⟨rfl,by simp⟩)
  | (have h1:=lR hx; subst h1; have h2:=lR hy; subst h2; cases e; exact ⟨rfl,by simp⟩)
  | (have h1:=jk hx; subst h1; have h2:=jk hy; subst h2; cases e; exact ⟨rfl,by simp⟩)
  | (have h1:=du hx; subst h1; have h2:=jk hy; subst h2; cases e; exact ⟨rfl,by simp⟩)
  | (have h1:=jk hx; subst h1; have h2:=du hy; subst h2; cases e; exact ⟨rfl,by simp⟩)
  | (have h1:=lR hx; subst h1; have h2:=jk hy; subst h2; cases e; exact ⟨rfl,by simp⟩)
  | (have h1:=jk hx; subst h1; have h2:=lR hy; subst h2; cases e; exact ⟨rfl,by simp⟩)
  | cases e
theorem cb:JR K rEq gEq:=by
 intro S H x y v u rr Q I hx hy e k
 obtain ⟨b,e1,e2⟩:=Option.map_eq_some_iff.mp e
 obtain ⟨h1,h2⟩:=zD hx hy e1
 refine ⟨h1,k _ S H (bt.refl I) ?_⟩
 subst e2
 show Rep K S _ _
 unfold Rep; rw [h2]
theorem qL:JR K rNe gNe:=by
 intro S H x y v u rr Q I hx hy e k
 obtain ⟨b,e1,e2⟩:=Option.map_eq_some_iff.mp e
 obtain ⟨h1,h2⟩:=zD hx hy e1
 refine ⟨h1,k _ S H (bt.refl I) ?_⟩
 subst e2
 show Rep K S _ _
 unfold Rep; rw [h2]
end
end L2.P
namespace L2.P
open PySem PySem.Spec PyProof.Rows L2 L2.E
section
variable {K:PySem.W.Frag} {cls:String -> Option Addr} {W:XW} {Av G S₀ S S' H H' B B':Hp} {ρ:ae} {σ:St} {Q:VK}
theorem jT.share {S1 H1:Hp} {r:RV} {v:V} {x:PV} (h:jT K H S1 H1 r v) (w:bt S H S1 H1) (e:jG r = some x):∃ S2,bt S H S2 H1 /\ aF S1 S2 /\ Rep K S2 x v:=by
 cases r with
 | sh y=>cases e; exact ⟨S1,w,aF.refl _,h⟩
 | al xs=>cases e
 | fr xs=>
   cases e
   obtain ⟨p,vs,rfl,hB,hS,hH,hr⟩:=h
   refine ⟨upd S1 p (.lst vs),⟨w.s.trans (aF.new hS),w.g,fun b u z=>?_,fun b z=>?_⟩,aF.new hS,?_⟩
   . by_cases e:b = p
     . subst e; rw [ba] at z; cases z; exact hH
     . rw [aW e] at z; exact w.sh b u z
   . by_cases e:b = p
     . subst e; exact .inr hB
     . rw [aW e] at z; exact w.new b z
   . unfold Rep
     exact ⟨p,vs,rfl,SqL.new ba,hr.mono (aF.new hS)⟩
theorem aw:JA K cls W kU aO:=fun Av G S₀ ρ σ S H Q I p=>p [] S H (bt.refl I.sh) .nil
theorem ag {te:TE} {t:TA} {me:ae -> OE} {mr:ae -> OA} (he:JE K cls W te me) (ht:JA K cls W t mr):JA K cls W (jm te t) (aj me mr):=by
 intro Av G S₀ ρ σ S H Q I p
 refine he Av G S₀ ρ σ S H _ I ?_
 unfold aj at p
 cases e:me ρ with
 | exc c fs=>rw [e] at p; exact p
 | bad=>rw [e] at p; exact p
 | ok r=>
   rw [e] at p
   intro v S1 H1 w1 r1
   simp only [OE.eW] at p
   cases es:jG r with
   | none=>rw [es] at p; exact p.elim
   | some x=>
     rw [es] at p
     obtain ⟨S2,w2,s2,rx⟩:=r1.share w1 es
     refine ht.goA (I.grow w2) (p.back w2) fun xs vs S3 H3 I3 w3 r3 p3=>?_
     exact p3 (v ::vs) S3 H3 (bt.refl I3.sh) (.cons (Rep.mono w3.s rx) r3)
theorem zR:lim = sizeLine:=by decide
theorem bD {t:TA} {ma:ae -> OA} (h:JA K cls W t ma):JE K cls W (Dy t) (dD ma):=by
 intro Av G S₀ ρ σ S H Q I p
 refine h.go I p fun xs vs S1 H1 I1 w1 r1 p1=>?_
 split at p1
 . rename_i hl
   refine ⟨by rw [r1.length]; exact hl,fun q hq=>p1 (.ref q) S1 _ (bt.heap I1.sh hq) ⟨q,vs,rfl,hq,I1.sh.free hq,ba,r1⟩⟩
 . exact p1.elim
theorem dk {t:TA} {ma:ae -> OA} (h:JA K cls W t ma):JE K cls W (Ez t) (gF ma):=by
 intro Av G S₀ ρ σ S H Q I p
 refine h.go I p fun xs vs S1 H1 I1 w1 r1 p1=>?_
 split at p1
 . rename_i hl
   refine ⟨by rw [r1.length]; exact hl,fun q hq=>p1 (.ref q) _ _ (bt.both I1.sh hq) ?_⟩
   show Rep K _ _ _
   unfold Rep
   exact ⟨q,vs,rfl,SqT.new ba,r1.mono (bt.both (o:=.tup vs) I1.sh hq).s⟩
 . exact p1.elim
def Fw (K:PySem.W.Frag) (cls:String -> Option Addr) (S H:Hp) (Q:VK) (E:XK):OE -> Prop
 | .ok r=>∀ v S' H',bt S H S' H' -> jT K H S' H' r v -> Q v H'
 | .exc c fs=>∀ a C S' H',bt S H S' H' -> mq K cls S' H' c fs a C -> E (.ref C) (some a) H'
 | .bad=>False
def spP (K:PySem.W.Frag) (cls:String -> Option Addr) (f:List PV -> OE):Sp:=fun vs H Q E=>∃ S xs,aF S H /\ bU K S xs vs /\ Fw K cls S H Q E (f xs)
theorem aL {t:TA} {ma:ae -> OA} {f:List PV -> OE} (h:JA K cls W t ma):JE K cls W (qf (spP K cls f) [] W t) (aZ f ma):=by
 intro Av G S₀ ρ σ S H Q I p
 refine h.go I p fun xs vs S1 H1 I1 w1 r1 p1=>?_
 show spP K cls f (vs ++ []) H1 Q _
 rw [List.append_nil]
 refine ⟨S1,xs,I1.sh,r1,?_⟩
 cases e:f xs with
 | ok r=>rw [e] at p1; exact p1
 | exc c fs=>rw [e] at p1; exact p1
 | bad=>rw [e] at p1; exact p1
def JU (K:PySem.W.Frag) (r:List V -> Hp -> VK -> Prop) (g:PV -> Option RV):Prop:=∀ S H x v rr Q,aF S H -> RdV K S H x v -> g x = some rr ->
 (∀ z S' H',bt S H S' H' -> jT K H S' H' rr z -> Q z H') -> r [v] H Q
theorem fE {r:List V -> Hp -> VK -> Prop} {g:PV -> Option RV} {ta:TE} {ma:ae -> OE} (hr:JU K r g) (ha:JE K cls W ta ma):JE K cls W (tCB r (jm ta kU)) (mUn g ma):=by
 intro Av G S₀ ρ σ S H Q I p
 refine ha.go I p fun a v S1 H1 I1 w1 r1 p1=>?_
 show r [v] H1 Q
 cases e:g a.pv with
 | none=>rw [e] at p1; exact p1.elim
 | some rr=>rw [e] at p1; exact hr S1 H1 a.pv v rr Q I1.sh (r1.rd I1.sh) e p1
theorem qO {r:V -> Hp -> VK -> Prop} {g:PV -> Option RV} {ta:TE} {ma:ae -> OE} (hr:JU K (fun vs H Q=>∃ v,vs = [v] /\ r v H Q) g) (ha:JE K cls W ta ma):JE K cls W (tUn r ta) (mUn g ma):=by
 intro Av G S₀ ρ σ S H Q I p
 refine ha.go I p fun a v S1 H1 I1 w1 r1 p1=>?_
 cases e:g a.pv with
 | none=>rw [e] at p1; exact p1.elim
 | some rr=>
   rw [e] at p1
   obtain ⟨u,e1,h⟩:=hr S1 H1 a.pv v rr Q I1.sh (r1.rd I1.sh) e p1
   cases e1
   exact h
theorem oe:JU K (fun vs H Q=>∃ v,vs = [v] /\ rU (fun i=>.int (-i)) v H Q) p5:=by
 intro S H x v rr Q I hx e k
 cases x with
 | int i=>cases e; exact ⟨v,rfl,i,du hx,k _ S H (bt.refl I) (by show Rep K S _ _; unfold Rep; rfl)⟩
 | _=>cases e
theorem hR:JU K (fun xs H Q=>∃ p ys,xs = [.ref p] /\ (SqL K H p ys \/ SqT K H p ys) /\ Q (.int ys.length) H) kY:=by
 intro S H x v rr Q I hx e k
 cases x with
 | lst xs=>
   cases e
   obtain ⟨p,vs,rfl,hq,r⟩:=hV hx
   exact ⟨p,vs,rfl,.inl hq,k _ S H (bt.refl I) (by show Rep K S _ _; unfold Rep; rw [r.length])⟩
 | tup xs=>
   cases e
   obtain ⟨p,vs,rfl,hq,r⟩:=lL hx
   exact ⟨p,vs,rfl,.inr (aF.tup I hq),k _ S H (bt.refl I) (by show Rep K S _ _; unfold Rep; rw [r.length])⟩
 | _=>cases e
theorem Em {α:Type} (xs:List α) (i:Int):atP xs i = L2.atI xs i:=rfl
theorem bU.atI {xs:List PV} {vs:List V} {i:Int} {x:PV} (h:bU K S xs vs) (e:atP xs i = some x):∃ v,L2.atI vs i = some v /\ Rep K S x v:=by
 rw [Em] at e
 unfold L2.atI at e ⊢
 rw [h.length]
 cases q:ixN xs.length i with
 | none=>rw [q] at e; cases e
 | some j=>rw [q] at e; exact h.get e
theorem fq:JR K (FL K) jK:=by
 intro S H x y v u rr Q I hx hy e k
 unfold jK at e
 split at e
 . rename_i xs i
   obtain ⟨z,e1,e2⟩:=Option.map_eq_some_iff.mp e
   obtain ⟨p,vs,rfl,hq,r⟩:=hV hx
   obtain ⟨w,e3,rw'⟩:=r.atI e1
   subst e2
   exact ⟨p,vs,i,w,rfl,du hy,hq,e3,k _ S H (bt.refl I) rw'⟩
 . cases e
theorem fA:JR K (Fh K) jV:=by
 intro S H x y v u rr Q I hx hy e k
 unfold jV at e
 split at e
 . rename_i xs i
   obtain ⟨z,e1,e2⟩:=Option.map_eq_some_iff.mp e
   obtain ⟨p,vs,rfl,hq,r⟩:=lL hx
   obtain ⟨w,e3,rw'⟩:=r.atI e1
   subst e2
   exact ⟨p,vs,i,w,rfl,du hy,aF.tup I hq,e3,k _ S H (bt.refl I) rw'⟩
 . cases e
end
end L2.P
namespace L2.P
open PySem PySem.Spec PyProof.Rows L2 L2.E
section
variable {K:PySem.W.Frag} {cls:String -> Option Addr} {W:XW} {Av G S₀ S S' H H' B B':Hp} {ρ:ae} {σ:St} {Q:VK}
theorem iP:JR K (B9 K) mx:=by
 intro S H x y v u rr Q I hx hy e k
 unfold mx at e
 split at e
 . rename_i xs ys
   split at e
   . rename_i hl
     cases e
     obtain ⟨p,vs,rfl,hq,r⟩:=hV hx
     obtain ⟨p2,vs2,rfl,hq2,r2⟩:=hV hy
     exact ⟨p,p2,vs,vs2,rfl,rfl,hq,hq2,by rw [r.length,r2.length]; exact hl,fun l hn=>k _ S _ (bt.heap I hn) ⟨l,_,rfl,hn,I.free hn,ba,r.append r2⟩⟩
   . cases e
 . cases e
theorem vw {xs:List PV} {vs:List V} {bs:List Bool} (h:lZ xs = some bs) (r:bU K S xs vs):vs = bs.map V.bl:=by
 induction xs generalizing bs vs with
 | nil=>cases h; exact r.nil_inv
 | cons x xs ih=>
   cases x with
   | bl i=>
     obtain ⟨ms,e1,e2⟩:=Option.map_eq_some_iff.mp h
     subst e2
     obtain ⟨v,t,rfl,h1,h2⟩:=r.cons_inv
     unfold Rep at h1
     rw [ih e1 h2,h1]; rfl
   | _=>cases h
theorem zm {A:Around} (hh:A.handled = none):JU K (fun xs H Q=>∃ (p:Addr) (bs:List Bool),xs = [.ref p] /\ SqL K H p (bs.map V.bl) /\ A.handled = none /\ Q (.bl (bs.all id)) H) xi:=by
 intro S H x v rr Q I hx e k
 cases x with
 | lst xs=>
   obtain ⟨bs,e1,e2⟩:=Option.map_eq_some_iff.mp e
   obtain ⟨p,vs,rfl,hq,r⟩:=hV hx
   rw [vw e1 r] at hq
   subst e2
   exact ⟨p,bs,rfl,hq,hh,k _ S H (bt.refl I) (by show Rep K S _ _; unfold Rep; rfl)⟩
 | _=>cases e
theorem C7 {T:String} {x:PV} {v:V} {b:Bool} (s:aF S H) (hx:RdV K S H x v) (e:isP T x = some b):IsV K T v H b:=by
 cases x with
 | int i=>
   have:=du hx; subst this
   simp only [isP] at e
   split at e
   . cases e; exact .inl ⟨by assumption,rfl⟩
   . split at e
     . rename_i h; cases e; rcases h with h | h | h | h
       . exact .inr (.inl ⟨h,rfl⟩)
       . exact .inr (.inr (.inl ⟨h,rfl⟩))
       . exact .inr (.inr (.inr (.inl ⟨h,rfl⟩)))
       . exact .inr (.inr (.inr (.inr ⟨h,rfl⟩)))
     . cases e
 | bl i=>
   have:=lR hx; subst this
   simp only [isP] at e
   split at e
   . rename_i h; cases e; rcases h with h | h
     . exact .inl ⟨h,rfl⟩
     . exact .inr (.inl ⟨h,rfl⟩)
   . split at e
     . rename_i h; cases e; rcases h with h | h | h
       . exact .inr (.inr (.inl ⟨h,rfl⟩))
       . exact .inr (.inr (.inr (.inl ⟨h,rfl⟩)))
       . exact .inr (.inr (.inr (.inr ⟨h,rfl⟩)))
     . cases e
 | non=>
   have:=gX hx; subst this
   simp only [isP] at e
   split at e
   . rename_i h; cases e; rcases h with h | h | h | h | h
     . exact .inl ⟨h,rfl⟩
     . exact .inr (.inl ⟨h,rfl⟩)
     . exact .inr (.inr (.inl ⟨h,rfl⟩))
     . exact .inr (.inr (.inr (.inl ⟨h,rfl⟩)))
     . exact .inr (.inr (.inr (.inr ⟨h,rfl⟩)))
   . cases e
 | str i=>
   have:=jk hx; subst this
   simp only [isP] at e
   split at e
   . cases e; exact .inr (.inr (.inr (.inr ⟨by assumption,rfl⟩)))
   . split at e
     . rename_i h; cases e; rcases h with h | h | h | h
       . exact .inl ⟨h,rfl⟩
       . exact .inr (.inl ⟨h,rfl⟩)
       . exact .inr (.inr (.inl ⟨h,rfl⟩))
       . exact .inr (.inr (.inr (.inl ⟨h,rfl⟩)))
     . cases e
 | lst xs=>
   obtain ⟨p,vs,rfl,hq,r⟩:=hV hx
   refine .inl ⟨⟨vs,hq⟩,?_⟩
   simp only [isP] at e
   split at e
   . cases e; exact .inr (.inr (.inl ⟨by assumption,rfl⟩))
   . split at e
     . rename_i h; cases e; rcases h with h | h | h | h
       . exact .inl ⟨h,rfl⟩
       . exact .inr (.inl ⟨h,rfl⟩)
       . exact .inr (.inr (.inr (.inl ⟨h,rfl⟩)))
       . exact .inr (.inr (.inr (.inr ⟨h,rfl⟩)))
     . cases e
 | tup xs=>
   obtain ⟨p,vs,rfl,hq,r⟩:=lL hx
   refine .inr ⟨⟨vs,aF.tup s hq⟩,?_⟩
   simp only [isP] at e
   split at e
   . cases e; exact .inr (.inr (.inr (.inl ⟨by assumption,rfl⟩)))
   . split at e
     . rename_i h; cases e; rcases h with h | h | h | h
       . exact .inl ⟨h,rfl⟩
       . exact .inr (.inl ⟨h,rfl⟩)
       . exact .inr (.inr (.inl ⟨h,rfl⟩))
       . exact .inr (.inr (.inr (.inr ⟨h,rfl⟩)))
     . cases e
theorem sJ {T:String} {ta:TE} {ma:ae -> OE} (ha:JE K cls W ta ma):
  JE K cls W (tCB (fun xs H Q=>∃ x T b,xs = [x,.ty T] /\ IsV K T x H b /\ Q (.bl b) H) (jm ta (jm (tC (.ty T)) kU))) (mIs T ma):=by
 intro Av G S₀ ρ σ S H Q I p
 refine ha.go I p fun a v S1 H1 I1 w1 r1 p1=>?_
 show ∃ x T' b,[v,V.ty T] = [x,V.ty T'] /\ _
 dsimp only at p1
 cases e:isP T a.pv with
 | none=>rw [e] at p1; exact p1.elim
 | some b=>
   rw [e] at p1
   exact ⟨v,T,b,rfl,C7 I1.sh (r1.rd I1.sh) e,p1 _ S1 H1 (bt.refl I1.sh) (by show Rep K S1 _ _; unfold Rep; rfl)⟩
end
end L2.P
namespace L2.P
open PySem PySem.Spec PyProof.Rows L2 L2.E
section
variable {K:PySem.W.Frag} {cls:String -> Option Addr} {W:XW} {Av G S₀ S S' H H' B B':Hp} {ρ:ae} {σ:St} {Q:VK}
theorem nX {xs:List PV} {vs:List V} (h:bU K S xs vs):vs.isEmpty = xs.isEmpty:=by
 cases xs with
 | nil=>rw [h.nil_inv]; rfl
 | cons x xs=>obtain ⟨v,r,rfl,_⟩:=h.cons_inv; rfl
theorem wM {x:PV} {v:V} {b:Bool} (s:aF S H) (hx:RdV K S H x v) (e:qb x = some b):vG K v H b:=by
 cases x with
 | non=>have:=gX hx; subst this; cases e; rfl
 | bl c=>have:=lR hx; subst this; cases e; rfl
 | int i=>have:=du hx; subst this; cases e; rfl
 | str z=>cases e
 | lst xs=>
   obtain ⟨p,vs,rfl,hq,r⟩:=hV hx
   cases e
   exact .inl ⟨vs,hq,by rw [nX r]⟩
 | tup xs=>
   obtain ⟨p,vs,rfl,hq,r⟩:=lL hx
   cases e
   exact .inr (.inl ⟨vs,aF.tup s hq,by rw [nX r]⟩)
theorem eH {ta:TE} {ma:ae -> OE} (ha:JE K cls W ta ma):JT K cls W (fun σ H Q=>ta σ H fun x H'=>∃ k,vG K x H' k /\ Q k H') (gi ma):=by
 intro Av G S₀ ρ σ S H Q I p
 refine ha.goT I p fun r v S1 H1 I1 w1 r1 p1=>?_
 cases e:qb r.pv with
 | none=>rw [e] at p1; exact p1.elim
 | some b=>rw [e] at p1; exact ⟨b,wM I1.sh (r1.rd I1.sh) e,p1 S1 H1 (bt.refl I1.sh)⟩
theorem tD {r:RV} {b:Bool} {v:V} {S1 H1:Hp} (h:r.pv = .bl b) (r1:jT K H S1 H1 r v) (s:aF S1 H1):v = .bl b:=by
 have:=r1.rd s
 rw [h] at this
 exact lR this
theorem az {ta:TE} {ma:ae -> OE} (ha:JE K cls W ta ma):JT K cls W (tZ ta) (aQ ma):=by
 intro Av G S₀ ρ σ S H Q I p
 refine ha.goT I p fun r v S1 H1 I1 w1 r1 p1=>?_
 cases e:r.pv with
 | bl b=>rw [e] at p1; exact ⟨b,tD e r1 I1.sh,p1 S1 H1 (bt.refl I1.sh)⟩
 | _=>rw [e] at p1; exact p1.elim
theorem zh {ta:TT} {ma:ae -> OT} (ha:JT K cls W ta ma):JT K cls W (BD ta) (wu ma):=by
 intro Av G S₀ ρ σ S H Q I p
 exact ha.goT I p fun b S1 H1 I1 w1 p1=>p1 S1 H1 (bt.refl I1.sh)
theorem lJ {ta tb:TT} {ma mb:ae -> OT} (ha:JT K cls W ta ma) (hb:JT K cls W tb mb):JT K cls W (Ej ta tb) (mY ma mb):=by
 intro Av G S₀ ρ σ S H Q I p
 refine ha.goT I p fun b S1 H1 I1 w1 p1=>?_
 cases b with
 | true=>exact ub (hb Av G S₀ ρ σ S1 H1 Q I1 p1)
 | false=>exact uv (p1 S1 H1 (bt.refl I1.sh))
theorem zt {ta tb:TT} {ma mb:ae -> OT} (ha:JT K cls W ta ma) (hb:JT K cls W tb mb):JT K cls W (tOr ta tb) (yt ma mb):=by
 intro Av G S₀ ρ σ S H Q I p
 refine ha.goT I p fun b S1 H1 I1 w1 p1=>?_
 cases b with
 | false=>exact uv (hb Av G S₀ ρ σ S1 H1 Q I1 p1)
 | true=>exact ub (p1 S1 H1 (bt.refl I1.sh))
theorem ke {b:Bool}:jT K B S H (.sh (.bl b)) (.bl b):=by show Rep K S _ _; unfold Rep; rfl
theorem vQ {ta tb:TE} {ma mb:ae -> OE} (ha:JE K cls W ta ma) (hb:JE K cls W tb mb):JE K cls W (yk ta tb) (uI ma mb):=by
 intro Av G S₀ ρ σ S H Q I p
 refine ha.go I p fun r v S1 H1 I1 w1 r1 p1=>?_
 cases e:r.pv with
 | bl b=>
   rw [e] at p1
   refine ⟨b,tD e r1 I1.sh,?_⟩
   cases b with
   | true=>exact ub (hb Av G S₀ ρ σ S1 H1 Q I1 p1)
   | false=>exact uv (p1 _ S1 H1 (bt.refl I1.sh) ke)
 | _=>rw [e] at p1; exact p1.elim
theorem Dc {ta:TE} {ma:ae -> OE} (ha:JE K cls W ta ma):JE K cls W (y7 ta) (zI ma):=by
 intro Av G S₀ ρ σ S H Q I p
 refine ha.go I p fun r v S1 H1 I1 w1 r1 p1=>?_
 cases e:r.pv with
 | bl b=>rw [e] at p1; exact ⟨b,tD e r1 I1.sh,p1 _ S1 H1 (bt.refl I1.sh) ke⟩
 | _=>rw [e] at p1; exact p1.elim
theorem iE {tc:TT} {ta tb:TE} {mc:ae -> OT} {ma mb:ae -> OE} (hc:JT K cls W tc mc) (ha:JE K cls W ta ma) (hb:JE K cls W tb mb):JE K cls W (tIf tc ta tb) (ki mc ma mb):=by
 intro Av G S₀ ρ σ S H Q I p
 refine hc.go I p fun b S1 H1 I1 w1 p1=>?_
 cases b with
 | true=>exact ub (ha Av G S₀ ρ σ S1 H1 Q I1 p1)
 | false=>exact uv (hb Av G S₀ ρ σ S1 H1 Q I1 p1)
theorem iH {r r':R2} {g g':PV -> PV -> Option RV} {ta tb tc:TE} {ma mb mc:ae -> OE} (hr:JR K r g) (hr':JR K r' g') (ha:JE K cls W ta ma) (hb:JE K cls W tb mb) (hc:JE K cls W tc mc):
  JE K cls W (qg r r' ta tb tc) (jL g g' ma mb mc):=by
 intro Av G S₀ ρ σ S H Q I p
 refine ha.go I p fun a v S1 H1 I1 w1 r1 p1=>hb.go I1 p1 fun b u S2 H2 I2 w2 r2 p2=>?_
 cases e:g a.pv b.pv with
 | none=>rw [e] at p2; exact p2.elim
 | some rr=>
   rw [e] at p2
   refine hr S2 H2 a.pv b.pv v u rr _ I2.sh ((r1.rd I1.sh).mono w2.s w2.g) (r2.rd I2.sh) e fun z S3 H3 w3 r3=>?_
   have I3:=I2.grow w3
   simp only [oE,OE.bind] at p2
   cases e3:rr.pv with
   | bl k=>
     rw [e3] at p2
     have hz:=tD e3 r3 I3.sh
     refine ⟨k,hz,?_⟩
     cases k with
     | false=>exact uv (p2 _ S3 H3 w3 ke)
     | true=>
       refine ub (hc.go I3 (p2.back w3) fun c y S4 H4 I4 w4 r4 p4=>?_)
       cases e4:g' b.pv c.pv with
       | none=>rw [e4] at p4; exact p4.elim
       | some r'=>rw [e4] at p4; exact hr' S4 H4 b.pv c.pv u y r' Q I4.sh (((r2.rd I2.sh).mono w3.s w3.g).mono w4.s w4.g) (r4.rd I4.sh) e4 p4
   | _=>rw [e3] at p2; exact p2.elim
theorem ay {ta tb:TS} {ma mb:ae -> OS} (ha:JS K cls W ta ma) (hb:JS K cls W tb mb):JS K cls W (Eo ta tb) (aT ma mb):=by
 intro Av G S₀ ρ σ S H D I p
 refine ha Av G S₀ ρ σ S H _ I ?_
 unfold aT at p
 cases e:ma ρ with
 | nx ρ'=>rw [e] at p; exact fun σ' S' H' I' s'=>hb Av G S₀ ρ' σ' S' H' D I' (p.back s')
 | bk ρ'=>rw [e] at p; exact p
 | ct ρ'=>rw [e] at p; exact p
 | rt ρ' r=>rw [e] at p; exact p
 | exc ρ' c fs=>rw [e] at p; exact p
 | bad=>rw [e] at p; exact p
theorem aK:JS K cls W zr bc:=fun Av G S₀ ρ σ S H D I p=>p σ S H I (aF.refl _)
theorem bq {i:Nat} {te:TE} {me:ae -> OE} (he:JE K cls W te me):JS K cls W (uC te (kO i)) (cK i me):=by
 intro Av G S₀ ρ σ S H D I p
 refine he.goS I p fun r v S1 H1 I1 w1 r1 p1=>?_
 show D.nx (σ.set i (some v)) H1
 cases r with
 | sh x=>exact p1 _ S1 H1 (I1.tQ r1) (aF.refl _)
 | fr xs=>exact p1 _ S1 H1 (I.E7 w1 r1) (aF.refl _)
 | al xs=>exact p1.elim
theorem bg {tc:TT} {ta tb:TS} {mc:ae -> OT} {ma mb:ae -> OS} (hc:JT K cls W tc mc) (ha:JS K cls W ta ma) (hb:JS K cls W tb mb):JS K cls W (A4 tc ta tb) (b7 mc ma mb):=by
 intro Av G S₀ ρ σ S H D I p
 refine hc.goS I p fun b S1 H1 I1 w1 p1=>?_
 cases b with
 | true=>exact ub (ha Av G S₀ ρ σ S1 H1 D I1 p1)
 | false=>exact uv (hb Av G S₀ ρ σ S1 H1 D I1 p1)
theorem aC {te:TE} {me:ae -> OE} (he:JE K cls W te me):JS K cls W (Bp te) (bp me):=by
 intro Av G S₀ ρ σ S H D I p
 refine he.goS I p fun r v S1 H1 I1 w1 r1 p1=>?_
 cases r with
 | sh x=>exact p1 v σ S1 H1 I1 (aF.refl _) r1
 | fr xs=>exact p1 v σ S1 H1 I1 (aF.refl _) (r1.back I.gh)
 | al xs=>exact p1.elim
theorem ig {i:Nat}:JS K cls W (Bp (qB i)) (iA i):=by
 intro Av G S₀ ρ σ S H D I p
 unfold iA at p
 split at p
 . rename_i x e
   obtain ⟨v,e1,r⟩:=I.good i _ e
   exact ⟨v,e1,p v σ S H I (aF.refl _) r⟩
 . rename_i xs e
   obtain ⟨v,e1,a,vs,e2,h1,h2,h3,h4⟩:=I.good i _ e
   exact ⟨v,e1,p v σ S H I.drop (aF.refl _) ⟨a,vs,e2,h1,h2,h3,h4⟩⟩
 . exact p.elim
theorem AG {te:TE} {me:ae -> OE} (he:JE K cls W te me):JS K cls W (rL te) (zH me):=by
 intro Av G S₀ ρ σ S H D I p
 exact he.goS I p fun r v S1 H1 I1 w1 r1 p1=>p1 σ S1 H1 I1 (aF.refl _)
theorem lT {i:Nat} {ts:TS} {m:ae -> OS} (h:JS K cls W ts m):JS K cls W ts (j4 i m):=by
 intro Av G S₀ ρ σ S H D I p
 unfold j4 lW at p
 split at p
 . rename_i xs e
   obtain ⟨S',s,J⟩:=I.FD e
   exact h Av G S₀ _ σ S' H D J (p.back s)
 . exact h Av G S₀ ρ σ S H D I p
theorem lS {i:Nat} {te:TE} {me:ae -> OE} (he:JE K cls W te me):JS K cls W (rL (tBM K "list" sE (qB i) (jm te kU))) (kg i me):=by
 intro Av G S₀ ρ σ S H D I p
 unfold kg at p
 split at p
 . rename_i xs e
   obtain ⟨v,e1,a,vs,rfl,h1,h2,h3,h4⟩:=I.good i _ e
   refine ⟨_,e1,.inl ⟨rfl,_,SqL.new h3⟩,?_⟩
   refine he Av G S₀ ρ σ S H _ I ?_
   cases em:me ρ with
   | exc c fs=>rw [em] at p; exact fun a C S' H' w x=>p a C σ S' H' (I.grow w) w.s x
   | bad=>rw [em] at p; exact p
   | ok r=>
     rw [em] at p
     intro u S1 H1 w1 r1
     simp only [OE.bL] at p
     cases es:jG r with
     | none=>rw [es] at p; exact p.elim
     | some y=>
       rw [es] at p
       dsimp only at p
       split at p
       . rename_i hl
         obtain ⟨S2,w2,s2,rx⟩:=r1.share w1 es
         have I2:=I.grow w2
         refine ⟨a,vs,u,rfl,rfl,w2.g _ _ h3,by rw [h4.length]; exact hl,?_⟩
         exact p σ S2 _ (I2.mut e e1 ((h4.mono w2.s).append (.cons rx .nil))) w2.s
       . exact p.elim
 . exact p.elim
theorem qX {i:Nat} {tb:TS} {mb:ae -> OS} {D:Ends} {x:PV} {xs:List PV} {v:V} {N:St -> Hp -> Prop} (hb:JS K cls W tb mb) (I:SR K cls Av G S₀ ρ σ S H) (hx:Rep K S x v)
  (p:gA K cls W Av G S₀ S D (jy i mb (x ::xs) ρ)) (hN:∀ ρ' σ' S' H',SR K cls Av G S₀ ρ' σ' S' H' -> aF S S' -> gA K cls W Av G S₀ S' D (jy i mb xs ρ') -> N σ' H'):
  kO i v σ H fun σ2 H2=>tb { D with nx:=N,ct:=N,bk:=D.nx } σ2 H2:=by
 refine hb Av G S₀ _ _ S H _ (I.tQ hx) ?_
 rw [nr] at p
 cases e:mb (ρ.set i (some (.sh x))) with
 | nx ρ'=>rw [e] at p; exact fun σ' S' H' I' s'=>hN ρ' σ' S' H' I' s' (p.back s')
 | ct ρ'=>rw [e] at p; exact fun σ' S' H' I' s'=>hN ρ' σ' S' H' I' s' (p.back s')
 | bk ρ'=>rw [e] at p; exact p
 | rt ρ' r=>rw [e] at p; exact p
 | exc ρ' c fs=>rw [e] at p; exact p
 | bad=>rw [e] at p; exact p
theorem AB {i:Nat} {tl:TE} {tb:TS} {ml:ae -> OE} {mb:ae -> OS} (hl:JE K cls W tl ml) (hb:JS K cls W tb mb):JS K cls W (y8 (tP K tl) (kO i) tb) (wX i ml mb):=by
 intro Av G S₀ ρ σ S H D I p
 refine hl Av G S₀ ρ σ S H _ I ?_
 unfold wX at p
 cases em:ml ρ with
 | exc c fs=>rw [em] at p; exact fun a C S' H' w x=>p a C σ S' H' (I.grow w) w.s x
 | bad=>rw [em] at p; exact p
 | ok r=>
   rw [em] at p
   intro v S1 H1 w1 r1
   simp only [OE.bL] at p
   cases ei:vy r with
   | none=>rw [ei] at p; exact p.elim
   | some xs=>
     rw [ei] at p
     have es:jG r = some (.lst xs):=by
      cases r with
      | sh y=>cases y <;> cases ei <;> rfl
      | fr ys=>cases ei; rfl
      | al ys=>cases ei
     obtain ⟨S2,w2,s2,rx⟩:=r1.share w1 es
     have I2:=I.grow w2
     unfold Rep at rx
     obtain ⟨a,vs,rfl,hq,hr⟩:=rx
     refine ⟨a,rfl,⟨vs,aF.seq I2.sh hq⟩,?_⟩
     refine zS (xs:=vs) (fun k σ' H'=>∃ ρ' S',SR K cls Av G S₀ ρ' σ' S' H' /\ aF S2 S' /\ gA K cls W Av G S₀ S' D (jy i mb (xs.drop k) ρ'))
      ⟨ρ,S2,I2,aF.refl _,p.back w2.s⟩ ?_ ?_ ?_
     . rintro k σ' H' _ ⟨ρ',S',I',s',_⟩
       exact aF.seq (s'.trans I'.sh) hq
     . rintro k x σ' H' hx ⟨ρ',S',I',s',p'⟩
       obtain ⟨y,hy,ry⟩:=hr.Fe hx
       have hd:xs.drop k = y ::xs.drop (k + 1):=by
        have hk:k < xs.length:=(List.getElem?_eq_some_iff.mp hy).1
        rw [List.drop_eq_getElem_cons hk]
        congr 1
        have:=List.getElem?_eq_getElem hk
        rw [hy] at this
        exact (Option.some.inj this).symm
       rw [hd] at p'
       exact qX hb I' (Rep.mono s' ry) p' fun ρ2 σ2 S3 H3 I3 s3 p3=>⟨ρ2,S3,I3,s'.trans s3,p3⟩
     . rintro σ' H' ⟨ρ',S',I',s',p'⟩
       rw [List.drop_of_length_le (by rw [hr.length]; exact Nat.le_refl _)] at p'
       exact p' σ' S' H' I' (aF.refl _)
theorem uU {n k:Nat} (h:k < n):(eU n).drop k = .int (k:Int) ::(eU n).drop (k + 1):=by
 have hk:k < (eU n).length:=by unfold eU; simpa using h
 rw [List.drop_eq_getElem_cons hk]
 congr 1
 simp [eU]
theorem Bq {i:Nat} {te:TE} {tb:TS} {me:ae -> OE} {mb:ae -> OS} (he:JE K cls W te me) (hb:JS K cls W tb mb):JS K cls W (y8 (wm (jm te kU)) (kO i) tb) (yA i me mb):=by
 intro Av G S₀ ρ σ S H D I p
 refine he.goS I p fun r v S1 H1 I1 w1 r1 p1=>?_
 cases e:r.pv with
 | int j=>
   rw [e] at p1
   have hv:v = .int j:=by have:=r1.rd I1.sh; rw [e] at this; exact du this
   subst hv
   dsimp only at p1
   split at p1
   . rename_i hj
     refine ⟨j,rfl,hj.1,hj.2,?_⟩
     refine xZ (n:=j.toNat) (fun k σ' H'=>∃ ρ' S',SR K cls Av G S₀ ρ' σ' S' H' /\ aF S1 S' /\ gA K cls W Av G S₀ S' D (jy i mb ((eU j.toNat).drop k) ρ'))
      ⟨ρ,S1,I1,aF.refl _,p1⟩ ?_ ?_
     . rintro k σ' H' hk ⟨ρ',S',I',s',p'⟩
       rw [uU hk] at p'
       refine qX hb I' ?_ p' fun ρ2 σ2 S3 H3 I3 s3 p3=>⟨ρ2,S3,I3,s'.trans s3,p3⟩
       unfold Rep
       rw [Int.zero_add]
     . rintro σ' H' ⟨ρ',S',I',s',p'⟩
       rw [List.drop_of_length_le (by unfold eU; simp)] at p'
       exact p' σ' S' H' I' (aF.refl _)
   . exact p1.elim
 | _=>rw [e] at p1; exact p1.elim
theorem gy {tc:TT} {tb:TS} {mc:ae -> OT} {mb:ae -> OS} {n:Nat} (hc:JT K cls W tc mc) (hb:JS K cls W tb mb):JS K cls W (vV tc tb) (bH mc mb n):=by
 intro Av G S₀ ρ σ S H D I p
 refine ⟨fun m σ' H'=>∃ ρ' S',SR K cls Av G S₀ ρ' σ' S' H' /\ aF S S' /\ gA K cls W Av G S₀ S' D (bH mc mb m ρ'),⟨n,ρ,S,I,aF.refl _,p⟩,?_⟩
 rintro m σ1 H1 ⟨ρ1,S1,I1,s1,p1⟩
 cases m with
 | zero=>exact p1.elim
 | succ m=>
   unfold bH at p1
   refine hc.goS I1 p1 fun b S2 H2 I2 w2 p2=>?_
   cases b with
   | false=>exact uv (p2 σ1 S2 H2 I2 (aF.refl _))
   | true=>
     refine ub ⟨fun σ' H'=>∃ ρ' S',SR K cls Av G S₀ ρ' σ' S' H' /\ aF S S' /\ gA K cls W Av G S₀ S' D (bH mc mb m ρ'),fun σ' H' h=>⟨m,Nat.lt_succ_self m,h⟩,?_⟩
     refine hb Av G S₀ ρ1 σ1 S2 H2 _ I2 ?_
     simp only [if_true] at p2
     cases e:mb ρ1 with
     | nx ρ'=>rw [e] at p2; exact fun σ' S' H' I' s'=>⟨ρ',S',I',(s1.trans w2.s).trans s',p2.back s'⟩
     | ct ρ'=>rw [e] at p2; exact fun σ' S' H' I' s'=>⟨ρ',S',I',(s1.trans w2.s).trans s',p2.back s'⟩
     | bk ρ'=>rw [e] at p2; exact p2
     | rt r=>rw [e] at p2; exact p2
     | exc ρ' c fs=>rw [e] at p2; exact p2
     | bad=>rw [e] at p2; exact p2
end
end L2.P
namespace L2.P
open PySem PySem.Spec PyProof.Rows L2 L2.E
section
variable {K:PySem.W.Frag} {cls:String -> Option Addr} {W:XW} {Av G S₀ S S' H H' B B':Hp} {ρ:ae} {σ:St} {Q:VK}
def zX:V -> Option Int
 | .int i=>some i
 | _=>none
def JO (K:PySem.W.Frag) (cls:String -> Option Addr) (W:XW) (to:TO) (m:ae -> OE):Prop:=∀ Av G S₀ ρ σ S H (Q:Option Int -> Hp -> Prop),SR K cls Av G S₀ ρ σ S H ->
 jn K cls W σ S H (fun v H'=>Q (zX v) H') (m ρ) -> to σ H Q
theorem lV:JO K cls W tH (mC .non):=fun Av G S₀ ρ σ S H Q I p=>p .non S H (bt.refl I.sh) (by show Rep K S _ _; unfold Rep; rfl)
theorem jw {te:TE} {m:ae -> OE} (h:JE K cls W te m):JO K cls W (zu te) (mQ m):=by
 intro Av G S₀ ρ σ S H Q I p
 refine h.go I p fun r v S1 H1 I1 w1 r1 p1=>?_
 cases e:r.pv with
 | int i=>
   rw [e] at p1
   have hv:v = .int i:=by have:=r1.rd I1.sh; rw [e] at this; exact du this
   exact ⟨i,hv,p1 (.int i) S1 H1 (bt.refl I1.sh) (by show Rep K S1 _ _; unfold Rep; rfl)⟩
 | _=>rw [e] at p1; exact p1.elim
theorem JO.go {to:TO} {m:ae -> OE} {f:RV -> OE} {Q':Option Int -> Hp -> Prop} (h:JO K cls W to m) (I:SR K cls Av G S₀ ρ σ S H) (p:jn K cls W σ S H Q ((m ρ).bind f))
  (k:∀ r v S1 H1,SR K cls Av G S₀ ρ σ S1 H1 -> bt S H S1 H1 -> jT K H S1 H1 r v -> jn K cls W σ S1 H1 Q (f r) -> Q' (zX v) H1):to σ H Q':=by
 refine h Av G S₀ ρ σ S H Q' I ?_
 cases e:m ρ with
 | ok r=>rw [e] at p; exact fun v S1 H1 w r1=>k r v S1 H1 (I.grow w) w r1 (p.back w)
 | exc c fs=>rw [e] at p; exact p
 | bad=>rw [e] at p; exact p
theorem part_of {x:PV} {v:V} (h:RdV K S H x v):zX v = pL x:=by
 cases x with
 | int i=>rw [du h]; rfl
 | non=>rw [gX h]; rfl
 | bl b=>rw [lR h]; rfl
 | str b=>rw [jk h]; rfl
 | lst xs=>obtain ⟨p,vs,rfl,_⟩:=hV h; rfl
 | tup xs=>obtain ⟨p,vs,rfl,_⟩:=lL h; rfl
theorem bU.cut {xs:List PV} {vs:List V} (h:bU K S xs vs) (lo hi:Option Int):bU K S (lM xs lo hi) (xg vs lo hi):=by
 have es:∀ n d o,mH n d o = HT.sIx n d o:=fun n d o=>by cases o <;> rfl
 unfold lM xg
 simp only [es]
 rw [h.length]
 exact (h.drop _).take _
theorem ny {te:TE} {tl th:TO} {ma ml mh:ae -> OE} (ha:JE K cls W te ma) (hl:JO K cls W tl ml) (hh:JO K cls W th mh):JE K cls W (tSl (Ff K) te tl th) (tj ma ml mh):=by
 intro Av G S₀ ρ σ S H Q I p
 refine ha.go I p fun a v S1 H1 I1 w1 r1 p1=>hl.go I1 p1 fun l u S2 H2 I2 w2 r2 p2=>hh.go I2 p2 fun h z S3 H3 I3 w3 r3 p3=>?_
 rw [part_of (r2.rd I2.sh),part_of (r3.rd I3.sh)]
 have ra:=((r1.rd I1.sh).mono w2.s w2.g).mono w3.s w3.g
 cases e:a.pv with
 | lst xs=>
   rw [e] at p3 ra
   obtain ⟨q,vs,rfl,hq,hr⟩:=hV ra
   exact ⟨q,vs,rfl,hq,fun b hb=>p3 _ S3 _ (bt.heap I3.sh hb) ⟨b,_,rfl,hb,I3.sh.free hb,ba,hr.cut _ _⟩⟩
 | _=>rw [e] at p3; exact p3.elim
theorem join_some {α:Type} {o:Option (Option α)} {s:α} (h:o.join = some s):o = some (some s):=by
 cases o with
 | none=>cases h
 | some x=>cases x with
   | none=>cases h
   | some y=>rw [show y = s from Option.some.inj h]
theorem Bm {α:Type} {l:List (Option α)} {ι:List Nat} {j:Nat} {s:α} (h:(ι.map fun i=>(l[i]?).join)[j]? = some (some s)):∃ i,ι[j]? = some i /\ l[i]? = some (some s):=by
 rw [List.getElem?_map] at h
 cases e:ι[j]? with
 | none=>rw [e] at h; cases h
 | some i=>rw [e] at h; exact ⟨i,rfl,join_some (Option.some.inj h)⟩
def BU (ι:List Nat) (Av:Hp):Hp:=fun j=>match ι[j]? with
 | some i=>Av i
 | none=>none
def uL (ι:List Nat) (F:Nat -> List Addr):Nat -> List Addr:=fun j=>match ι[j]? with
 | some i=>F i
 | none=>[]
theorem pd.at {i j:Nat} {Av':Hp} {s:Sl} {v:V} {fp:List Addr} (h:pd K cls Av G S H i s v fp) (e:Av' j = Av i):pd K cls Av' G S H j s v fp:=by
 cases s with
 | sh x=>exact h
 | ow xs=>exact h
 | ex c fs=>exact h
 | tr io t=>exact ⟨h.1,h.2.1,h.2.2.1,fun z=>by rw [e]; exact h.2.2.2 z⟩
 | bo t=>exact h
theorem SR.pick {ι:List Nat} {x:PV} {v:V} (I:SR K cls Av G S₀ ρ σ S H) (hι:ι.Nodup) (hx:Rep K S x v):SR K cls (BU ι Av) G S₀ (dN ι ρ ++ [some (.sh x)]) (L2.E.pick ι σ ++ [some v]) S H:=by
 obtain ⟨F,J⟩:=I
 have hl:(dN ι ρ).length = (L2.E.pick ι σ).length:=by unfold dN L2.E.pick; simp
 have hp:(dN ι ρ).length = ι.length:=by unfold dN; simp
 refine ⟨uL ι F,J.gh,J.s0,J.sh,J.new,fun j s e=>?_,fun j k a h1 h2=>?_,fun j a h=>?_,by unfold dN L2.E.pick; simp⟩
 . by_cases hj:j < (dN ι ρ).length
   . rw [List.getElem?_append_left hj] at e
     obtain ⟨i,e1,e2⟩:=Bm e
     obtain ⟨u,e3,r⟩:=J.own i s e2
     refine ⟨u,?_,?_⟩
     . rw [List.getElem?_append_left (by rw [<- hl]; exact hj)]
       unfold L2.E.pick
       rw [List.getElem?_map,e1]
       show some (σ[i]?).join = _
       rw [e3]; rfl
     . unfold uL
       rw [e1]
       exact r.at (by unfold BU; rw [e1])
   . have hj':(dN ι ρ).length <= j:=Nat.le_of_not_lt hj
     rw [List.getElem?_append_right hj'] at e
     have h0:j - (dN ι ρ).length = 0:=by
      by_cases h:j - (dN ι ρ).length = 0
      . exact h
      . rw [List.getElem?_eq_none (by simp; omega)] at e; cases e
     rw [h0] at e
     cases e
     refine ⟨v,?_,?_,hx⟩
     . rw [List.getElem?_append_right (by rw [<- hl]; exact hj'),<- hl,h0]; rfl
     . unfold uL
       rw [List.getElem?_eq_none (by rw [<- hp]; exact hj')]
 . unfold uL at h1 h2
   cases e1:ι[j]? with
   | none=>rw [e1] at h1; cases h1
   | some i=>
     cases e2:ι[k]? with
     | none=>rw [e2] at h2; cases h2
     | some i'=>
       rw [e1] at h1
       rw [e2] at h2
       have z:=J.apart i i' a h1 h2
       subst z
       obtain ⟨ha,ea⟩:=List.getElem?_eq_some_iff.mp e1
       obtain ⟨hb,eb⟩:=List.getElem?_eq_some_iff.mp e2
       exact (List.getElem_inj hι).mp (ea.trans eb.symm)
 . unfold uL at h
   cases e1:ι[j]? with
   | none=>rw [e1] at h; cases h
   | some i=>rw [e1] at h; exact J.live i a h
theorem zM {me:ae -> OE} {x:PV} {xs ys:List PV} (h:dy me ρ (x ::xs) = .ok ys):∃ r y zs,me (ρ ++ [some (.sh x)]) = .ok r /\ jG r = some y /\ dy me ρ xs = .ok zs /\ ys = y ::zs:=by
 unfold dy at h
 cases e:me (ρ ++ [some (.sh x)]) with
 | ok r=>
   rw [e] at h
   simp only [OE.eW] at h
   cases e2:jG r with
   | none=>rw [e2] at h; cases h
   | some y=>
     rw [e2] at h
     dsimp only at h
     cases e3:dy me ρ xs with
     | ok zs=>rw [e3] at h; cases h; exact ⟨r,y,zs,rfl,e2,rfl,rfl⟩
     | exc c fs=>rw [e3] at h; cases h
     | bad=>rw [e3] at h; cases h
 | exc c fs=>rw [e] at h; cases h
 | bad=>rw [e] at h; cases h
theorem oa {J:It} {ι:List Nat} {te:TE} {me:ae -> OE} {xs ys:List PV} (hι:ι.Nodup) (he:JE K cls (fun _ _ _ _=>False) te me) (I:SR K cls Av G S₀ ρ σ S H) (hy:dy me (dN ι ρ) xs = .ok ys) (hl:ys.length <= lim)
  (go:∀ k H' x,aF H H' -> xs[k]? = some x -> J.go k H' /\ ∀ v H2,J.yld k H' v H2 -> H2 = H' /\ Rep K S x v) (stop:∀ H',aF H H' -> J.stop xs.length H')
  (hQ:∀ D S' H',bt S H S' H' -> H D = none -> S' D = none -> (∃ us,H' D = some (.lst us) /\ bU K S' ys us) -> Q (.ref D) H'):
  ∀ D,H D = none -> ∃ W:Nat -> Nat -> List V -> Hp -> Prop,(∃ m,W 0 m [] (upd H D (.lst []))) /\ ∀ i m us H',W i m us H' ->
    H' D = some (.lst us) /\ ((J.stop i H' /\ Q (.ref D) H') \/ (J.go i H' /\ ∀ x H2,J.yld i H' x H2 -> te (L2.E.pick ι σ ++ [some x]) H2 fun y H3=>H3 D = some (.lst us) /\ us.length < sizeLine /\ ∃ m',m' < m /\ W (i + 1) m' (us ++ [y]) (upd H3 D (.lst (us ++ [y]))))):=by
 intro D nD
 refine ⟨fun k m us H'=>m + k = xs.length /\ H' D = some (.lst us) /\ ∃ S' zs ws,aF S S' /\ aF H H' /\ aF S' H' /\ (∀ b,S' b ≠ none -> S b ≠ none \/ (H b = none /\ b ≠ D)) /\ bU K S' zs us /\ dy me (dN ι ρ) (xs.drop k) = .ok ws /\ ys = zs ++ ws,
  ⟨xs.length,rfl,ba,S,[],ys,aF.refl _,aF.new nD,I.sh.trans (aF.new nD),fun b z=>.inl z,.nil,hy,rfl⟩,?_⟩
 rintro k m us H' ⟨hm,hD,S',zs,ws,s1,g1,sh1,n1,r1,e1,rfl⟩
 refine ⟨hD,?_⟩
 have hSD:S' D = none:=by
  cases q:S' D with
  | none=>rfl
  | some o=>
    rcases n1 D (by rw [q]; simp) with z | ⟨_,z⟩
    . exact absurd (I.sh.free nD) z
    . exact absurd rfl z
 by_cases hk:k < xs.length
 . refine .inr ?_
   have hx:xs[k]? = some xs[k]:=by simp [hk]
   obtain ⟨hgo,hyld⟩:=go k H' xs[k] g1 hx
   refine ⟨hgo,fun v H2 hv=>?_⟩
   obtain ⟨rfl,rv⟩:=hyld v H2 hv
   rw [List.drop_eq_getElem_cons hk] at e1
   obtain ⟨r,y,zs',em,es,e2,rfl⟩:=zM e1
   have I1:SR K cls Av G S₀ ρ σ S' H2:=I.grow ⟨s1,g1,sh1,fun b z=>by
    rcases n1 b z with z | ⟨z,_⟩
    . exact .inl z
    . exact .inr z⟩
   refine he _ G S₀ _ _ S' H2 _ (I1.pick hι (Rep.mono s1 rv)) ?_
   rw [em]
   intro u S2 H3 w2 r2
   obtain ⟨S3,w3,s3,ru⟩:=r2.share w2 es
   have hl2:(zs ++ y ::zs').length <= lim:=hl
   have hSD3:S3 D = none:=by
    cases q:S3 D with
    | none=>rfl
    | some o=>
      rcases w3.new D (by rw [q]; simp) with z | z
      . exact absurd hSD z
      . rw [hD] at z; cases z
   refine ⟨w3.g _ _ hD,?_,m - 1,by omega,by omega,ba,S3,zs ++ [y],zs',s1.trans w3.s,(g1.trans w3.g).upd nD,w3.sh.upd hSD3,fun b z=>?_,(r1.mono w3.s).append (.cons ru .nil),e2,by simp⟩
   . rw [r1.length,<- zR]
     rw [List.length_append,List.length_cons] at hl2
     omega
   . rcases w3.new b z with z | z
     . exact n1 b z
     . refine .inr ⟨g1.free z,fun e=>?_⟩
       rw [e,hD] at z; cases z
 . have hk':k = xs.length:=by omega
   subst hk'
   refine .inl ⟨stop H' g1,?_⟩
   rw [List.drop_length] at e1
   cases e1
   exact hQ D S' H' ⟨s1,g1,sh1,fun b z=>by
    rcases n1 b z with z | ⟨z,_⟩
    . exact .inl z
    . exact .inr z⟩ nD hSD ⟨us,hD,by rw [List.append_nil]; exact r1⟩
theorem uR {tl te:TE} {ml me:ae -> OE} {ι:List Nat} (hι:ι.Nodup) (hl:JE K cls W tl ml) (he:JE K cls (fun _ _ _ _=>False) te me):JE K cls W (uB (tP K tl) ι te) (sH ml ι me):=by
 intro Av G S₀ ρ σ S H Q I p
 refine hl.go I p fun r v S1 H1 I1 w1 r1 p1=>?_
 have ra:=r1.rd I1.sh
 cases e:r.pv with
 | lst xs=>
   rw [e] at p1 ra
   obtain ⟨a,vs,rfl,hq,hr⟩:=hV ra
   refine ⟨a,rfl,⟨vs,hq⟩,?_⟩
   dsimp only at p1
   cases em:dy me (dN ι ρ) xs with
   | exc c fs=>rw [em] at p1; exact p1.elim
   | bad=>rw [em] at p1; exact p1.elim
   | ok ys=>
     rw [em] at p1
     simp only [noX] at p1
     split at p1
     . rename_i hlen
       refine oa hι he I1 em hlen (fun k H' x g hx=>?_) (fun H' g=>⟨vs,aF.seq g hq,by rw [hr.length]; exact Nat.le_refl _⟩) fun D S' H' w nD sD ⟨us,hD,rr⟩=>p1 (.ref D) S' H' w ⟨D,us,rfl,nD,sD,hD,rr⟩
       obtain ⟨u,hu,ru⟩:=hr.get hx
       refine ⟨⟨vs,u,aF.seq g hq,hu⟩,?_⟩
       rintro v' H2 ⟨rfl,hv⟩
       have:=hv vs (aF.seq g hq)
       rw [hu] at this
       cases this
       exact ⟨rfl,ru⟩
     . exact p1.elim
 | _=>rw [e] at p1; exact p1.elim
theorem ym {tn te:TE} {mn me:ae -> OE} {ι:List Nat} (hι:ι.Nodup) (hn:JE K cls W tn mn) (he:JE K cls (fun _ _ _ _=>False) te me):JE K cls W (uB (wm (jm tn kU)) ι te) (vv mn ι me):=by
 intro Av G S₀ ρ σ S H Q I p
 refine hn.go I p fun r v S1 H1 I1 w1 r1 p1=>?_
 have ra:=r1.rd I1.sh
 cases e:r.pv with
 | int j=>
   rw [e] at p1 ra
   have hv:=du ra
   subst hv
   dsimp only at p1
   split at p1
   . rename_i hj
     refine ⟨j,rfl,hj.1,hj.2,?_⟩
     cases em:dy me (dN ι ρ) (eU j.toNat) with
     | exc c fs=>rw [em] at p1; exact p1.elim
     | bad=>rw [em] at p1; exact p1.elim
     | ok ys=>
       rw [em] at p1
       simp only [noX] at p1
       split at p1
       . rename_i hlen
         have hln:(eU j.toNat).length = j.toNat:=by unfold eU; simp
         refine oa hι he I1 em hlen (fun k H' x g hx=>?_) (fun H' g=>by rw [hln]; exact Nat.le_refl _) fun D S' H' w nD sD ⟨us,hD,rr⟩=>p1 (.ref D) S' H' w ⟨D,us,rfl,nD,sD,hD,rr⟩
         have hk:k < j.toNat:=by rw [<- hln]; exact (List.getElem?_eq_some_iff.mp hx).1
         refine ⟨hk,?_⟩
         rintro v' H2 ⟨rfl,rfl⟩
         refine ⟨rfl,?_⟩
         have:x = .int (k:Int):=by
          unfold eU at hx
          rw [List.getElem?_map,List.getElem?_range hk] at hx
          exact (Option.some.inj hx).symm
         subst this
         unfold Rep
         rw [Int.zero_add]
       . exact p1.elim
   . exact p1.elim
 | _=>rw [e] at p1; exact p1.elim
theorem y9 {C:Addr} {c:String} {t:TA} {ma:ae -> OA} (hc:cls c = some C) (ha:JA K cls W t ma):JS K cls W (vF C W t) (vR c ma):=by
 intro Av G S₀ ρ σ S H D I p
 refine ha.goS I p fun xs vs S1 H1 I1 w1 r1 p1=>?_
 split at p1
 . rename_i hl
   refine ⟨by rw [r1.length]; exact hl,fun a hn=>p1 a C σ S1 _ (I1.grow (bt.heap I1.sh hn)) (aF.refl _) ⟨hc,none,ba,.inl rfl⟩⟩
 . exact p1.elim
theorem bU.begin {xs:List PV} {vs:List V} (h:bU K S xs vs) (N:List Str) (i:Nat) (s:Sl) (e:(kZ N.length xs)[i]? = some (some s)):∃ x v,s = .sh x /\ (L2.start N vs)[i]? = some (some v) /\ Rep K S x v:=by
 unfold kZ at e
 by_cases hi:i < xs.length
 . rw [List.getElem?_append_left (by simpa using hi),List.getElem?_map] at e
   have hx:xs[i]? = some xs[i]:=by simp [hi]
   rw [hx] at e
   cases e
   obtain ⟨v,hv,r⟩:=h.get hx
   refine ⟨_,v,rfl,?_,r⟩
   unfold L2.start
   rw [List.getElem?_append_left (by rw [List.length_map,h.length]; exact hi),List.getElem?_map,hv]; rfl
 . rw [List.getElem?_append_right (by simpa using hi)] at e
   rw [List.getElem?_replicate] at e
   split at e <;> cases e
theorem GH {P:Program} {w:World} {mg:Str -> Option Value} {base:Heap} {x qual:Str} {st:Stmt} {f:Addr} {fd:FuncData} {N ps:List Str} {k:Nat} {m:ae -> OS} (F:Fun K x qual st f fd) (Sc:aS N ps (ao st))
  (hbody:∀ (cdv:Value) (A:Around) (outer:List Env) (s:Shared) (H:Hp) (E:XK),gj k (A.deeper (envOfC qual (ao st) s.heap.objs.size f cdv)) ->
    ∃ t,PSs (nL (CXE P w) P w K mg base N qual (ao st) f cdv A outer s H E) (aR st) t /\ JS K cls (fun C a _ H=>∀ H',aF H H' -> E C a H') t m):b0 P w K mg base (CXE P w) (k + 1) f fd ps (spP K cls (fnP ps.length N.length m)):=by
 refine okX F Sc (fun vs H Q E h=>?_) fun cdv A outer s H vs Q E hr h=>?_
 . obtain ⟨S,xs,_,r,q⟩:=h
   unfold fnP at q
   split at q
   . rw [r.length]; assumption
   . exact q.elim
 . obtain ⟨S,xs,sS,r,q⟩:=h
   unfold fnP at q
   split at q
   . rename_i hl
     obtain ⟨t,ht,J⟩:=hbody cdv A outer s H E hr
     refine ⟨t,ht,?_⟩
     refine J (fun _=>none) H S (kZ N.length xs) (start N vs) S H _ ⟨fun _=>[],aF.refl _,aF.refl _,sS,fun _ z=>.inl z,fun i s e=>?_,fun i j a h=>(nomatch h),fun i a h=>(nomatch h),?_⟩ ?_
     . obtain ⟨x,v,rfl,e1,rx⟩:=r.begin N i s e
       exact ⟨v,e1,rfl,rx⟩
     . unfold kZ L2.start
       simp [r.length]
     . cases e:m (kZ N.length xs) with
       | nx ρ'=>rw [e] at q; exact fun σ' S' H' I' s'=>q .non S' H' ⟨I'.s0,I'.gh,I'.sh,I'.new⟩ (by show Rep K S' _ _; unfold Rep; rfl)
       | bk ρ'=>rw [e] at q; exact q.elim
       | ct ρ'=>rw [e] at q; exact q.elim
       | bad=>rw [e] at q; exact q.elim
       | rt ρ' r=>
         rw [e] at q
         cases r with
         | al ys=>exact q.elim
         | sh y=>exact fun v σ' S' H' b' s' rr=>q v S' H' ⟨b'.s0,b'.gh,b'.sh,b'.new⟩ rr
         | fr ys=>exact fun v σ' S' H' b' s' rr=>q v S' H' ⟨b'.s0,b'.gh,b'.sh,b'.new⟩ rr
       | exc ρ' c fs=>
         rw [e] at q
         exact fun a C σ' S' H' I' s' x H2 g2=>q a C S' H2 ⟨I'.s0,I'.gh.trans g2,I'.sh.trans g2,I'.new⟩ (x.mono (aF.refl _) g2)
   . exact q.elim
def sI (K:PySem.W.Frag):Sp:=fun vs H Q _=>∃ (a:Addr) (ns:List Int),vs = [.ref a] /\ SqL K H a (ns.map V.int) /\ ns.length <= 63 /\ ∀ H',Q (.bl true) H'
theorem AL {f:List PV -> OE} (h:∀ ns:List Int,ns.length <= 63 -> f [.lst (ns.map .int)] = .ok (.sh (.bl true))) (vs:List V) (H:Hp) (Q:VK) (E:XK) (q:sI K vs H Q E):spP K cls f vs H Q E:=by
 obtain ⟨a,ns,rfl,hS,hl,q⟩:=q
 refine ⟨H,[.lst (ns.map .int)],aF.refl _,.cons (by unfold Rep; exact ⟨a,_,rfl,hS,bU.ints⟩) .nil,?_⟩
 rw [h ns hl]
 intro v S' H' w r
 have:v = .bl true:=by have r':Rep K S' (.bl true) v:=r; unfold Rep at r'; exact r'
 subst this
 exact q H'
end
end L2.P
namespace L2.P
open PySem PySem.Spec PyProof.Rows L2 L2.E
section
variable {K:PySem.W.Frag} {cls:String -> Option Addr} {W:XW} {Av G S₀ S S' H H' B B':Hp} {ρ:ae} {σ:St} {Q:VK}
theorem AQ {i:Nat} {te:TE} {me:ae -> OE} {f:Int -> Int -> Int} (he:JE K cls W te me):JS K cls W (AD i te (ipI f)) (o9 i (gI (fun _ _=>true) fun i j=>.int (f i j)) me):=by
 intro Av G S₀ ρ σ S H D I p
 unfold o9 at p
 split at p
 . rename_i x e
   obtain ⟨v,e1,r⟩:=I.good i _ e
   refine ⟨v,e1,he.goS I p fun rr u S1 H1 I1 w1 r1 p1=>?_⟩
   have ra:=r1.rd I1.sh
   cases x with
   | int a=>
     cases eb:rr.pv with
     | int b=>
       rw [eb] at p1 ra
       have r':Rep K S (.int a) v:=r
       unfold Rep at r'
       subst r'
       exact ⟨a,b,rfl,du ra,p1 _ S1 H1 (I1.tQ (by unfold Rep; rfl)) (aF.refl _)⟩
     | _=>rw [eb] at p1; exact p1.elim
   | _=>cases eb:rr.pv <;> (rw [eb] at p1; exact p1.elim)
 . exact p.elim
theorem fQ {i:Nat} {te:TE} {me:ae -> OE} (he:JE K cls W te me):JS K cls W (AD i te (ipI fun i j=>i + j)) (o9 i gV me):=AQ he
theorem rO {x:PV} {v:V} (h:RdV K S H x v):decide (v = .non) = cj x:=by
 cases x with
 | non=>rw [gX h]; rfl
 | bl b=>rw [lR h]; rfl
 | int b=>rw [du h]; rfl
 | str b=>rw [jk h]; rfl
 | lst xs=>obtain ⟨p,vs,rfl,_⟩:=hV h; rfl
 | tup xs=>obtain ⟨p,vs,rfl,_⟩:=lL h; rfl
theorem qr:JR K (fun x y H Q=>y = .non /\ Q (.bl (decide (x = .non))) H) uQ:=by
 intro S H x y v u rr Q I hx hy e k
 unfold uQ at e
 split at e
 . cases e
   exact ⟨gX hy,k _ S H (bt.refl I) (by rw [rO hx]; exact ke)⟩
 . cases e
theorem sP:JR K (fun x y H Q=>y = .non /\ Q (.bl (!decide (x = .non))) H) rM:=by
 intro S H x y v u rr Q I hx hy e k
 unfold rM at e
 split at e
 . cases e
   exact ⟨gX hy,k _ S H (bt.refl I) (by rw [rO hx]; exact ke)⟩
 . cases e
end
end L2.P
namespace L2
open PySem PySem.Spec PyProof.Rows
structure QE (X:Cx) (e:Expr) (t:TE):Prop where
 out:PE X e t
structure QA (X:Cx) (es:List Expr) (t:TA):Prop where
 out:PA X es t
structure QS (X:Cx) (st:Stmt) (t:TS):Prop where
 out:PS X st t
structure QSs (X:Cx) (st:List Stmt) (t:TS):Prop where
 out:PSs X st t
structure QT (X:Cx) (e:Expr) (t:TT):Prop where
 out:PT X e t
structure QW (X:Cx) (e:Expr) (t:TT):Prop where
 out:PW X e t
structure QI (X:Cx) (tg e:Expr) (t:TI):Prop where
 out:PI X tg e t
structure QG (X:Cx) (e:Expr) (t:TG):Prop where
 out:PG X e t
structure QO (X:Cx) (e:Option Expr) (t:TO):Prop where
 out:PO X e t
end L2
namespace L2.E
open PySem PySem.Spec PyProof.Rows L2
theorem Ah {X:L2.Cx} {b:Bool} {j:Nat} {pos:PySem.Pos}:L2.QE X (PySem.Expr.Constant (PySem.Const.bool b) j pos) (L2.tC (L2.V.bl b)):=⟨L2.E0 ⟩
theorem ax {X:L2.Cx} {i:Int} {j:Nat} {pos:PySem.Pos}:L2.QE X (PySem.Expr.Constant (PySem.Const.int i) j pos) (L2.tC (L2.V.int i)):=⟨L2.Dw ⟩
theorem aN {X:L2.Cx} {x:PySem.Str} {j:Nat} {pos:PySem.Pos}:L2.QE X (PySem.Expr.Constant (PySem.Const.str x) j pos) (L2.tC (L2.V.str x)):=⟨L2.EC ⟩
theorem da {X:L2.Cx} {j:Nat} {pos:PySem.Pos}:L2.QE X (PySem.Expr.Constant PySem.Const.none j pos) (L2.tC L2.V.non):=⟨L2.Ep ⟩
theorem qv {X:L2.Cx} (h1:Nat) {x:PySem.Str} {pos:PySem.Pos} (h4:X.N[h1]? = Option.some x:=by first | rfl | decide | exact .inl rfl | exact .inr rfl | exact .inr (.inl rfl) | exact .inr (.inr rfl) | assumption | (intro _; rfl) | with_unfolding_all rfl) (h5:L2.Vis X.env.scope x:=by first | rfl | decide | exact .inl rfl | exact .inr rfl | exact .inr (.inl rfl) | exact .inr (.inr rfl) | assumption | (intro _; rfl) | with_unfolding_all rfl) (h6:(x == PySem.Str.ofString "__debug__") = Bool.false:=by first | rfl | decide | exact .inl rfl | exact .inr rfl | exact .inr (.inl rfl) | exact .inr (.inr rfl) | assumption | (intro _; rfl) | with_unfolding_all rfl) (h7:(x == PySem.Str.ofString "__classdict__") = Bool.false:=by first | rfl | decide | exact .inl rfl | exact .inr rfl | exact .inr (.inl rfl) | exact .inr (.inr rfl) | assumption | (intro _; rfl) | with_unfolding_all rfl):L2.QE X (PySem.Expr.Name x pos) (L2.qB h1):=⟨L2.pv h1 h4 h5 h6 h7⟩
theorem aH {X:L2.Cx} {x:PySem.Str} {v:L2.V} {u:PySem.Value} {pos:PySem.Pos} (h5:L2.Gl X x) (h6:X.mg x = Option.some u) (h7:L2.RelV v u) (h8:(x == PySem.Str.ofString "__debug__") = Bool.false:=by first | rfl | decide | exact .inl rfl | exact .inr rfl | exact .inr (.inl rfl) | exact .inr (.inr rfl) | assumption | (intro _; rfl) | with_unfolding_all rfl):L2.QE X (PySem.Expr.Name x pos) (L2.tC v):=⟨L2.Bj h5 h6 h7 h8⟩
theorem pD {X:L2.Cx} {x:PySem.Str} {v:L2.V} {u:PySem.Value} {pos:PySem.Pos} (h5:L2.Gl X x) (h6:X.mg x = Option.none) (h7:PySem.bootBuiltins x = Option.some u) (h8:L2.RelV v u) (h9:x ≠ PySem.Str.ofString "__name__":=by first | rfl | decide | exact .inl rfl | exact .inr rfl | exact .inr (.inl rfl) | exact .inr (.inr rfl) | assumption | (intro _; rfl) | with_unfolding_all rfl) (h10:(x == PySem.Str.ofString "__debug__") = Bool.false:=by first | rfl | decide | exact .inl rfl | exact .inr rfl | exact .inr (.inl rfl) | exact .inr (.inr rfl) | assumption | (intro _; rfl) | with_unfolding_all rfl):L2.QE X (PySem.Expr.Name x pos) (L2.tC v):=⟨L2.BJ h5 h6 h7 h8 h9 h10⟩
theorem EA {X:L2.Cx} {a:PySem.Expr} {ta:L2.TE} {pos:PySem.Pos} (h4:L2.QE X a ta):L2.QE X (PySem.Expr.UnaryOp PySem.UnaryOp.Not a pos) (L2.y7 ta):=⟨L2.DF h4.out⟩
theorem rp {X:L2.Cx} {a:PySem.Expr} {ta:L2.TE} {pos:PySem.Pos} {op:PySem.UnaryOp} {r:L2.V -> L2.Hp -> L2.VK -> Prop} (h6:L2.UnR X (PySem.unaryOp op) r) (h7:L2.QE X a ta):L2.QE X (PySem.Expr.UnaryOp op a pos) (L2.tUn r ta):=⟨L2.Fs h6 h7.out⟩
theorem bj {X:L2.Cx} {a:PySem.Expr} {b:PySem.Expr} {ta:L2.TE} {tb:L2.TE} {pos:PySem.Pos} {op:PySem.Operator} {r:L2.R2} (h8:L2.OpR X (PySem.binaryOp op) r) (h9:L2.QE X a ta) (h10:L2.QE X b tb):L2.QE X (PySem.Expr.BinOp a op b pos) (L2.tOp r ta tb):=⟨L2.FJ h8 h9.out h10.out⟩
theorem mj {X:L2.Cx} {a:PySem.Expr} {b:PySem.Expr} {ta:L2.TE} {tb:L2.TE} {pos:PySem.Pos} {op:PySem.CmpOp} {r:L2.R2} (h8:L2.OpR X (PySem.compareOp op) r) (h9:L2.QE X a ta) (h10:L2.QE X b tb) (h11:PySem.behindInMarks op b = Bool.false):L2.QE X (PySem.Expr.Compare a [op] [b] pos) (L2.tOp r ta tb):=⟨L2.A2 h8 h9.out h10.out h11⟩
theorem Ak {X:L2.Cx} {a:PySem.Expr} {b:PySem.Expr} {c:PySem.Expr} {ta:L2.TE} {tb:L2.TE} {tc:L2.TE} {pos:PySem.Pos} {op:PySem.CmpOp} {op':PySem.CmpOp} {r:L2.R2} {r':L2.R2} (h12:L2.OpR X (PySem.compareOp op) r) (h13:L2.OpR X (PySem.compareOp op') r') (h14:L2.QE X a ta) (h15:L2.QE X b tb) (h16:L2.QE X c tc) (h17:PySem.lastMarks [op,op'] [b,c] = Bool.false:=by first | rfl | decide | exact .inl rfl | exact .inr rfl | exact .inr (.inl rfl) | exact .inr (.inr rfl) | assumption | (intro _; rfl) | with_unfolding_all rfl):L2.QE X (PySem.Expr.Compare a [op,op'] [b,c] pos) (L2.qg r r' ta tb tc):=⟨L2.zi h12 h13 h14.out h15.out h16.out h17⟩
theorem vJ {X:L2.Cx} {a:PySem.Expr} {pos:PySem.Pos} {op:PySem.BoolOp} {t:L2.TE} (h5:L2.QE X a t):L2.QE X (PySem.Expr.BoolOp op [a] pos) t:=⟨L2.DK h5.out⟩
theorem vL {X:L2.Cx} {a:PySem.Expr} {b:PySem.Expr} {ta:L2.TE} {tb:L2.TE} {pos:PySem.Pos} {rest:List PySem.Expr} (h7:L2.QE X a ta) (h8:L2.QE X (PySem.Expr.BoolOp PySem.BoolOp.And (b ::rest) pos) tb):L2.QE X (PySem.Expr.BoolOp PySem.BoolOp.And (a ::b ::rest) pos) (L2.yk ta tb):=⟨L2.Dr h7.out h8.out⟩
theorem dM {X:L2.Cx} {a:PySem.Expr} {b:PySem.Expr} {ta:L2.TE} {tb:L2.TE} {pos:PySem.Pos} {tA:L2.TT} {c:PySem.Expr} (h8:L2.QT X c tA) (h9:L2.QE X a ta) (h10:L2.QE X b tb):L2.QE X (PySem.Expr.IfExp c a b pos) (L2.tIf tA ta tb):=⟨L2.zZ h8.out h9.out h10.out⟩
theorem bE {X:L2.Cx} {es:List PySem.Expr} {t:L2.TA} {pos:PySem.Pos} (h4:L2.QA X es t):L2.QE X (PySem.Expr.List es pos) (L2.Dy t):=⟨L2.De h4.out⟩
theorem dq {X:L2.Cx} {es:List PySem.Expr} {t:L2.TA} {pos:PySem.Pos} {x1:Nat} (h5:L2.QA X es t):L2.QE X (PySem.Expr.Tuple es x1 pos) (L2.Ez t):=⟨L2.C4 h5.out⟩
theorem i8 {X:L2.Cx} {e:PySem.Expr} {te:L2.TE} {lo:Option PySem.Expr} {hi:Option PySem.Expr} {tl:L2.TO} {th:L2.TO} {pos:PySem.Pos} {p2:PySem.Pos} {r:L2.V -> Option Int -> Option Int -> L2.Hp -> L2.VK -> Prop} (h10:L2.SlR X r) (h11:L2.QE X e te) (h12:L2.QO X lo tl) (h13:L2.QO X hi th):L2.QE X (PySem.Expr.Subscript e (PySem.Expr.Slice lo hi Option.none p2) pos) (L2.tSl r te tl th):=⟨L2.Ag h10 h11.out h12.out h13.out⟩
theorem dB {X:L2.Cx} {a:PySem.Expr} {b:PySem.Expr} {ta:L2.TE} {tb:L2.TE} {pos:PySem.Pos} {r:L2.R2} (h7:L2.IxR X r) (h8:L2.QE X a ta) (h9:L2.QE X b tb) (h10:L2.wR b):L2.QE X (PySem.Expr.Subscript a b pos) (L2.tOp r ta tb):=⟨L2.Fi h7 h8.out h9.out h10⟩
theorem pA {X:L2.Cx} {scope:PySem.Scope} {cl:List (PySem.Str × PySem.Addr)} {M:List PySem.Str} {ι:List Nat} {x:PySem.Str} {elt:PySem.Expr} {iter:PySem.Expr} {px:PySem.Pos} {pos:PySem.Pos} {wi:L2.TI} {te:L2.TE} (h12:L2.E.ni X scope cl M ι x) (h13:X.calm = Bool.true) (h14:L2.QI X (PySem.Expr.Name x px) iter wi) (h15:∀ (C:PySem.Addr) (s₀:PySem.Shared) (H₀:L2.Hp) (ex:List PySem.Addr),L2.QE (L2.E.blk X scope cl (M ++ [x]) C s₀ H₀ ex) elt te) (h16:∀ (v:PySem.Value),PySem.foldedSetIterable iter X.env v = Pure.pure v:=by first | rfl | decide | exact .inl rfl | exact .inr rfl | exact .inr (.inl rfl) | exact .inr (.inr rfl) | assumption | (intro _; rfl) | with_unfolding_all rfl):L2.QE X (PySem.Expr.ListComp elt [PySem.Comprehension.mk (PySem.Expr.Name x px) iter [] 0] scope pos) (L2.E.uB wi ι te):=⟨L2.E.Bc h12 h13 h14.out (fun z0 z1 z2 z3=>(h15 z0 z1 z2 z3).out) h16⟩
theorem aD {X:L2.Cx} {k:Nat} {f:PySem.Addr} {fd:PySem.FuncData} {ps:List PySem.Str} {sp:L2.Sp} {dvs:List L2.V} {ds:List PySem.Value} {W:L2.E.XW} {x:PySem.Str} {p:PySem.Pos} {pos:PySem.Pos} {e:PySem.Expr} {es:List PySem.Expr} {t:L2.TA} (h15:L2.b0 X.prog X.w X.K X.mg X.base (L2.E.CXE X.prog X.w) k f fd ps sp) (h16:L2.gj k X.A) (h17:L2.Gl X x) (h18:X.mg x = Option.some (PySem.Value.ref f)) (h19:PySem.W.keepIn X.K (PySem.Value.ref f) = Bool.true) (h20:L2.Binds X.K fd ps ds) (h21:L2.Vals dvs ds) (h22:L2.E.Thr X W) (h23:L2.QA X (e ::es) t) (h24:(x == PySem.Str.ofString "__debug__") = Bool.false:=by first | rfl | decide | exact .inl rfl | exact .inr rfl | exact .inr (.inl rfl) | exact .inr (.inr rfl) | assumption | (intro _; rfl) | with_unfolding_all rfl) (h25:PySem.starEach (e ::es) X.env = (Bool.false,PySem.eval e X.env) ::PySem.starEach es X.env:=by first | rfl | decide | exact .inl rfl | exact .inr rfl | exact .inr (.inl rfl) | exact .inr (.inr rfl) | assumption | (intro _; rfl) | with_unfolding_all rfl) (h26:(List.any (PySem.backTo pos (PySem.starEach es X.env)) fun x=>x.fst) = Bool.false:=by first | rfl | decide | exact .inl rfl | exact .inr rfl | exact .inr (.inl rfl) | exact .inr (.inr rfl) | assumption | (intro _; rfl) | with_unfolding_all rfl):L2.QE X (PySem.Expr.Call (PySem.Expr.Name x p) (e ::es) [] pos) (L2.E.qf sp dvs W t):=⟨L2.E.yN h15 h16 h17 h18 h19 h20 h21 h22 h23.out h24 h25 h26⟩
theorem cG {X:L2.Cx} {x:PySem.Str} {p:PySem.Pos} {pos:PySem.Pos} {e:PySem.Expr} {es:List PySem.Expr} {t:L2.TA} {id:String} {r:List L2.V -> L2.Hp -> L2.VK -> Prop} (h9:L2.qQ X (PySem.Value.builtin id) r) (h10:L2.Gl X x) (h11:X.mg x = Option.none) (h12:PySem.bootBuiltins x = Option.some (PySem.Value.builtin id)) (h13:L2.QA X (e ::es) t) (h14:x ≠ PySem.Str.ofString "__name__":=by first | rfl | decide | exact .inl rfl | exact .inr rfl | exact .inr (.inl rfl) | exact .inr (.inr rfl) | assumption | (intro _; rfl) | with_unfolding_all rfl) (h15:(x == PySem.Str.ofString "__debug__") = Bool.false:=by first | rfl | decide | exact .inl rfl | exact .inr rfl | exact .inr (.inl rfl) | exact .inr (.inr rfl) | assumption | (intro _; rfl) | with_unfolding_all rfl) (h16:PySem.starEach (e ::es) X.env = (Bool.false,PySem.eval e X.env) ::PySem.starEach es X.env:=by first | rfl | decide | exact .inl rfl | exact .inr rfl | exact .inr (.inl rfl) | exact .inr (.inr rfl) | assumption | (intro _; rfl) | with_unfolding_all rfl) (h17:(List.any (PySem.backTo pos (PySem.starEach es X.env)) fun x=>x.fst) = Bool.false:=by first | rfl | decide | exact .inl rfl | exact .inr rfl | exact .inr (.inl rfl) | exact .inr (.inr rfl) | assumption | (intro _; rfl) | with_unfolding_all rfl):L2.QE X (PySem.Expr.Call (PySem.Expr.Name x p) (e ::es) [] pos) (L2.tCB r t):=⟨L2.zY h9 h10 h11 h12 h13.out h14 h15 h16 h17⟩
theorem qV {X:L2.Cx} {o:PySem.Expr} {e:PySem.Expr} {es:List PySem.Expr} {to:L2.TE} {t:L2.TA} {name:PySem.Str} {apos:PySem.Pos} {cpos:PySem.Pos} {T:String} {id:String} {r:L2.V -> List L2.V -> L2.Hp -> L2.VK -> Prop} (h12:PySem.PlainAttrs T) (h13:PySem.Slot T name id) (h14:PySem.typeOf (PySem.Value.builtin id) = Pure.pure (PySem.Value.type "method_descriptor")) (h15:L2.MtR X id r) (h16:L2.QE X o to) (h17:L2.QA X (e ::es) t) (h18:PySem.attributeBase o name X.env (PySem.eval o X.env) = PySem.eval o X.env:=by first | rfl | decide | exact .inl rfl | exact .inr rfl | exact .inr (.inl rfl) | exact .inr (.inr rfl) | assumption | (intro _; rfl) | with_unfolding_all rfl) (h19:(((List.all (PySem.backTo cpos (PySem.starEach (e ::es) X.env)) fun x=>!x.fst) && List.all (PySem.backToKw cpos (PySem.keywordEach [] X.env)) fun x=>Option.isSome x.fst) && Decidable.decide ((List.length (e ::es) + List.length ([]:List Keyword) + if List.isEmpty ([]:List Keyword) = Bool.true then 0 else 1) < 30)) = Bool.true:=by first | rfl | decide | exact .inl rfl | exact .inr rfl | exact .inr (.inl rfl) | exact .inr (.inr rfl) | assumption | (intro _; rfl) | with_unfolding_all rfl) (h20:(apos.endLine == cpos.line) = Bool.true:=by first | rfl | decide | exact .inl rfl | exact .inr rfl | exact .inr (.inl rfl) | exact .inr (.inr rfl) | assumption | (intro _; rfl) | with_unfolding_all rfl) (h21:PySem.starEach (e ::es) X.env = (Bool.false,PySem.eval e X.env) ::PySem.starEach es X.env:=by first | rfl | decide | exact .inl rfl | exact .inr rfl | exact .inr (.inl rfl) | exact .inr (.inr rfl) | assumption | (intro _; rfl) | with_unfolding_all rfl) (h22:(List.any (PySem.backTo cpos (PySem.starEach es X.env)) fun x=>x.fst) = Bool.false:=by first | rfl | decide | exact .inl rfl | exact .inr rfl | exact .inr (.inl rfl) | exact .inr (.inr rfl) | assumption | (intro _; rfl) | with_unfolding_all rfl):L2.QE X (PySem.Expr.Call (PySem.Expr.Attribute o name apos) (e ::es) [] cpos) (L2.tBM X.K T r to t):=⟨L2.Fl h12 h13 h14 h15 h16.out h17.out h18 h19 h20 h21 h22⟩
theorem yU {X:L2.Cx} {o:PySem.Expr} {to:L2.TE} {name:PySem.Str} {apos:PySem.Pos} {cpos:PySem.Pos} {T:String} {id:String} {r:L2.V -> List L2.V -> L2.Hp -> L2.VK -> Prop} (h9:PySem.PlainAttrs T) (h10:PySem.Slot T name id) (h11:PySem.typeOf (PySem.Value.builtin id) = Pure.pure (PySem.Value.type "method_descriptor")) (h12:L2.MtR X id r) (h13:L2.QE X o to) (h14:PySem.attributeBase o name X.env (PySem.eval o X.env) = PySem.eval o X.env:=by first | rfl | decide | exact .inl rfl | exact .inr rfl | exact .inr (.inl rfl) | exact .inr (.inr rfl) | assumption | (intro _; rfl) | with_unfolding_all rfl) (h15:(apos.endLine == cpos.line) = Bool.true:=by first | rfl | decide | exact .inl rfl | exact .inr rfl | exact .inr (.inl rfl) | exact .inr (.inr rfl) | assumption | (intro _; rfl) | with_unfolding_all rfl):L2.QE X (PySem.Expr.Call (PySem.Expr.Attribute o name apos) [] [] cpos) (L2.DJ X.K T r to):=⟨L2.D0 h9 h10 h11 h12 h13.out h14 h15⟩
theorem lY {X:L2.Cx}:L2.QO X Option.none L2.tH:=⟨L2.Bt ⟩
theorem jB {X:L2.Cx} {e:PySem.Expr} {te:L2.TE} (h3:L2.QE X e te):L2.QO X (Option.some e) (L2.zu te):=⟨L2.Bf h3.out⟩
theorem ak {X:L2.Cx}:L2.QA X [] L2.kU:=⟨L2.CM ⟩
theorem aa {X:L2.Cx} {e:PySem.Expr} {es:List PySem.Expr} {te:L2.TE} {t:L2.TA} (h5:L2.QE X e te) (h6:L2.QA X es t) (h7:L2.E.isStar e = Bool.false:=by first | rfl | decide | exact .inl rfl | exact .inr rfl | exact .inr (.inl rfl) | exact .inr (.inr rfl) | assumption | (intro _; rfl) | with_unfolding_all rfl):L2.QA X (e ::es) (L2.jm te t):=⟨L2.E.yX h5.out h6.out h7⟩
theorem aA {X:L2.Cx} {a:PySem.Expr} {b:PySem.Expr} {ta:L2.TE} {tb:L2.TE} {pos:PySem.Pos} {op:PySem.CmpOp} {r:L2.R2} (h8:L2.OpR X (PySem.compareOp op) r) (h9:L2.QE X a ta) (h10:L2.QE X b tb) (h11:PySem.behindInMarks op b = Bool.false):L2.QT X (PySem.Expr.Compare a [op] [b] pos) (L2.tZ (L2.tOp r ta tb)):=⟨L2.Bx h8 h9.out h10.out h11⟩
theorem ji {X:L2.Cx} {a:PySem.Expr} {b:PySem.Expr} {c:PySem.Expr} {ta:L2.TE} {tb:L2.TE} {tc:L2.TE} {pos:PySem.Pos} {op:PySem.CmpOp} {op':PySem.CmpOp} {r:L2.R2} {r':L2.R2} (h12:L2.OpR X (PySem.compareOp op) r) (h13:L2.OpR X (PySem.compareOp op') r') (h14:L2.QE X a ta) (h15:L2.QE X b tb) (h16:L2.QE X c tc) (h17:PySem.lastMarks [op,op'] [b,c] = Bool.false:=by first | rfl | decide | exact .inl rfl | exact .inr rfl | exact .inr (.inl rfl) | exact .inr (.inr rfl) | assumption | (intro _; rfl) | with_unfolding_all rfl):L2.QT X (PySem.Expr.Compare a [op,op'] [b,c] pos) (L2.tZ (L2.qg r r' ta tb tc)):=⟨L2.x8 h12 h13 h14.out h15.out h16.out h17⟩
theorem vi {X:L2.Cx} {a:PySem.Expr} {pos:PySem.Pos} {tA:L2.TT} (h4:L2.QT X a tA):L2.QT X (PySem.Expr.UnaryOp PySem.UnaryOp.Not a pos) (L2.BD tA):=⟨L2.DX h4.out⟩
theorem dW {X:L2.Cx} {a:PySem.Expr} {ta:L2.TE} (h3:L2.QE X a ta) (h4:∀ (whole:PySem.Sem PySem.Value),
 PySem.isTrue a X.env whole = do
  let v <- whole
  PySem.standAt (PySem.Expr.pos a)
  PySem.holding [v] (PySem.truthy v)):L2.QT X a fun σ H Q=>ta σ H fun x H'=>∃ k,L2.vG X.K x H' k /\ Q k H':=⟨L2.yR h3.out h4⟩
theorem mO {X:L2.Cx} {e:PySem.Expr} {t:L2.TT} (h3:L2.QW X e t):L2.QT X e t:=⟨L2.PW.pt h3.out⟩
theorem kb {X:L2.Cx} {a:PySem.Expr} {pos:PySem.Pos} {tA:L2.TT} (h4:L2.QT X a tA):L2.QW X (PySem.Expr.BoolOp PySem.BoolOp.And [a] pos) tA:=⟨L2.Bo h4.out⟩
theorem u0 {X:L2.Cx} {a:PySem.Expr} {pos:PySem.Pos} {tA:L2.TT} (h4:L2.QT X a tA):L2.QW X (PySem.Expr.BoolOp PySem.BoolOp.Or [a] pos) tA:=⟨L2.Eu h4.out⟩
theorem lQ {X:L2.Cx} {a:PySem.Expr} {b:PySem.Expr} {pos:PySem.Pos} {tA:L2.TT} {tB':L2.TT} {rest:List PySem.Expr} (h7:L2.QT X a tA) (h8:L2.QW X (PySem.Expr.BoolOp PySem.BoolOp.And (b ::rest) pos) tB'):L2.QW X (PySem.Expr.BoolOp PySem.BoolOp.And (a ::b ::rest) pos) (L2.Ej tA tB'):=⟨L2.DS h7.out h8.out⟩
theorem zJ {X:L2.Cx} {a:PySem.Expr} {b:PySem.Expr} {pos:PySem.Pos} {tA:L2.TT} {tB':L2.TT} {rest:List PySem.Expr} (h7:L2.QT X a tA) (h8:L2.QW X (PySem.Expr.BoolOp PySem.BoolOp.Or (b ::rest) pos) tB'):L2.QW X (PySem.Expr.BoolOp PySem.BoolOp.Or (a ::b ::rest) pos) (L2.tOr tA tB'):=⟨L2.E1 h7.out h8.out⟩
theorem rE {X:L2.Cx} {tg:PySem.Expr} {a:PySem.Expr} {ta:L2.TA} {p:PySem.Pos} {pos:PySem.Pos} (h6:L2.Gl X (PySem.Str.ofString "range")) (h7:X.mg (PySem.Str.ofString "range") = Option.none) (h8:L2.QA X [a] ta) (h9:PySem.starEach [a] X.env = [(Bool.false,PySem.eval a X.env)]:=by first | rfl | decide | exact .inl rfl | exact .inr rfl | exact .inr (.inl rfl) | exact .inr (.inr rfl) | assumption | (intro _; rfl) | with_unfolding_all rfl):L2.QI X tg (PySem.Expr.Call (PySem.Expr.Name (PySem.Str.ofString "range") p) [a] [] pos) (L2.wm ta):=⟨L2.xk h6 h7 h8.out h9⟩
theorem pH {X:L2.Cx} {tg:PySem.Expr} {l:PySem.Expr} {tl:L2.TE} (h4:L2.QE X l tl):L2.QI X tg l (L2.tP X.K tl):=⟨L2.BA h4.out⟩
theorem El {X:L2.Cx} {tg:PySem.Expr} {l:PySem.Expr} {tl:L2.TE} (h4:L2.QE X l tl):L2.QI X tg l (L2.Dg X.K tl):=⟨L2.Dl h4.out⟩
theorem bb {X:L2.Cx} {pos:PySem.Pos} {i:Nat} {x:PySem.Str} {e:PySem.Expr} {te:L2.TE} {pos':PySem.Pos} (h7:List.Nodup X.N) (h8:X.N[i]? = Option.some x) (h9:L2.Loc X.env.scope x) (h10:L2.QE X e te) (h11:PySem.swapsWith e (Option.some (PySem.Expr.Name x pos')) pos.line X.env = Pure.pure Bool.false:=by first | rfl | decide | exact .inl rfl | exact .inr rfl | exact .inr (.inl rfl) | exact .inr (.inr rfl) | assumption | (intro _; rfl) | with_unfolding_all rfl) (h12:X.fn x = Bool.true \/ List.lookup x X.env.scope.names = Option.some PySem.NameKind.local:=by first | rfl | decide | exact .inl rfl | exact .inr rfl | exact .inr (.inl rfl) | exact .inr (.inr rfl) | assumption | (intro _; rfl) | with_unfolding_all rfl):L2.QS X (PySem.Stmt.Assign [PySem.Expr.Name x pos'] e pos) (L2.uC te (L2.kO i)):=⟨L2.Dk h7 h8 h9 h10.out h11 h12⟩
theorem Dv {X:L2.Cx} {pos:PySem.Pos} {tg:PySem.Expr} {e:PySem.Expr} {te:L2.TE} {g:L2.TG} (h6:L2.QE X e te) (h7:L2.QG X tg g) (h8:PySem.swapsWithSole [tg] e pos.line X.env = Pure.pure Bool.false:=by first | rfl | decide | exact .inl rfl | exact .inr rfl | exact .inr (.inl rfl) | exact .inr (.inr rfl) | assumption | (intro _; rfl) | with_unfolding_all rfl) (h9:PySem.swappedStores [tg] e X.env = Pure.pure Option.none:=by first | rfl | decide | exact .inl rfl | exact .inr rfl | exact .inr (.inl rfl) | exact .inr (.inr rfl) | assumption | (intro _; rfl) | with_unfolding_all rfl) (h10:List.map (fun x=>x.snd) (PySem.assignEach [tg] X.env) = [PySem.assign tg X.env]:=by first | rfl | decide | exact .inl rfl | exact .inr rfl | exact .inr (.inl rfl) | exact .inr (.inr rfl) | assumption | (intro _; rfl) | with_unfolding_all rfl):L2.QS X (PySem.Stmt.Assign [tg] e pos) (L2.uC te g):=⟨L2.CQ h6.out h7.out h8 h9 h10⟩
theorem lu {X:L2.Cx} {pos:PySem.Pos} {i:Nat} {x:PySem.Str} {e:PySem.Expr} {te:L2.TE} {op:PySem.Operator} {ti:L2.TIp} {pos':PySem.Pos} (h9:List.Nodup X.N) (h10:X.N[i]? = Option.some x) (h11:L2.Loc X.env.scope x) (h12:L2.QE X e te) (h13:L2.PIp X op ti) (h14:X.fn x = Bool.true \/ List.lookup x X.env.scope.names = Option.some PySem.NameKind.local:=by first | rfl | decide | exact .inl rfl | exact .inr rfl | exact .inr (.inl rfl) | exact .inr (.inr rfl) | assumption | (intro _; rfl) | with_unfolding_all rfl):L2.QS X (PySem.Stmt.AugAssign (PySem.Expr.Name x pos') op e pos) (L2.AD i te ti):=⟨L2.D3 h9 h10 h11 h12.out h13 h14⟩
theorem bf {X:L2.Cx} {t:L2.TS} {u:L2.TS} {pos:PySem.Pos} {c:PySem.Expr} {a:List PySem.Stmt} {b:List PySem.Stmt} {tc:L2.TT} (h8:L2.QT X c tc) (h9:L2.QSs X a t) (h10:L2.QSs X b u):L2.QS X (PySem.Stmt.If c a b pos) (L2.A4 tc t u):=⟨L2.FH h8.out h9.out h10.out⟩
theorem aB {X:L2.Cx} {e:PySem.Expr} {te:L2.TE} {pos:PySem.Pos} (h4:L2.QE X e te):L2.QS X (PySem.Stmt.Return (Option.some e) pos) (L2.Bp te):=⟨L2.CZ h4.out⟩
theorem kA {X:L2.Cx} {e:PySem.Expr} {te:L2.TE} {pos:PySem.Pos} (h4:L2.QE X e te) (h5:PySem.swapsWith e Option.none pos.line X.env = Pure.pure Bool.false:=by first | rfl | decide | exact .inl rfl | exact .inr rfl | exact .inr (.inl rfl) | exact .inr (.inr rfl) | assumption | (intro _; rfl) | with_unfolding_all rfl):L2.QS X (PySem.Stmt.Expr e pos) (L2.rL te):=⟨L2.AM h4.out h5⟩
theorem gu {X:L2.Cx} {pos:PySem.Pos} {c:PySem.Expr} {body:List PySem.Stmt} {tc:L2.TT} {tb:L2.TS} (h6:PySem.PassesOwn (PySem.model X.prog X.w) X.A X.env X.xe) (h7:L2.QT X c tc) (h8:L2.QSs X body tb):L2.QS X (PySem.Stmt.While c body [] pos) (L2.vV tc tb):=⟨L2.yP h6 h7.out h8.out⟩
theorem va {X:L2.Cx} {tg:PySem.Expr} {iter:PySem.Expr} {body:List PySem.Stmt} {wi:L2.TI} {g:L2.TG} {tb:L2.TS} {pos:PySem.Pos} (h8:PySem.PassesOwn (PySem.model X.prog X.w) X.A X.env X.xe) (h9:X.calm = Bool.true) (h10:L2.QI X tg iter wi) (h11:L2.QG X tg g) (h12:L2.QSs X body tb) (h13:∀ (x:PySem.Value),PySem.foldedSetIterable iter X.env x = Pure.pure x:=by first | rfl | decide | exact .inl rfl | exact .inr rfl | exact .inr (.inl rfl) | exact .inr (.inr rfl) | assumption | (intro _; rfl) | with_unfolding_all rfl):L2.QS X (PySem.Stmt.For tg iter body [] pos) (L2.y8 wi g tb):=⟨L2.CT h8 h9 h10.out h11.out h12.out h13⟩
theorem zK {X:L2.Cx} {x:PySem.Str} {np:PySem.Pos} {cpos:PySem.Pos} {pos:PySem.Pos} {e₀:PySem.Expr} {rest:List PySem.Expr} {t:L2.TA} {W:L2.E.XW} {C:PySem.Addr} {B:String} {newId:String} {initId:String} {bm:List PySem.Value} (h14:L2.E.Thr X W) (h15:X.A.handled = Option.none) (h16:PySem.ExcBaseFacts B newId initId bm) (h17:L2.Gl X x) (h18:X.mg x = Option.some (PySem.Value.ref C)) (h19:PySem.W.excIn X.K C bm newId = Bool.true) (h20:L2.QA X (e₀ ::rest) t) (h21:PySem.starEach (e₀ ::rest) X.env = (Bool.false,PySem.eval e₀ X.env) ::PySem.starEach rest X.env:=by first | rfl | decide | exact .inl rfl | exact .inr rfl | exact .inr (.inl rfl) | exact .inr (.inr rfl) | assumption | (intro _; rfl) | with_unfolding_all rfl) (h22:(List.any (PySem.backTo cpos (PySem.starEach rest X.env)) fun x=>x.fst) = Bool.false:=by first | rfl | decide | exact .inl rfl | exact .inr rfl | exact .inr (.inl rfl) | exact .inr (.inr rfl) | assumption | (intro _; rfl) | with_unfolding_all rfl) (h23:(x == PySem.Str.ofString "__debug__") = Bool.false:=by first | rfl | decide | exact .inl rfl | exact .inr rfl | exact .inr (.inl rfl) | exact .inr (.inr rfl) | assumption | (intro _; rfl) | with_unfolding_all rfl):L2.QS X (PySem.Stmt.Raise (Option.some (PySem.Expr.Call (PySem.Expr.Name x np) (e₀ ::rest) [] cpos)) Option.none pos) (L2.E.vF C W t):=⟨L2.E.zk h14 h15 h16 h17 h18 h19 h20.out h21 h22 h23⟩
theorem pk {X:L2.Cx} {pos:PySem.Pos} {i:Nat} {x:PySem.Str} (h4:List.Nodup X.N) (h5:X.N[i]? = Option.some x) (h6:L2.Loc X.env.scope x) (h7:X.fn x = Bool.true \/ List.lookup x X.env.scope.names = Option.some PySem.NameKind.local:=by first | rfl | decide | exact .inl rfl | exact .inr rfl | exact .inr (.inl rfl) | exact .inr (.inr rfl) | assumption | (intro _; rfl) | with_unfolding_all rfl):L2.QG X (PySem.Expr.Name x pos) (L2.kO i):=⟨L2.BG h4 h5 h6 h7⟩
theorem aJ {X:L2.Cx}:L2.QSs X [] L2.zr:=⟨L2.AE ⟩
theorem aq {X:L2.Cx} {st:PySem.Stmt} {t:L2.TS} (h3:L2.QS X st t):L2.QSs X [st] t:=⟨L2.wZ h3.out⟩
theorem ah {X:L2.Cx} {st:PySem.Stmt} {rest:List PySem.Stmt} {t:L2.TS} {u:L2.TS} (h5:L2.QS X st t) (h6:L2.QSs X rest u):L2.QSs X (st ::rest) (L2.Eo t u):=⟨L2.Ai h5.out h6.out⟩
end L2.E
namespace L2.P
open PySem PySem.Spec PyProof.Rows L2 L2.E
theorem eO {K:PySem.W.Frag} {cls:String -> Option Addr} {P:Program} {w:World} {mg:Str -> Option Value} {base:Heap} {x qual:Str} {st:Stmt} {f:Addr} {fd:FuncData} {N ps:List Str} {k:Nat} {m:ae -> OS} (F:Fun K x qual st f fd) (Sc:aS N ps (ao st))
  (hbody:∀ (cdv:Value) (A:Around) (outer:List Env) (s:Shared) (H:Hp) (E:XK),gj k (A.deeper (envOfC qual (ao st) s.heap.objs.size f cdv)) ->
    ∃ t,QSs (nL (CXE P w) P w K mg base N qual (ao st) f cdv A outer s H E) (aR st) t /\ JS K cls (fun C a _ H=>∀ H',aF H H' -> E C a H') t m):b0 P w K mg base (CXE P w) (k + 1) f fd ps (spP K cls (fnP ps.length N.length m)):=
 GH F Sc fun cdv A outer s H E hr=>let ⟨t,h1,h2⟩:=hbody cdv A outer s H E hr; ⟨t,h1.out,h2⟩
end L2.P
namespace L2.E
open PySem PySem.Spec PyProof.Rows L2
end L2.E
namespace L2.P
open PySem PySem.Spec PyProof.Rows L2 L2.E
end L2.P
namespace L2.E
open PySem PySem.Spec PyProof.Rows L2
def cX:List Value:=[.type "ValueError",.type "Exception",.type "BaseException",.type "object"]
def dh:List Value -> Bool
 | .ref _ ::r=>dh r
 | l=>l == cX
theorem kd {c:Addr} {r:List Value}:dh (.ref c ::r) = dh r:=by simp [dh]
theorem qt:∀ {l:List Value},dh l = true -> l.contains (.type "object") = true /\ l.contains (.type "BaseException") = true /\ l.isEmpty = false
 | .ref c ::r,e=>by
   rw [kd] at e
   obtain ⟨h1,h2,h3⟩:=qt e
   exact ⟨by rw [List.contains_cons,h1,Bool.or_true],by rw [List.contains_cons,h2,Bool.or_true],rfl⟩
 | [],e=>by simp [dh,cX] at e
 | .type n ::r,e=>by
   have e':(Value.type n ::r) = cX:=by simpa [dh] using e
   rw [e']; decide
 | .none ::r,e=>by simp [dh,cX] at e
 | .bool b ::r,e=>by simp [dh,cX] at e
 | .int i t ::r,e=>by simp [dh,cX] at e
 | .str i t ::r,e=>by simp [dh,cX] at e
 | .builtin i ::r,e=>by simp [dh,cX] at e
 | .float i t ::r,e=>by simp [dh,cX] at e
 | .bytes i t ::r,e=>by simp [dh,cX] at e
 | .ellipsis ::r,e=>by simp [dh,cX] at e
theorem qx (self:Value):∀ {l:List Value},dh l = true -> refuseLoop self "__setattr__" l = pure ()
 | .ref c ::r,e=>by rw [refuseLoop_ref]; exact qx self (by rw [kd] at e; exact e)
 | [],e=>by simp [dh,cX] at e
 | .type n ::r,e=>by
   have e':(Value.type n ::r) = cX:=by simpa [dh] using e
   rw [e']; exact PySem.F.store_ValueError.passes self
 | .none ::r,e=>by simp [dh,cX] at e
 | .bool b ::r,e=>by simp [dh,cX] at e
 | .int i t ::r,e=>by simp [dh,cX] at e
 | .str i t ::r,e=>by simp [dh,cX] at e
 | .builtin i ::r,e=>by simp [dh,cX] at e
 | .float i t ::r,e=>by simp [dh,cX] at e
 | .bytes i t ::r,e=>by simp [dh,cX] at e
 | .ellipsis ::r,e=>by simp [dh,cX] at e
def pY (K:PySem.W.Frag) (C:Addr):Bool:=(PySem.W.clsIn K C).any fun cd=>dh cd.mro
structure vW (K:PySem.W.Frag) (C:Addr) (f:Str):Prop where
 hd:PySem.W.hasDictIn K C = true
 mr:pY K C = true
 sa:PySem.W.findIn K (.ref C) "__setattr__" = some (some (.builtin "object.__setattr__"))
 ga:PySem.W.findIn K (.ref C) "__getattribute__" = some (some (.builtin "BaseException.__getattribute__"))
 gt:PySem.W.findIn K (.ref C) "__getattr__" = some none
 na:PySem.W.findIn K (.ref C) f = some none
section
variable {prog:Program} {w:World} {A:Around} {E:Value -> Shared -> Prop} {s:Shared} {K:PySem.W.Frag} {x C:Addr} {name:Str} {v:Value}
open PySem.W in
theorem Hh {ox:Obj} {od:Option Obj} {tk:Tok} {R:Result -> Shared -> Prop} (X:K.In s.heap) (I:InstAt s.heap x ox C od) (c:vW K C name)
  (h:wpAny (model prog w) A.in1 (Builtin.ObjectAttr.storeInOwnDict (.ref x) (.ref C) (.str name tk) name v false)
    (fun fin s'=>match fin with | .done f=>R (.ok f) s' | .again c'=>c'.quiet = true /\ codeAny (model prog w) A c' R s') (fun e s'=>R (.error e) s') s):
  codeAny (model prog w) A (.call (.builtin "object.__setattr__") ⟨[.ref x,.str name tk,v],[]⟩) R s:=by
 have SF:=PySem.F.store_object
 obtain ⟨cd,hc,ho⟩:=any_some (show (clsIn K C).any (fun cd=>dh cd.mro) = true from c.mr)
 obtain ⟨q1,q2,q3⟩:=qt ho
 have sub:Looks (model prog w) s.heap (isInstance (.ref x) (.type "object")) true:=I.type.andThen (looks_mroIn X (by unfold mroIn; rw [hc,Option.bind_some,if_neg (by rw [q3]; decide),q1]))
 refine codeAny_call_builtin SF.slot.plain SF.entry (@check_slot (model prog w) _ _ s "object.__setattr__" "object" "__setattr__" (.ref x) [.str name tk,v] [] _ SF.kind SF.split sub (SF.args (.ref x) (.str name tk) v) ?_)
 have hm:Looks (model prog w) s.heap (mroOf (.ref C)) cd.mro:=(looks_clsIn X hc).andThen .now
 rw [osa_eq,refuse_eq]
 refine wpAny_bind (wpAny_bind (I.type.here (wpAny_bind (hm.here ?_))))
 rw [qx _ ho]
 exact wpAny_pure (wpAny_bind (I.type.here (wpAny_bind ((looks_findIn X c.na).here (wpAny_bind (Looks.here (r:=none) .now h))))))
open PySem.W in
theorem Hx {ox:Obj} {vs:Array Value} {Q:Unit -> Shared -> Prop} (X:K.In s.heap) (hx:s.heap.get? x = some ox) (hcls:ox.cls = .ref C) (hdict:ox.dict = none) (hdat:ox.data = .fields vs) (c:vW K C name)
  (h:∀ h',h'.get? x = some { ox with dict:=some s.heap.objs.size } -> h'.Ns1 s.heap.objs.size (fun y=>if y = name then some v else none) -> (∀ b o,b ≠ x -> s.heap.get? b = some o -> h'.get? b = some o) -> Q () { s with heap:=h',toks:=s.toks + 2 }):
  wpAny (model prog w) A (setAttr (.ref x) name v) Q E s:=by
 obtain ⟨oc,odi,oda,osl⟩:=ox
 dsimp only at hcls hdict hdat
 subst hcls hdict hdat
 have I:InstAt s.heap x ⟨.ref C,none,.fields vs,osl⟩ C none:=⟨hx,rfl,rfl,trivial⟩
 refine set_plain X I c.sa (Hh (s:={ s with toks:=s.toks + 1 }) X I c ?_)
 obtain ⟨cd,hc,hd'⟩:=any_some c.hd
 have ne:s.heap.objs.size ≠ x:=Nat.ne_of_gt (Heap.lt_size hx)
 refine wpAny_bind (wpAny_pure (wpAny_bind (wpAny_bind (wpAny_loadPart hx (wpAny_bind (Looks.here (s:={ s with toks:=s.toks + 1 }) (looks_clsIn X hc) ?_))))))
 rw [hd']
 refine wpAny_bind (wpAny_alloc ?_)
 have hx1:(s.heap.push { cls:=.type "dict",data:=.dict #[] }).get? x = some ⟨.ref C,none,.fields vs,osl⟩:=Heap.get?_push_of_some _ hx
 refine wpAny_bind (wpAny_update hx1 ?_)
 refine wpAny_pure (a:=some s.heap.objs.size) (wpAny_bind (wpAny_pure (wpAny_bind ?_)))
 have e1:(s.heap.push { cls:=.type "dict",data:=.dict #[] }).get? s.heap.objs.size = some { cls:=.type "dict",data:=.dict #[] }:=Heap.get?_push_size s.heap rfl
 have e2:((s.heap.push { cls:=.type "dict",data:=.dict #[] }).update x fun o=>{ o with dict:=some s.heap.objs.size }).get? s.heap.objs.size = some { cls:=.type "dict",data:=.dict #[] }:=
  (Heap.get?_update_other _ _ (Ne.symm ne)).trans e1
 have n1:Heap.Ns1 ((s.heap.push { cls:=.type "dict",data:=.dict #[] }).update x fun o=>{ o with dict:=some s.heap.objs.size }) s.heap.objs.size (fun _=>none):=
  Heap.Ns1.of_empty ⟨_,#[],_,e2,rfl,(fun e he=>absurd he (by simp)),fun _=>rfl⟩
 refine wpAny_nsSet1 n1 fun h' hn2 hs2=>?_
 have hw:PySem.Within (fun _=>(none:Option Value)) ([]:List Str):=fun y hy=>absurd rfl hy
 obtain ⟨oD,esD,epD,hoD,hdD,hcD⟩:=hn2.count (PySem.Within.cons name v hw)
 refine wpAny_bind (wpAny_lookBehind hoD (by rw [hdD]; exact pastItsLine_dict (Nat.le_trans hcD (by simp))) ?_)
 have hx2:((s.heap.push { cls:=.type "dict",data:=.dict #[] }).update x fun o=>{ o with dict:=some s.heap.objs.size }).get? x = some ⟨.ref C,some s.heap.objs.size,.fields vs,osl⟩:=
  Heap.get?_update_self _ hx1 rfl
 exact wpAny_pure (h h' ((hs2.2 _ (Ne.symm ne)).trans hx2) hn2 fun b o hb e=>(hs2.2 b (Nat.ne_of_lt (Heap.lt_size e))).trans ((Heap.get?_update_other _ _ (Ne.symm hb)).trans (Heap.get?_push_of_some _ e)))
end
def zd (a C:Addr) (dx:Option Addr) (h:Heap):Prop:=∃ o t,h.get? a = some o /\ o.cls = .ref C /\ o.dict = dx /\ o.data = .fields #[.ref t,.none,.none,.none,.bool false,.none]
abbrev jE (a C:Addr) (dx:Option Addr):HO:=.ext (zd a C dx)
theorem wD {P:Program} {w:World} {H:Hp} {h:Heap} {a C:Addr} {dx:Option Addr} (x:zd a C dx h):hX P w H h a (jE a C dx):=by
 refine ⟨x,let ⟨o,_,e,_⟩:=x; ⟨o,e⟩,fun h1 h2 p k=>?_⟩
 obtain ⟨o,vs,e,r⟩:=p
 exact ⟨o,vs,k o e,r⟩
theorem zd.exc {a C:Addr} {dx:Option Addr} {h:Heap} (x:zd a C dx h):Dp a C dx h:=let ⟨o,t,e,c,d,f⟩:=x; ⟨o,_,e,c,d,f,rfl⟩
section
variable {X:Cx} {pins:List (Addr × Obj)} {σ:St} {H:Hp} {s:Shared} {a C:Addr} {f:Str} {A:Around} {E:Value -> Shared -> Prop}
theorem zf {y:V} {u:Value} {Q:Unit -> Shared -> Prop} (I:Inv X pins σ H s) (e:H a = some (jE a C none)) (c:vW X.K C f) (ry:RelV y u)
  (h:∀ s' d,H d = none -> Inv X pins σ (upd (upd H a (jE a C (some d))) d (.xd [(f,y)])) s' -> Q () s'):wpAny (model X.prog X.w) A (setAttr (.ref a) f u) Q E s:=by
 obtain ⟨⟨o,tv,ho,hc,hd,hv⟩,_,_⟩:=I.hok a _ e
 refine Hx I.kIn ho hc hd hv c fun h' h1 h2 h3=>?_
 have nd:H s.heap.objs.size = none:=I.hok.fresh (Nat.le_refl _)
 have ned:∀ b ob,s.heap.get? b = some ob -> b ≠ s.heap.objs.size:=fun b ob q=>Nat.ne_of_lt (Heap.lt_size q)
 have nea:s.heap.objs.size ≠ a:=Ne.symm (ned a o ho)
 have off:∀ b,b ≠ a -> b ≠ s.heap.objs.size -> (upd (upd H a (jE a C (some s.heap.objs.size))) s.heap.objs.size (.xd [(f,y)])) b = H b:=fun b q1 q2=>by rw [aW q2,aW q1]
 have na:∀ b ob,H b = some ob -> ob ≠ jE a C none -> b ≠ a:=fun b ob q n z=>by rw [z,e] at q; exact n (Option.some.inj q).symm
 have nb:∀ b ob,H b = some ob -> b ≠ s.heap.objs.size:=fun b ob q z=>by rw [z,nd] at q; cases q
 have un:Un (frs X.stack) [] H (upd (upd H a (jE a C (some s.heap.objs.size))) s.heap.objs.size (.xd [(f,y)])) s.heap h':=by
  have keep:∀ b ob,s.heap.get? b = some ob -> H b = none -> h'.get? b = some ob:=fun b ob q n=>h3 b ob (fun z=>by rw [z,e] at n; cases n) q
  refine ⟨fun b ob q n _ _=>keep b ob q n,fun b ob q n _ _=>⟨ob.slots,keep b ob q n⟩,fun b ob q n _=>?_,fun b ob q _=>?_,fun b xs q=>?_,fun b ob xs q=>?_,fun b ps q=>⟨#[],?_⟩⟩
  . rw [off b (fun z=>by rw [z,e] at n; cases n) (ned b ob q)]; exact n
  . by_cases z:b = a
    . subst z; exact ⟨_,h1⟩
    . exact ⟨ob,h3 b ob z q⟩
  . rw [off b (na b _ q (by intro z; cases z)) (nb b _ q)]; exact q
  . rw [off b (na b _ q (by intro z; cases z)) (nb b _ q)]; exact q
  . rw [off b (na b _ q (by intro z; cases z)) (nb b _ q),q]; simp
 have hok:HOk X.prog X.w (upd (upd H a (jE a C (some s.heap.objs.size))) s.heap.objs.size (.xd [(f,y)])) h':=fun b ob q=>by
  by_cases zb:b = s.heap.objs.size
  . subst zb
    rw [ba] at q
    cases q
    refine ⟨_,h2,fun g=>?_⟩
    show bM (List.lookup g [(f,y)]) (if g = f then some u else none)
    by_cases z:g = f
    . subst z; simp [List.lookup,bM,ry]
    . have zz:(g == f) = false:=beq_eq_false_iff_ne.mpr z
      simp [List.lookup,zz,z,bM]
  . rw [aW zb] at q
    by_cases za:b = a
    . subst za
      rw [ba] at q
      cases q
      exact wD ⟨_,tv,h1,hc,rfl,hv⟩
    . rw [aW za] at q
      refine (I.hok b ob q).nT (fun b' u' hb' r=>h3 b' u' ?_ r) (fun b' r=>?_) fun b' xs r=>?_
      . rcases hb' with z | z
        . rw [z]; exact za
        . exact na b' _ z (by intro z; cases z)
      . rw [off b' (na b' _ r (by intro z; cases z)) (nb b' _ r)]; exact r
      . rw [off b' (na b' _ r (by intro z; cases z)) (nb b' _ r)]; exact r
 exact h _ s.heap.objs.size nd (I.call (g':=s.gens) (t':=s.toks + 2) (d':=s.drawn) (ch:=[]) un hok I.bare (fun b z=>absurd z (by simp)))
end
end L2.E
namespace L2.E
open PySem PySem.Spec PyProof.Rows L2
section
variable {prog:Program} {w:World} {A:Around} {E:Value -> Shared -> Prop} {s:Shared} {K:PySem.W.Frag} {x C:Addr} {name:Str} {v:Value} {tk:Tok}
open PySem.W in
end
section
variable {prog:Program} {w:World} {A:Around} {E:Value -> Shared -> Prop} {hh:Heap} {g:Array GenState} {d:Drawn} {t:Nat} {os:OsState} {K:PySem.W.Frag} {x C:Addr} {name:Str} {v:Value} {tk:Tok}
open PySem.W in
end
section
variable {prog:Program} {w:World} {A:Around} {E:Value -> Shared -> Prop} {s:Shared} {K:PySem.W.Frag} {x C:Addr} {name:Str} {v:Value}
open PySem.W in
end
section
variable {X:Cx} {pins:List (Addr × Obj)} {σ:St} {H:Hp} {s:Shared} {a C d:Addr} {f:Str} {A:Around} {E:Value -> Shared -> Prop}
def y4 (K:PySem.W.Frag) (ta tv:TE) (f:Str):TS:=fun D σ H=>tv σ H fun y H1=>ta σ H1 fun x H2=>∃ a C,x = .ref a /\ H2 a = some (jE a C none) /\ vW K C f /\ ∀ d,H2 d = none -> D.nx σ (upd (upd H2 a (jE a C (some d))) d (.xd [(f,y)]))
theorem Ar {o value:Expr} {ta tv:TE} {pos pos':Pos} (ha:PE X o ta) (hv:PE X value tv) (hs:swapsWith value (some (.Attribute o f pos')) pos.line X.env = pure false:=by rfl):PS X (.Assign [.Attribute o f pos'] value pos) (y4 X.K ta tv f):=by
 intro pins s σ H D I h
 refine plainObj_wpAny_Assign_Attribute (thn (hv pins s σ H _ I h) fun u s1 ⟨y,H1,I1,ry,q⟩=>thn (ha pins s1 σ H1 _ I1 q) fun ov s2 ⟨x,H2,I2,rx,a,C,ex,ea,c,q2⟩=>?_) hs
 subst ex
 obtain rfl:ov = Value.ref a:=rx
 exact zf I2 ea c ry fun s3 d nd I3=>⟨σ,_,I3,q2 d nd⟩
end
def p6 (C:Addr) (f:Str):Sp:=fun vs H Q _=>∃ a v,vs = [.ref a,v] /\ H a = some (jE a C none) /\ ∀ d,H d = none -> Q .non (upd (upd H a (jE a C (some d))) d (.xd [(f,v)]))
end L2.E
namespace L2.E
open PySem PySem.Spec PyProof.Rows L2
section
variable {prog:Program} {w:World} {A:Around} {E:Value -> Shared -> Prop} {h:Heap} {g:Array GenState} {d:Drawn} {t:Nat} {os:OsState} {K:PySem.W.Frag}
variable {nm q:Str} {C N:Addr} {bs bm bmB:List Value} {hdct:Bool} {sn:List Str} {sub:List Value} {ab:Bool} {col:Option Bool} {dd:Option Addr} {k0 k1 k2 k3 k5:Option Value} {B newId initId:String}
open PySem.W in
theorem C6 (F:ExcBaseFacts B newId initId bmB) (T:OwnTail h bmB bm) {rest:List Value} {fI:Addr} {oI:Obj} {Q:Fin -> Shared -> Prop} (X:K.In h)
  (hC:h.get? C = some (excClassObj nm q C N bs bm hdct sn sub ab col dd k0 k1 k2 k3 k5 newId)) (hi:findIn K (.ref C) "__init__" = some (some (.ref fI)))
  (hfI:h.get? fI = some oI) (hfc:oI.cls = .type "function")
  (hq:∀ h' e,Heap.MadeExcOf h h' e (.ref C) rest ->
    wpAny (model prog w) A (call (.ref fI) (.ref e ::rest)) (fun r s'=>r = .none /\ Q (.done (.ret (.ref e))) s') E ⟨h',g,d,t,os⟩) (hrest:rest.length <= sizeLine):
  wpAny (model prog w) A (Builtin.«type.__call__» ⟨.ref C ::rest,[]⟩) Q E ⟨h,g,d,t,os⟩:=by
 repeat (first | with_reducible refine wpAny_loadPart_at hC ?_ | with_reducible refine wpAny_madeBy_exc hC ?_ | wp_step)
 refine codeAny_call_builtin_code (Code.quiet_builtin _ F.quiet) (wpAny_check_new_subT F T hC ?_)
 refine codeAny_exc_new_subT F T hC ?_ hrest
 show wpAny _ _ _ _ _ _
 have hC₁:=Heap.get?_push_of_some { cls:=.ref C,data:=.fields #[.ref h.objs.size,.none,.none,.none,.bool false,.none] }
  (Heap.get?_push_of_some { cls:=.type "tuple",data:=.seq rest.toArray } hC)
 have hfI₁:=Heap.get?_push_of_some { cls:=.ref C,data:=.fields #[.ref h.objs.size,.none,.none,.none,.bool false,.none] }
  (Heap.get?_push_of_some { cls:=.type "tuple",data:=.seq rest.toArray } hfI)
 have X₁:K.In ((h.push { cls:=.type "tuple",data:=.seq rest.toArray }).push { cls:=.ref C,data:=.fields #[.ref h.objs.size,.none,.none,.none,.bool false,.none] }):=
  X.keeps fun b o e=>Heap.get?_push_of_some _ (Heap.get?_push_of_some _ e)
 have hget:((h.push { cls:=.type "tuple",data:=.seq rest.toArray }).push
   { cls:=.ref C,data:=.fields #[.ref h.objs.size,.none,.none,.none,.bool false,.none] }).get? (h.objs.size + 1) = some
   { cls:=.ref C,data:=.fields #[.ref h.objs.size,.none,.none,.none,.bool false,.none] }:=by heap_get
 have hcC:(Value.ref C ::bm).contains (.ref C) = true:=by simp
 unfold isInstance
 repeat (first | with_reducible refine wpAny_loadPart_at hget ?_ | (with_reducible refine wpAny_isSubtype_exc hC₁ ?_; rw [hcC]) | wp_step)
 show wpAny _ _ (typeLookup (.ref C) _) _ _ _
 refine (looks_findIn (M:=model prog w) X₁ hi).at ?_
 refine wpAny_holding (wpAny_bind ?_)
 unfold bindSpecial
 refine wpAny_bind (wpAny_typeOf (T:="function") ⟨_,hfI₁,hfc⟩ ?_)
 rw [if_pos (by decide)]
 refine wpAny_pure (wpAny_bind (wpAny_mono (hq _ (h.objs.size + 1) ⟨fun b o hb=>Heap.get?_push_of_some _ (Heap.get?_push_of_some _ hb),Heap.get?_none_of_le (Nat.le_succ _),h.objs.size,hget,Heap.get?_none_of_le (Nat.le_refl _),?_⟩) (fun r s' hr=>?_) fun _ _ x=>x))
 . exact Heap.get?_push_of_some _ (Heap.get?_push_at rfl rfl)
 . obtain ⟨rfl,hQ⟩:=hr
   wp_walk
   exact hQ
open PySem.W in
theorem yx (F:ExcBaseFacts B newId initId bmB) (T:OwnTail h bmB bm) {rest:List Value} {fI:Addr} {oI:Obj} {Q:Value -> Shared -> Prop} (X:K.In h)
  (hC:h.get? C = some (excClassObj nm q C N bs bm hdct sn sub ab col dd k0 k1 k2 k3 k5 newId)) (hi:findIn K (.ref C) "__init__" = some (some (.ref fI)))
  (hfI:h.get? fI = some oI) (hfc:oI.cls = .type "function")
  (hq:∀ h' e,Heap.MadeExcOf h h' e (.ref C) rest ->
    wpAny (model prog w) (A.under (.builtin "type.__call__" ⟨.ref C ::rest,[]⟩)) (call (.ref fI) (.ref e ::rest)) (fun r s'=>r = .none /\ Q (.ref e) s') E ⟨h',g,d,t,os⟩) (hrest:rest.length <= sizeLine):
  wpAny (model prog w) A (call (.ref C) rest) Q E ⟨h,g,d,t,os⟩:=by
 have f1:=tc_lookup
 have f2:=tc_bind (.ref C)
 have hT:(⟨h,g,d,t,os⟩:Shared).TypeIs (.ref C) "type":=⟨_,hC,rfl⟩
 refine wpAny_call (codeAny_of_tree ?_)
 show wpAny _ _ (callAny (.ref C) _) _ _ _
 repeat (any_goals (first | assumption | with_reducible refine wpAny_loadPart_at hC ?_ | wp_step))
 refine ⟨rfl,?_⟩
 refine codeAny_call_builtin_at (Code.quiet_builtin _ (by decide +kernel)) entry_typeCall (wpAny_check_type_call_sub hC (C6 F T X hC hi hfI hfc (fun h' e hm=>?_) hrest))
 exact hq h' e hm
theorem vC {M:Model} {env:Env} {s:Shared} {x:Sem Value} {Q:Flow -> Shared -> Prop} (hbase:bm.contains (.type "BaseException") = true) (hh:A.handled = none)
  (h:wpAny M A x (fun v s₁=>∃ e dct tt sl,v = .ref e /\ s₁.heap.get? C = some (excClassObj nm q C N bs bm hdct sn sub ab col dd k0 k1 k2 k3 k5 newId) /\
    s₁.heap.get? e = some ⟨.ref C,dct,.fields #[.ref tt,.none,.none,.none,.bool false,.none],sl⟩ /\ E (.ref e) s₁) E s):
  wpAny M A (raiseStmt env (some x) none) Q E s:=by
 have hcB:(Value.ref C ::bm).contains (.type "BaseException") = true:=by rw [List.contains_cons,hbase,Bool.or_true]
 unfold raiseStmt
 refine wpAny_bind (wpAny_mono h (fun v s₁ h₁=>?_) fun _ _ x=>x)
 obtain ⟨e,dct,tt,sl,rfl,hC,he,hE⟩:=h₁
 obtain ⟨hp,g,d,tk,os⟩:=s₁
 repeat (first | with_reducible refine wpAny_loadPart_at he ?_ | with_reducible refine wpAny_loadPart_at hC ?_ | (with_reducible refine wpAny_isSubtype_exc hC ?_; rw [hcB]) | wp_step)
 exact wpAny_raiseNew_none hh hE
end
structure XMk (K:PySem.W.Frag) (mg:Str -> Option Value) (x:Str) (C fI:Addr) (bm:List Value) (f:Str):Prop where
 m:mg x = some (.ref C)
 lk:∃ nm q N bs hdct sn sub ab col dd k0 k1 k2 k3 k5,K.lookup C = some (excClassObj nm q C N bs bm hdct sn sub ab col dd k0 k1 k2 k3 k5 "ValueError.__new__")
 bx:bm.contains (.type "BaseException") = true
 tl:∀ h:Heap,K.In h -> OwnTail h cX bm
 ini:PySem.W.findIn K (.ref C) "__init__" = some (some (.ref fI))
 fn:∃ o,K.lookup fI = some o /\ o.cls = .type "function"
 xc:vW K C f
section
variable {X:Cx} {x f:Str} {np cpos pos:Pos} {e₀:Expr} {t:TA} {W:XW} {C fI:Addr} {bm:List Value} {k:Nat} {fd:FuncData} {ps:List Str}
def tG (C:Addr) (f:Str) (W:XW) (t:TA):TS:=fun D σ H=>t σ H fun vs H1=>∃ v,vs = [v] /\ ∀ a d H2,aF H1 H2 -> H2 a = some (nM a C (some d)) -> H2 d = some (.xd [(f,v)]) -> W (.ref C) (some a) σ H2
theorem GD {X:Cx} {pins:List (Addr × Obj)} {σ:St} {H:Hp} {s:Shared} {h':Heap} {e C:Addr} {us:List Value} (I:Inv X pins σ H s) (hm:Heap.MadeExcOf s.heap h' e (.ref C) us):
  H e = none /\ Inv X pins σ (upd H e (jE e C none)) { s with heap:=h' }:=by
 obtain ⟨t,he,_,_⟩:=hm.there
 exact ⟨tI I hm.new,BX I hm.keeps hm.new (wD ⟨_,t,he,rfl,rfl,rfl⟩)⟩
theorem xw (M:XMk X.K X.mg x C fI bm f) (F:b0 X.prog X.w X.K X.mg X.base (CXE X.prog X.w) k fI fd ps (p6 C f)) (hb:Binds X.K fd ps []) (hr:gj (k + 1) X.A) (hT:Thr X W) (hg:Gl X x) (ha:PA X [e₀] t)
  (he:isStar e₀ = false:=by rfl) (hd:(x == ("__debug__":Str)) = false:=by decide):
  PS X (.Raise (some (.Call (.Name x np) [e₀] [] cpos)) none pos) (tG C f W t):=by
 intro pins s σ H D I h
 have FB:=PySem.F.excBase_ValueError
 obtain ⟨nm,q,N,bs,hdct,sn,sub,ab,col,dd,k0,k1,k2,k3,k5,lk⟩:=M.lk
 obtain ⟨oI,lI,cI⟩:=M.fn
 have hpl:(backTo cpos (starEach [e₀] X.env)).any (·.1) = false:=by rw [mi he]; rfl
 have hsp:=ha cpos pins s σ H _ I h
 rw [arm_exec_Raise]
 refine wpAny_bind (wpAny_standAt (vC (C:=C) (nm:=nm) (q:=q) (N:=N) (bs:=bs) (bm:=bm) (hdct:=hdct) (sn:=sn) (sub:=sub) (ab:=ab) (col:=col) (dd:=dd) (k0:=k0) (k1:=k1) (k2:=k2) (k3:=k3) (k5:=k5) (newId:="ValueError.__new__") M.bx hr.hd
  (wpAny_bind (wpAny_mono (wpAny_Call_ofName (mm I hg M.m ?_ hd)) (fun v s₃ h₃=>wpAny_bind (wpAny_standAt (wpAny_pure h₃))) fun _ _ x=>x))))
 unfold callWith
 refine wpAny_bind (wpAny_holding ?_)
 rw [mi he] at hsp
 rw [mi he]
 refine Calls.evalArgs_plain (wpAny_mono hsp (fun us s2 h2=>wpAny_bind (wpAny_standAt ?_)) fun _ _ y=>y)
 obtain ⟨vs,H2,I2,r,v,rfl,wv⟩:=h2
 obtain ⟨u,rfl,ru⟩:=vals1 r
 obtain ⟨hp,g,d,tk,os⟩:=s2
 have hpl':(backTo cpos ((false,eval e₀ X.env) ::starEach [] X.env)).any (·.1) = false:=rfl
 simp only [hpl']
 have hC:=I2.kIn _ _ lk
 refine wpAny_bind (wpAny_keeperOf_exc hC ?_)
 refine wpAny_bind (yx FB (M.tl _ I2.kIn) I2.kIn hC M.ini (I2.kIn _ _ lI) cI (fun h' e hm=>?_) (by show 1 <= sizeLine; decide))
 obtain ⟨nE,I3⟩:=GD I2 hm
 have hsp3:p6 C f [.ref e,v] (upd H2 e (jE e C none)) (fun z H4=>z = .non /\ ∃ dd,aF H2 H4 /\ H4 e = some (jE e C (some dd)) /\ H4 dd = some (.xd [(f,v)])) (fun _ _ _=>False):=by
  refine ⟨e,v,rfl,ba,fun dd nd=>⟨rfl,dd,?_,?_,ba⟩⟩
  . have ne:dd ≠ e:=fun z=>by rw [z,ba] at nd; cases nd
    intro b o hb
    have nb:b ≠ e:=sq hb nE
    have nd2:b ≠ dd:=fun z=>by rw [z] at hb; rw [aW ne,hb] at nd; cases nd
    rw [aW nd2,aW nb,aW nb]; exact hb
  . have ne:e ≠ dd:=fun z=>by rw [<- z,ba] at nd; cases nd
    rw [aW ne,ba]
 have hl:([Value.ref e,u] ++ []).length = ps.length:=by
  have e1:=F.len _ _ _ _ hsp3
  rw [<- e1]; rfl
 refine wpAny_call (codeAny_mono (F.run _ X.stack _ _ ⟨[Value.ref e,u],[]⟩ ([Value.ref e,u] ++ []) [.ref e,v] _ _ (hr.make C [u] []) (I3.Er.make C [u] []) (hb _ [Value.ref e,u] I3.kIn hl) (.cons rfl (.cons ru .nil)) hsp3) fun r s' hq'=>?_)
 cases r with
 | error e'=>
   obtain ⟨_,_,_,_,_,_,_,_,_,_,z⟩:=hq'
   exact z.elim
 | ok fl=>
   cases fl with
   | next=>exact False.elim hq'
   | brk=>exact False.elim hq'
   | cont=>exact False.elim hq'
   | ret u'=>
     obtain ⟨z,H4,I4,rz,ez,dd',sm,h4,h5⟩:=I3.after hq'
     subst ez
     obtain ⟨⟨o4,tt,g4,c4,d4,f4⟩,_,_⟩:=I4.hok e _ h4
     refine ⟨rz,wpAny_bind (wpAny_holding (wpAny_point (wpAny_pure ?_)))⟩
     obtain ⟨oc,od,oda,osl⟩:=o4
     dsimp only at c4 d4 f4
     subst c4 d4 f4
     refine ⟨e,some dd',tt,osl,rfl,I4.kIn _ _ lk,g4,?_⟩
     obtain ⟨hh,gg,d2,t2,o2⟩:=s'
     have I5:=I4.write (x:=e) (e:=e) (o:=nM e C (some dd')) (t':=t2) (h':=hh) (by rw [h4]; trivial) (.inl rfl) (fun b u hb q=>q) ⟨_,g4⟩ (v5 (zd.exc ⟨_,tt,g4,rfl,rfl,rfl⟩))
     have ned:dd' ≠ e:=fun z=>by rw [z,h4] at h5; cases h5
     have sm2:aF H2 (upd H4 e (nM e C (some dd'))):=fun b o hb=>by
      have nb:b ≠ e:=sq hb nE
      rw [aW nb]; exact sm b o hb
     exact hT pins σ _ _ e C (some dd') I5 ⟨ba,_,_,g4,rfl,.inl rfl⟩ (wv e dd' _ sm2 ba (by rw [aW ned]; exact h5))
end
end L2.E
namespace L2.E
open PySem PySem.Spec PyProof.Rows L2
theorem xj {X:Cx} {x f:Str} {np cpos pos:Pos} {e₀:Expr} {t:TA} {W:XW} {C fI:Addr} {bm:List Value} {k:Nat} {fd:FuncData} {ps:List Str} (M:XMk X.K X.mg x C fI bm f) (F:b0 X.prog X.w X.K X.mg X.base (CXE X.prog X.w) k fI fd ps (p6 C f)) (hb:Binds X.K fd ps []) (hr:gj (k + 1) X.A) (hT:Thr X W) (hg:Gl X x) (ha:QA X [e₀] t)
  (he:isStar e₀ = false:=by rfl) (hd:(x == ("__debug__":Str)) = false:=by decide):QS X (.Raise (some (.Call (.Name x np) [e₀] [] cpos)) none pos) (tG C f W t):=⟨xw M F hb hr hT hg ha.out he hd⟩
theorem Bk {K:PySem.W.Frag} {G:Addr} {bm:List Value} (eG:uN K G bm) (q:PySem.W.excIn K G cX "ValueError.__new__" = true):∀ h:Heap,K.In h -> OwnTail h cX (.ref G ::bm):=by
 intro h Xh
 have O:=wH (mg:=fun _=>some (.ref G)) (x:="") Xh rfl q
 obtain ⟨tl,N,nm,q',bs,hdct,sn,sub,ab,col,dd,k0,k1,k2,k3,k5,mN,hc,hN,hni,T⟩:=O.obj
 obtain ⟨_,nm2,q2,N2,bs2,hd2,sn2,sub2,ab2,col2,dd2,j0,j1,j2,j3,j5,nid,lG⟩:=eG
 have e:=Xh _ _ lG
 rw [hc] at e
 have e1:tl = bm:=by
  have e':=Option.some.inj e
  unfold excClassObj at e'
  simp only [Obj.mk.injEq,Data.cls.injEq,ClassData.mk.injEq,List.cons.injEq] at e'
  exact e'.2.2.1.2.2.1.2
 subst e1
 exact OwnTail.own hc hN hni T
theorem xn {K:PySem.W.Frag} {nm q:Str} {C N:Addr} {bs bm:List Value} {hdct:Bool} {sn:List Str} {sub:List Value} {ab:Bool} {col:Option Bool} {dd:Option Addr} {k0 k1 k2 k3 k5:Option Value} {newId:String}
  (l:K.lookup C = some (excClassObj nm q C N bs bm hdct sn sub ab col dd k0 k1 k2 k3 k5 newId)) (h:dh (.ref C ::bm) = true):pY K C = true:=by
 unfold pY PySem.W.clsIn
 rw [l]
 exact h
theorem AJ {P:Program} {w:World} {K:PySem.W.Frag} {mg:Str -> Option Value} {base:Heap} {C fI:Addr} {fd:FuncData} {st:Stmt} {x qual:Str} {n0 n1 f:Str} (F:Fun K x qual st fI fd) (S:aS [n0,n1] [n0,n1] (ao st)) (xc:vW K C f)
  (hbody:∀ (cdv:Value) (A:Around) (outer:List Env) (s:Shared) (H:Hp) (E:XK),QSs (nL (CXE P w) P w K mg base [n0,n1] qual (ao st) fI cdv A outer s H E) (aR st) (y4 K (qB 0) (qB 1) f)):
  b0 P w K mg base (CXE P w) 1 fI fd [n0,n1] (p6 C f):=
 okX F S (fun vs H Q E h=>by obtain ⟨a,v,rfl,_⟩:=h; rfl) fun cdv A outer s H vs Q E hr h=>by
  obtain ⟨a,v,rfl,hH,q⟩:=h
  exact ⟨_,(hbody cdv A outer s H E).out,_,rfl,_,rfl,a,C,rfl,hH,xc,fun d nd=>q d nd⟩
theorem yC {X:Cx} {o value:Expr} {ta tv:TE} {f:Str} {pos pos':Pos} (ha:QE X o ta) (hv:QE X value tv) (hs:swapsWith value (some (.Attribute o f pos')) pos.line X.env = pure false:=by rfl):QSs X [.Assign [.Attribute o f pos'] value pos] (y4 X.K ta tv f):=⟨wZ (Ar ha.out hv.out hs)⟩
theorem CN {X:Cx} {o i:Expr} {to ti:TE} {t:A3} {pos:Pos} (ho:QE X o to) (hi:QE X i ti) (hs:Es X t)
  (ha:∀ v,assign (.Subscript o i pos) X.env v = (do
    let ov <- holding [v] (eval o X.env)
    let iv <- holding [v,ov] (eval i X.env)
    standAt pos
    holding [v,ov,iv] (setItem ov iv v)
    release [v,ov,iv] []):=by intro _; rfl):QG X (.Subscript o i pos) (Du to ti t):=⟨DR ho.out hi.out hs ha⟩
end L2.E
namespace L2.P
open PySem PySem.Spec PyProof.Rows L2 L2.E
section
variable {K:PySem.W.Frag} {cls:String -> Option Addr} {W:XW} {S H:Hp}
theorem xH {C:Addr} {c:String} {f:Str} {t:TA} {ma:ae -> OA} (hc:cls c = some C) (ha:JA K cls W t ma):JS K cls W (tG C f W t) (sA c f ma):=by
 intro Av G S₀ ρ σ S H D I p
 refine ha.goS I p fun xs vs S1 H1 I1 w1 r1 p1=>?_
 match xs,r1,p1 with
 | [x],r1,p1=>
   obtain ⟨v,r,rfl,q1,r2⟩:=r1.cons_inv
   obtain rfl:=r2.nil_inv
   exact ⟨v,rfl,fun a d H2 sm h4 h5=>p1 a C σ S1 H2 (I1.same sm) (aF.refl _) ⟨hc,some d,h4,.inr ⟨d,[(f,v)],rfl,h5,rfl,.cons q1 .nil⟩⟩⟩
 | [],r1,p1=>exact p1.elim
 | _ ::_ ::_,r1,p1=>exact p1.elim
theorem DZ {i:Nat} {tk tv:TE} {mk mv:ae -> OE} (hk:JE K cls W tk mk) (hv:JE K cls W tv mv):JS K cls W (uC tv (Du (qB i) tk BY)) (Aw i mk mv):=by
 intro Av G S₀ ρ σ S H D I p
 unfold Aw at p
 split at p
 . rename_i xs e
   refine hv Av G S₀ ρ σ S H _ I ?_
   cases em:mv ρ with
   | exc c fs=>rw [em] at p; exact fun a C S' H' w x=>p a C σ S' H' (I.grow w) w.s x
   | bad=>rw [em] at p; exact p
   | ok r=>
     rw [em] at p
     intro u S1 H1 w1 r1
     simp only [OE.bL] at p
     cases es:jG r with
     | none=>rw [es] at p; exact p.elim
     | some y=>
       rw [es] at p
       obtain ⟨S2,w2,s2,rx⟩:=r1.share w1 es
       have I2:=I.grow w2
       obtain ⟨v,e1,a,vs,rfl,h1,h2,h3,h4⟩:=I2.good i _ e
       refine ⟨_,e1,?_⟩
       refine hk.goS I2 (p.back w2.s) fun kk z S3 H3 I3 w3 r3 p3=>?_
       have rk:=r3.rd I3.sh
       cases ek:kk.pv with
       | int k=>
         rw [ek] at p3 rk
         have hz:=du rk
         subst hz
         dsimp only at p3
         cases ej:ixP xs.length k with
         | none=>rw [ej] at p3; exact p3.elim
         | some j=>
           rw [ej] at p3
           refine ⟨a,vs,k,j,rfl,rfl,w3.g _ _ h3,by rw [h4.length]; exact ej,?_⟩
           exact p3 σ S3 _ (I3.mut e e1 ((h4.mono w3.s).set (Rep.mono w3.s rx) j)) (aF.refl _)
       | _=>rw [ek] at p3; exact p3.elim
 . exact p.elim
end
end L2.P
namespace L2.P
open PySem
inductive Stp where
 | ix (k:Nat) | fd (f:Str)
def lj:List Str -> List OV -> Str -> Option OV
 | k ::ks,t ::ts,f=>if k = f then some t else lj ks ts f
 | _,_,_=>none
def qF:List Str -> List OV -> Str -> OV -> List OV
 | k ::ks,t ::ts,f,u=>if k = f then u ::ts else t ::qF ks ts f u
 | _,ts,_,_=>ts
def OV.at1:OV -> Stp -> Option OV
 | .ol ts,.ix k=>ts[k]?
 | .ob _ ks ts,.fd f=>lj ks ts f
 | _,_=>none
def OV.yn:OV -> Stp -> OV -> OV
 | .ol ts,.ix k,u=>.ol (ts.set k u)
 | .ob c ks ts,.fd f,u=>.ob c ks (qF ks ts f u)
 | t,_,_=>t
def OV.get:OV -> List Stp -> Option OV
 | t,[]=>some t
 | t,s ::π=>(t.at1 s).bind fun u=>u.get π
def OV.put:OV -> List Stp -> OV -> OV
 | _,[],u=>u
 | t,s ::π,u=>match t.at1 s with
   | some t'=>t.yn s (t'.put π u)
   | none=>t
def slT:Sl -> Option OV
 | .tr _ t=>some t
 | .bo t=>some t
 | _=>none
def jc (i:Nat) (ρ:ae):Option OV:=match ρ[i]? with
 | some (some s)=>slT s
 | _=>none
abbrev MP:=ae -> Option (List Stp)
def fj:MP:=fun _=>some []
def pIx (i:Nat) (mp:MP) (mk:ae -> OE):MP:=fun ρ=>match jc i ρ with
 | some t=>(match mp ρ with
   | some π=>(match t.get π with
     | some (.ol ts)=>(match mk ρ with
       | .ok r=>(match r.pv with
         | .int k=>(ixP ts.length k).map fun j=>π ++ [.ix j]
         | _=>none)
       | _=>none)
     | _=>none)
   | none=>none)
 | none=>none
def subAt (i:Nat) (mp:MP) (ρ:ae):Option OV:=match jc i ρ with
 | some t=>(match mp ρ with
   | some π=>t.get π
   | none=>none)
 | none=>none
def pFd (i:Nat) (mp:MP) (f:Str) (ok:String -> Bool):MP:=fun ρ=>match subAt i mp ρ with
 | some (.ob c ks ts)=>if (ok c && (lj ks ts f).isSome) = true then (mp ρ).map fun π=>π ++ [.fd f] else none
 | _=>none
def uh:List OV -> Option (List PV)
 | []=>some []
 | .sh x ::r=>(uh r).map (x ::·)
 | _ ::_=>none
@[simp] theorem qU (xs:List PV):uh (xs.map .sh) = some xs:=by
  induction xs with
  | nil=>rfl
  | cons x xs ih=>show (uh (xs.map .sh)).map (x ::·) = _; rw [ih]; rfl
def oJ (i:Nat) (mp:MP):ae -> OE:=fun ρ=>match subAt i mp ρ with
 | some (.sh x)=>.ok (.sh x)
 | some (.ol ts)=>(match uh ts with
   | some xs=>.ok (.al xs)
   | none=>.bad)
 | _=>.bad
def nN (i:Nat) (mp:MP):ae -> OT:=fun ρ=>match subAt i mp ρ with
 | some (.ol ts)=>.ok (!ts.isEmpty)
 | _=>.bad
inductive OD where
 | ok (t:OV) | exc (c:String) (fs:XF) | bad
inductive ODs where
 | ok (ts:List OV) | exc (c:String) (fs:XF) | bad
def mD (me:ae -> OE):ae -> OD:=fun ρ=>match me ρ with
 | .ok (.sh x)=>.ok (.sh x)
 | .ok (.fr xs)=>.ok (.ol (xs.map .sh))
 | .ok (.al _)=>.bad
 | .exc c fs=>.exc c fs
 | .bad=>.bad
def mDc (md:ae -> OD) (mr:ae -> ODs):ae -> ODs:=fun ρ=>match md ρ with
 | .ok t=>(match mr ρ with
   | .ok ts=>.ok (t ::ts)
   | .exc c fs=>.exc c fs
   | .bad=>.bad)
 | .exc c fs=>.exc c fs
 | .bad=>.bad
def oR (i:Nat) (md:ae -> OD):ae -> OS:=fun ρ=>match md ρ with
 | .ok t=>.nx (ρ.set i (some (.tr false t)))
 | .exc c fs=>.exc ρ c fs
 | .bad=>.bad
def xT (i:Nat) (mp:MP) (ρ:ae) (k:OV -> (OV -> ae) -> OS):OS:=match ρ[i]? with
 | some (some (.tr io t))=>(match mp ρ with
   | some π=>(match t.get π with
     | some u=>k u fun u'=>ρ.set i (some (.tr io (t.put π u')))
     | none=>.bad)
   | none=>.bad)
 | _=>.bad
def tO (i:Nat) (mp:MP) (md:ae -> OD):ae -> OS:=fun ρ=>xT i mp ρ fun u put=>match u with
 | .ol ts=>(match md ρ with
   | .ok x=>if ts.length < lim then .nx (put (.ol (ts ++ [x]))) else .bad
   | .exc c fs=>.exc ρ c fs
   | .bad=>.bad)
 | _=>.bad
def lB (i:Nat) (mp:MP) (me:ae -> OE):ae -> OS:=fun ρ=>xT i mp ρ fun u put=>match u with
 | .ol ts=>(me ρ).bL ρ fun r=>(match r with
   | .fr ys=>if ts.length + ys.length <= lim then .nx (put (.ol (ts ++ ys.map .sh))) else .bad
   | _=>.bad)
 | _=>.bad
def yO (i:Nat) (mp:MP) (f:Str) (okc:String -> Bool) (md:ae -> OD):ae -> OS:=fun ρ=>match md ρ with
 | .ok x=>xT i mp ρ fun u put=>(match u with
   | .ob c ks ts=>if (okc c && decide (ks.length < 1000)) = true then (if ks.contains f = true then .nx (put (.ob c ks (qF ks ts f x))) else .nx (put (.ob c (ks ++ [f]) (ts ++ [x])))) else .bad
   | _=>.bad)
 | .exc c fs=>.exc ρ c fs
 | .bad=>.bad
inductive OX where
 | ok (ρ:ae) (s:Sl) | exc (ρ:ae) (c:String) (fs:XF) | bad
def slO:OV -> Sl
 | .sh x=>.sh x
 | t=>.tr false t
def qh (i:Nat) (mp:MP):ae -> OX:=fun ρ=>match ρ[i]? with
 | some (some (.tr io t))=>(match mp ρ with
   | some π=>(match t.get π with
     | some (.ol ts)=>(match ts.getLast? with
       | some x=>.ok (ρ.set i (some (.tr io (t.put π (.ol ts.dropLast))))) (slO x)
       | none=>.bad)
     | _=>.bad)
   | none=>.bad)
 | _=>.bad
def nio:Sl -> Bool
 | .tr true _=>false
 | .bo _=>false
 | _=>true
def nC (i:Nat) (m:ae -> OX):ae -> OS:=fun ρ=>match m ρ with
 | .ok ρ' s=>if nio s then .nx (ρ'.set i (some s)) else .bad
 | .exc ρ' c fs=>.exc ρ' c fs
 | .bad=>.bad
def AN (neg:Bool) (m:ae -> OX) (a b:ae -> OS):ae -> OS:=fun ρ=>match m ρ with
 | .ok ρ' (.sh x)=>(match qb x with
   | some k=>if (k != neg) = true then a ρ' else b ρ'
   | none=>.bad)
 | .ok _ _=>.bad
 | .exc ρ' c fs=>.exc ρ' c fs
 | .bad=>.bad
mutual
def pvO:OV -> Option PV
 | .sh x=>some x
 | .ol ts=>(Fm ts).map .lst
 | .ob _ _ _=>none
 | .di _=>none
 | .dt _=>none
def Fm:List OV -> Option (List PV)
 | []=>some []
 | t ::ts=>(pvO t).bind fun x=>(Fm ts).map (x ::·)
end
def Gs (i:Nat) (ρ:ae):ae:=match ρ[i]? with
 | some (some (.tr false t))=>(match pvO t with
   | some x=>ρ.set i (some (.sh x))
   | none=>ρ)
 | _=>ρ
inductive OI where
 | ok (x:PV) (outs:List (Option OV)) | exc (c:String) (fs:XF) (outs:List (Option OV)) | bad
inductive Arg where
 | e (me:ae -> OE) | t (i:Nat) (mp:MP) | b (i:Nat) (mp:MP)
def qW:Option Sl -> Option OV
 | some (.tr true t)=>some t
 | _=>none
def vT (np:Nat):OS -> OI
 | .nx ρ=>.ok .non ((ρ.take np).map qW)
 | .rt ρ (.sh x)=>.ok x ((ρ.take np).map qW)
 | .exc ρ c fs=>.exc c fs ((ρ.take np).map qW)
 | _=>.bad
def kl (n:Nat) (as:List Sl):ae:=as.map some ++ List.replicate (n - as.length) none
def fnI (np n:Nat) (m:ae -> OS) (as:List Sl):OI:=if as.length = np then vT np (m (kl n as)) else .bad
def j6 (a:Arg) (ρ:ae):Option Sl:=match a with
 | .e me=>(match me ρ with
   | .ok r=>(jG r).map .sh
   | _=>none)
 | .t i mp=>(match ρ[i]? with
   | some (some (.tr _ t))=>((mp ρ).bind fun π=>t.get π).map (.tr true)
   | _=>none)
 | .b i mp=>(subAt i mp ρ).map .bo
def jS:List Arg -> ae -> Option (List Sl)
 | [],_=>some []
 | a ::as,ρ=>(j6 a ρ).bind fun s=>(jS as ρ).map (s ::·)
def jM (ρ₀:ae):Arg -> Option OV -> ae -> ae
 | .t i mp,some u,ρ=>(match ρ[i]? with
   | some (some (.tr io t))=>(match mp ρ₀ with
     | some π=>ρ.set i (some (.tr io (t.put π u)))
     | none=>ρ.set i none)
   | _=>ρ.set i none)
 | .t i _,none,ρ=>ρ.set i none
 | _,_,ρ=>ρ
def fw (ρ₀:ae):List Arg -> List (Option OV) -> ae -> ae
 | [],_,ρ=>ρ
 | a ::as,us,ρ=>fw ρ₀ as us.tail (jM ρ₀ a us.head?.join ρ)
def sR (f:List Sl -> OI) (as:List Arg):ae -> OX:=fun ρ=>match jS as ρ with
 | some ss=>(match f ss with
   | .ok x outs=>.ok (fw ρ as outs ρ) (.sh x)
   | .exc c fs outs=>.exc (fw ρ as outs ρ) c fs
   | .bad=>.bad)
 | none=>.bad
def sU (f:List Sl -> OI) (as:List Arg):ae -> OE:=fun ρ=>match jS as ρ with
 | some ss=>(match f ss with
   | .ok x _=>.ok (.sh x)
   | .exc c fs _=>.exc c fs
   | .bad=>.bad)
 | none=>.bad
def recv (c:String) (m:Str):Option Sl -> Bool
 | some (.tr true (.ob c' ks _))=>c' == c && !ks.contains m
 | some (.bo (.ob c' ks _))=>c' == c && !ks.contains m
 | _=>false
def lq (c:String) (m:Str) (f:List Sl -> OI) (as:List Arg):ae -> OX:=fun ρ=>match as with
 | a ::_=>if recv c m (j6 a ρ) = true then sR f as ρ else .bad
 | []=>.bad
def jY (c:String) (m:Str) (f:List Sl -> OI) (as:List Arg):ae -> OE:=fun ρ=>match as with
 | a ::_=>if recv c m (j6 a ρ) = true then sU f as ρ else .bad
 | []=>.bad
def rH (c:String) (f:List Sl -> OI):ae -> OD:=fun _=>match f [.tr true (.ob c [] [])] with
 | .ok .non (some t ::_)=>.ok t
 | _=>.bad
def km (i j:Nat) (mb:ae -> OS):List PV -> ae -> OS
 | [],ρ=>.nx ρ
 | .tup [x,y] ::xs,ρ=>(mb ((ρ.set i (some (.sh x))).set j (some (.sh y)))).turn (km i j mb xs)
 | _ ::_,_=>.bad
def o1 (k:Nat):List PV -> List PV
 | []=>[]
 | x ::xs=>.tup [.int k,x] ::o1 (k + 1) xs
def we (i j:Nat) (ml:ae -> OE) (mb:ae -> OS):ae -> OS:=fun ρ=>(ml ρ).bL ρ fun r=>match vy r with
 | some xs=>km i j mb (o1 0 xs) ρ
 | none=>.bad
def qq (ml:ae -> OE) (ι:List Nat) (me:ae -> OE):ae -> OE:=fun ρ=>(ml ρ).bind fun r=>match r.pv with
 | .tup xs=>noX (dy me (dN ι ρ) xs)
 | _=>.bad
def gv (mc:ae -> OT) (me:ae -> OE) (ρ:ae):List PV -> OA
 | []=>.ok []
 | x ::xs=>(match mc (ρ ++ [some (.sh x)]) with
   | .ok true=>(me (ρ ++ [some (.sh x)])).eW fun r=>(match jG r with
     | some y=>(gv mc me ρ xs).eW fun ys=>.ok (y ::ys)
     | none=>.bad)
   | .ok false=>gv mc me ρ xs
   | _=>.bad)
def p8 (ml:ae -> OE) (ι:List Nat) (mc:ae -> OT) (me:ae -> OE):ae -> OE:=fun ρ=>(ml ρ).bind fun r=>match r.pv with
 | .lst xs=>noX (gv mc me (dN ι ρ) xs)
 | _=>.bad
def vB (ma ms:ae -> OE):ae -> OE:=fun ρ=>(ma ρ).bind fun a=>(ms ρ).bind fun k=>match a.pv,k.pv with
 | .lst xs,.int k=>if k = -1 then .ok (.fr xs.reverse) else .bad
 | _,_=>.bad
def GQ:PV -> Option RV
 | .lst xs=>some (.sh (.tup xs))
 | .tup xs=>some (.sh (.tup xs))
 | _=>none
mutual
def eI:PV -> PV -> Bool
 | .non,y=>(match y with | .non=>true | _=>false)
 | .bl a,y=>(match y with | .bl b=>a == b | .int j=>(if a then 1 else 0) == j | _=>false)
 | .int i,y=>(match y with | .bl b=>i == (if b then 1 else 0) | .int j=>i == j | _=>false)
 | .str x,y=>(match y with | .str z=>x == z | _=>false)
 | .lst xs,y=>(match y with | .lst ys=>lK xs ys | _=>false)
 | .tup xs,y=>(match y with | .tup ys=>lK xs ys | _=>false)
def lK:List PV -> List PV -> Bool
 | [],ys=>(match ys with | []=>true | _ ::_=>false)
 | x ::xs,ys=>(match ys with | y ::ys=>eI x y && lK xs ys | []=>false)
end
mutual
def kW:PV -> Nat -> Bool
 | .str x,_=>x.cps.all (· < 0x110000)
 | .lst xs,n=>(match n with | 0=>false | n + 1=>nK xs n)
 | .tup xs,n=>(match n with | 0=>false | n + 1=>nK xs n)
 | _,_=>true
def nK:List PV -> Nat -> Bool
 | [],_=>true
 | x ::xs,n=>kW x n && nK xs n
end
def yb:PV -> PV -> Option RV:=fun x y=>if (kW x 64 && kW y 64) = true then some (.sh (.bl (eI x y))) else none
def yw:PV -> PV -> Option RV:=fun x y=>if (kW x 64 && kW y 64) = true then some (.sh (.bl (!eI x y))) else none
theorem u1 (ns:List Int):∀ ms:List Int,lK (ns.map .int) (ms.map .int) = decide (ns = ms):=by
 induction ns with
 | nil=>intro ms; cases ms <;> simp [lK]
 | cons n ns ih=>
   intro ms
   cases ms with
   | nil=>simp [lK]
   | cons m ms=>simp [lK,eI,ih,Bool.beq_eq_decide_eq]
theorem vx (ns:List Int) (n:Nat):nK (ns.map .int) n = true:=by
 induction ns with
 | nil=>simp [nK]
 | cons n ns ih=>simp [nK,kW,ih]
def b4:PV -> Bool
 | .lst _=>false
 | .tup _=>false
 | _=>true
def eT:PV -> PV -> Option Bool
 | x,.tup ys=>if ys.all b4 = true then some (ys.any fun y=>eI y x) else none
 | x,.lst ys=>if ys.all b4 = true then some (ys.any fun y=>eI y x) else none
 | _,_=>none
def gIn:PV -> PV -> Option RV:=fun x y=>(eT x y).map fun b=>.sh (.bl b)
def iQ:PV -> PV -> Option RV:=fun x y=>(eT x y).map fun b=>.sh (.bl (!b))
end L2.P
namespace L2.P
open PySem
def y2 (kvs:List (Int × PV)):PV -> Option RV
 | .int n=>(kvs.lookup n).map .sh
 | _=>none
def fU (kvs:List (Int × PV)):PV -> Option RV
 | .int n=>some (.sh ((kvs.lookup n).getD .non))
 | _=>none
end L2.P
namespace L2.P
open PySem
end L2.P
namespace L2
open PySem PySem.Spec PyProof.Rows
section
variable {X:Cx} {pins:List (Addr × Obj)} {σ:St} {H:Hp} {s:Shared} {h':Heap}
theorem Inv.xv {t':Nat} {its:List Addr} {a:Addr} {o:HO} (I:Inv X pins σ H s) (k:∀ b u,b ∉ its -> s.heap.get? b = some u -> h'.get? b = some u) (hf:∀ b ∈ its,oz X pins H b)
  (hp:s.heap.objs.size <= a) (new:hX X.prog X.w (upd H a o) h' a o):Inv X pins σ (upd H a o) { s with heap:=h',toks:=t' }:=by
 have hn:=I.hok.fresh hp
 have nit:∀ b u,H b = some u -> b ∉ its:=fun b u e z=>by rw [(hf b z).1] at e; cases e
 refine I.step (g':=s.gens) (d':=s.drawn) (ch:=its) (fun b hb=>?_) (fun b u _ _ hc e _=>k b u hc e) (fun b u _ _ hc e _=>⟨u.slots,k b u hc e⟩)
  (fun b u _ q n=>by rw [aW (Nat.ne_of_lt (Nat.lt_of_lt_of_le (Heap.lt_size q) hp))]; exact n)
  (fun b u hc e=>⟨u,k b u hc e⟩) (fun b xs q=>by rw [aW (cF q hn)]; exact q) (fun b u xs q=>by rw [aW (cF q hn)]; exact q) (fun b ps q=>⟨#[],by rw [aW (cF q hn),q]; simp⟩) (fun m hm=>?_) (fun b u e=>?_) I.bare
 . obtain ⟨_,f1,f2,f3,f4,f5⟩:=hf b hb
   exact ⟨f3,f1,f4,f5⟩
 . obtain ⟨ob,es,ep,ho,r⟩:=hm
   exact ⟨ob,es,ep,k _ ob (fun z=>(hf _ z).2.1 rfl) ho,r⟩
 . by_cases hb:b = a
   . subst hb; rw [ba] at e; cases e; exact new
   . rw [aW hb] at e
     refine (I.hok b u e).nT (fun c v hc q=>k c v ?_ q) (fun c q=>by rw [aW (cF q hn)]; exact q) fun c xs q=>by rw [aW (cF q hn)]; exact q
     rcases hc with z | z
     . rw [z]; exact nit b u e
     . exact nit c _ z
end
def Ite (K:PySem.W.Frag) (a:Addr):It:=
 ⟨fun i H=>∃ xs x,SqL K H a xs /\ xs[i]? = some x,fun i H v H'=>∃ t x,(∀ xs,SqL K H a xs -> xs[i]? = some x) /\ H t = none /\ v = .ref t /\ H' = upd H t (.tup [.int i,x]),fun i H=>∃ xs,SqL K H a xs /\ xs.length <= i⟩
theorem xP {P:Program} {w:World} {K:PySem.W.Frag} {elts:List Expr} {k:Nat} {pos:Pos} (a e it:Addr) (hei:e ≠ it):
  Turn P w K (.Tuple elts k pos) (Ite K a) [e,it] e (fun i h=>(∃ old,IsEnum h e it i old) /\ h.IsListIter it a i) where
 mem:=by simp
 obj:=fun i h st b hb=>by
  obtain ⟨⟨old,h1⟩,o,h2,c,d⟩:=st
  rcases List.mem_cons.mp hb with z | z
  . subst z; exact ⟨_,h1,fun v z=>by cases z⟩
  . have z':b = it:=by simpa using z
    subst z'; exact ⟨o,h2,fun v z=>by rw [d] at z; cases z⟩
 keep:=fun i h h' st k=>by
  obtain ⟨⟨old,h1⟩,h2⟩:=st
  exact ⟨⟨old,k e (by simp) _ h1⟩,h2.at fun o x=>k it (by simp) o x⟩
 item:=by
  intro X hP hw hK hc i pins s σ H E I hf st hg
  subst hP hw hK
  obtain ⟨xs,x,hq,hx⟩:=hg
  obtain ⟨its,rv,p,hz⟩:=I.list hq
  obtain ⟨u,hu,ru⟩:=rv.get hx
  obtain ⟨⟨old,he⟩,hit⟩:=st
  refine wpAny_pyNext_enum_item he hit p.isList (x:=u) (by simpa using hu) hei fun h1 ho hit1 hT hsz hk=>⟨_,rfl,?_⟩
  refine wpAny_letOwnedTupleGo_enum ho fun h2 he2 hs2=>?_
  have hT2:h2.get? s.heap.objs.size = some { cls:=.type "tuple",data:=.seq #[.int i s.toks,u] }:=(hs2.2 _ (Nat.ne_of_gt (Heap.lt_size he))).trans hT
  have nH:H s.heap.objs.size = none:=I.hok.fresh (Nat.le_refl _)
  refine ⟨.ref s.heap.objs.size,upd H s.heap.objs.size (.tup [.int i,x]),I.xv (its:=[e,it]) (t':=s.toks + 1) (fun b o hb q=>?_) hf (Nat.le_refl _) ?_,rfl,⟨_,x,fun ys hy=>by rw [I.uY hy hq]; exact hx,nH,rfl,rfl⟩,⟨⟨u,by simpa using he2⟩,?_⟩,fun b hb=>?_⟩
  . have nb:b ≠ e /\ b ≠ it:=by simpa using hb
    exact (hs2.2 b nb.1).trans (hk b o nb.1 nb.2 q)
  . exact ⟨by show 2 <= sizeLine; decide,[.int i s.toks,u],.cons ⟨_,rfl⟩ (.cons ru .nil),⟨_,hT2,rfl,_,rfl⟩⟩
  . exact hit1.at fun o y=>(hs2.2 it hei.symm).trans y
  . have:b < s.heap.objs.size:=by
     rcases List.mem_cons.mp hb with z | z
     . subst z; exact Heap.lt_size he
     . have z':b = it:=by simpa using z
       subst z'; obtain ⟨_,y,_⟩:=hit; exact Heap.lt_size y
    rw [aW (Nat.ne_of_lt this)]
    exact (hf b hb).1
 done:=by
  intro X hP hw hK hc i pins s σ H E I hf st hg
  subst hP hw hK
  obtain ⟨xs,hq,hx⟩:=hg
  obtain ⟨its,rv,p,hz⟩:=I.list hq
  obtain ⟨⟨old,he⟩,hit⟩:=st
  obtain ⟨f0,f1,f2,f3,f4,f5⟩:=hf it (by simp)
  have hl:=rv.length
  exact wpAny_pyNext_enum_end (I.ok.hd hc) he hit p.isList (by simp; omega) fun h' eb=>⟨rfl,I.turned (t':=s.toks) (fun b o hb e=>eb b o hb e) f0 f1 f3 f4 f5⟩
 self:=fun _ _ _ _ _ st h=>by
  obtain ⟨⟨old,he⟩,_⟩:=st
  exact wpAny_pyIter_enum he h
section
variable {X:Cx}
def zc (K:PySem.W.Frag) (ta:TA):TI:=fun σ H R=>ta σ H fun vs H1=>∃ a,vs = [.ref a] /\ (∃ xs,SqL K H1 a xs) /\ R (Ite K a) H1
theorem Bi {elts:List Expr} {k:Nat} {tp:Pos} {a:Expr} {ta:TA} {p pos:Pos} (hg:Gl X "enumerate") (hm:X.mg "enumerate" = none) (ha:PA X [a] ta) (hs:starEach [a] X.env = [(false,eval a X.env)]:=by rfl):
  PI X (.Tuple elts k tp) (.Call (.Name "enumerate" p) [a] [] pos) (zc X.K ta):=by
 intro pins s σ H R I h
 refine Call_ (rZ I hg hm (show bootBuiltins "enumerate" = some (.type "enumerate") by rfl) (PyProof.Rows.callWith_type1 (thn (ha pos pins s σ H _ I h) fun us s1 ⟨vs,H1,I1,r1,q1⟩=>?_) hs rfl))
 obtain ⟨l,e,⟨xs,hq⟩,q⟩:=q1
 subst e
 cases r1 with
 | cons r rr=>
   cases rr
   cases r
   obtain ⟨its,rv,p,hz⟩:=I1.list hq
   refine call_enumerate_list p.isList fun h' he hit hsz hk=>?_
   refine wpAny_pyIter_enum he ?_
   have I2:Inv X pins σ H1 { s1 with heap:=h' }:=I1.kept (t':=s1.toks) hk
   refine ⟨s1.heap.objs.size + 1,[s1.heap.objs.size + 1,s1.heap.objs.size],_,_,H1,rfl,I2,xP l _ _ (Nat.succ_ne_self _),⟨⟨.none,he⟩,hit⟩,fun b hb=>?_,q⟩
   have:s1.heap.objs.size <= b:=by
    rcases List.mem_cons.mp hb with z | z
    . subst z; exact Nat.le_succ _
    . have z':b = s1.heap.objs.size:=by simpa using z
      subst z'; exact Nat.le_refl _
   exact I1.BC this (I1.hok.fresh this)
end
theorem zV {K:PySem.W.Frag} {a:Addr} {xs:List V} {g:TG} {tb:TS} {D:Ends} {σ:St} {H:Hp} (Pv:Nat -> St -> Hp -> Prop) (h0:Pv 0 σ H) (hl:∀ i σ H,i <= xs.length -> Pv i σ H -> SqL K H a xs)
  (hs:∀ i x σ H t,xs[i]? = some x -> Pv i σ H -> H t = none -> g (.ref t) σ (upd H t (.tup [.int i,x])) fun σ2 H2=>tb { D with nx:=Pv (i + 1),ct:=Pv (i + 1),bk:=D.nx } σ2 H2) (hd:∀ σ H,Pv xs.length σ H -> D.nx σ H):
  ∃ W:Nat -> Nat -> St -> Hp -> Prop,(∃ m,W 0 m σ H) /\ ∀ i m σ H,W i m σ H ->
    ((Ite K a).stop i H /\ D.nx σ H) \/ ((Ite K a).go i H /\ ∃ N:St -> Hp -> Prop,(∀ σ' H',N σ' H' -> ∃ m',m' < m /\ W (i + 1) m' σ' H') /\ ∀ x H',(Ite K a).yld i H x H' -> g x σ H' fun σ2 H2=>tb { D with nx:=N,ct:=N,bk:=D.nx } σ2 H2):=by
 refine ⟨fun i m σ H=>m = xs.length - i /\ i <= xs.length /\ Pv i σ H,⟨xs.length,by simp,Nat.zero_le _,h0⟩,?_⟩
 rintro i m σ H ⟨rfl,hi,p⟩
 have q:=hl i σ H hi p
 by_cases hlt:i < xs.length
 . refine .inr ⟨⟨xs,xs[i],q,by simp [hlt]⟩,Pv (i + 1),fun σ' H' p'=>⟨xs.length - (i + 1),by omega,rfl,hlt,p'⟩,fun x H' y=>?_⟩
   obtain ⟨t,z,y1,y3,e1,e2⟩:=y
   subst e1 e2
   exact hs i z σ _ t (y1 xs q) p y3
 . have e:i = xs.length:=by omega
   subst e
   exact .inl ⟨⟨xs,q,Nat.le_refl _⟩,hd σ H p⟩
end L2
namespace L2.P
open PySem PySem.Spec PyProof.Rows L2 L2.E PySem.SeqAt
mutual
def dOf:PV -> PyData
 | .non=>.none
 | .bl b=>.bool b
 | .int i=>.int i
 | .str x=>.str x
 | .lst xs=>.list (nP xs)
 | .tup xs=>.tuple (nP xs)
def nP:List PV -> List PyData
 | []=>[]
 | x ::xs=>dOf x ::nP xs
end
mutual
theorem rR:∀ x y:PV,PyData.eqv (dOf x) (dOf y) = eI x y
 | .non,y=>by cases y <;> simp [dOf,PyData.eqv,eI]
 | .bl a,y=>by cases y <;> simp [dOf,PyData.eqv,eI]
 | .int a,y=>by cases y <;> simp [dOf,PyData.eqv,eI]
 | .str a,y=>by cases y <;> simp [dOf,PyData.eqv,eI]
 | .lst xs,y=>by cases y <;> simp [dOf,PyData.eqv,eI,pT xs]
 | .tup xs,y=>by cases y <;> simp [dOf,PyData.eqv,eI,pT xs]
theorem pT:∀ xs ys:List PV,PyData.eqvAll (nP xs) (nP ys) = lK xs ys
 | [],ys=>by cases ys <;> simp [nP,PyData.eqvAll,lK]
 | x ::xs,ys=>by cases ys <;> simp [nP,PyData.eqvAll,lK,rR x,pT xs]
end
mutual
theorem zE:∀ (x:PV) (n:Nat),kW x n = true -> (dOf x).canLay0 = true /\ (dOf x).depth <= n
 | .non,n,h=>by simp [dOf,PyData.canLay0,PyData.depth]
 | .bl a,n,h=>by simp [dOf,PyData.canLay0,PyData.depth]
 | .int a,n,h=>by simp [dOf,PyData.canLay0,PyData.depth]
 | .str a,n,h=>by simp [dOf,PyData.canLay0,PyData.depth]; exact h
 | .lst xs,n,h=>by
   cases n with
   | zero=>simp [kW] at h
   | succ n=>
     have:=sx xs n (by simpa [kW] using h)
     simp [dOf,PyData.canLay0,PyData.depth]
     exact ⟨this.1,by omega⟩
 | .tup xs,n,h=>by
   cases n with
   | zero=>simp [kW] at h
   | succ n=>
     have:=sx xs n (by simpa [kW] using h)
     simp [dOf,PyData.canLay0,PyData.depth]
     exact ⟨this.1,by omega⟩
theorem sx:∀ (xs:List PV) (n:Nat),nK xs n = true -> PyData.canLayAll0 (nP xs) = true /\ PyData.depthAll (nP xs) <= n
 | [],n,h=>by simp [nP,PyData.canLayAll0,PyData.depthAll]
 | x ::xs,n,h=>by
   simp [nK] at h
   have h1:=zE x n h.1
   have h2:=sx xs n h.2
   simp [nP,PyData.canLayAll0,PyData.depthAll]
   exact ⟨⟨h1.1,h2.1⟩,by omega⟩
end
section
variable {X:Cx} {pins:List (Addr × Obj)} {σ:St} {H:Hp} {s:Shared}
mutual
theorem lp (I:Inv X pins σ H s):∀ (x:PV) (v:V) (u:Value),Rep X.K H x v -> RelV v u -> ∃ as,Reads s.heap u (dOf x) as
 | .non,v,u,h,r=>by unfold Rep at h; subst h; cases r; exact ⟨_,.none⟩
 | .bl b,v,u,h,r=>by unfold Rep at h; subst h; cases r; exact ⟨_,.bool b⟩
 | .int i,v,u,h,r=>by unfold Rep at h; subst h; obtain ⟨t,rfl⟩:=r; exact ⟨_,.int i t⟩
 | .str x,v,u,h,r=>by unfold Rep at h; subst h; obtain ⟨t,rfl⟩:=r; exact ⟨_,.str x t⟩
 | .lst xs,v,u,h,r=>by
   unfold Rep at h
   obtain ⟨p,vs,rfl,hq,hr⟩:=h
   cases r
   obtain ⟨its,rv,pl,hz⟩:=I.list hq
   obtain ⟨as,ra⟩:=lE I xs vs its hr rv
   obtain ⟨o,e,c,n,d⟩:=pl.isList
   exact ⟨_,.list (xs:=nP xs) e c d (by simpa using ra)⟩
 | .tup xs,v,u,h,r=>by
   unfold Rep at h
   obtain ⟨p,vs,rfl,hq,hr⟩:=h
   cases r
   obtain ⟨its,rv,pl,hz⟩:=I.tuple hq
   obtain ⟨as,ra⟩:=lE I xs vs its hr rv
   obtain ⟨o,e,c,n,d⟩:=pl
   exact ⟨_,.tuple (xs:=nP xs) e c d (by simpa using ra)⟩
theorem lE (I:Inv X pins σ H s):∀ (xs:List PV) (vs:List V) (us:List Value),bU X.K H xs vs -> Vals vs us -> ∃ as,ReadsAll s.heap us (nP xs) as
 | [],vs,us,h,r=>by rw [h.nil_inv] at r; cases r; exact ⟨_,.nil⟩
 | x ::xs,vs,us,h,r=>by
   obtain ⟨v,t,rfl,h1,h2⟩:=h.cons_inv
   cases r with
   | cons r1 r2=>
     obtain ⟨as,ra⟩:=lp I x _ _ h1 r1
     obtain ⟨bs,rb⟩:=lE I xs _ _ h2 r2
     exact ⟨_,.cons ra rb⟩
end
def An (K:PySem.W.Frag) (A:Around) (neg:Bool):R2:=fun v u H Q=>∃ x y,Rep K H x v /\ Rep K H y u /\ (kW x 64 && kW y 64) = true /\ A.units + 64 < cLine /\ Q (.bl (if neg then !eI x y else eI x y)) H
theorem lX {x:PV} (h:kW x 64 = true):shaped (dOf x) = true:=by
 have:=zE x 64 h
 unfold shaped
 simp [this]
theorem DT:OpR X (compareOp .Eq) (An X.K X.A false):=by
 intro pins s σ H v u a b Q I rx ry h
 obtain ⟨x,y,h1,h2,ok,hu,q⟩:=h
 rw [Bool.and_eq_true] at ok
 obtain ⟨as,ra⟩:=lp I x v a h1 rx
 obtain ⟨bs,rb⟩:=lp I y u b h2 ry
 refine eq_dataH ra rb (lX ok.1) (lX ok.2) hu ⟨.bl _,H,I,rfl,?_⟩
 rw [rR]; exact q
theorem DC:OpR X (compareOp .NotEq) (An X.K X.A true):=by
 intro pins s σ H v u a b Q I rx ry h
 obtain ⟨x,y,h1,h2,ok,hu,q⟩:=h
 rw [Bool.and_eq_true] at ok
 obtain ⟨as,ra⟩:=lp I x v a h1 rx
 obtain ⟨bs,rb⟩:=lp I y u b h2 ry
 refine ne_dataH ra rb (lX ok.1) (lX ok.2) hu ⟨.bl _,H,I,rfl,?_⟩
 rw [rR]; exact q
end
section
variable {K:PySem.W.Frag} {S H:Hp}
theorem RdV.rep {x:PV} {v:V} (h:RdV K S H x v) (s:aF S H):Rep K H x v:=by
 cases x with
 | lst xs=>obtain ⟨p,vs,e,q,r⟩:=h; unfold Rep; exact ⟨p,vs,e,q,r.mono s⟩
 | non=>exact Rep.mono s h
 | bl b=>exact Rep.mono s h
 | int i=>exact Rep.mono s h
 | str x=>exact Rep.mono s h
 | tup xs=>exact Rep.mono s h
theorem Dh {A:Around} (hu:A.units + 64 < cLine):JR K (An K A false) yb:=by
 intro S H x y v u rr Q I hx hy e k
 unfold yb at e
 split at e
 . rename_i ok
   cases e
   exact ⟨x,y,hx.rep I,hy.rep I,ok,hu,k _ S H (bt.refl I) ke⟩
 . cases e
theorem DH {A:Around} (hu:A.units + 64 < cLine):JR K (An K A true) yw:=by
 intro S H x y v u rr Q I hx hy e k
 unfold yw at e
 split at e
 . rename_i ok
   cases e
   exact ⟨x,y,hx.rep I,hy.rep I,ok,hu,k _ S H (bt.refl I) ke⟩
 . cases e
end
end L2.P
namespace L2.P
open PySem PySem.Spec PyProof.Rows L2 L2.E PySem.SeqAt
section
variable {X:Cx} {K:PySem.W.Frag} {S H:Hp}
theorem qy {x:PV} {v:V} (h:Rep K H x v) (f:b4 x = true):mU v = true:=by
 cases x with
 | lst xs=>cases f
 | tup xs=>cases f
 | non=>unfold Rep at h; subst h; rfl
 | bl b=>unfold Rep at h; subst h; rfl
 | int b=>unfold Rep at h; subst h; rfl
 | str b=>unfold Rep at h; subst h; rfl
theorem Au {x y:PV} {v u:V} (h:Rep K H x v) (k:Rep K H y u) (f:b4 x = true) (g:b4 y = true):eqV u v = eI y x:=by
 cases x <;> first | (cases f; done) | skip
 all_goals (unfold Rep at h; subst h; cases y <;> first | (cases g; done) | (unfold Rep at k; subst k; simp [eqV,eI]))
theorem rF {xs:List PV} {vs:List V} (h:bU K H xs vs) (f:xs.all b4 = true):vs.all mU = true:=by
 induction xs generalizing vs with
 | nil=>rw [h.nil_inv]; rfl
 | cons x xs ih=>
   obtain ⟨v,r,rfl,h1,h2⟩:=h.cons_inv
   rw [List.all_cons,Bool.and_eq_true] at f ⊢
   exact ⟨qy h1 f.1,ih h2 f.2⟩
theorem ux {x:PV} {v:V} {xs:List PV} {vs:List V} (hx:Rep K H x v) (g:b4 x = true) (h:bU K H xs vs) (f:xs.all b4 = true):inV v vs = xs.any fun y=>eI y x:=by
 induction xs generalizing vs with
 | nil=>rw [h.nil_inv]; rfl
 | cons y xs ih=>
   obtain ⟨u,r,rfl,h1,h2⟩:=h.cons_inv
   rw [List.all_cons,Bool.and_eq_true] at f
   have:=ih h2 f.2
   unfold inV at this ⊢
   rw [List.any_cons,List.any_cons,this,Au hx h1 g f.1]
theorem ur {x:PV} {xs:List PV} (g:b4 x = false) (f:xs.all b4 = true):(xs.any fun y=>eI y x) = false:=by
 induction xs with
 | nil=>rfl
 | cons y xs ih=>
   rw [List.all_cons,Bool.and_eq_true] at f
   rw [List.any_cons,ih f.2,Bool.or_false]
   have f1:=f.1
   cases y <;> first | (cases f1; done) | (cases x <;> first | (cases g; done) | simp [eI])
theorem sQ {α:Type} (l:List α):(l.any fun _=>false) = false:=by induction l <;> simp_all
theorem nF {A:Around} {s:Shared} {pins:List (Addr × Obj)} {σ:St} (I:Inv X pins σ H s) (hu:A.units < cLine) {x:PV} {v:V} {a:Value} (hx:Rep X.K H x v) (ra:RelV v a) (g:b4 x = false):
  ∀ {xs:List PV} {vs:List V} {us:List Value},bU X.K H xs vs -> Vals vs us -> xs.all b4 = true -> ∀ u ∈ us,EqAt A s u a false:=by
 intro xs
 induction xs with
 | nil=>intro vs us h r _ u hu; rw [h.nil_inv] at r; cases r; cases hu
 | cons y xs ih=>
   intro vs us h r f u hm
   obtain ⟨w,t,rfl,h1,h2⟩:=h.cons_inv
   rw [List.all_cons,Bool.and_eq_true] at f
   cases r with
   | cons r1 r2=>
     rcases List.mem_cons.mp hm with rfl | hm
     . cases x with
       | non=>cases g
       | bl b=>cases g
       | int b=>cases g
       | str b=>cases g
       | lst zs=>
         unfold Rep at hx
         obtain ⟨p,us',rfl,hq,_⟩:=hx
         cases ra
         obtain ⟨its,_,pl,_⟩:=I.list hq
         cases y with
         | non=>unfold Rep at h1; subst h1; cases r1; exact EqAt.none_list pl.isList hu
         | bl b=>unfold Rep at h1; subst h1; cases r1; exact EqAt.bool_list b pl.isList hu
         | int b=>unfold Rep at h1; subst h1; obtain ⟨t',rfl⟩:=r1; exact EqAt.int_list b t' pl.isList hu
         | str b=>unfold Rep at h1; subst h1; obtain ⟨t',rfl⟩:=r1; exact EqAt.str_list b t' pl.isList hu
         | lst _=>cases f.1
         | tup _=>cases f.1
       | tup zs=>
         unfold Rep at hx
         obtain ⟨p,us',rfl,hq,_⟩:=hx
         cases ra
         obtain ⟨its,_,pl,_⟩:=I.tuple hq
         cases y with
         | non=>unfold Rep at h1; subst h1; cases r1; exact EqAt.none_tuple pl hu
         | bl b=>unfold Rep at h1; subst h1; cases r1; exact EqAt.bool_tuple b pl hu
         | int b=>unfold Rep at h1; subst h1; obtain ⟨t',rfl⟩:=r1; exact EqAt.int_tuple b t' pl hu
         | str b=>unfold Rep at h1; subst h1; obtain ⟨t',rfl⟩:=r1; exact EqAt.str_tuple b t' pl hu
         | lst _=>cases f.1
         | tup _=>cases f.1
     . exact ih h2 r2 f.2 u hm
def Aa (K:PySem.W.Frag) (A:Around) (neg:Bool):R2:=fun v u H Q=>∃ x ys p vs,Rep K H x v /\ u = .ref p /\ (SqL K H p vs \/ SqT K H p vs) /\ bU K H ys vs /\ ys.all b4 = true /\ A.units + 64 < cLine /\ Q (.bl (if neg then !(ys.any fun y=>eI y x) else ys.any fun y=>eI y x)) H
theorem iR:OpR X (compareOp .In) (Aa X.K X.A false):=by
 intro pins s σ H v u a b Q I rx ry h
 obtain ⟨x,ys,p,vs,hx,rfl,hq,hr,hf,hu,q⟩:=h
 cases g:b4 x with
 | true=>exact xO pins s σ H v _ a b Q I rx ry ⟨p,vs,rfl,hq,qy hx g,rF hr hf,by rw [ux hx g hr hf]; exact q⟩
 | false=>
   rw [ur g hf] at q
   cases ry
   rcases hq with hq | hq
   . obtain ⟨its,r,pl,hz⟩:=I.list hq
     refine SeqAt.in_listAt (fun _=>false) pl.isList (fun w hw=>nF I (by show X.A.units + 1 < cLine; omega) hx rx g hr r hf w (by simpa using hw)) ⟨.bl _,H,I,rfl,?_⟩
     rw [show (its.toArray.any fun _=>false) = false by simp [sQ]]
     exact q
   . obtain ⟨its,r,pl,hz⟩:=I.tuple hq
     refine SeqAt.in_tupleAt (fun _=>false) pl (fun w hw=>nF I (by show X.A.units + 1 < cLine; omega) hx rx g hr r hf w (by simpa using hw)) ⟨.bl _,H,I,rfl,?_⟩
     rw [show (its.toArray.any fun _=>false) = false by simp [sQ]]
     exact q
theorem om:OpR X (compareOp .NotIn) (Aa X.K X.A true):=by
 intro pins s σ H v u a b Q I rx ry h
 obtain ⟨x,ys,p,vs,hx,rfl,hq,hr,hf,hu,q⟩:=h
 cases g:b4 x with
 | true=>exact sW pins s σ H v _ a b Q I rx ry ⟨p,vs,rfl,hq,qy hx g,rF hr hf,by rw [ux hx g hr hf]; exact q⟩
 | false=>
   rw [ur g hf] at q
   cases ry
   rcases hq with hq | hq
   . obtain ⟨its,r,pl,hz⟩:=I.list hq
     refine SeqAt.notIn_listAt (fun _=>false) pl.isList (fun w hw=>nF I (by show X.A.units + 1 < cLine; omega) hx rx g hr r hf w (by simpa using hw)) ⟨.bl _,H,I,rfl,?_⟩
     rw [show (its.toArray.any fun _=>false) = false by simp [sQ]]
     exact q
   . obtain ⟨its,r,pl,hz⟩:=I.tuple hq
     refine SeqAt.notIn_tupleAt (fun _=>false) pl (fun w hw=>nF I (by show X.A.units + 1 < cLine; omega) hx rx g hr r hf w (by simpa using hw)) ⟨.bl _,H,I,rfl,?_⟩
     rw [show (its.toArray.any fun _=>false) = false by simp [sQ]]
     exact q
theorem wO {A:Around} {neg:Bool} {x y:PV} {v u:V} {b:Bool} {Q:VK} (hu:A.units + 64 < cLine) (I:aF S H) (hx:RdV K S H x v) (hy:RdV K S H y u) (e:eT x y = some b) (k:∀ z S' H',bt S H S' H' -> jT K H S' H' (.sh (.bl (if neg then !b else b))) z -> Q z H'):Aa K A neg v u H Q:=by
 cases y with
 | tup ys=>
   simp only [eT] at e
   by_cases hf:ys.all b4 = true
   . rw [if_pos hf] at e
     cases e
     obtain ⟨p,vs,rfl,hq,hr⟩:=lL hy
     exact ⟨x,ys,p,vs,hx.rep I,rfl,.inr (aF.tup I hq),hr.mono I,hf,hu,k _ S H (bt.refl I) ke⟩
   . rw [if_neg hf] at e; cases e
 | lst ys=>
   simp only [eT] at e
   by_cases hf:ys.all b4 = true
   . rw [if_pos hf] at e
     cases e
     obtain ⟨p,vs,rfl,hq,hr⟩:=hV hy
     exact ⟨x,ys,p,vs,hx.rep I,rfl,.inl hq,hr.mono I,hf,hu,k _ S H (bt.refl I) ke⟩
   . rw [if_neg hf] at e; cases e
 | _=>simp only [eT] at e; cases e
theorem kK {A:Around} (hu:A.units + 64 < cLine):JR K (Aa K A false) gIn:=by
 intro S H x y v u rr Q I hx hy e k
 obtain ⟨b,e1,e2⟩:=Option.map_eq_some_iff.mp e
 subst e2
 exact wO hu I hx hy e1 k
theorem qm {A:Around} (hu:A.units + 64 < cLine):JR K (Aa K A true) iQ:=by
 intro S H x y v u rr Q I hx hy e k
 obtain ⟨b,e1,e2⟩:=Option.map_eq_some_iff.mp e
 subst e2
 exact wO hu I hx hy e1 k
end
end L2.P
namespace L2.P
open PySem PySem.Spec PyProof.Rows L2 L2.E
section
variable {K:PySem.W.Frag} {cls:String -> Option Addr} {W:XW} {Av G S₀ S S' H H' B B':Hp} {ρ:ae} {σ:St} {Q:VK}
abbrev g2 (K:PySem.W.Frag) (i j:Nat):TG:=CI K 2 (wo (kO i) (wo (kO j) CF))
theorem vI {i j:Nat} {tb:TS} {mb:ae -> OS} {D:Ends} {x y:PV} {xs:List PV} {v u:V} {t:Addr} {N:St -> Hp -> Prop} (hb:JS K cls W tb mb) (I:SR K cls Av G S₀ ρ σ S H) (hx:Rep K S x v) (hy:Rep K S y u) (ht:SqT K H t [v,u])
  (p:gA K cls W Av G S₀ S D (km i j mb (.tup [x,y] ::xs) ρ)) (hN:∀ ρ' σ' S' H',SR K cls Av G S₀ ρ' σ' S' H' -> aF S S' -> gA K cls W Av G S₀ S' D (km i j mb xs ρ') -> N σ' H'):
  g2 K i j (.ref t) σ H fun σ2 H2=>tb { D with nx:=N,ct:=N,bk:=D.nx } σ2 H2:=by
 refine ⟨t,_,rfl,ht,rfl,_,_,rfl,_,_,rfl,rfl,?_⟩
 refine hb Av G S₀ _ _ S H _ ((I.tQ hx).tQ hy) ?_
 unfold km at p
 cases e:mb ((ρ.set i (some (.sh x))).set j (some (.sh y))) with
 | nx ρ'=>rw [e] at p; exact fun σ' S' H' I' s'=>hN ρ' σ' S' H' I' s' (p.back s')
 | ct ρ'=>rw [e] at p; exact fun σ' S' H' I' s'=>hN ρ' σ' S' H' I' s' (p.back s')
 | bk ρ'=>rw [e] at p; exact p
 | rt ρ' r=>rw [e] at p; exact p
 | exc ρ' c fs=>rw [e] at p; exact p
 | bad=>rw [e] at p; exact p
theorem vn (xs:List PV):∀ (k n:Nat) (y:PV),xs[k]? = some y -> o1 (n + k) (xs.drop k) = .tup [.int ((n + k:Nat):Int),y] ::o1 (n + (k + 1)) (xs.drop (k + 1)):=by
 intro k n y hy
 have hk:k < xs.length:=(List.getElem?_eq_some_iff.mp hy).1
 rw [List.drop_eq_getElem_cons hk]
 have:xs[k] = y:=(List.getElem?_eq_some_iff.mp hy).2
 rw [this]
 rfl
theorem Bh {i j:Nat} {tl:TE} {tb:TS} {ml:ae -> OE} {mb:ae -> OS} (hl:JE K cls W tl ml) (hb:JS K cls W tb mb):JS K cls W (y8 (zc K (jm tl kU)) (g2 K i j) tb) (we i j ml mb):=by
 intro Av G S₀ ρ σ S H D I p
 refine hl Av G S₀ ρ σ S H _ I ?_
 unfold we at p
 cases em:ml ρ with
 | exc c fs=>rw [em] at p; exact fun a C S' H' w x=>p a C σ S' H' (I.grow w) w.s x
 | bad=>rw [em] at p; exact p
 | ok r=>
   rw [em] at p
   intro v S1 H1 w1 r1
   simp only [OE.bL] at p
   cases ei:vy r with
   | none=>rw [ei] at p; exact p.elim
   | some xs=>
     rw [ei] at p
     have es:jG r = some (.lst xs):=by
      cases r with
      | sh y=>cases y <;> cases ei <;> rfl
      | fr ys=>cases ei; rfl
      | al ys=>cases ei
     obtain ⟨S2,w2,s2,rx⟩:=r1.share w1 es
     have I2:=I.grow w2
     unfold Rep at rx
     obtain ⟨a,vs,rfl,hq,hr⟩:=rx
     show ∃ a',[V.ref a] = [V.ref a'] /\ _
     refine ⟨a,rfl,⟨vs,aF.seq I2.sh hq⟩,?_⟩
     refine zV (xs:=vs) (fun k σ' H'=>∃ ρ' S',SR K cls Av G S₀ ρ' σ' S' H' /\ aF S2 S' /\ gA K cls W Av G S₀ S' D (km i j mb (o1 (0 + k) (xs.drop k)) ρ'))
      ⟨ρ,S2,I2,aF.refl _,p.back w2.s⟩ ?_ ?_ ?_
     . rintro k σ' H' _ ⟨ρ',S',I',s',_⟩
       exact aF.seq (s'.trans I'.sh) hq
     . rintro k x σ' H' t hx ⟨ρ',S',I',s',p'⟩ ht
       obtain ⟨y,hy,ry⟩:=hr.Fe hx
       rw [vn xs k 0 y hy] at p'
       have w3:bt S' H' S' (upd H' t (.tup [.int k,x])):=bt.heap I'.sh ht
       refine vI hb (I'.grow w3) (x:=.int ((0 + k:Nat):Int)) (v:=.int k) (by unfold Rep; rw [Nat.zero_add]) (Rep.mono s' ry) (SqT.new ba) p' fun ρ2 σ2 S3 H3 I3 s3 p3=>⟨ρ2,S3,I3,s'.trans s3,p3⟩
     . rintro σ' H' ⟨ρ',S',I',s',p'⟩
       rw [List.drop_of_length_le (by rw [hr.length]; exact Nat.le_refl _)] at p'
       exact p' σ' S' H' I' (aF.refl _)
end
end L2.P
namespace L2.E
open PySem PySem.Spec PyProof.Rows L2
theorem AX {X:Cx} {elts:List Expr} {k:Nat} {tp:Pos} {a:Expr} {ta:TA} {p pos:Pos} (hg:Gl X "enumerate") (hm:X.mg "enumerate" = none) (ha:QA X [a] ta) (hs:starEach [a] X.env = [(false,eval a X.env)]:=by rfl):
  QI X (.Tuple elts k tp) (.Call (.Name "enumerate" p) [a] [] pos) (zc X.K ta):=⟨Bi hg hm ha.out hs⟩
structure QGs (X:Cx) (es:List Expr) (t:TGs):Prop where
 out:PGs X es t
theorem A0 {X:Cx}:QGs X [] CF:=⟨BH⟩
theorem uf {X:Cx} {e:Expr} {es:List Expr} {t:TG} {u:TGs} (h1:QG X e t) (h2:QGs X es u)
  (hs:(assignEach (e ::es) X.env).map (·.2) = assign e X.env ::(assignEach es X.env).map (·.2):=by rfl):QGs X (e ::es) (wo t u):=⟨yV h1.out h2.out hs⟩
theorem DE {X:Cx} {es:List Expr} {k:Nat} {t:TGs} {n:Nat} {pos:Pos} (hc:X.calm = true) (h:QGs X es t)
  (hn:(assignEach es X.env).length = n:=by rfl) (hst:(assignEach es X.env).findIdx? (·.1) = none:=by rfl):QG X (.Tuple es k pos) (CI X.K n t):=⟨CH hc h.out hn hst⟩
end L2.E
namespace L2.P
open PySem PySem.Spec PyProof.Rows L2 L2.E
section
variable {K:PySem.W.Frag} {cls:String -> Option Addr} {W:XW} {Av G S₀ S S' H H' B B':Hp} {ρ:ae} {σ:St} {Q:VK} {F:Nat -> List Addr}
theorem bJ.length {ts:List OV} {vs:List V} {f:List Addr} (h:bJ K cls S H ts vs f):vs.length = ts.length:=by
 induction ts generalizing vs f with
 | nil=>unfold bJ at h; rw [h.1]; rfl
 | cons t ts ih=>
   unfold bJ at h
   obtain ⟨v,r,f1,f2,rfl,_,_,h2⟩:=h
   simp [ih h2]
theorem bJ.cons_inv {t:OV} {ts:List OV} {vs:List V} {fp:List Addr} (h:bJ K cls S H (t ::ts) vs fp):∃ v r f1 f2,vs = v ::r /\ fp = f1 ++ f2 /\ bM K cls S H t v f1 /\ bJ K cls S H ts r f2:=by unfold bJ at h; exact h
theorem bJ.cons {t:OV} {ts:List OV} {v:V} {vs:List V} {f1 f2:List Addr} (h:bM K cls S H t v f1) (r:bJ K cls S H ts vs f2):bJ K cls S H (t ::ts) (v ::vs) (f1 ++ f2):=by unfold bJ; exact ⟨v,vs,f1,f2,rfl,rfl,h,r⟩
theorem bJ.nil:bJ K cls S H [] [] []:=by unfold bJ; exact ⟨rfl,rfl⟩
theorem bJ.append {ts us:List OV} {vs ws:List V} {f g:List Addr} (h:bJ K cls S H ts vs f) (k:bJ K cls S H us ws g):bJ K cls S H (ts ++ us) (vs ++ ws) (f ++ g):=by
 induction ts generalizing vs f with
 | nil=>unfold bJ at h; rw [h.1,h.2]; exact k
 | cons t ts ih=>
   obtain ⟨v,r,f1,f2,rfl,rfl,h1,h2⟩:=h.cons_inv
   have:=bJ.cons h1 (ih h2)
   rw [List.append_assoc]
   exact this
theorem bJ.shs {xs:List PV} {vs:List V} (h:bU K S xs vs):bJ K cls S H (xs.map .sh) vs []:=by
 induction xs generalizing vs with
 | nil=>rw [h.nil_inv]; exact .nil
 | cons x xs ih=>
   obtain ⟨v,r,rfl,h1,h2⟩:=h.cons_inv
   exact bJ.cons (f1:=[]) (by unfold bM; exact ⟨rfl,h1⟩) (ih h2)
theorem bJ.flat {ts:List OV} {xs:List PV} {vs:List V} {f:List Addr} (e:uh ts = some xs) (h:bJ K cls S H ts vs f):bU K S xs vs /\ f = []:=by
 induction ts generalizing xs vs f with
 | nil=>cases e; unfold bJ at h; rw [h.1,h.2]; exact ⟨.nil,rfl⟩
 | cons t ts ih=>
   cases t with
   | sh x=>
     obtain ⟨ys,e1,e2⟩:=Option.map_eq_some_iff.mp e
     subst e2
     obtain ⟨v,r,f1,f2,rfl,rfl,h1,h2⟩:=h.cons_inv
     unfold bM at h1
     obtain ⟨h3,h4⟩:=ih e1 h2
     exact ⟨.cons h1.2 h3,by rw [h1.1,h4]; rfl⟩
   | ol _=>cases e
   | ob _ _ _=>cases e
   | di _=>cases e
   | dt _=>cases e
theorem bJ.at {ts:List OV} {vs:List V} {f:List Addr} {k:Nat} {u:OV} (h:bJ K cls S H ts vs f) (e:ts[k]? = some u):
  ∃ w f1 rest,vs[k]? = some w /\ bM K cls S H u w f1 /\ f.Perm (f1 ++ rest) /\
    ∀ S' H' u' w' f',aF S S' -> bM K cls S' H' u' w' f' -> (∀ a ∈ rest,∀ o,H a = some o -> H' a = some o) -> ∃ g,bJ K cls S' H' (ts.set k u') (vs.set k w') g /\ g.Perm (f' ++ rest):=by
 induction ts generalizing vs f k with
 | nil=>simp at e
 | cons t ts ih=>
   obtain ⟨v,r,f1,f2,rfl,rfl,h1,h2⟩:=h.cons_inv
   cases k with
   | zero=>
     simp at e
     subst e
     refine ⟨v,f1,f2,rfl,h1,List.Perm.refl _,fun S' H' u' w' f' s r' g=>?_⟩
     exact ⟨f' ++ f2,bJ.cons r' (h2.mono s g),List.Perm.refl _⟩
   | succ k=>
     simp at e
     obtain ⟨w,g1,rest,e1,r1,p1,c1⟩:=ih h2 e
     refine ⟨w,g1,f1 ++ rest,by simpa using e1,r1,?_,fun S' H' u' w' f' s r' g=>?_⟩
     . have:(f1 ++ f2).Perm (f1 ++ (g1 ++ rest)):=List.Perm.append_left f1 p1
       refine this.trans ?_
       rw [<- List.append_assoc,<- List.append_assoc]
       exact List.Perm.append_right rest List.perm_append_comm
     . obtain ⟨g2,r2,p2⟩:=c1 S' H' u' w' f' s r' fun a ha=>g a (List.mem_append_right _ ha)
       refine ⟨f1 ++ g2,bJ.cons (h1.mono s fun a ha=>g a (List.mem_append_left _ ha)) r2,?_⟩
       refine (List.Perm.append_left f1 p2).trans ?_
       rw [<- List.append_assoc,<- List.append_assoc]
       exact List.Perm.append_right rest List.perm_append_comm
theorem wA {ks:List Str} {ts:List OV} {f:Str} {u:OV} (h:lj ks ts f = some u):∃ k,ts[k]? = some u /\ ks[k]? = some f /\ (∀ u',qF ks ts f u' = ts.set k u') /\ ∀ {α:Type} (us:List (Str × α)),us.map (·.1) = ks -> us.lookup f = (us.map (·.2))[k]?:=by
 induction ks generalizing ts with
 | nil=>simp [lj] at h
 | cons g ks ih=>
   cases ts with
   | nil=>simp [lj] at h
   | cons t ts=>
     unfold lj at h
     split at h
     . rename_i e
       subst e
       cases h
       refine ⟨0,rfl,rfl,fun u'=>by simp [qF],fun us eu=>?_⟩
       cases us with
       | nil=>cases eu
       | cons q us=>
         simp at eu
         obtain ⟨a,b⟩:=q
         simp at eu
         rw [<- eu.1]
         simp [List.lookup]
     . rename_i ne
       obtain ⟨k,e1,e2,e3,e4⟩:=ih h
       refine ⟨k + 1,by simpa using e1,by simpa using e2,fun u'=>by simp [qF,ne,e3],fun us eu=>?_⟩
       cases us with
       | nil=>cases eu
       | cons q us=>
         obtain ⟨a,b⟩:=q
         simp at eu
         have:(f == a) = false:=by rw [eu.1]; simpa using Ne.symm ne
         simp [List.lookup,this,e4 us eu.2]
def qK (H:Hp):Stp -> V -> V -> Prop
 | .ix k,v,w=>∃ p vs,v = .ref p /\ H p = some (.lst vs) /\ vs[k]? = some w
 | .fd f,v,w=>∃ p C dx us,v = .ref p /\ H p = some (.ins C dx us) /\ us.lookup f = some w
def iG (H:Hp):V -> List Stp -> V -> Prop
 | v,[],w=>w = v
 | v,s ::π,w=>∃ u,qK H s v u /\ iG H u π w
theorem qK.inj {s:Stp} {v w w':V} (h:qK H s v w) (k:qK H s v w'):w = w':=by
 cases s with
 | ix n=>
   obtain ⟨p,vs,rfl,e1,e2⟩:=h
   obtain ⟨p',vs',e3,e4,e5⟩:=k
   cases e3
   rw [e1] at e4; cases e4
   rw [e2] at e5; cases e5; rfl
 | fd f=>
   obtain ⟨p,C,dx,us,rfl,e1,e2⟩:=h
   obtain ⟨p',C',dx',us',e3,e4,e5⟩:=k
   cases e3
   rw [e1] at e4; cases e4
   rw [e2] at e5; cases e5; rfl
theorem iG.inj {π:List Stp}:∀ {v w w':V},iG H v π w -> iG H v π w' -> w = w':=by
 induction π with
 | nil=>intro v w w' h k; rw [h,k]
 | cons s π ih=>
   rintro v w w' ⟨u,h1,h2⟩ ⟨u',k1,k2⟩
   have:=h1.inj k1
   subst this
   exact ih h2 k2
theorem iG.snoc {π:List Stp} {s:Stp}:∀ {v w u:V},iG H v π w -> qK H s w u -> iG H v (π ++ [s]) u:=by
 induction π with
 | nil=>intro v w u h k; rw [h] at k; exact ⟨u,k,rfl⟩
 | cons t π ih=>
   rintro v w u ⟨x,h1,h2⟩ k
   exact ⟨x,h1,ih h2 k⟩
theorem iG.mono {π:List Stp} (g:aF H H'):∀ {v w:V},iG H v π w -> iG H' v π w:=by
 induction π with
 | nil=>intro v w h; exact h
 | cons t π ih=>
   rintro v w ⟨x,h1,h2⟩
   refine ⟨x,?_,ih h2⟩
   cases t with
   | ix k=>obtain ⟨p,vs,e,e1,e2⟩:=h1; exact ⟨p,vs,e,g _ _ e1,e2⟩
   | fd f=>obtain ⟨p,C,dx,us,e,e1,e2⟩:=h1; exact ⟨p,C,dx,us,e,g _ _ e1,e2⟩
theorem bM.step {t u:OV} {v:V} {fp:List Addr} {s:Stp} (h:bM K cls S H t v fp) (e:t.at1 s = some u):
  ∃ w f1 rest,qK H s v w /\ bM K cls S H u w f1 /\ fp.Perm (f1 ++ rest) /\
    ∀ S' H' u' f',aF S S' -> bM K cls S' H' u' w f' -> (∀ a ∈ rest,∀ o,H a = some o -> H' a = some o) -> ∃ g,bM K cls S' H' (t.yn s u') v g /\ g.Perm (f' ++ rest):=by
 cases t with
 | sh x=>cases s <;> cases e
 | di x=>cases s <;> cases e
 | dt x=>cases s <;> cases e
 | ol ts=>
   cases s with
   | fd f=>cases e
   | ix k=>
     unfold bM at h
     obtain ⟨p,vs,f,rfl,hp,rfl,r⟩:=h
     obtain ⟨w,f1,rest,e1,r1,p1,c1⟩:=r.at e
     refine ⟨w,f1,p ::rest,⟨p,vs,rfl,hp,e1⟩,r1,?_,fun S' H' u' f' s r' g=>?_⟩
     . exact (List.Perm.cons p p1).trans (List.perm_middle.symm)
     . obtain ⟨g2,r2,p2⟩:=c1 S' H' u' w f' s r' fun a ha=>g a (by simp [ha])
       refine ⟨p ::g2,?_,(List.Perm.cons p p2).trans List.perm_middle.symm⟩
       rw [jR e1] at r2
       unfold OV.yn bM
       exact ⟨p,vs,g2,rfl,g p (by simp) _ hp,rfl,r2⟩
 | ob c ks ts=>
   cases s with
   | ix k=>cases e
   | fd f=>
     unfold bM at h
     obtain ⟨p,C,dx,us,ff,rfl,hc,hp,hd,hk,rfl,r⟩:=h
     obtain ⟨k,e1,e2,e3,e4⟩:=wA e
     obtain ⟨w,f1,rest,q1,r1,p1,c1⟩:=r.at e1
     refine ⟨w,f1,p ::dx ::rest,⟨p,C,dx,us,rfl,hp,by rw [e4 us hk]; exact q1⟩,r1,?_,fun S' H' u' f' s r' g=>?_⟩
     . exact ((List.Perm.cons p ((List.Perm.cons dx p1).trans List.perm_middle.symm))).trans List.perm_middle.symm
     . obtain ⟨g2,r2,p2⟩:=c1 S' H' u' w f' s r' fun a ha=>g a (by simp [ha])
       refine ⟨p ::dx ::g2,?_,(List.Perm.cons p ((List.Perm.cons dx p2).trans List.perm_middle.symm)).trans List.perm_middle.symm⟩
       rw [jR q1] at r2
       unfold OV.yn bM
       exact ⟨p,C,dx,us,g2,rfl,hc,g p (by simp) _ hp,g dx (by simp) _ hd,hk,rfl,by rw [e3]; exact r2⟩
theorem bM.focus {π:List Stp}:∀ {t u:OV} {v:V} {fp:List Addr},bM K cls S H t v fp -> t.get π = some u ->
  ∃ w f1 rest,iG H v π w /\ bM K cls S H u w f1 /\ fp.Perm (f1 ++ rest) /\
    ∀ S' H' u' f',aF S S' -> bM K cls S' H' u' w f' -> (∀ a ∈ rest,∀ o,H a = some o -> H' a = some o) -> ∃ g,bM K cls S' H' (t.put π u') v g /\ g.Perm (f' ++ rest):=by
 induction π with
 | nil=>
   intro t u v fp h e
   cases e
   exact ⟨v,fp,[],rfl,h,by simp,fun S' H' u' f' _ r' _=>⟨f',by unfold OV.put; exact r',by simp⟩⟩
 | cons s π ih=>
   intro t u v fp h e
   unfold OV.get at e
   obtain ⟨t1,e1,e2⟩:=Option.bind_eq_some_iff.mp e
   obtain ⟨w1,f1,rest1,st,r1,p1,c1⟩:=h.step e1
   obtain ⟨w,f2,rest2,wk,r2,p2,c2⟩:=ih r1 e2
   refine ⟨w,f2,rest2 ++ rest1,⟨w1,st,wk⟩,r2,?_,fun S' H' u' f' s' r' g=>?_⟩
   . rw [<- List.append_assoc]
     exact p1.trans (List.Perm.append_right rest1 p2)
   . obtain ⟨g1,q1,k1⟩:=c2 S' H' u' f' s' r' fun a ha=>g a (List.mem_append_left _ ha)
     obtain ⟨g2,q2,k2⟩:=c1 S' H' _ g1 s' q1 fun a ha=>g a (List.mem_append_right _ ha)
     refine ⟨g2,?_,?_⟩
     . unfold OV.put
       rw [e1]
       exact q2
     . rw [<- List.append_assoc]
       exact k2.trans (List.Perm.append_right rest1 k1)
theorem SR.tree {i:Nat} {t:OV} (I:SR K cls Av G S₀ ρ σ S H) (e:jc i ρ = some t):∃ v fp,σ[i]? = some (some v) /\ bM K cls S H t v fp:=by
 obtain ⟨F,J⟩:=I
 unfold jc at e
 cases q:ρ[i]? with
 | none=>rw [q] at e; cases e
 | some o=>
   cases o with
   | none=>rw [q] at e; cases e
   | some s=>
     rw [q] at e
     obtain ⟨v,e1,r⟩:=J.own i s q
     cases s with
     | tr io t'=>cases e; exact ⟨v,_,e1,r.1⟩
     | bo t'=>
       cases e
       obtain ⟨_,f,r⟩:=r
       exact ⟨v,f,e1,r.mono (aF.refl _) fun _ _ _ h=>J.gh _ _ h⟩
     | sh x=>cases e
     | ow xs=>cases e
     | ex c fs=>cases e
def JP (K:PySem.W.Frag) (cls:String -> Option Addr) (te:TE) (i:Nat) (mp:MP):Prop:=∀ Av G S₀ ρ σ S H Q v0 t π,SR K cls Av G S₀ ρ σ S H -> jc i ρ = some t -> σ[i]? = some (some v0) -> mp ρ = some π -> (t.get π).isSome = true ->
 (∀ w S' H',bt S H S' H' -> iG H' v0 π w -> Q w H') -> te σ H Q
theorem iS {i:Nat}:JP K cls (qB i) i fj:=by
 intro Av G S₀ ρ σ S H Q v0 t π I e ev ep _ k
 cases ep
 exact ⟨v0,ev,k v0 S H (bt.refl I.sh) rfl⟩
theorem JP.sub {i:Nat} {te:TE} {mp:MP} {u:OV} {Q:VK} (hp:JP K cls te i mp) (I:SR K cls Av G S₀ ρ σ S H) (e:subAt i mp ρ = some u)
  (k:∀ w S' H' f,bt S H S' H' -> SR K cls Av G S₀ ρ σ S' H' -> bM K cls S' H' u w f -> Q w H'):te σ H Q:=by
 unfold subAt at e
 split at e
 . rename_i t et
   split at e
   . rename_i π eπ
     obtain ⟨v0,fp0,ev,_⟩:=I.tree et
     refine hp Av G S₀ ρ σ S H _ v0 t π I et ev eπ (by rw [e]; rfl) fun w S1 H1 w1 wk=>?_
     obtain ⟨v,fp,ev',ro⟩:=(I.grow w1).tree et
     rw [ev] at ev'; cases ev'
     obtain ⟨w',f1,rest,wk',r',_,_⟩:=ro.focus e
     have:=wk.inj wk'
     subst this
     exact k w S1 H1 f1 w1 (I.grow w1) r'
   . cases e
 . cases e
theorem tY {i:Nat} {te:TE} {mp:MP} {f:Str} {ok:String -> Bool} (hp:JP K cls te i mp) (ha:∀ c C,cls c = some C -> ok c = true -> Cls K C /\ jF K C f):JP K cls (C9 K te f) i (pFd i mp f ok):=by
 intro Av G S₀ ρ σ S H Q v0 t π I e ev ep hs k
 unfold pFd at ep
 split at ep
 . rename_i c ks ts es
   split at ep
   . rename_i hok
     rw [Bool.and_eq_true] at hok
     obtain ⟨π0,e0,rfl⟩:=Option.map_eq_some_iff.mp ep
     have e1:t.get π0 = some (.ob c ks ts):=by
      unfold subAt at es
      rw [e] at es
      dsimp only at es
      rw [e0] at es
      exact es
     refine hp Av G S₀ ρ σ S H _ v0 t π0 I e ev e0 (by rw [e1]; rfl) fun w S1 H1 w1 wk=>?_
     have I1:=I.grow w1
     obtain ⟨v,fp,ev',ro⟩:=I1.tree e
     rw [ev] at ev'; cases ev'
     obtain ⟨w',f1,rest,wk',r',_,_⟩:=ro.focus e1
     have:=wk.inj wk'
     subst this
     unfold bM at r'
     obtain ⟨p,C,dx,us,ff,rfl,hcl,hp',hd,hk,rfl,r⟩:=r'
     obtain ⟨a1,a2⟩:=ha c C hcl hok.1
     cases q:lj ks ts f with
     | none=>rw [q] at hok; cases hok.2
     | some u=>
       obtain ⟨n,h1,h2,h3,h4⟩:=wA q
       have hn:n < (us.map (·.2)).length:=by rw [r.length]; exact (List.getElem?_eq_some_iff.mp h1).1
       have hx:us.lookup f = some (us.map (·.2))[n]:=by rw [h4 us hk]; exact List.getElem?_eq_getElem hn
       exact ⟨p,C,dx,us,_,rfl,hp',a1,a2,hx,k _ S1 H1 w1 (wk'.snoc ⟨p,C,dx,us,rfl,hp',hx⟩)⟩
   . cases ep
 . cases ep
theorem wz {i:Nat} {te:TE} {mp:MP} (hp:JP K cls te i mp):JE K cls W te (oJ i mp):=by
 intro Av G S₀ ρ σ S H Q I p
 unfold oJ at p
 split at p
 . rename_i x e
   refine hp.sub I e fun w S1 H1 f w1 _ r=>?_
   unfold bM at r
   exact p w S1 H1 w1 r.2
 . rename_i ts e
   split at p
   . rename_i xs ex
     refine hp.sub I e fun w S1 H1 f w1 _ r=>?_
     unfold bM at r
     obtain ⟨q,vs,ff,rfl,hq,_,rs⟩:=r
     exact p _ S1 H1 w1 ⟨q,vs,rfl,SqL.new hq,(rs.flat ex).1⟩
   . exact p.elim
 . exact p.elim
theorem xl {i:Nat} {te:TE} {mp:MP} (hp:JP K cls te i mp):JT K cls W (fun σ H Q=>te σ H fun x H'=>∃ k,vG K x H' k /\ Q k H') (nN i mp):=by
 intro Av G S₀ ρ σ S H Q I p
 unfold nN at p
 split at p
 . rename_i ts e
   refine hp.sub I e fun w S1 H1 f w1 _ r=>?_
   unfold bM at r
   obtain ⟨q,vs,ff,rfl,hq,_,rs⟩:=r
   refine ⟨_,.inl ⟨vs,SqL.new hq,rfl⟩,?_⟩
   have:vs.isEmpty = ts.isEmpty:=by
    have:=rs.length
    cases vs <;> cases ts <;> simp_all
   rw [this]
   exact p S1 H1 w1
 . exact p.elim
end
end L2.P
namespace L2.P
open PySem PySem.Spec PyProof.Rows L2 L2.E
section
variable {K:PySem.W.Frag} {cls:String -> Option Addr} {W:XW} {Av G S₀ S S' H H' B B':Hp} {ρ:ae} {σ:St} {Q:VK} {F:Nat -> List Addr}
theorem SRF.part {i:Nat} {io:Bool} {t u:OV} {v0:V} {π:List Stp} (J:SRF K cls Av G S₀ ρ σ S H F) (hi:ρ[i]? = some (some (.tr io t))) (hv:σ[i]? = some (some v0)) (e:t.get π = some u):
  ∃ w f1 rest,iG H v0 π w /\ bM K cls S H u w f1 /\ (F i).Perm (f1 ++ rest) /\ (f1 ++ rest).Nodup /\ (∀ a ∈ f1,G a = none /\ S a = none) /\
    ∀ S' H' u' f',aF S S' -> aF S' H' -> aF G H' -> (∀ b,S' b ≠ none -> S₀ b ≠ none \/ G b = none) -> bM K cls S' H' u' w f' -> f'.Nodup -> (∀ a ∈ f',a ∈ f1 \/ H a = none) -> (∀ a ∈ f',S' a = none) ->
      (∀ a o,a ∉ f1 -> H a = some o -> H' a = some o) -> (∀ a,S' a ≠ none -> S a ≠ none \/ H a = none \/ a ∈ f1) ->
      ∃ g,SRF K cls Av G S₀ (ρ.set i (some (.tr io (t.put π u')))) σ S' H' (mJ F i g) /\ g.Perm (f' ++ rest):=by
 obtain ⟨v,ev,ro,nd,gs,hio⟩:=J.own i _ hi
 rw [hv] at ev; cases ev
 obtain ⟨w,f1,rest,wk,r1,p1,c1⟩:=ro.focus e
 have nd1:(f1 ++ rest).Nodup:=p1.nodup_iff.mp nd
 have in1:∀ a,a ∈ f1 -> a ∈ F i:=fun a ha=>p1.mem_iff.mpr (List.mem_append_left _ ha)
 have inr:∀ a,a ∈ rest -> a ∈ F i:=fun a ha=>p1.mem_iff.mpr (List.mem_append_right _ ha)
 have off1:∀ a,a ∈ rest -> a ∉ f1:=fun a ha hb=>(List.nodup_append.mp nd1).2.2 a hb a ha rfl
 refine ⟨w,f1,rest,wk,r1,p1,nd1,fun a ha=>gs a (in1 a ha),fun S' H' u' f' s sh gh new r' nd' fr nS keep nw=>?_⟩
 obtain ⟨g,rg,pg⟩:=c1 S' H' u' f' s r' fun a ha o h=>keep a o (off1 a ha) h
 have noS:∀ j a,a ∈ F j -> a ∉ f1 -> S' a = none:=fun j a ha hb=>by
  cases q:S' a with
  | none=>rfl
  | some o=>
    obtain ⟨⟨o',h1,_⟩,_,h3⟩:=J.live j a ha
    rcases nw a (by rw [q]; simp) with z | z | z
    . exact absurd h3 z
    . rw [h1] at z; cases z
    . exact absurd z hb
 have J1:SRF K cls Av G S₀ (ρ.set i none) (σ.set i none) S H (mJ F i []):=J.put (fun t e=>nomatch e) (fun a ha=>nomatch ha) fun j a _ ha=>nomatch ha
 have off:∀ j a,a ∈ mJ F i [] j -> a ∉ f1 /\ j ≠ i:=fun j a ha=>by
  by_cases ej:j = i
  . subst ej; rw [iB] at ha; cases ha
  . rw [e7 ej] at ha
    exact ⟨fun hb=>ej (J.apart j i a ha (in1 a hb)),ej⟩
 have J2:=J1.change (S':=S') (H':=H') gh s sh new (fun j a ha o h=>keep a o (off j a ha).1 h)
  (fun b o hx h=>keep b o (fun hb=>by
    obtain ⟨⟨o',h1,h2⟩,_⟩:=J.live i b (in1 b hb)
    rw [h] at h1; cases h1; rw [hx] at h2; cases h2) h)
  fun j a ha=>by
   have hj:=off j a ha
   rw [e7 hj.2] at ha
   exact noS j a ha hj.1
 have mem:∀ a,a ∈ g -> a ∈ f' \/ a ∈ rest:=fun a ha=>List.mem_append.mp (pg.mem_iff.mp ha)
 have hlive:∀ a ∈ g,(∃ o,H' a = some o /\ isX o = false) /\ G a = none /\ S' a = none:=fun a ha=>by
  refine ⟨rg.live a ha,?_,?_⟩
  . rcases mem a ha with z | z
    . rcases fr a z with y | y
      . exact (gs a (in1 a y)).1
      . exact J.gh.free y
    . exact (gs a (inr a z)).1
  . rcases mem a ha with z | z
    . exact nS a z
    . exact noS i a (inr a z) (off1 a z)
 have ndg:g.Nodup:=pg.nodup_iff.mpr (List.nodup_append.mpr ⟨nd',(List.nodup_append.mp nd1).2.1,fun a ha b hb z=>by
  subst z
  rcases fr a ha with y | y
  . exact off1 a hb y
  . obtain ⟨⟨o',h1,_⟩,_⟩:=J.live i a (inr a hb)
    rw [y] at h1; cases h1⟩)
 have J3:=J2.put (i:=i) (s:=some (.tr io (t.put π u'))) (u:=some v0) (fp:=g) (fun t' e=>by
  cases e
  exact ⟨v0,rfl,rg,ndg,fun a ha=>⟨(hlive a ha).2.1,(hlive a ha).2.2⟩,hio⟩) hlive fun j a hj ha hz=>by
   rw [e7 hj] at hz
   rcases mem a ha with z | z
   . rcases fr a z with y | y
     . exact hj (J.apart j i a hz (in1 a y))
     . obtain ⟨⟨o',h1,_⟩,_⟩:=J.live j a hz
       rw [y] at h1; cases h1
   . exact hj (J.apart j i a hz (inr a z))
 rw [List.set_set,List.set_set,jR hv] at J3
 have eF:mJ (mJ F i []) i g = mJ F i g:=by
  funext j
  by_cases ej:j = i
  . subst ej; rw [iB,iB]
  . rw [e7 ej,e7 ej,e7 ej]
 rw [eF] at J3
 exact ⟨g,J3,pg⟩
theorem SRF.more {s:Option Sl} {u:Option V} {fp:List Addr} (I:SRF K cls Av G S₀ ρ σ S H F) (h:∀ t,s = some t -> ∃ v,u = some v /\ pd K cls Av G S H ρ.length t v fp)
  (hl:∀ a ∈ fp,(∃ o,H a = some o /\ isX o = false) /\ G a = none /\ S a = none) (ap:∀ j a,j < ρ.length -> a ∈ fp -> a ∉ F j):∃ F',SRF K cls Av G S₀ (ρ ++ [s]) (σ ++ [u]) S H F':=by
 refine ⟨fun j=>if j < ρ.length then F j else if j = ρ.length then fp else [],I.gh,I.s0,I.sh,I.new,fun j t e=>?_,fun j k a h1 h2=>?_,fun j a ha=>?_,by simp [I.len]⟩
 . by_cases hj:j < ρ.length
   . rw [List.getElem?_append_left hj] at e
     rw [List.getElem?_append_left (by rw [<- I.len]; exact hj)]
     simp only [hj,if_true]
     exact I.own j t e
   . rw [List.getElem?_append_right (Nat.le_of_not_lt hj)] at e
     have h0:j - ρ.length = 0:=by
      by_cases h:j - ρ.length = 0
      . exact h
      . rw [List.getElem?_eq_none (by simp; omega)] at e; cases e
     rw [h0] at e
     have ej:j = ρ.length:=by omega
     obtain ⟨v,e2,r⟩:=h t (Option.some.inj e)
     refine ⟨v,?_,?_⟩
     . rw [List.getElem?_append_right (by rw [<- I.len]; omega),<- I.len,h0,e2]; rfl
     . subst ej
       simp only [Nat.lt_irrefl,if_false,if_true]
       exact r
 . by_cases hj:j < ρ.length
   . simp only [hj,if_true] at h1
     by_cases hk:k < ρ.length
     . simp only [hk,if_true] at h2; exact I.apart j k a h1 h2
     . simp only [hk,if_false] at h2
       split at h2
       . exact absurd h1 (ap j a hj h2)
       . cases h2
   . simp only [hj,if_false] at h1
     split at h1
     . rename_i ej
       by_cases hk:k < ρ.length
       . simp only [hk,if_true] at h2; exact absurd h2 (ap k a hk h1)
       . simp only [hk,if_false] at h2
         split at h2
         . rename_i ek; rw [ej,ek]
         . cases h2
     . cases h1
 . by_cases hj:j < ρ.length
   . simp only [hj,if_true] at ha; exact I.live j a ha
   . simp only [hj,if_false] at ha
     split at ha
     . exact hl a ha
     . cases ha
theorem SR.fold {i:Nat} {s:Sl} {v:V} (I:SR K cls Av G S₀ (ρ ++ [some s]) (σ ++ [some v]) S H) (hs:nio s = true):SR K cls Av G S₀ (ρ.set i (some s)) (σ.set i (some v)) S H:=by
 obtain ⟨F,J⟩:=I
 have hlen:ρ.length = σ.length:=by have:=J.len; simpa using this
 obtain ⟨v',ev,r⟩:=J.own ρ.length s (by simp)
 have ev':v' = v:=by
  rw [List.getElem?_append_right (by rw [hlen]; exact Nat.le_refl _),hlen,Nat.sub_self] at ev
  cases ev; rfl
 subst ev'
 have J1:SRF K cls Av G S₀ ρ σ S H (fun j=>if j < ρ.length then F j else []):=by
  refine ⟨J.gh,J.s0,J.sh,J.new,fun j t e=>?_,fun j k a h1 h2=>?_,fun j a ha=>?_,hlen⟩
  . have hj:j < ρ.length:=(List.getElem?_eq_some_iff.mp e).1
    obtain ⟨v2,e2,r2⟩:=J.own j t (by rw [List.getElem?_append_left hj]; exact e)
    rw [List.getElem?_append_left (by rw [<- hlen]; exact hj)] at e2
    simp only [hj,if_true]
    exact ⟨v2,e2,r2⟩
  . split at h1
    . split at h2
      . exact J.apart j k a h1 h2
      . cases h2
    . cases h1
  . split at ha
    . exact J.live j a ha
    . cases ha
 refine ⟨_,J1.put (i:=i) (s:=some s) (u:=some v') (fp:=F ρ.length) (fun t e=>?_) (fun a ha=>J.live _ a ha) fun j a hj ha hz=>?_⟩
 . cases e
   refine ⟨v',rfl,?_⟩
   cases s with
   | sh x=>exact r
   | ow xs=>exact r
   | ex c fs=>exact r
   | tr io t=>
     cases io with
     | true=>cases hs
     | false=>exact ⟨r.1,r.2.1,r.2.2.1,fun z=>nomatch z⟩
   | bo t=>cases hs
 . split at hz
   . rename_i hj'
     have:=J.apart j ρ.length a hz ha
     omega
   . cases hz
theorem SR.wJ {s:Option Sl} {u:Option V} (I:SR K cls Av G S₀ (ρ ++ [s]) (σ ++ [u]) S H):SR K cls Av G S₀ ρ σ S H:=by
 obtain ⟨F,J⟩:=I
 have hlen:ρ.length = σ.length:=by have:=J.len; simpa using this
 refine ⟨F,J.gh,J.s0,J.sh,J.new,fun j t e=>?_,J.apart,J.live,hlen⟩
 have hj:j < ρ.length:=(List.getElem?_eq_some_iff.mp e).1
 obtain ⟨v2,e2,r2⟩:=J.own j t (by rw [List.getElem?_append_left hj]; exact e)
 rw [List.getElem?_append_left (by rw [<- hlen]; exact hj)] at e2
 exact ⟨v2,e2,r2⟩
def yL (K:PySem.W.Frag) (cls:String -> Option Addr) (B S H:Hp) (t:OV) (v:V):Prop:=∃ fp,bM K cls S H t v fp /\ fp.Nodup /\ ∀ a ∈ fp,B a = none /\ S a = none
def Fo (K:PySem.W.Frag) (cls:String -> Option Addr) (W:XW) (σ:St) (S H:Hp) (Q:VK):OD -> Prop
 | .ok t=>∀ v S' H',bt S H S' H' -> yL K cls H S' H' t v -> Q v H'
 | .exc c fs=>∀ a C S' H',bt S H S' H' -> mq K cls S' H' c fs a C -> W (.ref C) (some a) σ H'
 | .bad=>False
def JD (K:PySem.W.Frag) (cls:String -> Option Addr) (W:XW) (te:TE) (m:ae -> OD):Prop:=∀ Av G S₀ ρ σ S H Q,SR K cls Av G S₀ ρ σ S H -> Fo K cls W σ S H Q (m ρ) -> te σ H Q
theorem yL.grow {S1 H1:Hp} {t:OV} {v:V} (h:yL K cls B S H t v) (w:bt S H S1 H1):yL K cls B S1 H1 t v:=by
 obtain ⟨fp,r,nd,g⟩:=h
 refine ⟨fp,r.mono w.s fun a _ o z=>w.g _ _ z,nd,fun a ha=>⟨(g a ha).1,?_⟩⟩
 obtain ⟨o,h1,_⟩:=r.live a ha
 cases q:S1 a with
 | none=>rfl
 | some o'=>
   rcases w.new a (by rw [q]; simp) with z | z
   . exact absurd (g a ha).2 z
   . rw [h1] at z; cases z
theorem CD {te:TE} {me:ae -> OE} (h:JE K cls W te me):JD K cls W te (mD me):=by
 intro Av G S₀ ρ σ S H Q I p
 refine h Av G S₀ ρ σ S H Q I ?_
 unfold mD at p
 cases e:me ρ with
 | exc c fs=>rw [e] at p; exact p
 | bad=>rw [e] at p; exact p
 | ok r=>
   rw [e] at p
   cases r with
   | sh x=>exact fun v S' H' w r=>p v S' H' w ⟨[],by unfold bM; exact ⟨rfl,r⟩,List.nodup_nil,fun a ha=>nomatch ha⟩
   | al xs=>exact p.elim
   | fr xs=>
     intro v S' H' w r
     obtain ⟨q,vs,rfl,hB,hS,hH,hr⟩:=r
     refine p _ S' H' w ⟨[q],by unfold bM; exact ⟨q,vs,[],rfl,hH,rfl,.shs hr⟩,by simp,fun a ha=>?_⟩
     have z:a = q:=by simpa using ha
     subst z; exact ⟨hB,hS⟩
theorem SR.FK {i:Nat} {t:OV} {v:V} (I:SR K cls Av G S₀ ρ σ S H) (w:bt S H S' H') (h:yL K cls H S' H' t v):SR K cls Av G S₀ (ρ.set i (some (.tr false t))) (σ.set i (some v)) S' H':=by
 obtain ⟨F,J⟩:=I
 obtain ⟨fp,r,nd,g⟩:=h
 refine ⟨_,(J.grow w).put (fp:=fp) (fun t' e=>by cases e; exact ⟨v,rfl,r,nd,fun a ha=>⟨J.gh.free (g a ha).1,(g a ha).2⟩,fun z=>nomatch z⟩) (fun a ha=>⟨r.live a ha,J.gh.free (g a ha).1,(g a ha).2⟩) fun j a _ ha hz=>?_⟩
 obtain ⟨⟨o,h1,_⟩,_⟩:=J.live j a hz
 rw [(g a ha).1] at h1; cases h1
theorem wW {i:Nat} {te:TE} {md:ae -> OD} (h:JD K cls W te md):JS K cls W (uC te (kO i)) (oR i md):=by
 intro Av G S₀ ρ σ S H D I p
 refine h Av G S₀ ρ σ S H _ I ?_
 unfold oR at p
 cases e:md ρ with
 | exc c fs=>rw [e] at p; exact fun a C S' H' w x=>p a C σ S' H' (I.grow w) w.s x
 | bad=>rw [e] at p; exact p
 | ok t=>rw [e] at p; exact fun v S1 H1 w1 r1=>p _ S1 H1 (I.FK w1 r1) w1.s
end
end L2.P
namespace L2.P
open PySem PySem.Spec PyProof.Rows L2 L2.E
section
variable {K:PySem.W.Frag} {cls:String -> Option Addr} {W:XW} {Av G S₀ S S' H H' B B':Hp} {ρ:ae} {σ:St} {Q:VK} {F:Nat -> List Addr}
theorem bM.D9 {ts:List OV} {v:V} {fp:List Addr} (h:bM K cls S H (.ol ts) v fp):∃ p vs f,v = .ref p /\ H p = some (.lst vs) /\ fp = p ::f /\ bJ K cls S H ts vs f:=by unfold bM at h; exact h
theorem SRF.sy {i:Nat} {io:Bool} {t:OV} {ts:List OV} {v0:V} {π:List Stp} (J:SRF K cls Av G S₀ ρ σ S H F) (hi:ρ[i]? = some (some (.tr io t))) (hv:σ[i]? = some (some v0)) (e:t.get π = some (.ol ts)):
  ∃ q vs ff rest,iG H v0 π (.ref q) /\ H q = some (.lst vs) /\ vs.length = ts.length /\ bJ K cls S H ts vs ff /\ (F i).Perm ((q ::ff) ++ rest) /\ ((q ::ff) ++ rest).Nodup /\
    ∀ S' H' ts' vs' f',bt S H S' H' -> bJ K cls S' H' ts' vs' f' -> f'.Nodup -> (∀ a ∈ f',a ∈ ff \/ (H a = none /\ S' a = none)) ->
      ∃ g,SRF K cls Av G S₀ (ρ.set i (some (.tr io (t.put π (.ol ts'))))) σ S' (upd H' q (.lst vs')) (mJ F i g) /\ g.Perm ((q ::f') ++ rest):=by
 obtain ⟨w,f1,rest,wk,r1,p1,nd1,gs,c⟩:=J.part hi hv e
 obtain ⟨q,vs,ff,rfl,hq,rfl,rs⟩:=r1.D9
 refine ⟨q,vs,ff,rest,wk,hq,rs.length,rs,p1,nd1,fun S' H' ts' vs' f' wg r' nd' fr=>?_⟩
 have hGq:=(gs q (by simp)).1
 have hSq:=(gs q (by simp)).2
 have hS'q:S' q = none:=by
  cases z:S' q with
  | none=>rfl
  | some o=>
    rcases wg.new q (by rw [z]; simp) with y | y
    . exact absurd hSq y
    . rw [hq] at y; cases y
 have nq:q ∉ f':=fun z=>by
  rcases fr q z with y | y
  . exact (List.nodup_cons.mp (List.nodup_append.mp nd1).1).1 y
  . rw [y.1] at hq; cases hq
 have nS:∀ a ∈ f',S' a = none:=fun a ha=>by
  rcases fr a ha with y | y
  . cases z:S' a with
    | none=>rfl
    | some o=>
      obtain ⟨o',h1,_⟩:=rs.live a y
      rcases wg.new a (by rw [z]; simp) with k | k
      . exact absurd (gs a (by simp [y])).2 k
      . rw [h1] at k; cases k
  . exact y.2
 refine c S' (upd H' q (.lst vs')) (.ol ts') (q ::f') wg.s (wg.sh.upd hS'q) ((J.gh.trans wg.g).upd hGq) (fun b h=>?_) ?_ (List.nodup_cons.mpr ⟨nq,nd'⟩) (fun a ha=>?_) (fun a ha=>?_) (fun a o hn h=>?_) fun a h=>?_
 . rcases wg.new b h with z | z
   . exact J.new b z
   . exact .inr (J.gh.free z)
 . unfold bM
   exact ⟨q,vs',f',rfl,ba,rfl,r'.mono (aF.refl _) fun a ha o h=>by rw [aW (fun z=>nq (by rw [<- z]; exact ha))]; exact h⟩
 . rcases List.mem_cons.mp ha with z | z
   . subst z; exact .inl (by simp)
   . rcases fr a z with y | y
     . exact .inl (by simp [y])
     . exact .inr y.1
 . rcases List.mem_cons.mp ha with z | z
   . subst z; exact hS'q
   . exact nS a z
 . rw [aW (fun z=>hn (by rw [z]; simp))]; exact wg.g _ _ h
 . rcases wg.new a h with z | z
   . exact .inl z
   . exact .inr (.inl z)
theorem JP.at {i:Nat} {te:TE} {mp:MP} {io:Bool} {t u:OV} {v0:V} {π:List Stp} {Q:VK} (hp:JP K cls te i mp) (I:SR K cls Av G S₀ ρ σ S H) (hi:ρ[i]? = some (some (.tr io t))) (hv:σ[i]? = some (some v0)) (e0:mp ρ = some π) (e1:t.get π = some u)
  (k:∀ w S' H',bt S H S' H' -> SR K cls Av G S₀ ρ σ S' H' -> iG H' v0 π w -> Q w H'):te σ H Q:=
 hp Av G S₀ ρ σ S H Q v0 t π I (by unfold jc; rw [hi]; rfl) hv e0 (by rw [e1]; rfl) fun w S1 H1 w1 wk=>k w S1 H1 w1 (I.grow w1) wk
theorem pV {i:Nat} {mp:MP} {k:OV -> (OV -> ae) -> OS} {D:Ends} (p:gA K cls W Av G S₀ S D (xT i mp ρ k)):∃ io t π u,ρ[i]? = some (some (.tr io t)) /\ mp ρ = some π /\ t.get π = some u /\ gA K cls W Av G S₀ S D (k u fun u'=>ρ.set i (some (.tr io (t.put π u')))):=by
 unfold xT at p
 split at p
 . rename_i io t hi
   split at p
   . rename_i π e0
     split at p
     . rename_i u e1
       exact ⟨io,t,π,u,hi,e0,e1,p⟩
     . exact p.elim
   . exact p.elim
 . exact p.elim
theorem SR.val {i:Nat} {s:Sl} (I:SR K cls Av G S₀ ρ σ S H) (e:ρ[i]? = some (some s)):∃ v,σ[i]? = some (some v):=let ⟨v,h,_⟩:=I.good i s e; ⟨v,h⟩
theorem vd {i:Nat} {te tx:TE} {mp:MP} {md:ae -> OD} (hp:JP K cls te i mp) (hx:JD K cls W tx md):JS K cls W (rL (tBM K "list" sE te (jm tx kU))) (tO i mp md):=by
 intro Av G S₀ ρ σ S H D I p
 obtain ⟨io,t,π,u,hi,e0,e1,p⟩:=pV p
 obtain ⟨v0,hv⟩:=I.val hi
 cases u with
 | sh x=>exact p.elim
 | ob c ks us=>exact p.elim
 | di x=>exact p.elim
 | dt x=>exact p.elim
 | ol ts=>
   dsimp only at p
   refine hp.at I hi hv e0 e1 fun w S1 H1 w1 I1 wk=>?_
   obtain ⟨F,J1⟩:=I1
   obtain ⟨q,vs,ff,rest,wk',hq,hl,rs,_,nd,c⟩:=J1.sy hi hv e1
   have:=wk.inj wk'
   subst this
   refine ⟨.inl ⟨rfl,_,SqL.new hq⟩,?_⟩
   refine hx Av G S₀ ρ σ S1 H1 _ ⟨F,J1⟩ ?_
   cases ed:md ρ with
   | exc c fs=>rw [ed] at p; exact fun a C S' H' w x=>p a C σ S' H' (SR.grow ⟨F,J1⟩ w) (w1.s.trans w.s) x
   | bad=>rw [ed] at p; exact p
   | ok x=>
     rw [ed] at p
     dsimp only at p
     split at p
     . rename_i hlt
       intro v S2 H2 w2 r2
       obtain ⟨fx,rx,ndx,gx⟩:=r2
       refine ⟨q,vs,v,rfl,rfl,w2.g _ _ hq,by rw [hl]; exact hlt,?_⟩
       have ndf:ff.Nodup:=(List.nodup_cons.mp (List.nodup_append.mp nd).1).2
       have apx:∀ a ∈ ff,a ∉ fx:=fun a ha hb=>by
        obtain ⟨o,h1,_⟩:=rs.live a ha
        rw [(gx a hb).1] at h1; cases h1
       obtain ⟨g,J3,_⟩:=c S2 H2 (ts ++ [x]) (vs ++ [v]) (ff ++ (fx ++ [])) w2 ((rs.mono w2.s fun a _ o h=>w2.g _ _ h).append (.cons rx .nil)) (by
         rw [List.append_nil]
         exact List.nodup_append.mpr ⟨ndf,ndx,fun a ha b hb z=>by subst z; exact apx a ha hb⟩) (fun a ha=>by
         rw [List.append_nil] at ha
         rcases List.mem_append.mp ha with z | z
         . exact .inl z
         . exact .inr (gx a z))
       exact p σ S2 _ ⟨_,J3⟩ (w1.s.trans w2.s)
     . exact p.elim
end
end L2.P
namespace L2.P
open PySem PySem.Spec PyProof.Rows L2 L2.E
section
variable {K:PySem.W.Frag} {cls:String -> Option Addr} {W:XW} {Av G S₀ S S' H H' B B':Hp} {ρ:ae} {σ:St} {Q:VK} {F:Nat -> List Addr}
theorem u7 {i:Nat} {te tx:TE} {mp:MP} {me:ae -> OE} (hp:JP K cls te i mp) (hx:JE K cls W tx me):JS K cls W (rL (tBM K "list" wj te (jm tx kU))) (lB i mp me):=by
 intro Av G S₀ ρ σ S H D I p
 obtain ⟨io,t,π,u,hi,e0,e1,p⟩:=pV p
 obtain ⟨v0,hv⟩:=I.val hi
 cases u with
 | sh x=>exact p.elim
 | ob c ks us=>exact p.elim
 | di x=>exact p.elim
 | dt x=>exact p.elim
 | ol ts=>
   dsimp only at p
   refine hp.at I hi hv e0 e1 fun w S1 H1 w1 I1 wk=>?_
   have p1:=p.back w1.s
   obtain ⟨F,J1⟩:=id I1
   obtain ⟨q,vs,ff,rest,wk',hq,hl,rs,_,nd,c⟩:=J1.sy hi hv e1
   have:=wk.inj wk'
   subst this
   refine ⟨.inl ⟨rfl,_,SqL.new hq⟩,?_⟩
   refine hx.goS I1 p1 fun r v S2 H2 I2 w2 r2 p2=>?_
   cases r with
   | sh x=>exact p2.elim
   | al ys=>exact p2.elim
   | fr ys=>
     dsimp only at p2
     split at p2
     . rename_i hlt
       obtain ⟨b,us,rfl,k1,k2,k3,k4⟩:=r2
       refine ⟨q,b,vs,us,rfl,rfl,w2.g _ _ hq,k3,by rw [hl,k4.length]; exact hlt,?_⟩
       have ndf:ff.Nodup:=(List.nodup_cons.mp (List.nodup_append.mp nd).1).2
       obtain ⟨g,J3,_⟩:=c S2 H2 (ts ++ ys.map .sh) (vs ++ us) (ff ++ []) w2 ((rs.mono w2.s fun a _ o h=>w2.g _ _ h).append (.shs k4)) (by rw [List.append_nil]; exact ndf) fun a ha=>.inl (by simpa using ha)
       exact p2 σ S2 _ ⟨_,J3⟩ (aF.refl _)
     . exact p2.elim
def BM (K:PySem.W.Frag) (cls:String -> Option Addr) (W:XW) (Av G S₀:Hp) (σ:St) (S:Hp) (Q:VK):OX -> Prop
 | .ok ρ' s=>∀ v S' H',SR K cls Av G S₀ (ρ' ++ [some s]) (σ ++ [some v]) S' H' -> aF S S' -> Q v H'
 | .exc ρ' c fs=>∀ a C S' H',SR K cls Av G S₀ ρ' σ S' H' -> aF S S' -> mq K cls S' H' c fs a C -> W (.ref C) (some a) σ H'
 | .bad=>False
def JX (K:PySem.W.Frag) (cls:String -> Option Addr) (W:XW) (te:TE) (m:ae -> OX):Prop:=∀ Av G S₀ ρ σ S H Q,SR K cls Av G S₀ ρ σ S H -> BM K cls W Av G S₀ σ S Q (m ρ) -> te σ H Q
theorem rS {i:Nat} {te:TE} {m:ae -> OX} (h:JX K cls W te m):JS K cls W (uC te (kO i)) (nC i m):=by
 intro Av G S₀ ρ σ S H D I p
 refine h Av G S₀ ρ σ S H _ I ?_
 unfold nC at p
 cases e:m ρ with
 | exc ρ' c fs=>rw [e] at p; exact fun a C S' H' I' s' x=>p a C σ S' H' I' s' x
 | bad=>rw [e] at p; exact p
 | ok ρ' s=>
   rw [e] at p
   dsimp only at p
   split at p
   . rename_i hs
     exact fun v S' H' I' s'=>p _ S' H' (I'.fold hs) s'
   . exact p.elim
theorem SR.DP {x:PV} {v:V} (I:SR K cls Av G S₀ (ρ ++ [some (.sh x)]) (σ ++ [some v]) S H):Rep K S x v:=by
 obtain ⟨F,J⟩:=I
 have hlen:ρ.length = σ.length:=by have:=J.len; simpa using this
 obtain ⟨v',ev,r⟩:=J.own ρ.length (.sh x) (by simp)
 rw [List.getElem?_append_right (by rw [hlen]; exact Nat.le_refl _),hlen,Nat.sub_self] at ev
 cases ev
 exact r.2
theorem Aq {te:TE} {m:ae -> OX} {ta tb:TS} {ma mb:ae -> OS} (h:JX K cls W te m) (ha:JS K cls W ta ma) (hb:JS K cls W tb mb):
  JS K cls W (A4 (BD (fun σ H Q=>te σ H fun x H'=>∃ k,vG K x H' k /\ Q k H')) ta tb) (AN true m ma mb):=by
 intro Av G S₀ ρ σ S H D I p
 refine h Av G S₀ ρ σ S H _ I ?_
 unfold AN at p
 cases e:m ρ with
 | exc ρ' c fs=>rw [e] at p; exact fun a C S' H' I' s' x=>p a C σ S' H' I' s' x
 | bad=>rw [e] at p; exact p
 | ok ρ' s=>
   rw [e] at p
   cases s with
   | sh x=>
     dsimp only at p
     intro v S' H' I' s'
     cases et:qb x with
     | none=>rw [et] at p; exact p.elim
     | some k=>
       rw [et] at p
       refine ⟨k,wM I'.sh (I'.DP.rd I'.sh) et,?_⟩
       cases k with
       | false=>exact ub (ha Av G S₀ ρ' σ S' H' D I'.wJ (p.back s'))
       | true=>exact uv (hb Av G S₀ ρ' σ S' H' D I'.wJ (p.back s'))
   | ow xs=>exact p.elim
   | ex c fs=>exact p.elim
   | tr io t=>exact p.elim
   | bo t=>exact p.elim
theorem bJ.last {ts:List OV} {vs:List V} {f:List Addr} {x:OV} (h:bJ K cls S H ts vs f) (e:ts.getLast? = some x):∃ y f1 f2,vs[vs.length - 1]? = some y /\ bJ K cls S H ts.dropLast vs.dropLast f1 /\ bM K cls S H x y f2 /\ f = f1 ++ f2:=by
 induction ts generalizing vs f with
 | nil=>cases e
 | cons t ts ih=>
   obtain ⟨v,r,f1,f2,rfl,rfl,h1,h2⟩:=h.cons_inv
   cases ts with
   | nil=>
     unfold bJ at h2
     obtain ⟨rfl,rfl⟩:=h2
     simp at e
     subst e
     exact ⟨v,[],f1,rfl,.nil,h1,by simp⟩
   | cons t2 ts2=>
     rw [List.getLast?_cons_cons] at e
     obtain ⟨y,g1,g2,e1,r1,r2,rfl⟩:=ih h2 e
     have hr:r ≠ []:=by intro z; subst z; have:=h2.length; simp at this
     refine ⟨y,f1 ++ g1,g2,?_,?_,r2,by simp⟩
     . cases r with
       | nil=>exact absurd rfl hr
       | cons a r'=>simpa using e1
     . cases r with
       | nil=>exact absurd rfl hr
       | cons a r'=>exact bJ.cons h1 r1
theorem Bv {x:OV} {v:V} {fp:List Addr} {i:Nat} (h:bM K cls S H x v fp) (nd:fp.Nodup) (g:∀ a ∈ fp,G a = none /\ S a = none):pd K cls Av G S H i (slO x) v fp:=by
 cases x with
 | sh y=>unfold bM at h; exact h
 | ol ts=>exact ⟨h,nd,g,fun z=>nomatch z⟩
 | ob c ks ts=>exact ⟨h,nd,g,fun z=>nomatch z⟩
 | di x=>exact ⟨h,nd,g,fun z=>nomatch z⟩
 | dt x=>exact ⟨h,nd,g,fun z=>nomatch z⟩
theorem wb {i:Nat} {te:TE} {mp:MP} (hp:JP K cls te i mp):JX K cls W (DJ K "list" Fd te) (qh i mp):=by
 intro Av G S₀ ρ σ S H Q I p
 unfold qh at p
 split at p
 . rename_i io t hi
   split at p
   . rename_i π e0
     split at p
     . rename_i ts e1
       split at p
       . rename_i x ex
         obtain ⟨v0,hv⟩:=I.val hi
         refine hp.at I hi hv e0 e1 fun w S1 H1 w1 I1 wk=>?_
         obtain ⟨F,J1⟩:=id I1
         obtain ⟨q,vs,ff,rest,wk',hq,hl,rs,pF,nd,c⟩:=J1.sy hi hv e1
         have:=wk.inj wk'
         subst this
         obtain ⟨y,f1,f2,ey,ri,rx,rfl⟩:=rs.last ex
         have ndf:(f1 ++ f2).Nodup:=(List.nodup_cons.mp (List.nodup_append.mp nd).1).2
         have nq:q ∉ f1 ++ f2:=(List.nodup_cons.mp (List.nodup_append.mp nd).1).1
         refine ⟨.inl ⟨rfl,_,SqL.new hq⟩,q,vs,y,rfl,rfl,hq,ey,?_⟩
         obtain ⟨g,J3,pg⟩:=c S1 H1 ts.dropLast vs.dropLast f1 (bt.refl J1.sh) ri (List.nodup_append.mp ndf).1 fun a ha=>.inl (List.mem_append_left _ ha)
         have in2:∀ a ∈ f2,a ∈ F i:=fun a ha=>pF.mem_iff.mpr (by simp [ha])
         have rx':bM K cls S1 (upd H1 q (.lst vs.dropLast)) x y f2:=rx.mono (aF.refl _) fun a ha o h=>by rw [aW (fun z=>nq (by rw [<- z]; simp [ha]))]; exact h
         have gs2:∀ a ∈ f2,G a = none /\ S1 a = none:=fun a ha=>(J1.live i a (in2 a ha)).2
         obtain ⟨F',J4⟩:=J3.more (s:=some (slO x)) (u:=some y) (fp:=f2) (fun t' e=>by cases e; exact ⟨y,rfl,Bv rx' (List.nodup_append.mp ndf).2.1 gs2⟩) (fun a ha=>⟨rx'.live a ha,gs2 a ha⟩) fun j a hj ha hz=>by
          by_cases ej:j = i
          . subst ej
            rw [iB] at hz
            have hm:=pg.mem_iff.mp hz
            have hd:=List.nodup_append.mp nd
            rcases List.mem_append.mp hm with z | z
            . rcases List.mem_cons.mp z with z | z
              . subst z; exact nq (by simp [ha])
              . exact (List.nodup_append.mp ndf).2.2 a z a ha rfl
            . exact hd.2.2 a (by simp [ha]) a z rfl
          . rw [e7 ej] at hz
            exact ej (J1.apart j i a hz (in2 a ha))
         exact p y S1 _ ⟨F',J4⟩ w1.s
       . exact p.elim
     . exact p.elim
   . exact p.elim
 . exact p.elim
end
end L2.P
namespace L2.P
open PySem PySem.Spec PyProof.Rows L2 L2.E
section
variable {K:PySem.W.Frag} {cls:String -> Option Addr} {W:XW} {Av G S₀ S S' H H' B B':Hp} {ρ:ae} {σ:St} {Q:VK} {F:Nat -> List Addr}
theorem AS {ks:List Str} {us:List (Str × V)} {f:Str} {y:V} (hk:us.map (·.1) = ks) {k:Nat} (hf:∀ j,ks[j]? = some f -> k <= j) (he:ks[k]? = some f):(iI f y us).map (·.1) = ks /\ (iI f y us).map (·.2) = (us.map (·.2)).set k y:=by
 induction us generalizing ks k with
 | nil=>subst hk; cases he
 | cons q us ih=>
   obtain ⟨g,x⟩:=q
   subst hk
   unfold iI
   by_cases e:g = f
   . rw [if_pos e]
     have k0:k = 0:=by have:=hf 0 (by simp [e]); omega
     subst k0
     exact ⟨rfl,rfl⟩
   . rw [if_neg e]
     cases k with
     | zero=>simp at he; exact absurd he e
     | succ k=>
       obtain ⟨h1,h2⟩:=ih (ks:=us.map (·.1)) (k:=k) rfl (fun j hj=>by have:=hf (j + 1) (by simpa using hj); omega) (by simpa using he)
       simp [h1,h2]
theorem zj {us:List (Str × V)} {f:Str} {y:V} (h:f ∉ us.map (·.1)):iI f y us = us ++ [(f,y)]:=by
 induction us with
 | nil=>rfl
 | cons q us ih=>
   obtain ⟨g,x⟩:=q
   simp at h
   unfold iI
   rw [if_neg (fun z=>h.1 z.symm),ih (by simpa using h.2)]
   rfl
theorem vg {ks:List Str} {ts:List OV} {f:Str} (hl:ts.length = ks.length) (h:f ∈ ks):∃ k,ks[k]? = some f /\ (∀ j,ks[j]? = some f -> k <= j) /\ k < ts.length /\ ∀ u,qF ks ts f u = ts.set k u:=by
 induction ks generalizing ts with
 | nil=>cases h
 | cons g ks ih=>
   cases ts with
   | nil=>cases hl
   | cons t ts=>
     by_cases e:g = f
     . subst e
       exact ⟨0,rfl,fun j _=>Nat.zero_le _,by simp,fun u=>by simp [qF]⟩
     . obtain ⟨k,h1,h2,h3,h4⟩:=ih (ts:=ts) (by simpa using hl) (by
        rcases List.mem_cons.mp h with z | z
        . exact absurd z.symm e
        . exact z)
       refine ⟨k + 1,by simpa using h1,fun j hj=>?_,by simpa using h3,fun u=>by simp [qF,e,h4]⟩
       cases j with
       | zero=>simp at hj; exact absurd hj e
       | succ j=>have:=h2 j (by simpa using hj); omega
theorem AF {i:Nat} {te tx:TE} {mp:MP} {f:Str} {okc:String -> Bool} {md:ae -> OD} (hp:JP K cls te i mp) (hx:JD K cls W tx md) (ha:∀ c C,cls c = some C -> okc c = true -> Cls K C /\ jF K C f):JS K cls W (CP K te tx f) (yO i mp f okc md):=by
 intro Av G S₀ ρ σ S H D I p
 refine hx Av G S₀ ρ σ S H _ I ?_
 unfold yO at p
 cases ed:md ρ with
 | exc c fs=>rw [ed] at p; exact fun a C S' H' w x=>p a C σ S' H' (I.grow w) w.s x
 | bad=>rw [ed] at p; exact p
 | ok x=>
   rw [ed] at p
   dsimp only at p
   obtain ⟨io,t,π,u,hi,e0,e1,p⟩:=pV p
   obtain ⟨v0,hv⟩:=I.val hi
   cases u with
   | sh x=>exact p.elim
   | ol ts=>exact p.elim
   | di x=>exact p.elim
   | dt x=>exact p.elim
   | ob c ks ts=>
     dsimp only at p
     split at p
     . rename_i hok
       rw [Bool.and_eq_true,decide_eq_true_eq] at hok
       intro v S1 H1 w1 r1
       refine hp.at (I.grow w1) hi hv e0 e1 fun w S2 H2 w2 I2 wk=>?_
       obtain ⟨F,J⟩:=id I
       obtain ⟨w0,f1,rest,wk',ro,pF,nd,gs,cc⟩:=J.part hi hv e1
       have wg:bt S H S2 H2:=w1.trans w2
       have:=wk.inj (wk'.mono wg.g)
       subst this
       unfold bM at ro
       obtain ⟨q,C,dx,us,ff,rfl,hcl,hq,hd,hk,rfl,rs⟩:=ro
       obtain ⟨a1,a2⟩:=ha c C hcl hok.1
       have nd1:=(List.nodup_append.mp nd).1
       have nq:q ∉ dx ::ff:=(List.nodup_cons.mp nd1).1
       have ndx':dx ∉ ff:=(List.nodup_cons.mp (List.nodup_cons.mp nd1).2).1
       have ndf:ff.Nodup:=(List.nodup_cons.mp (List.nodup_cons.mp nd1).2).2
       have hlen:us.length < 1000:=by have:=congrArg List.length hk; simp at this; omega
       obtain ⟨fx,rx,nx,gx⟩:=r1.grow w2
       refine ⟨q,C,dx,us,rfl,wg.g _ _ hq,a1,a2,hlen,?_⟩
       have noS:∀ a ∈ q ::dx ::ff,S2 a = none:=fun a ha=>by
        cases z:S2 a with
        | none=>rfl
        | some o=>
          obtain ⟨⟨o',h1,_⟩,_,h3⟩:=J.live i a (pF.mem_iff.mpr (List.mem_append_left _ ha))
          rcases wg.new a (by rw [z]; simp) with y | y
          . exact absurd h3 y
          . rw [h1] at y; cases y
       have fin:∀ ks' ts' f',(iI f v us).map (·.1) = ks' -> bJ K cls S2 H2 ts' ((iI f v us).map (·.2)) f' -> f'.Nodup -> (∀ a ∈ f',a ∈ ff \/ (H a = none /\ S2 a = none)) ->
         SR K cls Av G S₀ (ρ.set i (some (.tr io (t.put π (.ob c ks' ts'))))) σ S2 (upd H2 q (.ins C dx (iI f v us))):=by
        intro ks' ts' f' hk' rs' nd' fr
        have nqf:q ∉ f':=fun z=>by
         rcases fr q z with y | y
         . exact nq (by simp [y])
         . rw [y.1] at hq; cases hq
        have ndf':dx ∉ f':=fun z=>by
         rcases fr dx z with y | y
         . exact ndx' y
         . rw [y.1] at hd; cases hd
        have ndq:dx ≠ q:=fun z=>nq (by simp [z])
        obtain ⟨g,J3,_⟩:=cc S2 (upd H2 q (.ins C dx (iI f v us))) (.ob c ks' ts') (q ::dx ::f') wg.s (wg.sh.upd (noS q (by simp))) ((J.gh.trans wg.g).upd (gs q (by simp)).1) (fun b h=>by
          rcases wg.new b h with z | z
          . exact J.new b z
          . exact .inr (J.gh.free z)) (by
          unfold bM
          exact ⟨q,C,dx,_,f',rfl,hcl,ba,by rw [aW ndq]; exact wg.g _ _ hd,hk',rfl,rs'.mono (aF.refl _) fun a ha o h=>by rw [aW (fun z=>nqf (by rw [<- z]; exact ha))]; exact h⟩)
         (List.nodup_cons.mpr ⟨fun z=>by
           rcases List.mem_cons.mp z with z | z
           . exact ndq z.symm
           . exact nqf z,List.nodup_cons.mpr ⟨ndf',nd'⟩⟩) (fun a ha=>by
           rcases List.mem_cons.mp ha with z | z
           . subst z; exact .inl (by simp)
           . rcases List.mem_cons.mp z with z | z
             . subst z; exact .inl (by simp)
             . rcases fr a z with y | y
               . exact .inl (by simp [y])
               . exact .inr y.1) (fun a ha=>by
           rcases List.mem_cons.mp ha with z | z
           . subst z; exact noS _ (by simp)
           . rcases List.mem_cons.mp z with z | z
             . subst z; exact noS _ (by simp)
             . rcases fr a z with y | y
               . exact noS a (by simp [y])
               . exact y.2) (fun a o hn h=>by rw [aW (fun z=>hn (by rw [z]; simp))]; exact wg.g _ _ h) fun a h=>by
           rcases wg.new a h with z | z
           . exact .inl z
           . exact .inr (.inl z)
        exact ⟨_,J3⟩
       have hlts:ts.length = ks.length:=by rw [<- rs.length,<- hk]; simp
       split at p
       . rename_i hc
         obtain ⟨k,h1,h2,h3,h4⟩:=vg hlts (by simpa using hc)
         obtain ⟨k1,k2⟩:=AS (y:=v) hk h2 h1
         obtain ⟨w3,g1,rest3,e3,r3,p3,c3⟩:=rs.at (k:=k) (u:=ts[k]) (by simp [h3])
         obtain ⟨g,rg,pg⟩:=c3 S2 H2 x v fx wg.s rx fun a _ o h=>wg.g _ _ h
         have inff:∀ a ∈ rest3,a ∈ ff:=fun a ha=>p3.mem_iff.mpr (List.mem_append_right _ ha)
         have ndr:rest3.Nodup:=(List.nodup_append.mp (p3.nodup_iff.mp ndf)).2.1
         have ndg:g.Nodup:=pg.nodup_iff.mpr (List.nodup_append.mpr ⟨nx,ndr,fun a ha b hb z=>by
          subst z
          obtain ⟨o,h1,_⟩:=rs.live a (inff a hb)
          rw [(gx a ha).1] at h1; cases h1⟩)
         have q1:=fin ks (ts.set k x) g k1 (by rw [k2]; exact rg) ndg fun a ha=>by
          rcases List.mem_append.mp (pg.mem_iff.mp ha) with z | z
          . exact .inr (gx a z)
          . exact .inl (inff a z)
         rw [h4] at p
         exact p σ S2 _ q1 wg.s
       . rename_i hc
         have hn:f ∉ us.map (·.1):=by rw [hk]; simpa using hc
         have e2:=zj (y:=v) hn
         have ndg:(ff ++ (fx ++ [])).Nodup:=by
          rw [List.append_nil]
          exact List.nodup_append.mpr ⟨ndf,nx,fun a ha b hb z=>by
           subst z
           obtain ⟨o,h1,_⟩:=rs.live a ha
           rw [(gx a hb).1] at h1; cases h1⟩
         have q1:=fin (ks ++ [f]) (ts ++ [x]) (ff ++ (fx ++ [])) (by rw [e2]; simp [hk]) (by rw [e2,List.map_append]; exact (rs.mono wg.s fun a _ o h=>wg.g _ _ h).append (.cons rx .nil)) ndg fun a ha=>by
          rw [List.append_nil] at ha
          rcases List.mem_append.mp ha with z | z
          . exact .inl z
          . exact .inr (gx a z)
         exact p σ S2 _ q1 wg.s
     . exact p.elim
end
end L2.P
namespace L2.P
open PySem PySem.Spec PyProof.Rows L2 L2.E
open Classical in
noncomputable def minus (H:Hp) (Fc:Nat -> List Addr):Hp:=fun a=>if ∃ k,a ∈ Fc k then none else H a
section
variable {K:PySem.W.Frag} {cls:String -> Option Addr} {W:XW} {Av G S₀ S S' H H' B B':Hp} {ρ:ae} {σ:St} {Q:VK} {F Fc Fc':Nat -> List Addr}
theorem uK {a:Addr} {k:Nat} (h:a ∈ Fc k):minus H Fc a = none:=by unfold minus; rw [if_pos ⟨k,h⟩]
theorem ij {a:Addr} (h:∀ k,a ∉ Fc k):minus H Fc a = H a:=by unfold minus; rw [if_neg (fun ⟨k,z⟩=>h k z)]
theorem pZ:aF (minus H Fc) H:=fun b u h=>by
 unfold minus at h
 split at h
 . cases h
 . exact h
theorem ko {a:Addr} (h:minus H Fc a = none):H a = none \/ ∃ k,a ∈ Fc k:=by
 unfold minus at h
 split at h
 . rename_i z; exact .inr z
 . exact .inl h
def Ha (K:PySem.W.Frag) (cls:String -> Option Addr) (S H Hm:Hp):Sl -> V -> List Addr -> Prop
 | .sh x,v,fp=>fp = [] /\ Rep K S x v
 | .tr true t,v,fp=>bM K cls S H t v fp /\ fp.Nodup
 | .bo t,v,fp=>fp = [] /\ ∃ f,bM K cls S Hm t v f
 | _,_,_=>False
structure zG (K:PySem.W.Frag) (cls:String -> Option Addr) (vs:List V) (S H:Hp) (Fc:Nat -> List Addr) (outs:List (Option OV)) (S' H':Hp) (Fc':Nat -> List Addr):Prop where
 s:aF S S'
 sh:aF S' H'
 keep:aF (minus H Fc) H'
 new:∀ b,S' b ≠ none -> S b ≠ none \/ H b = none \/ ∃ k,b ∈ Fc k
 out:∀ k t',outs[k]? = some (some t') -> ∃ u,vs[k]? = some u /\ bM K cls S' H' t' u (Fc' k) /\ (Fc' k).Nodup
 apart:∀ j k a,a ∈ Fc' j -> a ∈ Fc' k -> j = k
 live:∀ k a,a ∈ Fc' k -> minus H Fc a = none /\ S' a = none
def Fv (K:PySem.W.Frag) (cls:String -> Option Addr) (vs:List V) (S H:Hp) (Fc:Nat -> List Addr) (Q:VK) (E:XK):OI -> Prop
 | .ok x outs=>∀ v S' H' Fc',zG K cls vs S H Fc outs S' H' Fc' -> Rep K S' x v -> Q v H'
 | .exc c fs outs=>∀ a C S' H' Fc',zG K cls vs S H Fc outs S' H' Fc' -> mq K cls S' H' c fs a C -> E (.ref C) (some a) H'
 | .bad=>False
structure Ab (K:PySem.W.Frag) (cls:String -> Option Addr) (as:List Sl) (vs:List V) (S H:Hp) (Fc:Nat -> List Addr):Prop where
 sh:aF S H
 len:as.length = vs.length
 rel:∀ (k:Nat) (s:Sl),as[k]? = some s -> ∃ v,vs[k]? = some v /\ Ha K cls S H (minus H Fc) s v (Fc k)
 apart:∀ j k a,a ∈ Fc j -> a ∈ Fc k -> j = k
 live:∀ k a,a ∈ Fc k -> (∃ o,H a = some o /\ isX o = false) /\ S a = none
def spI (K:PySem.W.Frag) (cls:String -> Option Addr) (f:List Sl -> OI):Sp:=fun vs H Q E=>∃ S as Fc,Ab K cls as vs S H Fc /\ Fv K cls vs S H Fc Q E (f as)
theorem AH {as:List Sl} {vs:List V} {N:List Str} {i:Nat} {s:Sl} (hl:as.length = vs.length) (e:(kl N.length as)[i]? = some (some s)):as[i]? = some s /\ (L2.start N vs)[i]? = some ((vs[i]?)):=by
 unfold kl at e
 by_cases hi:i < as.length
 . rw [List.getElem?_append_left (by simpa using hi),List.getElem?_map] at e
   have hx:as[i]? = some as[i]:=by simp [hi]
   rw [hx] at e
   cases e
   refine ⟨hx,?_⟩
   unfold L2.start
   rw [List.getElem?_append_left (by rw [List.length_map,<- hl]; exact hi),List.getElem?_map]
   have hv:vs[i]? = some (vs[i]'(by rw [<- hl]; exact hi)):=by simp [<- hl,hi]
   rw [hv]; rfl
 . rw [List.getElem?_append_right (by simpa using hi)] at e
   rw [List.getElem?_replicate] at e
   split at e <;> cases e
def yp (vs:List V):Hp:=fun i=>(vs[i]?).map fun v=>.lst [v]
theorem SR.D2 {vs:List V} {np:Nat} {ρ':ae} {σ':St} (A:aF S H) (I:SR K cls (yp vs) (minus H Fc) S ρ' σ' S' H'):∃ Fc',zG K cls vs S H Fc ((ρ'.take np).map qW) S' H' Fc':=by
 obtain ⟨F,J⟩:=I
 refine ⟨F,J.s0,J.sh,J.gh,fun b h=>?_,fun k t' e=>?_,J.apart,fun k a ha=>(J.live k a ha).2⟩
 . rcases J.new b h with z | z
   . exact .inl z
   . rcases ko z with y | y
     . exact .inr (.inl y)
     . exact .inr (.inr y)
 . rw [List.getElem?_map] at e
   obtain ⟨s,e1,e2⟩:=Option.map_eq_some_iff.mp e
   have e3:ρ'[k]? = some s:=by
    rw [List.getElem?_take] at e1
    split at e1
    . exact e1
    . cases e1
   cases s with
   | none=>cases e2
   | some s=>
     cases s with
     | tr io t=>
       cases io with
       | false=>cases e2
       | true=>
         cases e2
         obtain ⟨v,ev,ro,nd,_,hio⟩:=J.own k _ e3
         have:=hio rfl
         unfold yp at this
         obtain ⟨u,eu,e4⟩:=Option.map_eq_some_iff.mp this
         cases e4
         exact ⟨v,eu,ro,nd⟩
     | sh x=>cases e2
     | ow x=>cases e2
     | ex c fs=>cases e2
     | bo t=>cases e2
theorem uz {P:Program} {w:World} {mg:Str -> Option Value} {base:Heap} {x qual:Str} {st:Stmt} {f:Addr} {fd:FuncData} {N ps:List Str} {k:Nat} {m:ae -> OS} (Fn:Fun K x qual st f fd) (Sc:aS N ps (ao st))
  (hbody:∀ (cdv:Value) (A:Around) (outer:List Env) (s:Shared) (H:Hp) (E:XK),gj k (A.deeper (envOfC qual (ao st) s.heap.objs.size f cdv)) ->
    ∃ t,QSs (nL (CXE P w) P w K mg base N qual (ao st) f cdv A outer s H E) (aR st) t /\ JS K cls (fun C a _ H=>∀ H',aF H H' -> E C a H') t m):b0 P w K mg base (CXE P w) (k + 1) f fd ps (spI K cls (fnI ps.length N.length m)):=by
 refine okX Fn Sc (fun vs H Q E h=>?_) fun cdv A outer s H vs Q E hr h=>?_
 . obtain ⟨S,as,Fc,a,q⟩:=h
   unfold fnI at q
   split at q
   . rw [<- a.len]; assumption
   . exact q.elim
 . obtain ⟨S,as,Fc,a,q⟩:=h
   unfold fnI at q
   split at q
   . rename_i hl
     obtain ⟨t,ht,J⟩:=hbody cdv A outer s H E hr
     refine ⟨t,ht.out,?_⟩
     have start:SR K cls (yp vs) (minus H Fc) S (kl N.length as) (L2.start N vs) S H:=by
      refine ⟨Fc,pZ,aF.refl _,a.sh,fun _ z=>.inl z,fun i s e=>?_,a.apart,fun i b hb=>⟨(a.live i b hb).1,uK hb,(a.live i b hb).2⟩,?_⟩
      . obtain ⟨e1,e2⟩:=AH a.len e
        obtain ⟨v,ev,r⟩:=a.rel i s e1
        rw [ev] at e2
        refine ⟨v,e2,?_⟩
        cases s with
        | sh x=>exact r
        | ow x=>exact r.elim
        | ex c fs=>exact r.elim
        | tr io t=>
          cases io with
          | false=>exact r.elim
          | true=>exact ⟨r.1,r.2,fun b hb=>⟨uK hb,(a.live i b hb).2⟩,fun _=>by unfold yp; rw [ev]; rfl⟩
        | bo t=>exact r
      . unfold kl L2.start
        simp [a.len]
     refine J (yp vs) (minus H Fc) S (kl N.length as) (L2.start N vs) S H _ start ?_
     cases e:m (kl N.length as) with
     | nx ρ'=>rw [e] at q; exact fun σ' S' H' I' s'=>let ⟨Fc',E'⟩:=I'.D2 (np:=ps.length) a.sh; q .non S' H' Fc' E' (by unfold Rep; rfl)
     | bk ρ'=>rw [e] at q; exact q.elim
     | ct ρ'=>rw [e] at q; exact q.elim
     | bad=>rw [e] at q; exact q.elim
     | rt ρ' r=>
       rw [e] at q
       cases r with
       | al ys=>exact q.elim
       | fr ys=>exact q.elim
       | sh y=>exact fun v σ' S' H' I' s' rr=>let ⟨Fc',E'⟩:=I'.D2 (np:=ps.length) a.sh; q v S' H' Fc' E' rr
     | exc ρ' c fs=>
       rw [e] at q
       exact fun b C σ' S' H' I' s' x H2 g2=>let ⟨Fc',E'⟩:=(I'.same g2).D2 (np:=ps.length) a.sh; q b C S' H2 Fc' E' (x.mono (aF.refl _) g2)
   . exact q.elim
def AR1 (K:PySem.W.Frag) (S H:Hp) (ρ:ae) (σ:St):Arg -> Sl -> V -> Prop
 | .e _,.sh x,v=>Rep K S x v
 | .t i mp,.tr true u,v=>∃ io t π v0,ρ[i]? = some (some (.tr io t)) /\ mp ρ = some π /\ t.get π = some u /\ σ[i]? = some (some v0) /\ iG H v0 π v
 | .b i mp,.bo u,v=>∃ t π v0,jc i ρ = some t /\ mp ρ = some π /\ t.get π = some u /\ σ[i]? = some (some v0) /\ iG H v0 π v
 | _,_,_=>False
def ARs (K:PySem.W.Frag) (S H:Hp) (ρ:ae) (σ:St):List Arg -> List Sl -> List V -> Prop
 | [],ss,vs=>ss = [] /\ vs = []
 | a ::as,ss,vs=>∃ s sr v vr,ss = s ::sr /\ vs = v ::vr /\ AR1 K S H ρ σ a s v /\ ARs K S H ρ σ as sr vr
theorem AR1.mono {a:Arg} {s:Sl} {v:V} (h:AR1 K S H ρ σ a s v) (s1:aF S S') (g:aF H H'):AR1 K S' H' ρ σ a s v:=by
 cases a with
 | e me=>cases s <;> first | exact h.elim | exact Rep.mono s1 h
 | t i mp=>
   cases s with
   | tr io u=>
     cases io with
     | false=>exact h.elim
     | true=>obtain ⟨io,t,π,v0,h1,h2,h3,h4,h5⟩:=h; exact ⟨io,t,π,v0,h1,h2,h3,h4,h5.mono g⟩
   | _=>exact h.elim
 | b i mp=>
   cases s with
   | bo u=>obtain ⟨t,π,v0,h1,h2,h3,h4,h5⟩:=h; exact ⟨t,π,v0,h1,h2,h3,h4,h5.mono g⟩
   | _=>exact h.elim
theorem ARs.at {as:List Arg}:∀ {ss:List Sl} {vs:List V} {k:Nat} {a:Arg},ARs K S H ρ σ as ss vs -> as[k]? = some a -> ∃ s v,ss[k]? = some s /\ vs[k]? = some v /\ AR1 K S H ρ σ a s v:=by
 induction as with
 | nil=>intro ss vs k a _ e; simp at e
 | cons b as ih=>
   rintro ss vs k a ⟨s,sr,v,vr,rfl,rfl,h1,h2⟩ e
   cases k with
   | zero=>simp at e; subst e; exact ⟨s,v,rfl,rfl,h1⟩
   | succ k=>simp at e; obtain ⟨s',v',e1,e2,r⟩:=ih h2 e; exact ⟨s',v',by simpa using e1,by simpa using e2,r⟩
theorem ARs.len {as:List Arg}:∀ {ss:List Sl} {vs:List V},ARs K S H ρ σ as ss vs -> ss.length = as.length /\ vs.length = as.length:=by
 induction as with
 | nil=>intro ss vs h; rw [h.1,h.2]; exact ⟨rfl,rfl⟩
 | cons b as ih=>
   rintro ss vs ⟨s,sr,v,vr,rfl,rfl,h1,h2⟩
   have:=ih h2
   simp [this]
def JAI (K:PySem.W.Frag) (cls:String -> Option Addr) (t:TA) (as:List Arg):Prop:=∀ Av G S₀ ρ σ S H Q ss,SR K cls Av G S₀ ρ σ S H -> jS as ρ = some ss -> (∀ vs S' H',bt S H S' H' -> ARs K S' H' ρ σ as ss vs -> Q vs H') -> t σ H Q
def JA1 (K:PySem.W.Frag) (cls:String -> Option Addr) (te:TE) (a:Arg):Prop:=∀ Av G S₀ ρ σ S H Q s,SR K cls Av G S₀ ρ σ S H -> j6 a ρ = some s -> (∀ v S' H',bt S H S' H' -> AR1 K S' H' ρ σ a s v -> Q v H') -> te σ H Q
theorem BL {te:TE} {me:ae -> OE} (h:JE K cls W te me):JA1 K cls te (.e me):=by
 intro Av G S₀ ρ σ S H Q s I e k
 unfold j6 at e
 dsimp only at e
 refine h Av G S₀ ρ σ S H Q I ?_
 cases em:me ρ with
 | exc c fs=>rw [em] at e; cases e
 | bad=>rw [em] at e; cases e
 | ok r=>
   rw [em] at e
   obtain ⟨x,e1,rfl⟩:=Option.map_eq_some_iff.mp e
   intro v S1 H1 w1 r1
   obtain ⟨S2,w2,s2,rx⟩:=r1.share w1 e1
   exact k v S2 H1 w2 rx
theorem B7 {te:TE} {i:Nat} {mp:MP} (h:JP K cls te i mp):JA1 K cls te (.t i mp):=by
 intro Av G S₀ ρ σ S H Q s I e k
 unfold j6 at e
 dsimp only at e
 split at e
 . rename_i io t hi
   obtain ⟨u,e1,rfl⟩:=Option.map_eq_some_iff.mp e
   obtain ⟨π,e2,e3⟩:=Option.bind_eq_some_iff.mp e1
   obtain ⟨v0,hv⟩:=I.val hi
   exact h.at I hi hv e2 e3 fun w S1 H1 w1 I1 wk=>k w S1 H1 w1 ⟨io,t,π,v0,hi,e2,e3,hv,wk⟩
 . cases e
theorem Ct {te:TE} {i:Nat} {mp:MP} (h:JP K cls te i mp):JA1 K cls te (.b i mp):=by
 intro Av G S₀ ρ σ S H Q s I e k
 unfold j6 at e
 dsimp only at e
 obtain ⟨u,e1,rfl⟩:=Option.map_eq_some_iff.mp e
 unfold subAt at e1
 split at e1
 . rename_i t et
   split at e1
   . rename_i π eπ
     obtain ⟨v0,fp,hv,_⟩:=I.tree et
     exact h Av G S₀ ρ σ S H Q v0 t π I et hv eπ (by rw [e1]; rfl) fun w S1 H1 w1 wk=>k w S1 H1 w1 ⟨t,π,v0,et,eπ,e1,hv,wk⟩
   . cases e1
 . cases e1
theorem pC:JAI K cls kU []:=by
 intro Av G S₀ ρ σ S H Q ss I e k
 cases e
 exact k [] S H (bt.refl I.sh) ⟨rfl,rfl⟩
theorem uq {te:TE} {t:TA} {a:Arg} {as:List Arg} (h:JA1 K cls te a) (r:JAI K cls t as):JAI K cls (jm te t) (a ::as):=by
 intro Av G S₀ ρ σ S H Q ss I e k
 unfold jS at e
 obtain ⟨s,e1,e2⟩:=Option.bind_eq_some_iff.mp e
 obtain ⟨sr,e3,rfl⟩:=Option.map_eq_some_iff.mp e2
 refine h Av G S₀ ρ σ S H _ s I e1 fun v S1 H1 w1 h1=>?_
 refine r Av G S₀ ρ σ S1 H1 _ sr (I.grow w1) e3 fun vs S2 H2 w2 h2=>?_
 exact k (v ::vs) S2 H2 (w1.trans w2) ⟨s,sr,v,vs,rfl,rfl,h1.mono w2.s w2.g,h2⟩
end
end L2.P
namespace L2.P
open PySem PySem.Spec PyProof.Rows L2 L2.E
section
variable {K:PySem.W.Frag} {cls:String -> Option Addr} {W:XW} {Av G S₀ S S' H H' B B':Hp} {ρ:ae} {σ:St} {Q:VK} {F Fc Fc':Nat -> List Addr}
def cY:List Arg -> List Nat
 | []=>[]
 | .t i _ ::as=>i ::cY as
 | _ ::as=>cY as
def n6:List Arg -> List Nat
 | []=>[]
 | .b i _ ::as=>i ::n6 as
 | _ ::as=>n6 as
def argsOk (as:List Arg):Bool:=decide (cY as).Nodup && (n6 as).all fun i=>!(cY as).contains i
theorem fJ {as:List Arg} {k i:Nat} {mp:MP} (h:as[k]? = some (.t i mp)):i ∈ cY as:=by
 induction as generalizing k with
 | nil=>simp at h
 | cons a as ih=>
   cases k with
   | zero=>simp at h; subst h; simp [cY]
   | succ k=>
     simp at h
     have:=ih h
     cases a <;> simp [cY,this]
theorem vP {as:List Arg} {k i:Nat} {mp:MP} (h:as[k]? = some (.b i mp)):i ∈ n6 as:=by
 induction as generalizing k with
 | nil=>simp at h
 | cons a as ih=>
   cases k with
   | zero=>simp at h; subst h; simp [n6]
   | succ k=>
     simp at h
     have:=ih h
     cases a <;> simp [n6,this]
theorem kx {as:List Arg} (nd:(cY as).Nodup) {j k i:Nat} {mp mp':MP} (h:as[j]? = some (.t i mp)) (h':as[k]? = some (.t i mp')):j = k:=by
 induction as generalizing j k with
 | nil=>simp at h
 | cons a as ih=>
   cases j with
   | zero=>
     simp at h
     subst h
     cases k with
     | zero=>rfl
     | succ k=>
       simp at h'
       have:=fJ h'
       simp [cY] at nd
       exact absurd this nd.1
   | succ j=>
     cases k with
     | zero=>
       simp at h'
       subst h'
       simp at h
       have:=fJ h
       simp [cY] at nd
       exact absurd this nd.1
     | succ k=>
       simp at h h'
       have nd':(cY as).Nodup:=by
        cases a with
        | t i' mp=>simp [cY] at nd; exact nd.2
        | e me=>exact nd
        | b i' mp=>exact nd
       rw [ih nd' h h']
theorem oy {as:List Arg} {i:Nat} (h:i ∈ cY as):∃ (k:Nat) (mp:MP),as[k]? = some (.t i mp):=by
 induction as with
 | nil=>simp [cY] at h
 | cons a as ih=>
   cases a with
   | t j mp=>
     simp [cY] at h
     rcases h with h | h
     . subst h; exact ⟨0,mp,rfl⟩
     . obtain ⟨k,mp',e⟩:=ih h; exact ⟨k + 1,mp',by simpa using e⟩
   | e me=>obtain ⟨k,mp',e⟩:=ih h; exact ⟨k + 1,mp',by simpa using e⟩
   | b j mp=>obtain ⟨k,mp',e⟩:=ih h; exact ⟨k + 1,mp',by simpa using e⟩
theorem oV {as:List Arg} {ρ₀:ae}:∀ {us:List (Option OV)} {ρ:ae} {i:Nat},i ∉ cY as -> (fw ρ₀ as us ρ)[i]? = ρ[i]?:=by
 induction as with
 | nil=>intro us ρ i _; rfl
 | cons a as ih=>
   intro us ρ i h
   unfold fw
   cases a with
   | e me=>rw [ih h]; rfl
   | b j mp=>rw [ih h]; rfl
   | t j mp=>
     simp [cY] at h
     rw [ih h.2]
     have:∀ x:Option Sl,(ρ.set j x)[i]? = ρ[i]?:=fun x=>List.getElem?_set_ne (Ne.symm h.1)
     cases us.head?.join with
     | none=>exact this _
     | some u=>
       unfold jM
       dsimp only
       split
       . split
         . exact this _
         . exact this _
       . exact this _
theorem vm {as:List Arg} {ρ₀:ae}:∀ {us:List (Option OV)} {ρ:ae} {i k:Nat} {mp:MP} {s:Sl},(cY as).Nodup -> as[k]? = some (.t i mp) -> (fw ρ₀ as us ρ)[i]? = some (some s) ->
  ∃ io t π u,us[k]? = some (some u) /\ ρ[i]? = some (some (.tr io t)) /\ mp ρ₀ = some π /\ s = .tr io (t.put π u):=by
 induction as with
 | nil=>intro us ρ i k mp s _ h; simp at h
 | cons a as ih=>
   intro us ρ i k mp s nd h e
   unfold fw at e
   cases k with
   | zero=>
     simp at h
     subst h
     simp [cY] at nd
     rw [oV nd.1] at e
     cases us with
     | nil=>
       unfold jM at e
       simp at e
       rw [List.getElem?_set] at e
       simp at e
     | cons u us=>
       cases u with
       | none=>
         unfold jM at e
         simp at e
         rw [List.getElem?_set] at e
         simp at e
       | some u=>
         unfold jM at e
         simp only [List.head?_cons,Option.join_some] at e
         split at e
         . rename_i io t hi
           split at e
           . rename_i π hπ
             rw [List.getElem?_set] at e
             simp at e
             exact ⟨io,t,π,u,rfl,hi,hπ,e.2.symm⟩
           . rw [List.getElem?_set] at e
             simp at e
         . rw [List.getElem?_set] at e
           simp at e
   | succ k=>
     simp at h
     have nd':(cY as).Nodup:=by
      cases a with
      | t i' mp=>simp [cY] at nd; exact nd.2
      | e me=>exact nd
      | b i' mp=>exact nd
     obtain ⟨io,t,π,u,e1,e2,e3,e4⟩:=ih nd' h e
     refine ⟨io,t,π,u,?_,?_,e3,e4⟩
     . cases us with
       | nil=>simp at e1
       | cons _ us=>simpa using e1
     . cases a with
       | e me=>exact e2
       | b j mp=>exact e2
       | t j mp'=>
         have hij:i ≠ j:=by
          intro z
          subst z
          simp [cY] at nd
          exact nd.1 (fJ h)
         have:∀ x:Option Sl,(ρ.set j x)[i]? = ρ[i]?:=fun x=>List.getElem?_set_ne (Ne.symm hij)
         cases q:us.head?.join with
         | none=>rw [q] at e2; unfold jM at e2; simp only at e2; rw [this] at e2; exact e2
         | some u=>
           rw [q] at e2
           unfold jM at e2
           simp only at e2
           split at e2
           . split at e2
             . rw [this] at e2; exact e2
             . rw [this] at e2; exact e2
           . rw [this] at e2; exact e2
theorem tR {as:List Arg} {ρ₀:ae}:∀ {us:List (Option OV)} {ρ:ae},(fw ρ₀ as us ρ).length = ρ.length:=by
 induction as with
 | nil=>intro us ρ; rfl
 | cons a as ih=>
   intro us ρ
   unfold fw
   rw [ih]
   unfold jM
   split
   . split
     . split <;> simp
     . simp
   . simp
   . rfl
theorem SR.FF {as:List Arg} {ss:List Sl} {vs:List V} (I:SR K cls Av G S₀ ρ σ S H) (ok:argsOk as = true) (h:ARs K S H ρ σ as ss vs):
  ∃ Fc,Ab K cls ss vs S H Fc /\ ∀ outs S' H' Fc',zG K cls vs S H Fc outs S' H' Fc' -> SR K cls Av G S₀ (fw ρ as outs ρ) σ S' H':=by
 obtain ⟨F,J⟩:=I
 unfold argsOk at ok
 rw [Bool.and_eq_true,decide_eq_true_eq] at ok
 obtain ⟨nd,hb⟩:=ok
 have cell:∀ k:Nat,∃ d:List Addr × List Addr,(∀ i mp,as[k]? = some (.t i mp) -> ∃ io t π u v0 w,ss[k]? = some (.tr true u) /\ vs[k]? = some w /\ ρ[i]? = some (some (.tr io t)) /\ mp ρ = some π /\ t.get π = some u /\ σ[i]? = some (some v0) /\ bM K cls S H u w d.1 /\ (F i).Perm (d.1 ++ d.2) /\ (d.1 ++ d.2).Nodup /\ (io = true -> Av i = some (.lst [v0])) /\
   ∀ S' H' u' f',aF S S' -> bM K cls S' H' u' w f' -> (∀ a ∈ d.2,∀ o,H a = some o -> H' a = some o) -> ∃ g,bM K cls S' H' (t.put π u') v0 g /\ g.Perm (f' ++ d.2)) /\ ((∀ i mp,as[k]? ≠ some (.t i mp)) -> d = ([],[])):=by
  intro k
  by_cases hk:∃ i mp,as[k]? = some (.t i mp)
  . obtain ⟨i,mp,e⟩:=hk
    obtain ⟨s,w,es,ev,r⟩:=h.at e
    cases s with
    | tr io' u=>
      cases io' with
      | false=>exact r.elim
      | true=>
        obtain ⟨io,t,π,v0,h1,h2,h3,h4,h5⟩:=r
        obtain ⟨v,ev',ro,ndf,gs,hio⟩:=J.own i _ h1
        rw [h4] at ev'; cases ev'
        obtain ⟨w',f1,rest,wk,r1,p1,c1⟩:=ro.focus h3
        have:=h5.inj wk
        subst this
        refine ⟨(f1,rest),fun i' mp' e'=>?_,fun z=>absurd e (z i mp)⟩
        rw [e] at e'
        cases e'
        exact ⟨io,t,π,u,v0,w,es,ev,h1,h2,h3,h4,r1,p1,p1.nodup_iff.mp ndf,hio,c1⟩
    | sh x=>exact r.elim
    | ow x=>exact r.elim
    | ex c fs=>exact r.elim
    | bo x=>exact r.elim
  . exact ⟨([],[]),fun i mp e=>absurd ⟨i,mp,e⟩ hk,fun _=>rfl⟩
 obtain ⟨d,hd⟩:=Classical.axiomOfChoice cell
 have tOf:∀ k a,a ∈ (d k).1 -> ∃ i mp,as[k]? = some (.t i mp) /\ a ∈ F i:=by
  intro k a ha
  by_cases hk:∃ i mp,as[k]? = some (.t i mp)
  . obtain ⟨i,mp,e⟩:=hk
    obtain ⟨io,t,π,u,v0,w,_,_,_,_,_,_,_,p1,_⟩:=(hd k).1 i mp e
    exact ⟨i,mp,e,p1.mem_iff.mpr (List.mem_append_left _ ha)⟩
  . rw [(hd k).2 fun i mp e=>hk ⟨i,mp,e⟩] at ha; cases ha
 have hlen:=h.len
 have nT:∀ i a,a ∈ F i -> (∀ k mp,as[k]? = some (.t i mp) -> a ∉ (d k).1) -> ∀ k,a ∉ (d k).1:=by
  intro i a ha hn k hk
  obtain ⟨i',mp,e,ha'⟩:=tOf k a hk
  have:=J.apart i i' a ha ha'
  subst this
  exact hn k mp e hk
 refine ⟨fun k=>(d k).1,⟨J.sh,by rw [hlen.1,hlen.2],fun k s es=>?_,fun j k a h1 h2=>?_,fun k a ha=>?_⟩,fun outs S' H' Fc' E=>?_⟩
 . have hk:k < as.length:=by rw [<- hlen.1]; exact (List.getElem?_eq_some_iff.mp es).1
   obtain ⟨s',w,es',ev,r⟩:=h.at (k:=k) (a:=as[k]) (by simp [hk])
   rw [es] at es'; cases es'
   refine ⟨w,ev,?_⟩
   cases q:as[k] with
   | e me=>
     rw [q] at r
     have hz:=(hd k).2 fun i mp e=>by rw [List.getElem?_eq_getElem hk,q] at e; cases e
     cases s <;> first | exact r.elim | exact ⟨by rw [hz],r⟩
   | t i mp=>
     have eq:as[k]? = some (.t i mp):=by rw [List.getElem?_eq_getElem hk,q]
     obtain ⟨io,t,π,u,v0,w',es',ev',_,_,_,_,r1,_,nd1,_⟩:=(hd k).1 i mp eq
     rw [es] at es'; cases es'
     rw [ev] at ev'; cases ev'
     exact ⟨r1,(List.nodup_append.mp nd1).1⟩
   | b i mp=>
     have eq:as[k]? = some (.b i mp):=by rw [List.getElem?_eq_getElem hk,q]
     rw [q] at r
     have hz:=(hd k).2 fun i mp e=>by rw [eq] at e; cases e
     cases s with
     | bo u=>
       obtain ⟨t,π,v0,h1,h2,h3,h4,h5⟩:=r
       refine ⟨by rw [hz],?_⟩
       have nt:i ∉ cY as:=by
        have:=List.all_eq_true.mp hb i (vP eq)
        simpa using this
       have ro:∃ f,bM K cls S (minus H fun k=>(d k).1) t v0 f:=by
        unfold jc at h1
        cases q1:ρ[i]? with
        | none=>rw [q1] at h1; cases h1
        | some o=>
          cases o with
          | none=>rw [q1] at h1; cases h1
          | some s1=>
            rw [q1] at h1
            obtain ⟨v,ev',r⟩:=J.own i s1 q1
            rw [h4] at ev'; cases ev'
            cases s1 with
            | tr io t'=>
              cases h1
              exact ⟨_,r.1.mono (aF.refl _) fun a ha o ho=>by
               rw [ij (nT i a ha fun k' mp' e'=>absurd (fJ e') nt)]; exact ho⟩
            | bo t'=>
              cases h1
              obtain ⟨_,f,r⟩:=r
              exact ⟨f,r.mono (aF.refl _) fun a ha o ho=>by
               rw [ij fun k' hk'=>?_]
               . exact J.gh _ _ ho
               . obtain ⟨i',mp',_,ha'⟩:=tOf k' a hk'
                 rw [(J.live i' a ha').2.1] at ho; cases ho⟩
            | sh x=>cases h1
            | ow x=>cases h1
            | ex c fs=>cases h1
       obtain ⟨f,ro⟩:=ro
       obtain ⟨w',f1,rest,wk,r1,_,_⟩:=ro.focus h3
       have:=h5.inj (wk.mono pZ)
       subst this
       exact ⟨f1,r1⟩
     | sh x=>exact r.elim
     | ow x=>exact r.elim
     | ex c fs=>exact r.elim
     | tr io x=>exact r.elim
 . obtain ⟨i,mp,e1,m1⟩:=tOf j a h1
   obtain ⟨i',mp',e2,m2⟩:=tOf k a h2
   have:=J.apart i i' a m1 m2
   subst this
   exact kx nd e1 e2
 . obtain ⟨i,mp,e1,m1⟩:=tOf k a ha
   exact ⟨(J.live i a m1).1,(J.live i a m1).2.2⟩
 .
  have noS:∀ i a,a ∈ F i -> (∀ k,a ∉ (d k).1) -> S' a = none:=fun i a ha hn=>by
   cases z:S' a with
   | none=>rfl
   | some o=>
     obtain ⟨⟨o',h1,_⟩,_,h3⟩:=J.live i a ha
     rcases E.new a (by rw [z]; simp) with y | y | ⟨k,y⟩
     . exact absurd h3 y
     . rw [h1] at y; cases y
     . exact absurd y (hn k)
  have keep:∀ a o,(∀ k,a ∉ (d k).1) -> H a = some o -> H' a = some o:=fun a o hn ho=>E.keep a o (by rw [ij hn]; exact ho)
  have restOff:∀ k i mp,as[k]? = some (.t i mp) -> ∀ a ∈ (d k).2,a ∈ F i /\ ∀ k',a ∉ (d k').1:=fun k i mp e a ha=>by
   obtain ⟨io,t,π,u,v0,w,_,_,_,_,_,_,_,p1,nd1,_⟩:=(hd k).1 i mp e
   have m:a ∈ F i:=p1.mem_iff.mpr (List.mem_append_right _ ha)
   refine ⟨m,nT i a m fun k' mp' e' hk'=>?_⟩
   have:=kx nd e e'
   subst this
   exact (List.nodup_append.mp nd1).2.2 a hk' a ha rfl
  have gcell:∀ k:Nat,∃ g:List Addr,∀ i mp u',as[k]? = some (.t i mp) -> outs[k]? = some (some u') -> ∀ io t π,ρ[i]? = some (some (.tr io t)) -> mp ρ = some π -> ∃ v0,σ[i]? = some (some v0) /\ (io = true -> Av i = some (.lst [v0])) /\ bM K cls S' H' (t.put π u') v0 g /\ g.Perm (Fc' k ++ (d k).2):=by
   intro k
   by_cases hk:∃ i mp u',as[k]? = some (.t i mp) /\ outs[k]? = some (some u')
   . obtain ⟨i,mp,u',e,eo⟩:=hk
     obtain ⟨io,t,π,u,v0,w,es,ev,h1,h2,h3,h4,r1,p1,nd1,hio,c1⟩:=(hd k).1 i mp e
     obtain ⟨w',ew,r',ndf'⟩:=E.out k u' eo
     rw [ev] at ew; cases ew
     obtain ⟨g,rg,pg⟩:=c1 S' H' u' (Fc' k) E.s r' fun a ha o ho=>keep a o (restOff k i mp e a ha).2 ho
     refine ⟨g,fun i' mp' u'' e' eo' io' t' π' h1' h2'=>?_⟩
     rw [e] at e'; cases e'
     rw [eo] at eo'; cases eo'
     rw [h1] at h1'; cases h1'
     rw [h2] at h2'; cases h2'
     exact ⟨v0,h4,hio,rg,pg⟩
   . exact ⟨[],fun i mp u' e eo=>absurd ⟨i,mp,u',e,eo⟩ hk⟩
  obtain ⟨g,hg⟩:=Classical.axiomOfChoice gcell
  have fcell:∀ i:Nat,∃ f:List Addr,(i ∉ cY as -> f = F i) /\ ∀ k mp,as[k]? = some (.t i mp) -> ((∃ io t π u',ρ[i]? = some (some (.tr io t)) /\ mp ρ = some π /\ outs[k]? = some (some u')) -> f = g k) /\ ((¬ ∃ io t π u',ρ[i]? = some (some (.tr io t)) /\ mp ρ = some π /\ outs[k]? = some (some u')) -> f = []):=by
   intro i
   by_cases hi:i ∈ cY as
   . obtain ⟨k,mp,e⟩:=oy hi
     by_cases hx:∃ io t π u',ρ[i]? = some (some (.tr io t)) /\ mp ρ = some π /\ outs[k]? = some (some u')
     . refine ⟨g k,fun z=>absurd hi z,fun k' mp' e'=>?_⟩
       have:=kx nd e e'
       subst this
       rw [e] at e'; cases e'
       exact ⟨fun _=>rfl,fun z=>absurd hx z⟩
     . refine ⟨[],fun z=>absurd hi z,fun k' mp' e'=>?_⟩
       have:=kx nd e e'
       subst this
       rw [e] at e'; cases e'
       exact ⟨fun z=>absurd z hx,fun _=>rfl⟩
   . exact ⟨F i,fun _=>rfl,fun k mp e=>absurd (fJ e) hi⟩
  obtain ⟨F',hF'⟩:=Classical.axiomOfChoice fcell
  have memF:∀ i a,a ∈ F' i -> (i ∉ cY as /\ a ∈ F i /\ ∀ k,a ∉ (d k).1) \/ (∃ k mp,as[k]? = some (.t i mp) /\ F' i = g k /\ ((a ∈ Fc' k) \/ (a ∈ F i /\ ∀ k,a ∉ (d k).1)) /\ ∃ io t π u',ρ[i]? = some (some (.tr io t)) /\ mp ρ = some π /\ outs[k]? = some (some u')):=by
   intro i a ha
   by_cases hi:i ∈ cY as
   . obtain ⟨k,mp,e⟩:=oy hi
     by_cases hx:∃ io t π u',ρ[i]? = some (some (.tr io t)) /\ mp ρ = some π /\ outs[k]? = some (some u')
     . have e1:=((hF' i).2 k mp e).1 hx
       refine .inr ⟨k,mp,e,e1,?_,hx⟩
       obtain ⟨io,t,π,u',h1,h2,h3⟩:=hx
       obtain ⟨v0,_,_,rg,pg⟩:=hg k i mp u' e h3 io t π h1 h2
       rw [e1] at ha
       rcases List.mem_append.mp (pg.mem_iff.mp ha) with z | z
       . exact .inl z
       . exact .inr (restOff k i mp e a z)
     . rw [((hF' i).2 k mp e).2 hx] at ha; cases ha
   . have e1:=(hF' i).1 hi
     rw [e1] at ha
     exact .inl ⟨hi,ha,nT i a ha fun k mp e=>absurd (fJ e) hi⟩
  refine ⟨F',?_,J.s0.trans E.s,E.sh,fun b hbn=>?_,fun i s e=>?_,fun i j a h1 h2=>?_,fun i a ha=>?_,?_⟩
  . intro b u hu
    refine keep b u (fun k hk=>?_) (J.gh b u hu)
    obtain ⟨i,mp,_,m⟩:=tOf k b hk
    rw [(J.live i b m).2.1] at hu; cases hu
  . rcases E.new b hbn with z | z | ⟨k,z⟩
    . exact J.new b z
    . exact .inr (J.gh.free z)
    . obtain ⟨i,mp,_,m⟩:=tOf k b z
      exact .inr (J.live i b m).2.1
  . by_cases hi:i ∈ cY as
    . obtain ⟨k,mp,ek⟩:=oy hi
      obtain ⟨io,t,π,u,e1,e2,e3,rfl⟩:=vm nd ek e
      obtain ⟨v0,h1,hio,rg,pg⟩:=hg k i mp u ek e1 io t π e2 e3
      have e4:=((hF' i).2 k mp ek).1 ⟨io,t,π,u,e2,e3,e1⟩
      rw [e4]
      obtain ⟨w',ew,r',ndf'⟩:=E.out k u e1
      refine ⟨v0,h1,rg,pg.nodup_iff.mpr (List.nodup_append.mpr ⟨ndf',?_,fun a ha b hb' z=>?_⟩),fun a ha=>?_,hio⟩
      . obtain ⟨_,_,_,_,_,_,_,_,_,_,_,_,_,_,nd1,_⟩:=(hd k).1 i mp ek
        exact (List.nodup_append.mp nd1).2.1
      . subst z
        obtain ⟨m,off⟩:=restOff k i mp ek a hb'
        have:=(E.live k a ha).1
        rw [ij off] at this
        obtain ⟨⟨o,ho,_⟩,_⟩:=J.live i a m
        rw [this] at ho; cases ho
      . rcases List.mem_append.mp (pg.mem_iff.mp ha) with z | z
        . refine ⟨?_,(E.live k a z).2⟩
          rcases ko (E.live k a z).1 with y | ⟨k',y⟩
          . exact J.gh.free y
          . obtain ⟨i',mp',_,m⟩:=tOf k' a y
            exact (J.live i' a m).2.1
        . obtain ⟨m,off⟩:=restOff k i mp ek a z
          exact ⟨(J.live i a m).2.1,noS i a m off⟩
    . rw [oV hi] at e
      obtain ⟨v,ev,r⟩:=J.own i s e
      rw [(hF' i).1 hi]
      have off:∀ a ∈ F i,∀ k,a ∉ (d k).1:=fun a ha=>nT i a ha fun k mp e=>absurd (fJ e) hi
      exact ⟨v,ev,r.mono E.s (fun a ha o ho=>keep a o (off a ha) ho) (fun b o hx ho=>keep b o (fun k hk=>by
       obtain ⟨i',mp',_,m⟩:=tOf k b hk
       obtain ⟨⟨o',h1,h2⟩,_⟩:=J.live i' b m
       rw [ho] at h1; cases h1; rw [hx] at h2; cases h2) ho) fun a ha=>noS i a ha (off a ha)⟩
  .
   have key:∀ i j a,a ∈ F' i -> a ∈ F' j -> (∃ k,a ∈ Fc' k) -> ∃ k mp,as[k]? = some (.t i mp) /\ a ∈ Fc' k:=by
    intro i j a ha _ ⟨k0,hk0⟩
    have no:∀ i',a ∈ F i' -> ¬ ∀ k,a ∉ (d k).1:=fun i' m off=>by
     have:=(E.live k0 a hk0).1
     rw [ij off] at this
     obtain ⟨⟨o,ho,_⟩,_⟩:=J.live i' a m
     rw [this] at ho; cases ho
    rcases memF i a ha with ⟨_,m,off⟩ | ⟨k,mp,e,_,z,_⟩
    . exact absurd off (no i m)
    . rcases z with z | ⟨m,off⟩
      . exact ⟨k,mp,e,z⟩
      . exact absurd off (no i m)
   by_cases hk:∃ k,a ∈ Fc' k
   . obtain ⟨k1,mp1,e1,z1⟩:=key i j a h1 h2 hk
     obtain ⟨k2,mp2,e2,z2⟩:=key j i a h2 h1 hk
     have:=E.apart k1 k2 a z1 z2
     subst this
     rw [e1] at e2; cases e2; rfl
   . have fromF:∀ i,a ∈ F' i -> a ∈ F i:=fun i ha=>by
      rcases memF i a ha with ⟨_,m,_⟩ | ⟨k,mp,e,_,z,_⟩
      . exact m
      . rcases z with z | ⟨m,_⟩
        . exact absurd ⟨k,z⟩ hk
        . exact m
     exact J.apart i j a (fromF i h1) (fromF j h2)
  . rcases memF i a ha with ⟨_,m,off⟩ | ⟨k,mp,e,eg,z,io,t,π,u',x1,x2,x3⟩
    . obtain ⟨⟨o,ho,hx⟩,hg',_⟩:=J.live i a m
      exact ⟨⟨o,keep a o off ho,hx⟩,hg',noS i a m off⟩
    . obtain ⟨v0,_,_,rg,pg⟩:=hg k i mp u' e x3 io t π x1 x2
      rw [eg] at ha
      refine ⟨rg.live a ha,?_⟩
      rcases z with z | ⟨m,off⟩
      . refine ⟨?_,(E.live k a z).2⟩
        rcases ko (E.live k a z).1 with y | ⟨k',y⟩
        . exact J.gh.free y
        . obtain ⟨i',mp',_,m⟩:=tOf k' a y
          exact (J.live i' a m).2.1
      . exact ⟨(J.live i a m).2.1,noS i a m off⟩
  . rw [tR]; exact J.len
end
end L2.P
namespace L2.E
open PySem PySem.Spec PyProof.Rows L2
section
variable {X:Cx} {k:Nat} {f C:Addr} {fd:FuncData} {ps:List Str} {sp:Sp} {ds:List Value} {W:XW} {x m:Str} {p pos apos:Pos} {e o:Expr} {es:List Expr} {ta:TE} {t:TA}
def sF (C:Addr) (m:Str) (sp:Sp) (W:XW) (ta:TE) (t:TA):TE:=fun σ H Q=>ta σ H fun x H1=>∃ a dx fs,x = .ref a /\ H1 a = some (.ins C dx fs) /\ fs.lookup m = none /\
 t σ H1 fun vs H2=>sp (x ::vs) H2 Q fun C a H'=>W C a σ H'
theorem ug {pl:Sem Bool} (he:QE X o ta) (c:Cls X.K C) (hm:Meth X.K C m f) (F:b0 X.prog X.w X.K X.mg X.base (CXE X.prog X.w) k f fd ps sp) (hr:gj k X.A) (hb:Binds X.K fd ps []) (hx:Thr X W) (ha:QA X (e ::es) t)
  (hst:starEach (e ::es) X.env = (false,eval e X.env) ::starEach es X.env:=by rfl) (hpl:(backTo pos (starEach es X.env)).any (·.1) = false:=by rfl)
  (ht:eval (.Call (.Attribute o m apos) (e ::es) [] pos) X.env = (do
    let ov <- eval o X.env
    standAt apos.atName
    let (f,first) <- holding [ov] (getMethod ov m pl)
    callWith pos f first (backTo pos (starEach (e ::es) X.env)) (backToKw pos (keywordEach [] X.env))):=by rfl):
  QE X (.Call (.Attribute o m apos) (e ::es) [] pos) (sF C m sp W ta t):=⟨by
 intro pins s σ H Q I h
 refine PySem.W.methodCall_KW (pl:=pl) (thn (he.out pins s σ H _ I h) fun u s1 ⟨x,H1,I1,rx,a,dx,fs,ex,ea,l,q⟩=>?_) ht
 subst ex
 obtain rfl:u = Value.ref a:=rx
 refine qd I1 ea c hm l ?_
 refine PySem.W.callWith_K (first:=[.ref a]) (h₀:=X.base) I.ok.mod.kin hm.kp (thn (ha.out pos pins s1 σ H1 _ I1 q) fun us s2 ⟨vs,H2,I2,r,q2⟩=>⟨I2.kIn,?_⟩) hst hpl
 exact pw (us:=.ref a ::us) (vs:=.ref a ::vs) (dvs:=[]) F hr hb .nil hx I2 (.cons rfl r) (by rw [List.append_nil]; exact q2)⟩
theorem rN {pl:Sem Bool} (he:QE X o ta) (c:Cls X.K C) (hm:Meth X.K C m f) (F:b0 X.prog X.w X.K X.mg X.base (CXE X.prog X.w) k f fd ps sp) (hr:gj k X.A) (hb:Binds X.K fd ps []) (hx:Thr X W)
  (ht:eval (.Call (.Attribute o m apos) [] [] pos) X.env = (do
    let ov <- eval o X.env
    standAt apos.atName
    let (f,first) <- holding [ov] (getMethod ov m pl)
    callWith pos f first (backTo pos (starEach [] X.env)) (backToKw pos (keywordEach [] X.env))):=by rfl):
  QE X (.Call (.Attribute o m apos) [] [] pos) (sF C m sp W ta kU):=⟨by
 intro pins s σ H Q I h
 refine PySem.W.methodCall_KW (pl:=pl) (thn (he.out pins s σ H _ I h) fun u s1 ⟨x,H1,I1,rx,a,dx,fs,ex,ea,l,q⟩=>?_) ht
 subst ex
 obtain rfl:u = Value.ref a:=rx
 refine qd I1 ea c hm l ?_
 exact PySem.W.callWith_K0 (first:=[.ref a]) I1.kIn hm.kp (pw (us:=[.ref a]) (vs:=[.ref a]) (dvs:=[]) F hr hb .nil hx I1 (.cons rfl .nil) q)⟩
theorem rq {x:Str} (F:b0 X.prog X.w X.K X.mg X.base (CXE X.prog X.w) k f fd ps sp) (hr:gj k X.A) (hg:Gl X x) (hm:X.mg x = some (.ref f)) (hk:PySem.W.keepIn X.K (.ref f) = true) (hb:Binds X.K fd ps []) (hx:Thr X W)
  (hdb:(x == ("__debug__":Str)) = false:=by decide):QE X (.Call (.Name x p) [] [] pos) (qf sp [] W kU):=⟨xr F hr hg hm hk hb .nil hx hdb⟩
theorem zT (M:Mk X.K C f) (F:b0 X.prog X.w X.K X.mg X.base (CXE X.prog X.w) k f fd ps sp) (hr:gj (k + 1) X.A) (hg:Gl X x) (hm:X.mg x = some (.ref C)) (hb:Binds X.K fd ps []) (hdb:(x == ("__debug__":Str)) = false:=by decide):
  QE X (.Call (.Name x p) [] [] pos) (yo C sp [] (fun _ _ _=>False) kU):=⟨y6 M F hr hg hm hb .nil (fun pins σ H s e s' I h=>by obtain ⟨a,C,dx,H',_,_,_,_,_,_,z⟩:=h; exact z.elim) hdb⟩
theorem pQ {f:Str} (he:QE X e ta) (hb:attributeBase e f X.env (eval e X.env) = eval e X.env:=by rfl):QE X (.Attribute e f pos) (C9 X.K ta f):=⟨Dt he.out hb⟩
theorem Ek {f:Str} {value:Expr} {tv:TE} {pos':Pos} (ha:QE X o ta) (hv:QE X value tv) (hs:swapsWith value (some (.Attribute o f pos')) pos.line X.env = pure false:=by rfl):QS X (.Assign [.Attribute o f pos'] value pos) (CP X.K ta tv f):=⟨CV ha.out hv.out hs⟩
end
end L2.E
namespace L2.P
open PySem PySem.Spec PyProof.Rows L2 L2.E
section
variable {K:PySem.W.Frag} {cls:String -> Option Addr} {W:XW} {Av G S₀ S S' H H' B B':Hp} {ρ:ae} {σ:St} {Q:VK} {F Fc Fc':Nat -> List Addr}
theorem SR.more {x:PV} {v:V} (I:SR K cls Av G S₀ ρ σ S H) (h:Rep K S x v):SR K cls Av G S₀ (ρ ++ [some (.sh x)]) (σ ++ [some v]) S H:=by
 obtain ⟨F,J⟩:=I
 exact J.more (fp:=[]) (fun t e=>by cases e; exact ⟨v,rfl,rfl,h⟩) (fun a ha=>nomatch ha) fun j a _ ha=>nomatch ha
theorem vS {f:List Sl -> OI} {as:List Arg} {ss:List Sl} {vs:List V} {S1 H1:Hp} (ok:argsOk as = true) (I:SR K cls Av G S₀ ρ σ S1 H1) (s1:aF S S1) (ar:ARs K S1 H1 ρ σ as ss vs)
  (p:BM K cls W Av G S₀ σ S Q (match f ss with
    | .ok x outs=>.ok (fw ρ as outs ρ) (.sh x)
    | .exc c fs outs=>.exc (fw ρ as outs ρ) c fs
    | .bad=>.bad)):spI K cls f vs H1 Q fun C a H'=>W C a σ H':=by
 obtain ⟨Fc,A,fin⟩:=I.FF ok ar
 refine ⟨S1,ss,Fc,A,?_⟩
 cases e:f ss with
 | bad=>rw [e] at p; exact p
 | ok x outs=>rw [e] at p; exact fun v S' H' Fc' E r=>p v S' H' ((fin outs S' H' Fc' E).more r) (s1.trans E.s)
 | exc c fs outs=>rw [e] at p; exact fun a C S' H' Fc' E r=>p a C S' H' (fin outs S' H' Fc' E) (s1.trans E.s) r
theorem wY {c:String} {m:Str} {C:Addr} {a:Arg} {s:Sl} {v:V} (hc:cls c = some C) (I:SR K cls Av G S₀ ρ σ S H) (r:AR1 K S H ρ σ a s v) (h:recv c m (some s) = true):∃ q dx us,v = .ref q /\ H q = some (.ins C dx us) /\ us.lookup m = none:=by
 have main:∀ (ks:List Str) (ts:List OV) (f:List Addr),(c == c && !ks.contains m) = true -> bM K cls S H (.ob c ks ts) v f -> ∃ q dx us,v = .ref q /\ H q = some (.ins C dx us) /\ us.lookup m = none:=by
  intro ks ts f hk ro
  unfold bM at ro
  obtain ⟨q,C',dx,us,ff,rfl,hcl,hq,hd,hks,rfl,rs⟩:=ro
  rw [hc] at hcl; cases hcl
  refine ⟨q,dx,us,rfl,hq,?_⟩
  have hn:m ∉ us.map (·.1):=by rw [hks]; simpa using hk
  clear hks hk rs hq
  induction us with
  | nil=>rfl
  | cons p us ih=>
    obtain ⟨g,y⟩:=p
    simp at hn
    have:(m == g) = false:=by simpa using hn.1
    simp [List.lookup,this,ih (by simpa using hn.2)]
 cases a with
 | e me=>cases s <;> first | exact r.elim | cases h
 | t i mp=>
   cases s with
   | tr io u=>
     cases io with
     | false=>cases h
     | true=>
       cases u with
       | sh x=>cases h
       | ol ts=>cases h
       | di x=>cases h
       | dt x=>cases h
       | ob c' ks ts=>
         obtain ⟨io,t,π,v0,h1,h2,h3,h4,h5⟩:=r
         have h':(c' == c && !ks.contains m) = true:=h
         have hcc:c' = c:=by rw [Bool.and_eq_true] at h'; simpa using h'.1
         subst hcc
         obtain ⟨v',fp,ev,ro⟩:=I.tree (i:=i) (t:=t) (by unfold jc; rw [h1]; rfl)
         rw [h4] at ev; cases ev
         obtain ⟨w,f1,rest,wk,r1,_,_⟩:=ro.focus h3
         have:=h5.inj wk
         subst this
         exact main ks ts f1 h' r1
   | sh x=>exact r.elim
   | ow x=>exact r.elim
   | ex c fs=>exact r.elim
   | bo x=>exact r.elim
 | b i mp=>
   cases s with
   | bo u=>
     cases u with
     | sh x=>cases h
     | ol ts=>cases h
     | di x=>cases h
     | dt x=>cases h
     | ob c' ks ts=>
       obtain ⟨t,π,v0,h1,h2,h3,h4,h5⟩:=r
       have h':(c' == c && !ks.contains m) = true:=h
       have hcc:c' = c:=by rw [Bool.and_eq_true] at h'; simpa using h'.1
       subst hcc
       obtain ⟨v',fp,ev,ro⟩:=I.tree h1
       rw [h4] at ev; cases ev
       obtain ⟨w,f1,rest,wk,r1,_,_⟩:=ro.focus h3
       have:=h5.inj wk
       subst this
       exact main ks ts f1 h' r1
   | sh x=>exact r.elim
   | ow x=>exact r.elim
   | ex c fs=>exact r.elim
   | tr io x=>exact r.elim
theorem ua {c:String} {m:Str} {C:Addr} {f:List Sl -> OI} {a:Arg} {as:List Arg} {ta:TE} {t:TA} (hc:cls c = some C) (ok:argsOk (a ::as) = true) (ha:JA1 K cls ta a) (h:JAI K cls t as):JX K cls W (sF C m (spI K cls f) W ta t) (lq c m f (a ::as)):=by
 intro Av G S₀ ρ σ S H Q I p
 unfold lq at p
 dsimp only at p
 split at p
 . rename_i hr
   unfold sR at p
   cases e:jS (a ::as) ρ with
   | none=>rw [e] at p; exact p.elim
   | some ss=>
     rw [e] at p
     have e':=e
     unfold jS at e'
     obtain ⟨s,e1,e2⟩:=Option.bind_eq_some_iff.mp e'
     obtain ⟨sr,e3,rfl⟩:=Option.map_eq_some_iff.mp e2
     rw [e1] at hr
     refine ha Av G S₀ ρ σ S H _ s I e1 fun v S1 H1 w1 r1=>?_
     have I1:=I.grow w1
     obtain ⟨q,dx,us,rfl,hq,hl⟩:=wY hc I1 r1 hr
     refine ⟨q,dx,us,rfl,hq,hl,?_⟩
     refine h Av G S₀ ρ σ S1 H1 _ sr I1 e3 fun vs S2 H2 w2 ar=>?_
     exact vS (ss:=s ::sr) ok (I1.grow w2) (w1.s.trans w2.s) ⟨s,sr,_,vs,rfl,rfl,r1.mono w2.s w2.g,ar⟩ p
 . exact p.elim
theorem vf {f:List Sl -> OI} {as:List Arg} {ss:List Sl} {vs:List V} (ok:cY as = []) (I:SR K cls Av G S₀ ρ σ S H) (ar:ARs K S H ρ σ as ss vs)
  (p:jn K cls W σ S H Q (match f ss with
    | .ok x _=>.ok (.sh x)
    | .exc c fs _=>.exc c fs
    | .bad=>.bad)):spI K cls f vs H Q fun C a H'=>W C a σ H':=by
 have hm:minus H (fun _=>[]) = H:=by funext a; exact ij fun k h=>nomatch h
 have hlen:=ar.len
 refine ⟨S,ss,fun _=>[],⟨I.sh,by rw [hlen.1,hlen.2],fun k s es=>?_,fun j k a h=>(nomatch h),fun k a h=>(nomatch h)⟩,?_⟩
 . have hk:k < as.length:=by rw [<- hlen.1]; exact (List.getElem?_eq_some_iff.mp es).1
   obtain ⟨s',w,es',ev,r⟩:=ar.at (k:=k) (a:=as[k]) (by simp [hk])
   rw [es] at es'; cases es'
   refine ⟨w,ev,?_⟩
   cases q:as[k] with
   | e me=>
     rw [q] at r
     cases s <;> first | exact r.elim | exact ⟨rfl,r⟩
   | t i mp=>
     have:=fJ (as:=as) (k:=k) (i:=i) (mp:=mp) (by rw [List.getElem?_eq_getElem hk,q])
     rw [ok] at this; cases this
   | b i mp=>
     rw [q] at r
     cases s with
     | bo u=>
       obtain ⟨t,π,v0,h1,h2,h3,h4,h5⟩:=r
       obtain ⟨v',fp,ev',ro⟩:=I.tree h1
       rw [h4] at ev'; cases ev'
       obtain ⟨w',f1,rest,wk,r1,_,_⟩:=ro.focus h3
       have:=h5.inj wk
       subst this
       exact ⟨rfl,f1,by rw [hm]; exact r1⟩
     | sh x=>exact r.elim
     | ow x=>exact r.elim
     | ex c fs=>exact r.elim
     | tr io x=>exact r.elim
 . have gr:∀ {outs S' H' Fc'},zG K cls vs S H (fun _=>[]) outs S' H' Fc' -> bt S H S' H':=fun {outs S' H' Fc'} E=>⟨E.s,by have:=E.keep; rwa [hm] at this,E.sh,fun b hb=>by
    rcases E.new b hb with z | z | ⟨k,z⟩
    . exact .inl z
    . exact .inr z
    . cases z⟩
   cases e:f ss with
   | bad=>rw [e] at p; exact p
   | ok x outs=>rw [e] at p; exact fun v S' H' Fc' E r=>p v S' H' (gr E) r
   | exc c fs outs=>rw [e] at p; exact fun a C S' H' Fc' E r=>p a C S' H' (gr E) r
theorem uc {c:String} {m:Str} {C:Addr} {f:List Sl -> OI} {a:Arg} {as:List Arg} {ta:TE} {t:TA} (hc:cls c = some C) (ok:cY (a ::as) = []) (ha:JA1 K cls ta a) (h:JAI K cls t as):JE K cls W (sF C m (spI K cls f) W ta t) (jY c m f (a ::as)):=by
 intro Av G S₀ ρ σ S H Q I p
 unfold jY at p
 dsimp only at p
 split at p
 . rename_i hr
   unfold sU at p
   cases e:jS (a ::as) ρ with
   | none=>rw [e] at p; exact p.elim
   | some ss=>
     rw [e] at p
     have e':=e
     unfold jS at e'
     obtain ⟨s,e1,e2⟩:=Option.bind_eq_some_iff.mp e'
     obtain ⟨sr,e3,rfl⟩:=Option.map_eq_some_iff.mp e2
     rw [e1] at hr
     refine ha Av G S₀ ρ σ S H _ s I e1 fun v S1 H1 w1 r1=>?_
     have I1:=I.grow w1
     obtain ⟨q,dx,us,rfl,hq,hl⟩:=wY hc I1 r1 hr
     refine ⟨q,dx,us,rfl,hq,hl,?_⟩
     refine h Av G S₀ ρ σ S1 H1 _ sr I1 e3 fun vs S2 H2 w2 ar=>?_
     exact vf (ss:=s ::sr) ok (I1.grow w2) ⟨s,sr,_,vs,rfl,rfl,r1.mono w2.s w2.g,ar⟩ (p.back (w1.trans w2))
 . exact p.elim
theorem BF {c:String} {C:Addr} {f:List Sl -> OI} (hc:cls c = some C):JD K cls W (yo C (spI K cls f) [] (fun _ _ _=>False) kU) (rH c f):=by
 intro Av G S₀ ρ σ S H Q I p
 unfold rH at p
 show ∀ x dx,H x = none -> H dx = none -> dx ≠ x -> _
 intro x dx hx hdx ne
 have gS:∀ a,H a = none -> S a = none:=fun a h=>I.sh.free h
 let H1:=upd (upd H dx (.own x)) x (.ins C dx [])
 have h1x:H1 x = some (.ins C dx []):=ba
 have h1d:H1 dx = some (.own x):=by show upd _ x _ dx = _; rw [aW ne,ba]
 have h1o:∀ a,a ≠ x -> a ≠ dx -> H1 a = H a:=fun a n1 n2=>by show upd _ x _ a = _; rw [aW n1,aW n2]
 let Fc:Nat -> List Addr:=fun k=>if k = 0 then [x,dx] else []
 have mF:∀ k a,a ∈ Fc k -> k = 0 /\ (a = x \/ a = dx):=fun k a h=>by
  have h':a ∈ (if k = 0 then [x,dx] else []):=h
  split at h'
  . rename_i e; exact ⟨e,by simpa using h'⟩
  . cases h'
 have A:Ab K cls [.tr true (.ob c [] [])] [.ref x] S H1 Fc:=by
  refine ⟨fun b u h=>?_,rfl,fun k s e=>?_,fun j k a h1 h2=>?_,fun k a h=>?_⟩
  . have hb:=I.sh b u h
    rw [h1o b (fun z=>by rw [z,hx] at hb; cases hb) (fun z=>by rw [z,hdx] at hb; cases hb)]; exact hb
  . cases k with
    | zero=>
      cases e
      refine ⟨.ref x,rfl,?_,?_⟩
      . unfold bM
        exact ⟨x,C,dx,[],[],rfl,hc,h1x,h1d,rfl,rfl,.nil⟩
      . show [x,dx].Nodup
        simp [Ne.symm ne]
    | succ k=>simp at e
  . rw [(mF j a h1).1,(mF k a h2).1]
  . rcases (mF k a h).2 with z | z
    . subst z; exact ⟨⟨_,h1x,rfl⟩,gS _ hx⟩
    . subst z; exact ⟨⟨_,h1d,rfl⟩,gS _ hdx⟩
 refine ⟨S,_,Fc,A,?_⟩
 have free:∀ a,minus H1 Fc a = none -> H a = none:=fun a h=>by
  rcases ko h with z | ⟨k,z⟩
  . by_cases n1:a = x
    . rw [n1]; exact hx
    . by_cases n2:a = dx
      . rw [n2]; exact hdx
      . rw [h1o a n1 n2] at z; exact z
  . rcases (mF k a z).2 with y | y
    . rw [y]; exact hx
    . rw [y]; exact hdx
 cases e:f [.tr true (.ob c [] [])] with
 | bad=>rw [e] at p; exact p.elim
 | exc c fs outs=>rw [e] at p; exact p.elim
 | ok y outs=>
   rw [e] at p
   cases y with
   | non=>
     cases outs with
     | nil=>exact p.elim
     | cons o outs=>
       cases o with
       | none=>exact p.elim
       | some t=>
         dsimp only at p
         intro v S' H' Fc' E r
         unfold Rep at r
         refine ⟨r,p (.ref x) S' H' ⟨E.s,fun b u h=>?_,E.sh,fun b h=>?_⟩ ?_⟩
         . have n1:b ≠ x:=fun z=>by rw [z,hx] at h; cases h
           have n2:b ≠ dx:=fun z=>by rw [z,hdx] at h; cases h
           refine E.keep b u ?_
           rw [ij fun k z=>?_]
           . exact (h1o b n1 n2).trans h
           . rcases (mF k b z).2 with y | y
             . exact n1 y
             . exact n2 y
         . rcases E.new b h with z | z | ⟨k,z⟩
           . exact .inl z
           . refine .inr ?_
             by_cases n1:b = x
             . rw [n1]; exact hx
             . by_cases n2:b = dx
               . rw [n2]; exact hdx
               . exact (h1o b n1 n2).symm.trans z
           . rcases (mF k b z).2 with y | y
             . rw [y]; exact .inr hx
             . rw [y]; exact .inr hdx
         . obtain ⟨u,eu,ro,nd⟩:=E.out 0 t rfl
           cases eu
           exact ⟨Fc' 0,ro,nd,fun a ha=>⟨free a (E.live 0 a ha).1,(E.live 0 a ha).2⟩⟩
   | bl b=>exact p.elim
   | int b=>exact p.elim
   | str b=>exact p.elim
   | lst b=>exact p.elim
   | tup b=>exact p.elim
end
end L2.P
namespace L2.E
open PySem PySem.Spec PyProof.Rows L2
def sC (wi:TI) (ι:List Nat) (tc:TT) (te:TE):TE:=fun σ H Q=>wi σ H fun J H1=>∀ D,H1 D = none -> ∃ W:Nat -> Nat -> List V -> Hp -> Prop,(∃ m,W 0 m [] (upd H1 D (.lst []))) /\ ∀ i m ys H,W i m ys H ->
 H D = some (.lst ys) /\ ((J.stop i H /\ Q (.ref D) H) \/ (J.go i H /\ ∀ x H',J.yld i H x H' -> tc (pick ι σ ++ [some x]) H' fun b H3=>H3 D = some (.lst ys) /\ if b = true then
   te (pick ι σ ++ [some x]) H3 fun y H2=>H2 D = some (.lst ys) /\ ys.length < sizeLine /\ ∃ m',m' < m /\ W (i + 1) m' (ys ++ [y]) (upd H2 D (.lst (ys ++ [y]))) else ∃ m',m' < m /\ W (i + 1) m' ys H3))
section
variable {X:Cx} {scope:Scope} {cl:List (Str × Addr)} {M:List Str} {ι:List Nat} {x:Str}
theorem xV {elt iter c:Expr} {px pos:Pos} {wi:TI} {tc:TT} {te:TE} (S:ni X scope cl M ι x) (hc:X.calm = true) (hi:PI X (.Name x px) iter wi) (hcd:∀ C s₀ H₀ ex,PT (blk X scope cl (M ++ [x]) C s₀ H₀ ex) c tc) (he:∀ C s₀ H₀ ex,PE (blk X scope cl (M ++ [x]) C s₀ H₀ ex) elt te)
  (hs:∀ v,foldedSetIterable iter X.env v = pure v:=by intro _; rfl):PE X (.ListComp elt [⟨.Name x px,iter,[c],0⟩] scope pos) (sC wi ι tc te):=by
 intro pins s σ H Q I h
 rw [eval_ListComp]
 refine wpAny_comprehension_free (use:=none) rfl hs S.clos S.kind (fun y hy hl=>?_) (wpAny_mono (hi pins s σ H _ I h) (fun v s1 h1=>wpAny_mono h1 (fun itv s2 h2=>?_) fun _ _ z=>z) fun _ _ z=>z)
 . have q:=List.all_eq_true.mp S.locs y hy
   rw [hl] at q
   simpa using q
 obtain ⟨it,fp,tn,J,H2,rfl,I2,T,st2,f2,hW⟩:=h2
 have I3:=I2.Ew (ys:=[]) (its:=[]) (t':=s2.toks) .nil (Nat.zero_le _)
 obtain ⟨W,⟨m0,w0⟩,turn⟩:=hW s2.heap.objs.size I2.fresh
 have fpo:∀ b ∈ fp,b < s2.heap.objs.size:=fun b hb=>let ⟨_,e,_⟩:=T.obj _ _ st2 b hb; Heap.lt_size e
 have f3:∀ b ∈ fp,oz X pins (upd H2 s2.heap.objs.size (.lst [])) b:=fun b hb=>by
  obtain ⟨q0,q⟩:=f2 b hb
  exact ⟨by rw [aW (Nat.ne_of_lt (fpo b hb))]; exact q0,q⟩
 show wpAny _ _ (newObj (.type "list") _ none) _ _ s2
 refine wpAny_newObj_type (wpAny_newFunctionEnv (fun y hy=>?_) (by intro y hy; simp at hy) (fun h₁ hn₁ sb₁=>?_) S.kind)
 . have q:=List.all_eq_true.mp S.nocell y hy
   simpa using q
 have hsz:(s2.heap.push { cls:=.type "list",dict:=none,data:=.seq ([]:List Value).toArray }).objs.size = s2.heap.objs.size + 1:=Heap.size_push ..
 have hk₁:∀ b o,(s2.heap.push { cls:=.type "list",dict:=none,data:=.seq ([]:List Value).toArray }).get? b = some o -> h₁.get? b = some o:=fun b o e=>
  (sb₁.2 b (Nat.ne_of_lt (Heap.lt_size e))).trans (Heap.get?_push_of_some _ e)
 have J0:=yT (t':=s2.toks + ([]:List (Str × Value)).length) S I3 (ex:=fp) (fun b hb=>⟨f3 b hb,Nat.lt_of_lt_of_le (fpo b hb) (by rw [hsz]; exact Nat.le_succ _)⟩) hn₁ hk₁
 have old:∀ b ∈ fp,∀ o,s2.heap.get? b = some o -> h₁.get? b = some o:=fun b _ o e=>hk₁ b o (Heap.get?_push_of_some _ e)
 have st₁:tn 0 h₁:=T.keep _ _ _ st2 old
 have loop:codeAny (model X.prog X.w) X.A (.compLoop (.ListComp elt [⟨.Name x px,iter,[c],0⟩] scope pos) 0 (.ref it) (.ref s2.heap.objs.size) (compEnvC scope cl (s2.heap.objs.size + 1) X.env))
   (compPost (model X.prog X.w) X.A X.xe none (EP X pins σ Q) (.ref s2.heap.objs.size) (s2.heap.objs.size + 1)) { s2 with heap:=h₁,toks:=s2.toks + ([]:List (Str × Value)).length }:=by
  rw [hsz] at J0
  refine codeAny_loop rfl (fun n s'=>∃ i H' ys v,Inv (blk X scope cl (M ++ [x]) (s2.heap.objs.size + 1) { s2 with heap:=s2.heap.push { cls:=.type "list",data:=.seq ([]:List Value).toArray },toks:=s2.toks } (upd H2 s2.heap.objs.size (.lst [])) fp) [] (pick ι σ ++ [v]) H' s' /\ tn i s'.heap /\ (∀ b ∈ fp,H' b = none) /\ W i n ys H')
   (fun n s' hI=>?_) m0 ⟨0,_,[],none,J0,st₁,fun b hb=>(f3 b hb).1,w0⟩
  obtain ⟨i,H',ys,v,J',st',fr',w'⟩:=hI
  obtain ⟨hD,alt⟩:=turn i n ys H' w'
  have fpY:∀ {G:Hp},(∀ b ∈ fp,G b = none) -> ∀ b ∈ fp,oz (blk X scope cl (M ++ [x]) (s2.heap.objs.size + 1) { s2 with heap:=s2.heap.push { cls:=.type "list",data:=.seq ([]:List Value).toArray },toks:=s2.toks } (upd H2 s2.heap.objs.size (.lst [])) fp) [] G b:=fun hG b hb=>
   ⟨hG b hb,(J'.ok.exf b hb).1,J'.ok.exfs b hb,.inl hb,(J'.ok.exf b hb).2,fun p hp=>absurd (show p ∈ ([]:List (Addr × Obj)) from hp) (by simp)⟩
  show wpAny _ _ ((compTurn _ 0 (.ref it) (.ref s2.heap.objs.size) (compEnvC scope cl (s2.heap.objs.size + 1) X.env)).onRaise _) _ _ s'
  refine wpAny_noted (wpAny_noRaise ?_)
  rw [compTurn_list]
  refine wpAny_bind (wpAny_standAt (wpAny_bind ?_))
  rcases alt with ⟨stop,qn⟩ | ⟨go,step⟩
  . refine thn (T.done (blk X scope cl (M ++ [x]) (s2.heap.objs.size + 1) _ _ fp) rfl rfl rfl hc i [] s' _ H' _ J' (fpY fr') st' stop) fun r s4 ⟨hr,J4⟩=>?_
    subst hr
    refine wpAny_pure ?_
    obtain ⟨m,hm,_⟩:=id J4.loc
    refine ⟨m,hm,fun h' sb=>⟨.ref s2.heap.objs.size,H',xb I3 hsz.symm f3 J4 sb,rfl,qn⟩⟩
  . refine thn (T.item (blk X scope cl (M ++ [x]) (s2.heap.objs.size + 1) _ _ fp) rfl rfl rfl hc i [] s' _ H' _ J' (fpY fr') st' go) fun r s4 ⟨u,hr,h4⟩=>?_
    subst hr
    refine wpAny_bind (thn h4 fun _ s5 ⟨z,H5,J5,r5,y5,st5,fr5⟩=>?_)
    have J5':=J5.pinned (fpY fr5) (T.obj _ _ st5)
    have hxN:(M ++ [x])[M.length]? = some x:=by simp
    refine wpAny_bind ?_
    refine wpAny_assign_Name ?_
    refine lN (X:=blk X scope cl (M ++ [x]) (s2.heap.objs.size + 1) _ _ fp) (i:=M.length) (v:=z) J5' S.nd hxN (.inl (lookup_relabel_local S.var)) r5 (fun s6 J6=>?_) (.inr (lookup_relabel_local S.var))
    have hlp:(pick ι σ).length = M.length:=by
     have q:=congrArg List.length S.names
     rw [List.length_map,List.length_map] at q
     unfold pick
     rw [List.length_map,q]
    have hset:(pick ι σ ++ [v]).set M.length (some z) = pick ι σ ++ [some z]:=by
     rw [<- hlp,List.set_append_right _ _ (Nat.le_refl _),Nat.sub_self]
     rfl
    rw [hset] at J6
    refine wpAny_bind (wpAny_tests_one (thn (hcd _ _ _ _ _ s6 _ H5 _ J6 (step z H5 y5)) fun b s7 ⟨H7,J7,hD7,q7⟩=>?_))
    cases b with
    | true=>
      rw [if_pos rfl] at q7
      refine wpAny_bind (wpAny_bind (thn (he _ _ _ _ _ s7 _ H7 _ J7 q7) fun yv s8 ⟨y,H8,J8,r8,hD8,hz8,m',hm',w8⟩=>?_))
      refine wpAny_bind (thn (ib (X:=blk X scope cl (M ++ [x]) (s2.heap.objs.size + 1) _ _ fp) _ s8 _ H8 (.ref s2.heap.objs.size) [y] (.ref s2.heap.objs.size) [yv] (fun _ G=>G = upd H8 s2.heap.objs.size (.lst (ys ++ [y]))) J8 rfl (.cons r8 .nil) ⟨_,_,y,rfl,rfl,hD8,hz8,rfl⟩) fun _ s9 ⟨_,H9,J9,_,e9⟩=>?_)
      subst e9
      refine wpAny_pure (wpAny_pure ⟨rfl,m',hm',i + 1,_,_,some z,J9.jQ,?_,fun b hb=>?_,w8⟩)
      . exact T.keep _ _ _ st5 fun b hb o e=>(J9.pin (b,o) (List.mem_append_right _ (List.mem_append_right _ (fW hb e)))).1
      . obtain ⟨o,e,d⟩:=T.obj _ _ st5 b hb
        exact (J9.pin (b,o) (List.mem_append_right _ (List.mem_append_right _ (fW hb e)))).2.1
    | false=>
      rw [if_neg (by decide)] at q7
      obtain ⟨m',hm',w8⟩:=q7
      refine wpAny_pure ⟨rfl,m',hm',i + 1,_,_,some z,J7.jQ,?_,fun b hb=>?_,w8⟩
      . exact T.keep _ _ _ st5 fun b hb o e=>(J7.pin (b,o) (List.mem_append_right _ (List.mem_append_right _ (fW hb e)))).1
      . obtain ⟨o,e,d⟩:=T.obj _ _ st5 b hb
        exact (J7.pin (b,o) (List.mem_append_right _ (List.mem_append_right _ (fW hb e)))).2.1
 rw [hsz] at *
 exact codeAny_compStart_list loop (T.self X.A 0 _ _ _ st₁ loop)
end
end L2.E
namespace L2.E
open PySem PySem.Spec PyProof.Rows L2
theorem yE (its:List Value):slicePick its.toArray none none (some (-1)) = its.reverse.toArray:=by
 unfold slicePick
 have hb:sliceBounds none none (some (-1)) its.toArray.size = ((its.length:Int) - 1,-1,-1):=by simp [sliceBounds]
 rw [hb]
 congr 1
 have hr:sliceRange ((its.length:Int) - 1) (-1) (-1) = (List.range its.length).map fun i=>its.length - 1 - i:=by
  unfold sliceRange
  rw [if_neg (by decide)]
  have hc:(if ((its.length:Int) - 1) > -1 then (((its.length:Int) - 1) - -1 - -1 - 1) / (- -1) else 0).toNat = its.length:=by
   split
   . rw [show (- -1:Int) = 1 by decide,Int.ediv_one]; omega
   . omega
  dsimp only
  rw [hc]
  refine List.map_congr_left fun k hk=>?_
  have:=List.mem_range.mp hk
  omega
 rw [hr]
 apply List.ext_getElem?
 intro n
 rw [List.filterMap_map]
 have hall:∀ m,m <= its.length -> List.filterMap ((fun x=>its.toArray[x]?) ∘ fun i=>its.length - 1 - i) (List.range m) = (its.reverse).take m:=by
  intro m
  induction m with
  | zero=>intro _; simp
  | succ m ih=>
    intro hm
    rw [List.range_succ,List.filterMap_append,ih (by omega)]
    have h1:its.length - 1 - m < its.length:=by omega
    have h2:m < its.reverse.length:=by rw [List.length_reverse]; omega
    rw [List.take_succ_eq_append_getElem h2]
    congr 1
    simp [h1]
 rw [hall its.length (Nat.le_refl _),List.take_of_length_le (by simp)]
theorem uw:∀ {xs:List V} {us:List Value},Vals xs us -> Vals xs.reverse us.reverse
 | _,_,.nil=>.nil
 | _,_,.cons r t=>by
   rw [List.reverse_cons,List.reverse_cons]
   exact (uw t).append (.cons r .nil)
section
variable {X:Cx} {e st:Expr} {te ts:TE} {pos p2:Pos}
def EB (K:PySem.W.Frag) (te ts:TE):TE:=fun σ H Q=>te σ H fun x H1=>ts σ H1 fun k H2=>k = .int (-1) /\ ∃ a xs,x = .ref a /\ SqL K H2 a xs /\ ∀ p,H2 p = none -> Q (.ref p) (upd H2 p (.lst xs.reverse))
theorem DI (he:PE X e te) (hk:PE X st ts):PE X (.Subscript e (.Slice none none (some st) p2) pos) (EB X.K te ts):=by
 intro pins s σ H Q I h
 refine Subscript_ (thn (he pins s σ H _ I h) fun v s1 ⟨x,H1,I1,r1,q1⟩=>?_)
 refine wpAny_Slice ?_
 rw [evalPart_none]
 refine wpAny_pure (wpAny_pure ?_)
 rw [evalPart_some]
 refine thn (hk pins s1 σ H1 _ I1 q1) fun u s3 ⟨k,H3,I3,r3,q3⟩=>?_
 obtain ⟨rfl,a,xs,rfl,hq,q⟩:=q3
 obtain ⟨t,rfl⟩:=r3
 cases r1
 have I4:Inv X pins σ H3 { s3 with heap:=s3.heap.push { cls:=.type "slice",data:=.fields #[.none,.none,.int (-1) t] } }:=I3.kept (t':=s3.toks) fun b ob q=>Heap.get?_push_of_some _ q
 obtain ⟨its,r,ht,hz⟩:=I4.list hq
 have hlen:=r.length
 show wpAny (model X.prog X.w) X.A (subscriptTail e (.Slice none none (some st) p2) (.ref a) (.ref s3.heap.objs.size)) (EP X pins σ Q) X.xe { s3 with heap:=s3.heap.push { cls:=.type "slice",data:=.fields #[.none,.none,.int (-1) t] } }
 refine tail_any (ops:=[.ref a,.ref s3.heap.objs.size]) ht.isList.typeIs slot_list_getitem.lookup ?_ (by with_unfolding_all rfl)
 refine wpAny_getItem_list_slice ht.isList (Heap.IsSliceOf.new ..) .none .none (.int (-1) t) (by decide) ?_ (by rw [List.size_toArray] <;> omega)
 rw [yE]
 refine ⟨.ref _,_,I4.laid (t':=s3.toks) (o:=.lst xs.reverse) (fun b ob q=>Heap.get?_push_of_some _ q) (Nat.le_refl _) ?_,rfl,q _ (I4.hok.fresh (Nat.le_refl _))⟩
 refine ⟨by rw [List.length_reverse]; exact hz,its.reverse,0,uw r,Heap.get?_push_size _ rfl⟩
end
end L2.E
namespace L2.E
open PySem PySem.Spec PyProof.Rows L2
end L2.E
namespace L2.P
open PySem PySem.Spec PyProof.Rows L2 L2.E
section
variable {K:PySem.W.Frag} {cls:String -> Option Addr} {W:XW} {Av G S₀ S S' H H' B B':Hp} {ρ:ae} {σ:St} {Q:VK}
theorem y0 {tl te:TE} {ml me:ae -> OE} {ι:List Nat} (hι:ι.Nodup) (hl:JE K cls W tl ml) (he:JE K cls (fun _ _ _ _=>False) te me):JE K cls W (uB (Dg K tl) ι te) (qq ml ι me):=by
 intro Av G S₀ ρ σ S H Q I p
 refine hl.go I p fun r v S1 H1 I1 w1 r1 p1=>?_
 have ra:=r1.rd I1.sh
 cases e:r.pv with
 | tup xs=>
   rw [e] at p1 ra
   obtain ⟨a,vs,rfl,hq,hr⟩:=lL ra
   refine ⟨a,rfl,⟨vs,aF.tup I1.sh hq⟩,?_⟩
   dsimp only at p1
   cases em:dy me (dN ι ρ) xs with
   | exc c fs=>rw [em] at p1; exact p1.elim
   | bad=>rw [em] at p1; exact p1.elim
   | ok ys=>
     rw [em] at p1
     simp only [noX] at p1
     split at p1
     . rename_i hlen
       refine oa hι he I1 em hlen (fun k H' x g hx=>?_) (fun H' g=>⟨vs,aF.tup (I1.sh.trans g) hq,by rw [hr.length]; exact Nat.le_refl _⟩) fun D S' H' w nD sD ⟨us,hD,rr⟩=>p1 (.ref D) S' H' w ⟨D,us,rfl,nD,sD,hD,rr⟩
       obtain ⟨u,hu,ru⟩:=hr.get hx
       refine ⟨⟨vs,u,aF.tup (I1.sh.trans g) hq,hu⟩,?_⟩
       rintro v' H2 ⟨rfl,hv⟩
       have:=hv vs (aF.tup (I1.sh.trans g) hq)
       rw [hu] at this
       cases this
       exact ⟨rfl,ru⟩
     . exact p1.elim
 | _=>rw [e] at p1; exact p1.elim
theorem uW {J:It} {ι:List Nat} {tc:TT} {mc:ae -> OT} {te:TE} {me:ae -> OE} {xs ys:List PV} (hι:ι.Nodup) (hc:JT K cls (fun _ _ _ _=>False) tc mc) (he:JE K cls (fun _ _ _ _=>False) te me) (I:SR K cls Av G S₀ ρ σ S H) (hy:gv mc me (dN ι ρ) xs = .ok ys) (hl:ys.length <= lim)
  (go:∀ k H' x,aF H H' -> xs[k]? = some x -> J.go k H' /\ ∀ v H2,J.yld k H' v H2 -> H2 = H' /\ Rep K S x v) (stop:∀ H',aF H H' -> J.stop xs.length H')
  (hQ:∀ D S' H',bt S H S' H' -> H D = none -> S' D = none -> (∃ us,H' D = some (.lst us) /\ bU K S' ys us) -> Q (.ref D) H'):
  ∀ D,H D = none -> ∃ W:Nat -> Nat -> List V -> Hp -> Prop,(∃ m,W 0 m [] (upd H D (.lst []))) /\ ∀ i m us H',W i m us H' ->
    H' D = some (.lst us) /\ ((J.stop i H' /\ Q (.ref D) H') \/ (J.go i H' /\ ∀ x H2,J.yld i H' x H2 -> tc (L2.E.pick ι σ ++ [some x]) H2 fun b H4=>H4 D = some (.lst us) /\ if b = true then te (L2.E.pick ι σ ++ [some x]) H4 fun y H3=>H3 D = some (.lst us) /\ us.length < sizeLine /\ ∃ m',m' < m /\ W (i + 1) m' (us ++ [y]) (upd H3 D (.lst (us ++ [y]))) else ∃ m',m' < m /\ W (i + 1) m' us H4)):=by
 intro D nD
 refine ⟨fun k m us H'=>m + k = xs.length /\ H' D = some (.lst us) /\ ∃ S' zs ws,aF S S' /\ aF H H' /\ aF S' H' /\ (∀ b,S' b ≠ none -> S b ≠ none \/ (H b = none /\ b ≠ D)) /\ bU K S' zs us /\ gv mc me (dN ι ρ) (xs.drop k) = .ok ws /\ ys = zs ++ ws,
  ⟨xs.length,rfl,ba,S,[],ys,aF.refl _,aF.new nD,I.sh.trans (aF.new nD),fun b z=>.inl z,.nil,hy,rfl⟩,?_⟩
 rintro k m us H' ⟨hm,hD,S',zs,ws,s1,g1,sh1,n1,r1,e1,rfl⟩
 refine ⟨hD,?_⟩
 have hSD:S' D = none:=by
  cases q:S' D with
  | none=>rfl
  | some o=>
    rcases n1 D (by rw [q]; simp) with z | ⟨_,z⟩
    . exact absurd (I.sh.free nD) z
    . exact absurd rfl z
 by_cases hk:k < xs.length
 . refine .inr ?_
   have hx:xs[k]? = some xs[k]:=by simp [hk]
   obtain ⟨hgo,hyld⟩:=go k H' xs[k] g1 hx
   refine ⟨hgo,fun v H2 hv=>?_⟩
   obtain ⟨rfl,rv⟩:=hyld v H2 hv
   rw [List.drop_eq_getElem_cons hk] at e1
   have I1:SR K cls Av G S₀ ρ σ S' H2:=I.grow ⟨s1,g1,sh1,fun b z=>by
    rcases n1 b z with z | ⟨z,_⟩
    . exact .inl z
    . exact .inr z⟩
   have Ip:=I1.pick hι (Rep.mono s1 rv)
   refine hc _ G S₀ _ _ S' H2 _ Ip ?_
   unfold gv at e1
   split at e1
   . rename_i ec
     rw [ec]
     intro S2 H3 w2
     have hSD2:S2 D = none:=by
      cases q:S2 D with
      | none=>rfl
      | some o=>
        rcases w2.new D (by rw [q]; simp) with z | z
        . exact absurd hSD z
        . rw [hD] at z; cases z
     refine ⟨w2.g _ _ hD,?_⟩
     rw [if_pos rfl]
     refine he _ G S₀ _ _ S2 H3 _ (Ip.grow w2) ?_
     cases em:me (dN ι ρ ++ [some (.sh xs[k])]) with
     | exc c fs=>rw [em] at e1; cases e1
     | bad=>rw [em] at e1; cases e1
     | ok r=>
       rw [em] at e1
       simp only [OE.eW] at e1
       cases es:jG r with
       | none=>rw [es] at e1; cases e1
       | some y=>
         rw [es] at e1
         dsimp only at e1
         cases e2:gv mc me (dN ι ρ) (xs.drop (k + 1)) with
         | exc c fs=>rw [e2] at e1; cases e1
         | bad=>rw [e2] at e1; cases e1
         | ok zs'=>
           rw [e2] at e1
           simp only [OA.eW] at e1
           cases e1
           intro u S4 H4 w4 r4
           obtain ⟨S3,w3,s3,ru⟩:=r4.share w4 es
           have hl2:(zs ++ y ::zs').length <= lim:=hl
           have w5:=w2.trans w3
           have hSD3:S3 D = none:=by
            cases q:S3 D with
            | none=>rfl
            | some o=>
              rcases w3.new D (by rw [q]; simp) with z | z
              . exact absurd hSD2 z
              . rw [w2.g _ _ hD] at z; cases z
           refine ⟨w5.g _ _ hD,?_,m - 1,by omega,by omega,ba,S3,zs ++ [y],zs',s1.trans w5.s,(g1.trans w5.g).upd nD,w3.sh.upd hSD3,fun b z=>?_,(r1.mono w5.s).append (.cons ru .nil),e2,by simp⟩
           . rw [r1.length,<- zR]
             rw [List.length_append,List.length_cons] at hl2
             omega
           . rcases w5.new b z with z | z
             . exact n1 b z
             . refine .inr ⟨g1.free z,fun e=>?_⟩
               rw [e,hD] at z; cases z
   . rename_i ec
     rw [ec]
     intro S2 H3 w2
     refine ⟨w2.g _ _ hD,?_⟩
     rw [if_neg (by decide)]
     refine ⟨m - 1,by omega,by omega,w2.g _ _ hD,S2,zs,ws,s1.trans w2.s,g1.trans w2.g,w2.sh,fun b z=>?_,r1.mono w2.s,e1,rfl⟩
     rcases w2.new b z with z | z
     . exact n1 b z
     . refine .inr ⟨g1.free z,fun e=>?_⟩
       rw [e,hD] at z; cases z
   . cases e1
 . have hk':k = xs.length:=by omega
   subst hk'
   refine .inl ⟨stop H' g1,?_⟩
   rw [List.drop_length] at e1
   cases e1
   exact hQ D S' H' ⟨s1,g1,sh1,fun b z=>by
    rcases n1 b z with z | ⟨z,_⟩
    . exact .inl z
    . exact .inr z⟩ nD hSD ⟨us,hD,by rw [List.append_nil]; exact r1⟩
theorem vp {tl te:TE} {tc:TT} {ml me:ae -> OE} {mc:ae -> OT} {ι:List Nat} (hι:ι.Nodup) (hl:JE K cls W tl ml) (hc:JT K cls (fun _ _ _ _=>False) tc mc) (he:JE K cls (fun _ _ _ _=>False) te me):JE K cls W (sC (tP K tl) ι tc te) (p8 ml ι mc me):=by
 intro Av G S₀ ρ σ S H Q I p
 refine hl.go I p fun r v S1 H1 I1 w1 r1 p1=>?_
 have ra:=r1.rd I1.sh
 cases e:r.pv with
 | lst xs=>
   rw [e] at p1 ra
   obtain ⟨a,vs,rfl,hq,hr⟩:=hV ra
   refine ⟨a,rfl,⟨vs,hq⟩,?_⟩
   dsimp only at p1
   cases em:gv mc me (dN ι ρ) xs with
   | exc c fs=>rw [em] at p1; exact p1.elim
   | bad=>rw [em] at p1; exact p1.elim
   | ok ys=>
     rw [em] at p1
     simp only [noX] at p1
     split at p1
     . rename_i hlen
       refine uW hι hc he I1 em hlen (fun k H' x g hx=>?_) (fun H' g=>⟨vs,aF.seq g hq,by rw [hr.length]; exact Nat.le_refl _⟩) fun D S' H' w nD sD ⟨us,hD,rr⟩=>p1 (.ref D) S' H' w ⟨D,us,rfl,nD,sD,hD,rr⟩
       obtain ⟨u,hu,ru⟩:=hr.get hx
       refine ⟨⟨vs,u,aF.seq g hq,hu⟩,?_⟩
       rintro v' H2 ⟨rfl,hv⟩
       have:=hv vs (aF.seq g hq)
       rw [hu] at this
       cases this
       exact ⟨rfl,ru⟩
     . exact p1.elim
 | _=>rw [e] at p1; exact p1.elim
theorem yH {ta ts:TE} {ma ms:ae -> OE} (ha:JE K cls W ta ma) (hs:JE K cls W ts ms):JE K cls W (EB K ta ts) (vB ma ms):=by
 intro Av G S₀ ρ σ S H Q I p
 refine ha.go I p fun a v S1 H1 I1 w1 r1 p1=>hs.go I1 p1 fun k u S2 H2 I2 w2 r2 p2=>?_
 have ra:=(r1.rd I1.sh).mono w2.s w2.g
 have rk:=r2.rd I2.sh
 split at p2
 . rename_i xs n ea ek
   split at p2
   . rename_i hn
     rw [ea] at ra
     rw [ek] at rk
     obtain ⟨q,vs,rfl,hq,hr⟩:=hV ra
     refine ⟨by rw [du rk,hn],q,vs,rfl,hq,fun l hl=>?_⟩
     refine p2 _ S2 _ (bt.heap I2.sh hl) ⟨l,_,rfl,hl,I2.sh.free hl,ba,?_⟩
     clear ea p2 hq ra
     induction xs generalizing vs with
     | nil=>rw [hr.nil_inv]; exact .nil
     | cons x xs ih=>
       obtain ⟨y,t,rfl,h1,h2⟩:=hr.cons_inv
       rw [List.reverse_cons,List.reverse_cons]
       exact (ih _ h2).append (.cons h1 .nil)
   . exact p2.elim
 . exact p2.elim
end
end L2.P
namespace L2.E
open PySem PySem.Spec PyProof.Rows L2
theorem xF {X:Cx} {scope:Scope} {cl:List (Str × Addr)} {M:List Str} {ι:List Nat} {x:Str} {elt iter c:Expr} {px pos:Pos} {wi:TI} {tc:TT} {te:TE} (S:ni X scope cl M ι x) (hc:X.calm = true) (hi:QI X (.Name x px) iter wi) (hcd:∀ C s₀ H₀ ex,QT (blk X scope cl (M ++ [x]) C s₀ H₀ ex) c tc) (he:∀ C s₀ H₀ ex,QE (blk X scope cl (M ++ [x]) C s₀ H₀ ex) elt te)
  (hs:∀ v,foldedSetIterable iter X.env v = pure v:=by intro _; rfl):QE X (.ListComp elt [⟨.Name x px,iter,[c],0⟩] scope pos) (sC wi ι tc te):=⟨xV S hc hi.out (fun a b c d=>(hcd a b c d).out) (fun a b c d=>(he a b c d).out) hs⟩
theorem zW {X:Cx} {e st:Expr} {te ts:TE} {pos p2:Pos} (he:QE X e te) (hk:QE X st ts):QE X (.Subscript e (.Slice none none (some st) p2) pos) (EB X.K te ts):=⟨DI he.out hk.out⟩
end L2.E
namespace L2.E
open PySem PySem.Spec PyProof.Rows L2
end L2.E
namespace L2.E
open PySem PySem.Spec PyProof.Rows L2
def FO (p:Int × V) (e:DictEntry):Prop:=e.hash = hashInt p.1 /\ (∃ t,e.key = .int p.1 t) /\ RelV p.2 e.val
def DKI (K:PySem.W.Frag) (d:Addr) (kvs:List (Int × V)):Prop:=(d == sysModules) = false /\ (kvs.map (·.1)).Nodup /\ ∃ (es:List DictEntry) (ep:Nat),K.lookup d = some ⟨.type "dict",none,.dict es.toArray ep,#[]⟩ /\ Paired FO kvs es
theorem uD {prog:Program} {w:World}:∀ {kvs:List (Int × V)} {es:List DictEntry},Paired FO kvs es ->
  ∃ us:List (Int × Value),us.map (·.1) = kvs.map (·.1) /\ Pairs (intKind prog w) es us /\ (∀ e ∈ es,∃ k,(intKind prog w).is k e.key = true /\ e.hash = (intKind prog w).hash k) /\
    ∀ n,match kvs.lookup n with
      | some v=>∃ u,valueAt us n = some u /\ RelV v u
      | none=>valueAt us n = none
 | _,_,.nil=>⟨[],rfl,.nil,fun e he=>(nomatch he),fun n=>rfl⟩
 | (n,v) ::kvs,e ::es,.cons h t=>by
   obtain ⟨us,h1,h2,h3,h4⟩:=uD (prog:=prog) (w:=w) t
   obtain ⟨k1,⟨tk,k2⟩,k3⟩:=h
   have hk:(intKind prog w).is n e.key = true:=by rw [k2]; show Value.isInt n (.int n tk) = true; simp [Value.isInt]
   refine ⟨(n,e.val) ::us,by simp [h1],.cons hk rfl h2,fun e' he'=>?_,fun m=>?_⟩
   . rcases List.mem_cons.mp he' with z | z
     . subst z; exact ⟨n,hk,k1⟩
     . exact h3 e' z
   . have:=h4 m
     by_cases hm:m = n
     . subst hm
       simp [List.lookup,valueAt]
       exact k3
     . have hb:(m == n) = false:=by simpa using hm
       have hn:¬ n = m:=fun z=>hm z.symm
       simp only [List.lookup,hb]
       unfold valueAt at this ⊢
       simp only [List.find?_cons,hn,decide_false]
       exact this
theorem DKI.at {X:Cx} {pins:List (Addr × Obj)} {σ:St} {H:Hp} {s:Shared} {d:Addr} {kvs:List (Int × V)} (D:DKI X.K d kvs) (I:Inv X pins σ H s):
  ∃ us:List (Int × Value),s.heap.DictOf (intKind X.prog X.w) d us /\ ∀ n,match kvs.lookup n with
     | some v=>∃ u,valueAt us n = some u /\ RelV v u
     | none=>valueAt us n = none:=by
 obtain ⟨_,nd,es,ep,hk,pr⟩:=D
 obtain ⟨us,h1,h2,h3,h4⟩:=uD (prog:=X.prog) (w:=X.w) pr
 exact ⟨us,⟨_,es.toArray,ep,I.kIn d _ hk,⟨rfl,rfl,rfl⟩,rfl,fun e he=>h3 e (by simpa using he),by simpa using h2,by rw [h1]; exact nd⟩,h4⟩
section
variable {X:Cx}
def Cq (K:PySem.W.Frag):R2:=fun x y H Q=>∃ d kvs n v,x = .ref d /\ y = .int n /\ DKI K d kvs /\ kvs.lookup n = some v /\ Q v H
theorem E3:IxR X (Cq X.K):=by
 intro value slice pins s σ H x y v u Q I rx ry h hs
 obtain ⟨d,kvs,n,z,rfl,rfl,D,hl,q⟩:=h
 cases rx
 obtain ⟨t,rfl⟩:=ry
 obtain ⟨us,dd,hv⟩:=D.at I
 have h2:=hv n
 rw [hl] at h2
 obtain ⟨w,e,rw'⟩:=h2
 refine tail_any (ops:=[.ref d,.int n t]) dd.typeIs slot_dict_getitem.lookup ?_ hs
 exact wpAny_getItem_of (knd:=intKind X.prog X.w) (k:=n) (by show Value.isInt n (.int n t) = true; simp [Value.isInt]) dd.mapOf e ⟨z,H,I.tok _,rw',q⟩
def zU (K:PySem.W.Frag) (td te:TE):TE:=fun σ H Q=>td σ H fun x H1=>∃ d kvs,x = .ref d /\ DKI K d kvs /\ te σ H1 fun y H2=>∃ n,y = .int n /\ Q ((kvs.lookup n).getD .non) H2
theorem uE {o e:Expr} {td te:TE} {apos cpos:Pos} (ho:QE X o td) (he:QE X e te) (hbase:attributeBase o "get" X.env (eval o X.env) = eval o X.env:=by rfl)
  (few:((backTo cpos (starEach [e] X.env)).all (fun x=>!x.1) && (backToKw cpos (keywordEach [] X.env)).all (fun x=>x.1.isSome) && decide (([e]:List Expr).length + ([]:List Keyword).length + (if ([]:List Keyword).isEmpty then 0 else 1) < 30)) = true:=by rfl)
  (line:(apos.endLine == cpos.line) = true:=by rfl) (trees:backTo cpos (starEach [e] X.env) = [(false,eval e X.env)]:=by rfl):QE X (.Call (.Attribute o "get" apos) [e] [] cpos) (zU X.K td te):=⟨by
 intro pins s σ H Q I h
 refine wpAny_Call_method hbase few line PySem.F.plainAttrs_dict PySem.F.slot_dict_get PySem.F.type_dict_get (thn (ho.out pins s σ H _ I h) fun u s1 ⟨x,H1,I1,rx,d,kvs,ex,D,q1⟩=>?_)
 subst ex
 obtain rfl:u = Value.ref d:=rx
 obtain ⟨us,dd,hv⟩:=D.at I1
 obtain ⟨_,nd,es,ep,hk,pr⟩:=id D
 refine ⟨dd.typeIs,fun b hb=>by cases hb; exact ⟨_,I1.kIn d _ hk,rfl⟩,?_⟩
 rw [trees]
 refine Calls.callWith_builtin rfl (Calls.evalArgs_plain (Calls.spliced_cons (thn (he.out pins s1 σ H1 _ I1 q1) fun iv s2 ⟨y,H2,I2,ry,n,ey,q2⟩=>Calls.spliced_nil ?_)))
 subst ey
 obtain ⟨t,rfl⟩:=ry
 obtain ⟨us2,dd2,hv2⟩:=D.at I2
 refine call_meetsIn PySem.F.slot_dict_get dd2.typeIs PySem.F.entry_dict_get (PySem.F.args_dict_get_2 _ _) (meets_dict_get (intKind X.prog X.w) d (k:=n) (key:=.int n t) (by show Value.isInt n (.int n t) = true; simp [Value.isInt]) D.1) ⟨_,dd2.mapOf,⟨_,H2,I2.tok _,?_,q2⟩⟩
 have h2:=hv2 n
 cases q:kvs.lookup n with
 | none=>rw [q] at h2; rw [h2]; rfl
 | some v=>rw [q] at h2; obtain ⟨u,e,r⟩:=h2; rw [e]; exact r⟩
end
end L2.E
namespace L2.P
open PySem PySem.Spec PyProof.Rows L2 L2.E
section
variable {K:PySem.W.Frag} {cls:String -> Option Addr} {W:XW} {Av G S₀ S S' H H' B B':Hp} {ρ:ae} {σ:St} {Q:VK}
def DKP (K:PySem.W.Frag) (d:Addr) (kvs:List (Int × PV)):Prop:=∃ us,DKI K d us /\ Paired (fun (p:Int × PV) (q:Int × V)=>p.1 = q.1 /\ ∀ S,Rep K S p.2 q.2) kvs us
theorem DKP.look {d:Addr}:∀ {kvs:List (Int × PV)} {us:List (Int × V)},Paired (fun (p:Int × PV) (q:Int × V)=>p.1 = q.1 /\ ∀ S,Rep K S p.2 q.2) kvs us -> ∀ n,match kvs.lookup n with
  | some x=>∃ v,us.lookup n = some v /\ ∀ S,Rep K S x v
  | none=>us.lookup n = none
 | _,_,.nil,n=>rfl
 | (k,x) ::kvs,(k',v) ::us,.cons h t,n=>by
   obtain ⟨rfl,hr⟩:=h
   have:=DKP.look (d:=d) t n
   by_cases hm:n = k
   . subst hm
     simp [List.lookup]
     exact hr
   . have hb:(n == k) = false:=by simpa using hm
     simp only [List.lookup,hb]
     exact this
theorem Bu {d:Addr} {kvs:List (Int × PV)} {ta:TE} {ma:ae -> OE} (D:DKP K d kvs) (ha:JE K cls W ta ma):JE K cls W (tOp (Cq K) (tC (.ref d)) ta) (mUn (y2 kvs) ma):=by
 intro Av G S₀ ρ σ S H Q I p
 refine ha.go I p fun a v S1 H1 I1 w1 r1 p1=>?_
 have ra:=r1.rd I1.sh
 cases e:a.pv with
 | int n=>
   rw [e] at p1 ra
   obtain ⟨us,D1,pr⟩:=D
   have:=DKP.look (d:=d) pr n
   simp only [y2] at p1
   cases q:kvs.lookup n with
   | none=>rw [q] at p1; exact p1.elim
   | some x=>
     rw [q] at p1 this
     obtain ⟨u,eu,hr⟩:=this
     exact ⟨d,us,n,u,rfl,du ra,D1,eu,p1 _ S1 H1 (bt.refl I1.sh) (hr S1)⟩
 | _=>rw [e] at p1; exact p1.elim
theorem uF {d:Addr} {kvs:List (Int × PV)} {ta:TE} {ma:ae -> OE} (D:DKP K d kvs) (ha:JE K cls W ta ma):JE K cls W (zU K (tC (.ref d)) ta) (mUn (fU kvs) ma):=by
 intro Av G S₀ ρ σ S H Q I p
 obtain ⟨us,D1,pr⟩:=D
 refine ⟨d,us,rfl,D1,?_⟩
 refine ha.go I p fun a v S1 H1 I1 w1 r1 p1=>?_
 have ra:=r1.rd I1.sh
 cases e:a.pv with
 | int n=>
   rw [e] at p1 ra
   have:=DKP.look (d:=d) pr n
   simp only [fU,oE] at p1
   refine ⟨n,du ra,?_⟩
   cases q:kvs.lookup n with
   | none=>
     rw [q] at p1 this
     rw [this]
     exact p1 _ S1 H1 (bt.refl I1.sh) (by show Rep K S1 _ _; unfold Rep; rfl)
   | some x=>
     rw [q] at p1 this
     obtain ⟨u,eu,hr⟩:=this
     rw [eu]
     exact p1 _ S1 H1 (bt.refl I1.sh) (hr S1)
 | _=>rw [e] at p1; exact p1.elim
end
end L2.P
namespace L2.E
open PySem PySem.Spec PyProof.Rows L2
end L2.E
namespace L2.P
open PySem PySem.Spec PyProof.Rows L2 L2.E
end L2.P
namespace L2.P
open PySem
end L2.P
namespace L2.P
open PySem PySem.Spec PyProof.Rows L2 L2.E
end L2.P
namespace L2.P
open PySem
def Ft (x:Str):List PV:=x.cps.toList.map fun c=>.str ⟨#[c]⟩
def Dq (ml:ae -> OE) (ι:List Nat) (me:ae -> OE):ae -> OE:=fun ρ=>(ml ρ).bind fun r=>match r.pv with
 | .str x=>noX (dy me (dN ι ρ) (Ft x))
 | _=>.bad
@[simp] theorem E2 (ml:ae -> OE) (ι:List Nat) (me:ae -> OE) (ρ:ae):Dq ml ι me ρ = ((ml ρ).bind fun r=>match r.pv with
  | .str x=>noX (dy me (dN ι ρ) (Ft x))
  | _=>.bad):=rfl
end L2.P
namespace L2.P
open PySem
end L2.P
namespace L2
open PySem PySem.Spec PyProof.Rows
end L2
namespace L2.P
open PySem PySem.Spec PyProof.Rows L2 L2.E
end L2.P
namespace HT
open PySem PyProof.Rows
end HT
namespace L2
open PySem PySem.Spec PyProof.Rows
end L2
namespace L2.P
open PySem PySem.Spec PyProof.Rows L2 L2.E
end L2.P
namespace HT
open PySem PyProof.Rows
open AutoSeq1 (wpAny_loadPart')
end HT
namespace L2
open PySem PySem.Spec PyProof.Rows
end L2
namespace L2.P
open PySem PySem.Spec PyProof.Rows L2 L2.E
end L2.P
namespace L2.P
open PySem
def kr (kvs:List (Int × PV)) (a b:RV):OE:=match a.pv,b with
 | .int n,.sh d=>.ok (.sh ((kvs.lookup n).getD d))
 | _,_=>.bad
def sf (kvs:List (Int × PV)) (ma mb:ae -> OE):ae -> OE:=fun ρ=>(ma ρ).bind fun a=>(mb ρ).bind fun b=>kr kvs a b
@[simp] theorem EK (kvs:List (Int × PV)) (ma mb:ae -> OE) (ρ:ae):sf kvs ma mb ρ = (ma ρ).bind fun a=>(mb ρ).bind fun b=>kr kvs a b:=rfl
def HY (neg:Bool) (me:ae -> OE) (i:Nat) (mp:MP):ae -> OE:=fun ρ=>(me ρ).bind fun r=>match r.pv with
 | .int n=>(match subAt i mp ρ with
   | some (.di kvs)=>.ok (.sh (.bl (if neg then !(kvs.lookup n).isSome else (kvs.lookup n).isSome)))
   | _=>.bad)
 | _=>.bad
def Dj:List PV -> OE:=fun _=>.bad
def AU:PV -> Option RV
 | .int i=>some (.sh (.int (if i < 0 then -i else i)))
 | _=>none
@[simp] theorem Gy (i:Int):AU (.int i) = some (.sh (.int (if i < 0 then -i else i))):=rfl
end L2.P
namespace L2
open PySem PySem.Spec PyProof.Rows
end L2
namespace L2.E
open PySem PySem.Spec PyProof.Rows L2
section
variable {X:Cx}
def xa (K:PySem.W.Frag) (td te tf:TE):TE:=fun σ H Q=>td σ H fun x H1=>∃ d kvs,x = .ref d /\ DKI K d kvs /\ te σ H1 fun y H2=>tf σ H2 fun z H3=>∃ n,y = .int n /\ Q ((kvs.lookup n).getD z) H3
theorem x6 {o e f:Expr} {td te tf:TE} {apos cpos:Pos} (ho:QE X o td) (he:QE X e te) (hf:QE X f tf) (hbase:attributeBase o "get" X.env (eval o X.env) = eval o X.env:=by rfl)
  (few:((backTo cpos (starEach [e,f] X.env)).all (fun x=>!x.1) && (backToKw cpos (keywordEach [] X.env)).all (fun x=>x.1.isSome) && decide (([e,f]:List Expr).length + ([]:List Keyword).length + (if ([]:List Keyword).isEmpty then 0 else 1) <= 15)) = true:=by rfl)
  (line:(apos.endLine == cpos.line) = true:=by rfl) (trees:backTo cpos (starEach [e,f] X.env) = [(false,eval e X.env),(false,eval f X.env)]:=by rfl):QE X (.Call (.Attribute o "get" apos) [e,f] [] cpos) (xa X.K td te tf):=⟨by
 intro pins s σ H Q I h
 refine wpAny_Call_method hbase few line PySem.F.plainAttrs_dict PySem.F.slot_dict_get PySem.F.type_dict_get (thn (ho.out pins s σ H _ I h) fun u s1 ⟨x,H1,I1,rx,d,kvs,ex,D,q1⟩=>?_)
 subst ex
 obtain rfl:u = Value.ref d:=rx
 obtain ⟨us,dd,hv⟩:=D.at I1
 obtain ⟨_,nd,es,ep,hk,pr⟩:=id D
 refine ⟨dd.typeIs,fun b hb=>by cases hb; exact ⟨_,I1.kIn d _ hk,rfl⟩,?_⟩
 rw [trees]
 refine Calls.callWith_builtin rfl (Calls.evalArgs_plain (Calls.spliced_cons (thn (he.out pins s1 σ H1 _ I1 q1) fun iv s2 ⟨y,H2,I2,ry,q2⟩=>Calls.spliced_cons (thn (hf.out pins s2 σ H2 _ I2 q2) fun fv s3 ⟨z,H3,I3,rz,n,ey,q3⟩=>Calls.spliced_nil ?_))))
 subst ey
 obtain ⟨t,rfl⟩:=ry
 obtain ⟨us2,dd2,hv2⟩:=D.at I3
 refine call_meetsIn PySem.F.slot_dict_get dd2.typeIs PySem.F.entry_dict_get (PySem.F.args_dict_get_3 _ _ _) (meets_dict_get_default (intKind X.prog X.w) d (k:=n) (key:=.int n t) (by show Value.isInt n (.int n t) = true; simp [Value.isInt]) D.1 fv) ⟨_,dd2.mapOf,_,H3,I3.tok _,?_,q3⟩
 have h2:=hv2 n
 cases q:kvs.lookup n with
 | none=>rw [q] at h2; rw [h2]; exact rz
 | some v=>rw [q] at h2; obtain ⟨u,e,r⟩:=h2; rw [e]; exact r⟩
end
end L2.E
namespace L2.P
open PySem PySem.Spec PyProof.Rows L2 L2.E
section
variable {K:PySem.W.Frag} {cls:String -> Option Addr} {W:XW} {S:Hp}
theorem xD {d:Addr} {kvs:List (Int × PV)} {ta tb:TE} {ma mb:ae -> OE} (D:DKP K d kvs) (ha:JE K cls W ta ma) (hb:JE K cls W tb mb):JE K cls W (xa K (tC (.ref d)) ta tb) (sf kvs ma mb):=by
 intro Av G S₀ ρ σ S H Q I p
 obtain ⟨us,D1,pr⟩:=D
 refine ⟨d,us,rfl,D1,?_⟩
 refine ha.go I p fun a v S1 H1 I1 w1 r1 p1=>hb.go I1 p1 fun b u S2 H2 I2 w2 r2 p2=>?_
 have ra:=(r1.rd I1.sh).mono w2.s w2.g
 cases e:a.pv with
 | int n=>
   rw [e] at ra
   have:=DKP.look (d:=d) pr n
   cases b with
   | fr xs=>unfold kr at p2; rw [e] at p2; exact p2.elim
   | al xs=>unfold kr at p2; rw [e] at p2; exact p2.elim
   | sh x=>
     unfold kr at p2
     rw [e] at p2
     refine ⟨n,du ra,?_⟩
     cases q:kvs.lookup n with
     | none=>
       simp only [q] at p2 this
       rw [this]
       exact p2 _ S2 H2 (bt.refl I2.sh) r2
     | some y=>
       simp only [q] at p2 this
       obtain ⟨u,eu,hr⟩:=this
       rw [eu]
       exact p2 _ S2 H2 (bt.refl I2.sh) (hr S2)
 | _=>unfold kr at p2; rw [e] at p2; exact p2.elim
end
end L2.P
namespace L2.E
open PySem PySem.Spec PyProof.Rows L2
end L2.E
namespace L2.P
open PySem PySem.Spec PyProof.Rows L2 L2.E
end L2.P
namespace L2.E
open PySem PySem.Spec PyProof.Rows L2
theorem boot_abs:bootBuiltins "abs" = some (.builtin "abs"):=by decide +kernel
end L2.E
namespace L2.P
open PySem PySem.Spec PyProof.Rows L2 L2.E
section
variable {K:PySem.W.Frag} {cls:String -> Option Addr} {W:XW}
theorem Df:JU K (fun xs H Q=>∃ i,xs = [.int i] /\ Q (.int (if i < 0 then -i else i)) H) AU:=by
 intro S H x v rr Q sh r e k
 cases x with
 | int i=>
   cases e
   have hv:=du r
   subst hv
   exact ⟨i,rfl,k _ S H (bt.refl sh) (by show Rep K S _ _; unfold Rep; rfl)⟩
 | _=>cases e
theorem CY {P:Program} {w:World} {mg:Str -> Option Value} {base:Heap} {CX:CXT} {k:Nat} {f:Addr} {fd:FuncData} {ps:List Str}:b0 P w K mg base CX k f fd ps (spP K cls Dj) where
 len:=fun vs H Q E h=>by obtain ⟨_,_,_,_,h⟩:=h; exact h.elim
 run:=fun A outer s H args us vs Q E hr e0 b r h=>by obtain ⟨_,_,_,_,h⟩:=h; exact h.elim
end
end L2.P
namespace L2.E
open PySem PySem.Spec PyProof.Rows L2
end L2.E
namespace L2.P
open PySem PySem.Spec PyProof.Rows L2 L2.E
end L2.P
namespace PG
def cell (ns:List Int) (k:Int):Int:=if ns = [] then 0 else ns.getD (k % (ns.length:Int)).toNat 0
def mix (ns:List Int) (k:Int):Int:=
 let a:=(cell ns k + 104729 * (k + 1)) % 4294967291
 let b:=a * 48271 % 4294967279
 (b / 64 * 69621 + b) % 4294967231
def menu:List Int:=[34,92,47,8,12,10,13,9,0,31,127]
def point (n:Int):Int:=
 if n % 8 < 2 then 32 + n / 8 % 95 else if n % 8 < 4 then menu.getD (n / 8 % 11).toNat 0 else if n % 8 = 4 then 128 + n / 8 % 1920
 else if n % 8 = 5 then 2048 + n / 8 % 53248 else if n % 8 = 6 then 57344 + n / 8 % 8192 else 65536 + n / 8 % 1048576
theorem rP (ns:List Int) (k:Int):0 <= mix ns k /\ mix ns k < 4294967231:=by unfold mix; dsimp only; omega
end PG
namespace PG
def Hj (b:Int):Int × Int:=if b = 224 then (160,191) else if b = 237 then (128,159) else (128,191)
def GR (b:Int):Int × Int:=if b = 240 then (144,191) else if b = 244 then (128,143) else (128,191)
def spans (b:Int):Option (List (Int × Int)):=if 0 <= b /\ b < 128 then some [] else if 194 <= b /\ b < 224 then some [(128,191)] else if 224 <= b /\ b < 240 then some [Hj b,(128,191)] else if 240 <= b /\ b < 245 then some [GR b,(128,191),(128,191)] else none
def mark (k:Nat):Int:=[0,192,224,240].getD k 0
def val (b:Int) (cs:List Int):Int:=cs.foldl (fun n c=>n * 64 + c - 128) (b - mark cs.length)
end PG
namespace L2.P
open PySem
@[simp] theorem Cd (s:String):(Str.ofString s).cps.all (· < 0x110000) = true:=by
  rw [Str.ofString_eq_toList,List.all_toArray,List.all_map]
  rw [List.all_eq_true]
  intro c _
  have:=c.valid
  simp only [Function.comp,decide_eq_true_eq]
  rcases this with h | ⟨_,h⟩
  . exact Nat.lt_of_lt_of_le h (by decide)
  . exact h
theorem toNat_inj:∀ (xs ys:List Char),xs.map Char.toNat = ys.map Char.toNat -> xs = ys
 | [],[],_=>rfl
 | [],_ ::_,h=>by cases h
 | _ ::_,[],h=>by cases h
 | x ::xs,y ::ys,h=>by
   rw [List.map_cons,List.map_cons] at h
   injection h with h1 h2
   have:x = y:=Char.ext (UInt32.toNat_inj.mp h1)
   rw [this,toNat_inj xs ys h2]
theorem aG (a b:String):Str.ofString a = Str.ofString b ↔ a = b:=by
 constructor
 . intro h
   rw [Str.ofString_eq_toList,Str.ofString_eq_toList] at h
   injection h with h
   have h2:a.toList.map Char.toNat = b.toList.map Char.toNat:=by
    have:=congrArg Array.toList h
    simpa using this
   exact String.toList_inj.mp (toNat_inj _ _ h2)
 . intro h; rw [h]
@[simp] theorem Bw (a b:String):(Str.ofString a == Str.ofString b) = decide (a = b):=by
  by_cases h:a = b
  . subst h; simp
  . have:Str.ofString a ≠ Str.ofString b:=fun z=>h ((aG a b).mp z)
    simp [h,this]
@[simp] theorem F6 (a b:String):eI (.str (Str.ofString a)) (.str (Str.ofString b)) = decide (a = b):=by simp [eI]
@[simp] theorem Gw (a:String) (n:Nat):kW (.str (Str.ofString a)) n = true:=by simp [kW]
end L2.P
namespace L2.P
open PySem
theorem DB (n:Nat):ixP (n + 1) (-1) = some n:=by
 unfold ixP
 rw [if_neg (by decide),if_pos (by omega)]
 congr 1
 omega
@[simp] theorem get_nil (t:OV):t.get [] = some t:=by cases t <;> rfl
@[simp] theorem Gk (t u:OV):t.put [] u = u:=by cases t <;> rfl
end L2.P
namespace L2.P
open PySem
end L2.P
namespace PG
open L2.P PySem
inductive It where
 | sp (lo hi:Int) | white | value | lead | figures | fraction | exponent | sign | text | escape | code | coded | hex | hexd | hexcf | row | mrow | fields | mfields | name
 deriving DecidableEq
def aX:It -> PV
 | .sp lo hi=>.tup [.int lo,.int hi]
 | .white=>.str "white" | .value=>.str "value" | .lead=>.str "lead" | .figures=>.str "figures" | .fraction=>.str "fraction" | .exponent=>.str "exponent" | .sign=>.str "sign"
 | .text=>.str "text" | .escape=>.str "escape" | .code=>.str "code" | .coded=>.str "code d" | .hex=>.str "hex" | .hexd=>.str "hex d" | .hexcf=>.str "hex c to f"
 | .row=>.str "row" | .mrow=>.str "more row" | .fields=>.str "fields" | .mfields=>.str "more fields" | .name=>.str "name"
def loose:It -> Bool
 | .white=>true | .figures=>true | .fraction=>true | .exponent=>true | .sign=>true
 | _=>false
def opn:It -> Bool
 | .row=>true | .mrow=>true | .fields=>true | .mfields=>true
 | _=>false
def wht (b:Int):Bool:=decide (9 = b) || (decide (10 = b) || (decide (13 = b) || decide (32 = b)))
def fig (b:Int):Bool:=decide (48 <= b) && decide (b <= 57)
def mI (b:Int):Option Int:=if 48 <= b /\ b <= 57 then some (b - 48) else if 65 <= b /\ b <= 70 then some (b - 55) else if 97 <= b /\ b <= 102 then some (b - 87) else none
def jH (b:Int):Option (List It):=if b = 48 then some [.fraction,.exponent] else if 48 <= b /\ b <= 57 then some [.figures,.fraction,.exponent] else none
def kG (b:Int):Option (List It):=
 if b = 91 then some [.white,.row] else if b = 123 then some [.white,.fields] else if b = 34 then some [.text] else if b = 45 then some [.lead]
 else if b = 110 then some [.sp 117 117,.sp 108 108,.sp 108 108] else if b = 116 then some [.sp 114 114,.sp 117 117,.sp 101 101] else if b = 102 then some [.sp 97 97,.sp 108 108,.sp 115 115,.sp 101 101]
 else jH b
def pR:List It:=[.white,.sp 58 58,.white,.value,.white,.mfields]
def tls (b:Int):Option (List It):=
 if 0 <= b /\ b < 128 then some [] else if 194 <= b /\ b < 224 then some [.sp 128 191]
 else if 224 <= b /\ b < 240 then some [if b = 224 then .sp 160 191 else if b = 237 then .sp 128 159 else .sp 128 191,.sp 128 191]
 else if 240 <= b /\ b < 245 then some [if b = 240 then .sp 144 191 else if b = 244 then .sp 128 143 else .sp 128 191,.sp 128 191,.sp 128 191]
 else none
def pU (b:Int):Option (List It):=if b = 34 then some [] else if b = 92 then some [.escape,.text] else if b < 32 then none else (tls b).map (· ++ [.text])
def tw (b:Int):Bool:=b = 34 || b = 92 || b = 47 || b = 98 || b = 102 || b = 110 || b = 114 || b = 116
def zL (b:Int):Option (List It):=if b = 117 then some [.code] else if tw b then some [] else none
def yG (w:Int):Option (List It):=if w < 8 then some [.hex,.hex] else if w < 12 then some [.hex,.hex,.sp 92 92,.sp 117 117,.hexd,.hexcf,.hex,.hex] else none
def bh:It -> Int -> Option (List It)
 | .sp lo hi,b=>if lo <= b /\ b <= hi then some [] else none
 | .white,b=>if wht b then some [.white] else none
 | .value,b=>kG b
 | .lead,b=>jH b
 | .figures,b=>if 48 <= b /\ b <= 57 then some [.figures] else none
 | .fraction,b=>if b = 46 then some [.sp 48 57,.figures] else none
 | .exponent,b=>if b = 101 \/ b = 69 then some [.sign,.sp 48 57,.figures] else none
 | .sign,b=>if b = 43 \/ b = 45 then some [] else none
 | .text,b=>pU b
 | .escape,b=>zL b
 | .code,b=>(mI b).bind fun w=>if w = 13 then some [.coded] else some [.hex,.hex,.hex]
 | .coded,b=>(mI b).bind yG
 | .hex,b=>(mI b).map fun _=>[]
 | .hexd,b=>(mI b).bind fun w=>if w = 13 then some [] else none
 | .hexcf,b=>(mI b).bind fun w=>if 12 <= w then some [] else none
 | .row,b=>if b = 93 then some [] else (kG b).map (· ++ [.white,.mrow])
 | .mrow,b=>if b = 44 then some [.white,.value,.white,.mrow] else if b = 93 then some [] else none
 | .fields,b=>if b = 125 then some [] else if b = 34 then some (.text ::pR) else none
 | .mfields,b=>if b = 44 then some (.white ::.name ::pR) else if b = 125 then some [] else none
 | .name,b=>if b = 34 then some [.text] else none
def cnt (st:List It):Nat:=(st.filter opn).length
def gon:List It -> Int -> List It × Bool
 | [],_=>([],false)
 | it ::st,b=>match bh it b with
   | some l=>(l ++ st,decide (cnt (l ++ st) <= 64))
   | none=>if loose it then gon st b else (st,false)
def tk:List It -> List Int -> List It × Nat
 | st,[]=>(st,0)
 | st,b ::r=>if (gon st b).2 then ((tk (gon st b).1 r).1,(tk (gon st b).1 r).2 + 1) else ((gon st b).1,0)
def st0:List It:=[.white,.value,.white]
def flt (row:List Int):Option Nat:=if (tk st0 row).2 = row.length /\ (tk st0 row).1.all loose = true then none else some (tk st0 row).2
def wk (st:List It):OV:=.ob "Walk" ["coming"] [.ol ((st.reverse.map aX).map .sh)]
theorem yq (it:It) (b:Int) (l:List It) (h:bh it b = some l):l.length <= 8:=by
 have hv:∀ l,kG b = some l -> l.length <= 5:=by
  intro l h
  unfold kG jH at h
  repeat' split at h
  all_goals (first | (cases h; done) | (injection h with h; subst h; decide))
 have ht:∀ l,tls b = some l -> l.length <= 5:=by
  intro l h
  unfold tls at h
  repeat' split at h
  all_goals (first | (cases h; done) | (injection h with h; subst h; simp))
 cases it with
 | value=>exact Nat.le_trans (hv l h) (by decide)
 | row=>
   simp only [bh] at h
   split at h
   . injection h with h; subst h; decide
   . cases e:kG b with
     | none=>rw [e] at h; cases h
     | some l'=>rw [e] at h; injection h with h; subst h; have:=hv l' e; simp; omega
 | text=>
   simp only [bh,pU] at h
   repeat' split at h
   all_goals first | (cases h; done) | (injection h with h; subst h; decide) | skip
   cases e:tls b with
   | none=>rw [e] at h; cases h
   | some l'=>rw [e] at h; injection h with h; subst h; have:=ht l' e; simp; omega
 | code=>
   simp only [bh] at h
   cases e:mI b with
   | none=>rw [e] at h; cases h
   | some w=>rw [e] at h; simp only [Option.bind_some] at h; split at h <;> (injection h with h; subst h; decide)
 | coded=>
   simp only [bh] at h
   cases e:mI b with
   | none=>rw [e] at h; cases h
   | some w=>
     rw [e] at h; simp only [Option.bind_some,yG] at h
     repeat' split at h
     all_goals first | (cases h; done) | (injection h with h; subst h; decide)
 | hex=>
   simp only [bh] at h
   cases e:mI b with
   | none=>rw [e] at h; cases h
   | some w=>rw [e] at h; injection h with h; subst h; simp
 | hexd=>
   simp only [bh] at h
   cases e:mI b with
   | none=>rw [e] at h; cases h
   | some w=>rw [e] at h; simp only [Option.bind_some] at h; split at h <;> first | (cases h; done) | (injection h with h; subst h; decide)
 | hexcf=>
   simp only [bh] at h
   cases e:mI b with
   | none=>rw [e] at h; cases h
   | some w=>rw [e] at h; simp only [Option.bind_some] at h; split at h <;> first | (cases h; done) | (injection h with h; subst h; decide)
 | _=>
   simp only [bh,jH,zL,pR] at h
   repeat' split at h
   all_goals first | (cases h; done) | (injection h with h; subst h; decide)
theorem w9 (st:List It) (b:Int):(gon st b).1.length <= st.length + 8:=by
 induction st with
 | nil=>simp [gon]
 | cons it st ih=>
   unfold gon
   cases e:bh it b with
   | some l=>have:=yq it b l e; simp; omega
   | none=>
     dsimp only
     split
     . simp; omega
     . simp; omega
end PG
namespace PG
def hv (b:Int):Int:=(mI b).getD 0
theorem cnt_cons (it:It) (st:List It):cnt (it ::st) = (if opn it then 1 else 0) + cnt st:=by
 unfold cnt
 cases e:opn it <;> simp [e]
 omega
theorem As (l st:List It):cnt (l ++ st) = cnt l + cnt st:=by
 unfold cnt; rw [List.filter_append,List.length_append]
theorem Hd {st st':List It} {b:Int} {r:List Int} (h:gon st b = (st',true)):tk st (b ::r) = ((tk st' r).1,(tk st' r).2 + 1):=by
 simp [tk,h]
theorem Bz {it:It} {st l:List It} {b:Int} {r:List Int} (h:bh it b = some l) (hl:cnt l = 0) (hc:cnt st <= 64):tk (it ::st) (b ::r) = ((tk (l ++ st) r).1,(tk (l ++ st) r).2 + 1):=by
 refine Hd ?_
 have:cnt (l ++ st) <= 64:=by rw [As]; omega
 simp [gon,h,this]
theorem Bg {it:It} {st:List It} {b:Int} {r:List Int} (h:bh it b = none) (hl:loose it = true):tk (it ::st) (b ::r) = tk st (b ::r):=by
 simp [tk,gon,h,hl]
def Goes (st:List It) (bs:List Int) (st':List It):Prop:=∀ r,tk st (bs ++ r) = ((tk st' r).1,(tk st' r).2 + bs.length)
theorem Goes.nil (st:List It):Goes st [] st:=fun r=>by simp
theorem Goes.trans {a b c:List It} {xs ys:List Int} (h:Goes a xs b) (k:Goes b ys c):Goes a (xs ++ ys) c:=fun r=>by
 rw [List.append_assoc,h,k,List.length_append]
 congr 1
 omega
theorem Goes.step {it:It} {st l st':List It} {b:Int} {bs:List Int} (h:bh it b = some l) (hl:cnt l = 0) (hc:cnt st <= 64) (k:Goes (l ++ st) bs st'):Goes (it ::st) (b ::bs) st':=fun r=>by
 rw [List.cons_append,Bz h hl hc,k,List.length_cons]
 congr 1
theorem Goes.skip {it:It} {st st':List It} {b:Int} {bs:List Int} (h:bh it b = none) (hl:loose it = true) (k:Goes st (b ::bs) st'):Goes (it ::st) (b ::bs) st':=fun r=>by
 rw [List.cons_append,Bg h hl,<- List.cons_append,k]
theorem Goes.flt {row:List Int} {st:List It} (h:Goes st0 row st) (hl:st.all loose = true):flt row = none:=by
 have e:=h []
 rw [List.append_nil] at e
 unfold PG.flt
 rw [e]
 simp [tk,hl]
end PG
namespace PG
abbrev isF (b:Int):Prop:=48 <= b /\ b <= 57
def gz (n:Nat):List Int:=if n < 10 then [48 + (n:Int)] else gz (n / 10) ++ [48 + ((n % 10:Nat):Int)]
termination_by n
decreasing_by omega
def dz (n:Nat):List Int:=if n = 0 then [] else gz n
theorem qw (n:Nat):gz n = dz (n / 10) ++ [48 + ((n % 10:Nat):Int)]:=by
 rw [gz]
 unfold dz
 by_cases h:n < 10
 . rw [if_pos h,if_pos (by omega),Nat.mod_eq_of_lt h]; rfl
 . rw [if_neg h,if_neg (by omega)]
theorem Am (n:Nat):∀ b ∈ gz n,isF b:=by
 induction n using Nat.strongRecOn with
 | _ n ih=>
   intro b hb
   rw [gz] at hb
   split at hb
   . simp at hb; unfold isF; omega
   . rcases List.mem_append.mp hb with z | z
     . exact ih (n / 10) (by omega) b z
     . simp at z; unfold isF; omega
theorem Ao (n:Nat):gz n ≠ []:=by rw [qw]; simp
theorem xW (n:Nat) (h:0 < n):∃ d r,gz n = d ::r /\ 49 <= d /\ d <= 57 /\ ∀ b ∈ r,isF b:=by
 induction n using Nat.strongRecOn with
 | _ n ih=>
   rw [gz]
   split
   . exact ⟨48 + (n:Int),[],rfl,by omega,by omega,fun b hb=>by cases hb⟩
   . obtain ⟨d,r,e,h1,h2,h3⟩:=ih (n / 10) (by omega) (by omega)
     rw [e]
     refine ⟨d,r ++ [48 + ((n % 10:Nat):Int)],rfl,h1,h2,fun b hb=>?_⟩
     rcases List.mem_append.mp hb with z | z
     . exact h3 b z
     . simp at z; unfold isF; omega
theorem xm:gz 0 = [48]:=by rw [gz]; rfl
theorem nW (k:Nat):∀ n:Nat,n < 10 ^ (k + 1) -> (gz n).length <= k + 1:=by
 induction k with
 | zero=>intro n h; rw [gz,if_pos (by simpa using h)]; simp
 | succ k ih=>
   intro n h
   rw [gz]
   split
   . simp
   . have:n / 10 < 10 ^ (k + 1):=by rw [Nat.pow_succ] at h; omega
     have:=ih (n / 10) this
     simp; omega
def cv (ds:List Int):Int:=ds.foldl (fun n d=>10 * n + d - 48) 0
theorem A7 (ds:List Int) (d:Int):cv (ds ++ [d]) = 10 * cv ds + d - 48:=by simp [cv]
theorem wI (n:Nat):cv (gz n) = n:=by
 induction n using Nat.strongRecOn with
 | _ n ih=>
   rw [gz]
   split
   . simp [cv]; omega
   . rw [A7,ih (n / 10) (by omega)]; omega
structure Nm where
 neg:Bool
 ip:List Int
 fr:List Int
 ex:Option (Int × List Int × List Int)
def frB (fr:List Int):List Int:=if fr = [] then [] else 46 ::fr
def exB:Option (Int × List Int × List Int) -> List Int
 | none=>[]
 | some (e,s,ds)=>e ::(s ++ ds)
def nb (m:Nm):List Int:=(if m.neg then [45] else []) ++ (m.ip ++ (frB m.fr ++ exB m.ex))
structure Nok (m:Nm):Prop where
 ip:(m.ip = [48]) \/ ∃ d r,m.ip = d ::r /\ 49 <= d /\ d <= 57 /\ ∀ b ∈ r,isF b
 fr:∀ b ∈ m.fr,isF b
 ex:∀ e s ds,m.ex = some (e,s,ds) -> (e = 101 \/ e = 69) /\ (s = [] \/ s = [43] \/ s = [45]) /\ ds ≠ [] /\ ∀ b ∈ ds,isF b
def nl:It -> Bool
 | .figures=>true | .fraction=>true | .exponent=>true
 | _=>false
theorem n5 {st:List It} (hc:cnt st <= 64) (ds:List Int) (h:∀ b ∈ ds,isF b):Goes (.figures ::st) ds (.figures ::st):=by
 induction ds with
 | nil=>exact .nil _
 | cons d ds ih=>
   refine Goes.step (l:=[.figures]) ?_ rfl hc (ih fun b hb=>h b (List.mem_cons_of_mem _ hb))
   have:=h d List.mem_cons_self
   simp only [bh]
   rw [if_pos this]
theorem zB {m:Nm} (h:Nok m) {st:List It} (hc:cnt st <= 64):∃ ls,ls.all nl = true /\ Goes (.value ::st) (nb m) (ls ++ st):=by
 have n1:∀ it:It,opn it = false -> ∀ st,cnt st <= 64 -> cnt (it ::st) <= 64:=fun it ho st h=>by rw [cnt_cons,ho]; simp; omega
 have hlead:∃ ls,(ls = [.fraction,.exponent] \/ ls = [.figures,.fraction,.exponent]) /\ Goes (.lead ::st) m.ip (ls ++ st) /\ ∀ b r,m.ip = b ::r -> bh .value b = bh .lead b:=by
  rcases h.ip with e | ⟨d,r,e,h1,h2,h3⟩
  . exact ⟨_,.inl rfl,by rw [e]; exact Goes.step (l:=[.fraction,.exponent]) rfl rfl hc (.nil _),fun b r e2=>by rw [e] at e2; cases e2; rfl⟩
  . refine ⟨_,.inr rfl,?_,fun b r' e2=>?_⟩
    . rw [e]
      refine Goes.step (l:=[.figures,.fraction,.exponent]) ?_ rfl hc ?_
      . simp only [bh,jH]
        rw [if_neg (by omega),if_pos (by omega)]
      . exact n5 (n1 _ rfl _ (n1 _ rfl _ hc)) r h3
    . rw [e] at e2
      cases e2
      simp only [bh,kG]
      rw [if_neg (by omega),if_neg (by omega),if_neg (by omega),if_neg (by omega),if_neg (by omega),if_neg (by omega),if_neg (by omega)]
 obtain ⟨ls,hls,g1,g2⟩:=hlead
 have g3:Goes (.value ::st) ((if m.neg then [45] else []) ++ m.ip) (ls ++ st):=by
  cases m.neg with
  | true=>exact Goes.step (l:=[.lead]) rfl rfl hc g1
  | false=>
    rw [if_neg (by decide),List.nil_append]
    rcases h.ip with e | ⟨d,r,e,_⟩
    . intro q
      have e1:=g1 q
      have e2:=g2 48 [] e
      rw [e] at e1 ⊢
      rw [<- e1]
      simp [tk,gon,e2,loose]
    . intro q
      have e1:=g1 q
      have e2:=g2 d r e
      have ne:∃ l,bh .lead d = some l:=by
       rw [e] at e1
       cases e3:bh .lead d with
       | some l=>exact ⟨l,rfl⟩
       | none=>simp [tk,gon,e3,loose] at e1
      obtain ⟨l,hl⟩:=ne
      rw [e] at e1 ⊢
      rw [<- e1]
      simp [tk,gon,e2,hl]
 have g4:∃ ls',(ls' = [.figures,.exponent] \/ ls' = [.fraction,.exponent] \/ ls' = [.figures,.fraction,.exponent]) /\ Goes (ls ++ st) (frB m.fr) (ls' ++ st):=by
  unfold frB
  cases e:m.fr with
  | nil=>
    rw [if_pos rfl]
    refine ⟨ls,?_,.nil _⟩
    rcases hls with z | z
    . exact .inr (.inl z)
    . exact .inr (.inr z)
  | cons d ds=>
    rw [if_neg (by simp)]
    have hf:=h.fr
    rw [e] at hf
    refine ⟨_,.inl rfl,?_⟩
    have base:Goes (.fraction ::.exponent ::st) (46 ::d ::ds) (.figures ::.exponent ::st):=by
     refine Goes.step (l:=[.sp 48 57,.figures]) rfl rfl (n1 _ rfl _ hc) (Goes.step (l:=[]) ?_ rfl (n1 _ rfl _ (n1 _ rfl _ hc)) (n5 (n1 _ rfl _ hc) ds fun b hb=>hf b (List.mem_cons_of_mem _ hb)))
     have:=hf d List.mem_cons_self
     simp only [bh]
     rw [if_pos this]
    rcases hls with z | z
    . subst z; exact base
    . subst z; exact Goes.skip rfl rfl base
 obtain ⟨ls',hls',g5⟩:=g4
 have g6:∃ ls2,ls2.all nl = true /\ Goes (ls' ++ st) (exB m.ex) (ls2 ++ st):=by
  cases e:m.ex with
  | none=>
    refine ⟨ls',?_,.nil _⟩
    rcases hls' with z | z | z <;> (subst z; rfl)
  | some x=>
    obtain ⟨eb,s,ds⟩:=x
    obtain ⟨he,hs,hd,hf⟩:=h.ex eb s ds e
    refine ⟨[.figures],rfl,?_⟩
    have base:Goes (.exponent ::st) (eb ::(s ++ ds)) (.figures ::st):=by
     refine Goes.step (l:=[.sign,.sp 48 57,.figures]) (by rcases he with rfl | rfl <;> rfl) rfl hc ?_
     obtain ⟨d,r,ed⟩:∃ d r,ds = d ::r:=by
      cases ds with
      | nil=>exact absurd rfl hd
      | cons d r=>exact ⟨d,r,rfl⟩
     subst ed
     have hd1:=hf d List.mem_cons_self
     have tail:Goes (.sp 48 57 ::.figures ::st) (d ::r) (.figures ::st):=by
      refine Goes.step (l:=[]) ?_ rfl (n1 _ rfl _ hc) (n5 hc r fun b hb=>hf b (List.mem_cons_of_mem _ hb))
      simp only [bh]
      rw [if_pos hd1]
     rcases hs with rfl | rfl | rfl
     . refine Goes.skip ?_ rfl tail
       unfold isF at hd1
       simp only [bh]
       rw [if_neg (by omega)]
     . exact Goes.step (l:=[]) rfl rfl (n1 _ rfl _ (n1 _ rfl _ hc)) tail
     . exact Goes.step (l:=[]) rfl rfl (n1 _ rfl _ (n1 _ rfl _ hc)) tail
    have k1:bh .figures eb = none:=by rcases he with rfl | rfl <;> rfl
    have k2:bh .fraction eb = none:=by rcases he with rfl | rfl <;> rfl
    rcases hls' with z | z | z
    . subst z; exact Goes.skip k1 rfl base
    . subst z; exact Goes.skip k2 rfl base
    . subst z; exact Goes.skip k1 rfl (Goes.skip k2 rfl base)
 obtain ⟨ls2,hl2,g7⟩:=g6
 refine ⟨ls2,hl2,?_⟩
 have:=g3.trans (g5.trans g7)
 unfold nb
 simpa using this
theorem zA {ls:List It} (h:ls.all nl = true):ls.all loose = true:=by
 rw [List.all_eq_true] at h ⊢
 intro it hi
 have:=h it hi
 cases it <;> first | rfl | (exact absurd this (by simp [nl]))
theorem AI {m:Nm} (h:Nok m):flt (nb m) = none:=by
 obtain ⟨ls,hl,g⟩:=zB h (st:=[.white]) (by decide)
 refine Goes.flt (st:=ls ++ [.white]) ?_ (by rw [List.all_append,zA hl]; rfl)
 have hne:∃ b r,nb m = b ::r /\ bh .white b = none:=by
  unfold nb
  cases m.neg with
  | true=>exact ⟨45,_,rfl,rfl⟩
  | false=>
    rcases h.ip with e | ⟨d,r,e,h1,h2,h3⟩
    . rw [e]; exact ⟨48,_,rfl,rfl⟩
    . rw [e]
      refine ⟨d,_,rfl,?_⟩
      simp only [bh]
      have:wht d = false:=by
       unfold wht
       simp only [Bool.or_eq_false_iff,decide_eq_false_iff_not]
       omega
      rw [this]; rfl
 obtain ⟨b,r,e,hw⟩:=hne
 rw [e] at g ⊢
 exact Goes.skip hw rfl g
def plb (b:Int):Prop:=isF b \/ b = 45 \/ b = 43 \/ b = 46 \/ b = 101 \/ b = 69
theorem uy {m:Nm} (h:Nok m):∀ b ∈ nb m,plb b:=by
 intro b hb
 unfold nb at hb
 rcases List.mem_append.mp hb with z | z
 . split at z
   . simp at z; exact .inr (.inl z)
   . cases z
 . rcases List.mem_append.mp z with z | z
   . left
     rcases h.ip with e | ⟨d,r,e,h1,h2,h3⟩
     . rw [e] at z; simp at z; unfold isF; omega
     . rw [e] at z
       rcases List.mem_cons.mp z with y | y
       . unfold isF; omega
       . exact h3 b y
   . rcases List.mem_append.mp z with z | z
     . unfold frB at z
       split at z
       . cases z
       . rcases List.mem_cons.mp z with y | y
         . exact .inr (.inr (.inr (.inl y)))
         . exact .inl (h.fr b y)
     . cases e:m.ex with
       | none=>rw [e] at z; cases z
       | some x=>
         obtain ⟨eb,s,ds⟩:=x
         obtain ⟨he,hs,hd,hf⟩:=h.ex eb s ds e
         rw [e] at z
         rcases List.mem_cons.mp z with y | y
         . subst y; rcases he with y | y
           . exact .inr (.inr (.inr (.inr (.inl y))))
           . exact .inr (.inr (.inr (.inr (.inr y))))
         . rcases List.mem_append.mp y with y | y
           . rcases hs with rfl | rfl | rfl
             . cases y
             . simp at y; exact .inr (.inr (.inl y))
             . simp at y; exact .inr (.inl y)
           . exact .inl (hf b y)
end PG
namespace L2.plainglass_k19_numbers_told
open PySem L2.P
def kR (c:String):Bool:=c == "Walk"
def el (rec:List PV -> OE):ae -> OT:=
    (aQ (mOp gGt (au 0) (mC (.int 0))))
def gC (rec:List PV -> OE):ae -> OS:=
    (aT (cK 1 (mOp mx (dD (aj (mOp gV (mC (.int 48)) (mOp gW (au 0) (mC (.int 10)))) aO)) (au 1)))
    (cK 0 (mOp qz (au 0) (mC (.int 10)))))
def kQ (rec:List PV -> OE):ae -> OS:=
    (iA 1)
def kJ (rec:List PV -> OE):ae -> OS:=
    (aT (bH (el rec)
    (gC rec) fuel)
    (kQ rec))
def kL (rec:List PV -> OE):ae -> OS:=
    (aT (cK 0 (mOp qz (au 0) (mC (.int 10))))
    (kJ rec))
def kH (rec:List PV -> OE):ae -> OS:=
    (aT (cK 1 (dD (aj (mOp gV (mC (.int 48)) (mOp gW (au 0) (mC (.int 10)))) aO)))
    (kL rec))
def dg (rec:List PV -> OE):ae -> OS:=
    (aT (b7 (aQ (mOp gLt (au 0) (mC (.int 0))))
    (bp (mOp mx (dD (aj (mC (.int 45)) aO)) (aZ rec (aj (mUn p5 (au 0)) aO))))
    bc)
    (kH rec))
def dZ:Nat -> List PV -> OE
 | 0=>Dj
 | k + 1=>fnP 1 2 (dg (dZ k))
def dF:List PV -> OE:=dZ 2
def iD:ae -> OT:=
    (aQ (mOp gEq (mOp gW (au 0) (mC (.int 10))) (mC (.int 0))))
def jC:ae -> OS:=
    (aT (cK 0 (mOp qz (au 0) (mC (.int 10))))
    (o9 1 gV (mC (.int 1))))
def oK:ae -> OS:=
    (bp (gF (aj (au 0) (aj (au 1) aO))))
def oO:ae -> OS:=
    (aT (bH iD
    jC fuel)
    oK)
def ia:ae -> OS:=
    (aT (b7 (aQ (mOp gEq (au 0) (mC (.int 0))))
    (bp (gF (aj (mC (.int 0)) (aj (mC (.int 0)) aO))))
    bc)
    oO)
def cB:List PV -> OE:=fnP 2 2 ia
def eQ:ae -> OT:=
    (aQ (mOp gGt (au 1) (mC (.int 0))))
def gY:ae -> OS:=
    (aT (kg 2 (mOp gV (mC (.int 48)) (mOp gW (au 1) (mC (.int 10)))))
    (cK 1 (mOp qz (au 1) (mC (.int 10)))))
def jb:ae -> OS:=
    (bp (vB (au 2) (mUn p5 (mC (.int 1)))))
def fK:ae -> OS:=
    (aT (b7 (aQ (mOp gLt (au 0) (mC (.int 0))))
    (kg 2 (mC (.int 45)))
    bc)
    jb)
def lH:ae -> OS:=
    (aT (bH eQ
    gY fuel)
    fK)
def lz:ae -> OS:=
    (aT (cK 1 (mOp qz (au 1) (mC (.int 10))))
    lH)
def jd:ae -> OS:=
    (aT (cK 2 (dD (aj (mOp gV (mC (.int 48)) (mOp gW (au 1) (mC (.int 10)))) aO)))
    lz)
def gd:ae -> OS:=
    (aT (cK 1 (mUn AU (au 0)))
    jd)
def dE:List PV -> OE:=fnP 1 3 gd
def iL:ae -> OS:=
    (bp (mOp mx (mOp mx (aZ dE (aj (mOp jV (au 2) (mC (.int 0))) aO)) (dD (aj (mC (.int 101)) aO))) (aZ dE (aj (mOp jV (au 2) (mC (.int 1))) aO))))
def iK:ae -> OS:=
    (aT (b7 (aQ (mOp gEq (mOp jV (au 2) (mC (.int 1))) (mC (.int 0))))
    (bp (aZ dE (aj (mOp jV (au 2) (mC (.int 0))) aO)))
    bc)
    iL)
def gn:ae -> OS:=
    (aT (cK 2 (aZ cB (aj (au 0) (aj (au 1) aO))))
    iK)
def de:List PV -> OE:=fnP 2 3 gn
def il:ae -> OS:=
    (aT (b7 (gi (au 0))
    (bp (mOp jK (au 0) (mOp gW (au 1) (mUn kY (au 0)))))
    bc)
    (bp (mC (.int 0))))
def dP:List PV -> OE:=fnP 2 2 il
def e6:ae -> OT:=
    (mY (aQ (mOp gLt (au 2) (mUn kY (au 0)))) (aQ (mOp iQ (mOp jK (au 0) (au 2)) (au 1))))
def iX:ae -> OS:=
    (o9 2 gV (mC (.int 1)))
def nO:ae -> OS:=
    (iA 2)
def nZ:ae -> OS:=
    (aT (bH e6
    iX fuel)
    nO)
def je:ae -> OS:=
    (aT (cK 2 (mC (.int 0)))
    nZ)
def ee:List PV -> OE:=fnP 2 3 je
def jt:ae -> OS:=
    (cK 1 (mOp pI (mOp gV (mOp qH (mC (.int 10)) (au 1)) (au 2)) (mC (.int 48))))
def oZ:ae -> OS:=
    (iA 1)
def oM:ae -> OS:=
    (aT (wX 2 (au 0)
    jt)
    oZ)
def i6:ae -> OS:=
    (aT (cK 1 (mC (.int 0)))
    oM)
def eS:List PV -> OE:=fnP 1 3 i6
def ja:ae -> OS:=
    (bp (aZ eS (aj (au 0) aO)))
def jh:ae -> OS:=
    (aT (b7 (mY (gi (au 0)) (aQ (mOp gEq (mOp jK (au 0) (mC (.int 0))) (mC (.int 43)))))
    (bp (aZ eS (aj (tj (au 0) (mQ (mC (.int 1))) (mC .non)) aO)))
    bc)
    ja)
def iF:ae -> OS:=
    (aT (b7 (mY (gi (au 0)) (aQ (mOp gEq (mOp jK (au 0) (mC (.int 0))) (mC (.int 45)))))
    (bp (mUn p5 (aZ eS (aj (tj (au 0) (mQ (mC (.int 1))) (mC .non)) aO))))
    bc)
    jh)
def d9:List PV -> OE:=fnP 1 1 iF
def rj:ae -> OS:=
    (bp (aZ cB (aj (aZ d9 (aj (mOp mx (tj (au 2) (mC .non) (mQ (au 3))) (au 4)) aO)) (aj (mOp pI (aZ d9 (aj (tj (au 0) (mQ (mOp gV (au 1) (mC (.int 1)))) (mC .non)) aO)) (mUn kY (au 4))) aO))))
def qM:ae -> OS:=
    (aT (cK 4 (tj (au 2) (mQ (mOp gV (au 3) (mC (.int 1)))) (mC .non)))
    rj)
def qN:ae -> OS:=
    (aT (j4 2 (cK 3 (aZ ee (aj (au 2) (aj (gF (aj (mC (.int 46)) aO)) aO)))))
    qM)
def rB:ae -> OS:=
    (aT (cK 2 (tj (au 0) (mC .non) (mQ (au 1))))
    qN)
def pE:ae -> OS:=
    (aT (cK 1 (aZ ee (aj (au 0) (aj (gF (aj (mC (.int 101)) (aj (mC (.int 69)) aO))) aO))))
    rB)
def iY:List PV -> OE:=fnP 1 5 pE
def rK:ae -> OS:=
    (bp (aZ iY (aj (tj (au 0) (mQ (mOp jV (au 3) (mC (.int 1)))) (mQ (mOp jV (au 3) (mC (.int 2))))) aO)))
def qP:ae -> OS:=
    (aT (b7 (aQ (mOp gNe (mOp jV (au 3) (mC (.int 0))) (mC (.str "number"))))
    (vR "NoNode" (aj (mC (.str "a node that is no number")) aO))
    bc)
    rK)
def pz:ae -> OS:=
    (aT (cK 3 (mOp jK (au 1) (au 2)))
    qP)
def iV:List PV -> OE:=fnP 3 4 pz
def oS:ae -> OS:=
    (bp (mOp gW (mOp gV (mOp qH (mOp qz (au 2) (mC (.int 64))) (mC (.int 69621))) (au 2)) (mC (.int 4294967231))))
def oY:ae -> OS:=
    (aT (cK 2 (mOp gW (mOp qH (au 2) (mC (.int 48271))) (mC (.int 4294967279))))
    oS)
def gb:ae -> OS:=
    (aT (cK 2 (mOp gW (mOp gV (aZ dP (aj (au 0) (aj (au 1) aO))) (mOp qH (mC (.int 104729)) (mOp gV (au 1) (mC (.int 1))))) (mC (.int 4294967291))))
    oY)
def cy:List PV -> OE:=fnP 2 3 gb
def jl:ae -> OS:=
    (bp (uI (mIs "int" (au 0)) (zI (mIs "bool" (au 0)))))
def eY:List PV -> OE:=fnP 1 1 jl
def jg:ae -> OE:=
    (aZ eY (aj (au 0) aO))
def iZ:ae -> OS:=
    (bp (uI (mIs "list" (au 0)) (mUn xi (sH (au 0) [] jg))))
def eD:List PV -> OE:=fnP 1 1 iZ
def o6:ae -> OS:=
    (yO 0 fj "coming" kR (mD (dD (aj (mC (.str "white")) (aj (mC (.str "value")) (aj (mC (.str "white")) aO))))))
def cJ:List Sl -> OI:=fnI 1 1 o6
def fL:ae -> OS:=
    (bp (mUn (fU [(110,.tup ([117,108,108].map .int)),(116,.tup ([114,117,101].map .int)),(102,.tup ([97,108,115,101].map .int))]) (au 0)))
def dX:List PV -> OE:=fnP 1 1 fL
def gR:ae -> OS:=
    (bp (jL gLe gLe (mC (.int 48)) (au 0) (mC (.int 57))))
def dY:List PV -> OE:=fnP 1 1 gR
def iN:ae -> OS:=
    (bp (mC .non))
def iM:ae -> OS:=
    (aT (b7 (gi (aZ dY (aj (au 0) aO)))
    (bp (dD (aj (mC (.str "figures")) (aj (mC (.str "fraction")) (aj (mC (.str "exponent")) aO)))))
    bc)
    iN)
def fm:ae -> OS:=
    (aT (b7 (aQ (mOp gEq (au 0) (mC (.int 48))))
    (bp (dD (aj (mC (.str "fraction")) (aj (mC (.str "exponent")) aO))))
    bc)
    iM)
def dc:List PV -> OE:=fnP 1 1 fm
def cq:ae -> OE:=
    (gF (aj (au 0) (aj (au 0) aO)))
def cu:ae -> OS:=
    (bp (aZ dc (aj (au 0) aO)))
def cw:ae -> OS:=
    (aT (b7 (aQ (mOp rM (au 1) (mC .non)))
    (bp (qq (au 1) [] cq))
    bc)
    cu)
def cD:ae -> OS:=
    (aT (cK 1 (aZ dX (aj (au 0) aO)))
    cw)
def cA:ae -> OS:=
    (aT (b7 (aQ (mOp gEq (au 0) (mC (.int 45))))
    (bp (dD (aj (mC (.str "lead")) aO)))
    bc)
    cD)
def cx:ae -> OS:=
    (aT (b7 (aQ (mOp gEq (au 0) (mC (.int 34))))
    (bp (dD (aj (mC (.str "text")) aO)))
    bc)
    cA)
def cz:ae -> OS:=
    (aT (b7 (aQ (mOp gEq (au 0) (mC (.int 123))))
    (bp (dD (aj (mC (.str "white")) (aj (mC (.str "fields")) aO))))
    bc)
    cx)
def b6:ae -> OS:=
    (aT (b7 (aQ (mOp gEq (au 0) (mC (.int 91))))
    (bp (dD (aj (mC (.str "white")) (aj (mC (.str "row")) aO))))
    bc)
    cz)
def bu:List PV -> OE:=fnP 1 2 b6
def bC:ae -> OS:=
    (bp (ki (aQ (mOp gIn (au 1) (gF (aj (mC (.int 43)) (aj (mC (.int 45)) aO))))) (dD aO) (mC .non)))
def bz:ae -> OS:=
    (aT (b7 (aQ (mOp gEq (au 0) (mC (.str "exponent"))))
    (bp (ki (aQ (mOp gIn (au 1) (gF (aj (mC (.int 101)) (aj (mC (.int 69)) aO))))) (dD (aj (mC (.str "sign")) (aj (gF (aj (mC (.int 48)) (aj (mC (.int 57)) aO))) (aj (mC (.str "figures")) aO)))) (mC .non)))
    bc)
    bC)
def bB:ae -> OS:=
    (aT (b7 (aQ (mOp gEq (au 0) (mC (.str "fraction"))))
    (bp (ki (aQ (mOp gEq (au 1) (mC (.int 46)))) (dD (aj (gF (aj (mC (.int 48)) (aj (mC (.int 57)) aO))) (aj (mC (.str "figures")) aO))) (mC .non)))
    bc)
    bz)
def bA:ae -> OS:=
    (aT (b7 (aQ (mOp gEq (au 0) (mC (.str "figures"))))
    (bp (ki (gi (aZ dY (aj (au 1) aO))) (dD (aj (mC (.str "figures")) aO)) (mC .non)))
    bc)
    bB)
def br:ae -> OS:=
    (aT (b7 (aQ (mOp gEq (au 0) (mC (.str "lead"))))
    (bp (aZ dc (aj (au 1) aO)))
    bc)
    bA)
def aU:List PV -> OE:=fnP 2 2 br
def mW:ae -> OS:=
    (bp (mC .non))
def mP:ae -> OS:=
    (aT (b7 (aQ (jL gLe gLe (mC (.int 97)) (au 0) (mC (.int 102))))
    (bp (mOp pI (au 0) (mC (.int 87))))
    bc)
    mW)
def mL:ae -> OS:=
    (aT (b7 (aQ (jL gLe gLe (mC (.int 65)) (au 0) (mC (.int 70))))
    (bp (mOp pI (au 0) (mC (.int 55))))
    bc)
    mP)
def iC:ae -> OS:=
    (aT (b7 (gi (aZ dY (aj (au 0) aO)))
    (bp (mOp pI (au 0) (mC (.int 48))))
    bc)
    mL)
def eC:List PV -> OE:=fnP 1 1 iC
def hU:ae -> OS:=
    (bp (mC .non))
def gZ:ae -> OS:=
    (aT (b7 (aQ (mOp gLt (au 0) (mC (.int 12))))
    (aT (cK 1 (dD (aj (gF (aj (mC (.int 92)) (aj (mC (.int 92)) aO))) (aj (gF (aj (mC (.int 117)) (aj (mC (.int 117)) aO))) (aj (mC (.str "hex d")) (aj (mC (.str "hex c to f")) (aj (mC (.str "hex")) (aj (mC (.str "hex")) aO))))))))
    (bp (mOp mx (dD (aj (mC (.str "hex")) (aj (mC (.str "hex")) aO))) (au 1))))
    bc)
    hU)
def fk:ae -> OS:=
    (aT (b7 (aQ (mOp gLt (au 0) (mC (.int 8))))
    (bp (dD (aj (mC (.str "hex")) (aj (mC (.str "hex")) aO))))
    bc)
    gZ)
def cM:List PV -> OE:=fnP 1 2 fk
def gk:ae -> OS:=
    (bp (mC (.tup ([128,191].map .int))))
def gm:ae -> OS:=
    (aT (b7 (aQ (mOp gEq (au 0) (mC (.int 237))))
    (bp (gF (aj (mC (.int 128)) (aj (mC (.int 159)) aO))))
    bc)
    gk)
def eB:ae -> OS:=
    (aT (b7 (aQ (mOp gEq (au 0) (mC (.int 224))))
    (bp (gF (aj (mC (.int 160)) (aj (mC (.int 191)) aO))))
    bc)
    gm)
def cg:List PV -> OE:=fnP 1 1 eB
def gJ:ae -> OS:=
    (bp (mC (.tup ([128,191].map .int))))
def gG:ae -> OS:=
    (aT (b7 (aQ (mOp gEq (au 0) (mC (.int 244))))
    (bp (gF (aj (mC (.int 128)) (aj (mC (.int 143)) aO))))
    bc)
    gJ)
def eR:ae -> OS:=
    (aT (b7 (aQ (mOp gEq (au 0) (mC (.int 240))))
    (bp (gF (aj (mC (.int 144)) (aj (mC (.int 191)) aO))))
    bc)
    gG)
def cE:List PV -> OE:=fnP 1 1 eR
def i5:ae -> OS:=
    (bp (mC .non))
def i0:ae -> OS:=
    (aT (b7 (aQ (jL gLe gLt (mC (.int 240)) (au 0) (mC (.int 245))))
    (bp (dD (aj (aZ cE (aj (au 0) aO)) (aj (mC (.tup ([128,191].map .int))) (aj (mC (.tup ([128,191].map .int))) aO)))))
    bc)
    i5)
def i7:ae -> OS:=
    (aT (b7 (aQ (jL gLe gLt (mC (.int 224)) (au 0) (mC (.int 240))))
    (bp (dD (aj (aZ cg (aj (au 0) aO)) (aj (mC (.tup ([128,191].map .int))) aO))))
    bc)
    i0)
def i3:ae -> OS:=
    (aT (b7 (aQ (jL gLe gLt (mC (.int 194)) (au 0) (mC (.int 224))))
    (bp (dD (aj (mC (.tup ([128,191].map .int))) aO)))
    bc)
    i7)
def jr:ae -> OS:=
    (aT (b7 (aQ (jL gLe gLt (mC (.int 0)) (au 0) (mC (.int 128))))
    (bp (dD aO))
    bc)
    i3)
def gD:List PV -> OE:=fnP 1 1 jr
def dH:ae -> OS:=
    (bp (mOp mx (au 1) (dD (aj (mC (.str "text")) aO))))
def dG:ae -> OS:=
    (aT (b7 (yt (aQ (mOp gLt (au 0) (mC (.int 32)))) (aQ (mOp uQ (au 1) (mC .non))))
    (bp (mC .non))
    bc)
    dH)
def dI:ae -> OS:=
    (aT (cK 1 (aZ gD (aj (au 0) aO)))
    dG)
def dO:ae -> OS:=
    (aT (b7 (aQ (mOp gEq (au 0) (mC (.int 92))))
    (bp (dD (aj (mC (.str "escape")) (aj (mC (.str "text")) aO))))
    bc)
    dI)
def cU:ae -> OS:=
    (aT (b7 (aQ (mOp gEq (au 0) (mC (.int 34))))
    (bp (dD aO))
    bc)
    dO)
def bG:List PV -> OE:=fnP 1 2 cU
def b5:ae -> OS:=
    (bp (mUn (fU [(34,.int 34),(92,.int 92),(47,.int 47),(98,.int 8),(102,.int 12),(110,.int 10),(114,.int 13),(116,.int 9)]) (au 0)))
def bw:List PV -> OE:=fnP 1 1 b5
def d8:ae -> OS:=
    (aT (b7 (aQ (mOp gEq (au 0) (mC (.int 117))))
    (bp (dD (aj (mC (.str "code")) aO)))
    bc)
    (bp (ki (aQ (mOp uQ (aZ bw (aj (au 0) aO)) (mC .non))) (mC .non) (dD aO))))
def bY:List PV -> OE:=fnP 1 1 d8
def cT:ae -> OS:=
    (bp (aZ cM (aj (au 2) aO)))
def cP:ae -> OS:=
    (aT (b7 (aQ (mOp gEq (au 0) (mC (.str "code"))))
    (bp (ki (aQ (mOp gEq (au 2) (mC (.int 13)))) (dD (aj (mC (.str "code d")) aO)) (dD (aj (mC (.str "hex")) (aj (mC (.str "hex")) (aj (mC (.str "hex")) aO))))))
    bc)
    cT)
def cR:ae -> OS:=
    (aT (b7 (aQ (mOp uQ (au 2) (mC .non)))
    (bp (mC .non))
    bc)
    cP)
def cV:ae -> OS:=
    (aT (cK 2 (aZ eC (aj (au 1) aO)))
    cR)
def cN:ae -> OS:=
    (aT (b7 (aQ (mOp gEq (au 0) (mC (.str "escape"))))
    (bp (aZ bY (aj (au 1) aO)))
    bc)
    cV)
def cC:ae -> OS:=
    (aT (b7 (aQ (mOp gEq (au 0) (mC (.str "text"))))
    (bp (aZ bG (aj (au 1) aO)))
    bc)
    cN)
def bF:List PV -> OE:=fnP 2 3 cC
def fC:ae -> OS:=
    (bp (dD aO))
def fD:ae -> OS:=
    (aT (b7 (aQ (mOp gEq (au 0) (mC (.str "hex c to f"))))
    (bp (ki (aQ (mOp gGe (au 2) (mC (.int 12)))) (dD aO) (mC .non)))
    bc)
    fC)
def fV:ae -> OS:=
    (aT (b7 (aQ (mOp gEq (au 0) (mC (.str "hex d"))))
    (bp (ki (aQ (mOp gEq (au 2) (mC (.int 13)))) (dD aO) (mC .non)))
    bc)
    fD)
def fT:ae -> OS:=
    (aT (b7 (aQ (mOp uQ (au 2) (mC .non)))
    (bp (mC .non))
    bc)
    fV)
def fe:ae -> OS:=
    (aT (cK 2 (aZ eC (aj (au 1) aO)))
    fT)
def dn:List PV -> OE:=fnP 2 3 fe
def er:ae -> OS:=
    (bp (ki (aQ (mOp uQ (au 1) (mC .non))) (mC .non) (mOp mx (au 1) (dD (aj (mC (.str "white")) (aj (mC (.str "more row")) aO))))))
def eE:ae -> OS:=
    (aT (cK 1 (aZ bu (aj (au 0) aO)))
    er)
def dw:ae -> OS:=
    (aT (b7 (aQ (mOp gEq (au 0) (mC (.int 93))))
    (bp (dD aO))
    bc)
    eE)
def bS:List PV -> OE:=fnP 1 2 dw
def gp:ae -> OS:=
    (bp (dD (aj (mC (.str "white")) (aj (gF (aj (mC (.int 58)) (aj (mC (.int 58)) aO))) (aj (mC (.str "white")) (aj (mC (.str "value")) (aj (mC (.str "white")) (aj (mC (.str "more fields")) aO))))))))
def dC:List PV -> OE:=fnP 0 0 gp
def dr:ae -> OS:=
    (aT (b7 (aQ (mOp gEq (au 0) (mC (.int 125))))
    (bp (dD aO))
    bc)
    (bp (ki (aQ (mOp gEq (au 0) (mC (.int 34)))) (mOp mx (dD (aj (mC (.str "text")) aO)) (aZ dC aO)) (mC .non))))
def bI:List PV -> OE:=fnP 1 1 dr
def bZ:ae -> OS:=
    (bp (ki (aQ (mOp gEq (au 1) (mC (.int 125)))) (dD aO) (mC .non)))
def b2:ae -> OS:=
    (aT (b7 (aQ (mOp gEq (au 1) (mC (.int 44))))
    (bp (mOp mx (dD (aj (mC (.str "white")) (aj (mC (.str "name")) aO))) (aZ dC aO)))
    bc)
    bZ)
def b1:ae -> OS:=
    (aT (b7 (aQ (mOp gEq (au 0) (mC (.str "more row"))))
    (aT (b7 (aQ (mOp gEq (au 1) (mC (.int 44))))
    (bp (dD (aj (mC (.str "white")) (aj (mC (.str "value")) (aj (mC (.str "white")) (aj (mC (.str "more row")) aO))))))
    bc)
    (bp (ki (aQ (mOp gEq (au 1) (mC (.int 93)))) (dD aO) (mC .non))))
    bc)
    b2)
def b3:ae -> OS:=
    (aT (b7 (aQ (mOp gEq (au 0) (mC (.str "fields"))))
    (bp (aZ bI (aj (au 1) aO)))
    bc)
    b1)
def bK:ae -> OS:=
    (aT (b7 (aQ (mOp gEq (au 0) (mC (.str "row"))))
    (bp (aZ bS (aj (au 1) aO)))
    bc)
    b3)
def aY:List PV -> OE:=fnP 2 2 bK
def gO:ae -> OS:=
    (bp (mOp gIn (au 0) (mC (.tup ([9,10,13,32].map .int)))))
def d0:List PV -> OE:=fnP 1 1 gO
def bP:ae -> OS:=
    (bp (aZ bu (aj (au 1) aO)))
def bO:ae -> OS:=
    (aT (b7 (aQ (mOp gEq (au 0) (mC (.str "name"))))
    (bp (ki (aQ (mOp gEq (au 1) (mC (.int 34)))) (dD (aj (mC (.str "text")) aO)) (mC .non)))
    bc)
    bP)
def bN:ae -> OS:=
    (aT (b7 (aQ (mOp gEq (au 0) (mC (.str "white"))))
    (bp (ki (gi (aZ d0 (aj (au 1) aO))) (dD (aj (mC (.str "white")) aO)) (mC .non)))
    bc)
    bO)
def bT:ae -> OS:=
    (aT (b7 (aQ (mOp gIn (au 0) (mC (.tup [.str "row",.str "more row",.str "fields",.str "more fields"]))))
    (bp (aZ aY (aj (au 0) (aj (au 1) aO))))
    bc)
    bN)
def bQ:ae -> OS:=
    (aT (b7 (aQ (mOp gIn (au 0) (gF (aj (mC (.str "hex")) (aj (mC (.str "hex d")) (aj (mC (.str "hex c to f")) aO))))))
    (bp (aZ dn (aj (au 0) (aj (au 1) aO))))
    bc)
    bT)
def bR:ae -> OS:=
    (aT (b7 (aQ (mOp gIn (au 0) (gF (aj (mC (.str "text")) (aj (mC (.str "escape")) (aj (mC (.str "code")) (aj (mC (.str "code d")) aO)))))))
    (bp (aZ bF (aj (au 0) (aj (au 1) aO))))
    bc)
    bQ)
def bV:ae -> OS:=
    (aT (b7 (aQ (mOp gIn (au 0) (gF (aj (mC (.str "lead")) (aj (mC (.str "figures")) (aj (mC (.str "fraction")) (aj (mC (.str "exponent")) (aj (mC (.str "sign")) aO))))))))
    (bp (aZ aU (aj (au 0) (aj (au 1) aO))))
    bc)
    bR)
def ck:ae -> OS:=
    (aT (b7 (gi (mIs "tuple" (au 0)))
    (bp (ki (aQ (jL gLe gLe (mOp jV (au 0) (mC (.int 0))) (au 1) (mOp jV (au 0) (mC (.int 1))))) (dD aO) (mC .non)))
    bc)
    bV)
def bW:List PV -> OE:=fnP 2 2 ck
def g9:ae -> OE:=
    (au 0)
def fu:ae -> OT:=
    (aQ (mOp gIn (au 0) (mC (.tup [.str "row",.str "more row",.str "fields",.str "more fields"]))))
def kC:ae -> OS:=
    (bp (mUn kY (p8 (oJ 0 (pFd 0 fj "coming" kR)) [] fu g9)))
def cp:List Sl -> OI:=fnI 1 1 kC
def gc:ae -> OT:=
    (nN 0 (pFd 0 fj "coming" kR))
def gf:ae -> OS:=
    (aT (nC 2 (qh 0 (pFd 0 fj "coming" kR)))
    (aT (cK 3 (aZ bW (aj (au 2) (aj (au 1) aO))))
    (aT (b7 (aQ (mOp rM (au 3) (mC .non)))
    (aT (lB 0 (pFd 0 fj "coming" kR) (vB (au 3) (mUn p5 (mC (.int 1)))))
    (bp (mOp gLe (jY "Walk" "brackets" cp [.b 0 fj]) (mC (.int 64)))))
    bc)
    (b7 (aQ (mOp iQ (au 2) (mC (.tup [.str "white",.str "figures",.str "fraction",.str "exponent",.str "sign"]))))
    (bp (mC (.bl false)))
    bc))))
def g8:ae -> OS:=
    (aT (bH gc
    gf fuel)
    (bp (mC (.bl false))))
def dJ:List Sl -> OI:=fnI 2 4 g8
def iu:ae -> OS:=
    (AN true (lq "Walk" "goes_on" dJ [.t 0 fj,.e (au 3)])
    (iA 2)
    bc)
def jD:ae -> OS:=
    (aT (we 2 3 (au 1)
    iu)
    (bp (mUn kY (au 1))))
def eV:List Sl -> OI:=fnI 2 4 jD
def hJ:ae -> OE:=
    (mOp gIn (au 0) (mC (.tup [.str "white",.str "figures",.str "fraction",.str "exponent",.str "sign"])))
def kE:ae -> OS:=
    (bp (mUn xi (sH (oJ 0 (pFd 0 fj "coming" kR)) [] hJ)))
def cL:List Sl -> OI:=fnI 1 1 kE
def oj:ae -> OS:=
    (iA 2)
def rD:ae -> OS:=
    (aT (b7 (mY (aQ (mOp gEq (au 2) (mUn kY (au 0)))) (gi (jY "Walk" "is_whole" cL [.b 1 fj])))
    (bp (mC .non))
    bc)
    oj)
def qT:ae -> OS:=
    (aT (nC 2 (lq "Walk" "take" eV [.t 1 fj,.e (au 0)]))
    rD)
def pB:ae -> OS:=
    (aT (oR 1 (rH "Walk" cJ))
    qT)
def jo:List PV -> OE:=fnP 1 3 pB
def fM:ae -> OS:=
    (aT (cK 1 (aZ jo (aj (au 0) aO)))
    (b7 (aQ (mOp rM (au 1) (mC .non)))
    (sA "Fault" "at" (aj (au 1) aO))
    bc))
def dj:List PV -> OE:=fnP 1 2 fM
def kN:ae -> OS:=
    (bp (gF (aj (mOp jV (au 2) (mC (.int 0))) (aj (mOp jV (au 2) (mC (.int 1))) (aj (mOp jV (au 2) (mC (.int 2))) (aj (mOp jV (mOp jK (au 0) (mOp gV (au 1) (mC (.int 1)))) (mC (.int 3))) aO))))))
def kI:ae -> OS:=
    (aT (b7 (aQ (mOp gNe (mOp jV (au 2) (mC (.int 0))) (mC (.str "name"))))
    (iA 2)
    bc)
    kN)
def iy:ae -> OS:=
    (aT (cK 2 (mOp jK (au 0) (au 1)))
    kI)
def eJ:List PV -> OE:=fnP 2 3 iy
def sj:ae -> OT:=
    (aQ (mOp gNe (mOp jK (au 0) (au 2)) (mC (.int 34))))
def sO:ae -> OS:=
    (o9 2 gV (ki (aQ (mOp gEq (mOp jK (au 0) (au 2)) (mC (.int 92)))) (mC (.int 2)) (mC (.int 1))))
def si:ae -> OS:=
    (bp (mOp gV (au 2) (mC (.int 1))))
def r6:ae -> OS:=
    (aT (bH sj
    sO fuel)
    si)
def nj:ae -> OS:=
    (aT (cK 2 (mOp gV (au 1) (mC (.int 1))))
    r6)
def ie:List PV -> OE:=fnP 2 3 nj
def df:ae -> OT:=
    (mY (aQ (mOp gLt (au 2) (mUn kY (au 0)))) (mY (wu (gi (aZ d0 (aj (mOp jK (au 0) (au 2)) aO)))) (aQ (mOp iQ (mOp jK (au 0) (au 2)) (gF (aj (mC (.int 44)) (aj (mC (.int 93)) (aj (mC (.int 125)) aO))))))))
def iz:ae -> OS:=
    (o9 2 gV (mC (.int 1)))
def mX:ae -> OS:=
    (iA 2)
def mR:ae -> OS:=
    (aT (bH df
    iz fuel)
    mX)
def js:ae -> OS:=
    (aT (cK 2 (au 1))
    mR)
def eX:List PV -> OE:=fnP 2 3 js
def uT:ae -> OT:=
    (mY (aQ (mOp gLt (au 1) (mUn kY (au 0)))) (gi (aZ d0 (aj (mOp jK (au 0) (au 1)) aO))))
def tS:ae -> OS:=
    (o9 1 gV (mC (.int 1)))
def ou:ae -> OS:=
    (aT (bH uT
    tS fuel)
    (bp (uI (mOp gLt (au 1) (mUn kY (au 0))) (mOp gEq (mOp jK (au 0) (au 1)) (mC (.int 58))))))
def i4:List PV -> OE:=fnP 2 2 ou
def uu:ae -> OS:=
    (bp (gF (aj (ki (gi (aZ i4 (aj (au 0) (aj (au 4) aO)))) (mC (.str "name")) (mC (.str "text"))) (aj (au 1) (aj (au 4) (aj (mOp gV (au 2) (mC (.int 1))) aO))))))
def uJ:ae -> OS:=
    (aT (cK 4 (aZ ie (aj (au 0) (aj (au 1) aO))))
    uu)
def uH:ae -> OS:=
    (aT (b7 (aQ (mOp gNe (au 3) (mC (.str "text"))))
    (bp (gF (aj (au 3) (aj (au 1) (aj (aZ eX (aj (au 0) (aj (au 1) aO))) (aj (mOp gV (au 2) (mC (.int 1))) aO))))))
    bc)
    uJ)
def sV:ae -> OS:=
    (aT (cK 3 (sf [(34,.str "text"),(91,.str "row"),(102,.str "false"),(110,.str "null"),(116,.str "true"),(123,.str "fields")] (mOp jK (au 0) (au 1)) (mC (.str "number"))))
    uH)
def kq:List PV -> OE:=fnP 3 5 sV
def gT:ae -> OT:=
    (aQ (mOp gLt (au 3) (mUn kY (au 0))))
def fY:ae -> OS:=
    (aT (cK 4 (mOp jK (au 0) (au 3)))
    (b7 (aQ (mOp gIn (au 4) (gF (aj (mC (.int 91)) (aj (mC (.int 123)) aO)))))
    (aT (tO 2 fj (mD (mUn kY (au 1))))
    (aT (kg 1 (gF (aj (mUn (y2 [(34,.str "text"),(91,.str "row"),(102,.str "false"),(110,.str "null"),(116,.str "true"),(123,.str "fields")]) (au 4)) (aj (au 3) aO))))
    (o9 3 gV (mC (.int 1)))))
    (b7 (aQ (mOp gIn (au 4) (gF (aj (mC (.int 93)) (aj (mC (.int 125)) aO)))))
    (aT (o9 3 gV (mC (.int 1)))
    (aT (nC 5 (qh 2 fj))
    (Aw 1 (au 5) (gF (aj (mOp jV (mOp jK (au 1) (au 5)) (mC (.int 0))) (aj (mOp jV (mOp jK (au 1) (au 5)) (mC (.int 1))) (aj (au 3) (aj (mUn kY (au 1)) aO))))))))
    (b7 (yt (gi (aZ d0 (aj (au 4) aO))) (aQ (mOp gIn (au 4) (gF (aj (mC (.int 44)) (aj (mC (.int 58)) aO))))))
    (o9 3 gV (mC (.int 1)))
    (aT (kg 1 (aZ kq (aj (au 0) (aj (au 3) (aj (mUn kY (au 1)) aO)))))
    (cK 3 (mOp jV (mOp jK (au 1) (mUn p5 (mC (.int 1)))) (mC (.int 2)))))))))
def oA:ae -> OE:=
    (aZ eJ (aj (au 0) (aj (au 1) aO)))
def oB:ae -> OS:=
    (j4 1 (bp (vv (mUn kY (au 1)) [1] oA)))
def q8:ae -> OS:=
    (aT (bH gT
    fY fuel)
    oB)
def rC:ae -> OS:=
    (aT (cK 3 (mC (.int 0)))
    q8)
def oh:ae -> OS:=
    (aT (oR 2 (mD (dD aO)))
    rC)
def rn:ae -> OS:=
    (aT (cK 1 (dD aO))
    oh)
def pG:ae -> OS:=
    (aT (zH (aZ dj (aj (au 0) aO)))
    rn)
def iw:List PV -> OE:=fnP 1 6 pG
def ph:ae -> OS:=
    (cK 4 (mOp qH (au 4) (mC (.int 10))))
def ju:ae -> OT:=
    (mY (aQ (mOp gNe (au 6) (mC (.int 0)))) (aQ (mOp gEq (mOp gW (au 6) (mC (.int 10))) (mC (.int 0)))))
def nV:ae -> OS:=
    (aT (cK 6 (mOp qz (au 6) (mC (.int 10))))
    (cK 7 (mOp gV (au 7) (mC (.int 1)))))
def ue:ae -> OS:=
    (j4 9 (bp (mOp yb (aZ iV (aj (au 9) (aj (aZ iw (aj (au 9) aO)) (aj (mC (.int 0)) aO)))) (gF (aj (au 6) (aj (au 7) aO))))))
def pX:ae -> OS:=
    (aT (j4 9 (b7 (yt (wu (gi (aZ eD (aj (au 9) aO)))) (aQ (mOp yw (au 9) (au 8))))
    (bp (mC (.bl false)))
    bc))
    ue)
def qp:ae -> OS:=
    (aT (cK 9 (aZ de (aj (au 4) (aj (au 2) aO))))
    pX)
def ql:ae -> OS:=
    (aT (b7 (aQ (mOp gNe (au 7) (mC (.int 0))))
    (cK 8 (mOp mx (mOp mx (au 8) (dD (aj (mC (.int 101)) aO))) (aZ dF (aj (au 7) aO))))
    bc)
    qp)
def jU:ae -> OS:=
    (aT (cK 8 (aZ dF (aj (au 6) aO)))
    ql)
def lx:ae -> OS:=
    (aT (b7 (aQ (mOp gEq (au 6) (mC (.int 0))))
    (cK 7 (mC (.int 0)))
    bc)
    jU)
def pj:ae -> OS:=
    (aT (bH ju
    nV fuel)
    lx)
def wc:ae -> OS:=
    (aT (cK 7 (mOp gV (au 2) (au 3)))
    pj)
def wq:ae -> OS:=
    (aT (cK 6 (au 1))
    wc)
def wx:ae -> OS:=
    (aT (yA 5 (au 3)
    ph)
    wq)
def pf:ae -> OS:=
    (aT (cK 4 (au 1))
    wx)
def wL:ae -> OS:=
    (aT (cK 3 (mOp qH (mOp gW (aZ cy (aj (au 0) (aj (mC (.int 5)) aO))) (mC (.int 3))) (mOp gW (aZ cy (aj (au 0) (aj (mC (.int 6)) aO))) (mC (.int 14)))))
    pf)
def wQ:ae -> OS:=
    (aT (b7 (aQ (mOp gEq (mOp gW (aZ cy (aj (au 0) (aj (mC (.int 3)) aO))) (mC (.int 5))) (mC (.int 1))))
    (cK 2 (mOp pI (mOp gW (aZ dP (aj (au 0) (aj (mC (.int 4)) aO))) (mOp ui (mC (.int 10)) (mC (.int 30)))) (mOp ui (mC (.int 10)) (mC (.int 15)))))
    bc)
    wL)
def w6:ae -> OS:=
    (aT (cK 2 (mOp pI (mOp gW (aZ cy (aj (au 0) (aj (mC (.int 3)) aO))) (mC (.int 9))) (mC (.int 4))))
    wQ)
def wG:ae -> OS:=
    (aT (b7 (aQ (mOp gEq (mOp gW (aZ cy (aj (au 0) (aj (mC (.int 1)) aO))) (mC (.int 2))) (mC (.int 1))))
    (cK 1 (mUn p5 (mOp gW (aZ cy (aj (au 0) (aj (mC (.int 2)) aO))) (mC (.int 5000)))))
    bc)
    w6)
def Ad:ae -> OS:=
    (aT (cK 1 (mOp gW (aZ dP (aj (au 0) (aj (mC (.int 0)) aO))) (mOp ui (mC (.int 10)) (mC (.int 40)))))
    wG)
def qo:List PV -> OE:=fnP 1 10 Ad
theorem nu (ns:List Int) (k:Int):dP [.lst (ns.map .int),.int k] = .ok (.sh (.int (PG.cell ns k))):=by
 unfold dP il PG.cell
 cases ns with
 | nil=>simp
 | cons n r=>
   have hp:(0:Int) < (r.length:Int) + 1:=by omega
   have hm:0 <= k % ((r.length:Int) + 1):=Int.emod_nonneg _ (by omega)
   have hm2:k % ((r.length:Int) + 1) < (r.length:Int) + 1:=Int.emod_lt_of_pos _ hp
   have hi:(k % ((r.length:Int) + 1)).toNat < (n ::r).length:=by rw [List.length_cons]; omega
   have ha:atP (PV.int n ::r.map .int) (k % ((r.length:Int) + 1)) = some (.int ((n ::r).getD (k % ((r.length:Int) + 1)).toNat 0)):=by
    rw [Cz _ _ hm]
    have:(PV.int n ::r.map .int) = (n ::r).map .int:=rfl
    rw [this,List.getElem?_map,List.getElem?_eq_getElem hi,List.getD_eq_getElem?_getD,List.getElem?_eq_getElem hi]
    rfl
   simp [hp,ha]
theorem lU (ns:List Int) (k:Int):cy [.lst (ns.map .int),.int k] = .ok (.sh (.int (PG.mix ns k))):=by
 unfold PG.mix
 simp [oS,oY,gb,cy,nu]
theorem uo (n:Int):eY [.int n] = .ok (.sh (.bl true)):=by
 unfold eY jl
 simp
theorem rW (ns:List Int):dy jg [] (ns.map .int) = .ok (ns.map fun _=>.bl true):=
 rJ _ fun n _=>by simp [jg,uo]
theorem tE (ns:List Int) (h:ns.length <= 1000000):eD [.lst (ns.map .int)] = .ok (.sh (.bl true)):=by
 unfold eD iZ
 have e:lZ (ns.map fun _=>PV.bl true) = some (ns.map fun _=>true):=by
  have:=oQ (ns.map fun _=>true)
  rwa [List.map_map] at this
 simp [rW,dN,iJ h,xi,e]
theorem gL (b:Int):d0 [.int b] = .ok (.sh (.bl (PG.wht b))):=by
 simp -implicitDefEqProofs [gO,d0,gIn,eT,b4,eI,PG.wht]
 simp [Bool.beq_eq_decide_eq]
theorem lO (b:Int):dY [.int b] = .ok (.sh (.bl (PG.fig b))):=by
 by_cases h:48 <= b <;> simp -implicitDefEqProofs [gR,dY,PG.fig,h]
theorem oN (b:Int):eC [.int b] = .ok (.sh (match PG.mI b with | some w=>.int w | none=>.non)):=by
 unfold PG.mI
 by_cases h1:48 <= b <;> by_cases h2:b <= 57 <;> by_cases h3:65 <= b <;> by_cases h4:b <= 70 <;> by_cases h5:97 <= b <;> by_cases h6:b <= 102 <;> first | omega | simp -implicitDefEqProofs [mW,mP,mL,iC,eC,lO,PG.fig,h1,h2,h3,h4,h5,h6]
theorem Al (b:Int):gD [.int b] = .ok (match PG.tls b with | some l=>.fr (l.map PG.aX) | none=>.sh .non):=by
 have h3:cg [.int b] = .ok (.sh (PG.aX (if b = 224 then .sp 160 191 else if b = 237 then .sp 128 159 else .sp 128 191))):=by
  by_cases h1:b = 224
  . simp [gk,gm,eB,cg,h1,PG.aX]
  . by_cases h2:b = 237 <;> simp [gk,gm,eB,cg,h1,h2,PG.aX]
 have h4:cE [.int b] = .ok (.sh (PG.aX (if b = 240 then .sp 144 191 else if b = 244 then .sp 128 143 else .sp 128 191))):=by
  by_cases h1:b = 240
  . simp [gJ,gG,eR,cE,h1,PG.aX]
  . by_cases h2:b = 244 <;> simp [gJ,gG,eR,cE,h1,h2,PG.aX]
 unfold PG.tls
 by_cases h0:0 <= b /\ b < 128
 . simp [i5,i0,i7,i3,jr,gD,h0.1,h0.2]
 . by_cases ha:194 <= b /\ b < 224
   . have:¬ b < 128:=by omega
     have z:0 <= b:=by omega
     simp [i5,i0,i7,i3,jr,gD,ha.1,ha.2,z,this,PG.aX]
   . by_cases hb:224 <= b /\ b < 240
     . have z1:¬ b < 128:=by omega
       have z2:¬ b < 224:=by omega
       have z:0 <= b:=by omega
       have z3:194 <= b:=by omega
       simp [i5,i0,i7,i3,jr,gD,hb.1,hb.2,z,z1,z2,z3,h3]
       simp [PG.aX]
     . by_cases hc:240 <= b /\ b < 245
       . have z1:¬ b < 128:=by omega
         have z2:¬ b < 224:=by omega
         have z:0 <= b:=by omega
         have z3:194 <= b:=by omega
         have z4:224 <= b:=by omega
         have z5:¬ b < 240:=by omega
         simp [i5,i0,i7,i3,jr,gD,hc.1,hc.2,z,z1,z2,z3,z4,z5,h4]
         simp [PG.aX]
       . simp only [h0,ha,hb,hc,if_false]
         by_cases g0:0 <= b <;> by_cases g1:b < 128 <;> by_cases g2:194 <= b <;> by_cases g3:b < 224 <;> by_cases g4:224 <= b <;> by_cases g5:b < 240 <;> by_cases g6:240 <= b <;> by_cases g7:b < 245 <;> first | omega | simp [i5,i0,i7,i3,jr,gD,g0,g1,g2,g3,g4,g5,g6,g7]
def rI:Option (List PG.It) -> RV
 | some l=>.fr (l.map PG.aX)
 | none=>.sh .non
theorem mM (b:Int):dc [.int b] = .ok (rI (PG.jH b)):=by
 unfold PG.jH
 by_cases h0:b = 48
 . simp [iN,iM,fm,dc,h0,rI,PG.aX]
 . by_cases h1:48 <= b <;> by_cases h2:b <= 57 <;> simp [iN,iM,fm,dc,h0,h1,h2,lO,PG.fig,rI,PG.aX]
theorem ly (b:Int):bu [.int b] = .ok (rI (PG.kG b)):=by
 unfold PG.kG
 by_cases h1:b = 91
 . simp [cq,cu,cw,cD,cA,cx,cz,b6,bu,h1,rI,PG.aX]
 by_cases h2:b = 123
 . simp [cq,cu,cw,cD,cA,cx,cz,b6,bu,h2,rI,PG.aX]
 by_cases h3:b = 34
 . simp [cq,cu,cw,cD,cA,cx,cz,b6,bu,h3,rI,PG.aX]
 by_cases h4:b = 45
 . simp [cq,cu,cw,cD,cA,cx,cz,b6,bu,h4,rI,PG.aX]
 by_cases h5:b = 110
 . simp [cq,cu,cw,cD,cA,cx,cz,b6,bu,h5,rI,PG.aX,fL,dX,fU,cj,qq,dy,dN,List.lookup]
 by_cases h6:b = 116
 . simp [cq,cu,cw,cD,cA,cx,cz,b6,bu,h6,rI,PG.aX,fL,dX,fU,cj,qq,dy,dN,List.lookup]
 by_cases h7:b = 102
 . simp [cq,cu,cw,cD,cA,cx,cz,b6,bu,h7,rI,PG.aX,fL,dX,fU,cj,qq,dy,dN,List.lookup]
 have z5:(b == 110) = false:=by simpa using h5
 have z6:(b == 116) = false:=by simpa using h6
 have z7:(b == 102) = false:=by simpa using h7
 simp [cq,cu,cw,cD,cA,cx,cz,b6,bu,h1,h2,h3,h4,h5,h6,h7,z5,z6,z7,fL,dX,fU,cj,List.lookup,mM]
 cases PG.jH b <;> simp [rI]
theorem mV:dC [] = .ok (.fr (PG.pR.map PG.aX)):=by
 simp [gp,dC,PG.pR,PG.aX]
theorem jP (it:PG.It) (b:Int) (h:it = .lead \/ it = .figures \/ it = .fraction \/ it = .exponent \/ it = .sign):aU [PG.aX it,.int b] = .ok (rI (PG.bh it b)):=by
 rcases h with rfl | rfl | rfl | rfl | rfl
 . simp [bC,bz,bB,bA,br,aU,PG.aX,gEq,eqS,aG,mM]
   cases e:PG.jH b <;> simp [PG.bh,rI,e]
 . by_cases h1:48 <= b <;> by_cases h2:b <= 57 <;> simp [bC,bz,bB,bA,br,aU,PG.aX,gEq,eqS,aG,lO,PG.fig,PG.bh,rI,h1,h2]
 . by_cases h1:b = 46 <;> simp [bC,bz,bB,bA,br,aU,PG.aX,gEq,eqS,aG,PG.bh,rI,h1]
 . by_cases h1:b = 101
   . simp [bC,bz,bB,bA,br,aU,PG.aX,gEq,eqS,aG,PG.bh,rI,h1,gIn,eT,b4,eI]
   . by_cases h2:b = 69
     . simp [bC,bz,bB,bA,br,aU,PG.aX,gEq,eqS,aG,PG.bh,rI,h2,gIn,eT,b4,eI]
     . have z1:¬ 101 = b:=fun z=>h1 z.symm
       have z2:¬ 69 = b:=fun z=>h2 z.symm
       simp [bC,bz,bB,bA,br,aU,PG.aX,gEq,eqS,aG,PG.bh,rI,h1,h2,z1,z2,gIn,eT,b4,eI]
 . by_cases h1:b = 43
   . simp [bC,bz,bB,bA,br,aU,PG.aX,gEq,eqS,aG,PG.bh,rI,h1,gIn,eT,b4,eI]
   . by_cases h2:b = 45
     . simp [bC,bz,bB,bA,br,aU,PG.aX,gEq,eqS,aG,PG.bh,rI,h2,gIn,eT,b4,eI]
     . have z1:¬ 43 = b:=fun z=>h1 z.symm
       have z2:¬ 45 = b:=fun z=>h2 z.symm
       simp [bC,bz,bB,bA,br,aU,PG.aX,gEq,eqS,aG,PG.bh,rI,h1,h2,z1,z2,gIn,eT,b4,eI]
theorem qc (b:Int):∃ x,bw [.int b] = .ok (.sh x) /\ cj x = !PG.tw b:=by
 unfold PG.tw
 by_cases h1:b = 34
 . exact ⟨.int 34,by simp [b5,bw,fU,List.lookup,h1],by simp [cj,h1]⟩
 by_cases h2:b = 92
 . exact ⟨.int 92,by simp [b5,bw,fU,List.lookup,h2],by simp [cj,h2]⟩
 by_cases h3:b = 47
 . exact ⟨.int 47,by simp [b5,bw,fU,List.lookup,h3],by simp [cj,h3]⟩
 by_cases h4:b = 98
 . exact ⟨.int 8,by simp [b5,bw,fU,List.lookup,h4],by simp [cj,h4]⟩
 by_cases h5:b = 102
 . exact ⟨.int 12,by simp [b5,bw,fU,List.lookup,h5],by simp [cj,h5]⟩
 by_cases h6:b = 110
 . exact ⟨.int 10,by simp [b5,bw,fU,List.lookup,h6],by simp [cj,h6]⟩
 by_cases h7:b = 114
 . exact ⟨.int 13,by simp [b5,bw,fU,List.lookup,h7],by simp [cj,h7]⟩
 by_cases h8:b = 116
 . exact ⟨.int 9,by simp [b5,bw,fU,List.lookup,h8],by simp [cj,h8]⟩
 have zz:∀ k:Int,¬ b = k -> (b == k) = false:=fun k h=>by simpa using h
 exact ⟨.non,by simp [b5,bw,fU,List.lookup,zz _ h1,zz _ h2,zz _ h3,zz _ h4,zz _ h5,zz _ h6,zz _ h7,zz _ h8],by simp [cj,h1,h2,h3,h4,h5,h6,h7,h8]⟩
theorem m4 (b:Int):bY [.int b] = .ok (rI (PG.zL b)):=by
 obtain ⟨x,hx,hn⟩:=qc b
 unfold PG.zL
 by_cases h1:b = 117
 . simp [d8,bY,h1,rI,PG.aX]
 . cases hs:PG.tw b <;> rw [hs] at hn <;> simp at hn <;> simp [d8,bY,h1,hx,hn,rI]
theorem Be (b:Int) (l:List PG.It) (h:PG.tls b = some l):l.length <= 3:=by
 unfold PG.tls at h
 repeat' split at h
 all_goals (first | (cases h; done) | (injection h with h; subst h; simp))
theorem m9 (b:Int):bG [.int b] = .ok (rI (PG.pU b)):=by
 have ht:=Al b
 unfold PG.pU
 by_cases h1:b = 34
 . simp [dH,dG,dI,dO,cU,bG,h1,rI]
 by_cases h2:b = 92
 . simp [dH,dG,dI,dO,cU,bG,h2,rI,PG.aX]
 cases e:PG.tls b with
 | none=>
   rw [e] at ht
   by_cases h3:b < 32 <;> simp [dH,dG,dI,dO,cU,bG,h1,h2,h3,rI,ht,cj]
 | some l=>
   rw [e] at ht
   have hl:l.length + 1 <= lim:=iJ (by have:=Be b l e; omega)
   by_cases h3:b < 32 <;> simp [dH,dG,dI,dO,cU,bG,h1,h2,h3,rI,ht,cj,hl,PG.aX]
theorem pb (w:Int):cM [.int w] = .ok (rI (PG.yG w)):=by
 unfold PG.yG
 by_cases h1:w < 8
 . simp [hU,gZ,fk,cM,h1,rI,PG.aX]
 . by_cases h2:w < 12 <;> simp [hU,gZ,fk,cM,h1,h2,rI,PG.aX]
theorem pq (it:PG.It) (b:Int) (h:it = .text \/ it = .escape \/ it = .code \/ it = .coded):bF [PG.aX it,.int b] = .ok (rI (PG.bh it b)):=by
 have hw:=oN b
 rcases h with rfl | rfl | rfl | rfl
 . simp [cT,cP,cR,cV,cN,cC,bF,PG.aX,gEq,eqS,aG,m9]
   cases e:PG.pU b <;> simp [PG.bh,rI,e]
 . simp [cT,cP,cR,cV,cN,cC,bF,PG.aX,gEq,eqS,aG,m4]
   cases e:PG.zL b <;> simp [PG.bh,rI,e]
 . cases e:PG.mI b with
   | none=>
     rw [e] at hw
     simp [cT,cP,cR,cV,cN,cC,bF,PG.aX,gEq,eqS,aG,hw,cj,PG.bh,e,rI]
   | some w=>
     rw [e] at hw
     by_cases h13:w = 13 <;> simp [cT,cP,cR,cV,cN,cC,bF,PG.aX,gEq,eqS,aG,hw,cj,PG.bh,e,rI,h13]
 . cases e:PG.mI b with
   | none=>
     rw [e] at hw
     simp [cT,cP,cR,cV,cN,cC,bF,PG.aX,gEq,eqS,aG,hw,cj,PG.bh,e,rI]
   | some w=>
     rw [e] at hw
     simp [cT,cP,cR,cV,cN,cC,bF,PG.aX,gEq,eqS,aG,hw,cj,PG.bh,e,pb]
     cases e2:PG.yG w <;> simp [rI]
theorem vj (it:PG.It) (b:Int) (h:it = .hex \/ it = .hexd \/ it = .hexcf):dn [PG.aX it,.int b] = .ok (rI (PG.bh it b)):=by
 have hw:=oN b
 cases e:PG.mI b with
 | none=>
   rw [e] at hw
   rcases h with rfl | rfl | rfl <;> simp [fC,fD,fV,fT,fe,dn,PG.aX,gEq,eqS,aG,hw,cj,PG.bh,e,rI]
 | some w=>
   rw [e] at hw
   rcases h with rfl | rfl | rfl
   . simp [fC,fD,fV,fT,fe,dn,PG.aX,gEq,eqS,aG,hw,cj,PG.bh,e,rI]
   . by_cases h13:w = 13 <;> simp [fC,fD,fV,fT,fe,dn,PG.aX,gEq,eqS,aG,hw,cj,PG.bh,e,rI,h13]
   . by_cases h13:12 <= w <;> simp [fC,fD,fV,fT,fe,dn,PG.aX,gEq,eqS,aG,hw,cj,PG.bh,e,rI,h13]
theorem xJ (b:Int) (l:List PG.It) (h:PG.kG b = some l):l.length <= 5:=by
 unfold PG.kG PG.jH at h
 repeat' split at h
 all_goals (first | (cases h; done) | (injection h with h; subst h; decide))
theorem mZ (b:Int):bS [.int b] = .ok (rI (PG.bh .row b)):=by
 have hv:=ly b
 by_cases h1:b = 93
 . simp [er,eE,dw,bS,h1,rI,PG.bh]
 cases e:PG.kG b with
 | none=>rw [e] at hv; simp [er,eE,dw,bS,h1,hv,rI,PG.bh,e,cj]
 | some l=>
   rw [e] at hv
   have hl:l.length + 2 <= lim:=iJ (by have:=xJ b l e; omega)
   simp [er,eE,dw,bS,h1,hv,rI,PG.bh,e,cj,PG.aX,hl]
theorem kT (b:Int):bI [.int b] = .ok (rI (PG.bh .fields b)):=by
 by_cases h1:b = 125
 . simp [dr,bI,h1,rI,PG.bh]
 by_cases h2:b = 34 <;> simp [dr,bI,h1,h2,rI,PG.bh,mV,PG.pR,PG.aX]
theorem jv (it:PG.It) (b:Int) (h:it = .row \/ it = .mrow \/ it = .fields \/ it = .mfields):aY [PG.aX it,.int b] = .ok (rI (PG.bh it b)):=by
 rcases h with rfl | rfl | rfl | rfl
 . simp [bZ,b2,b1,b3,bK,aY,PG.aX,gEq,eqS,aG,mZ]
   cases e:PG.bh .row b <;> simp [rI]
 . by_cases h1:b = 44
   . simp [bZ,b2,b1,b3,bK,aY,PG.aX,gEq,eqS,aG,h1,PG.bh,rI]
   . by_cases h2:b = 93 <;> simp [bZ,b2,b1,b3,bK,aY,PG.aX,gEq,eqS,aG,h1,h2,PG.bh,rI]
 . simp [bZ,b2,b1,b3,bK,aY,PG.aX,gEq,eqS,aG,kT]
   cases e:PG.bh .fields b <;> simp [rI]
 . by_cases h1:b = 44
   . simp [bZ,b2,b1,b3,bK,aY,PG.aX,gEq,eqS,aG,h1,PG.bh,rI,mV,PG.pR]
   . by_cases h2:b = 125 <;> simp [bZ,b2,b1,b3,bK,aY,PG.aX,gEq,eqS,aG,h1,h2,PG.bh,rI]
theorem x9 (it:PG.It) (b:Int):bW [PG.aX it,.int b] = .ok (rI (PG.bh it b)):=by
 cases it with
 | sp lo hi=>by_cases h1:lo <= b <;> by_cases h2:b <= hi <;> simp [bP,bO,bN,bT,bQ,bR,bV,ck,bW,PG.aX,isP,h1,h2,PG.bh,rI]
 | white=>
   cases h:PG.wht b <;> simp [bP,bO,bN,bT,bQ,bR,bV,ck,bW,PG.aX,isP,gIn,eT,b4,gEq,eqS,aG,gL,h,PG.bh,rI]
 | name=>by_cases h:b = 34 <;> simp [bP,bO,bN,bT,bQ,bR,bV,ck,bW,PG.aX,isP,gIn,eT,b4,gEq,eqS,aG,h,PG.bh,rI]
 | value=>
   have:=ly b
   simp [bP,bO,bN,bT,bQ,bR,bV,ck,bW,PG.aX,isP,gIn,eT,b4,gEq,eqS,aG,this,PG.bh]
   cases PG.kG b <;> simp [rI]
 | lead=>
   have:=jP .lead b (by simp)
   simp only [PG.aX] at this
   simp [bP,bO,bN,bT,bQ,bR,bV,ck,bW,PG.aX,isP,gIn,eT,b4,this]
   cases PG.bh .lead b <;> simp [rI]
 | figures=>
   have:=jP .figures b (by simp)
   simp only [PG.aX] at this
   simp [bP,bO,bN,bT,bQ,bR,bV,ck,bW,PG.aX,isP,gIn,eT,b4,this]
   cases PG.bh .figures b <;> simp [rI]
 | fraction=>
   have:=jP .fraction b (by simp)
   simp only [PG.aX] at this
   simp [bP,bO,bN,bT,bQ,bR,bV,ck,bW,PG.aX,isP,gIn,eT,b4,this]
   cases PG.bh .fraction b <;> simp [rI]
 | exponent=>
   have:=jP .exponent b (by simp)
   simp only [PG.aX] at this
   simp [bP,bO,bN,bT,bQ,bR,bV,ck,bW,PG.aX,isP,gIn,eT,b4,this]
   cases PG.bh .exponent b <;> simp [rI]
 | sign=>
   have:=jP .sign b (by simp)
   simp only [PG.aX] at this
   simp [bP,bO,bN,bT,bQ,bR,bV,ck,bW,PG.aX,isP,gIn,eT,b4,this]
   cases PG.bh .sign b <;> simp [rI]
 | text=>
   have:=pq .text b (by simp)
   simp only [PG.aX] at this
   simp [bP,bO,bN,bT,bQ,bR,bV,ck,bW,PG.aX,isP,gIn,eT,b4,this]
   cases PG.bh .text b <;> simp [rI]
 | escape=>
   have:=pq .escape b (by simp)
   simp only [PG.aX] at this
   simp [bP,bO,bN,bT,bQ,bR,bV,ck,bW,PG.aX,isP,gIn,eT,b4,this]
   cases PG.bh .escape b <;> simp [rI]
 | code=>
   have:=pq .code b (by simp)
   simp only [PG.aX] at this
   simp [bP,bO,bN,bT,bQ,bR,bV,ck,bW,PG.aX,isP,gIn,eT,b4,this]
   cases PG.bh .code b <;> simp [rI]
 | coded=>
   have:=pq .coded b (by simp)
   simp only [PG.aX] at this
   simp [bP,bO,bN,bT,bQ,bR,bV,ck,bW,PG.aX,isP,gIn,eT,b4,this]
   cases PG.bh .coded b <;> simp [rI]
 | hex=>
   have:=vj .hex b (by simp)
   simp only [PG.aX] at this
   simp [bP,bO,bN,bT,bQ,bR,bV,ck,bW,PG.aX,isP,gIn,eT,b4,this]
   cases PG.bh .hex b <;> simp [rI]
 | hexd=>
   have:=vj .hexd b (by simp)
   simp only [PG.aX] at this
   simp [bP,bO,bN,bT,bQ,bR,bV,ck,bW,PG.aX,isP,gIn,eT,b4,this]
   cases PG.bh .hexd b <;> simp [rI]
 | hexcf=>
   have:=vj .hexcf b (by simp)
   simp only [PG.aX] at this
   simp [bP,bO,bN,bT,bQ,bR,bV,ck,bW,PG.aX,isP,gIn,eT,b4,this]
   cases PG.bh .hexcf b <;> simp [rI]
 | row=>
   have:=jv .row b (by simp)
   simp only [PG.aX] at this
   simp [bP,bO,bN,bT,bQ,bR,bV,ck,bW,PG.aX,isP,gIn,eT,b4,this]
   cases PG.bh .row b <;> simp [rI]
 | mrow=>
   have:=jv .mrow b (by simp)
   simp only [PG.aX] at this
   simp [bP,bO,bN,bT,bQ,bR,bV,ck,bW,PG.aX,isP,gIn,eT,b4,this]
   cases PG.bh .mrow b <;> simp [rI]
 | fields=>
   have:=jv .fields b (by simp)
   simp only [PG.aX] at this
   simp [bP,bO,bN,bT,bQ,bR,bV,ck,bW,PG.aX,isP,gIn,eT,b4,this]
   cases PG.bh .fields b <;> simp [rI]
 | mfields=>
   have:=jv .mfields b (by simp)
   simp only [PG.aX] at this
   simp [bP,bO,bN,bT,bQ,bR,bV,ck,bW,PG.aX,isP,gIn,eT,b4,this]
   cases PG.bh .mfields b <;> simp [rI]
abbrev cm (st:List PG.It):List PV:=st.reverse.map PG.aX
theorem uO (st:List PG.It):PG.wk st = .ob "Walk" ["coming"] [.ol ((cm st).map .sh)]:=rfl
theorem u9 (st:List PG.It):(PG.wk st).get [.fd "coming"] = some (.ol ((cm st).map .sh)):=by
 simp [uO,OV.get,OV.at1,lj]
theorem ye (st:List PG.It) (t:OV):(PG.wk st).put [.fd "coming"] t = .ob "Walk" ["coming"] [t]:=by
 simp [uO,OV.put,OV.at1,OV.yn,lj,qF]
theorem u3 {ρ:ae} {i:Nat} {s:Sl} {st:List PG.It} (h:ρ[i]? = some (some s)) (hs:slT s = some (PG.wk st)):subAt i fj ρ = some (PG.wk st):=by
 unfold subAt jc fj; rw [h]; simp [hs]
theorem v3 {ρ:ae} {i:Nat} {s:Sl} {st:List PG.It} (h:ρ[i]? = some (some s)) (hs:slT s = some (PG.wk st)):pFd i fj "coming" kR ρ = some [.fd "coming"]:=by
 unfold pFd
 rw [u3 h hs,uO]
 simp [kR,lj,fj]
theorem tJ {ρ:ae} {i:Nat} {s:Sl} {st:List PG.It} (h:ρ[i]? = some (some s)) (hs:slT s = some (PG.wk st)):subAt i (pFd i fj "coming" kR) ρ = some (.ol ((cm st).map .sh)):=by
 unfold subAt jc
 rw [h,v3 h hs]
 simp [hs,u9]
theorem E9 (it:PG.It):fu [some (.sh (PG.aX it))] = .ok (PG.opn it):=by
 cases it <;> simp -implicitDefEqProofs [fu,PG.aX,gIn,eT,b4,PG.opn,eI]
theorem xK (l:List PG.It):gv fu g9 [] (l.map PG.aX) = .ok ((l.filter PG.opn).map PG.aX):=by
 induction l with
 | nil=>rfl
 | cons it l ih=>
   rw [List.map_cons]
   unfold gv
   have h:=E9 it
   have he:g9 [some (.sh (PG.aX it))] = .ok (.sh (PG.aX it)):=rfl
   cases e:PG.opn it <;> rw [e] at h <;> simp [h,ih,e,he]
theorem vh (st:List PG.It) (hl:st.length <= 100000):cp [.bo (PG.wk st)] = .ok (.int (PG.cnt st)) [none]:=by
 have hp:oJ 0 (pFd 0 fj "coming" kR) [some (.bo (PG.wk st))] = .ok (.al (cm st)):=by
  unfold oJ
  rw [tJ (s:=.bo (PG.wk st)) rfl rfl]
  simp only [qU]
 have hc:(st.reverse.filter PG.opn).length = PG.cnt st:=by unfold PG.cnt; rw [List.filter_reverse,List.length_reverse]
 have hn:PG.cnt st <= lim:=iJ (by unfold PG.cnt; have:=List.length_filter_le PG.opn st; omega)
 have he:=xK st.reverse
 simp -implicitDefEqProofs only [cp,kC,fnI,kl,p8,hp,dN,List.map_nil,he,zC,zx,List.map_cons,List.length_cons,List.length_nil,List.replicate,List.append_nil,mf,Cf,zg,List.length_map,hc,hn,if_true,DD,tu,jj,Ci,Nat.sub_self,vT]
 rfl
theorem BB (it:PG.It):iQ (PG.aX it) (.tup [.str "white",.str "figures",.str "fraction",.str "exponent",.str "sign"]) = some (.sh (.bl (!PG.loose it))):=by
 cases it <;> simp -implicitDefEqProofs [PG.aX,iQ,eT,b4,PG.loose,eI]
theorem Ac (it:PG.It):gIn (PG.aX it) (.tup [.str "white",.str "figures",.str "fraction",.str "exponent",.str "sign"]) = some (.sh (.bl (PG.loose it))):=by
 cases it <;> simp -implicitDefEqProofs [PG.aX,gIn,eT,b4,PG.loose,eI]
theorem Dn {ρ:ae} {i:Nat} {io:Bool} {it:PG.It} {st:List PG.It} (h:ρ[i]? = some (some (.tr io (PG.wk (it ::st))))):qh i (pFd i fj "coming" kR) ρ = .ok (ρ.set i (some (.tr io (PG.wk st)))) (.sh (PG.aX it)):=by
 have hc:(cm (it ::st)).map OV.sh = (cm st).map OV.sh ++ [.sh (PG.aX it)]:=by simp [cm]
 unfold qh
 rw [h,v3 h rfl]
 simp only [u9,hc,List.getLast?_concat,List.dropLast_concat,ye]
 rfl
theorem CA {ρ:ae} {i:Nat} {io:Bool} {l st:List PG.It} {me:ae -> OE} (h:ρ[i]? = some (some (.tr io (PG.wk st)))) (he:me ρ = .ok (.fr (l.map PG.aX).reverse)) (hl:st.length + l.length <= 100000):
  lB i (pFd i fj "coming" kR) me ρ = .nx (ρ.set i (some (.tr io (PG.wk (l ++ st))))):=by
 have hc:(cm (l ++ st)).map OV.sh = (cm st).map OV.sh ++ (l.map PG.aX).reverse.map .sh:=by simp [cm]
 have hl2:st.length + l.length <= lim:=iJ (by omega)
 unfold lB xT
 rw [h,v3 h rfl]
 simp only [u9,he,jj,List.length_map,List.length_reverse,hl2,if_true,ye]
 rw [uO,hc]
theorem uA {ρ:ae} {i:Nat} {io:Bool} {st:List PG.It} (h:ρ[i]? = some (some (.tr io (PG.wk st)))):nN i (pFd i fj "coming" kR) ρ = .ok (!st.isEmpty):=by
 unfold nN
 rw [tJ h rfl]
 cases st <;> simp [cm]
theorem Ay {ρ:ae} {i:Nat} {io:Bool} {st:List PG.It} (h:ρ[i]? = some (some (.tr io (PG.wk st)))) (hl:st.length <= 100000):jY "Walk" "brackets" cp [.b i fj] ρ = .ok (.sh (.int (PG.cnt st))):=by
 have ha:j6 (.b i fj) ρ = some (.bo (PG.wk st)):=by
  simp only [j6]
  rw [u3 h rfl]
  rfl
 have hr:recv "Walk" "brackets" (some (.bo (PG.wk st))) = true:=by
  rw [uO]
  simp [recv,aG]
 simp only [jY,ha,hr,if_true,sU,jS,Option.bind_some,Option.map_some,vh st hl]
theorem xX (b:Int) (it:PG.It) (st:List PG.It) (io:Bool) (x y:Option Sl) (hl:st.length + 8 <= 100000):gf [some (.tr io (PG.wk (it ::st))),some (.sh (.int b)),x,y] =
  match PG.bh it b with
  | some l=>.rt [some (.tr io (PG.wk (l ++ st))),some (.sh (.int b)),some (.sh (PG.aX it)),some (.ow (l.map PG.aX))] (.sh (.bl (decide (PG.cnt (l ++ st) <= 64))))
  | none=>if PG.loose it then .nx [some (.tr io (PG.wk st)),some (.sh (.int b)),some (.sh (PG.aX it)),some (.sh .non)] else .rt [some (.tr io (PG.wk st)),some (.sh (.int b)),some (.sh (PG.aX it)),some (.sh .non)] (.sh (.bl false)):=by
 have h1:nC 2 (qh 0 (pFd 0 fj "coming" kR)) [some (.tr io (PG.wk (it ::st))),some (.sh (.int b)),x,y] = .nx [some (.tr io (PG.wk st)),some (.sh (.int b)),some (.sh (PG.aX it)),y]:=by
  unfold nC
  rw [Dn (it:=it) (st:=st) (io:=io) rfl]
  rfl
 have hb:=x9 it b
 have hlo:=BB it
 unfold gf
 simp only [jJ,h1,fc]
 cases e:PG.bh it b with
 | none=>
   rw [e] at hb
   cases e2:PG.loose it <;> rw [e2] at hlo <;> simp -implicitDefEqProofs [hb,rI,cj,hlo]
 | some l=>
   rw [e] at hb
   have hll:=PG.yq it b l e
   have h2:lB 0 (pFd 0 fj "coming" kR) (vB (au 3) (mUn p5 (mC (.int 1)))) [some (.tr io (PG.wk st)),some (.sh (.int b)),some (.sh (PG.aX it)),some (.ow (l.map PG.aX))] = .nx [some (.tr io (PG.wk (l ++ st))),some (.sh (.int b)),some (.sh (PG.aX it)),some (.ow (l.map PG.aX))]:=
    CA (io:=io) rfl (by simp [vB]) (by omega)
   have h3:jY "Walk" "brackets" cp [.b 0 fj] [some (.tr io (PG.wk (l ++ st))),some (.sh (.int b)),some (.sh (PG.aX it)),some (.ow (l.map PG.aX))] = .ok (.sh (.int (PG.cnt (l ++ st)))):=Ay (io:=io) rfl (by simp; omega)
   have h4:(decide ((PG.cnt (l ++ st):Int) <= 64)) = decide (PG.cnt (l ++ st) <= 64):=by rw [decide_eq_decide]; omega
   simp -implicitDefEqProofs [hb,rI,cj,h2,h3,h4]
theorem xp (b:Int) (io:Bool) (st:List PG.It):∀ (n:Nat) (x y:Option Sl),st.length < n -> st.length + 8 <= 100000 ->
  ∃ x' y',(bH gc gf n [some (.tr io (PG.wk st)),some (.sh (.int b)),x,y]).andThen (bp (mC (.bl false))) = .rt [some (.tr io (PG.wk (PG.gon st b).1)),some (.sh (.int b)),x',y'] (.sh (.bl (PG.gon st b).2)):=by
 induction st with
 | nil=>
   intro n x y hn hl
   obtain ⟨m,rfl⟩:∃ m,n = m + 1:=⟨n - 1,by simp at hn; omega⟩
   refine ⟨x,y,?_⟩
   have hc:gc [some (.tr io (PG.wk [])),some (.sh (.int b)),x,y] = .ok false:=uA (i:=0) (ρ:=[some (.tr io (PG.wk [])),some (.sh (.int b)),x,y]) (io:=io) (st:=[]) rfl
   simp [bH,hc,PG.gon]
 | cons it st ih=>
   intro n x y hn hl
   obtain ⟨m,rfl⟩:∃ m,n = m + 1:=⟨n - 1,by simp at hn; omega⟩
   have hc:gc [some (.tr io (PG.wk (it ::st))),some (.sh (.int b)),x,y] = .ok true:=uA (i:=0) (ρ:=[some (.tr io (PG.wk (it ::st))),some (.sh (.int b)),x,y]) (io:=io) (st:=it ::st) rfl
   have ht:=xX b it st io x y (by simp at hl; omega)
   unfold PG.gon
   cases e:PG.bh it b with
   | some l=>
     rw [e] at ht
     exact ⟨some (.sh (PG.aX it)),some (.ow (l.map PG.aX)),by simp only [bH,hc,d5,if_true,ht,wN,pM]⟩
   | none=>
     rw [e] at ht
     dsimp only at ht ⊢
     cases e2:PG.loose it with
     | false=>
       rw [e2] at ht
       exact ⟨some (.sh (PG.aX it)),some (.sh .non),by simp only [bH,hc,d5,if_true,ht,wN,pM,Bool.false_eq_true,if_false]⟩
     | true=>
       rw [e2] at ht
       obtain ⟨x',y',h⟩:=ih m (some (.sh (PG.aX it))) (some (.sh .non)) (by simp at hn; omega) (by simp at hl; omega)
       exact ⟨x',y',by simp only [bH,hc,d5,if_true,ht,iW,h]⟩
theorem xN (b:Int) (st:List PG.It) (hl:st.length + 8 < 100000):dJ [.tr true (PG.wk st),.sh (.int b)] = .ok (.bl (PG.gon st b).2) [some (PG.wk (PG.gon st b).1),none]:=by
 obtain ⟨x',y',h⟩:=xp b true st fuel none none (by unfold fuel; omega) (by omega)
 have e:g8 [some (.tr true (PG.wk st)),some (.sh (.int b)),none,none] = _:=h
 show fnI 2 4 g8 _ = _
 unfold fnI
 rw [if_pos (by rfl)]
 show vT 2 (g8 [some (.tr true (PG.wk st)),some (.sh (.int b)),none,none]) = _
 rw [e]
 rfl
theorem x4 (io:Bool) (rw:PV) (row:List Int):∀ (k:Nat) (st:List PG.It) (x y:Option Sl),st.length + 8 * row.length + 8 < 100000 ->
  ∃ x' y',km 2 3 iu (o1 k (row.map .int)) [some (.tr io (PG.wk st)),some (.sh rw),x,y] = if (PG.tk st row).2 = row.length then .nx [some (.tr io (PG.wk (PG.tk st row).1)),some (.sh rw),x',y'] else .rt [some (.tr io (PG.wk (PG.tk st row).1)),some (.sh rw),x',y'] (.sh (.int ((k + (PG.tk st row).2:Nat):Int))):=by
 induction row with
 | nil=>intro k st x y hl; exact ⟨x,y,by simp [o1,km,PG.tk]⟩
 | cons b row ih=>
   intro k st x y hl
   simp only [List.length_cons] at hl
   have hg:=xN b st (by omega)
   have hlen:=PG.w9 st b
   have ht:iu [some (.tr io (PG.wk st)),some (.sh rw),some (.sh (.int k)),some (.sh (.int b))] = if (PG.gon st b).2 then .nx [some (.tr io (PG.wk (PG.gon st b).1)),some (.sh rw),some (.sh (.int k)),some (.sh (.int b))] else .rt [some (.tr io (PG.wk (PG.gon st b).1)),some (.sh rw),some (.sh (.int k)),some (.sh (.int b))] (.sh (.int k)):=by
    have ha:j6 (.t 0 fj) [some (.tr io (PG.wk st)),some (.sh rw),some (.sh (.int k)),some (.sh (.int b))] = some (.tr true (PG.wk st)):=by simp [j6,fj]
    have ha2:j6 (.e (au 3)) [some (.tr io (PG.wk st)),some (.sh rw),some (.sh (.int k)),some (.sh (.int b))] = some (.sh (.int b)):=by simp [j6]
    have hr:recv "Walk" "goes_on" (some (.tr true (PG.wk st))) = true:=by rw [uO]; simp [recv,aG]
    have hx:lq "Walk" "goes_on" dJ [.t 0 fj,.e (au 3)] [some (.tr io (PG.wk st)),some (.sh rw),some (.sh (.int k)),some (.sh (.int b))] = .ok [some (.tr io (PG.wk (PG.gon st b).1)),some (.sh rw),some (.sh (.int k)),some (.sh (.int b))] (.sh (.bl (PG.gon st b).2)):=by
     simp only [lq,ha,hr,if_true,sR,jS,ha2,Option.bind_some,Option.map_some,hg]
     simp [fw,jM,fj]
    unfold iu AN
    rw [hx]
    cases (PG.gon st b).2 <;> simp
   unfold PG.tk
   simp only [List.map_cons,o1,km,List.set_cons_succ,List.set_cons_zero,ht]
   cases e:(PG.gon st b).2 with
   | false=>exact ⟨some (.sh (.int k)),some (.sh (.int b)),by simp⟩
   | true=>
     obtain ⟨x',y',h⟩:=ih (k + 1) (PG.gon st b).1 (some (.sh (.int k))) (some (.sh (.int b))) (by omega)
     refine ⟨x',y',?_⟩
     simp only [if_true,iW,h,List.length_cons,Nat.add_right_cancel_iff]
     have:k + 1 + (PG.tk (PG.gon st b).1 row).2 = k + ((PG.tk (PG.gon st b).1 row).2 + 1):=by omega
     rw [this]
theorem C5 (st:List PG.It) (row:List Int) (hl:st.length + 8 * row.length + 8 < 100000):eV [.tr true (PG.wk st),.sh (.lst (row.map .int))] = .ok (.int (PG.tk st row).2) [some (PG.wk (PG.tk st row).1),none]:=by
 obtain ⟨x',y',h⟩:=x4 true (.lst (row.map .int)) row 0 st none none hl
 show fnI 2 4 jD _ = _
 unfold fnI
 rw [if_pos (by rfl)]
 show vT 2 (jD [some (.tr true (PG.wk st)),some (.sh (.lst (row.map .int))),none,none]) = _
 unfold jD we
 simp only [jJ,ve,List.getElem?_cons_succ,List.getElem?_cons_zero,jj,DU,h]
 by_cases e:(PG.tk st row).2 = row.length
 . simp [e,vT,qW]
 . simp [e,vT,qW]
theorem vO (st:List PG.It) (hl:st.length <= 100000):cL [.bo (PG.wk st)] = .ok (.bl (st.all PG.loose)) [none]:=by
 have hp:oJ 0 (pFd 0 fj "coming" kR) [some (.bo (PG.wk st))] = .ok (.al (cm st)):=by
  unfold oJ
  rw [tJ (s:=.bo (PG.wk st)) rfl rfl]
  simp only [qU]
 have hn:st.length <= lim:=iJ (by omega)
 have he:dy hJ [] (cm st) = .ok ((st.reverse.map PG.loose).map .bl):=by
  rw [List.map_map]
  refine rJ _ fun it _=>?_
  simp [hJ,Ac]
 have hb:xi (.lst ((st.reverse.map PG.loose).map .bl)) = some (.sh (.bl (st.all PG.loose))):=by
  simp only [xi,oQ,Option.map_some]
  congr 3
  rw [List.all_map,List.all_reverse]
  rfl
 simp -implicitDefEqProofs only [cL,kE,fnI,kl,yK,hp,dN,List.map_nil,he,zC,zx,List.map_cons,List.length_cons,List.length_nil,List.replicate,List.append_nil,mf,Cf,zg,List.length_map,List.length_reverse,hn,if_true,hb,tu,jj,Ci,Nat.sub_self,vT]
 rfl
theorem DQ:cJ [.tr true (.ob "Walk" [] [])] = .ok .non [some (PG.wk PG.st0)]:=by
 rfl
theorem Et (row:List Int):∀ st,(PG.tk st row).1.length <= st.length + 8 * row.length + 8:=by
 induction row with
 | nil=>intro st; simp [PG.tk]
 | cons b row ih=>
   intro st
   have:=PG.w9 st b
   have h2:=ih (PG.gon st b).1
   unfold PG.tk
   split <;> simp only [List.length_cons] <;> omega
def ofO:Option Nat -> PV
 | some k=>.int k
 | none=>.non
theorem AO (row:List Int) (hl:8 * row.length + 20 < 100000):jo [.lst (row.map .int)] = .ok (.sh (ofO (PG.flt row))):=by
 have ht:=C5 PG.st0 row (by simp [PG.st0]; omega)
 have hlen:=Et row PG.st0
 have hw:=vO (PG.tk PG.st0 row).1 (by have:PG.st0.length = 3:=rfl; omega)
 have h0:rH "Walk" cJ [some (.sh (.lst (row.map .int))),none,none] = .ok (PG.wk PG.st0):=by unfold rH; rw [DQ]
 have h1:nC 2 (lq "Walk" "take" eV [.t 1 fj,.e (au 0)]) [some (.sh (.lst (row.map .int))),some (.tr false (PG.wk PG.st0)),none] = .nx [some (.sh (.lst (row.map .int))),some (.tr false (PG.wk (PG.tk PG.st0 row).1)),some (.sh (.int (PG.tk PG.st0 row).2))]:=by
  have ha:j6 (.t 1 fj) [some (.sh (.lst (row.map .int))),some (.tr false (PG.wk PG.st0)),none] = some (.tr true (PG.wk PG.st0)):=by simp [j6,fj]
  have ha2:j6 (.e (au 0)) [some (.sh (.lst (row.map .int))),some (.tr false (PG.wk PG.st0)),none] = some (.sh (.lst (row.map .int))):=by simp [j6]
  have hr:recv "Walk" "take" (some (.tr true (PG.wk PG.st0))) = true:=by rw [uO]; simp [recv,aG]
  unfold nC
  simp only [lq,ha,hr,if_true,sR,jS,ha2,Option.bind_some,Option.map_some,ht]
  simp [fw,jM,fj,nio]
 have h2:jY "Walk" "is_whole" cL [.b 1 fj] [some (.sh (.lst (row.map .int))),some (.tr false (PG.wk (PG.tk PG.st0 row).1)),some (.sh (.int (PG.tk PG.st0 row).2))] = .ok (.sh (.bl ((PG.tk PG.st0 row).1.all PG.loose))):=by
  have ha:j6 (.b 1 fj) [some (.sh (.lst (row.map .int))),some (.tr false (PG.wk (PG.tk PG.st0 row).1)),some (.sh (.int (PG.tk PG.st0 row).2))] = some (.bo (PG.wk (PG.tk PG.st0 row).1)):=by
   simp only [j6]
   rw [u3 (s:=.tr false (PG.wk (PG.tk PG.st0 row).1)) rfl rfl]
   rfl
  have hr:recv "Walk" "is_whole" (some (.bo (PG.wk (PG.tk PG.st0 row).1))) = true:=by rw [uO]; simp [recv,aG]
  simp only [jY,ha,hr,if_true,sU,jS,Option.bind_some,Option.map_some,hw]
 unfold PG.flt
 have hd:oR 1 (rH "Walk" cJ) [some (.sh (.lst (row.map .int))),none,none] = .nx [some (.sh (.lst (row.map .int))),some (.tr false (PG.wk PG.st0)),none]:=by
  unfold oR; rw [h0]; rfl
 simp -implicitDefEqProofs only [jo,tW,nU,pB,List.map_cons,List.map_nil,List.length_cons,List.length_nil,List.cons_append,List.nil_append,List.replicate,jJ,hd,fc,qT,h1,rD,zw,Ax,wt,BV,ve,List.getElem?_cons_succ,List.getElem?_cons_zero,zx,mf,yf,h2]
 by_cases e:(PG.tk PG.st0 row).2 = row.length
 . cases e2:(PG.tk PG.st0 row).1.all PG.loose <;> simp [e,oj,ofO]
 . have e3:¬ ((PG.tk PG.st0 row).2:Int) = (row.length:Int):=by omega
   simp [e,e3,oj,ofO]
theorem yh (row:List Int) (hl:8 * row.length + 20 < 100000):dj [.lst (row.map .int)] = match PG.flt row with
  | some k=>.exc "Fault" [("at",.int k)]
  | none=>.ok (.sh .non):=by
 have h:=AO row hl
 cases e:PG.flt row with
 | none=>rw [e] at h; simp -implicitDefEqProofs [fM,dj,h,ofO,cj]
 | some k=>rw [e] at h; simp -implicitDefEqProofs [fM,dj,h,ofO,cj]
theorem tB (xs ys zs:List Int):lM ((xs ++ ys ++ zs).map PV.int) (some (xs.length:Int)) (some ((xs.length:Int) + ys.length)) = ys.map .int:=by
 have e1:mH ((xs ++ ys ++ zs).map PV.int).length 0 (some (xs.length:Int)) = xs.length:=by
  unfold mH
  dsimp only
  rw [if_neg (by omega)]
  simp
 have e2:mH ((xs ++ ys ++ zs).map PV.int).length ((xs ++ ys ++ zs).map PV.int).length (some ((xs.length:Int) + ys.length)) = xs.length + ys.length:=by
  unfold mH
  dsimp only
  rw [if_neg (by omega)]
  simp
  omega
 unfold lM
 rw [e1,e2,<- List.map_drop,<- List.map_take,List.append_assoc,List.drop_left]
 congr 1
 rw [Nat.add_sub_cancel_left]
 simp
theorem rh {l:List Int} {xs ys:List Int} {x:Int} (h:l = xs ++ x ::ys) {i:Int} (hi:i = xs.length):atP (l.map PV.int) i = some (.int x):=by
 rw [hi,nR,List.getElem?_map,h]; simp
def low:Nat -> Int -> Int × Nat
 | 0,n=>(n,0)
 | k + 1,n=>if n % 10 = 0 then ((low k (n / 10)).1,(low k (n / 10)).2 + 1) else (n,0)
theorem zp (k:Nat):∀ (n p:Int) (F:Nat),n ≠ 0 -> n.natAbs < 10 ^ k -> k < F -> bH iD jC F [some (.sh (.int n)),some (.sh (.int p))] = .nx [some (.sh (.int (low k n).1)),some (.sh (.int (p + (low k n).2)))]:=by
 induction k with
 | zero=>intro n p F h0 h _; simp at h; omega
 | succ k ih=>
   intro n p F h0 h hF
   obtain ⟨F,rfl⟩:∃ G,F = G + 1:=⟨F - 1,by omega⟩
   unfold bH low
   by_cases hm:n % 10 = 0
   . rw [Nat.pow_succ] at h
     have h1:n / 10 ≠ 0:=by omega
     have h2:(n / 10).natAbs < 10 ^ k:=by generalize 10 ^ k = z at h; omega
     have:=ih (n / 10) (p + 1) F h1 h2 (by omega)
     have hc:iD [some (.sh (.int n)),some (.sh (.int p))] = .ok true:=by simp [iD,hm]
     have hb:jC [some (.sh (.int n)),some (.sh (.int p))] = .nx [some (.sh (.int (n / 10))),some (.sh (.int (p + 1)))]:=by simp [jC]
     simp [hc,hb,hm,this,Int.add_assoc,Int.add_comm 1]
   . simp [iD,hm]
theorem qS (k:Nat) (n p:Int) (h0:n ≠ 0) (h:n.natAbs < 10 ^ k) (hk:k <= 90000):cB [.int n,.int p] = .ok (.sh (.tup [.int (low k n).1,.int (p + (low k n).2)])):=by
 have:=zp k n p fuel h0 h (by unfold fuel; omega)
 simp -implicitDefEqProofs [cB,ia,oO,oK,h0,this]
theorem qi (p:Int):cB [.int 0,.int p] = .ok (.sh (.tup [.int 0,.int 0])):=by
 simp -implicitDefEqProofs [cB,ia]
theorem tK (k:Nat):∀ n:Int,n ≠ 0 -> n.natAbs < 10 ^ k -> n = (low k n).1 * 10 ^ (low k n).2 /\ (low k n).1 % 10 ≠ 0:=by
 induction k with
 | zero=>intro n h0 h; simp at h; omega
 | succ k ih=>
   intro n h0 h
   unfold low
   by_cases hm:n % 10 = 0
   . rw [Nat.pow_succ] at h
     have h1:n / 10 ≠ 0:=by omega
     have h2:(n / 10).natAbs < 10 ^ k:=by generalize 10 ^ k = z at h; omega
     obtain ⟨e1,e2⟩:=ih (n / 10) h1 h2
     simp only [hm,if_true]
     refine ⟨?_,e2⟩
     rw [Int.pow_succ,<- Int.mul_assoc,<- e1]
     omega
   . simp [hm]
theorem zo {a b:Int} {i j:Nat} (h:a * 10 ^ i = b * 10 ^ j) (ha:a % 10 ≠ 0) (hb:b % 10 ≠ 0):i = j /\ a = b:=by
 induction i generalizing j with
 | zero=>
   cases j with
   | zero=>simp at h; exact ⟨rfl,h⟩
   | succ j=>
     rw [Int.pow_succ,<- Int.mul_assoc] at h
     simp at h
     omega
 | succ i ih=>
   cases j with
   | zero=>
     rw [Int.pow_succ,<- Int.mul_assoc] at h
     simp at h
     omega
   | succ j=>
     rw [Int.pow_succ,<- Int.mul_assoc,Int.pow_succ,<- Int.mul_assoc] at h
     have:a * 10 ^ i = b * 10 ^ j:=by omega
     obtain ⟨e1,e2⟩:=ih this
     exact ⟨by omega,e2⟩
theorem rQ (ds:List Int):∀ (n:Int) (a x:Option Sl),∃ x',jy 2 jt (ds.map .int) [a,some (.sh (.int n)),x] = .nx [a,some (.sh (.int (ds.foldl (fun n d=>10 * n + d - 48) n))),x']:=by
 induction ds with
 | nil=>intro n a x; exact ⟨x,rfl⟩
 | cons d ds ih=>
   intro n a x
   obtain ⟨x',h⟩:=ih (10 * n + d - 48) a (some (.sh (.int d)))
   refine ⟨x',?_⟩
   have ht:jt [a,some (.sh (.int n)),some (.sh (.int d))] = .nx [a,some (.sh (.int (10 * n + d - 48))),some (.sh (.int d))]:=by simp -implicitDefEqProofs [jt]
   rw [List.map_cons,nr]
   simp only [List.set_cons_succ,List.set_cons_zero,ht,iW,h,List.foldl_cons]
theorem xf (ds:List Int):eS [.lst (ds.map .int)] = .ok (.sh (.int (PG.cv ds))):=by
 obtain ⟨x',h⟩:=rQ ds 0 (some (.sh (.lst (ds.map .int)))) none
 simp -implicitDefEqProofs [oZ,oM,i6,eS,h,PG.cv]
theorem tU (x:Int) (ds:List Int):lM ((x ::ds).map PV.int) (some 1) none = ds.map .int:=by
 have e1:mH ((x ::ds).map PV.int).length 0 (some 1) = 1:=by
  unfold mH; dsimp only; rw [if_neg (by decide)]; simp
 unfold lM
 rw [e1]
 show ((ds.map PV.int)).take ((x ::ds).map PV.int).length.pred = _
 rw [List.take_of_length_le (by simp)]
def sv (s ds:List Int):Int:=if s = [45] then -PG.cv ds else PG.cv ds
theorem pJ (s ds:List Int) (hs:s = [] \/ s = [43] \/ s = [45]) (hd:∀ b ∈ ds,PG.isF b):d9 [.lst ((s ++ ds).map .int)] = .ok (.sh (.int (sv s ds))):=by
 have hc:=xf ds
 unfold sv
 rcases hs with rfl | rfl | rfl
 . cases ds with
   | nil=>
     have hc':eS [.lst []] = .ok (.sh (.int (PG.cv []))):=hc
     simp -implicitDefEqProofs [ja,jh,iF,d9,hc']
   | cons d ds=>
     have hf:=hd d List.mem_cons_self
     have h1:d ≠ 45:=by unfold PG.isF at hf; omega
     have h2:d ≠ 43:=by unfold PG.isF at hf; omega
     simp only [List.map_cons] at hc
     simp -implicitDefEqProofs [ja,jh,iF,d9,h1,h2,hc]
 . have ht:=tU 43 ds
   simp only [List.map_cons] at ht
   simp -implicitDefEqProofs [ja,jh,iF,d9,ht,hc]
 . have ht:=tU 45 ds
   simp only [List.map_cons] at ht
   simp -implicitDefEqProofs [ja,jh,iF,d9,ht,hc]
theorem vY (signs:List Int) (so:List Int):∀ (xs ys pre:List Int) (n:Nat),signs = pre ++ (xs ++ ys) -> (∀ x ∈ xs,x ∉ so) -> (ys = [] \/ ∃ y r,ys = y ::r /\ y ∈ so) -> xs.length < n ->
  bH e6 iX n [some (.sh (.lst (signs.map .int))),some (.sh (.tup (so.map .int))),some (.sh (.int (pre.length:Int)))] = .nx [some (.sh (.lst (signs.map .int))),some (.sh (.tup (so.map .int))),some (.sh (.int ((pre.length + xs.length:Nat):Int)))]:=by
 have hin:∀ x:Int,iQ (.int x) (.tup (so.map .int)) = some (.sh (.bl (!decide (x ∈ so)))):=fun x=>by
  have h1:(so.map PV.int).all b4 = true:=by rw [List.all_map,List.all_eq_true]; intro y _; rfl
  have h2:((so.map PV.int).any fun y=>eI y (.int x)) = decide (x ∈ so):=by
   rw [List.any_map]
   by_cases h:x ∈ so
   . rw [decide_eq_true h,List.any_eq_true]
     exact ⟨x,h,by simp [eI]⟩
   . rw [decide_eq_false h,List.any_eq_false]
     intro y hy z
     simp [eI] at z
     subst z
     exact h hy
  simp only [iQ,eT,h1,if_true,h2,Option.map_some]
 intro xs
 induction xs with
 | nil=>
   intro ys pre n hs _ hy hn
   obtain ⟨m,rfl⟩:∃ m,n = m + 1:=⟨n - 1,by simp at hn; omega⟩
   have hc:e6 [some (.sh (.lst (signs.map .int))),some (.sh (.tup (so.map .int))),some (.sh (.int (pre.length:Int)))] = .ok false:=by
    rcases hy with rfl | ⟨y,r,rfl,hm⟩
    . have:signs = pre:=by simpa using hs
      subst this
      simp [e6]
    . have ha:atP (signs.map PV.int) (pre.length:Int) = some (.int y):=rh (xs:=pre) (ys:=r) hs rfl
      simp [e6,ha,hin,hm]
   simp [bH,hc]
 | cons x xs ih=>
   intro ys pre n hs hx hy hn
   obtain ⟨m,rfl⟩:∃ m,n = m + 1:=⟨n - 1,by simp at hn; omega⟩
   have ha:atP (signs.map PV.int) (pre.length:Int) = some (.int x):=rh (xs:=pre) (ys:=xs ++ ys) hs rfl
   have hl:pre.length < signs.length:=by rw [hs]; simp
   have hn1:=hx x List.mem_cons_self
   have hc:e6 [some (.sh (.lst (signs.map .int))),some (.sh (.tup (so.map .int))),some (.sh (.int (pre.length:Int)))] = .ok true:=by
    simp [e6,ha,hin,hn1,hl]
   have hb:iX [some (.sh (.lst (signs.map .int))),some (.sh (.tup (so.map .int))),some (.sh (.int (pre.length:Int)))] = .nx [some (.sh (.lst (signs.map .int))),some (.sh (.tup (so.map .int))),some (.sh (.int ((pre ++ [x]).length:Int)))]:=by simp [iX]
   have:=ih ys (pre ++ [x]) m (by rw [hs]; simp) (fun z hz=>hx z (List.mem_cons_of_mem _ hz)) hy (by simp at hn; omega)
   simp only [bH,hc,d5,if_true,hb,iW,this]
   have e:(pre ++ [x]).length + xs.length = pre.length + (x ::xs).length:=by simp; omega
   rw [e]
theorem qk (so xs ys:List Int) (hx:∀ x ∈ xs,x ∉ so) (hy:ys = [] \/ ∃ y r,ys = y ::r /\ y ∈ so) (hl:xs.length <= 90000):ee [.lst ((xs ++ ys).map .int),.tup (so.map .int)] = .ok (.sh (.int (xs.length:Int))):=by
 have h:=vY (xs ++ ys) so xs ys [] fuel (by simp) hx hy (by unfold fuel; omega)
 simp only [List.length_nil,Int.ofNat_zero,Int.cast_ofNat_Int,Nat.zero_add] at h
 generalize (xs ++ ys).map PV.int = l at *
 simp -implicitDefEqProofs [nO,nZ,je,ee,h]
theorem tT (xs ys:List Int):lM ((xs ++ ys).map PV.int) none (some (xs.length:Int)) = xs.map .int:=by
 have:=tB [] xs ys
 simp only [List.nil_append,List.length_nil,Int.ofNat_zero,Int.cast_ofNat_Int,Int.zero_add] at this
 unfold lM at this ⊢
 rw [show mH ((xs ++ ys).map PV.int).length 0 (some (0:Int)) = 0 by unfold mH; simp] at this
 exact this
theorem p0 (xs ys:List Int) (x:Int) (i:Int) (hi:i = (xs.length:Int) + 1):lM ((xs ++ x ::ys).map PV.int) (some i) none = ys.map .int:=by
 have:=tB (xs ++ [x]) ys []
 have e:(xs ++ [x]) ++ ys ++ [] = xs ++ x ::ys:=by simp
 rw [e] at this
 have e1:((xs ++ [x]:List Int).length:Int) = i:=by rw [hi]; simp
 rw [e1] at this
 have e2:mH ((xs ++ x ::ys).map PV.int).length ((xs ++ x ::ys).map PV.int).length (some (i + ys.length)) = ((xs ++ x ::ys).map PV.int).length:=by
  unfold mH; dsimp only; rw [if_neg (by omega)]; simp; omega
 unfold lM at this ⊢
 rw [e2] at this
 exact this
theorem uj (xs:List Int) (i:Int) (hi:i = (xs.length:Int) + 1):lM (xs.map PV.int) (some i) none = []:=by
 unfold lM
 have:mH (xs.map PV.int).length 0 (some i) = xs.length:=by
  unfold mH; dsimp only; rw [if_neg (by omega)]; simp; omega
 rw [this]
 simp
def exV:Option (Int × List Int × List Int) -> Int
 | none=>0
 | some (_,s,ds)=>sv s ds
def mwV (m:PG.Nm):Int:=if m.neg then -PG.cv (m.ip ++ m.fr) else PG.cv (m.ip ++ m.fr)
theorem AR (m:PG.Nm) (h:PG.Nok m) (hl:(PG.nb m).length <= 80000):iY [.lst ((PG.nb m).map .int)] = cB [.int (mwV m),.int (exV m.ex - m.fr.length)]:=by
 have hip:∀ b ∈ m.ip,PG.isF b:=by
  rcases h.ip with e | ⟨d,r,e,h1,h2,h3⟩
  . rw [e]; intro b hb; simp at hb; subst hb; decide
  . rw [e]; intro b hb; rcases List.mem_cons.mp hb with z | z
    . subst z; unfold PG.isF; omega
    . exact h3 b z
 obtain ⟨sg,hsg⟩:∃ sg:List Int,sg = if m.neg then [45] else []:=⟨_,rfl⟩
 have hsg2:sg = [] \/ sg = [45]:=by rw [hsg]; cases m.neg <;> simp
 obtain ⟨base,hbase⟩:∃ base:List Int,base = sg ++ (m.ip ++ PG.frB m.fr):=⟨_,rfl⟩
 have hnb:PG.nb m = base ++ PG.exB m.ex:=by unfold PG.nb; rw [hbase,hsg]; simp
 have hbl:base.length <= 80000:=by rw [hnb] at hl; simp at hl; omega
 have hnote:∀ x ∈ base,x ∉ ([101,69]:List Int):=by
  intro x hx
  rw [hbase] at hx
  have:x = 45 \/ PG.isF x \/ x = 46:=by
   rcases List.mem_append.mp hx with z | z
   . rcases hsg2 with e | e <;> rw [e] at z <;> simp at z
     exact .inl z
   . rcases List.mem_append.mp z with z | z
     . exact .inr (.inl (hip x z))
     . unfold PG.frB at z
       split at z
       . cases z
       . rcases List.mem_cons.mp z with y | y
         . exact .inr (.inr y)
         . exact .inr (.inl (h.fr x y))
  simp
  unfold PG.isF at this
  omega
 have hexB:PG.exB m.ex = [] \/ ∃ y r,PG.exB m.ex = y ::r /\ y ∈ ([101,69]:List Int):=by
  cases e:m.ex with
  | none=>exact .inl rfl
  | some x=>
    obtain ⟨eb,s,ds⟩:=x
    have:=(h.ex eb s ds e).1
    exact .inr ⟨eb,s ++ ds,rfl,by simpa using this⟩
 have f1:=qk [101,69] base (PG.exB m.ex) hnote hexB (by omega)
 rw [<- hnb] at f1
 have c1:=tT base (PG.exB m.ex)
 rw [<- hnb] at c1
 obtain ⟨ih,hih⟩:∃ ih:List Int,ih = sg ++ m.ip:=⟨_,rfl⟩
 have hb2:base = ih ++ PG.frB m.fr:=by rw [hbase,hih]; simp
 have hnop:∀ x ∈ ih,x ∉ ([46]:List Int):=by
  intro x hx
  rw [hih] at hx
  have:x = 45 \/ PG.isF x:=by
   rcases List.mem_append.mp hx with z | z
   . rcases hsg2 with e | e <;> rw [e] at z <;> simp at z
     exact .inl z
   . exact .inr (hip x z)
  simp
  unfold PG.isF at this
  omega
 have hfrB:PG.frB m.fr = [] \/ ∃ y r,PG.frB m.fr = y ::r /\ y ∈ ([46]:List Int):=by
  unfold PG.frB
  split
  . exact .inl rfl
  . exact .inr ⟨46,m.fr,rfl,by simp⟩
 have hil:ih.length <= 80000:=by rw [hb2] at hbl; simp at hbl; omega
 have f2:=qk [46] ih (PG.frB m.fr) hnop hfrB (by omega)
 rw [<- hb2] at f2
 have c2:lM (base.map PV.int) (some ((ih.length:Int) + 1)) none = m.fr.map .int:=by
  rw [hb2]
  unfold PG.frB
  by_cases hfr:m.fr = []
  . rw [if_pos hfr,List.append_nil,uj ih _ rfl,hfr]; rfl
  . rw [if_neg hfr]; exact p0 ih m.fr 46 _ rfl
 have c3:lM (base.map PV.int) none (some (ih.length:Int)) = ih.map .int:=by
  rw [hb2]; exact tT ih _
 have g1:d9 [.lst ((ih ++ m.fr).map .int)] = .ok (.sh (.int (mwV m))):=by
  have:=pJ sg (m.ip ++ m.fr) (by rcases hsg2 with e | e <;> rw [e] <;> simp) (fun b hb=>by
   rcases List.mem_append.mp hb with z | z
   . exact hip b z
   . exact h.fr b z)
  rw [hih,List.append_assoc,this]
  congr 2
  unfold sv mwV
  rw [hsg]
  cases m.neg <;> simp
 have c4:lM ((PG.nb m).map PV.int) (some ((base.length:Int) + 1)) none = (match m.ex with | none=>[] | some (_,s,ds)=>s ++ ds).map .int:=by
  rw [hnb]
  cases e:m.ex with
  | none=>rw [PG.exB,List.append_nil]; exact uj base _ rfl
  | some x=>
    obtain ⟨eb,s,ds⟩:=x
    exact p0 base (s ++ ds) eb _ rfl
 have g2:d9 [.lst ((match m.ex with | none=>[] | some (_,s,ds)=>s ++ ds:List Int).map .int)] = .ok (.sh (.int (exV m.ex))):=by
  cases e:m.ex with
  | none=>exact pJ [] [] (.inl rfl) (fun b hb=>by cases hb)
  | some x=>
    obtain ⟨eb,s,ds⟩:=x
    obtain ⟨_,hs,_,hf⟩:=h.ex eb s ds e
    exact pJ s ds hs hf
 have hlim:ih.length + m.fr.length <= lim:=iJ (by
  have:m.fr.length <= base.length:=by
   rw [hb2]
   unfold PG.frB
   by_cases hfr:m.fr = []
   . rw [hfr]; simp
   . rw [if_neg hfr]; simp; omega
  omega)
 generalize hE:(match m.ex with | none=>[] | some (_,s,ds)=>s ++ ds:List Int) = E at c4 g2
 generalize PG.nb m = R at *
 have e101:(PV.tup [.int 101,.int 69]) = .tup (([101,69]:List Int).map .int):=rfl
 have e46:(PV.tup [.int 46]) = .tup (([46]:List Int).map .int):=rfl
 have f1':ee [.lst (R.map .int),.tup [.int 101,.int 69]] = .ok (.sh (.int base.length)):=f1
 have f2':ee [.lst (base.map .int),.tup [.int 46]] = .ok (.sh (.int ih.length)):=f2
 have g1':d9 [.lst (ih.map .int ++ m.fr.map .int)] = .ok (.sh (.int (mwV m))):=by rw [<- List.map_append]; exact g1
 obtain ⟨z,hz⟩:∃ z,cB [.int (mwV m),.int (exV m.ex - m.fr.length)] = z:=⟨_,rfl⟩
 have hshape:(∃ x,z = .ok (.sh x)) \/ z = .bad \/ (∃ c fs,z = .exc c fs) \/ (∃ x,z = .ok (.fr x)) \/ (∃ x,z = .ok (.al x)):=by
  cases z with
  | ok r=>cases r with
    | sh x=>exact .inl ⟨x,rfl⟩
    | fr x=>exact .inr (.inr (.inr (.inl ⟨x,rfl⟩)))
    | al x=>exact .inr (.inr (.inr (.inr ⟨x,rfl⟩)))
  | exc c fs=>exact .inr (.inr (.inl ⟨c,fs,rfl⟩))
  | bad=>exact .inr (.inl rfl)
 have key:iY [.lst (R.map .int)] = fin ((cB [.int (mwV m),.int (exV m.ex - m.fr.length)]).bL [some (.sh (.lst (R.map .int))),some (.sh (.int base.length)),some (.sh (.lst (base.map .int))),some (.sh (.int ih.length)),some (.ow (m.fr.map .int))] fun r=>match r with | .al _=>.bad | r=>.rt [some (.sh (.lst (R.map .int))),some (.sh (.int base.length)),some (.sh (.lst (base.map .int))),some (.sh (.int ih.length)),some (.ow (m.fr.map .int))] r):=by
  simp -implicitDefEqProofs [rj,qM,qN,rB,pE,iY,f1',c1,lW,f2',c2,c3,hlim,g1',c4,g2]
  try rfl
 rw [key,hz]
 have hnal:∀ x,z ≠ .ok (.al x):=fun x e=>by
  rw [e] at hz
  unfold cB at hz
  simp only [tW,List.length_cons,List.length_nil,if_true] at hz
  revert hz
  generalize ia _ = q
  intro hz
  cases q with
  | rt ρ r=>cases r <;> cases hz
  | _=>cases hz
 rcases hshape with ⟨x,rfl⟩ | rfl | ⟨c,fs,rfl⟩ | ⟨x,rfl⟩ | ⟨x,rfl⟩
 . rfl
 . rfl
 . rfl
 . rfl
 . exact absurd rfl (hnal x)
theorem ze {xs:List PV} {x:PV}:atP (xs ++ [x]) (-1) = some x:=by
 unfold atP
 rw [show (xs ++ [x]).length = xs.length + 1 by simp,DB]
 simp
abbrev NS0 (row:List Int) (tree:List PV) (un:List OV) (p:Int) (b i:Option Sl):ae:=[some (.sh (.lst (row.map .int))),some (.ow tree),some (.tr false (.ol un)),some (.sh (.int p)),b,i]
theorem xR {row:List Int} {tree:List PV} {un:List OV} {p e n:Int} {b:Int} {x y:Option Sl} {nm:Str} (ha:atP (row.map PV.int) p = some (.int b)) (h1:b ≠ 91) (h2:b ≠ 123) (h3:b ≠ 93) (h4:b ≠ 125) (h5:PG.wht b = false) (h6:b ≠ 44) (h7:b ≠ 58) (ht:tree.length <= 90000)
  (hleaf:kq [.lst (row.map .int),.int p,.int tree.length] = .ok (.sh (.tup [.str nm,.int p,.int e,.int n]))):
  fY (NS0 row tree un p x y) = .nx (NS0 row (tree ++ [.tup [.str nm,.int p,.int e,.int n]]) un e (some (.sh (.int b))) y):=by
 have hl:tree.length < lim:=vK (by omega)
 have z:∀ k:Int,b ≠ k -> (k == b) = false:=fun k h=>by simpa using fun q=>h q.symm
 have hlast:=ze (xs:=tree) (x:=.tup [.str nm,.int p,.int e,.int n])
 simp -implicitDefEqProofs [fY,ha,gIn,eT,b4,eI,z _ h1,z _ h2,z _ h3,z _ h4,z _ h6,z _ h7,gL,h5,hleaf,hl,hlast]
theorem tN (row:List Int) (tree:List PV) (un:List OV) (p:Int) (b i:Option Sl):gT (NS0 row tree un p b i) = .ok (decide (p < row.length)):=by
 simp [gT]
theorem xC (row:List Int) (tree:List PV) (p:Int) (b i:Option Sl) (ys:List PV) (hf:PG.flt row = none) (hl:8 * row.length + 20 < 100000) (ht:tree.length <= 90000)
  (hw:bH gT fY fuel (NS0 row [] [] 0 none none) = .nx (NS0 row tree [] p b i)) (hy:dy oA [some (.sh (.lst tree))] (eU tree.length) = .ok ys) (hyl:ys.length = tree.length):iw [.lst (row.map .int)] = .ok (.fr ys):=by
 have hr:=yh row hl
 rw [hf] at hr
 have hlim:tree.length <= lim:=iJ (by omega)
 have hb:-4611686018427387904 <= (tree.length:Int) /\ (tree.length:Int) < 4611686018427387904:=by omega
 have e5:oB (NS0 row tree [] p b i) = .rt [some (.sh (.lst (row.map .int))),some (.sh (.lst tree)),some (.tr false (.ol [])),some (.sh (.int p)),b,i] (.fr ys):=by
  have hfz:lW 1 (NS0 row tree [] p b i) = [some (.sh (.lst (row.map .int))),some (.sh (.lst tree)),some (.tr false (.ol [])),some (.sh (.int p)),b,i]:=rfl
  simp -implicitDefEqProofs [oB,hfz,dN,hb,hy,hyl,hlim]
 have e2:oh [some (.sh (.lst (row.map .int))),some (.ow []),none,none,none,none] = .rt [some (.sh (.lst (row.map .int))),some (.sh (.lst tree)),some (.tr false (.ol [])),some (.sh (.int p)),b,i] (.fr ys):=by
  have hsd:oR 2 (mD (dD aO)) [some (.sh (.lst (row.map .int))),some (.ow []),none,none,none,none] = .nx [some (.sh (.lst (row.map .int))),some (.ow []),some (.tr false (.ol [])),none,none,none]:=by simp [oR,mD]
  simp -implicitDefEqProofs only [oh,jJ,hsd,fc,rC,D5,Fz,jj,Bs,List.set_cons_succ,List.set_cons_zero,q8,hw,e5]
 simp -implicitDefEqProofs [iw,pG,hr,rn,e2]
theorem En {row:List Int} {tree:List PV} {un:List OV} {p:Int} {x y:Option Sl} {n:Nat} {s:ae} (h:p < row.length) (ht:fY (NS0 row tree un p x y) = .nx s):bH gT fY (n + 1) (NS0 row tree un p x y) = bH gT fY n s:=by
 have hc:=tN row tree un p x y
 rw [show decide (p < (row.length:Int)) = true by simpa using h] at hc
 simp only [bH,hc,d5,if_true,ht,iW]
theorem Fj {row:List Int} {tree:List PV} {un:List OV} {p:Int} {x y:Option Sl} {n:Nat} (h:¬ p < row.length):bH gT fY (n + 1) (NS0 row tree un p x y) = .nx (NS0 row tree un p x y):=by
 have hc:=tN row tree un p x y
 rw [show decide (p < (row.length:Int)) = false by simpa using h] at hc
 simp only [bH,hc,d5,Bool.false_eq_true,if_false]
theorem Ae {b:Int} (h:PG.plb b):PG.wht b = false /\ b ≠ 44 /\ b ≠ 93 /\ b ≠ 125 /\ b ≠ 91 /\ b ≠ 123 /\ b ≠ 58 /\ b ≠ 34:=by
 unfold PG.plb PG.isF at h
 refine ⟨?_,by omega,by omega,by omega,by omega,by omega,by omega,by omega⟩
 unfold PG.wht
 simp only [Bool.or_eq_false_iff,decide_eq_false_iff_not]
 omega
theorem vE (row:List Int) (a:Option Sl):∀ (body pre post:List Int) (n:Nat),row = pre ++ (body ++ post) -> (∀ b ∈ body,PG.wht b = false /\ b ≠ 44 /\ b ≠ 93 /\ b ≠ 125) -> (post = [] \/ ∃ y r,post = y ::r /\ (PG.wht y = true \/ y = 44 \/ y = 93 \/ y = 125)) -> body.length < n ->
  bH df iz n [some (.sh (.lst (row.map .int))),a,some (.sh (.int (pre.length:Int)))] = .nx [some (.sh (.lst (row.map .int))),a,some (.sh (.int ((pre.length + body.length:Nat):Int)))]:=by
 intro body
 induction body with
 | nil=>
   intro pre post n hr _ hp hn
   obtain ⟨m,rfl⟩:∃ m,n = m + 1:=⟨n - 1,by simp at hn; omega⟩
   have hc:df [some (.sh (.lst (row.map .int))),a,some (.sh (.int (pre.length:Int)))] = .ok false:=by
    rcases hp with rfl | ⟨y,r,rfl,hy⟩
    . have:row = pre:=by simpa using hr
      subst this
      simp [df]
    . have ha:atP (row.map PV.int) (pre.length:Int) = some (.int y):=rh (xs:=pre) (ys:=r) hr rfl
      have hl:pre.length < row.length:=by rw [hr]; simp
      cases hw:PG.wht y with
      | true=>simp [df,ha,gL,hw,hl]
      | false=>
        rw [hw] at hy
        rcases hy with z | rfl | rfl | rfl
        . cases z
        . simp [df,ha,gL,hw,hl,iQ,eT,b4,eI]
        . simp [df,ha,gL,hw,hl,iQ,eT,b4,eI]
        . simp [df,ha,gL,hw,hl,iQ,eT,b4,eI]
   simp [bH,hc]
 | cons b body ih=>
   intro pre post n hr hb hp hn
   obtain ⟨m,rfl⟩:∃ m,n = m + 1:=⟨n - 1,by simp at hn; omega⟩
   have ha:atP (row.map PV.int) (pre.length:Int) = some (.int b):=rh (xs:=pre) (ys:=body ++ post) hr rfl
   have hl:pre.length < row.length:=by rw [hr]; simp
   obtain ⟨h1,h2,h3,h4⟩:=hb b List.mem_cons_self
   have z:∀ k:Int,b ≠ k -> ¬ k = b:=fun k h q=>h q.symm
   have hc:df [some (.sh (.lst (row.map .int))),a,some (.sh (.int (pre.length:Int)))] = .ok true:=by
    simp [df,ha,gL,h1,hl,iQ,eT,b4,eI,z _ h2,z _ h3,z _ h4]
   have hb2:iz [some (.sh (.lst (row.map .int))),a,some (.sh (.int (pre.length:Int)))] = .nx [some (.sh (.lst (row.map .int))),a,some (.sh (.int ((pre ++ [b]).length:Int)))]:=by simp [iz]
   have:=ih (pre ++ [b]) post m (by rw [hr]; simp) (fun x hx=>hb x (List.mem_cons_of_mem _ hx)) hp (by simp at hn; omega)
   simp only [bH,hc,d5,if_true,hb2,iW,this]
   have e:(pre ++ [b]).length + body.length = pre.length + (b ::body).length:=by simp; omega
   rw [e]
theorem vb (row pre body post:List Int) (hr:row = pre ++ (body ++ post)) (hb:∀ b ∈ body,PG.wht b = false /\ b ≠ 44 /\ b ≠ 93 /\ b ≠ 125) (hp:post = [] \/ ∃ y r,post = y ::r /\ (PG.wht y = true \/ y = 44 \/ y = 93 \/ y = 125)) (hl:row.length <= 90000):eX [.lst (row.map .int),.int pre.length] = .ok (.sh (.int ((pre.length:Int) + body.length))):=by
 have h:=vE row (some (.sh (.int pre.length))) body pre post fuel hr hb hp (by unfold fuel; rw [hr] at hl; simp at hl; omega)
 have e:((pre.length + body.length:Nat):Int) = (pre.length:Int) + body.length:=by omega
 rw [e] at h
 simp -implicitDefEqProofs [mX,mR,js,eX,h]
theorem uG {m:PG.Nm} (h:PG.Nok m):∃ b r,PG.nb m = b ::r /\ (PG.isF b \/ b = 45):=by
 unfold PG.nb
 cases m.neg with
 | true=>exact ⟨45,_,rfl,.inr rfl⟩
 | false=>
   rcases h.ip with e | ⟨d,r,e,h1,h2,h3⟩
   . rw [e]; exact ⟨48,_,rfl,.inl (by decide)⟩
   . rw [e]; exact ⟨d,_,rfl,.inl (by unfold PG.isF; omega)⟩
theorem v8 (row pre post:List Int) (m:PG.Nm) (h:PG.Nok m) (i:Int) (hr:row = pre ++ (PG.nb m ++ post)) (hp:post = [] \/ ∃ y r,post = y ::r /\ (PG.wht y = true \/ y = 44 \/ y = 93 \/ y = 125)) (hl:row.length <= 90000):
  kq [.lst (row.map .int),.int pre.length,.int i] = .ok (.sh (.tup [.str "number",.int pre.length,.int ((pre.length:Int) + (PG.nb m).length),.int (i + 1)])):=by
 obtain ⟨b,r,e,hb⟩:=uG h
 have ha:atP (row.map PV.int) (pre.length:Int) = some (.int b):=rh (xs:=pre) (ys:=r ++ post) (by rw [hr,e]; simp) rfl
 have hpe:=vb row pre (PG.nb m) post hr (fun x hx=>by have:=Ae (PG.uy h x hx); exact ⟨this.1,this.2.1,this.2.2.1,this.2.2.2.1⟩) hp hl
 have z:∀ k:Int,(k = 34 \/ k = 91 \/ k = 102 \/ k = 110 \/ k = 116 \/ k = 123) -> (b == k) = false:=fun k hk=>by
  unfold PG.isF at hb
  simp only [beq_eq_false_iff_ne,ne_eq]
  omega
 simp -implicitDefEqProofs [uu,uJ,uH,sV,kq,ha,kr,List.lookup,z 34 (by simp),z 91 (by simp),z 102 (by simp),z 110 (by simp),z 116 (by simp),z 123 (by simp),gNe,eqS,aG,hpe]
theorem uk (m:PG.Nm) (h:PG.Nok m) (hl:(PG.nb m).length <= 10000):iw [.lst ((PG.nb m).map .int)] = .ok (.fr [.tup [.str "number",.int 0,.int (PG.nb m).length,.int 1]]):=by
 have hleaf:=v8 (PG.nb m) [] [] m h 0 (by simp) (.inl rfl) (by omega)
 simp only [List.length_nil,Int.ofNat_zero,Int.cast_ofNat_Int,Int.zero_add] at hleaf
 obtain ⟨b,r,e,hb⟩:=uG h
 have hp:=Ae (PG.uy h b (by rw [e]; simp))
 have ha:atP ((PG.nb m).map PV.int) 0 = some (.int b):=rh (xs:=[]) (ys:=r) (by rw [e]; rfl) rfl
 have ht:=xR (row:=PG.nb m) (tree:=[]) (un:=[]) (p:=0) (x:=none) (y:=none) ha hp.2.2.2.2.1 hp.2.2.2.2.2.1 hp.2.2.1 hp.2.2.2.1 hp.1 hp.2.1 hp.2.2.2.2.2.2.1 (by simp) hleaf
 have hpos:0 < (PG.nb m).length:=by rw [e]; simp
 have hflt:=PG.AI h
 generalize PG.nb m = R at *
 have hw:bH gT fY fuel (NS0 R [] [] 0 none none) = .nx (NS0 R [.tup [.str "number",.int 0,.int R.length,.int 1]] [] R.length (some (.sh (.int b))) none):=by
  obtain ⟨n,hn⟩:∃ n,fuel = n + 1 + 1:=⟨99998,rfl⟩
  simp only [List.nil_append] at ht
  rw [hn,En (by omega) ht,Fj (by omega)]
 refine xC R _ _ _ _ _ hflt (by omega) (by simp) hw ?_ rfl
 simp -implicitDefEqProofs [eU,List.range,List.range.loop,dy,oA,kN,kI,iy,eJ,gNe,eqS,aG]
theorem Az (row pre post:List Int) (m:PG.Nm) (h:PG.Nok m) (tree:List PV) (k n:Int) (hr:row = pre ++ PG.nb m ++ post) (hl:row.length <= 80000)
  (ht:atP tree k = some (.tup [.str "number",.int pre.length,.int ((pre.length:Int) + (PG.nb m).length),.int n])) {x:PV} (hx:cB [.int (mwV m),.int (exV m.ex - m.fr.length)] = .ok (.sh x)):iV [.lst (row.map .int),.lst tree,.int k] = .ok (.sh x):=by
 have hc:=tB pre (PG.nb m) post
 rw [<- hr] at hc
 have hw:=AR m h (by rw [hr] at hl; simp at hl; omega)
 rw [hx] at hw
 simp -implicitDefEqProofs [rK,qP,pz,iV,ht,gNe,eqS,aG,hc,hw]
def sgn (x:Int):List Int:=if x < 0 then [45] else []
def fgs (x:Int):List Int:=sgn x ++ PG.gz x.natAbs
theorem Ey (r:Nat) (h:0 < r):(PG.dz r).reverse = (48 + ((r % 10:Nat):Int)) ::(PG.dz (r / 10)).reverse:=by
 have:PG.dz r = PG.gz r:=by unfold PG.dz; rw [if_neg (by omega)]
 rw [this,PG.qw]
 simp
theorem Ei (r:Nat) (h:0 < r):PG.dz r = PG.dz (r / 10) ++ [48 + ((r % 10:Nat):Int)]:=by
 have:PG.dz r = PG.gz r:=by unfold PG.dz; rw [if_neg (by omega)]
 rw [this,PG.qw]
theorem BE (k:Nat):∀ (r:Nat) (f:List Int) (a:Option Sl) (n:Nat),r < 10 ^ k -> k < n -> f.length + k <= 1000 -> bH eQ gY n [a,some (.sh (.int (r:Int))),some (.ow (f.map .int))] = .nx [a,some (.sh (.int 0)),some (.ow ((f ++ (PG.dz r).reverse).map .int))]:=by
 induction k with
 | zero=>
   intro r f a n hr hn hl
   have:r = 0:=by simpa using hr
   subst this
   obtain ⟨m,rfl⟩:∃ m,n = m + 1:=⟨n - 1,by omega⟩
   simp [bH,eQ,PG.dz]
 | succ k ih=>
   intro r f a n hr hn hl
   obtain ⟨m,rfl⟩:∃ m,n = m + 1:=⟨n - 1,by omega⟩
   by_cases h0:0 < r
   . have hc:eQ [a,some (.sh (.int (r:Int))),some (.ow (f.map .int))] = .ok true:=by simp [eQ,h0]
     have hlim:f.length < lim:=vK (by omega)
     have hb:gY [a,some (.sh (.int (r:Int))),some (.ow (f.map .int))] = .nx [a,some (.sh (.int ((r / 10:Nat):Int))),some (.ow ((f ++ [48 + ((r % 10:Nat):Int)]).map .int))]:=by
      simp -implicitDefEqProofs [gY,hlim]
     have:=ih (r / 10) (f ++ [48 + ((r % 10:Nat):Int)]) a m (by rw [Nat.pow_succ] at hr; omega) (by omega) (by simp; omega)
     simp only [bH,hc,d5,if_true,hb,iW,this,Ey r h0]
     simp
   . have:r = 0:=by omega
     subst this
     simp [bH,eQ,PG.dz]
theorem nQ (x:Int) (k:Nat) (h:x.natAbs < 10 ^ k) (hk:k <= 500):dE [.int x] = .ok (.fr ((fgs x).map .int)):=by
 have hab:(if x < 0 then -x else x) = ((x.natAbs:Nat):Int):=by split <;> omega
 obtain ⟨r,hr⟩:∃ r,r = x.natAbs:=⟨_,rfl⟩
 have hrev:(PG.gz r).reverse = (48 + ((r % 10:Nat):Int)) ::(PG.dz (r / 10)).reverse:=by rw [PG.qw]; simp
 have hr':r < 10 ^ k:=by omega
 have hl:=BE k (r / 10) [48 + ((r % 10:Nat):Int)] (some (.sh (.int x))) fuel (by omega) (by unfold fuel; omega) (by simp; omega)
 have hfound:[48 + ((r % 10:Nat):Int)] ++ (PG.dz (r / 10)).reverse = (PG.gz r).reverse:=by rw [hrev]; rfl
 rw [hfound] at hl
 have hlen:(PG.gz r).length <= 500 + 1:=by
  have:=PG.nW 500 r (by
   refine Nat.lt_of_lt_of_le hr' ?_
   exact Nat.pow_le_pow_right (by decide) (by omega))
  omega
 have hlim:(PG.gz r).length < lim:=vK (by omega)
 have e1:jd [some (.sh (.int x)),some (.sh (.int (r:Int))),none] = fK [some (.sh (.int x)),some (.sh (.int 0)),some (.ow (((PG.gz r).reverse).map .int))]:=by
  have s1:cK 2 (dD (aj (mOp gV (mC (.int 48)) (mOp gW (au 1) (mC (.int 10)))) aO)) [some (.sh (.int x)),some (.sh (.int (r:Int))),none] = .nx [some (.sh (.int x)),some (.sh (.int (r:Int))),some (.ow ([48 + ((r % 10:Nat):Int)].map .int))]:=by simp -implicitDefEqProofs
  have s2:cK 1 (mOp qz (au 1) (mC (.int 10))) [some (.sh (.int x)),some (.sh (.int (r:Int))),some (.ow ([48 + ((r % 10:Nat):Int)].map .int))] = .nx [some (.sh (.int x)),some (.sh (.int ((r / 10:Nat):Int))),some (.ow ([48 + ((r % 10:Nat):Int)].map .int))]:=by simp -implicitDefEqProofs
  simp only [jd,jJ,s1,fc,lz,s2,lH,hl]
 have e2:fin (fK [some (.sh (.int x)),some (.sh (.int 0)),some (.ow (((PG.gz r).reverse).map .int))]) = .ok (.fr ((fgs x).map .int)):=by
  unfold fgs sgn
  rw [<- hr]
  by_cases hx:x < 0
  . simp -implicitDefEqProofs [fK,hx,hlim,jb,vB]
  . simp -implicitDefEqProofs [fK,hx,jb,vB]
 have e0:cK 1 (mUn AU (au 0)) [some (.sh (.int x)),none,none] = .nx [some (.sh (.int x)),some (.sh (.int (r:Int))),none]:=by
  simp -implicitDefEqProofs [hab]
  rw [hr]
 simp -implicitDefEqProofs only [dE,gd,tW,nU,List.map_cons,List.map_nil,List.length_cons,List.length_nil,List.replicate,List.cons_append,List.nil_append,jJ,e0,fc,e1]
 exact e2
theorem A1 (rec:List PV -> OE) (k:Nat):∀ (r:Nat) (f:List Int) (n:Nat),r < 10 ^ k -> k < n -> f.length + k <= 1000 -> bH (el rec) (gC rec) n [some (.sh (.int (r:Int))),some (.ow (f.map .int))] = .nx [some (.sh (.int 0)),some (.ow ((PG.dz r ++ f).map .int))]:=by
 induction k with
 | zero=>
   intro r f n hr hn hl
   have:r = 0:=by simpa using hr
   subst this
   obtain ⟨m,rfl⟩:∃ m,n = m + 1:=⟨n - 1,by omega⟩
   simp [bH,el,PG.dz]
 | succ k ih=>
   intro r f n hr hn hl
   obtain ⟨m,rfl⟩:∃ m,n = m + 1:=⟨n - 1,by omega⟩
   by_cases h0:0 < r
   . have hc:el rec [some (.sh (.int (r:Int))),some (.ow (f.map .int))] = .ok true:=by simp [el,h0]
     have hlim:1 + f.length <= lim:=iJ (by omega)
     have hb:gC rec [some (.sh (.int (r:Int))),some (.ow (f.map .int))] = .nx [some (.sh (.int ((r / 10:Nat):Int))),some (.ow (((48 + ((r % 10:Nat):Int)) ::f).map .int))]:=by
      simp -implicitDefEqProofs [gC,hlim]
     have:=ih (r / 10) ((48 + ((r % 10:Nat):Int)) ::f) m (by rw [Nat.pow_succ] at hr; omega) (by omega) (by simp; omega)
     simp only [bH,hc,d5,if_true,hb,iW,this,Ei r h0]
     simp
   . have:r = 0:=by omega
     subst this
     simp [bH,el,PG.dz]
theorem BZ (rec:List PV -> OE) (r k:Nat) (h:r < 10 ^ k) (hk:k <= 500):fnP 1 2 (dg rec) [.int (r:Int)] = .ok (.fr ((PG.gz r).map .int)):=by
 have hl:=A1 rec k (r / 10) [48 + ((r % 10:Nat):Int)] fuel (by omega) (by unfold fuel; omega) (by simp; omega)
 rw [<- PG.qw] at hl
 have hn:¬ (r:Int) < 0:=by omega
 have s0:b7 (aQ (mOp gLt (au 0) (mC (.int 0)))) (bp (mOp mx (dD (aj (mC (.int 45)) aO)) (aZ rec (aj (mUn p5 (au 0)) aO)))) bc [some (.sh (.int (r:Int))),none] = .nx [some (.sh (.int (r:Int))),none]:=by
  simp -implicitDefEqProofs only [zw,wt,BV,ve,List.getElem?_cons_zero,Fz,mf,FA,EW,tu,vc,hn,decide_false,d5,Bool.false_eq_true,if_false,AW]
 have s1:cK 1 (dD (aj (mOp gV (mC (.int 48)) (mOp gW (au 0) (mC (.int 10)))) aO)) [some (.sh (.int (r:Int))),none] = .nx [some (.sh (.int (r:Int))),some (.ow ([48 + ((r % 10:Nat):Int)].map .int))]:=by simp -implicitDefEqProofs
 have s2:cK 0 (mOp qz (au 0) (mC (.int 10))) [some (.sh (.int (r:Int))),some (.ow ([48 + ((r % 10:Nat):Int)].map .int))] = .nx [some (.sh (.int ((r / 10:Nat):Int))),some (.ow ([48 + ((r % 10:Nat):Int)].map .int))]:=by simp -implicitDefEqProofs
 have e:dg rec [some (.sh (.int (r:Int))),none] = .rt [some (.sh (.int 0)),none] (.fr ((PG.gz r).map .int)):=by
  simp only [dg,jJ,s0,fc,kH,s1,kL,s2,kJ,hl,kQ]
  rfl
 simp -implicitDefEqProofs only [tW,nU,List.map_cons,List.map_nil,List.length_cons,List.length_nil,List.replicate,List.cons_append,List.nil_append,e]
 rfl
theorem mS (x:Int) (k:Nat) (h:x.natAbs < 10 ^ k) (hk:k <= 500):dF [.int x] = .ok (.fr ((fgs x).map .int)):=by
 unfold fgs sgn
 show fnP 1 2 (dg (dZ 1)) [.int x] = _
 by_cases hx:x < 0
 . have e1:-x = ((x.natAbs:Nat):Int):=by omega
   have hr:dZ 1 [.int (-x)] = .ok (.fr ((PG.gz x.natAbs).map .int)):=by
    rw [e1]; exact BZ Dj x.natAbs k h hk
   have hlim:1 + (PG.gz x.natAbs).length <= lim:=by
    have:=PG.nW 500 x.natAbs (Nat.lt_of_lt_of_le h (Nat.pow_le_pow_right (by decide) (by omega)))
    exact iJ (by omega)
   generalize dZ 1 = rec at *
   rw [if_pos hx]
   simp -implicitDefEqProofs [dg,hx,hr,hlim]
 . have e1:x = ((x.natAbs:Nat):Int):=by omega
   rw [if_neg hx,List.nil_append]
   have:=BZ (dZ 1) x.natAbs k h hk
   rw [<- e1] at this
   exact this
def my (w p:Int):PG.Nm:=⟨decide (w < 0),PG.gz w.natAbs,[],if p = 0 then none else some (101,sgn p,PG.gz p.natAbs)⟩
def gU (w p:Int):List Int:=fgs w ++ (if p = 0 then [] else 101 ::fgs p)
theorem Br (w p:Int):PG.Nok (my w p) where
 ip:=by
  by_cases h:w.natAbs = 0
  . left; show PG.gz w.natAbs = _; rw [h,PG.xm]
  . right; exact PG.xW _ (by omega)
 fr:=fun b hb=>by cases hb
 ex:=fun e s ds h=>by
  unfold my at h
  dsimp only at h
  split at h
  . cases h
  . injection h with h
    injection h with h1 h
    injection h with h2 h3
    subst h1 h2 h3
    refine ⟨.inl rfl,?_,PG.Ao _,PG.Am _⟩
    unfold sgn
    split
    . exact .inr (.inr rfl)
    . exact .inl rfl
theorem vX (w p:Int):PG.nb (my w p) = gU w p:=by
 unfold PG.nb my gU fgs sgn PG.frB
 by_cases hp:p = 0
 . simp [hp,PG.exB]
 . simp [hp,PG.exB]
theorem Hb (w p:Int):mwV (my w p) = w:=by
 unfold mwV my
 simp only [List.append_nil,PG.wI,decide_eq_true_eq]
 split <;> omega
theorem Hw (w p:Int):exV (my w p).ex = p:=by
 unfold my
 by_cases hp:p = 0
 . simp [hp,exV]
 . simp only [hp,if_false,exV,sv,PG.wI,sgn]
   by_cases h:p < 0
   . simp [h]; omega
   . simp [h]; omega
theorem zy (k:Nat) (w:Int) (h:w % 10 ≠ 0):low k w = (w,0):=by
 cases k with
 | zero=>rfl
 | succ k=>unfold low; rw [if_neg h]
theorem yg (w p:Int) (h:(w = 0 /\ p = 0) \/ w % 10 ≠ 0) (hw:w.natAbs < 10 ^ 80) (hp:p.natAbs < 10 ^ 80):(gU w p).length <= 400 /\ iw [.lst ((gU w p).map .int)] = .ok (.fr [.tup [.str "number",.int 0,.int (gU w p).length,.int 1]]) /\
  iV [.lst ((gU w p).map .int),.lst [.tup [.str "number",.int 0,.int (gU w p).length,.int 1]],.int 0] = .ok (.sh (.tup [.int w,.int p])):=by
 have hl:(gU w p).length <= 400:=by
  have h1:=PG.nW 79 w.natAbs hw
  have h2:=PG.nW 79 p.natAbs hp
  unfold gU fgs sgn
  split <;> split <;> (try split) <;> simp <;> omega
 have ok:=Br w p
 have hn:=uk (my w p) ok (by rw [vX]; omega)
 have hx:cB [.int (mwV (my w p)),.int (exV (my w p).ex - (my w p).fr.length)] = .ok (.sh (.tup [.int w,.int p])):=by
  rw [Hb,Hw]
  have e0:p - (((my w p).fr.length:Nat):Int) = p:=by show p - (((([]:List Int).length:Nat)):Int) = p; simp
  rw [e0]
  rcases h with ⟨rfl,rfl⟩ | h
  . exact qi 0
  . rw [qS 80 w p (by omega) hw (by decide),zy 80 w h]
    simp
 have he:=Az (PG.nb (my w p)) [] [] (my w p) ok [.tup [.str "number",.int 0,.int (PG.nb (my w p)).length,.int 1]] 0 1 (by simp) (by rw [vX]; omega) (by simp) hx
 rw [vX] at hn he
 exact ⟨hl,hn,he⟩
theorem uS (z:Nat):∀ (h:Int) (a b c d x:Option Sl) (y:ae) (l:List PV),l.length = z -> ∃ x',jy 5 ph l (a ::b ::c ::d ::some (.sh (.int h)) ::x ::y) = .nx (a ::b ::c ::d ::some (.sh (.int (h * 10 ^ z))) ::x' ::y):=by
 induction z with
 | zero=>intro h a b c d x y l hl; have:l = []:=List.eq_nil_of_length_eq_zero hl; subst this; exact ⟨x,by simp⟩
 | succ z ih=>
   intro h a b c d x y l hl
   cases l with
   | nil=>cases hl
   | cons v l=>
     obtain ⟨x',e⟩:=ih (h * 10) a b c d (some (.sh v)) y l (by simpa using hl)
     refine ⟨x',?_⟩
     have ht:ph (a ::b ::c ::d ::some (.sh (.int h)) ::some (.sh v) ::y) = .nx (a ::b ::c ::d ::some (.sh (.int (h * 10))) ::some (.sh v) ::y):=by simp -implicitDefEqProofs [ph]
     rw [nr]
     simp only [List.set_cons_succ,List.set_cons_zero,ht,iW,e]
     have:h * 10 * 10 ^ z = h * 10 ^ (z + 1):=by rw [Int.pow_succ,Int.mul_assoc,Int.mul_comm 10]
     rw [this]
theorem vN (k:Nat):∀ (n p:Int) (F:Nat) (a b c d e f g h:Option Sl),n ≠ 0 -> n.natAbs < 10 ^ k -> k < F -> bH ju nV F [a,b,c,d,e,f,some (.sh (.int n)),some (.sh (.int p)),g,h] = .nx [a,b,c,d,e,f,some (.sh (.int (low k n).1)),some (.sh (.int (p + (low k n).2))),g,h]:=by
 induction k with
 | zero=>intro n p F a b c d e f g h h0 hn _; simp at hn; omega
 | succ k ih=>
   intro n p F a b c d e f g h h0 hn hF
   obtain ⟨F,rfl⟩:∃ G,F = G + 1:=⟨F - 1,by omega⟩
   unfold bH low
   by_cases hm:n % 10 = 0
   . rw [Nat.pow_succ] at hn
     have h1:n / 10 ≠ 0:=by omega
     have h2:(n / 10).natAbs < 10 ^ k:=by generalize 10 ^ k = z at hn; omega
     have:=ih (n / 10) (p + 1) F a b c d e f g h h1 h2 (by omega)
     have hc:ju [a,b,c,d,e,f,some (.sh (.int n)),some (.sh (.int p)),g,h] = .ok true:=by simp [ju,hm,h0]
     have hb:nV [a,b,c,d,e,f,some (.sh (.int n)),some (.sh (.int p)),g,h] = .nx [a,b,c,d,e,f,some (.sh (.int (n / 10))),some (.sh (.int (p + 1))),g,h]:=by simp [nV]
     simp [hc,hb,hm,this,Int.add_assoc,Int.add_comm 1]
   . simp [ju,hm,h0]
theorem gE (w p:Int):yb (.tup [.int w,.int p]) (.tup [.int w,.int p]) = some (.sh (.bl true)):=by
 simp [yb,kW,nK,eI,lK]
theorem gN (l:List Int):yw (.lst (l.map .int)) (.lst (l.map .int)) = some (.sh (.bl false)):=by
 simp [yw,kW,vx,eI,u1]
theorem uV (w p H P:Int) (h:(w = 0 /\ p = 0) \/ w % 10 ≠ 0) (hw:w.natAbs < 10 ^ 80) (hp:p.natAbs < 10 ^ 80) (hlow:cB [.int H,.int P] = .ok (.sh (.tup [.int w,.int p]))) (a b d x:Option Sl):fin (jU [a,b,some (.sh (.int P)),d,some (.sh (.int H)),x,some (.sh (.int w)),some (.sh (.int p)),none,none]) = .ok (.sh (.bl true)):=by
 obtain ⟨hl,hn,he⟩:=yg w p h hw hp
 have f1:=mS w 80 hw (by decide)
 have f2:=mS p 80 hp (by decide)
 have g1:=nQ w 80 hw (by decide)
 have g2:=nQ p 80 hp (by decide)
 have hwh:=tE (gU w p) (by omega)
 have hlen:∀ z,z = gU w p -> z.length <= 400:=fun z e=>by rw [e]; exact hl
 have e14:fin (pX [a,b,some (.sh (.int P)),d,some (.sh (.int H)),x,some (.sh (.int w)),some (.sh (.int p)),some (.ow ((gU w p).map .int)),some (.ow ((gU w p).map .int))]) = .ok (.sh (.bl true)):=by
  generalize gU w p = t at *
  simp -implicitDefEqProofs [pX,lW,hwh,gN,ue,hn,he,gE]
 have hfl:(fgs w).length <= 400:=by
  have:(fgs w).length <= (gU w p).length:=by unfold gU; simp
  omega
 by_cases h0:p = 0
 . have hd:gU w p = fgs w:=by unfold gU; rw [if_pos h0]; simp
   have ht:de [.int H,.int P] = .ok (.fr ((fgs w).map .int)):=by
    simp -implicitDefEqProofs [iL,iK,gn,de,hlow,h0,g1]
   rw [hd] at e14
   subst h0
   simp -implicitDefEqProofs [jU,f1,ql,qp,ht,e14]
 . have hd:gU w p = fgs w ++ 101 ::fgs p:=by unfold gU; rw [if_neg h0]
   have hl2:(fgs w).length + 1 + (fgs p).length <= 400:=by rw [hd] at hl; simp at hl; omega
   have c1:(fgs w).length + 1 <= lim:=iJ (by omega)
   have c2:(fgs w).length + 1 + (fgs p).length <= lim:=iJ (by omega)
   have ht:de [.int H,.int P] = .ok (.fr ((fgs w ++ 101 ::fgs p).map .int)):=by
    simp -implicitDefEqProofs [iL,iK,gn,de,hlow,h0,g1,g2,c1,c2]
   rw [hd] at e14
   simp only [List.map_append,List.map_cons] at e14 ht
   simp -implicitDefEqProofs [jU,f1,ql,h0,f2,c1,c2,qp,ht,e14]
theorem wB (x:Int) (k:Nat):(x % 10 ^ k).natAbs < 10 ^ k:=by
 have h1:(0:Int) < 10 ^ k:=Int.pow_pos (by decide)
 have h2:=Int.emod_nonneg x (Int.ne_of_gt h1)
 have h3:=Int.emod_lt_of_pos x h1
 have h4:((10 ^ k:Nat):Int) = (10:Int) ^ k:=by norm_cast
 omega
theorem BI (N:Int) (z:Nat) (h:N.natAbs < 10 ^ 40) (hz:z <= 26):(N * 10 ^ z).natAbs < 10 ^ 80:=by
 rw [Int.natAbs_mul,Int.natAbs_pow]
 have h1:(10:Int).natAbs = 10:=rfl
 rw [h1]
 have h2:10 ^ z <= 10 ^ 26:=Nat.pow_le_pow_right (by decide) hz
 calc N.natAbs * 10 ^ z <= N.natAbs * 10 ^ 26:=Nat.mul_le_mul_left _ h2
  _ < 10 ^ 40 * 10 ^ 26:=Nat.mul_lt_mul_of_pos_right h (by decide)
  _ <= 10 ^ 80:=by decide
theorem A9 (N P:Int) (z:Nat) (hN:N.natAbs < 10 ^ 40) (hP:P.natAbs < 10 ^ 40) (hz:z <= 26) (a:Option Sl):fin (pf [a,some (.sh (.int N)),some (.sh (.int P)),some (.sh (.int (z:Int))),none,none,none,none,none,none]) = .ok (.sh (.bl true)):=by
 obtain ⟨x',hh⟩:=uS z N a (some (.sh (.int N))) (some (.sh (.int P))) (some (.sh (.int (z:Int)))) none [none,none,none,none] (eU z) (by simp)
 have hb:(-4611686018427387904:Int) <= (z:Int) /\ (z:Int) < 4611686018427387904:=by omega
 have s5:pf [a,some (.sh (.int N)),some (.sh (.int P)),some (.sh (.int (z:Int))),none,none,none,none,none,none] = pj [a,some (.sh (.int N)),some (.sh (.int P)),some (.sh (.int (z:Int))),some (.sh (.int (N * 10 ^ z))),x',some (.sh (.int N)),some (.sh (.int (P + z))),none,none]:=by
  simp -implicitDefEqProofs [pf,wx,hb,hh,wq,wc]
 rw [s5]
 by_cases h0:N = 0
 . subst h0
   have hc:ju [a,some (.sh (.int 0)),some (.sh (.int P)),some (.sh (.int (z:Int))),some (.sh (.int (0 * 10 ^ z))),x',some (.sh (.int 0)),some (.sh (.int (P + z))),none,none] = .ok false:=by simp [ju]
   have hw:bH ju nV fuel [a,some (.sh (.int 0)),some (.sh (.int P)),some (.sh (.int (z:Int))),some (.sh (.int (0 * 10 ^ z))),x',some (.sh (.int 0)),some (.sh (.int (P + z))),none,none] = .nx [a,some (.sh (.int 0)),some (.sh (.int P)),some (.sh (.int (z:Int))),some (.sh (.int (0 * 10 ^ z))),x',some (.sh (.int 0)),some (.sh (.int (P + z))),none,none]:=by
    obtain ⟨n,hn⟩:∃ n,fuel = n + 1:=⟨99999,rfl⟩
    rw [hn]
    simp only [bH,hc,d5,Bool.false_eq_true,if_false]
   have ht:=uV 0 0 (0 * 10 ^ z) P (.inl ⟨rfl,rfl⟩) (by decide) (by decide) (by rw [Int.zero_mul]; exact qi P) a (some (.sh (.int 0))) (some (.sh (.int (z:Int)))) x'
   have s10:lx [a,some (.sh (.int 0)),some (.sh (.int P)),some (.sh (.int (z:Int))),some (.sh (.int (0 * 10 ^ z))),x',some (.sh (.int 0)),some (.sh (.int (P + z))),none,none] = jU [a,some (.sh (.int 0)),some (.sh (.int P)),some (.sh (.int (z:Int))),some (.sh (.int (0 * 10 ^ z))),x',some (.sh (.int 0)),some (.sh (.int 0)),none,none]:=by
    simp -implicitDefEqProofs [lx]
   simp only [pj,jJ,hw,fc,s10]
   exact ht
 . have hw:=vN 40 N (P + z) fuel a (some (.sh (.int N))) (some (.sh (.int P))) (some (.sh (.int (z:Int)))) (some (.sh (.int (N * 10 ^ z)))) x' none none h0 hN (by decide)
   obtain ⟨e1,e2⟩:=tK 40 N h0 hN
   have hH0:N * 10 ^ z ≠ 0:=Int.mul_ne_zero h0 (Int.ne_of_gt (Int.pow_pos (by decide)))
   have hHb:=BI N z hN hz
   obtain ⟨g1,g2⟩:=tK 80 (N * 10 ^ z) hH0 hHb
   have hu:(low 80 (N * 10 ^ z)).2 = (low 40 N).2 + z /\ (low 80 (N * 10 ^ z)).1 = (low 40 N).1:=by
    refine zo ?_ g2 e2
    rw [<- g1,Int.pow_add,<- Int.mul_assoc,<- e1]
   have hlow:cB [.int (N * 10 ^ z),.int P] = .ok (.sh (.tup [.int (low 40 N).1,.int (P + z + (low 40 N).2)])):=by
    rw [qS 80 _ P hH0 hHb (by decide),hu.1,hu.2]
    have:P + (((low 40 N).2 + z:Nat):Int) = P + z + ((low 40 N).2:Int):=by omega
    rw [this]
   have hle:∀ k n,(low k n).2 <= k:=by
    intro k
    induction k with
    | zero=>intro n; exact Nat.le_refl _
    | succ k ih=>
      intro n
      unfold low
      split
      . have:=ih (n / 10); simp only; omega
      . simp
   have hl40:=hle 40 N
   have hw80:(low 40 N).1.natAbs < 10 ^ 80:=by
    have h3:N.natAbs = (low 40 N).1.natAbs * 10 ^ (low 40 N).2:=by
     conv=>lhs; rw [e1]
     rw [Int.natAbs_mul,Int.natAbs_pow]; rfl
    have h4:1 <= 10 ^ (low 40 N).2:=Nat.one_le_pow _ _ (by decide)
    have h5:(low 40 N).1.natAbs <= N.natAbs:=by rw [h3]; exact Nat.le_mul_of_pos_right _ h4
    exact Nat.lt_of_le_of_lt h5 (Nat.lt_of_lt_of_le hN (by decide))
   have hp80:(P + z + ((low 40 N).2:Int)).natAbs < 10 ^ 80:=by
    have:(10:Nat) ^ 40 + 100 <= 10 ^ 80:=by decide
    omega
   have hne:(low 40 N).1 ≠ 0:=fun e=>e2 (by rw [e]; rfl)
   have ht:=uV (low 40 N).1 (P + z + (low 40 N).2) (N * 10 ^ z) P (.inr e2) hw80 hp80 hlow a (some (.sh (.int N))) (some (.sh (.int (z:Int)))) x'
   generalize low 40 N = q at *
   have s10:lx [a,some (.sh (.int N)),some (.sh (.int P)),some (.sh (.int (z:Int))),some (.sh (.int (N * 10 ^ z))),x',some (.sh (.int q.1)),some (.sh (.int (P + z + q.2))),none,none] = jU [a,some (.sh (.int N)),some (.sh (.int P)),some (.sh (.int (z:Int))),some (.sh (.int (N * 10 ^ z))),x',some (.sh (.int q.1)),some (.sh (.int (P + z + q.2))),none,none]:=by
    simp -implicitDefEqProofs [lx,hne]
   simp only [pj,jJ,hw,fc,s10]
   exact ht
theorem Fp (ns:List Int) (_:ns.length <= 63):qo [.lst (ns.map .int)] = .ok (.sh (.bl true)):=by
 have m2:=PG.rP ns 2
 have m3:=PG.rP ns 3
 have m5:=PG.rP ns 5
 have m6:=PG.rP ns 6
 obtain ⟨N,hN⟩:∃ N:Int,N = if PG.mix ns 1 % 2 = 1 then -(PG.mix ns 2 % 5000) else PG.cell ns 0 % 10 ^ 40:=⟨_,rfl⟩
 have hNb:N.natAbs < 10 ^ 40:=by
  rw [hN]
  split
  . have:(10:Nat) ^ 4 <= 10 ^ 40:=by decide
    omega
  . exact wB _ 40
 obtain ⟨P,hP⟩:∃ P:Int,P = if PG.mix ns 3 % 5 = 1 then PG.cell ns 4 % 10 ^ 30 - 10 ^ 15 else PG.mix ns 3 % 9 - 4:=⟨_,rfl⟩
 have hPb:P.natAbs < 10 ^ 40:=by
  rw [hP]
  split
  . have h1:=wB (PG.cell ns 4) 30
    have h2:(10:Nat) ^ 30 + 10 ^ 15 <= 10 ^ 40:=by decide
    generalize PG.cell ns 4 % 10 ^ 30 = y at *
    omega
  . have:(10:Nat) ^ 4 <= 10 ^ 40:=by decide
    omega
 obtain ⟨z,hz⟩:∃ z:Nat,PG.mix ns 5 % 3 * (PG.mix ns 6 % 14) = (z:Int):=⟨(PG.mix ns 5 % 3 * (PG.mix ns 6 % 14)).toNat,by
  have:0 <= PG.mix ns 5 % 3 * (PG.mix ns 6 % 14):=Int.mul_nonneg (by omega) (by omega)
  omega⟩
 have hz26:z <= 26:=by
  have h1:PG.mix ns 5 % 3 = 0 \/ PG.mix ns 5 % 3 = 1 \/ PG.mix ns 5 % 3 = 2:=by omega
  rcases h1 with h | h | h <;> rw [h] at hz <;> omega
 have hfin:=A9 N P z hNb hPb hz26 (some (.sh (.lst (ns.map .int))))
 have hm:((decide (-(2 ^ 64) < PG.mix ns 5 % 3) && decide (PG.mix ns 5 % 3 < 2 ^ 64)) || (decide (-(2 ^ 64) < PG.mix ns 6 % 14) && decide (PG.mix ns 6 % 14 < 2 ^ 64))) = true:=by
  rw [decide_eq_true (show -(2 ^ 64) < PG.mix ns 5 % 3 by omega),decide_eq_true (show PG.mix ns 5 % 3 < 2 ^ 64 by omega)]
  rfl
 have p40:(0:Int) < 10 ^ 40:=by decide
 have e0:cK 1 (mOp gW (aZ dP (aj (au 0) (aj (mC (.int 0)) aO))) (mOp ui (mC (.int 10)) (mC (.int 40)))) [some (.sh (.lst (ns.map .int))),none,none,none,none,none,none,none,none,none] = .nx [some (.sh (.lst (ns.map .int))),some (.sh (.int (PG.cell ns 0 % 10 ^ 40))),none,none,none,none,none,none,none,none]:=by
  simp -implicitDefEqProofs [nu]
 have e1:b7 (aQ (mOp gEq (mOp gW (aZ cy (aj (au 0) (aj (mC (.int 1)) aO))) (mC (.int 2))) (mC (.int 1)))) (cK 1 (mUn p5 (mOp gW (aZ cy (aj (au 0) (aj (mC (.int 2)) aO))) (mC (.int 5000))))) bc [some (.sh (.lst (ns.map .int))),some (.sh (.int (PG.cell ns 0 % 10 ^ 40))),none,none,none,none,none,none,none,none] = .nx [some (.sh (.lst (ns.map .int))),some (.sh (.int N)),none,none,none,none,none,none,none,none]:=by
  rw [hN]
  by_cases h:PG.mix ns 1 % 2 = 1 <;> simp -implicitDefEqProofs [lU,h]
 have e2:cK 2 (mOp pI (mOp gW (aZ cy (aj (au 0) (aj (mC (.int 3)) aO))) (mC (.int 9))) (mC (.int 4))) [some (.sh (.lst (ns.map .int))),some (.sh (.int N)),none,none,none,none,none,none,none,none] = .nx [some (.sh (.lst (ns.map .int))),some (.sh (.int N)),some (.sh (.int (PG.mix ns 3 % 9 - 4))),none,none,none,none,none,none,none]:=by
  simp -implicitDefEqProofs [lU]
 have e3:b7 (aQ (mOp gEq (mOp gW (aZ cy (aj (au 0) (aj (mC (.int 3)) aO))) (mC (.int 5))) (mC (.int 1)))) (cK 2 (mOp pI (mOp gW (aZ dP (aj (au 0) (aj (mC (.int 4)) aO))) (mOp ui (mC (.int 10)) (mC (.int 30)))) (mOp ui (mC (.int 10)) (mC (.int 15))))) bc [some (.sh (.lst (ns.map .int))),some (.sh (.int N)),some (.sh (.int (PG.mix ns 3 % 9 - 4))),none,none,none,none,none,none,none] = .nx [some (.sh (.lst (ns.map .int))),some (.sh (.int N)),some (.sh (.int P)),none,none,none,none,none,none,none]:=by
  rw [hP]
  by_cases h:PG.mix ns 3 % 5 = 1 <;> simp -implicitDefEqProofs [lU,nu,h]
 have e4:cK 3 (mOp qH (mOp gW (aZ cy (aj (au 0) (aj (mC (.int 5)) aO))) (mC (.int 3))) (mOp gW (aZ cy (aj (au 0) (aj (mC (.int 6)) aO))) (mC (.int 14)))) [some (.sh (.lst (ns.map .int))),some (.sh (.int N)),some (.sh (.int P)),none,none,none,none,none,none,none] = .nx [some (.sh (.lst (ns.map .int))),some (.sh (.int N)),some (.sh (.int P)),some (.sh (.int (z:Int))),none,none,none,none,none,none]:=by
  have hg:qH (.int (PG.mix ns 5 % 3)) (.int (PG.mix ns 6 % 14)) = some (.sh (.int (z:Int))):=by
   rw [Aj,if_pos hm,hz]
  simp -implicitDefEqProofs [lU,hg,-Aj]
 simp -implicitDefEqProofs only [qo,Ad,tW,nU,List.map_cons,List.map_nil,List.length_cons,List.length_nil,List.replicate,List.cons_append,List.nil_append,jJ,e0,fc,wG,e1,w6,e2,wQ,e3,wL,e4]
 exact hfin
end L2.plainglass_k19_numbers_told
namespace L2.plainglass_k19_numbers_told
open PySem PySem.Spec PyProof.Rows L2.E L2.P
def top (i:Nat):Stmt:=PySem.Challenge.pw_plainglass_k19_numbers_told.main.body.getD i (.Pass ⟨0,0,0,0⟩)
abbrev gK:Stmt:=top 26
theorem um:aS ["byte"] ["byte"] (ao gK):=⟨rfl,rfl,rfl,by decide +kernel,rfl,by decide +kernel,by decide +kernel⟩
abbrev fH:Stmt:=top 27
theorem rV:aS ["byte"] ["byte"] (ao fH):=⟨rfl,rfl,rfl,by decide +kernel,rfl,by decide +kernel,by decide +kernel⟩
abbrev fS:Stmt:=top 28
theorem sM:aS ["byte"] ["byte"] (ao fS):=⟨rfl,rfl,rfl,by decide +kernel,rfl,by decide +kernel,by decide +kernel⟩
abbrev fX:Stmt:=top 29
theorem sd:aS ["byte"] ["byte"] (ao fX):=⟨rfl,rfl,rfl,by decide +kernel,rfl,by decide +kernel,by decide +kernel⟩
abbrev d6:Stmt:=top 30
theorem o3:aS ["byte"] ["byte"] (ao d6):=⟨rfl,rfl,rfl,by decide +kernel,rfl,by decide +kernel,by decide +kernel⟩
abbrev kv:Stmt:=top 32
theorem uX:aS ["row","tree","i","node"] ["row","tree","i"] (ao kv):=⟨rfl,rfl,rfl,by decide +kernel,rfl,by decide +kernel,by decide +kernel⟩
abbrev kj:Stmt:=top 33
theorem lr:aS ["signs","base_end","base","point","fraction"] ["signs"] (ao kj):=⟨rfl,rfl,rfl,by decide +kernel,rfl,by decide +kernel,by decide +kernel⟩
abbrev gM:Stmt:=top 34
theorem lA:aS ["signs","sought","at"] ["signs","sought"] (ao gM):=⟨rfl,rfl,rfl,by decide +kernel,rfl,by decide +kernel,by decide +kernel⟩
abbrev i9:Stmt:=top 35
theorem xU:aS ["signs"] ["signs"] (ao i9):=⟨rfl,rfl,rfl,by decide +kernel,rfl,by decide +kernel,by decide +kernel⟩
abbrev ic:Stmt:=top 36
theorem kf:aS ["figures","number","figure"] ["figures"] (ao ic):=⟨rfl,rfl,rfl,by decide +kernel,rfl,by decide +kernel,by decide +kernel⟩
abbrev iq:Stmt:=top 37
theorem nk:aS ["number","power"] ["number","power"] (ao iq):=⟨rfl,rfl,rfl,by decide +kernel,rfl,by decide +kernel,by decide +kernel⟩
abbrev eL:Stmt:=top 38
theorem lF:aS ["number","power","pair"] ["number","power"] (ao eL):=⟨rfl,rfl,rfl,by decide +kernel,rfl,by decide +kernel,by decide +kernel⟩
abbrev fh:Stmt:=top 39
theorem gw:aS ["number","rest","found"] ["number"] (ao fh):=⟨rfl,rfl,rfl,by decide +kernel,rfl,by decide +kernel,by decide +kernel⟩
abbrev j7:Stmt:=top 42
theorem yi:aS ["byte"] ["byte"] (ao j7):=⟨rfl,rfl,rfl,by decide +kernel,rfl,by decide +kernel,by decide +kernel⟩
abbrev dm:Stmt:=top 43
theorem m8:aS ["byte"] ["byte"] (ao dm):=⟨rfl,rfl,rfl,by decide +kernel,rfl,by decide +kernel,by decide +kernel⟩
abbrev dA:Stmt:=top 44
theorem nA:aS ["byte"] ["byte"] (ao dA):=⟨rfl,rfl,rfl,by decide +kernel,rfl,by decide +kernel,by decide +kernel⟩
abbrev jf:Stmt:=top 50
theorem xy:aS ["item","byte"] ["item","byte"] (ao jf):=⟨rfl,rfl,rfl,by decide +kernel,rfl,by decide +kernel,by decide +kernel⟩
abbrev ef:Stmt:=top 51
theorem kP:aS ["byte","rest"] ["byte"] (ao ef):=⟨rfl,rfl,rfl,by decide +kernel,rfl,by decide +kernel,by decide +kernel⟩
abbrev eK:Stmt:=top 52
theorem pP:aS ["byte"] ["byte"] (ao eK):=⟨rfl,rfl,rfl,by decide +kernel,rfl,by decide +kernel,by decide +kernel⟩
abbrev cO:Stmt:=top 53
theorem mG:aS ["item","byte"] ["item","byte"] (ao cO):=⟨rfl,rfl,rfl,by decide +kernel,rfl,by decide +kernel,by decide +kernel⟩
abbrev dv:Stmt:=top 54
theorem jz:aS ["item","byte","worth"] ["item","byte"] (ao dv):=⟨rfl,rfl,rfl,by decide +kernel,rfl,by decide +kernel,by decide +kernel⟩
abbrev cQ:Stmt:=top 55
theorem iT:aS ["byte","spans"] ["byte"] (ao cQ):=⟨rfl,rfl,rfl,by decide +kernel,rfl,by decide +kernel,by decide +kernel⟩
abbrev cS:Stmt:=top 56
theorem mK:aS ["byte"] ["byte"] (ao cS):=⟨rfl,rfl,rfl,by decide +kernel,rfl,by decide +kernel,by decide +kernel⟩
abbrev dQ:Stmt:=top 57
theorem jO:aS ["worth","second"] ["worth"] (ao dQ):=⟨rfl,rfl,rfl,by decide +kernel,rfl,by decide +kernel,by decide +kernel⟩
abbrev fg:Stmt:=top 58
theorem mT:aS ["item","byte","worth"] ["item","byte"] (ao fg):=⟨rfl,rfl,rfl,by decide +kernel,rfl,by decide +kernel,by decide +kernel⟩
abbrev cn:Stmt:=top 59
theorem kX:aS ["item","byte"] ["item","byte"] (ao cn):=⟨rfl,rfl,rfl,by decide +kernel,rfl,by decide +kernel,by decide +kernel⟩
abbrev cW:Stmt:=top 60
theorem iU:aS ["byte","items"] ["byte"] (ao cW):=⟨rfl,rfl,rfl,by decide +kernel,rfl,by decide +kernel,by decide +kernel⟩
abbrev b8:Stmt:=top 61
theorem kB:aS ["byte"] ["byte"] (ao b8):=⟨rfl,rfl,rfl,by decide +kernel,rfl,by decide +kernel,by decide +kernel⟩
abbrev eN:Stmt:=top 62
theorem qj:aS [] [] (ao eN):=⟨rfl,rfl,rfl,by decide +kernel,rfl,by decide +kernel,by decide +kernel⟩
abbrev kn:Stmt:=top 64
theorem p9:aS ["row","walk","at"] ["row"] (ao kn):=⟨rfl,rfl,rfl,by decide +kernel,rfl,by decide +kernel,by decide +kernel⟩
abbrev d7:Stmt:=top 65
theorem kD:aS ["row","at"] ["row"] (ao d7):=⟨rfl,rfl,rfl,by decide +kernel,rfl,by decide +kernel,by decide +kernel⟩
abbrev j8:Stmt:=top 68
theorem gq:aS ["row","tree","unended","at","byte","i"] ["row"] (ao j8):=⟨rfl,rfl,rfl,by decide +kernel,rfl,by decide +kernel,by decide +kernel⟩
abbrev nc:Stmt:=top 69
theorem rY:aS ["row","at","i","kind","end"] ["row","at","i"] (ao nc):=⟨rfl,rfl,rfl,by decide +kernel,rfl,by decide +kernel,by decide +kernel⟩
abbrev fz:Stmt:=top 70
theorem jZ:aS ["row","at","end"] ["row","at"] (ao fz):=⟨rfl,rfl,rfl,by decide +kernel,rfl,by decide +kernel,by decide +kernel⟩
abbrev gH:Stmt:=top 71
theorem lh:aS ["row","at","end"] ["row","at"] (ao gH):=⟨rfl,rfl,rfl,by decide +kernel,rfl,by decide +kernel,by decide +kernel⟩
abbrev ik:Stmt:=top 72
theorem qa:aS ["row","end"] ["row","end"] (ao ik):=⟨rfl,rfl,rfl,by decide +kernel,rfl,by decide +kernel,by decide +kernel⟩
abbrev eP:Stmt:=top 73
theorem la:aS ["tree","i","node"] ["tree","i"] (ao eP):=⟨rfl,rfl,rfl,by decide +kernel,rfl,by decide +kernel,by decide +kernel⟩
abbrev gP:Stmt:=top 75
theorem ud:aS ["_law_script","_law_k"] ["_law_script","_law_k"] (ao gP):=⟨rfl,rfl,rfl,by decide +kernel,rfl,by decide +kernel,by decide +kernel⟩
abbrev ir:Stmt:=top 76
theorem nv:aS ["_law_script","_law_k","_law_number"] ["_law_script","_law_k"] (ao ir):=⟨rfl,rfl,rfl,by decide +kernel,rfl,by decide +kernel,by decide +kernel⟩
abbrev fB:Stmt:=top 77
theorem r9:aS ["_law_found"] ["_law_found"] (ao fB):=⟨rfl,rfl,rfl,by decide +kernel,rfl,by decide +kernel,by decide +kernel⟩
abbrev fb:Stmt:=top 78
theorem qE:aS ["_law_found"] ["_law_found"] (ao fb):=⟨rfl,rfl,rfl,by decide +kernel,rfl,by decide +kernel,by decide +kernel⟩
abbrev eM:Stmt:=top 79
theorem fG:aS ["_law_number","_law_found"] ["_law_number"] (ao eM):=⟨rfl,rfl,rfl,by decide +kernel,rfl,by decide +kernel,by decide +kernel⟩
abbrev pW:Stmt:=top 80
theorem fO:aS ["_law_script","_law_number","_law_power","_law_noughts","_law_handed","_law_k","_law_worth","_law_due_power","_law_due","_law_found"] ["_law_script"] (ao pW):=⟨rfl,rfl,rfl,by decide +kernel,rfl,by decide +kernel,by decide +kernel⟩
abbrev dU:Stmt:=inClass (top 49) 0
theorem og:aS ["self"] ["self"] (ao dU):=⟨rfl,rfl,rfl,by decide +kernel,rfl,by decide +kernel,by decide +kernel⟩
abbrev fF:Stmt:=inClass (top 49) 1
theorem jX:aS ["self","row","at","byte"] ["self","row"] (ao fF):=⟨rfl,rfl,rfl,by decide +kernel,rfl,by decide +kernel,by decide +kernel⟩
abbrev d3:Stmt:=inClass (top 49) 2
theorem iO:aS ["self","byte","item","items"] ["self","byte"] (ao d3):=⟨rfl,rfl,rfl,by decide +kernel,rfl,by decide +kernel,by decide +kernel⟩
abbrev dS:Stmt:=inClass (top 49) 3
theorem ot:aS ["self"] ["self"] (ao dS):=⟨rfl,rfl,rfl,by decide +kernel,rfl,by decide +kernel,by decide +kernel⟩
abbrev dR:Stmt:=inClass (top 49) 5
theorem n4:aS ["self"] ["self"] (ao dR):=⟨rfl,rfl,rfl,by decide +kernel,rfl,by decide +kernel,by decide +kernel⟩
abbrev eZ:Stmt:=inClass (top 3) 0
theorem qA:aS ["self","at"] ["self","at"] (ao eZ):=⟨rfl,rfl,rfl,by decide +kernel,rfl,by decide +kernel,by decide +kernel⟩
set_option genInjectivity false in
set_option genSizeOf false in
structure Adr where
 d0:Addr
 d_is_white:FuncData
 dY:Addr
 d_is_figure:FuncData
 eC:Addr
 d_hex_worth:FuncData
 dX:Addr
 d_word_rest:FuncData
 bw:Addr
 d_short_escape:FuncData
 iV:Addr
 d_exact:FuncData
 iY:Addr
 d_worth:FuncData
 ee:Addr
 d_first_of:FuncData
 d9:Addr
 d_signed:FuncData
 eS:Addr
 d_counted:FuncData
 cB:Addr
 d_lowered:FuncData
 de:Addr
 d_told_number:FuncData
 dE:Addr
 d_figures_of:FuncData
 gD:Addr
 d_tails:FuncData
 cg:Addr
 d_second_of_three:FuncData
 cE:Addr
 d_second_of_four:FuncData
 bW:Addr
 d_behind:FuncData
 bu:Addr
 d_behind_value:FuncData
 dc:Addr
 d_behind_lead:FuncData
 aU:Addr
 d_behind_in_number:FuncData
 bF:Addr
 d_behind_in_text:FuncData
 bG:Addr
 d_behind_character:FuncData
 bY:Addr
 d_behind_backslash:FuncData
 cM:Addr
 d_behind_code_d:FuncData
 dn:Addr
 d_behind_hex:FuncData
 aY:Addr
 d_behind_in_brackets:FuncData
 bS:Addr
 d_behind_row_begin:FuncData
 bI:Addr
 d_behind_fields_begin:FuncData
 dC:Addr
 d_member_rest:FuncData
 jo:Addr
 d_fault:FuncData
 dj:Addr
 d_refuse_fault:FuncData
 iw:Addr
 d_nodes:FuncData
 kq:Addr
 d_leaf:FuncData
 eX:Addr
 d_plain_end:FuncData
 ie:Addr
 d_text_end:FuncData
 i4:Addr
 d_is_name:FuncData
 eJ:Addr
 d_with_member:FuncData
 dP:Addr
 d_law_cell:FuncData
 cy:Addr
 d_law_mix:FuncData
 eY:Addr
 d_law_whole:FuncData
 eD:Addr
 d_law_wholes:FuncData
 dF:Addr
 d_law_figures:FuncData
 qo:Addr
 d_law:FuncData
 cJ:Addr
 d_Walk___init__:FuncData
 eV:Addr
 d_Walk_take:FuncData
 dJ:Addr
 d_Walk_goes_on:FuncData
 cp:Addr
 d_Walk_brackets:FuncData
 cL:Addr
 d_Walk_is_whole:FuncData
 C_GlassError:Addr
 C_Fault:Addr
 f_Fault_init:Addr
 d_Fault_init:FuncData
 C_NoNode:Addr
 C_Walk:Addr
 v_BLANK:Value
 v_QUOTE:Value
 v_PLUS:Value
 v_COMMA:Value
 v_MINUS:Value
 v_POINT:Value
 v_NOUGHT:Value
 v_NINE:Value
 v_COLON:Value
 v_BIG_E:Value
 v_ROW_BEGIN:Value
 v_BACKSLASH:Value
 v_ROW_END:Value
 v_SMALL_E:Value
 v_SMALL_U:Value
 v_FIELDS_BEGIN:Value
 v_FIELDS_END:Value
 v_WHITE:Addr
 v_WORDS:Addr
 v_SHORT_ESCAPES:Addr
 v_TAIL:Addr
 v_MOST_BRACKETS:Value
 v_LOOSE:Addr
 v_UNENDED:Addr
 v_KINDS:Addr
structure Txt (K:PySem.W.Frag) (mg:Str -> Option Value) (t:Adr):Prop where
 F_is_white:Fun K "is_white" "is_white" gK t.d0 t.d_is_white
 gO:mg "is_white" = some (.ref t.d0)
 b_is_white:Binds K t.d_is_white ["byte"] []
 F_is_figure:Fun K "is_figure" "is_figure" fH t.dY t.d_is_figure
 gR:mg "is_figure" = some (.ref t.dY)
 b_is_figure:Binds K t.d_is_figure ["byte"] []
 F_hex_worth:Fun K "hex_worth" "hex_worth" fS t.eC t.d_hex_worth
 iC:mg "hex_worth" = some (.ref t.eC)
 b_hex_worth:Binds K t.d_hex_worth ["byte"] []
 F_word_rest:Fun K "word_rest" "word_rest" fX t.dX t.d_word_rest
 fL:mg "word_rest" = some (.ref t.dX)
 b_word_rest:Binds K t.d_word_rest ["byte"] []
 F_short_escape:Fun K "short_escape" "short_escape" d6 t.bw t.d_short_escape
 b5:mg "short_escape" = some (.ref t.bw)
 b_short_escape:Binds K t.d_short_escape ["byte"] []
 F_exact:Fun K "exact" "exact" kv t.iV t.d_exact
 pz:mg "exact" = some (.ref t.iV)
 b_exact:Binds K t.d_exact ["row","tree","i"] []
 F_worth:Fun K "worth" "worth" kj t.iY t.d_worth
 pE:mg "worth" = some (.ref t.iY)
 b_worth:Binds K t.d_worth ["signs"] []
 F_first_of:Fun K "first_of" "first_of" gM t.ee t.d_first_of
 je:mg "first_of" = some (.ref t.ee)
 b_first_of:Binds K t.d_first_of ["signs","sought"] []
 F_signed:Fun K "signed" "signed" i9 t.d9 t.d_signed
 iF:mg "signed" = some (.ref t.d9)
 b_signed:Binds K t.d_signed ["signs"] []
 F_counted:Fun K "counted" "counted" ic t.eS t.d_counted
 i6:mg "counted" = some (.ref t.eS)
 b_counted:Binds K t.d_counted ["figures"] []
 F_lowered:Fun K "lowered" "lowered" iq t.cB t.d_lowered
 ia:mg "lowered" = some (.ref t.cB)
 b_lowered:Binds K t.d_lowered ["number","power"] []
 F_told_number:Fun K "told_number" "told_number" eL t.de t.d_told_number
 gn:mg "told_number" = some (.ref t.de)
 b_told_number:Binds K t.d_told_number ["number","power"] []
 F_figures_of:Fun K "figures_of" "figures_of" fh t.dE t.d_figures_of
 gd:mg "figures_of" = some (.ref t.dE)
 b_figures_of:Binds K t.d_figures_of ["number"] []
 F_tails:Fun K "tails" "tails" j7 t.gD t.d_tails
 jr:mg "tails" = some (.ref t.gD)
 b_tails:Binds K t.d_tails ["byte"] []
 F_second_of_three:Fun K "second_of_three" "second_of_three" dm t.cg t.d_second_of_three
 eB:mg "second_of_three" = some (.ref t.cg)
 b_second_of_three:Binds K t.d_second_of_three ["byte"] []
 F_second_of_four:Fun K "second_of_four" "second_of_four" dA t.cE t.d_second_of_four
 eR:mg "second_of_four" = some (.ref t.cE)
 b_second_of_four:Binds K t.d_second_of_four ["byte"] []
 F_behind:Fun K "behind" "behind" jf t.bW t.d_behind
 ck:mg "behind" = some (.ref t.bW)
 b_behind:Binds K t.d_behind ["item","byte"] []
 F_behind_value:Fun K "behind_value" "behind_value" ef t.bu t.d_behind_value
 b6:mg "behind_value" = some (.ref t.bu)
 b_behind_value:Binds K t.d_behind_value ["byte"] []
 F_behind_lead:Fun K "behind_lead" "behind_lead" eK t.dc t.d_behind_lead
 fm:mg "behind_lead" = some (.ref t.dc)
 b_behind_lead:Binds K t.d_behind_lead ["byte"] []
 F_behind_in_number:Fun K "behind_in_number" "behind_in_number" cO t.aU t.d_behind_in_number
 br:mg "behind_in_number" = some (.ref t.aU)
 b_behind_in_number:Binds K t.d_behind_in_number ["item","byte"] []
 F_behind_in_text:Fun K "behind_in_text" "behind_in_text" dv t.bF t.d_behind_in_text
 cC:mg "behind_in_text" = some (.ref t.bF)
 b_behind_in_text:Binds K t.d_behind_in_text ["item","byte"] []
 F_behind_character:Fun K "behind_character" "behind_character" cQ t.bG t.d_behind_character
 cU:mg "behind_character" = some (.ref t.bG)
 b_behind_character:Binds K t.d_behind_character ["byte"] []
 F_behind_backslash:Fun K "behind_backslash" "behind_backslash" cS t.bY t.d_behind_backslash
 d8:mg "behind_backslash" = some (.ref t.bY)
 b_behind_backslash:Binds K t.d_behind_backslash ["byte"] []
 F_behind_code_d:Fun K "behind_code_d" "behind_code_d" dQ t.cM t.d_behind_code_d
 fk:mg "behind_code_d" = some (.ref t.cM)
 b_behind_code_d:Binds K t.d_behind_code_d ["worth"] []
 F_behind_hex:Fun K "behind_hex" "behind_hex" fg t.dn t.d_behind_hex
 fe:mg "behind_hex" = some (.ref t.dn)
 b_behind_hex:Binds K t.d_behind_hex ["item","byte"] []
 F_behind_in_brackets:Fun K "behind_in_brackets" "behind_in_brackets" cn t.aY t.d_behind_in_brackets
 bK:mg "behind_in_brackets" = some (.ref t.aY)
 b_behind_in_brackets:Binds K t.d_behind_in_brackets ["item","byte"] []
 F_behind_row_begin:Fun K "behind_row_begin" "behind_row_begin" cW t.bS t.d_behind_row_begin
 dw:mg "behind_row_begin" = some (.ref t.bS)
 b_behind_row_begin:Binds K t.d_behind_row_begin ["byte"] []
 F_behind_fields_begin:Fun K "behind_fields_begin" "behind_fields_begin" b8 t.bI t.d_behind_fields_begin
 dr:mg "behind_fields_begin" = some (.ref t.bI)
 b_behind_fields_begin:Binds K t.d_behind_fields_begin ["byte"] []
 F_member_rest:Fun K "member_rest" "member_rest" eN t.dC t.d_member_rest
 gp:mg "member_rest" = some (.ref t.dC)
 b_member_rest:Binds K t.d_member_rest [] []
 F_fault:Fun K "fault" "fault" kn t.jo t.d_fault
 pB:mg "fault" = some (.ref t.jo)
 b_fault:Binds K t.d_fault ["row"] []
 F_refuse_fault:Fun K "refuse_fault" "refuse_fault" d7 t.dj t.d_refuse_fault
 fM:mg "refuse_fault" = some (.ref t.dj)
 b_refuse_fault:Binds K t.d_refuse_fault ["row"] []
 F_nodes:Fun K "nodes" "nodes" j8 t.iw t.d_nodes
 pG:mg "nodes" = some (.ref t.iw)
 b_nodes:Binds K t.d_nodes ["row"] []
 F_leaf:Fun K "leaf" "leaf" nc t.kq t.d_leaf
 sV:mg "leaf" = some (.ref t.kq)
 b_leaf:Binds K t.d_leaf ["row","at","i"] []
 F_plain_end:Fun K "plain_end" "plain_end" fz t.eX t.d_plain_end
 js:mg "plain_end" = some (.ref t.eX)
 b_plain_end:Binds K t.d_plain_end ["row","at"] []
 F_text_end:Fun K "text_end" "text_end" gH t.ie t.d_text_end
 nj:mg "text_end" = some (.ref t.ie)
 b_text_end:Binds K t.d_text_end ["row","at"] []
 F_is_name:Fun K "is_name" "is_name" ik t.i4 t.d_is_name
 ou:mg "is_name" = some (.ref t.i4)
 b_is_name:Binds K t.d_is_name ["row","end"] []
 F_with_member:Fun K "with_member" "with_member" eP t.eJ t.d_with_member
 iy:mg "with_member" = some (.ref t.eJ)
 b_with_member:Binds K t.d_with_member ["tree","i"] []
 F_law_cell:Fun K "_law_cell" "_law_cell" gP t.dP t.d_law_cell
 il:mg "_law_cell" = some (.ref t.dP)
 b_law_cell:Binds K t.d_law_cell ["_law_script","_law_k"] []
 F_law_mix:Fun K "_law_mix" "_law_mix" ir t.cy t.d_law_mix
 gb:mg "_law_mix" = some (.ref t.cy)
 b_law_mix:Binds K t.d_law_mix ["_law_script","_law_k"] []
 F_law_whole:Fun K "_law_whole" "_law_whole" fB t.eY t.d_law_whole
 jl:mg "_law_whole" = some (.ref t.eY)
 b_law_whole:Binds K t.d_law_whole ["_law_found"] []
 F_law_wholes:Fun K "_law_wholes" "_law_wholes" fb t.eD t.d_law_wholes
 iZ:mg "_law_wholes" = some (.ref t.eD)
 b_law_wholes:Binds K t.d_law_wholes ["_law_found"] []
 F_law_figures:Fun K "_law_figures" "_law_figures" eM t.dF t.d_law_figures
 dg:mg "_law_figures" = some (.ref t.dF)
 b_law_figures:Binds K t.d_law_figures ["_law_number"] []
 F_law:Fun K "law" "law" pW t.qo t.d_law
 Ad:mg "law" = some (.ref t.qo)
 b_law:Binds K t.d_law ["_law_script"] []
 F_Walk___init__:Fun K "__init__" "Walk.__init__" dU t.cJ t.d_Walk___init__
 b_Walk___init__:Binds K t.d_Walk___init__ ["self"] []
 F_Walk_take:Fun K "take" "Walk.take" fF t.eV t.d_Walk_take
 h_Walk_take:Meth K t.C_Walk "take" t.eV
 b_Walk_take:Binds K t.d_Walk_take ["self","row"] []
 F_Walk_goes_on:Fun K "goes_on" "Walk.goes_on" d3 t.dJ t.d_Walk_goes_on
 h_Walk_goes_on:Meth K t.C_Walk "goes_on" t.dJ
 b_Walk_goes_on:Binds K t.d_Walk_goes_on ["self","byte"] []
 F_Walk_brackets:Fun K "brackets" "Walk.brackets" dS t.cp t.d_Walk_brackets
 h_Walk_brackets:Meth K t.C_Walk "brackets" t.cp
 b_Walk_brackets:Binds K t.d_Walk_brackets ["self"] []
 F_Walk_is_whole:Fun K "is_whole" "Walk.is_whole" dR t.cL t.d_Walk_is_whole
 h_Walk_is_whole:Meth K t.C_Walk "is_whole" t.cL
 b_Walk_is_whole:Binds K t.d_Walk_is_whole ["self"] []
 n_len:mg "len" = none
 n_abs:mg "abs" = none
 n_isinstance:mg "isinstance" = none
 n_tuple:mg "tuple" = none
 n_range:mg "range" = none
 n_int:mg "int" = none
 n_bool:mg "bool" = none
 n_list:mg "list" = none
 n_all:mg "all" = none
 n_enumerate:mg "enumerate" = none
 n_ValueError:mg "ValueError" = none
 m_Walk:mg "Walk" = some (.ref t.C_Walk)
 c_Walk:Cls K t.C_Walk
 k_Walk:Mk K t.C_Walk t.cJ
 na_Walk_coming:jF K t.C_Walk "coming"
 m_GlassError:mg "GlassError" = some (.ref t.C_GlassError)
 e_GlassError:uN K t.C_GlassError [.type "ValueError",.type "Exception",.type "BaseException",.type "object"]
 x_GlassError:PySem.W.excIn K t.C_GlassError [.type "ValueError",.type "Exception",.type "BaseException",.type "object"] "ValueError.__new__" = true
 m_Fault:mg "Fault" = some (.ref t.C_Fault)
 e_Fault:uN K t.C_Fault [.ref t.C_GlassError,.type "ValueError",.type "Exception",.type "BaseException",.type "object"]
 F_Fault_init:Fun K "__init__" "Fault.__init__" eZ t.f_Fault_init t.d_Fault_init
 b_Fault_init:Binds K t.d_Fault_init ["self","at"] []
 k_Fault:XMk K mg "Fault" t.C_Fault t.f_Fault_init [.ref t.C_GlassError,.type "ValueError",.type "Exception",.type "BaseException",.type "object"] "at"
 m_NoNode:mg "NoNode" = some (.ref t.C_NoNode)
 e_NoNode:uN K t.C_NoNode [.ref t.C_GlassError,.type "ValueError",.type "Exception",.type "BaseException",.type "object"]
 x_NoNode:PySem.W.excIn K t.C_NoNode [.type "ValueError",.type "Exception",.type "BaseException",.type "object"] "ValueError.__new__" = true
 m_BLANK:mg "BLANK" = some t.v_BLANK
 r_BLANK:RelV (.int 32) t.v_BLANK
 m_QUOTE:mg "QUOTE" = some t.v_QUOTE
 r_QUOTE:RelV (.int 34) t.v_QUOTE
 m_PLUS:mg "PLUS" = some t.v_PLUS
 r_PLUS:RelV (.int 43) t.v_PLUS
 m_COMMA:mg "COMMA" = some t.v_COMMA
 r_COMMA:RelV (.int 44) t.v_COMMA
 m_MINUS:mg "MINUS" = some t.v_MINUS
 r_MINUS:RelV (.int 45) t.v_MINUS
 m_POINT:mg "POINT" = some t.v_POINT
 r_POINT:RelV (.int 46) t.v_POINT
 m_NOUGHT:mg "NOUGHT" = some t.v_NOUGHT
 r_NOUGHT:RelV (.int 48) t.v_NOUGHT
 m_NINE:mg "NINE" = some t.v_NINE
 r_NINE:RelV (.int 57) t.v_NINE
 m_COLON:mg "COLON" = some t.v_COLON
 r_COLON:RelV (.int 58) t.v_COLON
 m_BIG_E:mg "BIG_E" = some t.v_BIG_E
 r_BIG_E:RelV (.int 69) t.v_BIG_E
 m_ROW_BEGIN:mg "ROW_BEGIN" = some t.v_ROW_BEGIN
 r_ROW_BEGIN:RelV (.int 91) t.v_ROW_BEGIN
 m_BACKSLASH:mg "BACKSLASH" = some t.v_BACKSLASH
 r_BACKSLASH:RelV (.int 92) t.v_BACKSLASH
 m_ROW_END:mg "ROW_END" = some t.v_ROW_END
 r_ROW_END:RelV (.int 93) t.v_ROW_END
 m_SMALL_E:mg "SMALL_E" = some t.v_SMALL_E
 r_SMALL_E:RelV (.int 101) t.v_SMALL_E
 m_SMALL_U:mg "SMALL_U" = some t.v_SMALL_U
 r_SMALL_U:RelV (.int 117) t.v_SMALL_U
 m_FIELDS_BEGIN:mg "FIELDS_BEGIN" = some t.v_FIELDS_BEGIN
 r_FIELDS_BEGIN:RelV (.int 123) t.v_FIELDS_BEGIN
 m_FIELDS_END:mg "FIELDS_END" = some t.v_FIELDS_END
 r_FIELDS_END:RelV (.int 125) t.v_FIELDS_END
 m_WHITE:mg "WHITE" = some (.ref t.v_WHITE)
 r_WHITE:RelV (.ref t.v_WHITE) (.ref t.v_WHITE)
 q_WHITE:∀ H,SqT K H t.v_WHITE [.int 9,.int 10,.int 13,.int 32]
 m_WORDS:mg "WORDS" = some (.ref t.v_WORDS)
 r_WORDS:RelV (.ref t.v_WORDS) (.ref t.v_WORDS)
 q_WORDS:DKP K t.v_WORDS [(110,.tup ([117,108,108].map .int)),(116,.tup ([114,117,101].map .int)),(102,.tup ([97,108,115,101].map .int))]
 m_SHORT_ESCAPES:mg "SHORT_ESCAPES" = some (.ref t.v_SHORT_ESCAPES)
 r_SHORT_ESCAPES:RelV (.ref t.v_SHORT_ESCAPES) (.ref t.v_SHORT_ESCAPES)
 q_SHORT_ESCAPES:DKP K t.v_SHORT_ESCAPES [(34,.int 34),(92,.int 92),(47,.int 47),(98,.int 8),(102,.int 12),(110,.int 10),(114,.int 13),(116,.int 9)]
 m_TAIL:mg "TAIL" = some (.ref t.v_TAIL)
 r_TAIL:RelV (.ref t.v_TAIL) (.ref t.v_TAIL)
 q_TAIL:∀ H,SqT K H t.v_TAIL [.int 128,.int 191]
 m_MOST_BRACKETS:mg "MOST_BRACKETS" = some t.v_MOST_BRACKETS
 r_MOST_BRACKETS:RelV (.int 64) t.v_MOST_BRACKETS
 m_LOOSE:mg "LOOSE" = some (.ref t.v_LOOSE)
 r_LOOSE:RelV (.ref t.v_LOOSE) (.ref t.v_LOOSE)
 q_LOOSE:∀ H,SqT K H t.v_LOOSE [.str "white",.str "figures",.str "fraction",.str "exponent",.str "sign"]
 m_UNENDED:mg "UNENDED" = some (.ref t.v_UNENDED)
 r_UNENDED:RelV (.ref t.v_UNENDED) (.ref t.v_UNENDED)
 q_UNENDED:∀ H,SqT K H t.v_UNENDED [.str "row",.str "more row",.str "fields",.str "more fields"]
 m_KINDS:mg "KINDS" = some (.ref t.v_KINDS)
 r_KINDS:RelV (.ref t.v_KINDS) (.ref t.v_KINDS)
 q_KINDS:DKP K t.v_KINDS [(34,.str "text"),(91,.str "row"),(102,.str "false"),(110,.str "null"),(116,.str "true"),(123,.str "fields")]
def bX (t:Adr) (c:String):Option Addr:=if c = "GlassError" then some t.C_GlassError else if c = "Fault" then some t.C_Fault else if c = "NoNode" then some t.C_NoNode else if c = "Walk" then some t.C_Walk else none
theorem gQ {K:PySem.W.Frag} {mg:Str -> Option Value} {t:Adr} (T:Txt K mg t):∀ c C,bX t c = some C -> kR c = true -> Cls K C /\ jF K C "coming":=by
 intro c C h1 h2
 unfold bX at h1
 unfold kR at h2
 by_cases e:c = "GlassError"
 . subst e; simp at h2
 rw [if_neg e] at h1
 by_cases e:c = "Fault"
 . subst e; simp at h2
 rw [if_neg e] at h1
 by_cases e:c = "NoNode"
 . subst e; simp at h2
 rw [if_neg e] at h1
 by_cases e:c = "Walk"
 . subst e; simp at h1; subst h1; exact ⟨T.c_Walk,T.na_Walk_coming⟩
 rw [if_neg e] at h1
 cases h1
theorem HV {K:PySem.W.Frag} {mg:Str -> Option Value} {t:Adr} (T:Txt K mg t):∀ c C,bX t c = some C -> (c == "Fault") = true -> vW K C "at":=by
 intro c C h1 h2
 unfold bX at h1
 by_cases e:c = "GlassError"
 . subst e; simp at h2
 rw [if_neg e] at h1
 by_cases e:c = "Fault"
 . subst e; simp at h1; subst h1; exact T.k_Fault.xc
 rw [if_neg e] at h1
 by_cases e:c = "NoNode"
 . subst e; simp at h2
 rw [if_neg e] at h1
 by_cases e:c = "Walk"
 . subst e; simp at h2
 rw [if_neg e] at h1
 cases h1
section
variable {P:Program} {w:World} {K:PySem.W.Frag} {mg:Str -> Option Value} {base:Heap} {t:Adr}
theorem qC (T:Txt K mg t):b0 P w K mg base (CXE P w) 1 t.f_Fault_init t.d_Fault_init ["self","at"] (p6 t.C_Fault "at"):=AJ T.F_Fault_init qA T.k_Fault.xc fun _ _ _ _ _ _=>yC (qv 0) (qv 1)
theorem kF (T:Txt K mg t):∀ n,b0 P w K mg base (CXE P w) (0 + n) t.dF t.d_law_figures ["_law_number"] (spP K (bX t) (dZ n))
 | 0=>CY
 | n + 1=>have ih:=kF T n
   eO T.F_law_figures fG fun cdv A outer s H E hr=>⟨_,(ah (bf (aA jq (qv 0) ax (aP _)) (aq (aB (bj gB (bE (aa ax ak)) (aD ih hr rfl T.dg T.F_law_figures.kp T.b_law_figures .nil aI (aa (rp oF (qv 0)) ak))))) aJ)
    (ah (bb (i:=1) fG.nd rfl (by first | exact Or.inl rfl | exact Or.inr rfl) (bE (aa (bj fN ax (bj ft (qv 0) ax)) ak)))
    (ah (bb (i:=0) fG.nd rfl (by first | exact Or.inl rfl | exact Or.inr rfl) (bj kh (qv 0) ax))
    (ah (gu fZ (aA Ck (qv 0) ax (aP _)) (ah (bb (i:=1) fG.nd rfl (by first | exact Or.inl rfl | exact Or.inr rfl) (bj gB (bE (aa (bj fN ax (bj ft (qv 0) ax)) ak)) (qv 1)))
    (aq (bb (i:=0) fG.nd rfl (by first | exact Or.inl rfl | exact Or.inr rfl) (bj kh (qv 0) ax)))))
    (aq (aB (qv 1))))))),
   (ay (bg (az (av jA af ai)) (aC (av iP (bD (ag ai aw)) (aL (ag (qO oe af) aw)))) aK)
     (ay (bq (bD (ag (av fR ai (av fo af ai)) aw)))
     (ay (bq (av j9 af ai))
     (ay (gy (az (av B3 af ai)) (ay (bq (av iP (bD (ag (av fR ai (av fo af ai)) aw)) af))
     (bq (av j9 af ai))))
     ig))))⟩
theorem lD (T:Txt K mg t):b0 P w K mg base (CXE P w) 3 t.dF t.d_law_figures ["_law_number"] (spP K (bX t) dF):=(kF T 2).mono (by decide)
theorem pO (T:Txt K mg t):b0 P w K mg base (CXE P w) 1 t.cB t.d_lowered ["number","power"] (spP K (bX t) cB):=
 eO T.F_lowered nk fun cdv A outer s H E hr=>⟨_,(ah (bf (aA cf (qv 0) ax (aP _)) (aq (aB (dq (aa ax (aa ax ak))))) aJ)
   (ah (gu fZ (aA cf (bj ft (qv 0) ax) ax (aP _)) (ah (bb (i:=0) nk.nd rfl (by first | exact Or.inl rfl | exact Or.inr rfl) (bj kh (qv 0) ax))
   (aq (lu (i:=1) nk.nd rfl (Or.inl rfl) ax lg))))
   (aq (aB (dq (aa (qv 0) (aa (qv 1) ak))))))),
  (ay (bg (az (av cb af ai)) (aC (dk (ag ai (ag ai aw)))) aK)
    (ay (gy (az (av cb (av fo af ai) ai)) (ay (bq (av j9 af ai))
    (fQ ai)))
    (aC (dk (ag af (ag af aw))))))⟩
theorem jI (T:Txt K mg t):b0 P w K mg base (CXE P w) 1 t.dE t.d_figures_of ["number"] (spP K (bX t) dE):=
 eO T.F_figures_of gw fun cdv A outer s H E hr=>⟨_,(ah (bb (i:=1) gw.nd rfl (by first | exact Or.inl rfl | exact Or.inr rfl) (cG yQ rfl T.n_abs L2.E.boot_abs (aa (qv 0) ak)))
   (ah (bb (i:=2) gw.nd rfl (by first | exact Or.inl rfl | exact Or.inr rfl) (bE (aa (bj fN (aH rfl T.m_NOUGHT T.r_NOUGHT) (bj ft (qv 1) ax)) ak)))
   (ah (bb (i:=1) gw.nd rfl (by first | exact Or.inl rfl | exact Or.inr rfl) (bj kh (qv 1) ax))
   (ah (gu fZ (aA Ck (qv 1) ax (aP _)) (ah (kA (qV PySem.F.plainAttrs_list PySem.F.slot_list_append PySem.F.type_list_append ib (qv 2) (aa (bj fN (aH rfl T.m_NOUGHT T.r_NOUGHT) (bj ft (qv 1) ax)) ak)))
   (aq (bb (i:=1) gw.nd rfl (by first | exact Or.inl rfl | exact Or.inr rfl) (bj kh (qv 1) ax)))))
   (ah (bf (aA jq (qv 0) ax (aP _)) (aq (kA (qV PySem.F.plainAttrs_list PySem.F.slot_list_append PySem.F.type_list_append ib (qv 2) (aa (aH rfl T.m_MINUS T.r_MINUS) ak)))) aJ)
   (aq (aB (zW (qv 2) (rp oF ax))))))))),
  (ay (bq (fE Df af))
    (ay (bq (bD (ag (av fR ai (av fo af ai)) aw)))
    (ay (bq (av j9 af ai))
    (ay (gy (az (av B3 af ai)) (ay (lS (av fR ai (av fo af ai)))
    (bq (av j9 af ai))))
    (ay (bg (az (av jA af ai)) (lS ai) aK)
    (aC (yH af (qO oe ai))))))))⟩
theorem qe (T:Txt K mg t):b0 P w K mg base (CXE P w) 2 t.de t.d_told_number ["number","power"] (spP K (bX t) de):=
 eO T.F_told_number lF fun cdv A outer s H E hr=>⟨_,(ah (bb (i:=2) lF.nd rfl (by first | exact Or.inl rfl | exact Or.inr rfl) (aD ((pO T).mono (by decide)) hr rfl T.ia T.F_lowered.kp T.b_lowered .nil aI (aa (qv 0) (aa (qv 1) ak))))
   (ah (bf (aA cf (dB fP (qv 2) ax (fun _ _=>rfl)) ax (aP _)) (aq (aB (aD ((jI T).mono (by decide)) hr rfl T.gd T.F_figures_of.kp T.b_figures_of .nil aI (aa (dB fP (qv 2) ax (fun _ _=>rfl)) ak)))) aJ)
   (aq (aB (bj gB (bj gB (aD ((jI T).mono (by decide)) hr rfl T.gd T.F_figures_of.kp T.b_figures_of .nil aI (aa (dB fP (qv 2) ax (fun _ _=>rfl)) ak)) (bE (aa (aH rfl T.m_SMALL_E T.r_SMALL_E) ak))) (aD ((jI T).mono (by decide)) hr rfl T.gd T.F_figures_of.kp T.b_figures_of .nil aI (aa (dB fP (qv 2) ax (fun _ _=>rfl)) ak))))))),
  (ay (bq (aL (ag af (ag af aw))))
    (ay (bg (az (av cb (av fA af ai) ai)) (aC (aL (ag (av fA af ai) aw))) aK)
    (aC (av iP (av iP (aL (ag (av fA af ai) aw)) (bD (ag ai aw))) (aL (ag (av fA af ai) aw))))))⟩
theorem lb (T:Txt K mg t):b0 P w K mg base (CXE P w) 1 t.dP t.d_law_cell ["_law_script","_law_k"] (spP K (bX t) dP):=
 eO T.F_law_cell ud fun cdv A outer s H E hr=>⟨_,(ah (bf (dW (qv 0) (fun _=>rfl)) (aq (aB (dB eh (qv 0) (bj ft (qv 1) (cG b9 rfl T.n_len L2.E.boot_len (aa (qv 0) ak))) (fun _ _=>rfl)))) aJ)
   (aq (aB ax))),
  (ay (bg (eH af) (aC (av fq af (av fo af (fE hR af)))) aK)
    (aC ai))⟩
theorem oU (T:Txt K mg t):b0 P w K mg base (CXE P w) 1 t.ee t.d_first_of ["signs","sought"] (spP K (bX t) ee):=
 eO T.F_first_of lA fun cdv A outer s H E hr=>⟨_,(ah (bb (i:=2) lA.nd rfl (by first | exact Or.inl rfl | exact Or.inr rfl) ax)
   (ah (gu fZ (mO (lQ (aA jq (qv 2) (cG b9 rfl T.n_len L2.E.boot_len (aa (qv 0) ak)) (aP _)) (kb (aA om (dB eh (qv 0) (qv 2) (fun _ _=>rfl)) (qv 1) rfl)))) (aq (lu (i:=2) lA.nd rfl (Or.inl rfl) ax lg)))
   (aq (aB (qv 2))))),
  (ay (bq ai)
    (ay (gy (lJ (az (av jA af (fE hR af))) (az (av (qm hr.units) (av fq af af) af))) (fQ ai))
    ig))⟩
theorem m7 (T:Txt K mg t):b0 P w K mg base (CXE P w) 1 t.eS t.d_counted ["figures"] (spP K (bX t) eS):=
 eO T.F_counted kf fun cdv A outer s H E hr=>⟨_,(ah (bb (i:=1) kf.nd rfl (by first | exact Or.inl rfl | exact Or.inr rfl) ax)
   (ah (va fZ rfl (pH (qv 0)) (pk (i:=2) kf.nd rfl (by first | exact Or.inl rfl | exact Or.inr rfl)) (aq (bb (i:=1) kf.nd rfl (by first | exact Or.inl rfl | exact Or.inr rfl) (bj ng (bj fN (bj oC ax (qv 1)) (qv 2)) (aH rfl T.m_NOUGHT T.r_NOUGHT)))))
   (aq (aB (qv 1))))),
  (ay (bq ai)
    (ay (AB af (bq (av nz (av fR (av oo ai af) af) ai)))
    ig))⟩
theorem rf (T:Txt K mg t):b0 P w K mg base (CXE P w) 2 t.d9 t.d_signed ["signs"] (spP K (bX t) d9):=
 eO T.F_signed xU fun cdv A outer s H E hr=>⟨_,(ah (bf (mO (lQ (dW (qv 0) (fun _=>rfl)) (kb (aA cf (dB eh (qv 0) ax (fun _ _=>rfl)) (aH rfl T.m_MINUS T.r_MINUS) (aP _))))) (aq (aB (rp oF (aD ((m7 T).mono (by decide)) hr rfl T.i6 T.F_counted.kp T.b_counted .nil aI (aa (i8 ku (qv 0) (jB ax) lY) ak))))) aJ)
   (ah (bf (mO (lQ (dW (qv 0) (fun _=>rfl)) (kb (aA cf (dB eh (qv 0) ax (fun _ _=>rfl)) (aH rfl T.m_PLUS T.r_PLUS) (aP _))))) (aq (aB (aD ((m7 T).mono (by decide)) hr rfl T.i6 T.F_counted.kp T.b_counted .nil aI (aa (i8 ku (qv 0) (jB ax) lY) ak)))) aJ)
   (aq (aB (aD ((m7 T).mono (by decide)) hr rfl T.i6 T.F_counted.kp T.b_counted .nil aI (aa (qv 0) ak)))))),
  (ay (bg (lJ (eH af) (az (av cb (av fq af ai) ai))) (aC (qO oe (aL (ag (ny af (jw ai) lV) aw)))) aK)
    (ay (bg (lJ (eH af) (az (av cb (av fq af ai) ai))) (aC (aL (ag (ny af (jw ai) lV) aw))) aK)
    (aC (aL (ag af aw)))))⟩
theorem yS (T:Txt K mg t):b0 P w K mg base (CXE P w) 3 t.iY t.d_worth ["signs"] (spP K (bX t) iY):=
 eO T.F_worth lr fun cdv A outer s H E hr=>⟨_,(ah (bb (i:=1) lr.nd rfl (by first | exact Or.inl rfl | exact Or.inr rfl) (aD ((oU T).mono (by decide)) hr rfl T.je T.F_first_of.kp T.b_first_of .nil aI (aa (qv 0) (aa (dq (aa (aH rfl T.m_SMALL_E T.r_SMALL_E) (aa (aH rfl T.m_BIG_E T.r_BIG_E) ak))) ak))))
   (ah (bb (i:=2) lr.nd rfl (by first | exact Or.inl rfl | exact Or.inr rfl) (i8 ku (qv 0) lY (jB (qv 1))))
   (ah (bb (i:=3) lr.nd rfl (by first | exact Or.inl rfl | exact Or.inr rfl) (aD ((oU T).mono (by decide)) hr rfl T.je T.F_first_of.kp T.b_first_of .nil aI (aa (qv 2) (aa (dq (aa (aH rfl T.m_POINT T.r_POINT) ak)) ak))))
   (ah (bb (i:=4) lr.nd rfl (by first | exact Or.inl rfl | exact Or.inr rfl) (i8 ku (qv 2) (jB (bj fN (qv 3) ax)) lY))
   (aq (aB (aD ((pO T).mono (by decide)) hr rfl T.ia T.F_lowered.kp T.b_lowered .nil aI (aa (aD ((rf T).mono (by decide)) hr rfl T.iF T.F_signed.kp T.b_signed .nil aI (aa (bj gB (i8 ku (qv 2) lY (jB (qv 3))) (qv 4)) ak)) (aa (bj ng (aD ((rf T).mono (by decide)) hr rfl T.iF T.F_signed.kp T.b_signed .nil aI (aa (i8 ku (qv 0) (jB (bj fN (qv 1) ax)) lY) ak)) (cG b9 rfl T.n_len L2.E.boot_len (aa (qv 4) ak))) ak))))))))),
  (ay (bq (aL (ag af (ag (dk (ag ai (ag ai aw))) aw))))
    (ay (bq (ny af lV (jw af)))
    (ay (lT (i:=2) (bq (aL (ag af (ag (dk (ag ai aw)) aw)))))
    (ay (bq (ny af (jw (av fR af ai)) lV))
    (aC (aL (ag (aL (ag (av iP (ny af lV (jw af)) af) aw)) (ag (av nz (aL (ag (ny af (jw (av fR af ai)) lV) aw)) (fE hR af)) aw))))))))⟩
theorem yM (T:Txt K mg t):b0 P w K mg base (CXE P w) 4 t.iV t.d_exact ["row","tree","i"] (spP K (bX t) iV):=
 eO T.F_exact uX fun cdv A outer s H E hr=>⟨_,(ah (bb (i:=3) uX.nd rfl (by first | exact Or.inl rfl | exact Or.inr rfl) (dB eh (qv 1) (qv 2) (fun _ _=>rfl)))
   (ah (bf (aA qZ (dB fP (qv 3) ax (fun _ _=>rfl)) aN (aP _)) (aq (zK aI hr.hd PySem.F.excBase_ValueError rfl T.m_NoNode T.x_NoNode (aa aN ak))) aJ)
   (aq (aB (aD ((yS T).mono (by decide)) hr rfl T.pE T.F_worth.kp T.b_worth .nil aI (aa (i8 ku (qv 0) (jB (dB fP (qv 3) ax (fun _ _=>rfl))) (jB (dB fP (qv 3) ax (fun _ _=>rfl)))) ak)))))),
  (ay (bq (av fq af af))
    (ay (bg (az (av qL (av fA af ai) aM)) (y9 rfl (ag aM aw)) aK)
    (aC (aL (ag (ny af (jw (av fA af ai)) (jw (av fA af ai))) aw)))))⟩
theorem hZ (T:Txt K mg t):b0 P w K mg base (CXE P w) 2 t.cy t.d_law_mix ["_law_script","_law_k"] (spP K (bX t) cy):=
 eO T.F_law_mix nv fun cdv A outer s H E hr=>⟨_,(ah (bb (i:=2) nv.nd rfl (by first | exact Or.inl rfl | exact Or.inr rfl) (bj ft (bj fN (aD ((lb T).mono (by decide)) hr rfl T.il T.F_law_cell.kp T.b_law_cell .nil aI (aa (qv 0) (aa (qv 1) ak))) (bj oC ax (bj fN (qv 1) ax))) ax))
   (ah (bb (i:=2) nv.nd rfl (by first | exact Or.inl rfl | exact Or.inr rfl) (bj ft (bj oC (qv 2) ax) ax))
   (aq (aB (bj ft (bj fN (bj oC (bj kh (qv 2) ax) ax) (qv 2)) ax))))),
  (ay (bq (av fo (av fR (aL (ag af (ag af aw))) (av oo ai (av fR af ai))) ai))
    (ay (bq (av fo (av oo af ai) ai))
    (aC (av fo (av fR (av oo (av j9 af ai) ai) af) ai))))⟩
theorem tq (T:Txt K mg t):b0 P w K mg base (CXE P w) 1 t.eY t.d_law_whole ["_law_found"] (spP K (bX t) eY):=
 eO T.F_law_whole r9 fun cdv A outer s H E hr=>⟨_,(aq (aB (vL (cG nY rfl T.n_isinstance L2.E.boot_isinstance (aa (qv 0) (aa (pD (v:=.ty _) rfl T.n_int L2.E.boot_int rfl) ak))) (vJ (EA (cG nY rfl T.n_isinstance L2.E.boot_isinstance (aa (qv 0) (aa (pD (v:=.ty _) rfl T.n_bool L2.E.boot_bool rfl) ak)))))))),
  (aC (vQ (sJ af) (Dc (sJ af))))⟩
theorem qJ (T:Txt K mg t):b0 P w K mg base (CXE P w) 2 t.eD t.d_law_wholes ["_law_found"] (spP K (bX t) eD):=
 eO T.F_law_wholes qE fun cdv A outer s H E hr=>⟨_,(aq (aB (vL (cG nY rfl T.n_isinstance L2.E.boot_isinstance (aa (qv 0) (aa (pD (v:=.ty _) rfl T.n_list L2.E.boot_list rfl) ak))) (vJ (cG qR rfl T.n_all L2.E.boot_all (aa (pA (M:=[]) (ι:=[]) (x:="_law_one") ⟨rfl,rfl,rfl,rfl,rfl,rfl,rfl,rfl,rfl,rfl,rfl,by decide +kernel⟩ rfl (pH (qv 0)) fun _ _ _ _=>(aD ((tq T).mono (by decide)) hr rfl T.jl T.F_law_whole.kp T.b_law_whole .nil yZ (aa (qv 0) ak))) ak)))))),
  (aC (vQ (sJ af) (fE (zm hr.hd) (uR (by decide) af (aL (ag af aw))))))⟩
theorem oH (T:Txt K mg t):b0 P w K mg base (CXE P w) 1 t.cJ t.d_Walk___init__ ["self"] (spI K (bX t) cJ):=
 uz T.F_Walk___init__ og fun cdv A outer s H E hr=>⟨_,(aq (Ek (qv 0) (bE (aa aN (aa aN (aa aN ak)))))),
  (AF iS (CD (bD (ag aM (ag aM (ag aM aw))))) (gQ T))⟩
theorem tF (T:Txt K mg t):b0 P w K mg base (CXE P w) 1 t.dX t.d_word_rest ["byte"] (spP K (bX t) dX):=
 eO T.F_word_rest sd fun cdv A outer s H E hr=>⟨_,(aq (aB (uE (aH rfl T.m_WORDS T.r_WORDS) (qv 0)))),
  (aC (uF T.q_WORDS af))⟩
theorem ka (T:Txt K mg t):b0 P w K mg base (CXE P w) 1 t.dY t.d_is_figure ["byte"] (spP K (bX t) dY):=
 eO T.F_is_figure rV fun cdv A outer s H E hr=>⟨_,(aq (aB (Ak jN jN (aH rfl T.m_NOUGHT T.r_NOUGHT) (qv 0) (aH rfl T.m_NINE T.r_NINE)))),
  (aC (iH jW jW ai af ai))⟩
theorem ll (T:Txt K mg t):b0 P w K mg base (CXE P w) 2 t.dc t.d_behind_lead ["byte"] (spP K (bX t) dc):=
 eO T.F_behind_lead pP fun cdv A outer s H E hr=>⟨_,(ah (bf (aA cf (qv 0) (aH rfl T.m_NOUGHT T.r_NOUGHT) (aP _)) (aq (aB (bE (aa aN (aa aN ak))))) aJ)
   (ah (bf (dW (aD ((ka T).mono (by decide)) hr rfl T.gR T.F_is_figure.kp T.b_is_figure .nil aI (aa (qv 0) ak)) (fun _=>rfl)) (aq (aB (bE (aa aN (aa aN (aa aN ak)))))) aJ)
   (aq (aB da)))),
  (ay (bg (az (av cb af ai)) (aC (bD (ag aM (ag aM aw)))) aK)
    (ay (bg (eH (aL (ag af aw))) (aC (bD (ag aM (ag aM (ag aM aw))))) aK)
    (aC cZ)))⟩
theorem kM (T:Txt K mg t):b0 P w K mg base (CXE P w) 3 t.bu t.d_behind_value ["byte"] (spP K (bX t) bu):=
 eO T.F_behind_value kP fun cdv A outer s H E hr=>⟨_,(ah (bf (aA cf (qv 0) (aH rfl T.m_ROW_BEGIN T.r_ROW_BEGIN) (aP _)) (aq (aB (bE (aa aN (aa aN ak))))) aJ)
   (ah (bf (aA cf (qv 0) (aH rfl T.m_FIELDS_BEGIN T.r_FIELDS_BEGIN) (aP _)) (aq (aB (bE (aa aN (aa aN ak))))) aJ)
   (ah (bf (aA cf (qv 0) (aH rfl T.m_QUOTE T.r_QUOTE) (aP _)) (aq (aB (bE (aa aN ak)))) aJ)
   (ah (bf (aA cf (qv 0) (aH rfl T.m_MINUS T.r_MINUS) (aP _)) (aq (aB (bE (aa aN ak)))) aJ)
   (ah (bb (i:=1) kP.nd rfl (by first | exact Or.inl rfl | exact Or.inr rfl) (aD ((tF T).mono (by decide)) hr rfl T.fL T.F_word_rest.kp T.b_word_rest .nil aI (aa (qv 0) ak)))
   (ah (bf (aA sL (qv 1) da (aP _)) (aq (aB (pA (M:=[]) (ι:=[]) (x:="sign") ⟨rfl,rfl,rfl,rfl,rfl,rfl,rfl,rfl,rfl,rfl,rfl,by decide +kernel⟩ rfl (El (qv 1)) fun _ _ _ _=>(dq (aa (qv 0) (aa (qv 0) ak)))))) aJ)
   (aq (aB (aD ((ll T).mono (by decide)) hr rfl T.fm T.F_behind_lead.kp T.b_behind_lead .nil aI (aa (qv 0) ak)))))))))),
  (ay (bg (az (av cb af ai)) (aC (bD (ag aM (ag aM aw)))) aK)
    (ay (bg (az (av cb af ai)) (aC (bD (ag aM (ag aM aw)))) aK)
    (ay (bg (az (av cb af ai)) (aC (bD (ag aM aw))) aK)
    (ay (bg (az (av cb af ai)) (aC (bD (ag aM aw))) aK)
    (ay (bq (aL (ag af aw)))
    (ay (bg (az (av sP af cZ)) (aC (y0 (by decide) af (dk (ag af (ag af aw))))) aK)
    (aC (aL (ag af aw)))))))))⟩
theorem mz (T:Txt K mg t):b0 P w K mg base (CXE P w) 3 t.aU t.d_behind_in_number ["item","byte"] (spP K (bX t) aU):=
 eO T.F_behind_in_number mG fun cdv A outer s H E hr=>⟨_,(ah (bf (aA cf (qv 0) aN (aP _)) (aq (aB (aD ((ll T).mono (by decide)) hr rfl T.fm T.F_behind_lead.kp T.b_behind_lead .nil aI (aa (qv 1) ak)))) aJ)
   (ah (bf (aA cf (qv 0) aN (aP _)) (aq (aB (dM (by exact (dW (aD ((ka T).mono (by decide)) hr rfl T.gR T.F_is_figure.kp T.b_is_figure .nil aI (aa (qv 1) ak)) (fun _=>rfl))) (bE (aa aN ak)) da))) aJ)
   (ah (bf (aA cf (qv 0) aN (aP _)) (aq (aB (dM (by exact (aA cf (qv 1) (aH rfl T.m_POINT T.r_POINT) (aP _))) (bE (aa (dq (aa (aH rfl T.m_NOUGHT T.r_NOUGHT) (aa (aH rfl T.m_NINE T.r_NINE) ak))) (aa aN ak))) da))) aJ)
   (ah (bf (aA cf (qv 0) aN (aP _)) (aq (aB (dM (by exact (aA iR (qv 1) (dq (aa (aH rfl T.m_SMALL_E T.r_SMALL_E) (aa (aH rfl T.m_BIG_E T.r_BIG_E) ak))) rfl)) (bE (aa aN (aa (dq (aa (aH rfl T.m_NOUGHT T.r_NOUGHT) (aa (aH rfl T.m_NINE T.r_NINE) ak))) (aa aN ak)))) da))) aJ)
   (aq (aB (dM (by exact (aA iR (qv 1) (dq (aa (aH rfl T.m_PLUS T.r_PLUS) (aa (aH rfl T.m_MINUS T.r_MINUS) ak))) rfl)) (bE ak) da))))))),
  (ay (bg (az (av cb af aM)) (aC (aL (ag af aw))) aK)
    (ay (bg (az (av cb af aM)) (aC (iE (eH (aL (ag af aw))) (bD (ag aM aw)) cZ)) aK)
    (ay (bg (az (av cb af aM)) (aC (iE (az (av cb af ai)) (bD (ag (dk (ag ai (ag ai aw))) (ag aM aw))) cZ)) aK)
    (ay (bg (az (av cb af aM)) (aC (iE (az (av (kK hr.units) af (dk (ag ai (ag ai aw))))) (bD (ag aM (ag (dk (ag ai (ag ai aw))) (ag aM aw)))) cZ)) aK)
    (aC (iE (az (av (kK hr.units) af (dk (ag ai (ag ai aw))))) (bD aw) cZ))))))⟩
theorem nJ (T:Txt K mg t):b0 P w K mg base (CXE P w) 2 t.eC t.d_hex_worth ["byte"] (spP K (bX t) eC):=
 eO T.F_hex_worth sM fun cdv A outer s H E hr=>⟨_,(ah (bf (dW (aD ((ka T).mono (by decide)) hr rfl T.gR T.F_is_figure.kp T.b_is_figure .nil aI (aa (qv 0) ak)) (fun _=>rfl)) (aq (aB (bj ng (qv 0) (aH rfl T.m_NOUGHT T.r_NOUGHT)))) aJ)
   (ah (bf (ji jN jN ax (qv 0) ax) (aq (aB (bj ng (qv 0) ax))) aJ)
   (ah (bf (ji jN jN ax (qv 0) ax) (aq (aB (bj ng (qv 0) ax))) aJ)
   (aq (aB da))))),
  (ay (bg (eH (aL (ag af aw))) (aC (av nz af ai)) aK)
    (ay (bg (az (iH jW jW ai af ai)) (aC (av nz af ai)) aK)
    (ay (bg (az (iH jW jW ai af ai)) (aC (av nz af ai)) aK)
    (aC cZ))))⟩
theorem n9 (T:Txt K mg t):b0 P w K mg base (CXE P w) 1 t.cM t.d_behind_code_d ["worth"] (spP K (bX t) cM):=
 eO T.F_behind_code_d jO fun cdv A outer s H E hr=>⟨_,(ah (bf (aA jq (qv 0) ax (aP _)) (aq (aB (bE (aa aN (aa aN ak))))) aJ)
   (ah (bf (aA jq (qv 0) ax (aP _)) (ah (bb (i:=1) jO.nd rfl (by first | exact Or.inl rfl | exact Or.inr rfl) (bE (aa (dq (aa (aH rfl T.m_BACKSLASH T.r_BACKSLASH) (aa (aH rfl T.m_BACKSLASH T.r_BACKSLASH) ak))) (aa (dq (aa (aH rfl T.m_SMALL_U T.r_SMALL_U) (aa (aH rfl T.m_SMALL_U T.r_SMALL_U) ak))) (aa aN (aa aN (aa aN (aa aN ak))))))))
   (aq (aB (bj gB (bE (aa aN (aa aN ak))) (qv 1))))) aJ)
   (aq (aB da)))),
  (ay (bg (az (av jA af ai)) (aC (bD (ag aM (ag aM aw)))) aK)
    (ay (bg (az (av jA af ai)) (ay (bq (bD (ag (dk (ag ai (ag ai aw))) (ag (dk (ag ai (ag ai aw))) (ag aM (ag aM (ag aM (ag aM aw))))))))
    (aC (av iP (bD (ag aM (ag aM aw))) af))) aK)
    (aC cZ)))⟩
theorem nh (T:Txt K mg t):b0 P w K mg base (CXE P w) 1 t.cg t.d_second_of_three ["byte"] (spP K (bX t) cg):=
 eO T.F_second_of_three m8 fun cdv A outer s H E hr=>⟨_,(ah (bf (aA cf (qv 0) ax (aP _)) (aq (aB (dq (aa ax (aa ax ak))))) aJ)
   (ah (bf (aA cf (qv 0) ax (aP _)) (aq (aB (dq (aa ax (aa ax ak))))) aJ)
   (aq (aB (aH rfl T.m_TAIL T.r_TAIL))))),
  (ay (bg (az (av cb af ai)) (aC (dk (ag ai (ag ai aw)))) aK)
    (ay (bg (az (av cb af ai)) (aC (dk (ag ai (ag ai aw)))) aK)
    (aC (ky T.q_TAIL))))⟩
theorem nG (T:Txt K mg t):b0 P w K mg base (CXE P w) 1 t.cE t.d_second_of_four ["byte"] (spP K (bX t) cE):=
 eO T.F_second_of_four nA fun cdv A outer s H E hr=>⟨_,(ah (bf (aA cf (qv 0) ax (aP _)) (aq (aB (dq (aa ax (aa ax ak))))) aJ)
   (ah (bf (aA cf (qv 0) ax (aP _)) (aq (aB (dq (aa ax (aa ax ak))))) aJ)
   (aq (aB (aH rfl T.m_TAIL T.r_TAIL))))),
  (ay (bg (az (av cb af ai)) (aC (dk (ag ai (ag ai aw)))) aK)
    (ay (bg (az (av cb af ai)) (aC (dk (ag ai (ag ai aw)))) aK)
    (aC (ky T.q_TAIL))))⟩
theorem yD (T:Txt K mg t):b0 P w K mg base (CXE P w) 2 t.gD t.d_tails ["byte"] (spP K (bX t) gD):=
 eO T.F_tails yi fun cdv A outer s H E hr=>⟨_,(ah (bf (ji jN jq ax (qv 0) ax) (aq (aB (bE ak))) aJ)
   (ah (bf (ji jN jq ax (qv 0) ax) (aq (aB (bE (aa (aH rfl T.m_TAIL T.r_TAIL) ak)))) aJ)
   (ah (bf (ji jN jq ax (qv 0) ax) (aq (aB (bE (aa (aD ((nh T).mono (by decide)) hr rfl T.eB T.F_second_of_three.kp T.b_second_of_three .nil aI (aa (qv 0) ak)) (aa (aH rfl T.m_TAIL T.r_TAIL) ak))))) aJ)
   (ah (bf (ji jN jq ax (qv 0) ax) (aq (aB (bE (aa (aD ((nG T).mono (by decide)) hr rfl T.eR T.F_second_of_four.kp T.b_second_of_four .nil aI (aa (qv 0) ak)) (aa (aH rfl T.m_TAIL T.r_TAIL) (aa (aH rfl T.m_TAIL T.r_TAIL) ak)))))) aJ)
   (aq (aB da)))))),
  (ay (bg (az (iH jW jA ai af ai)) (aC (bD aw)) aK)
    (ay (bg (az (iH jW jA ai af ai)) (aC (bD (ag (ky T.q_TAIL) aw))) aK)
    (ay (bg (az (iH jW jA ai af ai)) (aC (bD (ag (aL (ag af aw)) (ag (ky T.q_TAIL) aw)))) aK)
    (ay (bg (az (iH jW jA ai af ai)) (aC (bD (ag (aL (ag af aw)) (ag (ky T.q_TAIL) (ag (ky T.q_TAIL) aw))))) aK)
    (aC cZ)))))⟩
theorem mE (T:Txt K mg t):b0 P w K mg base (CXE P w) 3 t.bG t.d_behind_character ["byte"] (spP K (bX t) bG):=
 eO T.F_behind_character iT fun cdv A outer s H E hr=>⟨_,(ah (bf (aA cf (qv 0) (aH rfl T.m_QUOTE T.r_QUOTE) (aP _)) (aq (aB (bE ak))) aJ)
   (ah (bf (aA cf (qv 0) (aH rfl T.m_BACKSLASH T.r_BACKSLASH) (aP _)) (aq (aB (bE (aa aN (aa aN ak))))) aJ)
   (ah (bb (i:=1) iT.nd rfl (by first | exact Or.inl rfl | exact Or.inr rfl) (aD ((yD T).mono (by decide)) hr rfl T.jr T.F_tails.kp T.b_tails .nil aI (aa (qv 0) ak)))
   (ah (bf (mO (zJ (aA jq (qv 0) (aH rfl T.m_BLANK T.r_BLANK) (aP _)) (u0 (aA p7 (qv 1) da (aP _))))) (aq (aB da)) aJ)
   (aq (aB (bj gB (qv 1) (bE (aa aN ak))))))))),
  (ay (bg (az (av cb af ai)) (aC (bD aw)) aK)
    (ay (bg (az (av cb af ai)) (aC (bD (ag aM (ag aM aw)))) aK)
    (ay (bq (aL (ag af aw)))
    (ay (bg (zt (az (av jA af ai)) (az (av qr af cZ))) (aC cZ) aK)
    (aC (av iP af (bD (ag aM aw))))))))⟩
theorem pe (T:Txt K mg t):b0 P w K mg base (CXE P w) 1 t.bw t.d_short_escape ["byte"] (spP K (bX t) bw):=
 eO T.F_short_escape o3 fun cdv A outer s H E hr=>⟨_,(aq (aB (uE (aH rfl T.m_SHORT_ESCAPES T.r_SHORT_ESCAPES) (qv 0)))),
  (aC (uF T.q_SHORT_ESCAPES af))⟩
theorem mw (T:Txt K mg t):b0 P w K mg base (CXE P w) 2 t.bY t.d_behind_backslash ["byte"] (spP K (bX t) bY):=
 eO T.F_behind_backslash mK fun cdv A outer s H E hr=>⟨_,(ah (bf (aA cf (qv 0) (aH rfl T.m_SMALL_U T.r_SMALL_U) (aP _)) (aq (aB (bE (aa aN ak)))) aJ)
   (aq (aB (dM (by exact (aA p7 (aD ((pe T).mono (by decide)) hr rfl T.b5 T.F_short_escape.kp T.b_short_escape .nil aI (aa (qv 0) ak)) da (aP _))) da (bE ak))))),
  (ay (bg (az (av cb af ai)) (aC (bD (ag aM aw))) aK)
    (aC (iE (az (av qr (aL (ag af aw)) cZ)) cZ (bD aw))))⟩
theorem nB (T:Txt K mg t):b0 P w K mg base (CXE P w) 4 t.bF t.d_behind_in_text ["item","byte"] (spP K (bX t) bF):=
 eO T.F_behind_in_text jz fun cdv A outer s H E hr=>⟨_,(ah (bf (aA cf (qv 0) aN (aP _)) (aq (aB (aD ((mE T).mono (by decide)) hr rfl T.cU T.F_behind_character.kp T.b_behind_character .nil aI (aa (qv 1) ak)))) aJ)
   (ah (bf (aA cf (qv 0) aN (aP _)) (aq (aB (aD ((mw T).mono (by decide)) hr rfl T.d8 T.F_behind_backslash.kp T.b_behind_backslash .nil aI (aa (qv 1) ak)))) aJ)
   (ah (bb (i:=2) jz.nd rfl (by first | exact Or.inl rfl | exact Or.inr rfl) (aD ((nJ T).mono (by decide)) hr rfl T.iC T.F_hex_worth.kp T.b_hex_worth .nil aI (aa (qv 1) ak)))
   (ah (bf (aA p7 (qv 2) da (aP _)) (aq (aB da)) aJ)
   (ah (bf (aA cf (qv 0) aN (aP _)) (aq (aB (dM (by exact (aA cf (qv 2) ax (aP _))) (bE (aa aN ak)) (bE (aa aN (aa aN (aa aN ak))))))) aJ)
   (aq (aB (aD ((n9 T).mono (by decide)) hr rfl T.fk T.F_behind_code_d.kp T.b_behind_code_d .nil aI (aa (qv 2) ak))))))))),
  (ay (bg (az (av cb af aM)) (aC (aL (ag af aw))) aK)
    (ay (bg (az (av cb af aM)) (aC (aL (ag af aw))) aK)
    (ay (bq (aL (ag af aw)))
    (ay (bg (az (av qr af cZ)) (aC cZ) aK)
    (ay (bg (az (av cb af aM)) (aC (iE (az (av cb af ai)) (bD (ag aM aw)) (bD (ag aM (ag aM (ag aM aw)))))) aK)
    (aC (aL (ag af aw))))))))⟩
theorem qI (T:Txt K mg t):b0 P w K mg base (CXE P w) 3 t.dn t.d_behind_hex ["item","byte"] (spP K (bX t) dn):=
 eO T.F_behind_hex mT fun cdv A outer s H E hr=>⟨_,(ah (bb (i:=2) mT.nd rfl (by first | exact Or.inl rfl | exact Or.inr rfl) (aD ((nJ T).mono (by decide)) hr rfl T.iC T.F_hex_worth.kp T.b_hex_worth .nil aI (aa (qv 1) ak)))
   (ah (bf (aA p7 (qv 2) da (aP _)) (aq (aB da)) aJ)
   (ah (bf (aA cf (qv 0) aN (aP _)) (aq (aB (dM (by exact (aA cf (qv 2) ax (aP _))) (bE ak) da))) aJ)
   (ah (bf (aA cf (qv 0) aN (aP _)) (aq (aB (dM (by exact (aA E8 (qv 2) ax (aP _))) (bE ak) da))) aJ)
   (aq (aB (bE ak))))))),
  (ay (bq (aL (ag af aw)))
    (ay (bg (az (av qr af cZ)) (aC cZ) aK)
    (ay (bg (az (av cb af aM)) (aC (iE (az (av cb af ai)) (bD aw) cZ)) aK)
    (ay (bg (az (av cb af aM)) (aC (iE (az (av Fg af ai)) (bD aw) cZ)) aK)
    (aC (bD aw))))))⟩
theorem mB (T:Txt K mg t):b0 P w K mg base (CXE P w) 4 t.bS t.d_behind_row_begin ["byte"] (spP K (bX t) bS):=
 eO T.F_behind_row_begin iU fun cdv A outer s H E hr=>⟨_,(ah (bf (aA cf (qv 0) (aH rfl T.m_ROW_END T.r_ROW_END) (aP _)) (aq (aB (bE ak))) aJ)
   (ah (bb (i:=1) iU.nd rfl (by first | exact Or.inl rfl | exact Or.inr rfl) (aD ((kM T).mono (by decide)) hr rfl T.b6 T.F_behind_value.kp T.b_behind_value .nil aI (aa (qv 0) ak)))
   (aq (aB (dM (by exact (aA p7 (qv 1) da (aP _))) da (bj gB (qv 1) (bE (aa aN (aa aN ak))))))))),
  (ay (bg (az (av cb af ai)) (aC (bD aw)) aK)
    (ay (bq (aL (ag af aw)))
    (aC (iE (az (av qr af cZ)) cZ (av iP af (bD (ag aM (ag aM aw))))))))⟩
theorem lC (T:Txt K mg t):b0 P w K mg base (CXE P w) 1 t.dC t.d_member_rest [] (spP K (bX t) dC):=
 eO T.F_member_rest qj fun cdv A outer s H E hr=>⟨_,(aq (aB (bE (aa aN (aa (dq (aa (aH rfl T.m_COLON T.r_COLON) (aa (aH rfl T.m_COLON T.r_COLON) ak))) (aa aN (aa aN (aa aN (aa aN ak))))))))),
  (aC (bD (ag aM (ag (dk (ag ai (ag ai aw))) (ag aM (ag aM (ag aM (ag aM aw))))))))⟩
theorem kz (T:Txt K mg t):b0 P w K mg base (CXE P w) 2 t.bI t.d_behind_fields_begin ["byte"] (spP K (bX t) bI):=
 eO T.F_behind_fields_begin kB fun cdv A outer s H E hr=>⟨_,(ah (bf (aA cf (qv 0) (aH rfl T.m_FIELDS_END T.r_FIELDS_END) (aP _)) (aq (aB (bE ak))) aJ)
   (aq (aB (dM (by exact (aA cf (qv 0) (aH rfl T.m_QUOTE T.r_QUOTE) (aP _))) (bj gB (bE (aa aN ak)) (rq ((lC T).mono (by decide)) hr rfl T.gp T.F_member_rest.kp T.b_member_rest aI)) da)))),
  (ay (bg (az (av cb af ai)) (aC (bD aw)) aK)
    (aC (iE (az (av cb af ai)) (av iP (bD (ag aM aw)) (aL aw)) cZ)))⟩
theorem kS (T:Txt K mg t):b0 P w K mg base (CXE P w) 5 t.aY t.d_behind_in_brackets ["item","byte"] (spP K (bX t) aY):=
 eO T.F_behind_in_brackets kX fun cdv A outer s H E hr=>⟨_,(ah (bf (aA cf (qv 0) aN (aP _)) (aq (aB (aD ((mB T).mono (by decide)) hr rfl T.dw T.F_behind_row_begin.kp T.b_behind_row_begin .nil aI (aa (qv 1) ak)))) aJ)
   (ah (bf (aA cf (qv 0) aN (aP _)) (aq (aB (aD ((kz T).mono (by decide)) hr rfl T.dr T.F_behind_fields_begin.kp T.b_behind_fields_begin .nil aI (aa (qv 1) ak)))) aJ)
   (ah (bf (aA cf (qv 0) aN (aP _)) (ah (bf (aA cf (qv 1) (aH rfl T.m_COMMA T.r_COMMA) (aP _)) (aq (aB (bE (aa aN (aa aN (aa aN (aa aN ak))))))) aJ)
   (aq (aB (dM (by exact (aA cf (qv 1) (aH rfl T.m_ROW_END T.r_ROW_END) (aP _))) (bE ak) da)))) aJ)
   (ah (bf (aA cf (qv 1) (aH rfl T.m_COMMA T.r_COMMA) (aP _)) (aq (aB (bj gB (bE (aa aN (aa aN ak))) (rq ((lC T).mono (by decide)) hr rfl T.gp T.F_member_rest.kp T.b_member_rest aI)))) aJ)
   (aq (aB (dM (by exact (aA cf (qv 1) (aH rfl T.m_FIELDS_END T.r_FIELDS_END) (aP _))) (bE ak) da))))))),
  (ay (bg (az (av cb af aM)) (aC (aL (ag af aw))) aK)
    (ay (bg (az (av cb af aM)) (aC (aL (ag af aw))) aK)
    (ay (bg (az (av cb af aM)) (ay (bg (az (av cb af ai)) (aC (bD (ag aM (ag aM (ag aM (ag aM aw)))))) aK)
    (aC (iE (az (av cb af ai)) (bD aw) cZ))) aK)
    (ay (bg (az (av cb af ai)) (aC (av iP (bD (ag aM (ag aM aw))) (aL aw))) aK)
    (aC (iE (az (av cb af ai)) (bD aw) cZ))))))⟩
theorem jx (T:Txt K mg t):b0 P w K mg base (CXE P w) 1 t.d0 t.d_is_white ["byte"] (spP K (bX t) d0):=
 eO T.F_is_white um fun cdv A outer s H E hr=>⟨_,(aq (aB (mj iR (qv 0) (aH rfl T.m_WHITE T.r_WHITE) rfl))),
  (aC (av (kK hr.units) af (ky T.q_WHITE)))⟩
theorem xB (T:Txt K mg t):b0 P w K mg base (CXE P w) 6 t.bW t.d_behind ["item","byte"] (spP K (bX t) bW):=
 eO T.F_behind xy fun cdv A outer s H E hr=>⟨_,(ah (bf (dW (cG nY rfl T.n_isinstance L2.E.boot_isinstance (aa (qv 0) (aa (pD (v:=.ty _) rfl T.n_tuple L2.E.boot_tuple rfl) ak))) (fun _=>rfl)) (aq (aB (dM (by exact (ji jN jN (dB fP (qv 0) ax (fun _ _=>rfl)) (qv 1) (dB fP (qv 0) ax (fun _ _=>rfl)))) (bE ak) da))) aJ)
   (ah (bf (aA iR (qv 0) (dq (aa aN (aa aN (aa aN (aa aN (aa aN ak)))))) rfl) (aq (aB (aD ((mz T).mono (by decide)) hr rfl T.br T.F_behind_in_number.kp T.b_behind_in_number .nil aI (aa (qv 0) (aa (qv 1) ak))))) aJ)
   (ah (bf (aA iR (qv 0) (dq (aa aN (aa aN (aa aN (aa aN ak))))) rfl) (aq (aB (aD ((nB T).mono (by decide)) hr rfl T.cC T.F_behind_in_text.kp T.b_behind_in_text .nil aI (aa (qv 0) (aa (qv 1) ak))))) aJ)
   (ah (bf (aA iR (qv 0) (dq (aa aN (aa aN (aa aN ak)))) rfl) (aq (aB (aD ((qI T).mono (by decide)) hr rfl T.fe T.F_behind_hex.kp T.b_behind_hex .nil aI (aa (qv 0) (aa (qv 1) ak))))) aJ)
   (ah (bf (aA iR (qv 0) (aH rfl T.m_UNENDED T.r_UNENDED) rfl) (aq (aB (aD ((kS T).mono (by decide)) hr rfl T.bK T.F_behind_in_brackets.kp T.b_behind_in_brackets .nil aI (aa (qv 0) (aa (qv 1) ak))))) aJ)
   (ah (bf (aA cf (qv 0) aN (aP _)) (aq (aB (dM (by exact (dW (aD ((jx T).mono (by decide)) hr rfl T.gO T.F_is_white.kp T.b_is_white .nil aI (aa (qv 1) ak)) (fun _=>rfl))) (bE (aa aN ak)) da))) aJ)
   (ah (bf (aA cf (qv 0) aN (aP _)) (aq (aB (dM (by exact (aA cf (qv 1) (aH rfl T.m_QUOTE T.r_QUOTE) (aP _))) (bE (aa aN ak)) da))) aJ)
   (aq (aB (aD ((kM T).mono (by decide)) hr rfl T.b6 T.F_behind_value.kp T.b_behind_value .nil aI (aa (qv 1) ak))))))))))),
  (ay (bg (eH (sJ af)) (aC (iE (az (iH jW jW (av fA af ai) af (av fA af ai))) (bD aw) cZ)) aK)
    (ay (bg (az (av (kK hr.units) af (dk (ag aM (ag aM (ag aM (ag aM (ag aM aw)))))))) (aC (aL (ag af (ag af aw)))) aK)
    (ay (bg (az (av (kK hr.units) af (dk (ag aM (ag aM (ag aM (ag aM aw))))))) (aC (aL (ag af (ag af aw)))) aK)
    (ay (bg (az (av (kK hr.units) af (dk (ag aM (ag aM (ag aM aw)))))) (aC (aL (ag af (ag af aw)))) aK)
    (ay (bg (az (av (kK hr.units) af (sT fun S=>by unfold Rep; exact ⟨_,_,rfl,T.q_UNENDED S,(.cons (by unfold Rep; rfl) (.cons (by unfold Rep; rfl) (.cons (by unfold Rep; rfl) (.cons (by unfold Rep; rfl) .nil))))⟩))) (aC (aL (ag af (ag af aw)))) aK)
    (ay (bg (az (av cb af aM)) (aC (iE (eH (aL (ag af aw))) (bD (ag aM aw)) cZ)) aK)
    (ay (bg (az (av cb af aM)) (aC (iE (az (av cb af ai)) (bD (ag aM aw)) cZ)) aK)
    (aC (aL (ag af aw))))))))))⟩
theorem oG (T:Txt K mg t):b0 P w K mg base (CXE P w) 1 t.cp t.d_Walk_brackets ["self"] (spI K (bX t) cp):=
 uz T.F_Walk_brackets ot fun cdv A outer s H E hr=>⟨_,(aq (aB (cG b9 rfl T.n_len L2.E.boot_len (aa (xF (M:=[]) (ι:=[]) (x:="item") ⟨rfl,rfl,rfl,rfl,rfl,rfl,rfl,rfl,rfl,rfl,rfl,by decide +kernel⟩ rfl (pH (pQ (qv 0))) (fun _ _ _ _=>(aA iR (qv 0) (aH rfl T.m_UNENDED T.r_UNENDED) rfl)) fun _ _ _ _=>(qv 0)) ak)))),
  (aC (fE hR (vp (by decide) (wz (tY iS (gQ T))) (az (av (kK hr.units) af (sT fun S=>by unfold Rep; exact ⟨_,_,rfl,T.q_UNENDED S,(.cons (by unfold Rep; rfl) (.cons (by unfold Rep; rfl) (.cons (by unfold Rep; rfl) (.cons (by unfold Rep; rfl) .nil))))⟩))) af)))⟩
theorem o8 (T:Txt K mg t):b0 P w K mg base (CXE P w) 7 t.dJ t.d_Walk_goes_on ["self","byte"] (spI K (bX t) dJ):=
 uz T.F_Walk_goes_on iO fun cdv A outer s H E hr=>⟨_,(ah (gu fZ (dW (pQ (qv 0)) (fun _=>rfl)) (ah (bb (i:=2) iO.nd rfl (by first | exact Or.inl rfl | exact Or.inr rfl) (yU PySem.F.plainAttrs_list PySem.F.slot_list_pop PySem.F.type_list_pop yz (pQ (qv 0))))
   (ah (bb (i:=3) iO.nd rfl (by first | exact Or.inl rfl | exact Or.inr rfl) (aD ((xB T).mono (by decide)) hr rfl T.ck T.F_behind.kp T.b_behind .nil aI (aa (qv 2) (aa (qv 1) ak))))
   (ah (bf (aA sL (qv 3) da (aP _)) (ah (kA (qV PySem.F.plainAttrs_list PySem.F.slot_list_extend PySem.F.type_list_extend xE (pQ (qv 0)) (aa (zW (qv 3) (rp oF ax)) ak)))
   (aq (aB (mj jN (rN (qv 0) T.c_Walk T.h_Walk_brackets ((oG T).mono (by decide)) hr T.b_Walk_brackets aI) (aH rfl T.m_MOST_BRACKETS T.r_MOST_BRACKETS) (aP _))))) aJ)
   (aq (bf (aA om (qv 2) (aH rfl T.m_LOOSE T.r_LOOSE) rfl) (aq (aB Ah)) aJ))))))
   (aq (aB Ah))),
  (ay (gy (xl (tY iS (gQ T))) (ay (rS (wb (tY iS (gQ T))))
    (ay (bq (aL (ag af (ag af aw))))
    (ay (bg (az (av sP af cZ)) (ay (u7 (tY iS (gQ T)) (yH af (qO oe ai)))
    (aC (av jW (uc rfl rfl (Ct iS) pC) ai))) aK)
    (bg (az (av (qm hr.units) af (sT fun S=>by unfold Rep; exact ⟨_,_,rfl,T.q_LOOSE S,(.cons (by unfold Rep; rfl) (.cons (by unfold Rep; rfl) (.cons (by unfold Rep; rfl) (.cons (by unfold Rep; rfl) (.cons (by unfold Rep; rfl) .nil)))))⟩))) (aC Af) aK)))))
    (aC Af))⟩
theorem su (T:Txt K mg t):b0 P w K mg base (CXE P w) 8 t.eV t.d_Walk_take ["self","row"] (spI K (bX t) eV):=
 uz T.F_Walk_take jX fun cdv A outer s H E hr=>⟨_,(ah (va fZ rfl (AX rfl T.n_enumerate (aa (qv 1) ak)) (DE rfl (uf (pk (i:=2) jX.nd rfl (by first | exact Or.inl rfl | exact Or.inr rfl)) (uf (pk (i:=3) jX.nd rfl (by first | exact Or.inl rfl | exact Or.inr rfl)) A0))) (aq (bf (vi (dW (ug (qv 0) T.c_Walk T.h_Walk_goes_on ((o8 T).mono (by decide)) hr T.b_Walk_goes_on aI (aa (qv 3) ak)) (fun _=>rfl))) (aq (aB (qv 2))) aJ)))
   (aq (aB (cG b9 rfl T.n_len L2.E.boot_len (aa (qv 1) ak))))),
  (ay (Bh af (Aq (ua rfl rfl (B7 iS) (uq (BL (W:=fun _ _ _ _=>False) af) pC)) ig aK))
    (aC (fE hR af)))⟩
theorem n8 (T:Txt K mg t):b0 P w K mg base (CXE P w) 1 t.cL t.d_Walk_is_whole ["self"] (spI K (bX t) cL):=
 uz T.F_Walk_is_whole n4 fun cdv A outer s H E hr=>⟨_,(aq (aB (cG qR rfl T.n_all L2.E.boot_all (aa (pA (M:=[]) (ι:=[]) (x:="item") ⟨rfl,rfl,rfl,rfl,rfl,rfl,rfl,rfl,rfl,rfl,rfl,by decide +kernel⟩ rfl (pH (pQ (qv 0))) fun _ _ _ _=>(mj iR (qv 0) (aH rfl T.m_LOOSE T.r_LOOSE) rfl)) ak)))),
  (aC (fE (zm hr.hd) (uR (by decide) (wz (tY iS (gQ T))) (av (kK hr.units) af (sT fun S=>by unfold Rep; exact ⟨_,_,rfl,T.q_LOOSE S,(.cons (by unfold Rep; rfl) (.cons (by unfold Rep; rfl) (.cons (by unfold Rep; rfl) (.cons (by unfold Rep; rfl) (.cons (by unfold Rep; rfl) .nil)))))⟩)))))⟩
theorem zO (T:Txt K mg t):b0 P w K mg base (CXE P w) 9 t.jo t.d_fault ["row"] (spP K (bX t) jo):=
 eO T.F_fault p9 fun cdv A outer s H E hr=>⟨_,(ah (bb (i:=1) p9.nd rfl (by first | exact Or.inl rfl | exact Or.inr rfl) (zT T.k_Walk (oH T) (hr.mono (by decide)) rfl T.m_Walk T.b_Walk___init__))
   (ah (bb (i:=2) p9.nd rfl (by first | exact Or.inl rfl | exact Or.inr rfl) (ug (qv 1) T.c_Walk T.h_Walk_take ((su T).mono (by decide)) hr T.b_Walk_take aI (aa (qv 0) ak)))
   (ah (bf (mO (lQ (aA cf (qv 2) (cG b9 rfl T.n_len L2.E.boot_len (aa (qv 0) ak)) (aP _)) (kb (dW (rN (qv 1) T.c_Walk T.h_Walk_is_whole ((n8 T).mono (by decide)) hr T.b_Walk_is_whole aI) (fun _=>rfl))))) (aq (aB da)) aJ)
   (aq (aB (qv 2)))))),
  (ay (wW (BF rfl))
    (ay (rS (ua rfl rfl (B7 iS) (uq (BL (W:=fun _ _ _ _=>False) af) pC)))
    (ay (bg (lJ (az (av cb af (fE hR af))) (eH (uc rfl rfl (Ct iS) pC))) (aC cZ) aK)
    ig)))⟩
theorem o5 (T:Txt K mg t):b0 P w K mg base (CXE P w) 10 t.dj t.d_refuse_fault ["row"] (spP K (bX t) dj):=
 eO T.F_refuse_fault kD fun cdv A outer s H E hr=>⟨_,(ah (bb (i:=1) kD.nd rfl (by first | exact Or.inl rfl | exact Or.inr rfl) (aD ((zO T).mono (by decide)) hr rfl T.pB T.F_fault.kp T.b_fault .nil aI (aa (qv 0) ak)))
   (aq (bf (aA sL (qv 1) da (aP _)) (aq (xj T.k_Fault (qC T) T.b_Fault_init (hr.mono (by decide)) aI rfl (aa (qv 1) ak))) aJ))),
  (ay (bq (aL (ag af aw)))
    (bg (az (av sP af cZ)) (xH rfl (ag af aw)) aK))⟩
theorem qs (T:Txt K mg t):b0 P w K mg base (CXE P w) 1 t.eJ t.d_with_member ["tree","i"] (spP K (bX t) eJ):=
 eO T.F_with_member la fun cdv A outer s H E hr=>⟨_,(ah (bb (i:=2) la.nd rfl (by first | exact Or.inl rfl | exact Or.inr rfl) (dB eh (qv 0) (qv 1) (fun _ _=>rfl)))
   (ah (bf (aA qZ (dB fP (qv 2) ax (fun _ _=>rfl)) aN (aP _)) (aq (aB (qv 2))) aJ)
   (aq (aB (dq (aa (dB fP (qv 2) ax (fun _ _=>rfl)) (aa (dB fP (qv 2) ax (fun _ _=>rfl)) (aa (dB fP (qv 2) ax (fun _ _=>rfl)) (aa (dB fP (dB eh (qv 0) (bj fN (qv 1) ax) (fun _ _=>rfl)) ax (fun _ _=>rfl)) ak))))))))),
  (ay (bq (av fq af af))
    (ay (bg (az (av qL (av fA af ai) aM)) ig aK)
    (aC (dk (ag (av fA af ai) (ag (av fA af ai) (ag (av fA af ai) (ag (av fA (av fq af (av fR af ai)) ai) aw))))))))⟩
theorem uZ (T:Txt K mg t):b0 P w K mg base (CXE P w) 1 t.ie t.d_text_end ["row","at"] (spP K (bX t) ie):=
 eO T.F_text_end lh fun cdv A outer s H E hr=>⟨_,(ah (bb (i:=2) lh.nd rfl (by first | exact Or.inl rfl | exact Or.inr rfl) (bj fN (qv 1) ax))
   (ah (gu fZ (aA qZ (dB eh (qv 0) (qv 2) (fun _ _=>rfl)) (aH rfl T.m_QUOTE T.r_QUOTE) (aP _)) (aq (lu (i:=2) lh.nd rfl (Or.inl rfl) (dM (by exact (aA cf (dB eh (qv 0) (qv 2) (fun _ _=>rfl)) (aH rfl T.m_BACKSLASH T.r_BACKSLASH) (aP _))) ax ax) lg)))
   (aq (aB (bj fN (qv 2) ax))))),
  (ay (bq (av fR af ai))
    (ay (gy (az (av qL (av fq af af) ai)) (fQ (iE (az (av cb (av fq af af) ai)) ai ai)))
    (aC (av fR af ai))))⟩
theorem sZ (T:Txt K mg t):b0 P w K mg base (CXE P w) 2 t.eX t.d_plain_end ["row","at"] (spP K (bX t) eX):=
 eO T.F_plain_end jZ fun cdv A outer s H E hr=>⟨_,(ah (bb (i:=2) jZ.nd rfl (by first | exact Or.inl rfl | exact Or.inr rfl) (qv 1))
   (ah (gu fZ (mO (lQ (aA jq (qv 2) (cG b9 rfl T.n_len L2.E.boot_len (aa (qv 0) ak)) (aP _)) (lQ (vi (dW (aD ((jx T).mono (by decide)) hr rfl T.gO T.F_is_white.kp T.b_is_white .nil aI (aa (dB eh (qv 0) (qv 2) (fun _ _=>rfl)) ak)) (fun _=>rfl))) (kb (aA om (dB eh (qv 0) (qv 2) (fun _ _=>rfl)) (dq (aa (aH rfl T.m_COMMA T.r_COMMA) (aa (aH rfl T.m_ROW_END T.r_ROW_END) (aa (aH rfl T.m_FIELDS_END T.r_FIELDS_END) ak)))) rfl))))) (aq (lu (i:=2) jZ.nd rfl (Or.inl rfl) ax lg)))
   (aq (aB (qv 2))))),
  (ay (bq af)
    (ay (gy (lJ (az (av jA af (fE hR af))) (lJ (zh (eH (aL (ag (av fq af af) aw)))) (az (av (qm hr.units) (av fq af af) (dk (ag ai (ag ai (ag ai aw)))))))) (fQ ai))
    ig))⟩
theorem u4 (T:Txt K mg t):b0 P w K mg base (CXE P w) 2 t.i4 t.d_is_name ["row","end"] (spP K (bX t) i4):=
 eO T.F_is_name qa fun cdv A outer s H E hr=>⟨_,(ah (gu fZ (mO (lQ (aA jq (qv 1) (cG b9 rfl T.n_len L2.E.boot_len (aa (qv 0) ak)) (aP _)) (kb (dW (aD ((jx T).mono (by decide)) hr rfl T.gO T.F_is_white.kp T.b_is_white .nil aI (aa (dB eh (qv 0) (qv 1) (fun _ _=>rfl)) ak)) (fun _=>rfl))))) (aq (lu (i:=1) qa.nd rfl (Or.inl rfl) ax lg)))
   (aq (aB (vL (mj jq (qv 1) (cG b9 rfl T.n_len L2.E.boot_len (aa (qv 0) ak)) (aP _)) (vJ (mj cf (dB eh (qv 0) (qv 1) (fun _ _=>rfl)) (aH rfl T.m_COLON T.r_COLON) (aP _))))))),
  (ay (gy (lJ (az (av jA af (fE hR af))) (eH (aL (ag (av fq af af) aw)))) (fQ ai))
    (aC (vQ (av jA af (fE hR af)) (av cb (av fq af af) ai))))⟩
theorem Bb (T:Txt K mg t):b0 P w K mg base (CXE P w) 3 t.kq t.d_leaf ["row","at","i"] (spP K (bX t) kq):=
 eO T.F_leaf rY fun cdv A outer s H E hr=>⟨_,(ah (bb (i:=3) rY.nd rfl (by first | exact Or.inl rfl | exact Or.inr rfl) (x6 (aH rfl T.m_KINDS T.r_KINDS) (dB eh (qv 0) (qv 1) (fun _ _=>rfl)) aN))
   (ah (bf (aA qZ (qv 3) aN (aP _)) (aq (aB (dq (aa (qv 3) (aa (qv 1) (aa (aD ((sZ T).mono (by decide)) hr rfl T.js T.F_plain_end.kp T.b_plain_end .nil aI (aa (qv 0) (aa (qv 1) ak))) (aa (bj fN (qv 2) ax) ak))))))) aJ)
   (ah (bb (i:=4) rY.nd rfl (by first | exact Or.inl rfl | exact Or.inr rfl) (aD ((uZ T).mono (by decide)) hr rfl T.nj T.F_text_end.kp T.b_text_end .nil aI (aa (qv 0) (aa (qv 1) ak))))
   (aq (aB (dq (aa (dM (by exact (dW (aD ((u4 T).mono (by decide)) hr rfl T.ou T.F_is_name.kp T.b_is_name .nil aI (aa (qv 0) (aa (qv 4) ak))) (fun _=>rfl))) aN aN) (aa (qv 1) (aa (qv 4) (aa (bj fN (qv 2) ax) ak)))))))))),
  (ay (bq (xD T.q_KINDS (av fq af af) aM))
    (ay (bg (az (av qL af aM)) (aC (dk (ag af (ag af (ag (aL (ag af (ag af aw))) (ag (av fR af ai) aw)))))) aK)
    (ay (bq (aL (ag af (ag af aw))))
    (aC (dk (ag (iE (eH (aL (ag af (ag af aw)))) aM aM) (ag af (ag af (ag (av fR af ai) aw)))))))))⟩
theorem yy (T:Txt K mg t):b0 P w K mg base (CXE P w) 11 t.iw t.d_nodes ["row"] (spP K (bX t) iw):=
 eO T.F_nodes gq fun cdv A outer s H E hr=>⟨_,(ah (kA (aD ((o5 T).mono (by decide)) hr rfl T.fM T.F_refuse_fault.kp T.b_refuse_fault .nil aI (aa (qv 0) ak)))
   (ah (bb (i:=1) gq.nd rfl (by first | exact Or.inl rfl | exact Or.inr rfl) (bE ak))
   (ah (bb (i:=2) gq.nd rfl (by first | exact Or.inl rfl | exact Or.inr rfl) (bE ak))
   (ah (bb (i:=3) gq.nd rfl (by first | exact Or.inl rfl | exact Or.inr rfl) ax)
   (ah (gu fZ (aA jq (qv 3) (cG b9 rfl T.n_len L2.E.boot_len (aa (qv 0) ak)) (aP _)) (ah (bb (i:=4) gq.nd rfl (by first | exact Or.inl rfl | exact Or.inr rfl) (dB eh (qv 0) (qv 3) (fun _ _=>rfl)))
   (aq (bf (aA iR (qv 4) (dq (aa (aH rfl T.m_ROW_BEGIN T.r_ROW_BEGIN) (aa (aH rfl T.m_FIELDS_BEGIN T.r_FIELDS_BEGIN) ak))) rfl) (ah (kA (qV PySem.F.plainAttrs_list PySem.F.slot_list_append PySem.F.type_list_append ib (qv 2) (aa (cG b9 rfl T.n_len L2.E.boot_len (aa (qv 1) ak)) ak)))
   (ah (kA (qV PySem.F.plainAttrs_list PySem.F.slot_list_append PySem.F.type_list_append ib (qv 1) (aa (dq (aa (dB E3 (aH rfl T.m_KINDS T.r_KINDS) (qv 4) (fun _ _=>rfl)) (aa (qv 3) ak))) ak)))
   (aq (lu (i:=3) gq.nd rfl (Or.inl rfl) ax lg)))) (aq (bf (aA iR (qv 4) (dq (aa (aH rfl T.m_ROW_END T.r_ROW_END) (aa (aH rfl T.m_FIELDS_END T.r_FIELDS_END) ak))) rfl) (ah (lu (i:=3) gq.nd rfl (Or.inl rfl) ax lg)
   (ah (bb (i:=5) gq.nd rfl (by first | exact Or.inl rfl | exact Or.inr rfl) (yU PySem.F.plainAttrs_list PySem.F.slot_list_pop PySem.F.type_list_pop yz (qv 2)))
   (aq (Dv (dq (aa (dB fP (dB eh (qv 1) (qv 5) (fun _ _=>rfl)) ax (fun _ _=>rfl)) (aa (dB fP (dB eh (qv 1) (qv 5) (fun _ _=>rfl)) ax (fun _ _=>rfl)) (aa (qv 3) (aa (cG b9 rfl T.n_len L2.E.boot_len (aa (qv 1) ak)) ak))))) (CN (qv 1) (qv 5) set_list))))) (aq (bf (mO (zJ (dW (aD ((jx T).mono (by decide)) hr rfl T.gO T.F_is_white.kp T.b_is_white .nil aI (aa (qv 4) ak)) (fun _=>rfl)) (u0 (aA iR (qv 4) (dq (aa (aH rfl T.m_COMMA T.r_COMMA) (aa (aH rfl T.m_COLON T.r_COLON) ak))) rfl)))) (aq (lu (i:=3) gq.nd rfl (Or.inl rfl) ax lg)) (ah (kA (qV PySem.F.plainAttrs_list PySem.F.slot_list_append PySem.F.type_list_append ib (qv 1) (aa (aD ((Bb T).mono (by decide)) hr rfl T.sV T.F_leaf.kp T.b_leaf .nil aI (aa (qv 0) (aa (qv 3) (aa (cG b9 rfl T.n_len L2.E.boot_len (aa (qv 1) ak)) ak)))) ak)))
   (aq (bb (i:=3) gq.nd rfl (by first | exact Or.inl rfl | exact Or.inr rfl) (dB fP (dB eh (qv 1) (rp oF ax) (fun _ _=>rfl)) ax (fun _ _=>rfl)))))))))))))
   (aq (aB (pA (M:=["tree"]) (ι:=[1]) (x:="i") ⟨rfl,rfl,rfl,rfl,rfl,rfl,rfl,rfl,rfl,rfl,rfl,by decide +kernel⟩ rfl (rE rfl T.n_range (aa (cG b9 rfl T.n_len L2.E.boot_len (aa (qv 1) ak)) ak)) fun _ _ _ _=>(aD ((qs T).mono (by decide)) hr rfl T.iy T.F_with_member.kp T.b_with_member .nil yZ (aa (qv 0) (aa (qv 1) ak))))))))))),
  (ay (AG (aL (ag af aw)))
    (ay (bq (bD aw))
    (ay (wW (CD (bD aw)))
    (ay (bq ai)
    (ay (gy (az (av jA af (fE hR af))) (ay (bq (av fq af af))
    (bg (az (av (kK hr.units) af (dk (ag ai (ag ai aw))))) (ay (vd iS (CD (fE hR af)))
    (ay (lS (dk (ag (Bu T.q_KINDS af) (ag af aw))))
    (fQ ai))) (bg (az (av (kK hr.units) af (dk (ag ai (ag ai aw))))) (ay (fQ ai)
    (ay (rS (wb iS))
    (DZ af (dk (ag (av fA (av fq af af) ai) (ag (av fA (av fq af af) ai) (ag af (ag (fE hR af) aw)))))))) (bg (zt (eH (aL (ag af aw))) (az (av (kK hr.units) af (dk (ag ai (ag ai aw)))))) (fQ ai) (ay (lS (aL (ag af (ag af (ag (fE hR af) aw)))))
    (bq (av fA (av fq af (qO oe ai)) ai))))))))
    (lT (i:=1) (aC (ym (by decide) (fE hR af) (aL (ag af (ag af aw)))))))))))⟩
theorem Cw (T:Txt K mg t):b0 P w K mg base (CXE P w) 12 t.qo t.d_law ["_law_script"] (spP K (bX t) qo):=
 eO T.F_law fO fun cdv A outer s H E hr=>⟨_,(ah (bb (i:=1) fO.nd rfl (by first | exact Or.inl rfl | exact Or.inr rfl) (bj ft (aD ((lb T).mono (by decide)) hr rfl T.il T.F_law_cell.kp T.b_law_cell .nil aI (aa (qv 0) (aa ax ak))) (bj vU ax ax)))
   (ah (bf (aA cf (bj ft (aD ((hZ T).mono (by decide)) hr rfl T.gb T.F_law_mix.kp T.b_law_mix .nil aI (aa (qv 0) (aa ax ak))) ax) ax (aP _)) (aq (bb (i:=1) fO.nd rfl (by first | exact Or.inl rfl | exact Or.inr rfl) (rp oF (bj ft (aD ((hZ T).mono (by decide)) hr rfl T.gb T.F_law_mix.kp T.b_law_mix .nil aI (aa (qv 0) (aa ax ak))) ax)))) aJ)
   (ah (bb (i:=2) fO.nd rfl (by first | exact Or.inl rfl | exact Or.inr rfl) (bj ng (bj ft (aD ((hZ T).mono (by decide)) hr rfl T.gb T.F_law_mix.kp T.b_law_mix .nil aI (aa (qv 0) (aa ax ak))) ax) ax))
   (ah (bf (aA cf (bj ft (aD ((hZ T).mono (by decide)) hr rfl T.gb T.F_law_mix.kp T.b_law_mix .nil aI (aa (qv 0) (aa ax ak))) ax) ax (aP _)) (aq (bb (i:=2) fO.nd rfl (by first | exact Or.inl rfl | exact Or.inr rfl) (bj ng (bj ft (aD ((lb T).mono (by decide)) hr rfl T.il T.F_law_cell.kp T.b_law_cell .nil aI (aa (qv 0) (aa ax ak))) (bj vU ax ax)) (bj vU ax ax)))) aJ)
   (ah (bb (i:=3) fO.nd rfl (by first | exact Or.inl rfl | exact Or.inr rfl) (bj oC (bj ft (aD ((hZ T).mono (by decide)) hr rfl T.gb T.F_law_mix.kp T.b_law_mix .nil aI (aa (qv 0) (aa ax ak))) ax) (bj ft (aD ((hZ T).mono (by decide)) hr rfl T.gb T.F_law_mix.kp T.b_law_mix .nil aI (aa (qv 0) (aa ax ak))) ax)))
   (ah (bb (i:=4) fO.nd rfl (by first | exact Or.inl rfl | exact Or.inr rfl) (qv 1))
   (ah (va fZ rfl (rE rfl T.n_range (aa (qv 3) ak)) (pk (i:=5) fO.nd rfl (by first | exact Or.inl rfl | exact Or.inr rfl)) (aq (bb (i:=4) fO.nd rfl (by first | exact Or.inl rfl | exact Or.inr rfl) (bj oC (qv 4) ax))))
   (ah (bb (i:=6) fO.nd rfl (by first | exact Or.inl rfl | exact Or.inr rfl) (qv 1))
   (ah (bb (i:=7) fO.nd rfl (by first | exact Or.inl rfl | exact Or.inr rfl) (bj fN (qv 2) (qv 3)))
   (ah (gu fZ (mO (lQ (aA qZ (qv 6) ax (aP _)) (kb (aA cf (bj ft (qv 6) ax) ax (aP _))))) (ah (bb (i:=6) fO.nd rfl (by first | exact Or.inl rfl | exact Or.inr rfl) (bj kh (qv 6) ax))
   (aq (bb (i:=7) fO.nd rfl (by first | exact Or.inl rfl | exact Or.inr rfl) (bj fN (qv 7) ax)))))
   (ah (bf (aA cf (qv 6) ax (aP _)) (aq (bb (i:=7) fO.nd rfl (by first | exact Or.inl rfl | exact Or.inr rfl) ax)) aJ)
   (ah (bb (i:=8) fO.nd rfl (by first | exact Or.inl rfl | exact Or.inr rfl) (aD ((lD T).mono (by decide)) hr rfl T.dg T.F_law_figures.kp T.b_law_figures .nil aI (aa (qv 6) ak)))
   (ah (bf (aA qZ (qv 7) ax (aP _)) (aq (bb (i:=8) fO.nd rfl (by first | exact Or.inl rfl | exact Or.inr rfl) (bj gB (bj gB (qv 8) (bE (aa ax ak))) (aD ((lD T).mono (by decide)) hr rfl T.dg T.F_law_figures.kp T.b_law_figures .nil aI (aa (qv 7) ak))))) aJ)
   (ah (bb (i:=9) fO.nd rfl (by first | exact Or.inl rfl | exact Or.inr rfl) (aD ((qe T).mono (by decide)) hr rfl T.gn T.F_told_number.kp T.b_told_number .nil aI (aa (qv 4) (aa (qv 2) ak))))
   (ah (bf (mO (zJ (vi (dW (aD ((qJ T).mono (by decide)) hr rfl T.iZ T.F_law_wholes.kp T.b_law_wholes .nil aI (aa (qv 9) ak)) (fun _=>rfl))) (u0 (aA DC (qv 9) (qv 8) (aP _))))) (aq (aB Ah)) aJ)
   (aq (aB (mj DT (aD ((yM T).mono (by decide)) hr rfl T.pz T.F_exact.kp T.b_exact .nil aI (aa (qv 9) (aa (aD ((yy T).mono (by decide)) hr rfl T.pG T.F_nodes.kp T.b_nodes .nil aI (aa (qv 9) ak)) (aa ax ak)))) (dq (aa (qv 6) (aa (qv 7) ak))) (aP _))))))))))))))))))),
  (ay (bq (av fo (aL (ag af (ag ai aw))) (av vZ ai ai)))
    (ay (bg (az (av cb (av fo (aL (ag af (ag ai aw))) ai) ai)) (bq (qO oe (av fo (aL (ag af (ag ai aw))) ai))) aK)
    (ay (bq (av nz (av fo (aL (ag af (ag ai aw))) ai) ai))
    (ay (bg (az (av cb (av fo (aL (ag af (ag ai aw))) ai) ai)) (bq (av nz (av fo (aL (ag af (ag ai aw))) (av vZ ai ai)) (av vZ ai ai))) aK)
    (ay (bq (av oo (av fo (aL (ag af (ag ai aw))) ai) (av fo (aL (ag af (ag ai aw))) ai)))
    (ay (bq af)
    (ay (Bq af (bq (av oo af ai)))
    (ay (bq af)
    (ay (bq (av fR af af))
    (ay (gy (lJ (az (av qL af ai)) (az (av cb (av fo af ai) ai))) (ay (bq (av j9 af ai))
    (bq (av fR af ai))))
    (ay (bg (az (av cb af ai)) (bq ai) aK)
    (ay (bq (aL (ag af aw)))
    (ay (bg (az (av qL af ai)) (bq (av iP (av iP af (bD (ag ai aw))) (aL (ag af aw)))) aK)
    (ay (bq (aL (ag af (ag af aw))))
    (ay (lT (i:=9) (bg (zt (zh (eH (aL (ag af aw)))) (az (av (DH hr.units) af af))) (aC Af) aK))
    (lT (i:=9) (aC (av (Dh hr.units) (aL (ag af (ag (aL (ag af aw)) (ag ai aw)))) (dk (ag af (ag af aw)))))))))))))))))))))⟩
end
open PySem.W in
theorem all_mk {l:PySem.W.OpenLaw} {w:World} {K:PySem.W.Frag} {h:Heap} {mg:Str -> Option Value} {fa:Addr} (X:K.In h) (G:h.Ns mainGlobals mg) (hfa:mg "law" = some (.ref fa))
  (a0:nsIn K mainGlobals "is_white" = some (some (.ref f0))) (l0:K.lookup f0 = some ⟨oc0,od0,.func (fnOf "is_white" "is_white" (aV gK) (aR gK) (ao gK) .none kV0 dc0 pm0 an0 cd0 ct0),sl0⟩) (c0:codeIn K cd0 "is_white" = true) (k0:keepIn K (.ref f0) = true)
  (a1:nsIn K mainGlobals "is_figure" = some (some (.ref f1))) (l1:K.lookup f1 = some ⟨oc1,od1,.func (fnOf "is_figure" "is_figure" (aV fH) (aR fH) (ao fH) .none kV1 dc1 pm1 an1 cd1 ct1),sl1⟩) (c1:codeIn K cd1 "is_figure" = true) (k1:keepIn K (.ref f1) = true)
  (a2:nsIn K mainGlobals "hex_worth" = some (some (.ref f2))) (l2:K.lookup f2 = some ⟨oc2,od2,.func (fnOf "hex_worth" "hex_worth" (aV fS) (aR fS) (ao fS) .none kV2 dc2 pm2 an2 cd2 ct2),sl2⟩) (c2:codeIn K cd2 "hex_worth" = true) (k2:keepIn K (.ref f2) = true)
  (a3:nsIn K mainGlobals "word_rest" = some (some (.ref f3))) (l3:K.lookup f3 = some ⟨oc3,od3,.func (fnOf "word_rest" "word_rest" (aV fX) (aR fX) (ao fX) .none kV3 dc3 pm3 an3 cd3 ct3),sl3⟩) (c3:codeIn K cd3 "word_rest" = true) (k3:keepIn K (.ref f3) = true)
  (a4:nsIn K mainGlobals "short_escape" = some (some (.ref f4))) (l4:K.lookup f4 = some ⟨oc4,od4,.func (fnOf "short_escape" "short_escape" (aV d6) (aR d6) (ao d6) .none kV4 dc4 pm4 an4 cd4 ct4),sl4⟩) (c4:codeIn K cd4 "short_escape" = true) (k4:keepIn K (.ref f4) = true)
  (a5:nsIn K mainGlobals "exact" = some (some (.ref f5))) (l5:K.lookup f5 = some ⟨oc5,od5,.func (fnOf "exact" "exact" (aV kv) (aR kv) (ao kv) .none kV5 dc5 pm5 an5 cd5 ct5),sl5⟩) (c5:codeIn K cd5 "exact" = true) (k5:keepIn K (.ref f5) = true)
  (a6:nsIn K mainGlobals "worth" = some (some (.ref f6))) (l6:K.lookup f6 = some ⟨oc6,od6,.func (fnOf "worth" "worth" (aV kj) (aR kj) (ao kj) .none kV6 dc6 pm6 an6 cd6 ct6),sl6⟩) (c6:codeIn K cd6 "worth" = true) (k6:keepIn K (.ref f6) = true)
  (a7:nsIn K mainGlobals "first_of" = some (some (.ref f7))) (l7:K.lookup f7 = some ⟨oc7,od7,.func (fnOf "first_of" "first_of" (aV gM) (aR gM) (ao gM) .none kV7 dc7 pm7 an7 cd7 ct7),sl7⟩) (c7:codeIn K cd7 "first_of" = true) (k7:keepIn K (.ref f7) = true)
  (a8:nsIn K mainGlobals "signed" = some (some (.ref f8))) (l8:K.lookup f8 = some ⟨oc8,od8,.func (fnOf "signed" "signed" (aV i9) (aR i9) (ao i9) .none kV8 dc8 pm8 an8 cd8 ct8),sl8⟩) (c8:codeIn K cd8 "signed" = true) (k8:keepIn K (.ref f8) = true)
  (a9:nsIn K mainGlobals "counted" = some (some (.ref f9))) (l9:K.lookup f9 = some ⟨oc9,od9,.func (fnOf "counted" "counted" (aV ic) (aR ic) (ao ic) .none kV9 dc9 pm9 an9 cd9 ct9),sl9⟩) (c9:codeIn K cd9 "counted" = true) (k9:keepIn K (.ref f9) = true)
  (a10:nsIn K mainGlobals "lowered" = some (some (.ref f10))) (l10:K.lookup f10 = some ⟨oc10,od10,.func (fnOf "lowered" "lowered" (aV iq) (aR iq) (ao iq) .none kV10 dc10 pm10 an10 cd10 ct10),sl10⟩) (c10:codeIn K cd10 "lowered" = true) (k10:keepIn K (.ref f10) = true)
  (a11:nsIn K mainGlobals "told_number" = some (some (.ref f11))) (l11:K.lookup f11 = some ⟨oc11,od11,.func (fnOf "told_number" "told_number" (aV eL) (aR eL) (ao eL) .none kV11 dc11 pm11 an11 cd11 ct11),sl11⟩) (c11:codeIn K cd11 "told_number" = true) (k11:keepIn K (.ref f11) = true)
  (a12:nsIn K mainGlobals "figures_of" = some (some (.ref f12))) (l12:K.lookup f12 = some ⟨oc12,od12,.func (fnOf "figures_of" "figures_of" (aV fh) (aR fh) (ao fh) .none kV12 dc12 pm12 an12 cd12 ct12),sl12⟩) (c12:codeIn K cd12 "figures_of" = true) (k12:keepIn K (.ref f12) = true)
  (a13:nsIn K mainGlobals "tails" = some (some (.ref f13))) (l13:K.lookup f13 = some ⟨oc13,od13,.func (fnOf "tails" "tails" (aV j7) (aR j7) (ao j7) .none kV13 dc13 pm13 an13 cd13 ct13),sl13⟩) (c13:codeIn K cd13 "tails" = true) (k13:keepIn K (.ref f13) = true)
  (a14:nsIn K mainGlobals "second_of_three" = some (some (.ref f14))) (l14:K.lookup f14 = some ⟨oc14,od14,.func (fnOf "second_of_three" "second_of_three" (aV dm) (aR dm) (ao dm) .none kV14 dc14 pm14 an14 cd14 ct14),sl14⟩) (c14:codeIn K cd14 "second_of_three" = true) (k14:keepIn K (.ref f14) = true)
  (a15:nsIn K mainGlobals "second_of_four" = some (some (.ref f15))) (l15:K.lookup f15 = some ⟨oc15,od15,.func (fnOf "second_of_four" "second_of_four" (aV dA) (aR dA) (ao dA) .none kV15 dc15 pm15 an15 cd15 ct15),sl15⟩) (c15:codeIn K cd15 "second_of_four" = true) (k15:keepIn K (.ref f15) = true)
  (a16:nsIn K mainGlobals "behind" = some (some (.ref f16))) (l16:K.lookup f16 = some ⟨oc16,od16,.func (fnOf "behind" "behind" (aV jf) (aR jf) (ao jf) .none kV16 dc16 pm16 an16 cd16 ct16),sl16⟩) (c16:codeIn K cd16 "behind" = true) (k16:keepIn K (.ref f16) = true)
  (a17:nsIn K mainGlobals "behind_value" = some (some (.ref f17))) (l17:K.lookup f17 = some ⟨oc17,od17,.func (fnOf "behind_value" "behind_value" (aV ef) (aR ef) (ao ef) .none kV17 dc17 pm17 an17 cd17 ct17),sl17⟩) (c17:codeIn K cd17 "behind_value" = true) (k17:keepIn K (.ref f17) = true)
  (a18:nsIn K mainGlobals "behind_lead" = some (some (.ref f18))) (l18:K.lookup f18 = some ⟨oc18,od18,.func (fnOf "behind_lead" "behind_lead" (aV eK) (aR eK) (ao eK) .none kV18 dc18 pm18 an18 cd18 ct18),sl18⟩) (c18:codeIn K cd18 "behind_lead" = true) (k18:keepIn K (.ref f18) = true)
  (a19:nsIn K mainGlobals "behind_in_number" = some (some (.ref f19))) (l19:K.lookup f19 = some ⟨oc19,od19,.func (fnOf "behind_in_number" "behind_in_number" (aV cO) (aR cO) (ao cO) .none kV19 dc19 pm19 an19 cd19 ct19),sl19⟩) (c19:codeIn K cd19 "behind_in_number" = true) (k19:keepIn K (.ref f19) = true)
  (a20:nsIn K mainGlobals "behind_in_text" = some (some (.ref f20))) (l20:K.lookup f20 = some ⟨oc20,od20,.func (fnOf "behind_in_text" "behind_in_text" (aV dv) (aR dv) (ao dv) .none kV20 dc20 pm20 an20 cd20 ct20),sl20⟩) (c20:codeIn K cd20 "behind_in_text" = true) (k20:keepIn K (.ref f20) = true)
  (a21:nsIn K mainGlobals "behind_character" = some (some (.ref f21))) (l21:K.lookup f21 = some ⟨oc21,od21,.func (fnOf "behind_character" "behind_character" (aV cQ) (aR cQ) (ao cQ) .none kV21 dc21 pm21 an21 cd21 ct21),sl21⟩) (c21:codeIn K cd21 "behind_character" = true) (k21:keepIn K (.ref f21) = true)
  (a22:nsIn K mainGlobals "behind_backslash" = some (some (.ref f22))) (l22:K.lookup f22 = some ⟨oc22,od22,.func (fnOf "behind_backslash" "behind_backslash" (aV cS) (aR cS) (ao cS) .none kV22 dc22 pm22 an22 cd22 ct22),sl22⟩) (c22:codeIn K cd22 "behind_backslash" = true) (k22:keepIn K (.ref f22) = true)
  (a23:nsIn K mainGlobals "behind_code_d" = some (some (.ref f23))) (l23:K.lookup f23 = some ⟨oc23,od23,.func (fnOf "behind_code_d" "behind_code_d" (aV dQ) (aR dQ) (ao dQ) .none kV23 dc23 pm23 an23 cd23 ct23),sl23⟩) (c23:codeIn K cd23 "behind_code_d" = true) (k23:keepIn K (.ref f23) = true)
  (a24:nsIn K mainGlobals "behind_hex" = some (some (.ref f24))) (l24:K.lookup f24 = some ⟨oc24,od24,.func (fnOf "behind_hex" "behind_hex" (aV fg) (aR fg) (ao fg) .none kV24 dc24 pm24 an24 cd24 ct24),sl24⟩) (c24:codeIn K cd24 "behind_hex" = true) (k24:keepIn K (.ref f24) = true)
  (a25:nsIn K mainGlobals "behind_in_brackets" = some (some (.ref f25))) (l25:K.lookup f25 = some ⟨oc25,od25,.func (fnOf "behind_in_brackets" "behind_in_brackets" (aV cn) (aR cn) (ao cn) .none kV25 dc25 pm25 an25 cd25 ct25),sl25⟩) (c25:codeIn K cd25 "behind_in_brackets" = true) (k25:keepIn K (.ref f25) = true)
  (a26:nsIn K mainGlobals "behind_row_begin" = some (some (.ref f26))) (l26:K.lookup f26 = some ⟨oc26,od26,.func (fnOf "behind_row_begin" "behind_row_begin" (aV cW) (aR cW) (ao cW) .none kV26 dc26 pm26 an26 cd26 ct26),sl26⟩) (c26:codeIn K cd26 "behind_row_begin" = true) (k26:keepIn K (.ref f26) = true)
  (a27:nsIn K mainGlobals "behind_fields_begin" = some (some (.ref f27))) (l27:K.lookup f27 = some ⟨oc27,od27,.func (fnOf "behind_fields_begin" "behind_fields_begin" (aV b8) (aR b8) (ao b8) .none kV27 dc27 pm27 an27 cd27 ct27),sl27⟩) (c27:codeIn K cd27 "behind_fields_begin" = true) (k27:keepIn K (.ref f27) = true)
  (a28:nsIn K mainGlobals "member_rest" = some (some (.ref f28))) (l28:K.lookup f28 = some ⟨oc28,od28,.func (fnOf "member_rest" "member_rest" (aV eN) (aR eN) (ao eN) .none kV28 dc28 pm28 an28 cd28 ct28),sl28⟩) (c28:codeIn K cd28 "member_rest" = true) (k28:keepIn K (.ref f28) = true)
  (a29:nsIn K mainGlobals "fault" = some (some (.ref f29))) (l29:K.lookup f29 = some ⟨oc29,od29,.func (fnOf "fault" "fault" (aV kn) (aR kn) (ao kn) .none kV29 dc29 pm29 an29 cd29 ct29),sl29⟩) (c29:codeIn K cd29 "fault" = true) (k29:keepIn K (.ref f29) = true)
  (a30:nsIn K mainGlobals "refuse_fault" = some (some (.ref f30))) (l30:K.lookup f30 = some ⟨oc30,od30,.func (fnOf "refuse_fault" "refuse_fault" (aV d7) (aR d7) (ao d7) .none kV30 dc30 pm30 an30 cd30 ct30),sl30⟩) (c30:codeIn K cd30 "refuse_fault" = true) (k30:keepIn K (.ref f30) = true)
  (a31:nsIn K mainGlobals "nodes" = some (some (.ref f31))) (l31:K.lookup f31 = some ⟨oc31,od31,.func (fnOf "nodes" "nodes" (aV j8) (aR j8) (ao j8) .none kV31 dc31 pm31 an31 cd31 ct31),sl31⟩) (c31:codeIn K cd31 "nodes" = true) (k31:keepIn K (.ref f31) = true)
  (a32:nsIn K mainGlobals "leaf" = some (some (.ref f32))) (l32:K.lookup f32 = some ⟨oc32,od32,.func (fnOf "leaf" "leaf" (aV nc) (aR nc) (ao nc) .none kV32 dc32 pm32 an32 cd32 ct32),sl32⟩) (c32:codeIn K cd32 "leaf" = true) (k32:keepIn K (.ref f32) = true)
  (a33:nsIn K mainGlobals "plain_end" = some (some (.ref f33))) (l33:K.lookup f33 = some ⟨oc33,od33,.func (fnOf "plain_end" "plain_end" (aV fz) (aR fz) (ao fz) .none kV33 dc33 pm33 an33 cd33 ct33),sl33⟩) (c33:codeIn K cd33 "plain_end" = true) (k33:keepIn K (.ref f33) = true)
  (a34:nsIn K mainGlobals "text_end" = some (some (.ref f34))) (l34:K.lookup f34 = some ⟨oc34,od34,.func (fnOf "text_end" "text_end" (aV gH) (aR gH) (ao gH) .none kV34 dc34 pm34 an34 cd34 ct34),sl34⟩) (c34:codeIn K cd34 "text_end" = true) (k34:keepIn K (.ref f34) = true)
  (a35:nsIn K mainGlobals "is_name" = some (some (.ref f35))) (l35:K.lookup f35 = some ⟨oc35,od35,.func (fnOf "is_name" "is_name" (aV ik) (aR ik) (ao ik) .none kV35 dc35 pm35 an35 cd35 ct35),sl35⟩) (c35:codeIn K cd35 "is_name" = true) (k35:keepIn K (.ref f35) = true)
  (a36:nsIn K mainGlobals "with_member" = some (some (.ref f36))) (l36:K.lookup f36 = some ⟨oc36,od36,.func (fnOf "with_member" "with_member" (aV eP) (aR eP) (ao eP) .none kV36 dc36 pm36 an36 cd36 ct36),sl36⟩) (c36:codeIn K cd36 "with_member" = true) (k36:keepIn K (.ref f36) = true)
  (a37:nsIn K mainGlobals "_law_cell" = some (some (.ref f37))) (l37:K.lookup f37 = some ⟨oc37,od37,.func (fnOf "_law_cell" "_law_cell" (aV gP) (aR gP) (ao gP) .none kV37 dc37 pm37 an37 cd37 ct37),sl37⟩) (c37:codeIn K cd37 "_law_cell" = true) (k37:keepIn K (.ref f37) = true)
  (a38:nsIn K mainGlobals "_law_mix" = some (some (.ref f38))) (l38:K.lookup f38 = some ⟨oc38,od38,.func (fnOf "_law_mix" "_law_mix" (aV ir) (aR ir) (ao ir) .none kV38 dc38 pm38 an38 cd38 ct38),sl38⟩) (c38:codeIn K cd38 "_law_mix" = true) (k38:keepIn K (.ref f38) = true)
  (a39:nsIn K mainGlobals "_law_whole" = some (some (.ref f39))) (l39:K.lookup f39 = some ⟨oc39,od39,.func (fnOf "_law_whole" "_law_whole" (aV fB) (aR fB) (ao fB) .none kV39 dc39 pm39 an39 cd39 ct39),sl39⟩) (c39:codeIn K cd39 "_law_whole" = true) (k39:keepIn K (.ref f39) = true)
  (a40:nsIn K mainGlobals "_law_wholes" = some (some (.ref f40))) (l40:K.lookup f40 = some ⟨oc40,od40,.func (fnOf "_law_wholes" "_law_wholes" (aV fb) (aR fb) (ao fb) .none kV40 dc40 pm40 an40 cd40 ct40),sl40⟩) (c40:codeIn K cd40 "_law_wholes" = true) (k40:keepIn K (.ref f40) = true)
  (a41:nsIn K mainGlobals "_law_figures" = some (some (.ref f41))) (l41:K.lookup f41 = some ⟨oc41,od41,.func (fnOf "_law_figures" "_law_figures" (aV eM) (aR eM) (ao eM) .none kV41 dc41 pm41 an41 cd41 ct41),sl41⟩) (c41:codeIn K cd41 "_law_figures" = true) (k41:keepIn K (.ref f41) = true)
  (a42:nsIn K mainGlobals "law" = some (some (.ref f42))) (l42:K.lookup f42 = some ⟨oc42,od42,.func (fnOf "law" "law" (aV pW) (aR pW) (ao pW) .none kV42 dc42 pm42 an42 cd42 ct42),sl42⟩) (c42:codeIn K cd42 "law" = true) (k42:keepIn K (.ref f42) = true)
  (a43:findIn K (.ref C3) "__init__" = some (some (.ref f43))) (i43:isFn K (.ref f43) = true) (l43:K.lookup f43 = some ⟨oc43,od43,.func (fnOf "__init__" "Walk.__init__" (aV dU) (aR dU) (ao dU) .none kV43 dc43 pm43 an43 cd43 ct43),sl43⟩) (c43:codeIn K cd43 "Walk.__init__" = true) (k43:keepIn K (.ref f43) = true)
  (a44:findIn K (.ref C3) "take" = some (some (.ref f44))) (i44:isFn K (.ref f44) = true) (l44:K.lookup f44 = some ⟨oc44,od44,.func (fnOf "take" "Walk.take" (aV fF) (aR fF) (ao fF) .none kV44 dc44 pm44 an44 cd44 ct44),sl44⟩) (c44:codeIn K cd44 "Walk.take" = true) (k44:keepIn K (.ref f44) = true)
  (a45:findIn K (.ref C3) "goes_on" = some (some (.ref f45))) (i45:isFn K (.ref f45) = true) (l45:K.lookup f45 = some ⟨oc45,od45,.func (fnOf "goes_on" "Walk.goes_on" (aV d3) (aR d3) (ao d3) .none kV45 dc45 pm45 an45 cd45 ct45),sl45⟩) (c45:codeIn K cd45 "Walk.goes_on" = true) (k45:keepIn K (.ref f45) = true)
  (a46:findIn K (.ref C3) "brackets" = some (some (.ref f46))) (i46:isFn K (.ref f46) = true) (l46:K.lookup f46 = some ⟨oc46,od46,.func (fnOf "brackets" "Walk.brackets" (aV dS) (aR dS) (ao dS) .none kV46 dc46 pm46 an46 cd46 ct46),sl46⟩) (c46:codeIn K cd46 "Walk.brackets" = true) (k46:keepIn K (.ref f46) = true)
  (a47:findIn K (.ref C3) "is_whole" = some (some (.ref f47))) (i47:isFn K (.ref f47) = true) (l47:K.lookup f47 = some ⟨oc47,od47,.func (fnOf "is_whole" "Walk.is_whole" (aV dR) (aR dR) (ao dR) .none kV47 dc47 pm47 an47 cd47 ct47),sl47⟩) (c47:codeIn K cd47 "Walk.is_whole" = true) (k47:keepIn K (.ref f47) = true)
  (z0:nsIn K mainGlobals "len" = some none)
  (z1:nsIn K mainGlobals "abs" = some none)
  (z2:nsIn K mainGlobals "isinstance" = some none)
  (z3:nsIn K mainGlobals "tuple" = some none)
  (z4:nsIn K mainGlobals "range" = some none)
  (z5:nsIn K mainGlobals "int" = some none)
  (z6:nsIn K mainGlobals "bool" = some none)
  (z7:nsIn K mainGlobals "list" = some none)
  (z8:nsIn K mainGlobals "all" = some none)
  (z9:nsIn K mainGlobals "enumerate" = some none)
  (z10:nsIn K mainGlobals "ValueError" = some none)
  (ca3:nsIn K mainGlobals "Walk" = some (some (.ref C3))) (pg3:plainGet K C3 Str.empty = true) (hd3:hasDictIn K C3 = true) (po3:plainOver K C3 = true) (sa3:findIn K (.ref C3) "__setattr__" = some (some (.builtin "object.__setattr__"))) (mk3:makesIn K C3 = true) (kc3:keepIn K (.ref C3) = true)
  (na3_0:findIn K (.ref C3) "coming" = some none)
  (ca0:nsIn K mainGlobals "GlassError" = some (some (.ref C0))) (cl0:K.lookup C0 = some (excClassObj nm0 qn0 C0 N0 bs0 [.type "ValueError",.type "Exception",.type "BaseException",.type "object"] hd0 sn0 sub0 ab0 co0 dd0 p00 p10 p20 p30 p50 id0))
  (cx0:excIn K C0 [.type "ValueError",.type "Exception",.type "BaseException",.type "object"] "ValueError.__new__" = true)
  (ca1:nsIn K mainGlobals "Fault" = some (some (.ref C1))) (cl1:K.lookup C1 = some (excClassObj nm1 qn1 C1 N1 bs1 [.ref C0,.type "ValueError",.type "Exception",.type "BaseException",.type "object"] hd1 sn1 sub1 ab1 co1 dd1 p01 p11 p21 p31 p51 "ValueError.__new__"))
  (ii1:findIn K (.ref C1) "__init__" = some (some (.ref fi1))) (il1:K.lookup fi1 = some ⟨.type "function",oi1,.func (fnOf "__init__" "Fault.__init__" (aV eZ) (aR eZ) (ao eZ) .none kI1 dI1 pI1 ai1 cI1 tI1),si1⟩) (ic1:codeIn K cI1 "Fault.__init__" = true) (ik1:keepIn K (.ref fi1) = true)
  (xa1:hasDictIn K C1 = true) (xc1:findIn K (.ref C1) "__setattr__" = some (some (.builtin "object.__setattr__"))) (xd1:findIn K (.ref C1) "__getattribute__" = some (some (.builtin "BaseException.__getattribute__"))) (xe1:findIn K (.ref C1) "__getattr__" = some none) (xf1:findIn K (.ref C1) "at" = some none)
  (ca2:nsIn K mainGlobals "NoNode" = some (some (.ref C2))) (cl2:K.lookup C2 = some (excClassObj nm2 qn2 C2 N2 bs2 [.ref C0,.type "ValueError",.type "Exception",.type "BaseException",.type "object"] hd2 sn2 sub2 ab2 co2 dd2 p02 p12 p22 p32 p52 id2))
  (cx2:excIn K C2 [.type "ValueError",.type "Exception",.type "BaseException",.type "object"] "ValueError.__new__" = true)
  (va0:nsIn K mainGlobals "BLANK" = some (some (.int 32 t0)))
  (va1:nsIn K mainGlobals "QUOTE" = some (some (.int 34 t1)))
  (va2:nsIn K mainGlobals "PLUS" = some (some (.int 43 t2)))
  (va3:nsIn K mainGlobals "COMMA" = some (some (.int 44 t3)))
  (va4:nsIn K mainGlobals "MINUS" = some (some (.int 45 t4)))
  (va5:nsIn K mainGlobals "POINT" = some (some (.int 46 t5)))
  (va6:nsIn K mainGlobals "NOUGHT" = some (some (.int 48 t6)))
  (va7:nsIn K mainGlobals "NINE" = some (some (.int 57 t7)))
  (va8:nsIn K mainGlobals "COLON" = some (some (.int 58 t8)))
  (va9:nsIn K mainGlobals "BIG_E" = some (some (.int 69 t9)))
  (va10:nsIn K mainGlobals "ROW_BEGIN" = some (some (.int 91 t10)))
  (va11:nsIn K mainGlobals "BACKSLASH" = some (some (.int 92 t11)))
  (va12:nsIn K mainGlobals "ROW_END" = some (some (.int 93 t12)))
  (va13:nsIn K mainGlobals "SMALL_E" = some (some (.int 101 t13)))
  (va14:nsIn K mainGlobals "SMALL_U" = some (some (.int 117 t14)))
  (va15:nsIn K mainGlobals "FIELDS_BEGIN" = some (some (.int 123 t15)))
  (va16:nsIn K mainGlobals "FIELDS_END" = some (some (.int 125 t16)))
  (va17:nsIn K mainGlobals "WHITE" = some (some (.ref v17))) (vl17:K.lookup v17 = some ⟨.type "tuple",vd17,.seq #[.int 9 t17_0,.int 10 t17_1,.int 13 t17_2,.int 32 t17_3] vn17,vs17⟩)
  (va18:nsIn K mainGlobals "WORDS" = some (some (.ref v18))) (vl18:K.lookup v18 = some ⟨.type "dict",none,.dict #[⟨110,.int 110 tk18_0,.ref w18_0⟩,⟨116,.int 116 tk18_1,.ref w18_1⟩,⟨102,.int 102 tk18_2,.ref w18_2⟩] ep18,#[]⟩)
  (wl18_0:K.lookup w18_0 = some ⟨.type "tuple",wd18_0,.seq #[.int 117 tx18_0_0,.int 108 tx18_0_1,.int 108 tx18_0_2] wn18_0,ws18_0⟩)
  (wl18_1:K.lookup w18_1 = some ⟨.type "tuple",wd18_1,.seq #[.int 114 tx18_1_0,.int 117 tx18_1_1,.int 101 tx18_1_2] wn18_1,ws18_1⟩)
  (wl18_2:K.lookup w18_2 = some ⟨.type "tuple",wd18_2,.seq #[.int 97 tx18_2_0,.int 108 tx18_2_1,.int 115 tx18_2_2,.int 101 tx18_2_3] wn18_2,ws18_2⟩)
  (vm18:(v18 == sysModules) = false)
  (va19:nsIn K mainGlobals "SHORT_ESCAPES" = some (some (.ref v19))) (vl19:K.lookup v19 = some ⟨.type "dict",none,.dict #[⟨34,.int 34 tk19_0,(.int 34 tv19_0)⟩,⟨92,.int 92 tk19_1,(.int 92 tv19_1)⟩,⟨47,.int 47 tk19_2,(.int 47 tv19_2)⟩,⟨98,.int 98 tk19_3,(.int 8 tv19_3)⟩,⟨102,.int 102 tk19_4,(.int 12 tv19_4)⟩,⟨110,.int 110 tk19_5,(.int 10 tv19_5)⟩,⟨114,.int 114 tk19_6,(.int 13 tv19_6)⟩,⟨116,.int 116 tk19_7,(.int 9 tv19_7)⟩] ep19,#[]⟩)
  (vm19:(v19 == sysModules) = false)
  (va20:nsIn K mainGlobals "TAIL" = some (some (.ref v20))) (vl20:K.lookup v20 = some ⟨.type "tuple",vd20,.seq #[.int 128 t20_0,.int 191 t20_1] vn20,vs20⟩)
  (va21:nsIn K mainGlobals "MOST_BRACKETS" = some (some (.int 64 t21)))
  (va22:nsIn K mainGlobals "LOOSE" = some (some (.ref v22))) (vl22:K.lookup v22 = some ⟨.type "tuple",vd22,.seq #[.str "white" t22_0,.str "figures" t22_1,.str "fraction" t22_2,.str "exponent" t22_3,.str "sign" t22_4] vn22,vs22⟩)
  (va23:nsIn K mainGlobals "UNENDED" = some (some (.ref v23))) (vl23:K.lookup v23 = some ⟨.type "tuple",vd23,.seq #[.str "row" t23_0,.str "more row" t23_1,.str "fields" t23_2,.str "more fields" t23_3] vn23,vs23⟩)
  (va24:nsIn K mainGlobals "KINDS" = some (some (.ref v24))) (vl24:K.lookup v24 = some ⟨.type "dict",none,.dict #[⟨34,.int 34 tk24_0,(.str "text" tv24_0)⟩,⟨91,.int 91 tk24_1,(.str "row" tv24_1)⟩,⟨102,.int 102 tk24_2,(.str "false" tv24_2)⟩,⟨110,.int 110 tk24_3,(.str "null" tv24_3)⟩,⟨116,.int 116 tk24_4,(.str "true" tv24_4)⟩,⟨123,.int 123 tk24_5,(.str "fields" tv24_5)⟩] ep24,#[]⟩)
  (vm24:(v24 == sysModules) = false):
  ∃ fd:FuncData,(∀ (s:Shared) (v:Value),BindsTo s fd ⟨[v],[]⟩ [("_law_script",v)]) /\ ∀ base:Heap,K.In base -> base.Ns mainGlobals mg -> b0 l.prog w K mg base (CXE l.prog w) 12 fa fd ["_law_script"] (sI K):=by
 have e:=hfa.symm.trans (PySem.W.mg_of X G a42)
 cases e
 have T:Txt K mg ⟨f0,_,f1,_,f2,_,f3,_,f4,_,f5,_,f6,_,f7,_,f8,_,f9,_,f10,_,f11,_,f12,_,f13,_,f14,_,f15,_,f16,_,f17,_,f18,_,f19,_,f20,_,f21,_,f22,_,f23,_,f24,_,f25,_,f26,_,f27,_,f28,_,f29,_,f30,_,f31,_,f32,_,f33,_,f34,_,f35,_,f36,_,f37,_,f38,_,f39,_,f40,_,f41,_,f42,_,f43,_,f44,_,f45,_,f46,_,f47,_,C0,C1,fi1,_,C2,C3,_,_,_,_,_,_,_,_,_,_,_,_,_,_,_,_,_,v17,v18,v19,v20,_,v22,v23,v24⟩:=⟨aE (st:=gK) l0 c0 k0,PySem.W.mg_of X G a0,(aE (st:=gK) l0 c0 k0).binds (ps:=["byte"]) fun _ _ _ _ _ _ us hl=>match us,hl with | [_],_=>rfl,
  aE (st:=fH) l1 c1 k1,PySem.W.mg_of X G a1,(aE (st:=fH) l1 c1 k1).binds (ps:=["byte"]) fun _ _ _ _ _ _ us hl=>match us,hl with | [_],_=>rfl,
  aE (st:=fS) l2 c2 k2,PySem.W.mg_of X G a2,(aE (st:=fS) l2 c2 k2).binds (ps:=["byte"]) fun _ _ _ _ _ _ us hl=>match us,hl with | [_],_=>rfl,
  aE (st:=fX) l3 c3 k3,PySem.W.mg_of X G a3,(aE (st:=fX) l3 c3 k3).binds (ps:=["byte"]) fun _ _ _ _ _ _ us hl=>match us,hl with | [_],_=>rfl,
  aE (st:=d6) l4 c4 k4,PySem.W.mg_of X G a4,(aE (st:=d6) l4 c4 k4).binds (ps:=["byte"]) fun _ _ _ _ _ _ us hl=>match us,hl with | [_],_=>rfl,
  aE (st:=kv) l5 c5 k5,PySem.W.mg_of X G a5,(aE (st:=kv) l5 c5 k5).binds (ps:=["row","tree","i"]) fun _ _ _ _ _ _ us hl=>match us,hl with | [_,_,_],_=>rfl,
  aE (st:=kj) l6 c6 k6,PySem.W.mg_of X G a6,(aE (st:=kj) l6 c6 k6).binds (ps:=["signs"]) fun _ _ _ _ _ _ us hl=>match us,hl with | [_],_=>rfl,
  aE (st:=gM) l7 c7 k7,PySem.W.mg_of X G a7,(aE (st:=gM) l7 c7 k7).binds (ps:=["signs","sought"]) fun _ _ _ _ _ _ us hl=>match us,hl with | [_,_],_=>rfl,
  aE (st:=i9) l8 c8 k8,PySem.W.mg_of X G a8,(aE (st:=i9) l8 c8 k8).binds (ps:=["signs"]) fun _ _ _ _ _ _ us hl=>match us,hl with | [_],_=>rfl,
  aE (st:=ic) l9 c9 k9,PySem.W.mg_of X G a9,(aE (st:=ic) l9 c9 k9).binds (ps:=["figures"]) fun _ _ _ _ _ _ us hl=>match us,hl with | [_],_=>rfl,
  aE (st:=iq) l10 c10 k10,PySem.W.mg_of X G a10,(aE (st:=iq) l10 c10 k10).binds (ps:=["number","power"]) fun _ _ _ _ _ _ us hl=>match us,hl with | [_,_],_=>rfl,
  aE (st:=eL) l11 c11 k11,PySem.W.mg_of X G a11,(aE (st:=eL) l11 c11 k11).binds (ps:=["number","power"]) fun _ _ _ _ _ _ us hl=>match us,hl with | [_,_],_=>rfl,
  aE (st:=fh) l12 c12 k12,PySem.W.mg_of X G a12,(aE (st:=fh) l12 c12 k12).binds (ps:=["number"]) fun _ _ _ _ _ _ us hl=>match us,hl with | [_],_=>rfl,
  aE (st:=j7) l13 c13 k13,PySem.W.mg_of X G a13,(aE (st:=j7) l13 c13 k13).binds (ps:=["byte"]) fun _ _ _ _ _ _ us hl=>match us,hl with | [_],_=>rfl,
  aE (st:=dm) l14 c14 k14,PySem.W.mg_of X G a14,(aE (st:=dm) l14 c14 k14).binds (ps:=["byte"]) fun _ _ _ _ _ _ us hl=>match us,hl with | [_],_=>rfl,
  aE (st:=dA) l15 c15 k15,PySem.W.mg_of X G a15,(aE (st:=dA) l15 c15 k15).binds (ps:=["byte"]) fun _ _ _ _ _ _ us hl=>match us,hl with | [_],_=>rfl,
  aE (st:=jf) l16 c16 k16,PySem.W.mg_of X G a16,(aE (st:=jf) l16 c16 k16).binds (ps:=["item","byte"]) fun _ _ _ _ _ _ us hl=>match us,hl with | [_,_],_=>rfl,
  aE (st:=ef) l17 c17 k17,PySem.W.mg_of X G a17,(aE (st:=ef) l17 c17 k17).binds (ps:=["byte"]) fun _ _ _ _ _ _ us hl=>match us,hl with | [_],_=>rfl,
  aE (st:=eK) l18 c18 k18,PySem.W.mg_of X G a18,(aE (st:=eK) l18 c18 k18).binds (ps:=["byte"]) fun _ _ _ _ _ _ us hl=>match us,hl with | [_],_=>rfl,
  aE (st:=cO) l19 c19 k19,PySem.W.mg_of X G a19,(aE (st:=cO) l19 c19 k19).binds (ps:=["item","byte"]) fun _ _ _ _ _ _ us hl=>match us,hl with | [_,_],_=>rfl,
  aE (st:=dv) l20 c20 k20,PySem.W.mg_of X G a20,(aE (st:=dv) l20 c20 k20).binds (ps:=["item","byte"]) fun _ _ _ _ _ _ us hl=>match us,hl with | [_,_],_=>rfl,
  aE (st:=cQ) l21 c21 k21,PySem.W.mg_of X G a21,(aE (st:=cQ) l21 c21 k21).binds (ps:=["byte"]) fun _ _ _ _ _ _ us hl=>match us,hl with | [_],_=>rfl,
  aE (st:=cS) l22 c22 k22,PySem.W.mg_of X G a22,(aE (st:=cS) l22 c22 k22).binds (ps:=["byte"]) fun _ _ _ _ _ _ us hl=>match us,hl with | [_],_=>rfl,
  aE (st:=dQ) l23 c23 k23,PySem.W.mg_of X G a23,(aE (st:=dQ) l23 c23 k23).binds (ps:=["worth"]) fun _ _ _ _ _ _ us hl=>match us,hl with | [_],_=>rfl,
  aE (st:=fg) l24 c24 k24,PySem.W.mg_of X G a24,(aE (st:=fg) l24 c24 k24).binds (ps:=["item","byte"]) fun _ _ _ _ _ _ us hl=>match us,hl with | [_,_],_=>rfl,
  aE (st:=cn) l25 c25 k25,PySem.W.mg_of X G a25,(aE (st:=cn) l25 c25 k25).binds (ps:=["item","byte"]) fun _ _ _ _ _ _ us hl=>match us,hl with | [_,_],_=>rfl,
  aE (st:=cW) l26 c26 k26,PySem.W.mg_of X G a26,(aE (st:=cW) l26 c26 k26).binds (ps:=["byte"]) fun _ _ _ _ _ _ us hl=>match us,hl with | [_],_=>rfl,
  aE (st:=b8) l27 c27 k27,PySem.W.mg_of X G a27,(aE (st:=b8) l27 c27 k27).binds (ps:=["byte"]) fun _ _ _ _ _ _ us hl=>match us,hl with | [_],_=>rfl,
  aE (st:=eN) l28 c28 k28,PySem.W.mg_of X G a28,(aE (st:=eN) l28 c28 k28).binds (ps:=[]) fun _ _ _ _ _ _ us hl=>match us,hl with | [],_=>rfl,
  aE (st:=kn) l29 c29 k29,PySem.W.mg_of X G a29,(aE (st:=kn) l29 c29 k29).binds (ps:=["row"]) fun _ _ _ _ _ _ us hl=>match us,hl with | [_],_=>rfl,
  aE (st:=d7) l30 c30 k30,PySem.W.mg_of X G a30,(aE (st:=d7) l30 c30 k30).binds (ps:=["row"]) fun _ _ _ _ _ _ us hl=>match us,hl with | [_],_=>rfl,
  aE (st:=j8) l31 c31 k31,PySem.W.mg_of X G a31,(aE (st:=j8) l31 c31 k31).binds (ps:=["row"]) fun _ _ _ _ _ _ us hl=>match us,hl with | [_],_=>rfl,
  aE (st:=nc) l32 c32 k32,PySem.W.mg_of X G a32,(aE (st:=nc) l32 c32 k32).binds (ps:=["row","at","i"]) fun _ _ _ _ _ _ us hl=>match us,hl with | [_,_,_],_=>rfl,
  aE (st:=fz) l33 c33 k33,PySem.W.mg_of X G a33,(aE (st:=fz) l33 c33 k33).binds (ps:=["row","at"]) fun _ _ _ _ _ _ us hl=>match us,hl with | [_,_],_=>rfl,
  aE (st:=gH) l34 c34 k34,PySem.W.mg_of X G a34,(aE (st:=gH) l34 c34 k34).binds (ps:=["row","at"]) fun _ _ _ _ _ _ us hl=>match us,hl with | [_,_],_=>rfl,
  aE (st:=ik) l35 c35 k35,PySem.W.mg_of X G a35,(aE (st:=ik) l35 c35 k35).binds (ps:=["row","end"]) fun _ _ _ _ _ _ us hl=>match us,hl with | [_,_],_=>rfl,
  aE (st:=eP) l36 c36 k36,PySem.W.mg_of X G a36,(aE (st:=eP) l36 c36 k36).binds (ps:=["tree","i"]) fun _ _ _ _ _ _ us hl=>match us,hl with | [_,_],_=>rfl,
  aE (st:=gP) l37 c37 k37,PySem.W.mg_of X G a37,(aE (st:=gP) l37 c37 k37).binds (ps:=["_law_script","_law_k"]) fun _ _ _ _ _ _ us hl=>match us,hl with | [_,_],_=>rfl,
  aE (st:=ir) l38 c38 k38,PySem.W.mg_of X G a38,(aE (st:=ir) l38 c38 k38).binds (ps:=["_law_script","_law_k"]) fun _ _ _ _ _ _ us hl=>match us,hl with | [_,_],_=>rfl,
  aE (st:=fB) l39 c39 k39,PySem.W.mg_of X G a39,(aE (st:=fB) l39 c39 k39).binds (ps:=["_law_found"]) fun _ _ _ _ _ _ us hl=>match us,hl with | [_],_=>rfl,
  aE (st:=fb) l40 c40 k40,PySem.W.mg_of X G a40,(aE (st:=fb) l40 c40 k40).binds (ps:=["_law_found"]) fun _ _ _ _ _ _ us hl=>match us,hl with | [_],_=>rfl,
  aE (st:=eM) l41 c41 k41,PySem.W.mg_of X G a41,(aE (st:=eM) l41 c41 k41).binds (ps:=["_law_number"]) fun _ _ _ _ _ _ us hl=>match us,hl with | [_],_=>rfl,
  aE (st:=pW) l42 c42 k42,PySem.W.mg_of X G a42,(aE (st:=pW) l42 c42 k42).binds (ps:=["_law_script"]) fun _ _ _ _ _ _ us hl=>match us,hl with | [_],_=>rfl,
  aE (st:=dU) l43 c43 k43,(aE (st:=dU) l43 c43 k43).binds (ps:=["self"]) fun _ _ _ _ _ _ us hl=>match us,hl with | [_],_=>rfl,
  aE (st:=fF) l44 c44 k44,⟨a44,i44,k44⟩,(aE (st:=fF) l44 c44 k44).binds (ps:=["self","row"]) fun _ _ _ _ _ _ us hl=>match us,hl with | [_,_],_=>rfl,
  aE (st:=d3) l45 c45 k45,⟨a45,i45,k45⟩,(aE (st:=d3) l45 c45 k45).binds (ps:=["self","byte"]) fun _ _ _ _ _ _ us hl=>match us,hl with | [_,_],_=>rfl,
  aE (st:=dS) l46 c46 k46,⟨a46,i46,k46⟩,(aE (st:=dS) l46 c46 k46).binds (ps:=["self"]) fun _ _ _ _ _ _ us hl=>match us,hl with | [_],_=>rfl,
  aE (st:=dR) l47 c47 k47,⟨a47,i47,k47⟩,(aE (st:=dR) l47 c47 k47).binds (ps:=["self"]) fun _ _ _ _ _ _ us hl=>match us,hl with | [_],_=>rfl,
  PySem.W.mg_none_of X G z0,
  PySem.W.mg_none_of X G z1,
  PySem.W.mg_none_of X G z2,
  PySem.W.mg_none_of X G z3,
  PySem.W.mg_none_of X G z4,
  PySem.W.mg_none_of X G z5,
  PySem.W.mg_none_of X G z6,
  PySem.W.mg_none_of X G z7,
  PySem.W.mg_none_of X G z8,
  PySem.W.mg_none_of X G z9,
  PySem.W.mg_none_of X G z10,
  PySem.W.mg_of X G ca3,⟨pg3,hd3,po3,sa3⟩,⟨mk3,a43,i43,kc3⟩,
  na3_0,
  PySem.W.mg_of X G ca0,⟨by simp,_,_,_,_,_,_,_,_,_,_,_,_,_,_,_,_,cl0⟩,
  cx0,
  PySem.W.mg_of X G ca1,⟨by simp,_,_,_,_,_,_,_,_,_,_,_,_,_,_,_,_,cl1⟩,
  aE (st:=eZ) il1 ic1 ik1,(aE (st:=eZ) il1 ic1 ik1).binds (ps:=["self","at"]) fun _ _ _ _ _ _ us hl=>match us,hl with | [_,_],_=>rfl,
  ⟨PySem.W.mg_of X G ca1,⟨_,_,_,_,_,_,_,_,_,_,_,_,_,_,_,cl1⟩,by simp,Bk ⟨by simp,_,_,_,_,_,_,_,_,_,_,_,_,_,_,_,_,cl0⟩ cx0,ii1,⟨_,il1,rfl⟩,⟨xa1,xn cl1 (by rw [kd,kd]; decide),xc1,xd1,xe1,xf1⟩⟩,
  PySem.W.mg_of X G ca2,⟨by simp,_,_,_,_,_,_,_,_,_,_,_,_,_,_,_,_,cl2⟩,
  cx2,
  PySem.W.mg_of X G va0,⟨t0,rfl⟩,
  PySem.W.mg_of X G va1,⟨t1,rfl⟩,
  PySem.W.mg_of X G va2,⟨t2,rfl⟩,
  PySem.W.mg_of X G va3,⟨t3,rfl⟩,
  PySem.W.mg_of X G va4,⟨t4,rfl⟩,
  PySem.W.mg_of X G va5,⟨t5,rfl⟩,
  PySem.W.mg_of X G va6,⟨t6,rfl⟩,
  PySem.W.mg_of X G va7,⟨t7,rfl⟩,
  PySem.W.mg_of X G va8,⟨t8,rfl⟩,
  PySem.W.mg_of X G va9,⟨t9,rfl⟩,
  PySem.W.mg_of X G va10,⟨t10,rfl⟩,
  PySem.W.mg_of X G va11,⟨t11,rfl⟩,
  PySem.W.mg_of X G va12,⟨t12,rfl⟩,
  PySem.W.mg_of X G va13,⟨t13,rfl⟩,
  PySem.W.mg_of X G va14,⟨t14,rfl⟩,
  PySem.W.mg_of X G va15,⟨t15,rfl⟩,
  PySem.W.mg_of X G va16,⟨t16,rfl⟩,
  PySem.W.mg_of X G va17,rfl,fun H=>.inr ⟨_,_,_,vl17,rfl,rfl,(by show 4 <= sizeLine; decide),.cons ⟨_,rfl⟩ (.cons ⟨_,rfl⟩ (.cons ⟨_,rfl⟩ (.cons ⟨_,rfl⟩ (.nil))))⟩,
  PySem.W.mg_of X G va18,rfl,⟨[(110,.ref w18_0),(116,.ref w18_1),(102,.ref w18_2)],⟨vm18,by simp,_,_,vl18,.cons ⟨rfl,⟨_,rfl⟩,rfl⟩ (.cons ⟨rfl,⟨_,rfl⟩,rfl⟩ (.cons ⟨rfl,⟨_,rfl⟩,rfl⟩ (.nil)))⟩,.cons ⟨rfl,fun _=>by unfold Rep; exact ⟨_,[.int 117,.int 108,.int 108],rfl,.inr ⟨_,_,_,wl18_0,rfl,rfl,(by show 3 <= sizeLine; decide),.cons ⟨_,rfl⟩ (.cons ⟨_,rfl⟩ (.cons ⟨_,rfl⟩ (.nil)))⟩,bU.ints (ns:=[117,108,108])⟩⟩ (.cons ⟨rfl,fun _=>by unfold Rep; exact ⟨_,[.int 114,.int 117,.int 101],rfl,.inr ⟨_,_,_,wl18_1,rfl,rfl,(by show 3 <= sizeLine; decide),.cons ⟨_,rfl⟩ (.cons ⟨_,rfl⟩ (.cons ⟨_,rfl⟩ (.nil)))⟩,bU.ints (ns:=[114,117,101])⟩⟩ (.cons ⟨rfl,fun _=>by unfold Rep; exact ⟨_,[.int 97,.int 108,.int 115,.int 101],rfl,.inr ⟨_,_,_,wl18_2,rfl,rfl,(by show 4 <= sizeLine; decide),.cons ⟨_,rfl⟩ (.cons ⟨_,rfl⟩ (.cons ⟨_,rfl⟩ (.cons ⟨_,rfl⟩ (.nil))))⟩,bU.ints (ns:=[97,108,115,101])⟩⟩ (.nil)))⟩,
  PySem.W.mg_of X G va19,rfl,⟨[(34,.int 34),(92,.int 92),(47,.int 47),(98,.int 8),(102,.int 12),(110,.int 10),(114,.int 13),(116,.int 9)],⟨vm19,by simp,_,_,vl19,.cons ⟨rfl,⟨_,rfl⟩,⟨_,rfl⟩⟩ (.cons ⟨rfl,⟨_,rfl⟩,⟨_,rfl⟩⟩ (.cons ⟨rfl,⟨_,rfl⟩,⟨_,rfl⟩⟩ (.cons ⟨rfl,⟨_,rfl⟩,⟨_,rfl⟩⟩ (.cons ⟨rfl,⟨_,rfl⟩,⟨_,rfl⟩⟩ (.cons ⟨rfl,⟨_,rfl⟩,⟨_,rfl⟩⟩ (.cons ⟨rfl,⟨_,rfl⟩,⟨_,rfl⟩⟩ (.cons ⟨rfl,⟨_,rfl⟩,⟨_,rfl⟩⟩ (.nil))))))))⟩,.cons ⟨rfl,fun _=>by unfold Rep; rfl⟩ (.cons ⟨rfl,fun _=>by unfold Rep; rfl⟩ (.cons ⟨rfl,fun _=>by unfold Rep; rfl⟩ (.cons ⟨rfl,fun _=>by unfold Rep; rfl⟩ (.cons ⟨rfl,fun _=>by unfold Rep; rfl⟩ (.cons ⟨rfl,fun _=>by unfold Rep; rfl⟩ (.cons ⟨rfl,fun _=>by unfold Rep; rfl⟩ (.cons ⟨rfl,fun _=>by unfold Rep; rfl⟩ (.nil))))))))⟩,
  PySem.W.mg_of X G va20,rfl,fun H=>.inr ⟨_,_,_,vl20,rfl,rfl,(by show 2 <= sizeLine; decide),.cons ⟨_,rfl⟩ (.cons ⟨_,rfl⟩ (.nil))⟩,
  PySem.W.mg_of X G va21,⟨t21,rfl⟩,
  PySem.W.mg_of X G va22,rfl,fun H=>.inr ⟨_,_,_,vl22,rfl,rfl,(by show 5 <= sizeLine; decide),.cons ⟨_,rfl⟩ (.cons ⟨_,rfl⟩ (.cons ⟨_,rfl⟩ (.cons ⟨_,rfl⟩ (.cons ⟨_,rfl⟩ (.nil)))))⟩,
  PySem.W.mg_of X G va23,rfl,fun H=>.inr ⟨_,_,_,vl23,rfl,rfl,(by show 4 <= sizeLine; decide),.cons ⟨_,rfl⟩ (.cons ⟨_,rfl⟩ (.cons ⟨_,rfl⟩ (.cons ⟨_,rfl⟩ (.nil))))⟩,
  PySem.W.mg_of X G va24,rfl,⟨[(34,.str "text"),(91,.str "row"),(102,.str "false"),(110,.str "null"),(116,.str "true"),(123,.str "fields")],⟨vm24,by simp,_,_,vl24,.cons ⟨rfl,⟨_,rfl⟩,⟨_,rfl⟩⟩ (.cons ⟨rfl,⟨_,rfl⟩,⟨_,rfl⟩⟩ (.cons ⟨rfl,⟨_,rfl⟩,⟨_,rfl⟩⟩ (.cons ⟨rfl,⟨_,rfl⟩,⟨_,rfl⟩⟩ (.cons ⟨rfl,⟨_,rfl⟩,⟨_,rfl⟩⟩ (.cons ⟨rfl,⟨_,rfl⟩,⟨_,rfl⟩⟩ (.nil))))))⟩,.cons ⟨rfl,fun _=>by unfold Rep; rfl⟩ (.cons ⟨rfl,fun _=>by unfold Rep; rfl⟩ (.cons ⟨rfl,fun _=>by unfold Rep; rfl⟩ (.cons ⟨rfl,fun _=>by unfold Rep; rfl⟩ (.cons ⟨rfl,fun _=>by unfold Rep; rfl⟩ (.cons ⟨rfl,fun _=>by unfold Rep; rfl⟩ (.nil))))))⟩⟩
 exact ⟨_,fun s v=>.of_eq rfl,fun base _ _=>(Cw T).imp (AL fun ns h=>Fp ns h)⟩
theorem walk {l:PySem.W.OpenLaw} {q:Program} {loose:List Str} {XP:(Str -> Option Value) -> Heap -> Prop} {YP:World -> Heap -> Prop} {d:DefRec} {K:Params -> PySem.W.Frag} (hn:l.most = some 63) (hdf:d.params.defaults = [])
  (hY:∀ (w:World) (h:Heap),YP w h -> (K w.params).In h)
  (F:∀ (w:World) (mg:Str -> Option Value) (fa:Addr) (h:Heap),(K w.params).In h -> h.Ns mainGlobals mg -> mg d.name = some (.ref fa) ->
    ∃ fd:FuncData,(∀ (s:Shared) (u:Value),BindsTo s fd ⟨[u],[]⟩ [("_law_script",u)]) /\ ∀ base:Heap,(K w.params).In base -> base.Ns mainGlobals mg -> b0 l.prog w (K w.params) mg base (CXE l.prog w) 12 fa fd ["_law_script"] (sI (K w.params))):
  PySem.W.WalkO q loose XP YP l.row.toRowW d [] (fun f vs=>PySem.call f vs):=
 L2.AZ (n:=63) (k:=12) (x:="_law_script") (CX:=fun w=>CXE l.prog w) (sp:=fun w=>sI (K w.params)) hn (by decide) hdf ⟨rfl,by decide,by decide⟩ hY F (fun _ _ a ns hl _ hS=>⟨a,ns,rfl,hS,hl,fun _=>rfl⟩) fun _ _ _ _ _ z=>let ⟨_,_,_,_,_,_,_,_,_,_,f⟩:=z; f
end L2.plainglass_k19_numbers_told
open PySem PySem.W PyProof.Rows
namespace PySem.W.Fast
def tw5663711460491664134:=0
def tw2023119576017610719:=0
def tw16478205969344800699:=0
def tw12073934004922113358:=0
def tw104534033394406824:=0
def tw5271616008510125210:=0
def tw11883056541870778162:=0
def tw2517936264534311031:=0
def tw3344511636480019584:=0
def tw6520769915182051814:=0
def tw5359454162829280090:=0
def tw8687902187339580927:=0
def tw8278789059251424418:=0
def tw4102453382047309873:=0
def tw13518759360955119417:=0
end PySem.W.Fast
set_option maxRecDepth 100000 in
set_option maxHeartbeats 0 in
theorem PySem.Challenge.cw_plainglass_k19_numbers_told_holds : PySem.Challenge.rw_plainglass_k19_numbers_told.Holds := by
 w_on; o_law; k_head; (case hw=>w_witness2)
 k_fill
 refine L2.plainglass_k19_numbers_told.walk (l:=PySem.Challenge.rw_plainglass_k19_numbers_told) rfl rfl (fun w h Y=>PySem.W.kIn_of Y) ?F
 case F=>
  intro w mg fa h KX G hmg
  refine' L2.plainglass_k19_numbers_told.all_mk KX G hmg ?a0 ?l0 ?c0 ?k0 ?a1 ?l1 ?c1 ?k1 ?a2 ?l2 ?c2 ?k2 ?a3 ?l3 ?c3 ?k3 ?a4 ?l4 ?c4 ?k4 ?a5 ?l5 ?c5 ?k5 ?a6 ?l6 ?c6 ?k6 ?a7 ?l7 ?c7 ?k7 ?a8 ?l8 ?c8 ?k8 ?a9 ?l9 ?c9 ?k9 ?a10 ?l10 ?c10 ?k10 ?a11 ?l11 ?c11 ?k11 ?a12 ?l12 ?c12 ?k12 ?a13 ?l13 ?c13 ?k13 ?a14 ?l14 ?c14 ?k14 ?a15 ?l15 ?c15 ?k15 ?a16 ?l16 ?c16 ?k16 ?a17 ?l17 ?c17 ?k17 ?a18 ?l18 ?c18 ?k18 ?a19 ?l19 ?c19 ?k19 ?a20 ?l20 ?c20 ?k20 ?a21 ?l21 ?c21 ?k21 ?a22 ?l22 ?c22 ?k22 ?a23 ?l23 ?c23 ?k23 ?a24 ?l24 ?c24 ?k24 ?a25 ?l25 ?c25 ?k25 ?a26 ?l26 ?c26 ?k26 ?a27 ?l27 ?c27 ?k27 ?a28 ?l28 ?c28 ?k28 ?a29 ?l29 ?c29 ?k29 ?a30 ?l30 ?c30 ?k30 ?a31 ?l31 ?c31 ?k31 ?a32 ?l32 ?c32 ?k32 ?a33 ?l33 ?c33 ?k33 ?a34 ?l34 ?c34 ?k34 ?a35 ?l35 ?c35 ?k35 ?a36 ?l36 ?c36 ?k36 ?a37 ?l37 ?c37 ?k37 ?a38 ?l38 ?c38 ?k38 ?a39 ?l39 ?c39 ?k39 ?a40 ?l40 ?c40 ?k40 ?a41 ?l41 ?c41 ?k41 ?a42 ?l42 ?c42 ?k42 ?a43 ?i43 ?l43 ?c43 ?k43 ?a44 ?i44 ?l44 ?c44 ?k44 ?a45 ?i45 ?l45 ?c45 ?k45 ?a46 ?i46 ?l46 ?c46 ?k46 ?a47 ?i47 ?l47 ?c47 ?k47 ?z0 ?z1 ?z2 ?z3 ?z4 ?z5 ?z6 ?z7 ?z8 ?z9 ?z10 ?ca3 ?pg3 ?hd3 ?po3 ?sa3 ?mk3 ?kc3 ?na3_0 ?ca0 ?cl0 ?cx0 ?ca1 ?cl1 ?ii1 ?il1 ?ic1 ?ik1 ?xa1 ?xc1 ?xd1 ?xe1 ?xf1 ?ca2 ?cl2 ?cx2 ?va0 ?va1 ?va2 ?va3 ?va4 ?va5 ?va6 ?va7 ?va8 ?va9 ?va10 ?va11 ?va12 ?va13 ?va14 ?va15 ?va16 ?va17 ?vl17 ?va18 ?vl18 ?wl18_0 ?wl18_1 ?wl18_2 ?vm18 ?va19 ?vl19 ?vm19 ?va20 ?vl20 ?va21 ?va22 ?vl22 ?va23 ?vl23 ?va24 ?vl24 ?vm24
  (case ca3=>k_is)
  (case a0=>k_is)
  (case l0=>k_is)
  (case c0=>k_is)
  (case k0=>k_is)
  (case a1=>k_is)
  (case l1=>k_is)
  (case c1=>k_is)
  (case k1=>k_is)
  (case a2=>k_is)
  (case l2=>k_is)
  (case c2=>k_is)
  (case k2=>k_is)
  (case a3=>k_is)
  (case l3=>k_is)
  (case c3=>k_is)
  (case k3=>k_is)
  (case a4=>k_is)
  (case l4=>k_is)
  (case c4=>k_is)
  (case k4=>k_is)
  (case a5=>k_is)
  (case l5=>k_is)
  (case c5=>k_is)
  (case k5=>k_is)
  (case a6=>k_is)
  (case l6=>k_is)
  (case c6=>k_is)
  (case k6=>k_is)
  (case a7=>k_is)
  (case l7=>k_is)
  (case c7=>k_is)
  (case k7=>k_is)
  (case a8=>k_is)
  (case l8=>k_is)
  (case c8=>k_is)
  (case k8=>k_is)
  (case a9=>k_is)
  (case l9=>k_is)
  (case c9=>k_is)
  (case k9=>k_is)
  (case a10=>k_is)
  (case l10=>k_is)
  (case c10=>k_is)
  (case k10=>k_is)
  (case a11=>k_is)
  (case l11=>k_is)
  (case c11=>k_is)
  (case k11=>k_is)
  (case a12=>k_is)
  (case l12=>k_is)
  (case c12=>k_is)
  (case k12=>k_is)
  (case a13=>k_is)
  (case l13=>k_is)
  (case c13=>k_is)
  (case k13=>k_is)
  (case a14=>k_is)
  (case l14=>k_is)
  (case c14=>k_is)
  (case k14=>k_is)
  (case a15=>k_is)
  (case l15=>k_is)
  (case c15=>k_is)
  (case k15=>k_is)
  (case a16=>k_is)
  (case l16=>k_is)
  (case c16=>k_is)
  (case k16=>k_is)
  (case a17=>k_is)
  (case l17=>k_is)
  (case c17=>k_is)
  (case k17=>k_is)
  (case a18=>k_is)
  (case l18=>k_is)
  (case c18=>k_is)
  (case k18=>k_is)
  (case a19=>k_is)
  (case l19=>k_is)
  (case c19=>k_is)
  (case k19=>k_is)
  (case a20=>k_is)
  (case l20=>k_is)
  (case c20=>k_is)
  (case k20=>k_is)
  (case a21=>k_is)
  (case l21=>k_is)
  (case c21=>k_is)
  (case k21=>k_is)
  (case a22=>k_is)
  (case l22=>k_is)
  (case c22=>k_is)
  (case k22=>k_is)
  (case a23=>k_is)
  (case l23=>k_is)
  (case c23=>k_is)
  (case k23=>k_is)
  (case a24=>k_is)
  (case l24=>k_is)
  (case c24=>k_is)
  (case k24=>k_is)
  (case a25=>k_is)
  (case l25=>k_is)
  (case c25=>k_is)
  (case k25=>k_is)
  (case a26=>k_is)
  (case l26=>k_is)
  (case c26=>k_is)
  (case k26=>k_is)
  (case a27=>k_is)
  (case l27=>k_is)
  (case c27=>k_is)
  (case k27=>k_is)
  (case a28=>k_is)
  (case l28=>k_is)
  (case c28=>k_is)
  (case k28=>k_is)
  (case a29=>k_is)
  (case l29=>k_is)
  (case c29=>k_is)
  (case k29=>k_is)
  (case a30=>k_is)
  (case l30=>k_is)
  (case c30=>k_is)
  (case k30=>k_is)
  (case a31=>k_is)
  (case l31=>k_is)
  (case c31=>k_is)
  (case k31=>k_is)
  (case a32=>k_is)
  (case l32=>k_is)
  (case c32=>k_is)
  (case k32=>k_is)
  (case a33=>k_is)
  (case l33=>k_is)
  (case c33=>k_is)
  (case k33=>k_is)
  (case a34=>k_is)
  (case l34=>k_is)
  (case c34=>k_is)
  (case k34=>k_is)
  (case a35=>k_is)
  (case l35=>k_is)
  (case c35=>k_is)
  (case k35=>k_is)
  (case a36=>k_is)
  (case l36=>k_is)
  (case c36=>k_is)
  (case k36=>k_is)
  (case a37=>k_is)
  (case l37=>k_is)
  (case c37=>k_is)
  (case k37=>k_is)
  (case a38=>k_is)
  (case l38=>k_is)
  (case c38=>k_is)
  (case k38=>k_is)
  (case a39=>k_is)
  (case l39=>k_is)
  (case c39=>k_is)
  (case k39=>k_is)
  (case a40=>k_is)
  (case l40=>k_is)
  (case c40=>k_is)
  (case k40=>k_is)
  (case a41=>k_is)
  (case l41=>k_is)
  (case c41=>k_is)
  (case k41=>k_is)
  (case a42=>k_is)
  (case l42=>k_is)
  (case c42=>k_is)
  (case k42=>k_is)
  (case a43=>k_is)
  (case i43=>k_is)
  (case l43=>k_is)
  (case c43=>k_is)
  (case k43=>k_is)
  (case a44=>k_is)
  (case i44=>k_is)
  (case l44=>k_is)
  (case c44=>k_is)
  (case k44=>k_is)
  (case a45=>k_is)
  (case i45=>k_is)
  (case l45=>k_is)
  (case c45=>k_is)
  (case k45=>k_is)
  (case a46=>k_is)
  (case i46=>k_is)
  (case l46=>k_is)
  (case c46=>k_is)
  (case k46=>k_is)
  (case a47=>k_is)
  (case i47=>k_is)
  (case l47=>k_is)
  (case c47=>k_is)
  (case k47=>k_is)
  (case z0=>k_is)
  (case z1=>k_is)
  (case z2=>k_is)
  (case z3=>k_is)
  (case z4=>k_is)
  (case z5=>k_is)
  (case z6=>k_is)
  (case z7=>k_is)
  (case z8=>k_is)
  (case z9=>k_is)
  (case z10=>k_is)
  (case pg3=>k_is)
  (case hd3=>k_is)
  (case po3=>k_is)
  (case sa3=>k_is)
  (case mk3=>k_is)
  (case kc3=>k_is)
  (case na3_0=>k_is)
  (case ca0=>k_is)
  (case cl0=>k_is)
  (case cx0=>k_exc)
  (case ca1=>k_is)
  (case cl1=>k_is)
  (case ii1=>k_is)
  (case il1=>k_is)
  (case ic1=>k_is)
  (case ik1=>k_is)
  (case xa1=>k_is)
  (case xc1=>k_is)
  (case xd1=>k_is)
  (case xe1=>k_is)
  (case xf1=>k_is)
  (case ca2=>k_is)
  (case cl2=>k_is)
  (case cx2=>k_exc)
  (case va0=>k_is)
  (case va1=>k_is)
  (case va2=>k_is)
  (case va3=>k_is)
  (case va4=>k_is)
  (case va5=>k_is)
  (case va6=>k_is)
  (case va7=>k_is)
  (case va8=>k_is)
  (case va9=>k_is)
  (case va10=>k_is)
  (case va11=>k_is)
  (case va12=>k_is)
  (case va13=>k_is)
  (case va14=>k_is)
  (case va15=>k_is)
  (case va16=>k_is)
  (case va17=>k_is)
  (case vl17=>k_is)
  (case va18=>k_is)
  (case vl18=>k_is)
  (case wl18_0=>k_is)
  (case wl18_1=>k_is)
  (case wl18_2=>k_is)
  (case vm18=>first | decide | rfl)
  (case va19=>k_is)
  (case vl19=>k_is)
  (case vm19=>first | decide | rfl)
  (case va20=>k_is)
  (case vl20=>k_is)
  (case va21=>k_is)
  (case va22=>k_is)
  (case vl22=>k_is)
  (case va23=>k_is)
  (case vl23=>k_is)
  (case va24=>k_is)
  (case vl24=>k_is)
  (case vm24=>first | decide | rfl)
