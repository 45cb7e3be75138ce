import PyProof.Rows.All
import Wide.All
import OpenK.AllK
import Wide.FinOn
import PyProof.EqAt
import PyProof.EqKinds
import PyProof.TupleCall
import KE.BitLaws
import Open.SpecLaws
import KE.OsHead
import KE.OsGo
import KE.KTryOn
import Kg22Spec
import PyKg22
import PySem.Challenge.RW_wordrunner_s01_answers
set_option Elab.async false
set_option linter.all false
set_option maxRecDepth 100000
set_option maxHeartbeats 4000000
open Kg22 renaming Machine→KM,get→KS,step→KG,signed→KN,rest→KR,set→KL,neg→KA,load→KI,raise→KF,isNan→KW,setSpecial→KU,isInf→KO,wide→KH,Ex→KD,Out→KJ,store→KY,mode→KZ,run→KC
namespace L2
open PySem PySem.Spec PyProof.Rows
abbrev Key:=Sum Int Str
def Jk4:Key→Value→Bool
 | .inl k,v=>Value.isInt k v
 | .inr x,v=>Value.isStrOf x v
def keyH (w:World):Key→Int
 | .inl k=>hashInt k
 | .inr x=>hashStr w x
theorem Xz0:∀ {k:Key}{v:Value},Jk4 k v=true→(∃ i t,k=Sum.inl i∧v=Value.int i t)∨(∃ x t,k=Sum.inr x∧v=Value.str x t)
 | .inl i,v,h=>by
  obtain ⟨t,e⟩:=Value.isInt_shape (k:=i) (v:=v) h
  exact .inl ⟨i,t,rfl,e⟩
 | .inr x,v,h=>by
  obtain ⟨t,e⟩:=Value.isStrOf_shape (x:=x) (v:=v) h
  exact .inr ⟨x,t,rfl,e⟩
theorem Um5 (i:Int) (t:Tok):Jk4 (.inl i) (.int i t)=true:=by simp [Jk4,Value.isInt]
theorem Ul5 (x:Str) (t:Tok):Jk4 (.inr x) (.str x t)=true:=by simp [Jk4,Value.isStrOf]
theorem key_ll (a b:Int):decide ((Sum.inl a:Key)=Sum.inl b)=(a == b):=by
 by_cases e:a=b
 ·subst e;simp
 ·have h:¬ (Sum.inl a:Key)=Sum.inl b:=fun q=>e (Sum.inl.inj q)
  rw [decide_eq_false h]
  exact (beq_eq_false_iff_ne.mpr e).symm
theorem key_rr (a b:Str):decide ((Sum.inr a:Key)=Sum.inr b)=decide (a=b):=by
 by_cases e:a=b
 ·subst e;simp
 ·have h:¬ (Sum.inr a:Key)=Sum.inr b:=fun q=>e (Sum.inr.inj q)
  rw [decide_eq_false h,decide_eq_false e]
theorem key_lr (a:Int) (b:Str):decide ((Sum.inl a:Key)=Sum.inr b)=false:=decide_eq_false (fun q=>nomatch q)
theorem key_rl (a:Str) (b:Int):decide ((Sum.inr a:Key)=Sum.inl b)=false:=decide_eq_false (fun q=>nomatch q)
def Vs0 (prog:Program) (w:World):PySem.KeyKind prog w Key where
 is:=Jk4
 hash:=keyH w
 inj:=fun v a b ha hb=>by
  rcases Xz0 ha with ⟨i,t,rfl,rfl⟩ | ⟨x,t,rfl,rfl⟩
  ·rcases Xz0 hb with ⟨j,u,rfl,e⟩ | ⟨y,u,rfl,e⟩
   ·injection e with e1 _;rw [e1]
   ·exact nomatch e
  ·rcases Xz0 hb with ⟨j,u,rfl,e⟩ | ⟨y,u,rfl,e⟩
   ·exact nomatch e
   ·injection e with e1 _;rw [e1]
 byValue:=fun k v h=>by
  rcases Xz0 h with ⟨i,t,rfl,rfl⟩ | ⟨x,t,rfl,rfl⟩ <;> rfl
 pyHash:=fun hv h=>by
  rcases Xz0 hv with ⟨i,t,rfl,rfl⟩ | ⟨x,t,rfl,rfl⟩
  ·exact wpAny_pyHash_int h
  ·exact wpAny_pyHash_str h
 eqBool:=fun hu hv h=>by
  rcases Xz0 hu with ⟨i,t,rfl,rfl⟩ | ⟨x,t,rfl,rfl⟩
  ·rcases Xz0 hv with ⟨j,u,rfl,rfl⟩ | ⟨y,u,rfl,rfl⟩
   ·rw [key_ll] at h;exact wpAny_eqBool_int h
   ·rw [key_lr] at h;exact SeqAt.EqAt.int_str i t y u _ _ _ _ h
  ·rcases Xz0 hv with ⟨j,u,rfl,rfl⟩ | ⟨y,u,rfl,rfl⟩
   ·rw [key_rl] at h;exact SeqAt.EqAt.str_int x t j u _ _ _ _ h
   ·rw [key_rr] at h;exact wpAny_eqBool_str h
 «strs» := fun k x t v h=>by
  rcases Xz0 h with ⟨i,u,rfl,e⟩ | ⟨y,u,rfl,e⟩
  ·exact nomatch e
  ·injection e with e1 _
   subst e1
   cases v <;> rfl
theorem Zh4 (prog:Program) (w:World) (i:Int) (t:Tok):(Vs0 prog w).is (.inl i) (.int i t)=true:=Um5 i t
theorem Zg4 (prog:Program) (w:World) (x:Str) (t:Tok):(Vs0 prog w).is (.inr x) (.str x t)=true:=Ul5 x t
end L2
namespace L2
open PySem PySem.Spec PyProof.Rows
inductive V where
 | non | bl (b:Bool) | int (i:Int) | str (x:Str) | byt (b:Array UInt8) | flt (b:UInt64) | ref (a:Addr) | ty (n:String)
 deriving DecidableEq
def Vp0:V→Value→Prop
 | .non,u=>u=Value.none
 | .bl b,u=>u=Value.bool b
 | .int i,u=>∃ t,u=Value.int i t
 | .str x,u=>∃ t,u=Value.str x t
 | .byt b,u=>∃ t,u=Value.bytes b t
 | .flt b,u=>∃ t,u=Value.float b t
 | .ref a,u=>u=Value.ref a
 | .ty n,u=>u=Value.type n
abbrev Xw0:List V→List Value→Prop:=Paired Vp0
theorem Xw0.length {xs:List V}{us:List Value} (r:Xw0 xs us):xs.length=us.length:=Paired.length r
theorem Xw0.get:∀ {xs:List V}{us:List Value}{i:Nat}{x:V},Xw0 xs us→xs[i]? = some x→∃ u,us[i]? = some u∧Vp0 x u
 | _,_,_,_,.nil,e=>by simp at e
 | _,_,0,_,.cons r _,e=>by simp at e;subst e;exact ⟨_,rfl,r⟩
 | _,_,i+1,x,.cons _ t,e=>by
  obtain ⟨u,h1,h2⟩:=Xw0.get (i:=i) (x:=x) t (by simpa using e)
  exact ⟨u,by simpa using h1,h2⟩
theorem Xw0.set {x:V}{u:Value} (r:Vp0 x u):∀ {xs:List V}{us:List Value} (i:Nat),Xw0 xs us→Xw0 (xs.set i x) (us.set i u)
 | _,_,_,.nil=>.nil
 | _,_,0,.cons _ t=>.cons r t
 | _,_,i+1,.cons q t=>.cons q (Xw0.set r i t)
theorem Xw0.append:∀ {xs ys:List V}{us ws:List Value},Xw0 xs us→Xw0 ys ws→Xw0 (xs++ys) (us++ws)
 | _,_,_,_,.nil,s=>s
 | _,_,_,_,.cons r t,s=>.cons r (Xw0.append t s)
theorem Xw0.take:∀ {xs:List V}{us:List Value} (n:Nat),Xw0 xs us→Xw0 (xs.take n) (us.take n)
 | _,_,0,_=>.nil
 | _,_,_+1,.nil=>.nil
 | _,_,n+1,.cons r t=>.cons r (Xw0.take n t)
theorem Xw0.drop:∀ {xs:List V}{us:List Value} (n:Nat),Xw0 xs us→Xw0 (xs.drop n) (us.drop n)
 | _,_,0,r=>r
 | _,_,_+1,.nil=>.nil
 | _,_,n+1,.cons _ t=>Xw0.drop n t
def Uj3:Option V→Option Value→Prop
 | some v,some u=>Vp0 v u
 | none,none=>True
 | _,_=>False
def KV {κ:Type}:List (κ×V)→List (κ×Value)→Prop:=Paired fun (p:κ×V) (q:κ×Value)=>p.1=q.1∧Vp0 p.2 q.2
def kV:Key→V
 | .inl i=>.int i
 | .inr x=>.str x
inductive HO where
 | lst (xs:List V)
 | tup (xs:List V)
 | dK (kvs:List (Key×V)) | dT (kvs:List (List Key×V))
 | set (S:Int→Bool) (n:Nat)
 | ins (C dx:Addr) (fs:List (Str×V))
 | own (x:Addr)
 | xd (fs:List (Str×V))
 | met (f x:Addr)
 | rng (lo hi:Int)
 | frz (o:Obj) (u:HO)
 | tbl (ps:Array Value)
 | ext (φ:Heap→Prop)
abbrev Hp:=Addr→Option HO
def upd (H:Hp) (a:Addr) (o:HO):Hp:=fun b=>if b=a then some o else H b
theorem Zm0 {H:Hp}{a:Addr}{o:HO}:upd H a o a=some o:=by unfold upd;rw [if_pos rfl]
theorem Zn0 {H:Hp}{a b:Addr}{o:HO} (h:b≠a):upd H a o b=H b:=by unfold upd;rw [if_neg h]
theorem Uz1 {H:Hp}{a:Addr}{o u:HO}:upd (upd H a o) a u=upd H a u:=by
 funext b;unfold upd;split <;> rfl
theorem Zp1 {H:Hp}{a b:Addr}{o u:HO} (h:H a=some o) (h':H b=some u) (d:o≠u):a≠b:=by
 intro e;subst e;rw [h] at h';exact d (Option.some.inj h')
theorem Ys0 {H:Hp}{a b:Addr}{o:HO} (h:H a=some o) (h':H b=none):a≠b:=by
 intro e;subst e;rw [h] at h';cases h'
section
variable (P:Program) (w:World)
def Js0 (H:Hp) (h:Heap) (a:Addr):HO→Prop
 | .lst xs=>xs.length≤sizeLine∧∃ (its:List Value) (n:Nat),Xw0 xs its∧h.get? a=some { cls:=.type "list",data:=.seq its.toArray n }
 | .tup xs=>xs.length≤sizeLine∧∃ its:List Value,Xw0 xs its∧IsTup h a its.toArray
 | .dK kvs=>kvs.length≤sizeLine∧(a == sysModules)=false∧∃ vs,KV kvs vs∧h.DictOf (Vs0 P w) a vs
 | .dT kvs=>kvs.length≤sizeLine∧(a == sysModules)=false∧∃ xs:List (List Key×Addr×Value),
   Paired (fun (p:List Key×V) (q:List Key×Addr×Value)=>p.1=q.1∧H q.2.1=some (.tup (p.1.map kV))∧Vp0 p.2 q.2.2) kvs xs ∧
   ∃ o es ep,h.get? a=some o∧o.ExactDict∧o.data=.dict es ep∧es.toList=xs.map (entryOfKey (tupleKind (Vs0 P w)))∧(xs.map (·.1)).Nodup
 | .set S n=>h.SetOf (intKind P w) a S n
 | .ins C dx fs=>H dx=some (.own a)∧fs.length≤1000∧dx≠a∧h.get? a=some (PySem.W.instObj C dx) ∧
   ∃ mA,h.Ns1 dx mA∧(∀ f,Uj3 (fs.lookup f) (mA f))∧PySem.Within mA (fs.map (·.1))
 | .own _=>∃ o,h.get? a=some o
 | .xd fs=>∃ mA,h.Ns1 a mA∧∀ f,Uj3 (fs.lookup f) (mA f)
 | .rng lo hi=>∃ t u v,h.get? a=some { cls:=.type "range",data:=.fields #[.int lo t,.int hi u,.int 1 v] }
 | .frz o u=>h.get? a=some o∧Js0 H h a u
 | .tbl ps=>h.get? a=some { cls:=.none,data:=.fields ps }
 | .met f x=>h.get? a=some (PySem.W.methodObj (.ref f) (.ref x))
 | .ext φ=>φ h∧(∃ o,h.get? a=some o)∧∀ h1 h2:Heap,φ h1→(∀ o,h1.get? a=some o→h2.get? a=some o)→φ h2
def HOk (H:Hp) (h:Heap):Prop:=∀ a o,H a=some o→Js0 P w H h a o
end
section
variable {P:Program}{w:World}{H H':Hp}{h h':Heap}{a:Addr}{o:HO}
theorem Js0.lt (x:Js0 P w H h a o):a<h.objs.size:=by
 cases o with
 | lst xs=>obtain ⟨_,_,_,_,e⟩:=x;exact Heap.lt_size e
 | tup xs=>obtain ⟨_,_,_,p⟩:=x;exact p.lt
 | dK kvs=>obtain ⟨_,_,_,_,o,_,_,e,_⟩:=x;exact Heap.lt_size e
 | dT kvs=>obtain ⟨_,_,_,_,o,_,_,e,_⟩:=x;exact Heap.lt_size e
 | set S n=>obtain ⟨o,_,_,_,e,_⟩:=x;exact Heap.lt_size e
 | ins C dx fs=>obtain ⟨_,_,_,e,_⟩:=x;exact Heap.lt_size e
 | own y=>obtain ⟨_,e⟩:=x;exact Heap.lt_size e
 | xd fs=>obtain ⟨_,⟨_,_,_,e,_⟩,_⟩:=x;exact Heap.lt_size e
 | rng lo hi=>obtain ⟨_,_,_,e⟩:=x;exact Heap.lt_size e
 | frz ob u=>obtain ⟨e,_⟩:=x;exact Heap.lt_size e
 | tbl ps=>exact Heap.lt_size (show h.get? a=some _ from x)
 | met f y=>exact Heap.lt_size (show h.get? a=some _ from x)
 | ext φ=>obtain ⟨_,⟨_,e⟩,_⟩:=x;exact Heap.lt_size e
theorem Paired.mapP {α β:Type}{F G:α→β→Prop}:∀ {l₁:List α}{l₂:List β},Paired F l₁ l₂→(∀ a b,F a b→G a b)→Paired G l₁ l₂
 | _,_,.nil,_=>.nil
 | _,_,.cons r t,f=>.cons (f _ _ r) (Paired.mapP t f)
theorem Js0.stay (x:Js0 P w H h a o) (k:∀ b u,(b=a∨H b=some (.own a))→h.get? b=some u→h'.get? b=some u)
  (ho:∀ b,H b=some (.own a)→H' b=some (.own a)) (ht:∀ b xs,H b=some (.tup xs)→H' b=some (.tup xs)):Js0 P w H' h' a o:=by
 induction o with
 | lst xs=>obtain ⟨z,its,n,r,e⟩:=x;exact ⟨z,its,n,r,k _ _ (.inl rfl) e⟩
 | tup xs=>obtain ⟨z,its,r,ob,e,c⟩:=x;exact ⟨z,its,r,ob,k _ _ (.inl rfl) e,c⟩
 | dK kvs=>obtain ⟨z,y,vs,r,ob,es,ep,e,c⟩:=x;exact ⟨z,y,vs,r,ob,es,ep,k _ _ (.inl rfl) e,c⟩
 | dT kvs =>
  obtain ⟨z,y,xs,r,ob,es,ep,e,c⟩:=x
  exact ⟨z,y,xs,Paired.mapP r fun p q z=>⟨z.1,ht _ _ z.2.1,z.2.2⟩,ob,es,ep,k _ _ (.inl rfl) e,c⟩
 | set S n=>obtain ⟨ob,es,ep,t,e,c⟩:=x;exact ⟨ob,es,ep,t,k _ _ (.inl rfl) e,c⟩
 | ins C dx fs =>
  obtain ⟨d,z,ne,e,mA,⟨od,es,ep,e2,c⟩,r⟩:=x
  exact ⟨ho _ d,z,ne,k _ _ (.inl rfl) e,mA,⟨od,es,ep,k _ _ (.inr d) e2,c⟩,r⟩
 | own y=>obtain ⟨ob,e⟩:=x;exact ⟨ob,k _ _ (.inl rfl) e⟩
 | xd fs=>obtain ⟨mA,⟨od,es,ep,e,c⟩,r⟩:=x;exact ⟨mA,⟨od,es,ep,k _ _ (.inl rfl) e,c⟩,r⟩
 | rng lo hi=>obtain ⟨t,u,v,e⟩:=x;exact ⟨t,u,v,k _ _ (.inl rfl) e⟩
 | frz ob u ih=>obtain ⟨e,q⟩:=x;exact ⟨k _ _ (.inl rfl) e,ih q⟩
 | tbl ps =>
  have e:h.get? a=some { cls:=.none,data:=.fields ps }:=x
  show h'.get? a=some { cls:=.none,data:=.fields ps }
  exact k a _ (.inl rfl) e
 | met f y =>
  have e:h.get? a=some (PySem.W.methodObj (.ref f) (.ref y)):=x
  show h'.get? a=some (PySem.W.methodObj (.ref f) (.ref y))
  exact k a _ (.inl rfl) e
 | ext φ=>obtain ⟨p,⟨o,e⟩,st⟩:=x;exact ⟨st _ _ p fun o q=>k _ _ (.inl rfl) q,⟨o,k _ _ (.inl rfl) e⟩,st⟩
theorem HOk.lt (x:HOk P w H h) (e:H a=some o):a<h.objs.size:=(x a o e).lt
theorem HOk.fresh (x:HOk P w H h) (e:h.objs.size≤a):H a=none:=by
 cases q:H a with
 | none=>rfl
 | some u=>exact absurd (Nat.lt_of_lt_of_le (x.lt q) e) (Nat.lt_irrefl _)
theorem HOk.kept (x:HOk P w H h) (k:∀ b u,h.get? b=some u→h'.get? b=some u):HOk P w H h':=fun a o e =>
 (x a o e).stay (fun b u _ q=>k b u q) (fun _ q=>q) fun _ _ q=>q
theorem HOk.laid (x:HOk P w H h) (k:∀ b u,h.get? b=some u→h'.get? b=some u) (hp:h.objs.size≤a) (new:Js0 P w (upd H a o) h' a o):HOk P w (upd H a o) h':=fun b u e=>by
 have hn:=x.fresh hp
 by_cases hb:b=a
 ·subst hb;rw [Zm0] at e;cases e;exact new
 ·rw [Zn0 hb] at e
  exact (x b u e).stay (fun c v _ q=>k c v q) (fun c q=>by rw [Zn0 (Ys0 q hn)];exact q) fun c xs q=>by rw [Zn0 (Ys0 q hn)];exact q
end
def Rd (H:Hp) (a:Addr) (u:HO):Prop:=H a=some u∨∃ o,H a=some (.frz o u)
theorem Rd.ok {P:Program}{w:World}{H:Hp}{h:Heap}{a:Addr}{u:HO} (r:Rd H a u) (x:HOk P w H h):Js0 P w H h a u:=by
 rcases r with r | ⟨o,r⟩
 ·exact x a u r
 ·obtain ⟨_,q⟩:=x a _ r
  exact q
def Mut:Option HO→Prop
 | some (.lst _)=>True
 | some (.dK _)=>True
 | some (.dT _)=>True
 | some (.set _ _)=>True
 | some (.ins _ _ _)=>True
 | some (.ext _)=>True
 | _=>False
section
variable {P:Program}{w:World}{H:Hp}{h h':Heap}{x e:Addr}{o':HO}
theorem HOk.write (ok:HOk P w H h) (mu:Mut (H x)) (he:e=x∨H e=some (.own x)) (k:∀ b u,b≠e→h.get? b=some u→h'.get? b=some u) (heo:∃ u,h'.get? e=some u)
  (new:Js0 P w (upd H x o') h' x o'):HOk P w (upd H x o') h':=fun b u q=>by
 have nown:∀ c y,H c=some (.own y)→c≠x:=fun c y r z=>by subst z;rw [r] at mu;exact mu
 have ntup:∀ c xs,H c=some (.tup xs)→c≠x:=fun c xs r z=>by subst z;rw [r] at mu;exact mu
 by_cases hb:b=x
 ·subst hb;rw [Zm0] at q;cases q;exact new
 ·rw [Zn0 hb] at q
  by_cases hbe:b=e
  ·have q':H b=some (.own x):=by
    rcases he with z | z
    ·exact absurd (hbe.trans z) hb
    ·rw [hbe];exact z
   rw [q] at q';cases q'
   obtain ⟨v,hv⟩:=heo
   exact ⟨v,by rw [hbe];exact hv⟩
  ·refine (ok b u q).stay (fun c v hc r=>k c v ?_ r) (fun c r=>by rw [Zn0 (nown c b r)];exact r) fun c xs r=>by rw [Zn0 (ntup c xs r)];exact r
   rcases hc with rfl | hc
   ·exact hbe
   ·rintro rfl
    rcases he with z | z
    ·exact nown c b hc z
    ·rw [hc] at z;cases z;exact hb rfl
end
structure Un (fs ex:List Addr) (H H':Hp) (h h':Heap):Prop where
 keep:∀ b o,h.get? b=some o→H b=none→b ∉ fs→b ∉ ex→h'.get? b=some o
 slot:∀ b o,h.get? b=some o→H b=none→b∈fs→b ∉ ex→∃ sl,h'.get? b=some { o with slots:=sl }
 free:∀ b o,h.get? b=some o→H b=none→b ∉ ex→H' b=none
 there:∀ b o,h.get? b=some o→b ∉ ex→∃ o',h'.get? b=some o'
 tups:∀ b xs,H b=some (.tup xs)→H' b=some (.tup xs)
 frzs:∀ b o u,H b=some (.frz o u)→H' b=some (.frz o u)
 tbls:∀ b ps,H b=some (.tbl ps)→∃ more,H' b=some (.tbl (ps++more))
section
variable {fs fs' ex ex':List Addr}{H H1 H2:Hp}{h h1 h2 h':Heap}{a x e:Addr}{o:HO}
theorem Un.any (u:Un fs ex H H1 h h1) {b:Addr}{ob:Obj} (q:h.get? b=some ob) (n:H b=none) (hx:b ∉ ex):∃ sl,h1.get? b=some { ob with slots:=sl }:=by
 by_cases hb:b∈fs
 ·exact u.slot b ob q n hb hx
 ·exact ⟨ob.slots,u.keep b ob q n hb hx⟩
theorem Un.kept (k:∀ b u,h.get? b=some u→h'.get? b=some u):Un fs ex H H h h' :=
 ⟨fun b ob q _ _ _=>k b ob q,fun b ob q _ _ _=>⟨ob.slots,k b ob q⟩,fun _ _ _ n _=>n,fun b ob q _=>⟨ob,k b ob q⟩,fun _ _ q=>q,fun _ _ _ q=>q,fun _ ps q=>⟨#[],by rw [q];simp⟩⟩
theorem Un.refl:Un fs ex H H h h:=Un.kept fun _ _ q=>q
theorem Un.laid (k:∀ b u,h.get? b=some u→h'.get? b=some u) (hp:h.objs.size≤a) (hn:H a=none):Un fs ex H (upd H a o) h h' where
 keep:=fun b u q _ _ _=>k b u q
 slot:=fun b u q _ _ _=>⟨u.slots,k b u q⟩
 free:=fun b u q n _=>by rw [Zn0 (Nat.ne_of_lt (Nat.lt_of_lt_of_le (Heap.lt_size q) hp))];exact n
 there:=fun b u q _=>⟨u,k b u q⟩
 tups:=fun b xs q=>by rw [Zn0 (Ys0 q hn)];exact q
 frzs:=fun b u xs q=>by rw [Zn0 (Ys0 q hn)];exact q
 tbls:=fun b ps q=>⟨#[],by rw [Zn0 (Ys0 q hn),q];simp⟩
theorem Un.write (mu:Mut (H x)) (he:e=x∨H e=some (.own x)) (k:∀ b u,b≠e→h.get? b=some u→h'.get? b=some u) (heo:∃ u,h'.get? e=some u):Un fs ex H (upd H x o) h h':=by
 have hx:∀ b,H b=none→b≠x:=fun b n z=>by subst z;rw [n] at mu;exact mu
 have hb:∀ b,H b=none→b≠e:=fun b n z=>by
  subst z
  rcases he with r | r
  ·exact hx b n r
  ·rw [n] at r;cases r
 have hm:∀ b u,H b=some u→¬ Mut (some u)→b≠x:=fun b u q nm z=>by subst z;rw [q] at mu;exact nm mu
 refine ⟨fun b u q n _ _=>k b u (hb b n) q,fun b u q n _ _=>⟨u.slots,k b u (hb b n) q⟩,fun b u q n _=>by rw [Zn0 (hx b n)];exact n,fun b u q _=>?_,
  fun b xs q=>by rw [Zn0 (hm b _ q fun z=>z)];exact q,fun b u xs q=>by rw [Zn0 (hm b _ q fun z=>z)];exact q,fun b ps q=>⟨#[],by rw [Zn0 (hm b _ q fun z=>z),q];simp⟩⟩
 by_cases hbe:b=e
 ·subst hbe;exact heo
 ·exact ⟨u,k b u hbe q⟩
end
def trk (h:Heap) (H:Hp):List Addr:=(List.range h.objs.size).filter fun a=>(H a).isSome
def Xu6 (h:Heap) (H:Hp):Heap:=PySem.W.hideAll h (trk h H)
theorem Us5 (h:Heap) (H:Hp):(Xu6 h H).objs.size=h.objs.size:=PySem.W.hideAll_size _ _
theorem Xt6 {h:Heap}{H:Hp}{b:Addr}{o:Obj} (e:h.get? b=some o) (n:H b=none):(Xu6 h H).get? b=some o :=
 PySem.W.hideAll_get _ e fun hm=>by
  have q:(H b).isSome=true:=(List.mem_filter.mp hm).2
  rw [n] at q;simp at q
theorem Ut7 {h:Heap}{H:Hp}{b:Addr}{o:Obj} (e:(Xu6 h H).get? b=some o):h.get? b=some o∧H b=none:=by
 have e':h.get? b=some o:=PySem.W.of_hideAll (trk h H) e
 refine ⟨e',?_⟩
 cases q:H b with
 | none=>rfl
 | some x =>
  have hm:b∈trk h H:=List.mem_filter.mpr ⟨List.mem_range.mpr (Heap.lt_size e'),by simp [q]⟩
  have z:(Xu6 h H).get? b=none:=PySem.W.hideAll_none (trk h H) hm
  rw [z] at e;cases e
def Zg8 (g h:Heap) (L:Addr):List (Addr×Obj):=(List.range h.objs.size).filterMap fun a=>if a=L∨(g.get? a).isSome=true then none else (h.get? a).map fun o=>(a,o)
def rest (g h:Heap) (L d:Addr):List (Addr×Obj):=(Zg8 g h L).filter fun p=>decide (p.1≠d)
end L2
namespace L2
open PySem PySem.Spec PyProof.Rows
structure Mod (K:PySem.W.Frag) (mg:Str→Option Value) (base:Heap):Prop where
 kin:K.In base
 glob:base.Ns mainGlobals mg
 blt:∃ mb,base.Ns builtinsNs mb∧∀ x:Str,x ≠ "__name__" → mb x=bootBuiltins x
 nolimit:base.NoLimit
structure Cx where
 prog:Program
 w:World
 K:PySem.W.Frag
 mg:Str→Option Value
 base:Heap
 A:Around
 N:List Str
 s_0:Shared
 H_0:Hp
 env:Env
 outer:List Env
 stack:List Env
 ex:List Addr
 fn:Str→Bool
 calm:Bool
 pn:List (Addr×Obj)
 xe:Value→Shared→Prop
def frs (l:List Env):List Addr:=l.filterMap (·.frame)
abbrev Cx.fs (X:Cx):List Addr:=frs X.outer
def Vis (sc:Scope) (x:Str):Prop:=sc.names.lookup x=some .local∨sc.names.lookup x=some .cell∨sc.names.lookup x=some .free
def Loc (sc:Scope) (x:Str):Prop:=sc.names.lookup x=some .local∨sc.names.lookup x=some .cell
def Look (env:Env) (h:Heap) (m:Str→Option Value) (x:Str) (u:Value):Prop :=
 (env.kindOf x=some .local∧m x=some u)∨((env.kindOf x=some .cell∨env.kindOf x=some .free)∧∃ c,env.cells.lookup x=some c∧h.IsCell c (some u))
structure Cx.Ok (X:Cx):Prop where
 mod:Mod X.K X.mg X.base
 kind:X.env.scope.kind=.function
 glob:X.env.globals=mainGlobals
 blt:X.env.builtins=builtinsNs
 above:X.s_0.heap.objs.size≤X.env.locals
 inj:∀ x y c,X.env.cells.lookup x=some c→X.env.cells.lookup y=some c→x=y
 has:∀ x,(X.env.kindOf x=some .cell∨X.env.kindOf x=some .free)→∃ c,X.env.cells.lookup x=some c
 cab:∀ x c,X.fn x=true→X.env.cells.lookup x=some c→X.s_0.heap.objs.size≤c
 hd:X.calm=true→X.A.handled=none
 frames:X.A.frames=some X.stack
 stk:X.stack=X.outer∨(X.stack=X.env :: X.outer∧X.env.frame=some X.env.locals)
 exf:∀ b∈X.ex,b≠X.env.locals∧∀ x c,X.env.cells.lookup x=some c→c≠b
 bs:∀ b o,X.base.get? b=some o→X.s_0.heap.get? b=some o∧X.H_0 b=none
 bsz:X.base.objs.size≤X.s_0.heap.objs.size
 noex:∀ b o,X.base.get? b=some o→b ∉ X.ex
 exfs:∀ b∈X.ex,b ∉ X.fs
 funs:X.s_0.heap.FunFrames X.base X.outer
 frf:∀ b∈X.fs,X.H_0 b=none
structure Inv (X:Cx) (pins:List (Addr×Obj)) (σ:List (Option V)) (H:Hp) (s:Shared):Prop where
 ok:X.Ok
 os:s.os=X.s_0.os
 bare:AllBare s.gens
 base:Un X.fs X.ex X.H_0 H X.s_0.heap s.heap
 loc:∃ m,s.heap.Ns X.env.locals m∧∀ (i:Nat) (x:Str) (v:V),X.N[i]? = some x→σ[i]? = some (some v)→Vis X.env.scope x→∃ u,Vp0 v u∧Look X.env s.heap m x u
 cell:∀ x c,X.env.cells.lookup x=some c→∃ v,s.heap.IsCell c v
 free:H X.env.locals=none
 freeC:∀ x c,X.env.cells.lookup x=some c→H c=none
 pin:∀ p∈X.pn++pins,s.heap.get? p.1=some p.2∧H p.1=none∧p.1≠X.env.locals∧p.1 ∉ X.fs∧∀ v,p.2.data ≠ .cell v
 hok:HOk X.prog X.w H s.heap
 len:σ.length=X.N.length
section
variable {X:Cx}{pins:List (Addr×Obj)} {σ:List (Option V)}{H H':Hp}{s:Shared}{h':Heap}
theorem Cx.Ok.nofr (ok:X.Ok) {b:Addr}{o:Obj} (e:X.base.get? b=some o):b ∉ X.fs:=fun hb=>by
 have:=(ok.funs.mem hb).1
 rw [e] at this;cases this
theorem Inv.bs (I:Inv X pins σ H s):∀ b o,X.base.get? b=some o→s.heap.get? b=some o∧H b=none:=fun b o e =>
 ⟨I.base.keep b o (I.ok.bs b o e).1 (I.ok.bs b o e).2 (I.ok.nofr e) (I.ok.noex b o e),I.base.free b o (I.ok.bs b o e).1 (I.ok.bs b o e).2 (I.ok.noex b o e)⟩
theorem Inv.bk (I:Inv X pins σ H s):∀ b o,X.base.get? b=some o→s.heap.get? b=some o:=fun b o e=>(I.bs b o e).1
theorem Inv.mod (I:Inv X pins σ H s):Mod X.K X.mg X.base:=I.ok.mod
theorem Inv.kIn (I:Inv X pins σ H s):X.K.In s.heap:=I.ok.mod.kin.keeps I.bk
theorem Inv.lt (I:Inv X pins σ H s):X.env.locals<s.heap.objs.size:=let ⟨_,hn,_⟩:=I.loc;hn.lt
theorem Inv.sz (I:Inv X pins σ H s):X.s_0.heap.objs.size≤s.heap.objs.size:=Nat.le_trans I.ok.above (Nat.le_of_lt I.lt)
theorem Inv.nofs (I:Inv X pins σ H s) {a:Addr} (h:s.heap.objs.size≤a):a ∉ X.fs:=fun hb=>by
 obtain ⟨_,o,ho,_⟩:=I.ok.funs.mem hb
 exact absurd (Nat.lt_of_lt_of_le (Heap.lt_size ho) (Nat.le_trans I.sz h)) (Nat.lt_irrefl _)
theorem Inv.cne (I:Inv X pins σ H s):∀ x c,X.env.cells.lookup x=some c→c≠X.env.locals:=fun x c e z=>by
 obtain ⟨v,o,ho,hd⟩:=I.cell x c e
 obtain ⟨m,⟨o',es,ep,ho',hd',_⟩,_⟩:=I.loc
 rw [z,ho'] at ho;cases ho;rw [hd'] at hd;cases hd
theorem Inv.funs (I:Inv X pins σ H s):s.heap.FunFrames X.base X.outer:=by
 have all:∀ (l:List Env),(∀ b∈frs l,b∈X.fs)→X.s_0.heap.FunFrames X.base l→s.heap.FunFrames X.base l:=by
  intro l
  induction l with
  | nil=>intro _ _;trivial
  | cons env r ih =>
   intro hs hl
   obtain ⟨hk,⟨L,o,hf,hn,ho,hd⟩,hr⟩:=hl
   have hL:L∈X.fs:=hs L (by unfold frs;rw [List.filterMap_cons,hf];exact List.mem_cons_self)
   obtain ⟨sl,e⟩:=I.base.slot L o ho (I.ok.frf L hL) hL fun z=>I.ok.exfs L z hL
   exact ⟨hk,⟨L,_,hf,hn,e,hd⟩,ih (fun b hb=>hs b (by unfold frs;rw [List.filterMap_cons,hf];exact List.mem_cons_of_mem _ hb)) hr⟩
 exact all X.outer (fun _ hb=>hb) I.ok.funs
theorem Inv.stack (I:Inv X pins σ H s):s.heap.FunFrames X.base X.stack:=by
 rcases I.ok.stk with e | ⟨e,hf⟩
 ·rw [e];exact I.funs
 ·rw [e]
  obtain ⟨m,hn,_⟩:=I.loc
  refine .cons (by rw [I.ok.kind];decide) hf hn ?_ I.funs
  exact Heap.get?_none_of_le (Nat.le_trans I.ok.bsz I.ok.above)
theorem Inv.stkSub (I:Inv X pins σ H s):∀ b∈frs X.stack,b∈X.env.locals :: X.fs:=fun b hb=>by
 rcases I.ok.stk with e | ⟨e,hf⟩
 ·rw [e] at hb;exact List.mem_cons_of_mem _ hb
 ·rw [e] at hb
  unfold frs at hb
  rw [List.filterMap_cons,hf] at hb
  exact hb
theorem Inv.stkFree (I:Inv X pins σ H s):∀ b∈frs X.stack,H b=none:=fun b hb=>by
 rcases List.mem_cons.mp (I.stkSub b hb) with e | hb
 ·rw [e];exact I.free
 ·obtain ⟨_,o,ho,_⟩:=I.ok.funs.mem hb
  exact I.base.free b o ho (I.ok.frf b hb) fun z=>I.ok.exfs b z hb
theorem Inv.step {g':Array GenState}{t':Nat}{d':Drawn}{ch:List Addr} (I:Inv X pins σ H s)
  (hch:∀ b∈ch,(b∈X.ex∨X.s_0.heap.objs.size≤b)∧b≠X.env.locals∧(∀ x c,X.env.cells.lookup x=some c→c≠b)∧∀ p∈X.pn++pins,p.1≠b)
  (keep:∀ b o,b≠X.env.locals→b ∉ X.fs→b ∉ ch→s.heap.get? b=some o→H b=none→h'.get? b=some o)
  (slot:∀ b o,b≠X.env.locals→b∈X.fs→b ∉ ch→s.heap.get? b=some o→H b=none→∃ sl,h'.get? b=some { o with slots:=sl }) (free:∀ b o,b ∉ ch→s.heap.get? b=some o→H b=none→H' b=none)
  (there:∀ b o,b ∉ ch→s.heap.get? b=some o→∃ o',h'.get? b=some o')
  (tups:∀ b xs,H b=some (.tup xs)→H' b=some (.tup xs)) (frzs:∀ b o u,H b=some (.frz o u)→H' b=some (.frz o u)) (tbls:∀ b ps,H b=some (.tbl ps)→∃ more,H' b=some (.tbl (ps++more)))
  (ns:∀ m,s.heap.Ns X.env.locals m→h'.Ns X.env.locals m) (hok:HOk X.prog X.w H' h') (hg:AllBare g') :
  Inv X pins σ H' { s with heap:=h',gens:=g',drawn:=d',toks:=t' }:=by
 have neL:∀ b o,X.s_0.heap.get? b=some o→b≠X.env.locals:=fun b o e=>Nat.ne_of_lt (Nat.lt_of_lt_of_le (Heap.lt_size e) I.ok.above)
 have neC:∀ b o,X.s_0.heap.get? b=some o→b ∉ X.ex→b ∉ ch:=fun b o e hx hb=>by
  rcases (hch b hb).1 with z | z
  ·exact hx z
  ·exact absurd (Nat.lt_of_lt_of_le (Heap.lt_size e) z) (Nat.lt_irrefl _)
 have cellK:∀ x c,X.env.cells.lookup x=some c→∀ v,s.heap.IsCell c v→h'.IsCell c v:=fun x c e v ⟨o,ho,hd⟩=>by
  have nch:c ∉ ch:=fun z=>(hch c z).2.2.1 x c e rfl
  by_cases hc:c∈X.fs
  ·obtain ⟨sl,q⟩:=slot c o (I.cne x c e) hc nch ho (I.freeC x c e)
   exact ⟨_,q,hd⟩
  ·exact ⟨o,keep c o (I.cne x c e) hc nch ho (I.freeC x c e),hd⟩
 refine ⟨I.ok,I.os,hg,⟨fun b o e n hb hx=>?_,fun b o e n hb hx=>?_,fun b o e n hx=>?_,fun b o e hx=>?_,fun b xs e=>tups b xs (I.base.tups b xs e),fun b o xs e=>frzs b o xs (I.base.frzs b o xs e),fun b ps e=>?_⟩,?_,fun x c e=>?_,?_,fun x c e=>?_,fun p hp=>?_,hok,I.len⟩
 ·exact keep b o (neL b o e) hb (neC b o e hx) (I.base.keep b o e n hb hx) (I.base.free b o e n hx)
 ·obtain ⟨sl,e1⟩:=I.base.slot b o e n hb hx
  obtain ⟨sl',e2⟩:=slot b _ (neL b o e) hb (neC b o e hx) e1 (I.base.free b o e n hx)
  exact ⟨sl',e2⟩
 ·obtain ⟨o',e1⟩:=I.base.there b o e hx
  exact free b o' (neC b o e hx) e1 (I.base.free b o e n hx)
 ·obtain ⟨o',e1⟩:=I.base.there b o e hx
  exact there b o' (neC b o e hx) e1
 ·obtain ⟨m1,e1⟩:=I.base.tbls b ps e
  obtain ⟨m2,e2⟩:=tbls b _ e1
  exact ⟨m1++m2,by rw [e2,Array.append_assoc]⟩
 ·obtain ⟨m,hn,hl⟩:=I.loc
  refine ⟨m,ns m hn,fun i x v e1 e2 e3=>?_⟩
  obtain ⟨u,r,l⟩:=hl i x v e1 e2 e3
  refine ⟨u,r,?_⟩
  rcases l with l | ⟨k,c,e,z⟩
  ·exact .inl l
  ·exact .inr ⟨k,c,e,cellK x c e _ z⟩
 ·obtain ⟨v,z⟩:=I.cell x c e
  exact ⟨v,cellK x c e v z⟩
 ·obtain ⟨m,⟨o,_,_,ho,_⟩,_⟩:=I.loc
  exact free _ o (fun z=>(hch _ z).2.1 rfl) ho I.free
 ·obtain ⟨v,o,ho,hd⟩:=I.cell x c e
  exact free c o (fun z=>(hch c z).2.2.1 x c e rfl) ho (I.freeC x c e)
 ·obtain ⟨e,n,ne,nf,d⟩:=I.pin p hp
  have nch:p.1 ∉ ch:=fun z=>(hch p.1 z).2.2.2 p hp rfl
  exact ⟨keep p.1 p.2 ne nf nch e n,free p.1 p.2 nch e n,ne,nf,d⟩
theorem Inv.un {t':Nat} (I:Inv X pins σ H s) (u:Un X.fs [] H H' s.heap h') (hok:HOk X.prog X.w H' h'):Inv X pins σ H' { s with heap:=h',toks:=t' }:=by
 obtain ⟨m,⟨o,es,ep,ho,r⟩,_⟩:=id I.loc
 obtain ⟨sl,hL⟩:=u.any ho I.free (by simp)
 exact I.step (g':=s.gens) (d':=s.drawn) (ch:=[]) (fun _ z=>nomatch z) (fun b o _ hb _ e n=>u.keep b o e n hb (by simp)) (fun b o _ hb _ e n=>u.slot b o e n hb (by simp)) (fun b o _ e n=>u.free b o e n (by simp)) (fun b o _ e=>u.there b o e (by simp)) u.tups u.frzs u.tbls (fun m' hm=>by
  obtain ⟨o',es',ep',ho',r'⟩:=hm
  rw [ho] at ho';cases ho'
  exact ⟨_,es',ep',hL,r'⟩) hok I.bare
theorem Inv.call {g':Array GenState}{t':Nat}{d':Drawn}{ch:List Addr} (I:Inv X pins σ H s) (u:Un (frs X.stack) ch H H' s.heap h') (hok:HOk X.prog X.w H' h') (hg:AllBare g')
  (hch:∀ b∈ch,(b∈X.ex∨X.s_0.heap.objs.size≤b)∧b≠X.env.locals∧(∀ x c,X.env.cells.lookup x=some c→c≠b)∧∀ p∈X.pn++pins,p.1≠b) :
  Inv X pins σ H' { s with heap:=h',gens:=g',drawn:=d',toks:=t' }:=by
 obtain ⟨m,⟨o,es,ep,ho,r⟩,_⟩:=id I.loc
 obtain ⟨sl,hL⟩:=u.any ho I.free fun z=>(hch _ z).2.1 rfl
 exact I.step (ch:=ch) hch (fun b o hL hb hc e n=>u.keep b o e n (fun z=>(List.mem_cons.mp (I.stkSub b z)).elim hL hb) hc) (fun b o _ _ hc e n=>u.any e n hc) (fun b o hc e n=>u.free b o e n hc) (fun b o hc e=>u.there b o e hc) u.tups u.frzs u.tbls (fun m' hm=>by
  obtain ⟨o',es',ep',ho',r'⟩:=hm
  rw [ho] at ho';cases ho'
  exact ⟨_,es',ep',hL,r'⟩) hok hg
theorem Inv.turned {t':Nat}{it:Addr} (I:Inv X pins σ H s) (k:∀ b o,b≠it→s.heap.get? b=some o→h'.get? b=some o) (hn:H it=none) (hL:it≠X.env.locals)
  (h1:it∈X.ex∨X.s_0.heap.objs.size≤it) (h2:∀ x c,X.env.cells.lookup x=some c→c≠it) (h3:∀ p∈X.pn++pins,p.1≠it):Inv X pins σ H { s with heap:=h',toks:=t' }:=by
 have nit:∀ b u,H b=some u→b≠it:=fun b u e z=>by rw [z,hn] at e;cases e
 refine I.step (g':=s.gens) (d':=s.drawn) (ch:=[it]) (fun b hb=>?_) (fun b o _ _ hc e _=>k b o (fun z=>hc (by simp [z])) e) (fun b o _ _ hc e _=>⟨o.slots,k b o (fun z=>hc (by simp [z])) e⟩) (fun _ _ _ _ n=>n)
  (fun b o hc e=>⟨o,k b o (fun z=>hc (by simp [z])) e⟩) (fun _ _ e=>e) (fun _ _ _ e=>e) (fun b ps e=>⟨#[],by rw [e];simp⟩) (fun m hm=>?_) (fun b u e=>?_) I.bare
 ·have e:b=it:=by simpa using hb
  subst e
  exact ⟨h1,hL,h2,h3⟩
 ·obtain ⟨o,es,ep,ho,r⟩:=hm
  exact ⟨o,es,ep,k _ o (Ne.symm hL) ho,r⟩
 ·refine (I.hok b u e).stay (fun c v hc q=>k c v ?_ q) (fun _ q=>q) fun _ _ q=>q
  rcases hc with z | z
  ·rw [z];exact nit b u e
  ·exact nit c _ z
theorem Inv.tok (I:Inv X pins σ H s) (t:Nat):Inv X pins σ H { s with toks:=t }:=I.un (h':=s.heap) (t':=t) Un.refl I.hok
theorem Inv.kept {t':Nat} (I:Inv X pins σ H s) (k:∀ b u,s.heap.get? b=some u→h'.get? b=some u):Inv X pins σ H { s with heap:=h',toks:=t' }:=I.un (Un.kept k) (I.hok.kept k)
theorem Inv.laid {a:Addr}{o:HO}{t':Nat} (I:Inv X pins σ H s) (k:∀ b u,s.heap.get? b=some u→h'.get? b=some u) (hp:s.heap.objs.size≤a) (new:Js0 X.prog X.w (upd H a o) h' a o) :
  Inv X pins σ (upd H a o) { s with heap:=h',toks:=t' }:=I.un (Un.laid k hp (I.hok.fresh hp)) (I.hok.laid k hp new)
theorem Inv.write {x e:Addr}{o:HO}{t':Nat} (I:Inv X pins σ H s) (mu:Mut (H x)) (he:e=x∨H e=some (.own x)) (k:∀ b u,b≠e→s.heap.get? b=some u→h'.get? b=some u) (heo:∃ u,h'.get? e=some u)
  (new:Js0 X.prog X.w (upd H x o) h' x o):Inv X pins σ (upd H x o) { s with heap:=h',toks:=t' }:=I.un (Un.write mu he k heo) (I.hok.write mu he k heo new)
theorem Inv.weak {σ':List (Option V)} (I:Inv X pins σ H s) (hl:σ'.length=σ.length) (w:∀ (i:Nat) v,σ'[i]? = some (some v)→σ[i]? = some (some v)):Inv X pins σ' H s :=
 ⟨I.ok,I.os,I.bare,I.base,let ⟨m,hn,hl'⟩:=I.loc;⟨m,hn,fun i x v e1 e2 e3=>hl' i x v e1 (w i v e2) e3⟩,I.cell,I.free,I.freeC,I.pin,I.hok,hl.trans I.len⟩
theorem Inv.pins_of {pins':List (Addr×Obj)} (I:Inv X pins σ H s) (h:∀ p∈pins',s.heap.get? p.1=some p.2∧H p.1=none∧p.1≠X.env.locals∧p.1 ∉ X.fs∧∀ v,p.2.data ≠ .cell v):Inv X pins' σ H s :=
 ⟨I.ok,I.os,I.bare,I.base,I.loc,I.cell,I.free,I.freeC,fun p hp=>(List.mem_append.mp hp).elim (fun z=>I.pin p (List.mem_append_left _ z)) (h p),I.hok,I.len⟩
theorem Zs3 {N:List Str} (hN:N.Nodup) {i j:Nat}{x:Str} (a:N[i]? = some x) (b:N[j]? = some x):i=j:=by
 obtain ⟨h1,e1⟩:=List.getElem?_eq_some_iff.mp a
 obtain ⟨h2,e2⟩:=List.getElem?_eq_some_iff.mp b
 exact (List.getElem_inj hN).mp (e1.trans e2.symm)
theorem Zn5 {M:Model}{A:Around}{E:Value→Shared→Prop}{i:Nat}{x:Str}{v:V}{u:Value}{Q:Unit→Shared→Prop} (I:Inv X pins σ H s) (hN:X.N.Nodup) (hi:X.N[i]? = some x) (hx:Loc X.env.scope x) (r:Vp0 v u)
  (h:∀ s',Inv X pins (σ.set i (some v)) H s'→(∃ a,Heap.SameBut a s.heap s'.heap∧(a=X.env.locals∨X.env.cells.lookup x=some a))→Q () s') (hf:X.fn x=true∨X.env.scope.names.lookup x=some .local:=by first | exact .inl rfl | exact .inr rfl | assumption):wpAny M A (storeName X.env x u) Q E s:=by
 obtain ⟨m,hn,hl⟩:=id I.loc
 have hcls:(X.env.scope.kind == .class || (X.env.scope.kind == .module && X.env.locals != X.env.globals))=false:=by rw [I.ok.kind];rfl
 have hiσ:i<σ.length:=by rw [I.len];exact (List.getElem?_eq_some_iff.mp hi).1
 have cne:=I.cne
 have tracked:∀ {a:Addr}{h':Heap},(∃ o,s.heap.get? a=some o∧H a=none)→Heap.SameBut a s.heap h'→HOk X.prog X.w H h':=fun {a h'} ha hs b ob e=>by
  obtain ⟨_,_,hfree⟩:=ha
  refine (I.hok b ob e).stay (fun c w' hc q=>(hs.2 c ?_).trans q) (fun _ q=>q) fun _ _ q=>q
  rintro rfl
  rcases hc with rfl | hc
  ·rw [hfree] at e;cases e
  ·rw [hfree] at hc;cases hc
 rcases hx with hk | hk
 ·refine wpAny_storeName_local hk hn (fun h' hn' hs=>?_) hcls
  obtain ⟨oL,_,_,hoL,_⟩:=id hn
  refine h _ ⟨I.ok,I.os,I.bare,⟨fun b o e n hb hx=>?_,fun b o e n hb hx=>?_,I.base.free,fun b o e hx=>?_,I.base.tups,I.base.frzs,I.base.tbls⟩,⟨_,hn',fun j y v' e1 e2 e3=>?_⟩,fun y c e=>?_,I.free,I.freeC,fun p hp=>?_,tracked ⟨oL,hoL,I.free⟩ hs,by simpa using I.len⟩ ⟨_,hs,.inl rfl⟩
  ·exact (hs.2 b (Nat.ne_of_lt (Nat.lt_of_lt_of_le (Heap.lt_size e) I.ok.above))).trans (I.base.keep b o e n hb hx)
  ·obtain ⟨sl,e1⟩:=I.base.slot b o e n hb hx
   exact ⟨sl,(hs.2 b (Nat.ne_of_lt (Nat.lt_of_lt_of_le (Heap.lt_size e) I.ok.above))).trans e1⟩
  ·obtain ⟨o',e1⟩:=I.base.there b o e hx
   exact ⟨o',(hs.2 b (Nat.ne_of_lt (Nat.lt_of_lt_of_le (Heap.lt_size e) I.ok.above))).trans e1⟩
  ·by_cases hj:j=i
   ·subst hj
    rw [hi] at e1;cases e1
    rw [List.getElem?_set_self hiσ] at e2
    cases e2
    exact ⟨u,r,.inl ⟨hk,by simp⟩⟩
   ·rw [List.getElem?_set_ne (Ne.symm hj)] at e2
    obtain ⟨u',r',q⟩:=hl j y v' e1 e2 e3
    refine ⟨u',r',?_⟩
    rcases q with ⟨k,e⟩ | ⟨k,c,e,z⟩
    ·refine .inl ⟨k,?_⟩
     have:y≠x:=fun e=>hj (Zs3 hN e1 (e ▸ hi))
     simp [this,e]
    ·exact .inr ⟨k,c,e,z.sameBut hs (cne y c e)⟩
  ·obtain ⟨w',z⟩:=I.cell y c e
   exact ⟨w',z.sameBut hs (cne y c e)⟩
  ·obtain ⟨e,n,ne,nf,d⟩:=I.pin p hp
   exact ⟨(hs.2 p.1 ne).trans e,n,ne,nf,d⟩
 ·have hfn:X.fn x=true:=by
   rcases hf with z | z
   ·exact z
   ·rw [z] at hk;cases hk
  obtain ⟨c,hc⟩:=I.ok.has x (.inl hk)
  obtain ⟨w',z⟩:=I.cell x c hc
  refine wpAny_storeName_cell I.ok.kind hk hc z (fun h' hc' hs=>?_)
  obtain ⟨oc,hoc,hocd⟩:=id z
  refine h { s with heap:=h' } ⟨I.ok,I.os,I.bare,⟨fun b o e n hb hx=>?_,fun b o e n hb hx=>?_,I.base.free,fun b o e hx=>?_,I.base.tups,I.base.frzs,I.base.tbls⟩,⟨m,hn.sameBut hs (Ne.symm (cne x c hc)),fun j y v' e1 e2 e3=>?_⟩,fun y c' e=>?_,I.free,I.freeC,fun p hp=>?_,tracked ⟨oc,hoc,I.freeC x c hc⟩ hs,by simpa using I.len⟩ ⟨c,hs,.inr hc⟩
  ·exact (hs.2 b (Nat.ne_of_lt (Nat.lt_of_lt_of_le (Heap.lt_size e) (I.ok.cab x c hfn hc)))).trans (I.base.keep b o e n hb hx)
  ·obtain ⟨sl,e1⟩:=I.base.slot b o e n hb hx
   exact ⟨sl,(hs.2 b (Nat.ne_of_lt (Nat.lt_of_lt_of_le (Heap.lt_size e) (I.ok.cab x c hfn hc)))).trans e1⟩
  ·obtain ⟨o',e1⟩:=I.base.there b o e hx
   exact ⟨o',(hs.2 b (Nat.ne_of_lt (Nat.lt_of_lt_of_le (Heap.lt_size e) (I.ok.cab x c hfn hc)))).trans e1⟩
  ·by_cases hj:j=i
   ·subst hj
    rw [hi] at e1;cases e1
    rw [List.getElem?_set_self hiσ] at e2
    cases e2
    exact ⟨u,r,.inr ⟨.inl hk,c,hc,hc'⟩⟩
   ·rw [List.getElem?_set_ne (Ne.symm hj)] at e2
    obtain ⟨u',r',q⟩:=hl j y v' e1 e2 e3
    refine ⟨u',r',?_⟩
    rcases q with q | ⟨k,c',e,z'⟩
    ·exact .inl q
    ·refine .inr ⟨k,c',e,z'.sameBut hs ?_⟩
     rintro rfl
     exact hj (Zs3 hN e1 (I.ok.inj _ _ _ e hc ▸ hi))
  ·by_cases hcc:c'=c
   ·subst hcc;exact ⟨_,hc'⟩
   ·obtain ⟨w2,z2⟩:=I.cell y c' e
    exact ⟨w2,z2.sameBut hs hcc⟩
  ·obtain ⟨e,n,ne,nf,d⟩:=I.pin p hp
   refine ⟨(hs.2 p.1 ?_).trans e,n,ne,nf,d⟩
   intro q
   rw [q,hoc] at e
   have q':oc=p.2:=Option.some.inj e
   exact d w' (by rw [← q'];exact hocd)
theorem Jo2 {M:Model}{A:Around}{E:Value→Shared→Prop}{i:Nat}{x:Str}{v:V}{u:Value}{Q:Unit→Shared→Prop} (I:Inv X pins σ H s) (hN:X.N.Nodup) (hi:X.N[i]? = some x) (hx:Loc X.env.scope x) (r:Vp0 v u)
  (h:∀ s',Inv X pins (σ.set i (some v)) H s'→Q () s') (hf:X.fn x=true∨X.env.scope.names.lookup x=some .local:=by first | exact .inl rfl | exact .inr rfl | assumption):wpAny M A (storeName X.env x u) Q E s :=
 Zn5 I hN hi hx r (fun s' I' _=>h s' I') hf
theorem Inv.call' {s':Shared}{ch:List Addr} (I:Inv X pins σ H s) (ho:s'.os=s.os) (u:Un (frs X.stack) ch H H' s.heap s'.heap) (hok:HOk X.prog X.w H' s'.heap) (hg:AllBare s'.gens)
  (hch:∀ b∈ch,(b∈X.ex∨X.s_0.heap.objs.size≤b)∧b≠X.env.locals∧(∀ x c,X.env.cells.lookup x=some c→c≠b)∧∀ p∈X.pn++pins,p.1≠b):Inv X pins σ H' s':=by
 obtain ⟨h',g',d',t',o'⟩:=s'
 have e:o'=s.os:=ho
 subst e
 exact I.call (g':=g') (t':=t') (d':=d') u hok hg hch
end
abbrev XK:=Value→Option Addr→Hp→Prop
abbrev St:=List (Option V)
abbrev VK:=V→Hp→Prop
abbrev TE:=St→Hp→VK→Prop
abbrev TT:=St→Hp→(Bool→Hp→Prop)→Prop
abbrev TA:=St→Hp→(List V→Hp→Prop)→Prop
structure Zd6 where
 nx:St→Hp→Prop
 rt:VK
 bk:St→Hp→Prop:=fun _ _=>False
 ct:St→Hp→Prop:=fun _ _=>False
abbrev TS:=Zd6→St→Hp→Prop
def EP (X:Cx) (pins:List (Addr×Obj)) (σ:St) (Q:VK) (u:Value) (s':Shared):Prop:=∃ v H',Inv X pins σ H' s'∧Vp0 v u∧Q v H'
def TP (X:Cx) (pins:List (Addr×Obj)) (σ:St) (Q:Bool→Hp→Prop) (b:Bool) (s':Shared):Prop:=∃ H',Inv X pins σ H' s'∧Q b H'
def AP (X:Cx) (pins:List (Addr×Obj)) (σ:St) (Q:List V→Hp→Prop) (us:List Value) (s':Shared):Prop:=∃ vs H',Inv X pins σ H' s'∧Xw0 vs us∧Q vs H'
def SP (X:Cx) (pins:List (Addr×Obj)) (D:Zd6) (f:Flow) (s':Shared):Prop :=
 match f with
 | .next=>∃ σ' H',Inv X pins σ' H' s'∧D.nx σ' H'
 | .brk=>∃ σ' H',Inv X pins σ' H' s'∧D.bk σ' H'
 | .cont=>∃ σ' H',Inv X pins σ' H' s'∧D.ct σ' H'
 | .ret u=>∃ v σ' H',Inv X pins σ' H' s'∧Vp0 v u∧D.rt v H'
def PE (X:Cx) (e:Expr) (t:TE):Prop :=
 ∀ (pins:List (Addr×Obj)) (s:Shared) (σ:St) (H:Hp) (Q:VK),Inv X pins σ H s→t σ H Q→wpAny (model X.prog X.w) X.A (eval e X.env) (EP X pins σ Q) X.xe s
def PT (X:Cx) (e:Expr) (t:TT):Prop :=
 ∀ (pins:List (Addr×Obj)) (s:Shared) (σ:St) (H:Hp) (Q:Bool→Hp→Prop),Inv X pins σ H s→t σ H Q→wpAny (model X.prog X.w) X.A (isTrue e X.env (eval e X.env)) (TP X pins σ Q) X.xe s
def PW (X:Cx) (e:Expr) (t:TT):Prop :=
 ∀ (whole:Sem Value) (pins:List (Addr×Obj)) (s:Shared) (σ:St) (H:Hp) (Q:Bool→Hp→Prop),Inv X pins σ H s→t σ H Q→wpAny (model X.prog X.w) X.A (isTrue e X.env whole) (TP X pins σ Q) X.xe s
theorem PW.pt {X:Cx}{e:Expr}{t:TT} (h:PW X e t):PT X e t:=h _
def PA (X:Cx) (es:List Expr) (t:TA):Prop :=
 ∀ (pos:Pos) (pins:List (Addr×Obj)) (s:Shared) (σ:St) (H:Hp) (Q:List V→Hp→Prop),Inv X pins σ H s→t σ H Q→wpAny (model X.prog X.w) X.A (spliced (backTo pos (starEach es X.env))) (AP X pins σ Q) X.xe s
def PS (X:Cx) (st:Stmt) (t:TS):Prop :=
 ∀ (pins:List (Addr×Obj)) (s:Shared) (σ:St) (H:Hp) (D:Zd6),Inv X pins σ H s→t D σ H→wpAny (model X.prog X.w) X.A (exec st X.env) (SP X pins D) X.xe s
def PSs (X:Cx) (st:List Stmt) (t:TS):Prop :=
 ∀ (pins:List (Addr×Obj)) (s:Shared) (σ:St) (H:Hp) (D:Zd6),Inv X pins σ H s→t D σ H→wpAny (model X.prog X.w) X.A (execs st X.env) (SP X pins D) X.xe s
theorem thn {α:Type}{t:Sem α}{Q Q':α→Shared→Prop}{M:Model}{A:Around}{E:Value→Shared→Prop}{s:Shared} (h:wpAny M A t Q E s) (hQ:∀ a s,Q a s→Q' a s):wpAny M A t Q' E s:=wpAny_mono h hQ fun _ _ x=>x
end L2
namespace L2
open PySem PySem.Spec PyProof.Rows
section
variable {X:Cx}
inductive tVar (i:Nat) (σ:St) (H:Hp) (Q:VK):Prop |mk (v:V) (_:σ[i]? = some (some v)) (_:Q v H)
def tC (v:V):TE:=fun _ H Q=>Q v H
theorem Uu6 {i:Nat}{x:Str}{pos:Pos} (hN:X.N[i]? = some x) (hv:Vis X.env.scope x) (hd:(x == ("__debug__" : Str))=false:=by decide) (hcd:(x == ("__classdict__" : Str))=false:=by decide):PE X (.Name x pos) (tVar i):=by
 intro pins s σ H Q I h
 obtain ⟨v,e,h⟩:=h
 obtain ⟨m,hn,hl⟩:=I.loc
 obtain ⟨u,r,l⟩:=hl i x v hN e hv
 have fin:EP X pins σ Q u s:=⟨v,H,I,r,h⟩
 rcases l with ⟨hk,hm⟩ | ⟨hk,c,hc,hcell⟩
 ·exact wpAny_Name (wpAny_loadName_local I.ok.kind hk hn hm fin) hd
 ·rcases hk with hk | hk
  ·exact wpAny_Name (wpAny_loadName_cell I.ok.kind hk hc hcell fin) hd
  ·exact wpAny_Name (wpAny_loadName_free I.ok.kind hk hc hcell fin hcd) hd
theorem Zg0 {i j pos}:PE X (.Constant (.int i) j pos) (tC (.int i)):=fun _ _ _ H _ I h=>wpAny_Constant_int ⟨.int i,H,I.tok _,⟨_,rfl⟩,h⟩
theorem pe_bl {b j pos}:PE X (.Constant (.bool b) j pos) (tC (.bl b)):=fun _ _ _ H _ I h=>Constant_bool ⟨.bl b,H,I,rfl,h⟩
def Gl (X:Cx) (x:Str):Prop:=X.env.kindOf x=some .globalImplicit
theorem Jl1 {E:Value→Shared→Prop}{pins:List (Addr×Obj)}{s:Shared} {σ:St}{H:Hp}{x:Str}{u:Value}{pos:Pos}{Q:Value→Shared→Prop} (I:Inv X pins σ H s) (hg:Gl X x) (hm:X.mg x=some u) (h:Q u s)
  (hd:(x == ("__debug__" : Str))=false:=by decide):wpAny (model X.prog X.w) X.A (eval (.Name x pos) X.env) Q E s :=
 Calls.Name_function_global I.ok.kind hg (Calls.loadGlobal_global (by rw [I.ok.glob];exact I.mod.glob.keeps I.bk) hm h) hd
theorem Xe4 {E:Value→Shared→Prop}{pins:List (Addr×Obj)}{s:Shared} {σ:St}{H:Hp}{x:Str}{u:Value}{pos:Pos}{Q:Value→Shared→Prop} (I:Inv X pins σ H s) (hg:Gl X x) (hm:X.mg x=none) (hv:bootBuiltins x=some u) (h:Q u s)
  (hn:x ≠ "__name__" := by decide) (hd:(x == ("__debug__" : Str))=false:=by decide):wpAny (model X.prog X.w) X.A (eval (.Name x pos) X.env) Q E s:=by
 obtain ⟨mb,h1,h2⟩:=I.mod.blt
 exact Calls.Name_function_global I.ok.kind hg (Calls.loadGlobal_builtin (by rw [I.ok.glob];exact I.mod.glob.keeps I.bk) hm (by rw [I.ok.blt];exact h1.keeps I.bk) ((h2 x hn).trans hv) h) hd
theorem Za1 {x:Str}{v:V}{u:Value}{pos:Pos} (hg:Gl X x) (hm:X.mg x=some u) (r:Vp0 v u) (hd:(x == ("__debug__" : Str))=false:=by decide):PE X (.Name x pos) (tC v) :=
 fun _ _ _ H _ I h=>Jl1 I hg hm ⟨v,H,I,r,h⟩ hd
variable {a b:Expr}{ta tb:TE}{pos:Pos}
variable {tA tB':TT}{rest:List Expr}
def tAnd (t u:TT):TT:=fun σ H Q=>t σ H fun c H1=>if c=true then u σ H1 Q else Q false H1
def tOr (t u:TT):TT:=fun σ H Q=>t σ H fun c H1=>if c=true then Q true H1 else u σ H1 Q
def tNot (t:TT):TT:=fun σ H Q=>t σ H fun c H1=>Q (!c) H1
theorem Xa1 (ha:PT X a tA):PW X (.BoolOp .And [a] pos) tA:=by
 intro wh pins s σ H Q I h
 refine isTrue_and (thn (ha pins s σ H Q I h) fun c s1 e=>?_)
 cases c with
 | true=>exact isTrue_and_nil e
 | false=>exact e
theorem Zi1 (ha:PT X a tA):PW X (.BoolOp .Or [a] pos) tA:=by
 intro wh pins s σ H Q I h
 refine isTrue_or (thn (ha pins s σ H Q I h) fun c s1 e=>?_)
 cases c with
 | false=>exact isTrue_or_nil e
 | true=>exact e
theorem Uk1 (ha:PT X a tA) (hb:PW X (.BoolOp .And (b :: rest) pos) tB'):PW X (.BoolOp .And (a :: b :: rest) pos) (tAnd tA tB'):=by
 intro wh pins s σ H Q I h
 refine isTrue_and (thn (ha pins s σ H _ I h) fun c s1 ⟨H1,I1,q1⟩=>?_)
 cases c with
 | true=>exact hb wh pins s1 σ H1 Q I1 q1
 | false=>exact ⟨H1,I1,q1⟩
theorem Yz1 (ha:PT X a tA) (hb:PW X (.BoolOp .Or (b :: rest) pos) tB'):PW X (.BoolOp .Or (a :: b :: rest) pos) (tOr tA tB'):=by
 intro wh pins s σ H Q I h
 refine isTrue_or (thn (ha pins s σ H _ I h) fun c s1 ⟨H1,I1,q1⟩=>?_)
 cases c with
 | true=>exact ⟨H1,I1,q1⟩
 | false=>exact hb wh pins s1 σ H1 Q I1 q1
theorem Ul1 (ha:PT X a tA):PT X (.UnaryOp .Not a pos) (tNot tA):=by
 intro pins s σ H Q I h
 exact isTrue_not (ha pins s σ H (fun c H1=>Q (!c) H1) I h)
def tAndV (ta tb:TE):TE:=fun σ H Q=>ta σ H fun x H1=>∃ c,x=.bl c∧if c=true then tb σ H1 Q else Q (.bl false) H1
def tOrV (ta tb:TE):TE:=fun σ H Q=>ta σ H fun x H1=>∃ c,x=.bl c∧if c=true then Q (.bl true) H1 else tb σ H1 Q
inductive XNotV (x:V) (H1:Hp) (Q:VK):Prop |mk (c:Bool) (_:x=.bl c) (_:Q (.bl (!c)) H1)
def tNotV (ta:TE):TE:=fun σ H Q=>ta σ H fun x H1=>XNotV x H1 Q
theorem Uv2 {op}{t:TE} (h:PE X a t):PE X (.BoolOp op [a] pos) t:=fun pins s σ H Q I hw=>BoolOp_one (h pins s σ H Q I hw)
theorem Xz5 (ha:PE X a ta) (hb:PE X (.BoolOp .And (b :: rest) pos) tb):PE X (.BoolOp .And (a :: b :: rest) pos) (tAndV ta tb):=by
 intro pins s σ H Q I h
 refine BoolOp_and (thn (ha pins s σ H _ I h) fun v s1 ⟨x,H1,I1,r1,q1⟩=>?_)
 obtain ⟨c,rfl,q1⟩:=q1
 cases r1
 refine wpAny_truthy_bool ?_
 cases c with
 | true=>exact hb pins s1 σ H1 Q I1 q1
 | false=>exact ⟨.bl false,H1,I1,rfl,q1⟩
theorem Xt7 (ha:PE X a ta) (hb:PE X (.BoolOp .Or (b :: rest) pos) tb):PE X (.BoolOp .Or (a :: b :: rest) pos) (tOrV ta tb):=by
 intro pins s σ H Q I h
 refine BoolOp_or (thn (ha pins s σ H _ I h) fun v s1 ⟨x,H1,I1,r1,q1⟩=>?_)
 obtain ⟨c,rfl,q1⟩:=q1
 cases r1
 refine wpAny_truthy_bool ?_
 cases c with
 | false=>exact hb pins s1 σ H1 Q I1 q1
 | true=>exact ⟨.bl true,H1,I1,rfl,q1⟩
theorem pe_not (ha:PE X a ta):PE X (.UnaryOp .Not a pos) (tNotV ta):=by
 intro pins s σ H Q I h
 refine UnaryOp_ (thn (ha pins s σ H _ I h) fun v s1 ⟨x,H1,I1,r1,q1⟩=>?_)
 obtain ⟨c,rfl,q1⟩:=q1
 cases r1
 exact not_of (wpAny_truthy_bool ⟨.bl (!c),H1,I1,rfl,q1⟩)
def tIf (t:TT) (ta tb:TE):TE:=fun σ H Q=>t σ H fun c H1=>if c=true then ta σ H1 Q else tb σ H1 Q
theorem Xx0 {c:Expr} (hc:PT X c tA) (ha:PE X a ta) (hb:PE X b tb):PE X (.IfExp c a b pos) (tIf tA ta tb):=by
 intro pins s σ H Q I h
 refine wpAny_IfExp (thn (hc pins s σ H _ I h) fun d s1 ⟨H1,I1,q1⟩=>?_)
 cases d with
 | true=>exact ha pins s1 σ H1 Q I1 q1
 | false=>exact hb pins s1 σ H1 Q I1 q1
end
end L2
namespace L2
open PySem PySem.Spec PyProof.Rows
def SqL (K:PySem.W.Frag) (H:Hp) (a:Addr) (xs:List V):Prop :=
 Rd H a (.lst xs) ∨
  ∃ (o:Obj) (its:Array Value) (n:Nat),K.lookup a=some o∧o.cls=.type "list" ∧ o.dict=none∧o.data=.seq its n∧its.size≤sizeLine∧Xw0 xs its.toList
def SqT (K:PySem.W.Frag) (H:Hp) (a:Addr) (xs:List V):Prop :=
 Rd H a (.tup xs) ∨
  ∃ (o:Obj) (its:Array Value) (n:Nat),K.lookup a=some o∧o.cls=.type "tuple" ∧ o.data=.seq its n∧its.size≤sizeLine∧Xw0 xs its.toList
def absV:Value→Option V
 | .none=>some .non
 | .bool b=>some (.bl b)
 | .int i _=>some (.int i)
 | .str x _=>some (.str x)
 | .bytes b _=>some (.byt b)
 | .float b _=>some (.flt b)
 | .ref a=>some (.ref a)
 | .type n=>some (.ty n)
 | _=>none
theorem Vp0.abs {x:V}{u:Value} (r:Vp0 x u):absV u=some x:=by
 cases x with
 | non=>cases r;rfl
 | bl _=>cases r;rfl
 | int _=>obtain ⟨t,rfl⟩:=r;rfl
 | str _=>obtain ⟨t,rfl⟩:=r;rfl
 | byt _=>obtain ⟨t,rfl⟩:=r;rfl
 | flt _=>obtain ⟨t,rfl⟩:=r;rfl
 | ref _=>cases r;rfl
 | ty _=>cases r;rfl
theorem Vp0.inj {x y:V}{u:Value} (r:Vp0 x u) (q:Vp0 y u):x=y:=Option.some.inj (r.abs.symm.trans q.abs)
theorem Xw0.inj:∀ {xs ys:List V}{us:List Value},Xw0 xs us→Xw0 ys us→xs=ys
 | _,_,_,.nil,.nil=>rfl
 | _,_,_,.cons r t,.cons r' t'=>by rw [r.inj r',Xw0.inj t t']
section
variable {X:Cx}{pins:List (Addr×Obj)} {σ:St}{H:Hp}{s:Shared}{a:Addr}{xs ys:List V}
theorem SqL.of {K:PySem.W.Frag} (h:H a=some (.lst xs)):SqL K H a xs:=.inl (.inl h)
theorem SqT.of {K:PySem.W.Frag} (h:H a=some (.tup xs)):SqT K H a xs:=.inl (.inl h)
theorem Inv.list (I:Inv X pins σ H s) (h:SqL X.K H a xs):∃ its:List Value,Xw0 xs its∧PlainL s.heap a its.toArray∧xs.length≤sizeLine:=by
 rcases h with h | ⟨o,its,n,hk,hc,hd,hs,hz,r⟩
 ·obtain ⟨z,its,n,r,e⟩:=h.ok I.hok
  exact ⟨its,r,⟨_,n,e,rfl,rfl,rfl⟩,z⟩
 ·refine ⟨its.toList,r,⟨o,n,I.kIn a o hk,hc,hd,by simpa using hs⟩,?_⟩
  have e:=r.length
  simp only [Array.length_toList] at e
  lia
theorem Inv.tuple (I:Inv X pins σ H s) (h:SqT X.K H a xs):∃ its:List Value,Xw0 xs its∧IsTup s.heap a its.toArray∧xs.length≤sizeLine:=by
 rcases h with h | ⟨o,its,n,hk,hc,hs,hz,r⟩
 ·obtain ⟨z,its,r,p⟩:=h.ok I.hok
  exact ⟨its,r,p,z⟩
 ·refine ⟨its.toList,r,⟨o,I.kIn a o hk,hc,n,by simpa using hs⟩,?_⟩
  have e:=r.length
  simp only [Array.length_toList] at e
  lia
theorem Inv.list_inj (I:Inv X pins σ H s) (h:SqL X.K H a xs) (h':SqL X.K H a ys):xs=ys:=by
 obtain ⟨its,r,⟨o,n,e,_,_,d⟩,_⟩:=I.list h
 obtain ⟨its',r',⟨o',n',e',_,_,d'⟩,_⟩:=I.list h'
 rw [e] at e';cases e'
 rw [d] at d'
 injection d' with d1 _
 have:its=its':=by simpa using congrArg Array.toList d1
 subst this
 exact r.inj r'
end
section
variable {X:Cx}{st:Stmt}{rest:List Stmt}{t u:TS}{e:Expr}{te:TE}{pos:Pos}
def Uc1:TS:=fun D σ H=>D.nx σ H
def Xw2 (t u:TS):TS:=fun D σ H=>t { D with nx:=u D } σ H
theorem Zq0:PSs X [] Uc1:=fun _ _ σ H _ I h=>wpAny_execs_nil ⟨σ,H,I,h⟩
theorem Zd0 (h1:PS X st t) (h2:PSs X rest u):PSs X (st :: rest) (Xw2 t u):=by
 intro pins s σ H D I h
 refine wpAny_execs_cons (thn (h1 pins s σ H { D with nx:=u D } I h) fun f s1 q=>?_)
 cases f with
 | next =>
  obtain ⟨σ',H',I',q⟩:=q
  exact h2 pins s1 σ' H' D I' q
 | ret v=>exact q
 | brk=>exact q
 | cont=>exact q
theorem Ze0 (h1:PS X st t):PSs X [st] t:=by
 intro pins s σ H D I h
 refine wpAny_execs_cons (thn (h1 pins s σ H D I h) fun f s1 q=>?_)
 cases f with
 | next=>exact wpAny_execs_nil q
 | ret v=>exact q
 | brk=>exact q
 | cont=>exact q
theorem Xn7:PS X (.Pass pos) Uc1:=fun _ _ σ H _ I h=>wpAny_Pass ⟨σ,H,I,h⟩
theorem Inv.quiet {pins:List (Addr×Obj)} {σ:St}{H:Hp}{s:Shared} (I:Inv X pins σ H s):interactive X.env=false:=by simp [interactive,I.ok.kind]
def tDrop (te:TE):TS:=fun D σ H=>te σ H fun _ H1=>D.nx σ H1
theorem Zx0 (he:PE X e te) (hs:swapsWith e none pos.line X.env=pure false:=by rfl):PS X (.Expr e pos) (tDrop te):=by
 intro pins s σ H D I h
 exact wpAny_Expr_any (thn (he pins s σ H _ I h) fun v s1 ⟨x,H1,I1,r1,q1⟩=>⟨σ,H1,I1,q1⟩) I.quiet hs
def tRet (te:TE):TS:=fun D σ H=>te σ H D.rt
theorem Zk0 (he:PE X e te):PS X (.Return (some e) pos) (tRet te):=by
 intro pins s σ H D I h
 exact wpAny_Return_some (thn (he pins s σ H _ I h) fun v s1 ⟨x,H1,I1,r1,q1⟩=>⟨x,σ,H1,I1,r1,q1⟩)
def tRetN:TS:=fun D _ H=>D.rt .non H
theorem Xm7:PS X (.Return none pos) tRetN:=fun _ _ σ H _ I h=>wpAny_Return_none ⟨.non,σ,H,I,rfl,h⟩
def Ui3 (c:TT) (t u:TS):TS:=fun D σ H=>c σ H fun b H1=>if b=true then t D σ H1 else u D σ H1
theorem Yb0 {c:Expr}{a b:List Stmt}{tc:TT} (hc:PT X c tc) (ha:PSs X a t) (hb:PSs X b u):PS X (.If c a b pos) (Ui3 tc t u):=by
 intro pins s σ H D I h
 refine wpAny_If (thn (hc pins s σ H _ I h) fun d s1 ⟨H1,I1,q1⟩=>?_)
 cases d with
 | true=>exact ha pins s1 σ H1 D I1 q1
 | false=>exact hb pins s1 σ H1 D I1 q1
end
abbrev TG:=V→St→Hp→(St→Hp→Prop)→Prop
abbrev TGs:=List V→St→Hp→(St→Hp→Prop)→Prop
def PG (X:Cx) (target:Expr) (t:TG):Prop :=
 ∀ (pins:List (Addr×Obj)) (s:Shared) (σ:St) (H:Hp) (v:V) (u:Value) (Q:St→Hp→Prop),Inv X pins σ H s→Vp0 v u→t v σ H Q →
  wpAny (model X.prog X.w) X.A (assign target X.env u) (fun _ s'=>∃ σ' H',Inv X pins σ' H' s'∧Q σ' H') X.xe s
def PGs (X:Cx) (ts:List Expr) (t:TGs):Prop :=
 ∀ (pins:List (Addr×Obj)) (s:Shared) (σ:St) (H:Hp) (vs:List V) (us:List Value) (Q:St→Hp→Prop),Inv X pins σ H s→Xw0 vs us→t vs σ H Q →
  wpAny (model X.prog X.w) X.A (assignInOrder ((assignEach ts X.env).map (·.2)) us) (fun _ s'=>∃ σ' H',Inv X pins σ' H' s'∧Q σ' H') X.xe s
abbrev TSet:=V→V→V→Hp→(Hp→Prop)→Prop
def PSet (X:Cx) (t:TSet):Prop :=
 ∀ (pins:List (Addr×Obj)) (s:Shared) (σ:St) (H:Hp) (o i v:V) (ov iv u:Value) (Q:Hp→Prop),Inv X pins σ H s→Vp0 o ov→Vp0 i iv→Vp0 v u→t o i v H Q →
  wpAny (model X.prog X.w) X.A (setItem ov iv u) (fun _ s'=>∃ H',Inv X pins σ H' s'∧Q H') X.xe s
abbrev TIp:=V→V→Hp→VK→Prop
def PIp (X:Cx) (op:Operator) (t:TIp):Prop :=
 ∀ (pins:List (Addr×Obj)) (s:Shared) (σ:St) (H:Hp) (x y:V) (v u:Value) (Q:VK),Inv X pins σ H s→Vp0 x v→Vp0 y u→t x y H Q →
  wpAny (model X.prog X.w) X.A (inplaceOp op v u) (EP X pins σ Q) X.xe s
section
variable {X:Cx}{pos:Pos}
def Zq1 (i:Nat):TG:=fun v σ H Q=>Q (σ.set i (some v)) H
theorem Jz0 {i:Nat}{x:Str} (hN:X.N.Nodup) (hi:X.N[i]? = some x) (hx:Loc X.env.scope x) (hf:X.fn x=true∨X.env.scope.names.lookup x=some .local:=by first | exact .inl rfl | exact .inr rfl | assumption):PG X (.Name x pos) (Zq1 i):=by
 intro pins s σ H v u Q I r h
 exact wpAny_assign_Name (Jo2 I hN hi hx r (fun s' I'=>⟨_,H,I',h⟩) hf)
def gNil:TGs:=fun vs σ H Q=>vs=[]∧Q σ H
def gCons (t:TG) (u:TGs):TGs:=fun vs σ H Q=>∃ v r,vs=v :: r∧t v σ H fun σ' H'=>u r σ' H' Q
theorem Xs7:PGs X [] gNil:=by
 intro pins s σ H vs us Q I r h
 obtain ⟨e,h⟩:=h
 subst e
 cases r
 exact assignInOrder_nil ⟨σ,H,I,h⟩
theorem Zg3 {e:Expr}{es:List Expr}{t:TG}{u:TGs} (h1:PG X e t) (h2:PGs X es u)
  (hs:(assignEach (e :: es) X.env).map (·.2)=assign e X.env :: (assignEach es X.env).map (·.2):=by rfl):PGs X (e :: es) (gCons t u):=by
 intro pins s σ H vs us Q I r h
 obtain ⟨v,vr,e1,h⟩:=h
 subst e1
 cases r with
 | cons r rr =>
  rw [hs]
  refine assignInOrder_cons (thn (h1 pins s σ H _ _ _ I r h) fun _ s1 ⟨σ1,H1,I1,q1⟩=>?_)
  exact h2 pins s1 σ1 H1 _ _ Q I1 rr q1
inductive gTup (K:PySem.W.Frag) (n:Nat) (t:TGs) (v:V) (σ:St) (H:Hp) (Q:St→Hp→Prop):Prop |mk (a:Addr) (xs:List V) (_:v=.ref a) (_:SqT K H a xs) (_:xs.length=n) (_:t xs σ H Q)
theorem pg_tup {es:List Expr}{k:Nat}{t:TGs}{n:Nat} (hc:X.calm=true) (h:PGs X es t)
  (hn:(assignEach es X.env).length=n:=by rfl) (hst:(assignEach es X.env).findIdx? (·.1)=none:=by rfl):PG X (.Tuple es k pos) (gTup X.K n t):=by
 intro pins s σ H v u Q I r hw
 obtain ⟨a,xs,e1,hq,hl,hw⟩:=hw
 subst e1
 cases r
 obtain ⟨its,rv,ht,hz⟩:=I.tuple hq
 refine assign_Tuple_tuple (I.ok.hd hc) ht (by simp [hn,← hl,rv.length]) hst fun h' hx=>?_
 have I1:Inv X pins σ H { s with heap:=h' }:=I.kept (t':=s.toks) fun b o e=>hx b o (Nat.ne_of_lt (Heap.lt_size e)) e
 exact h pins _ σ H xs _ Q I1 (by simpa using rv) hw
def gSub (to ti:TE) (t:TSet):TG:=fun v σ H Q=>to σ H fun o H1=>ti σ H1 fun i H2=>t o i v H2 fun H3=>Q σ H3
theorem Jj0 {o i:Expr}{to ti:TE}{t:TSet} (ho:PE X o to) (hi:PE X i ti) (hs:PSet X t)
  (ha:∀ v,assign (.Subscript o i pos) X.env v=(do
   let ov ← holding [v] (eval o X.env)
   let iv ← holding [v,ov] (eval i X.env)
   standAt pos
   holding [v,ov,iv] (setItem ov iv v)
   release [v,ov,iv] []):=by intro _;rfl):PG X (.Subscript o i pos) (gSub to ti t):=by
 intro pins s σ H v u Q I r h
 rw [ha]
 refine wpAny_bind (wpAny_holding (thn (ho pins s σ H _ I h) fun ov s1 ⟨x,H1,I1,r1,q1⟩=>?_))
 refine wpAny_bind (wpAny_holding (thn (hi pins s1 σ H1 _ I1 q1) fun iv s2 ⟨y,H2,I2,r2,q2⟩=>?_))
 refine wpAny_bind (wpAny_standAt (wpAny_bind (wpAny_holding (thn (hs pins s2 σ H2 x y v ov iv u _ I2 r1 r2 r q2) fun _ s3 ⟨H3,I3,q3⟩=>?_))))
 exact wpAny_release ⟨σ,H3,I3,q3⟩
def tAsg (te:TE) (g:TG):TS:=fun D σ H=>te σ H fun x H1=>g x σ H1 D.nx
theorem Ji0 {tg e:Expr}{te:TE}{g:TG} (he:PE X e te) (hg:PG X tg g) (hs:swapsWithSole [tg] e pos.line X.env=pure false:=by rfl) (hw:swappedStores [tg] e X.env=pure none:=by rfl)
  (h1:(assignEach [tg] X.env).map (·.2)=[assign tg X.env]:=by rfl):PS X (.Assign [tg] e pos) (tAsg te g):=by
 intro pins s σ H D I h
 refine wpAny_Assign_stores (thn (he pins s σ H _ I h) fun v s1 ⟨x,H1,I1,r1,q1⟩=>?_) hs hw
 rw [h1]
 exact thn (hg pins s1 σ H1 x v _ I1 r1 q1) fun _ s2 q=>q
theorem Zp0 {i:Nat}{x:Str}{e:Expr}{te:TE}{pos':Pos} (hN:X.N.Nodup) (hi:X.N[i]? = some x) (hx:Loc X.env.scope x) (he:PE X e te) (hs:swapsWith e (some (.Name x pos')) pos.line X.env=pure false:=by rfl) (hf:X.fn x=true∨X.env.scope.names.lookup x=some .local:=by first | exact .inl rfl | exact .inr rfl | assumption) :
  PS X (.Assign [.Name x pos'] e pos) (tAsg te (Zq1 i)):=by
 intro pins s σ H D I h
 refine wpAny_Assign_Name (thn (he pins s σ H _ I h) fun v s1 ⟨y,H1,I1,r1,q1⟩=>?_) hs
 exact Jo2 I1 hN hi hx r1 (fun s2 I2=>⟨_,H1,I2,q1⟩) hf
inductive tAug (i:Nat) (te:TE) (ti:TIp) (D:Zd6) (σ:St) (H:Hp):Prop |mk (x:V) (_:σ[i]? = some (some x)) (_:te σ H fun y H1=>ti x y H1 fun z H2=>D.nx (σ.set i (some z)) H2)
theorem Jy1 {i:Nat}{x:Str}{e:Expr}{te:TE}{op:Operator}{ti:TIp}{pos':Pos} (hN:X.N.Nodup) (hi:X.N[i]? = some x) (hx:Loc X.env.scope x) (he:PE X e te) (ho:PIp X op ti) (hf:X.fn x=true∨X.env.scope.names.lookup x=some .local:=by first | exact .inl rfl | exact .inr rfl | assumption) :
  PS X (.AugAssign (.Name x pos') op e pos) (tAug i te ti):=by
 intro pins s σ H D I h
 obtain ⟨v,e1,h⟩:=h
 obtain ⟨m,hn,hl⟩:=I.loc
 have vis:Vis X.env.scope x:=by rcases hx with k | k;exact .inl k;exact .inr (.inl k)
 obtain ⟨u,r,l⟩:=hl i x v hi e1 vis
 refine wpAny_AugAssign_Name ?_
 have go:wpAny (model X.prog X.w) X.A (eval e X.env) (fun w s₂=>wpAny (model X.prog X.w) X.A (inplaceOp op u w) (fun r s₃=>wpAny (model X.prog X.w) X.A (storeName X.env x r) (fun _=>SP X pins D .next) X.xe s₃) X.xe s₂) X.xe s:=by
  refine thn (he pins s σ H _ I h) fun w s1 ⟨y,H1,I1,r1,q1⟩=>?_
  refine thn (ho pins s1 σ H1 v y u w _ I1 r r1 q1) fun z s2 ⟨zv,H2,I2,r2,q2⟩=>?_
  exact Jo2 I2 hN hi hx r2 (fun s3 I3=>⟨_,H2,I3,q2⟩) hf
 rcases l with ⟨hk,hm⟩ | ⟨hk,c,hc,hcell⟩
 ·exact wpAny_loadName_local I.ok.kind hk hn hm go
 ·rcases hk with hk | hk
  ·exact wpAny_loadName_cell I.ok.kind hk hc hcell go
  ·rcases hx with k | k
   ·have:X.env.scope.names.lookup x=some .free:=hk
    rw [k] at this;cases this
   ·have:X.env.scope.names.lookup x=some .free:=hk
    rw [k] at this;cases this
def tAugS (to ti te:TE) (tget:V→V→Hp→VK→Prop) (tip:TIp) (tset:TSet):TS:=fun D σ H=>to σ H fun o H1=>ti σ H1 fun i H2=>tget o i H2 fun x H3=>te σ H3 fun y H4=>tip x y H4 fun z H5=>tset o i z H5 fun H6=>D.nx σ H6
def PGet (X:Cx) (t:V→V→Hp→VK→Prop):Prop :=
 ∀ (pins:List (Addr×Obj)) (s:Shared) (σ:St) (H:Hp) (o i:V) (ov iv:Value) (Q:VK),Inv X pins σ H s→Vp0 o ov→Vp0 i iv→t o i H Q →
  wpAny (model X.prog X.w) X.A (getItem ov iv) (EP X pins σ Q) X.xe s
theorem Xp7 {o i e:Expr}{to ti te:TE}{tget:V→V→Hp→VK→Prop}{tip:TIp}{tset:TSet}{op:Operator}{tpos:Pos} (ho:PE X o to) (hi:PE X i ti) (hg:PGet X tget) (he:PE X e te) (hp:PIp X op tip) (hs:PSet X tset)
  (ha:∀ ov iv new,augStore i ov iv new=(do holding [new,ov,iv] (setItem ov iv new);release [new,ov,iv] [];pure .next):=by intros;rfl):PS X (.AugAssign (.Subscript o i tpos) op e pos) (tAugS to ti te tget tip tset):=by
 intro pins s σ H D I h
 refine wpAny_AugAssign_SubscriptAny (thn (ho pins s σ H _ I h) fun ov s1 ⟨x1,H1,I1,r1,q1⟩=>?_) ha
 refine thn (hi pins s1 σ H1 _ I1 q1) fun iv s2 ⟨x2,H2,I2,r2,q2⟩=>?_
 refine thn (hg pins s2 σ H2 x1 x2 ov iv _ I2 r1 r2 q2) fun old s3 ⟨x3,H3,I3,r3,q3⟩=>?_
 refine thn (he pins s3 σ H3 _ I3 q3) fun v s4 ⟨x4,H4,I4,r4,q4⟩=>?_
 refine thn (hp pins s4 σ H4 x3 x4 old v _ I4 r3 r4 q4) fun new s5 ⟨x5,H5,I5,r5,q5⟩=>?_
 exact thn (hs pins s5 σ H5 x1 x2 x5 ov iv new _ I5 r1 r2 r5 q5) fun _ s6 ⟨H6,I6,q6⟩=>⟨σ,H6,I6,q6⟩
def ipI (f:Int→Int→Int):TIp:=fun x y H Q=>∃ i j,x=.int i∧y=.int j∧Q (.int (f i j)) H
theorem Jc6:PIp X .Add (ipI fun i j=>i+j):=by
 intro pins s σ H x y v u Q I r1 r2 h
 obtain ⟨i,j,e1,e2,q⟩:=h
 subst e1;subst e2
 obtain ⟨t,rfl⟩:=r1
 obtain ⟨t',rfl⟩:=r2
 exact iadd_int ⟨.int _,H,I.tok _,⟨_,rfl⟩,q⟩
theorem Jb6:PIp X .Sub (ipI fun i j=>i-j):=by
 intro pins s σ H x y v u Q I r1 r2 h
 obtain ⟨i,j,e1,e2,q⟩:=h
 subst e1;subst e2
 obtain ⟨t,rfl⟩:=r1
 obtain ⟨t',rfl⟩:=r2
 exact isub_int ⟨.int _,H,I.tok _,⟨_,rfl⟩,q⟩
end
section
variable {X:Cx}{pos:Pos}
def Vr6 (c:TT) (tb:TS):TS:=fun D σ H=>∃ W:Nat→St→Hp→Prop,(∃ m,W m σ H)∧∀ m σ H,W m σ H →
 c σ H fun b H1=>if b=true then ∃ N:St→Hp→Prop,(∀ σ' H',N σ' H'→∃ m',m'<m∧W m' σ' H')∧tb { D with nx:=N,ct:=N,bk:=D.nx } σ H1 else D.nx σ H1
theorem Xr1 {c:Expr}{body:List Stmt}{tc:TT}{tb:TS} (hp:PassesOwn (model X.prog X.w) X.A X.env X.xe) (hc:PT X c tc) (hb:PSs X body tb):PS X (.While c body [] pos) (Vr6 tc tb):=by
 intro pins s σ H D I h
 obtain ⟨W,⟨m0,w0⟩,turn⟩:=h
 refine wpAny_While (codeAny_whileLoop (fun n s'=>∃ σ' H',Inv X pins σ' H' s'∧W n σ' H') ?_ m0 ⟨σ,H,I,w0⟩)
 rintro n s1 ⟨σ1,H1,I1,w1⟩
 refine wpAny_passesOwn hp (thn (hc pins s1 σ1 H1 _ I1 (turn n σ1 H1 w1)) fun b s2 ⟨H2,I2,q2⟩=>?_)
 cases b with
 | true =>
  obtain ⟨N,hN,q2⟩:=q2
  rw [if_pos rfl]
  refine wpAny_passesOwn hp (thn (hb pins s2 σ1 H2 _ I2 q2) fun f s3 q3=>?_)
  cases f with
  | next =>
   obtain ⟨σ3,H3,I3,n3⟩:=q3
   obtain ⟨m',hm,w3⟩:=hN σ3 H3 n3
   exact ⟨m',hm,σ3,H3,I3,w3⟩
  | cont =>
   obtain ⟨σ3,H3,I3,n3⟩:=q3
   obtain ⟨m',hm,w3⟩:=hN σ3 H3 n3
   exact ⟨m',hm,σ3,H3,I3,w3⟩
  | brk=>exact q3
  | ret v=>exact q3
 | false =>
  rw [if_neg Bool.false_ne_true]
  exact wpAny_execs_nil ⟨σ1,H2,I2,q2⟩
end
structure It where
 go:Nat→Hp→Prop
 yld:Nat→Hp→V→Hp→Prop
 stop:Nat→Hp→Prop
def Zc6 (X:Cx) (pins:List (Addr×Obj)) (H:Hp) (b:Addr):Prop :=
 H b=none∧b≠X.env.locals∧b ∉ X.fs∧(b∈X.ex∨X.s_0.heap.objs.size≤b)∧(∀ x c,X.env.cells.lookup x=some c→c≠b)∧∀ p∈X.pn++pins,p.1≠b
theorem Inv.fpOk {X:Cx}{pins:List (Addr×Obj)} {σ:St}{H H':Hp}{s:Shared}{b:Addr} (I:Inv X pins σ H s) (hb:s.heap.objs.size≤b) (hn:H' b=none):Zc6 X pins H' b:=by
 refine ⟨hn,Nat.ne_of_gt (Nat.lt_of_lt_of_le I.lt hb),I.nofs hb,.inr (Nat.le_trans I.sz hb),fun x c e z=>?_,fun p hp z=>?_⟩
 ·obtain ⟨v,q⟩:=I.cell x c e
  exact absurd (Nat.lt_of_lt_of_le q.lt (by rw [z];exact hb)) (Nat.lt_irrefl _)
 ·exact absurd (Nat.lt_of_lt_of_le (Heap.lt_size (I.pin p hp).1) (by rw [z];exact hb)) (Nat.lt_irrefl _)
structure Turn (P:Program) (w:World) (K:PySem.W.Frag) (tg:Expr) (J:It) (fp:List Addr) (it:Addr) (tn:Nat→Heap→Prop):Prop where
 mem:it∈fp
 obj:∀ i h,tn i h→∀ b∈fp,∃ o,h.get? b=some o∧∀ v,o.data ≠ .cell v
 keep:∀ i h h',tn i h→(∀ b∈fp,∀ o,h.get? b=some o→h'.get? b=some o)→tn i h'
 item:∀ (X:Cx),X.prog=P→X.w=w→X.K=K→X.calm=true→∀ (i:Nat) (pins:List (Addr×Obj)) (s:Shared) (σ:St) (H:Hp) (E:Value→Shared→Prop),Inv X pins σ H s→(∀ b∈fp,Zc6 X pins H b)→tn i s.heap→J.go i H →
  wpAny (model P w) X.A (pyNext (.ref it)) (fun r s1=>∃ u,r=some u ∧
   wpAny (model P w) X.A (letOwnedTupleGo tg (.ref it) u) (fun _ s2=>∃ x H',Inv X pins σ H' s2∧Vp0 x u∧J.yld i H x H'∧tn (i+1) s2.heap∧∀ b∈fp,H' b=none) E s1) E s
 done:∀ (X:Cx),X.prog=P→X.w=w→X.K=K→X.calm=true→∀ (i:Nat) (pins:List (Addr×Obj)) (s:Shared) (σ:St) (H:Hp) (E:Value→Shared→Prop),Inv X pins σ H s→(∀ b∈fp,Zc6 X pins H b)→tn i s.heap→J.stop i H →
  wpAny (model P w) X.A (pyNext (.ref it)) (fun r s1=>r=none∧Inv X pins σ H s1) E s
 self:∀ (A:Around) (i:Nat) (s:Shared) (Q:Value→Shared→Prop) (E:Value→Shared→Prop),tn i s.heap→Q (.ref it) s→wpAny (model P w) A (pyIter (.ref it)) Q E s
abbrev TI:=St→Hp→(It→Hp→Prop)→Prop
def PIE (X:Cx) (pins:List (Addr×Obj)) (σ:St) (tg:Expr) (R:It→Hp→Prop) (itv:Value) (s2:Shared):Prop :=
 ∃ (it:Addr) (fp:List Addr) (tn:Nat→Heap→Prop) (J:It) (H':Hp),itv=.ref it∧Inv X pins σ H' s2∧Turn X.prog X.w X.K tg J fp it tn∧tn 0 s2.heap∧(∀ b∈fp,Zc6 X pins H' b)∧R J H'
def PI (X:Cx) (tg iter:Expr) (wi:TI):Prop :=
 ∀ (pins:List (Addr×Obj)) (s:Shared) (σ:St) (H:Hp) (R:It→Hp→Prop),Inv X pins σ H s→wi σ H R →
  wpAny (model X.prog X.w) X.A (eval iter X.env) (fun v s1=>wpAny (model X.prog X.w) X.A (pyIter v) (PIE X pins σ tg R) X.xe s1) X.xe s
theorem Jq7 {M:Model}{A:Around}{E:Value→Shared→Prop}{s:Shared}{tg:Expr}{it:Addr}{u:Value}{o:Obj}{n:String}{vs:Array Value}{Q:Unit→Shared→Prop} (ho:s.heap.get? it=some o) (hc:o.cls=.type n) (hd:o.data=.fields vs)
    (hn:["enumerate","zip","dict_itemiterator","dict_reverseitemiterator","odict_iterator","itertools.zip_longest","itertools.pairwise"].contains n=false) (hQ:Q () s):wpAny M A (letOwnedTupleGo tg (.ref it) u) Q E s:=by
  unfold letOwnedTupleGo
  cases tg <;> first
    | exact wpAny_pure hQ
    | (cases u <;> first
        | exact wpAny_pure hQ
        | (refine wpAny_bind (wpAny_load ho ?_)
           rw [hc,hd]
           show wpAny M A (if (["enumerate","zip","dict_itemiterator","dict_reverseitemiterator","odict_iterator","itertools.zip_longest","itertools.pairwise"].contains n && vs[0]? == some (rawInt _))=true then _ else _) Q E s
           rw [if_neg (by intro h;rw [hn,Bool.false_and] at h;cases h)]
           exact wpAny_pure hQ))
def Itl (K:PySem.W.Frag) (a:Addr):It :=
 ⟨fun i H=>∃ xs x,SqL K H a xs∧xs[i]? = some x,fun i H x H'=>H'=H∧∀ xs,SqL K H a xs→xs[i]? = some x,fun i H=>∃ xs,SqL K H a xs∧xs.length≤i⟩
def Itr (lo:Int) (n:Nat):It:=⟨fun i _=>i<n,fun i H x H'=>H'=H∧x=.int (lo+i),fun i _=>n≤i⟩
theorem Zg5 {P:Program}{w:World}{K:PySem.W.Frag}{tg:Expr} (a it:Addr):Turn P w K tg (Itl K a) [it] it (fun i h=>h.IsListIter it a i) where
 mem:=by simp
 obj:=fun i h st b hb=>by
  have e:b=it:=by simpa using hb
  subst e
  obtain ⟨o,e,c,d⟩:=st
  exact ⟨o,e,fun v z=>by rw [d] at z;cases z⟩
 keep:=fun i h h' st k=>st.at fun o e=>k it (by simp) o e
 item:=by
  intro X hP hw hK hc i pins s σ H E I hf st hg
  subst hP hw hK
  obtain ⟨xs,x,hq,hx⟩:=hg
  obtain ⟨its,rv,p,hz⟩:=I.list hq
  obtain ⟨u,hu,ru⟩:=rv.get hx
  obtain ⟨f0,f1,f2,f3,f4,f5⟩:=hf it (by simp)
  refine wpAny_pyNext_list_item st p.isList (x:=u) (by simpa using hu) fun h' st' sb=>?_
  have I1:Inv X pins σ H { s with heap:=h' }:=I.turned (t':=s.toks) (fun b o hb e=>(sb.2 b hb).trans e) f0 f1 f3 f4 f5
  obtain ⟨o,e,c,d⟩:=id st'
  exact ⟨u,rfl,Jq7 (s:={ s with heap:=h' }) e c d (by decide) ⟨x,H,I1,ru,⟨rfl,fun ys hy=>by rw [I.list_inj hy hq];exact hx⟩,st',fun b hb=>(hf b hb).1⟩⟩
 done:=by
  intro X hP hw hK hc i pins s σ H E I hf st hg
  subst hP hw hK
  obtain ⟨xs,hq,hx⟩:=hg
  obtain ⟨its,rv,p,hz⟩:=I.list hq
  obtain ⟨f0,f1,f2,f3,f4,f5⟩:=hf it (by simp)
  have hl:=rv.length
  exact wpAny_pyNext_list_end (I.ok.hd hc) st p.isList (by simp;lia) fun h' eb=>⟨rfl,I.turned (t':=s.toks) (fun b o hb e=>eb b o hb e) f0 f1 f3 f4 f5⟩
 self:=fun _ _ _ _ _ st h=>wpAny_pyIter_listiter st h
theorem Xv4 {P:Program}{w:World}{K:PySem.W.Frag}{tg:Expr} (it:Addr) (lo:Int) (n:Nat):Turn P w K tg (Itr lo n) [it] it (fun i h=>IsRangeIter h it (lo+(i:Nat)*1) ((n:Int)-(i:Nat)) 1) where
 mem:=by simp
 obj:=fun i h st b hb=>by
  have e:b=it:=by simpa using hb
  subst e
  exact ⟨_,st,fun v z=>by
   have z':Data.fields _=Data.cell v:=z
   cases z'⟩
 keep:=fun i h h' st k=>k it (by simp) _ st
 item:=by
  intro X hP hw hK hc i pins s σ H E I hf st hg
  subst hP hw hK
  obtain ⟨f0,f1,f2,f3,f4,f5⟩:=hf it (by simp)
  have W:=Walks.range (prog:=X.prog) (w:=X.w) (I.ok.hd hc) it lo 1 n
  refine W.item i s _ _ hg st fun v h' tk hv st' kk=>?_
  obtain ⟨t,rfl⟩:=hv
  have I1:Inv X pins σ H { s with heap:=h',toks:=tk }:=I.turned (fun b o hb e=>kk b o (by simpa using hb) e) f0 f1 f3 f4 f5
  refine ⟨_,rfl,Jq7 (s:={ s with heap:=h',toks:=tk }) (n := "range_iterator") st' rfl rfl (by decide) ⟨.int (lo+i),H,I1,⟨t,?_⟩,⟨rfl,rfl⟩,st',fun b hb=>(hf b hb).1⟩⟩
  rw [Int.mul_one]
 done:=by
  intro X hP hw hK hc i pins s σ H E I hf st hg
  subst hP hw hK
  obtain ⟨f0,f1,f2,f3,f4,f5⟩:=hf it (by simp)
  exact wpAny_pyNext_range_end (I.ok.hd hc) st (by have:n≤i:=hg;lia) fun h' eb=>⟨rfl,I.turned (t':=s.toks) (fun b o hb e=>eb b o hb e) f0 f1 f3 f4 f5⟩
 self:=fun _ _ _ _ _ st h=>wpAny_pyIter_rangeiter st h
end L2
namespace L2
open PySem PySem.Spec PyProof.Rows
section
variable {X:Cx}{tg:Expr}
def iList (K:PySem.W.Frag) (tl:TE):TI:=fun σ H R=>tl σ H fun x H1=>∃ a,x=.ref a∧(∃ xs,SqL K H1 a xs)∧R (Itl K a) H1
theorem Xr7 {l:Expr}{tl:TE} (hl:PE X l tl):PI X tg l (iList X.K tl):=by
 intro pins s σ H R I h
 refine thn (hl pins s σ H _ I h) fun v s1 ⟨x,H1,I1,r1,q1⟩=>?_
 obtain ⟨a,e,⟨xs,hq⟩,q⟩:=q1
 subst e
 cases r1
 obtain ⟨its,rv,p,hz⟩:=I1.list hq
 refine wpAny_pyIter_list p.isList ?_
 refine ⟨s1.heap.objs.size,[s1.heap.objs.size],_,_,H1,rfl,I1.kept (t':=s1.toks) fun b o e=>Heap.get?_push_of_some _ e,Zg5 a _,⟨_,Heap.get?_push_size _ rfl,rfl,rfl⟩,fun b hb=>?_,q⟩
 have e:b=s1.heap.objs.size:=by simpa using hb
 subst e
 exact I1.fpOk (Nat.le_refl _) (I1.hok.fresh (Nat.le_refl _))
theorem Yp4 {pins:List (Addr×Obj)} {σ:St}{H:Hp}{s:Shared}{R:It→Hp→Prop}{E:Value→Shared→Prop}{lo hi:Int}{t u v:Tok}{tk:Nat} (I:Inv X pins σ H s) (h1:-(2^62)≤lo) (h2:lo<2^62) (h3:-(2^62)≤hi) (h4:hi<2^62)
  (q:R (Itr lo (hi-lo).toNat) H):wpAny (model X.prog X.w) X.A (pyIter (.ref s.heap.objs.size)) (PIE X pins σ tg R) E { s with heap:=s.heap.push { cls:=.type "range",data:=.fields #[.int lo t,.int hi u,.int 1 v] },toks:=tk }:=by
 refine wpAny_pyIter_range (IsRange.new ..) (small_one h1 h2 h3 h4) ?_
 have I1:Inv X pins σ H { s with heap:=s.heap.push { cls:=.type "range",data:=.fields #[.int lo t,.int hi u,.int 1 v] },toks:=tk }:=I.kept fun b o e=>Heap.get?_push_of_some _ e
 refine ⟨(s.heap.push { cls:=.type "range",data:=.fields #[.int lo t,.int hi u,.int 1 v] }).objs.size,[(s.heap.push { cls:=.type "range",data:=.fields #[.int lo t,.int hi u,.int 1 v] }).objs.size],_,_,H,rfl,
  I1.kept (t':=tk) fun b o e=>Heap.get?_push_of_some _ e,Xv4 _ lo (hi-lo).toNat,?_,fun b hb=>?_,q⟩
 ·have e1:lo+((0:Nat):Int)*1=lo:=by simp
  have e2:(((hi-lo).toNat:Nat):Int)-((0:Nat):Int)=Builtin.Range.rangeSize lo hi 1:=by rw [rangeSize_one];split <;> lia
  show IsRangeIter _ _ (lo+((0:Nat):Int)*1) ((((hi-lo).toNat:Nat):Int)-((0:Nat):Int)) 1
  rw [e1,e2]
  exact Heap.get?_push_size _ rfl
 ·have e:b=(s.heap.push { cls:=.type "range",data:=.fields #[.int lo t,.int hi u,.int 1 v] }).objs.size:=by simpa using hb
  subst e
  exact I1.fpOk (Nat.le_refl _) (I1.hok.fresh (Nat.le_refl _))
def iRng1 (ta:TA):TI:=fun σ H R=>ta σ H fun vs H1=>∃ j:Int,vs=[.int j] ∧ -(2^62)≤j∧j<2^62∧R (Itr 0 j.toNat) H1
def iRng2 (ta:TA):TI:=fun σ H R=>ta σ H fun vs H1=>∃ i j:Int,vs=[.int i,.int j]∧(-(2^62)≤i∧i<2^62 ∧ -(2^62)≤j∧j<2^62)∧R (Itr i (j-i).toNat) H1
theorem Xb1 {a:Expr}{ta:TA}{p pos:Pos} (hg:Gl X "range") (hm:X.mg "range" = none) (ha:PA X [a] ta) (hs:starEach [a] X.env=[(false,eval a X.env)]:=by rfl):PI X tg (.Call (.Name "range" p) [a] [] pos) (iRng1 ta):=by
 intro pins s σ H R I h
 refine Call_ (Xe4 I hg hm boot_range (PyProof.Rows.callWith_type1 (thn (ha pos pins s σ H _ I h) fun us s1 ⟨vs,H1,I1,r1,q1⟩=>?_) hs rfl))
 obtain ⟨j,e,q1,q2,q⟩:=q1
 subst e
 cases r1 with
 | cons r rr =>
  cases rr
  obtain ⟨t,rfl⟩:=r
  exact call_range_1 (Yp4 I1 (by lia) (by lia) q1 q2 (by simpa using q))
theorem Xs3 {a b:Expr}{ta:TA}{p pos:Pos} (hg:Gl X "range") (hm:X.mg "range" = none) (ha:PA X [a,b] ta) (hs:starEach [a,b] X.env=[(false,eval a X.env),(false,eval b X.env)]:=by rfl) (hs2:starEach [b] X.env=[(false,eval b X.env)]:=by rfl) :
  PI X tg (.Call (.Name "range" p) [a,b] [] pos) (iRng2 ta):=by
 intro pins s σ H R I h
 refine Call_ (Xe4 I hg hm boot_range (PyProof.Rows.callWith_type1 (thn (ha pos pins s σ H _ I h) fun us s1 ⟨vs,H1,I1,r1,q1⟩=>?_) (by rw [hs,hs2]) (by rw [hs2];rfl)))
 obtain ⟨i,j,e,⟨q1,q2,q3,q4⟩,q⟩:=q1
 subst e
 cases r1 with
 | cons r rr =>
  cases rr with
  | cons r' rr =>
   cases rr
   obtain ⟨t,rfl⟩:=r
   obtain ⟨t',rfl⟩:=r'
   exact call_range_2 (Yp4 I1 q1 q2 q3 q4 q)
def tFor (wi:TI) (g:TG) (tb:TS):TS:=fun D σ H=>wi σ H fun J H1=>∃ W:Nat→Nat→St→Hp→Prop,(∃ m,W 0 m σ H1)∧∀ i m σ H,W i m σ H →
 (J.stop i H∧D.nx σ H)∨(J.go i H∧∃ N:St→Hp→Prop,(∀ σ' H',N σ' H'→∃ m',m'<m∧W (i+1) m' σ' H')∧∀ x H',J.yld i H x H'→g x σ H' fun σ2 H2=>tb { D with nx:=N,ct:=N,bk:=D.nx } σ2 H2)
def Xr3 (fp:List Addr) (h:Heap):List (Addr×Obj):=fp.filterMap fun b=>(h.get? b).map fun o=>(b,o)
theorem Ji1 {fp:List Addr}{h:Heap}{b:Addr}{o:Obj} (hb:b∈fp) (e:h.get? b=some o):(b,o)∈Xr3 fp h:=List.mem_filterMap.mpr ⟨b,hb,by rw [e];rfl⟩
theorem Vs5 {fp:List Addr}{h:Heap}{p:Addr×Obj} (hp:p∈Xr3 fp h):p.1∈fp∧h.get? p.1=some p.2:=by
 obtain ⟨b,hb,e⟩:=List.mem_filterMap.mp hp
 cases q:h.get? b with
 | none=>rw [q] at e;cases e
 | some o =>
  rw [q] at e
  have e':(b,o)=p:=Option.some.inj e
  subst e'
  exact ⟨hb,q⟩
theorem Inv.pinned {pins:List (Addr×Obj)} {σ:St}{H:Hp}{s:Shared}{fp:List Addr} (I:Inv X pins σ H s) (hf:∀ b∈fp,Zc6 X pins H b) (ho:∀ b∈fp,∃ o,s.heap.get? b=some o∧∀ v,o.data ≠ .cell v):Inv X (pins++Xr3 fp s.heap) σ H s :=
 I.pins_of fun p hp=>(List.mem_append.mp hp).elim (fun z=>I.pin p (List.mem_append_right _ z)) fun z=>by
  obtain ⟨hb,e⟩:=Vs5 z
  obtain ⟨f0,f1,f2,_⟩:=hf p.1 hb
  obtain ⟨o,e',d⟩:=ho p.1 hb
  rw [e] at e';cases e'
  exact ⟨e,f0,f1,f2,d⟩
theorem Inv.unpinned {pins pl:List (Addr×Obj)} {σ:St}{H:Hp}{s:Shared} (I:Inv X (pins++pl) σ H s):Inv X pins σ H s:=I.pins_of fun p hp=>I.pin p (List.mem_append_right _ (List.mem_append_left _ hp))
theorem Jx1 {iter:Expr}{body:List Stmt}{wi:TI}{g:TG}{tb:TS}{pos:Pos} (hp:PassesOwn (model X.prog X.w) X.A X.env X.xe) (hc:X.calm=true) (hi:PI X tg iter wi) (hg:PG X tg g) (hb:PSs X body tb)
  (hs:∀ x,foldedSetIterable iter X.env x=pure x:=by intro _;rfl):PS X (.For tg iter body [] pos) (tFor wi g tb):=by
 intro pins s σ H D I h
 refine wpAny_For (thn (hi pins s σ H _ I h) fun v s1 h1=>thn h1 fun itv s2 h2=>?_) hs
 obtain ⟨it,fp,tn,J,H2,e,I2,T,st2,f2,W,⟨m0,w0⟩,turn⟩:=h2
 subst e
 have stat:∀ {H':Hp},(∀ b∈fp,H' b=none)→∀ b∈fp,Zc6 X pins H' b:=fun hn b hb=>⟨hn b hb,(f2 b hb).2⟩
 refine codeAny_forLoop_any (fun n s'=>∃ i σ' H',Inv X pins σ' H' s'∧tn i s'.heap∧(∀ b∈fp,H' b=none)∧W i n σ' H') ?_ m0 ⟨0,σ,H2,I2,st2,fun b hb=>(f2 b hb).1,w0⟩
 rintro n s3 ⟨i,σ3,H3,I3,st3,fr3,w3⟩
 rcases turn i n σ3 H3 w3 with ⟨stop,qn⟩ | ⟨go,N,hN,step⟩
 ·refine wpAny_passesOwn hp (thn (T.done X rfl rfl rfl hc i pins s3 σ3 H3 X.xe I3 (stat fr3) st3 stop) fun r s4 ⟨hr,I4⟩=>?_)
  subst hr
  exact wpAny_execs_nil ⟨σ3,H3,I4,qn⟩
 ·refine wpAny_passesOwn hp (thn (T.item X rfl rfl rfl hc i pins s3 σ3 H3 X.xe I3 (stat fr3) st3 go) fun r s4 ⟨u,hr,h4⟩=>?_)
  subst hr
  refine wpAny_passesOwn hp (thn h4 fun _ s5 ⟨x,H5,I5,r5,y5,st5,fr5⟩=>?_)
  have I5':=I5.pinned (stat fr5) (T.obj _ _ st5)
  refine wpAny_passesOwn hp (thn (hg _ s5 σ3 H5 x u _ I5' r5 (step x H5 y5)) fun _ s6 ⟨σ6,H6,I6,q6⟩=>?_)
  refine wpAny_passesOwn hp (thn (hb _ s6 σ6 H6 _ I6 q6) fun f s7 q7=>?_)
  have again:∀ {σ7:St}{H7:Hp},Inv X (pins++Xr3 fp s5.heap) σ7 H7 s7→N σ7 H7→∃ m,m<n∧∃ i σ' H',Inv X pins σ' H' s7∧tn i s7.heap∧(∀ b∈fp,H' b=none)∧W i m σ' H':=fun {σ7 H7} I7 n7=>by
   obtain ⟨m',hm,w7⟩:=hN σ7 H7 n7
   refine ⟨m',hm,i+1,σ7,H7,I7.unpinned,T.keep _ _ _ st5 fun b hb o e=>(I7.pin (b,o) (List.mem_append_right _ (List.mem_append_right _ (Ji1 hb e)))).1,fun b hb=>?_,w7⟩
   obtain ⟨o,e,d⟩:=T.obj _ _ st5 b hb
   exact (I7.pin (b,o) (List.mem_append_right _ (List.mem_append_right _ (Ji1 hb e)))).2.1
  cases f with
  | next=>obtain ⟨σ7,H7,I7,n7⟩:=q7;exact again I7 n7
  | cont=>obtain ⟨σ7,H7,I7,n7⟩:=q7;exact again I7 n7
  | brk=>obtain ⟨σ7,H7,I7,q7⟩:=q7;exact ⟨σ7,H7,I7.unpinned,q7⟩
  | ret v=>obtain ⟨x7,σ7,H7,I7,r7,q7⟩:=q7;exact ⟨x7,σ7,H7,I7.unpinned,r7,q7⟩
end
theorem Xw6 {K:PySem.W.Frag}{a:Addr}{xs:List V}{g:TG}{tb:TS}{D:Zd6} {σ:St}{H:Hp} (Pv:Nat→St→Hp→Prop) (h0:Pv 0 σ H) (hl:∀ i σ H,i≤xs.length→Pv i σ H→SqL K H a xs)
  (hs:∀ i x σ H,xs[i]? = some x→Pv i σ H→g x σ H fun σ2 H2=>tb { D with nx:=Pv (i+1),ct:=Pv (i+1),bk:=D.nx } σ2 H2) (hd:∀ σ H,Pv xs.length σ H→D.nx σ H) :
  ∃ W:Nat→Nat→St→Hp→Prop,(∃ m,W 0 m σ H)∧∀ i m σ H,W i m σ H →
   ((Itl K a).stop i H∧D.nx σ H)∨((Itl K a).go i H∧∃ N:St→Hp→Prop,(∀ σ' H',N σ' H'→∃ m',m'<m∧W (i+1) m' σ' H')∧∀ x H',(Itl K a).yld i H x H'→g x σ H' fun σ2 H2=>tb { D with nx:=N,ct:=N,bk:=D.nx } σ2 H2):=by
 refine ⟨fun i m σ H=>m=xs.length-i∧i≤xs.length∧Pv i σ H,⟨xs.length,by simp,Nat.zero_le _,h0⟩,?_⟩
 rintro i m σ H ⟨rfl,hi,p⟩
 have q:=hl i σ H hi p
 by_cases hlt:i<xs.length
 ·refine .inr ⟨⟨xs,xs[i],q,by simp [hlt]⟩,Pv (i+1),fun σ' H' p'=>⟨xs.length-(i+1),by lia,rfl,hlt,p'⟩,fun x H' y=>?_⟩
  obtain ⟨e,y⟩:=y
  subst e
  exact hs i x σ _ (y xs q) p
 ·have e:i=xs.length:=by lia
  subst e
  exact .inl ⟨⟨xs,q,Nat.le_refl _⟩,hd σ H p⟩
theorem Zv1 {lo:Int}{n:Nat}{g:TG}{tb:TS}{D:Zd6} {σ:St}{H:Hp} (Pv:Nat→St→Hp→Prop) (h0:Pv 0 σ H)
  (hs:∀ i σ H,i<n→Pv i σ H→g (.int (lo+i)) σ H fun σ2 H2=>tb { D with nx:=Pv (i+1),ct:=Pv (i+1),bk:=D.nx } σ2 H2) (hd:∀ σ H,Pv n σ H→D.nx σ H) :
  ∃ W:Nat→Nat→St→Hp→Prop,(∃ m,W 0 m σ H)∧∀ i m σ H,W i m σ H →
   ((Itr lo n).stop i H∧D.nx σ H)∨((Itr lo n).go i H∧∃ N:St→Hp→Prop,(∀ σ' H',N σ' H'→∃ m',m'<m∧W (i+1) m' σ' H')∧∀ x H',(Itr lo n).yld i H x H'→g x σ H' fun σ2 H2=>tb { D with nx:=N,ct:=N,bk:=D.nx } σ2 H2):=by
 refine ⟨fun i m σ H=>m=n-i∧i≤n∧Pv i σ H,⟨n,by simp,Nat.zero_le _,h0⟩,?_⟩
 rintro i m σ H ⟨rfl,hi,p⟩
 by_cases hlt:i<n
 ·refine .inr ⟨hlt,Pv (i+1),fun σ' H' p'=>⟨n-(i+1),by lia,rfl,hlt,p'⟩,fun x H' y=>?_⟩
  obtain ⟨e,y⟩:=y
  subst e y
  exact hs i σ _ hlt p
 ·have e:i=n:=by lia
  subst e
  exact .inl ⟨Nat.le_refl _,hd σ H p⟩
theorem Xm1 {c:TT}{tb:TS}{D:Zd6} {σ:St}{H:Hp} (Pv:St→Hp→Prop) (μ:St→Hp→Nat) (h0:Pv σ H)
  (hs:∀ σ H,Pv σ H→c σ H fun b H1=>if b=true then tb { D with nx:=fun σ' H'=>Pv σ' H'∧μ σ' H'<μ σ H,ct:=fun σ' H'=>Pv σ' H'∧μ σ' H'<μ σ H,bk:=D.nx } σ H1 else D.nx σ H1)
  (mono:∀ σ H Q Q',(∀ b H1,Q b H1→Q' b H1)→c σ H Q→c σ H Q'):Vr6 c tb D σ H:=by
 refine ⟨fun m σ H=>m=μ σ H∧Pv σ H,⟨_,rfl,h0⟩,?_⟩
 rintro m σ H ⟨rfl,p⟩
 refine mono σ H _ _ (fun b H1 q=>?_) (hs σ H p)
 cases b with
 | true=>exact ⟨_,fun σ' H' ⟨p',l⟩=>⟨_,l,rfl,p'⟩,q⟩
 | false=>exact q
end L2
namespace L2
open PySem PySem.Spec PyProof.Rows
abbrev R2:=V→V→Hp→VK→Prop
def OpR (X:Cx) (f:Value→Value→Sem Value) (r:R2):Prop :=
 ∀ (pins:List (Addr×Obj)) (s:Shared) (σ:St) (H:Hp) (x y:V) (v u:Value) (Q:VK),Inv X pins σ H s→Vp0 x v→Vp0 y u→r x y H Q →
  wpAny (model X.prog X.w) X.A (f v u) (EP X pins σ Q) X.xe s
def UnR (X:Cx) (f:Value→Sem Value) (r:V→Hp→VK→Prop):Prop :=
 ∀ (pins:List (Addr×Obj)) (s:Shared) (σ:St) (H:Hp) (x:V) (v:Value) (Q:VK),Inv X pins σ H s→Vp0 x v→r x H Q →
  wpAny (model X.prog X.w) X.A (f v) (EP X pins σ Q) X.xe s
def Ju5 (X:Cx) (f:Value) (r:List V→Hp→VK→Prop):Prop :=
 ∀ (pins:List (Addr×Obj)) (s:Shared) (σ:St) (H:Hp) (xs:List V) (us:List Value) (Q:VK),Inv X pins σ H s→Xw0 xs us→r xs H Q →
  wpAny (model X.prog X.w) X.A (call f us) (EP X pins σ Q) X.xe s
def TruR (X:Cx) (r:V→Hp→(Bool→Hp→Prop)→Prop):Prop :=
 ∀ (pins:List (Addr×Obj)) (s:Shared) (σ:St) (H:Hp) (x:V) (v:Value) (Q:Bool→Hp→Prop),Inv X pins σ H s→Vp0 x v→r x H Q →
  wpAny (model X.prog X.w) X.A (truthy v) (TP X pins σ Q) X.xe s
def tOp (r:R2) (ta tb:TE):TE:=fun σ H Q=>ta σ H fun x H1=>tb σ H1 fun y H2=>r x y H2 Q
def tUn (r:V→Hp→VK→Prop) (ta:TE):TE:=fun σ H Q=>ta σ H fun x H1=>r x H1 Q
inductive rI (C:Int→Int→Prop) (g:Int→Int→V) (x:V) (y:V) (H:Hp) (Q:VK):Prop |mk (i:Int) (j:Int) (_:x=.int i) (_:y=.int j) (_:C i j) (_:Q (g i j) H)
inductive rI0 (g:Int→Int→V) (x:V) (y:V) (H:Hp) (Q:VK):Prop |mk (i:Int) (j:Int) (_:x=.int i) (_:y=.int j) (_:Q (g i j) H)
inductive rU (g:Int→V) (x:V) (H:Hp) (Q:VK):Prop |mk (i:Int) (_:x=.int i) (_:Q (g i) H)
section
variable {X:Cx}{a b c:Expr}{ta tb tc:TE}{pos:Pos}
theorem binT (ha:PE X a ta) (hb:PE X b tb) {pins:List (Addr×Obj)}{s:Shared} {σ:St}{H:Hp}{R:V→V→Hp→Prop} (I:Inv X pins σ H s)
  (h:ta σ H fun x H1=>tb σ H1 fun y H2=>R x y H2) {Q:Value→Shared→Prop}{f:Value→Value→Sem Value}
  (hf:∀ v u s2 x y H2,Inv X pins σ H2 s2→Vp0 x v→Vp0 y u→R x y H2→wpAny (model X.prog X.w) X.A (f v u) Q X.xe s2) :
  wpAny (model X.prog X.w) X.A (eval a X.env) (fun v s₁=>wpAny (model X.prog X.w) X.A (eval b X.env) (fun u s₂=>wpAny (model X.prog X.w) X.A (f v u) Q X.xe s₂) X.xe s₁) X.xe s:=by
 refine thn (ha pins s σ H _ I h) fun v s1 ⟨x,H1,I1,r1,q1⟩=>?_
 refine thn (hb pins s1 σ H1 _ I1 q1) fun u s2 ⟨y,H2,I2,r2,q2⟩=>?_
 exact hf v u s2 x y H2 I2 r1 r2 q2
theorem Zl0 {op:Operator}{r:R2} (ho:OpR X (binaryOp op) r) (ha:PE X a ta) (hb:PE X b tb):PE X (.BinOp a op b pos) (tOp r ta tb):=by
 intro pins s σ H Q I h
 exact wpAny_BinOp (binT ha hb I h fun v u s2 x y H2 I2 rx ry q=>ho pins s2 σ H2 x y v u Q I2 rx ry q)
theorem Xc1 {op:UnaryOp}{r:V→Hp→VK→Prop} (ho:UnR X (unaryOp op) r) (ha:PE X a ta):PE X (.UnaryOp op a pos) (tUn r ta):=by
 intro pins s σ H Q I h
 exact UnaryOp_ (thn (ha pins s σ H _ I h) fun v s1 ⟨x,H1,I1,r1,q1⟩=>ho pins s1 σ H1 x v Q I1 r1 q1)
theorem opI {f:Value→Value→Sem Value}{C:Int→Int→Prop}{g:Int→Int→Int}
  (rule:∀ (i j:Int) (t u:Tok) (s:Shared) (Q:Value→Shared→Prop) (E:Value→Shared→Prop),C i j→Q (.int (g i j) s.toks) { s with toks:=s.toks+1 }→wpAny (model X.prog X.w) X.A (f (.int i t) (.int j u)) Q E s) :
  OpR X f (rI C fun i j=>.int (g i j)):=by
 intro pins s σ H x y v u Q I rx ry h
 obtain ⟨i,j,rfl,rfl,hc,q⟩:=h
 obtain ⟨t,rfl⟩:=rx
 obtain ⟨t',rfl⟩:=ry
 exact rule i j t t' s _ _ hc ⟨.int (g i j),H,I.tok _,⟨_,rfl⟩,q⟩
theorem Uv6 {f:Value→Value→Sem Value}{g:Int→Int→Int}
  (rule:∀ (i j:Int) (t u:Tok) (s:Shared) (Q:Value→Shared→Prop) (E:Value→Shared→Prop),Q (.int (g i j) s.toks) { s with toks:=s.toks+1 }→wpAny (model X.prog X.w) X.A (f (.int i t) (.int j u)) Q E s) :
  OpR X f (rI0 fun i j=>.int (g i j)):=by
 intro pins s σ H x y v u Q I rx ry h
 obtain ⟨i,j,rfl,rfl,q⟩:=h
 obtain ⟨t,rfl⟩:=rx
 obtain ⟨t',rfl⟩:=ry
 exact rule i j t t' s _ _ ⟨.int (g i j),H,I.tok _,⟨_,rfl⟩,q⟩
theorem opB0 {f:Value→Value→Sem Value}{g:Int→Int→Bool}
  (rule:∀ (i j:Int) (t u:Tok) (s:Shared) (Q:Value→Shared→Prop) (E:Value→Shared→Prop),Q (.bool (g i j)) s→wpAny (model X.prog X.w) X.A (f (.int i t) (.int j u)) Q E s) :
  OpR X f (rI0 fun i j=>.bl (g i j)):=by
 intro pins s σ H x y v u Q I rx ry h
 obtain ⟨i,j,rfl,rfl,q⟩:=h
 obtain ⟨t,rfl⟩:=rx
 obtain ⟨t',rfl⟩:=ry
 exact rule i j t t' s _ _ ⟨.bl (g i j),H,I,rfl,q⟩
def CDiv (i j:Int):Prop:=0<j∧j<1073741824
def CPow (i j:Int):Prop:=0≤j∧j≤1000000∧i.natAbs<2^64
def CMul (i j:Int):Prop:=(-(2^64)<i∧i<2^64)∨(-(2^64)<j∧j<2^64)
theorem CMul.ok {i j:Int} (h:CMul i j):IntMulOk i j:=by
 rcases h with ⟨h1,h2⟩ | ⟨h1,h2⟩
 ·exact .of_left (intBits_le_64 h1 h2)
 ·exact .of_right (intBits_le_64 h1 h2)
theorem Xu4 (k:Nat):(0:Int)≤2^k:=by
 rw [two_pow_cast]
 exact Int.natCast_nonneg _
theorem Yy0:OpR X (binaryOp .Add) (rI0 fun i j=>.int (i+j)):=Uv6 fun _ _ _ _ _ _ _ q=>add_int q
theorem Xe0:OpR X (binaryOp .Sub) (rI0 fun i j=>.int (i-j)):=Uv6 fun _ _ _ _ _ _ _ q=>sub_int q
theorem Vq0:OpR X (binaryOp .Mult) (rI CMul fun i j=>.int (i*j)):=opI fun _ _ _ _ _ _ _ hc q=>mul_int q hc.ok
theorem Zi3:OpR X (binaryOp .FloorDiv) (rI CDiv fun i j=>.int (i/j)):=opI fun i j _ _ _ _ _ hc q=>by
 have h1:(0:Int)<j:=hc.1
 have h2:j<1073741824:=hc.2
 exact floordiv_int (by lia) (by rw [Int.fdiv_eq_ediv_of_nonneg i (by lia)];exact q) (.inl (PyProof.noPylong_small (by lia)))
theorem Xv3:OpR X (binaryOp .Mod) (rI (fun _ j=>0<j) fun i j=>.int (i%j)):=opI fun i j _ _ _ _ _ hc q=>by
 have h1:(0:Int)<j:=hc
 exact mod_int' (by lia) (by rw [Int.fmod_eq_emod_of_nonneg i (by lia)];exact q)
theorem Va7:OpR X (binaryOp .Mod) (rI (fun _ j=>j≠0) fun i j=>.int (i.fmod j)):=opI fun _ _ _ _ _ _ _ hc q=>mod_int' hc q
theorem Vy0:OpR X (binaryOp .LShift) (rI CPow fun i j=>.int (i*2^j.toNat)):=opI fun _ _ _ _ _ _ _ hc q=>lshift_int_small hc.1 hc.2.1 hc.2.2 q
theorem Xf0:OpR X (binaryOp .RShift) (rI (fun _ j=>0≤j) fun i j=>.int (i/2^j.toNat)):=opI fun i j _ _ _ _ _ hc q =>
 rshift_int hc (by rw [Int.fdiv_eq_ediv_of_nonneg i (Xu4 _)];exact q)
theorem Yf0:OpR X (binaryOp .BitAnd) (rI0 fun i j=>.int (Builtin.bitAnd i j)):=Uv6 fun _ _ _ _ _ _ _ q=>and_int q
theorem Yd1:OpR X (binaryOp .BitOr) (rI0 fun i j=>.int (Builtin.bitOr i j)):=Uv6 fun _ _ _ _ _ _ _ q=>or_int q
theorem Zt1:OpR X (binaryOp .BitXor) (rI0 fun i j=>.int (Builtin.bitXor i j)):=Uv6 fun _ _ _ _ _ _ _ q=>xor_int q
theorem Jm7:OpR X (inplaceOp .BitAnd) (rI0 fun i j=>.int (Builtin.bitAnd i j)):=Uv6 fun _ _ _ _ _ _ _ q=>iand_int q
theorem Up5:OpR X (inplaceOp .BitOr) (rI0 fun i j=>.int (Builtin.bitOr i j)):=Uv6 fun _ _ _ _ _ _ _ q=>ior_int q
theorem Jl7:OpR X (inplaceOp .BitXor) (rI0 fun i j=>.int (Builtin.bitXor i j)):=Uv6 fun _ _ _ _ _ _ _ q=>ixor_int q
theorem unI {f:Value→Sem Value}{g:Int→Int}
  (rule:∀ (i:Int) (t:Tok) (s:Shared) (Q:Value→Shared→Prop) (E:Value→Shared→Prop),Q (.int (g i) s.toks) { s with toks:=s.toks+1 }→wpAny (model X.prog X.w) X.A (f (.int i t)) Q E s) :
  UnR X f (rU fun i=>.int (g i)):=by
 intro pins s σ H x v Q I rx h
 obtain ⟨i,rfl,q⟩:=h
 obtain ⟨t,rfl⟩:=rx
 exact rule i t s _ _ ⟨.int (g i),H,I.tok _,⟨_,rfl⟩,q⟩
theorem Jg0:UnR X (unaryOp .USub) (rU fun i=>.int (-i)):=unI fun _ _ _ _ _ q=>neg_int q
theorem un_inv:UnR X (unaryOp .Invert) (rU fun i=>.int (Builtin.bitNot i)):=unI fun _ _ _ _ _ q=>invert_int q
end
def scal:V→V→Bool
 | .non,.non=>true | .non,.int _=>true | .int _,.non=>true | .non,.bl _=>true | .bl _,.non=>true | .non,.str _=>true | .str _,.non=>true
 | .int _,.int _=>true | .bl _,.bl _=>true | .str _,.str _=>true | .byt _,.byt _=>true
 | .int _,.str _=>true | .str _,.int _=>true | .bl _,.str _=>true | .str _,.bl _=>true
 | _,_=>false
inductive rEq (x:V) (y:V) (H:Hp) (Q:VK):Prop |mk (_:scal x y=true) (_:Q (.bl (decide (x=y))) H)
inductive rNe (x:V) (y:V) (H:Hp) (Q:VK):Prop |mk (_:scal x y=true) (_:Q (.bl (!decide (x=y))) H)
theorem Yc3 {i j:Int}:decide (V.int i=V.int j)=(i == j):=by
 rw [Bool.eq_iff_iff]
 simp
theorem Jn6 {i j:Bool}:decide (V.bl i=V.bl j)=(i == j):=by
 rw [Bool.eq_iff_iff]
 simp
theorem Jd5 {i j:Str}:decide (V.str i=V.str j)=(i == j):=by
 rw [Bool.eq_iff_iff]
 simp
theorem Je5 {i j:Array UInt8}:decide (V.byt i=V.byt j)=(i.toList == j.toList):=by
 rw [Bool.eq_iff_iff]
 cases i
 cases j
 simp
section
variable {X:Cx}{a b c:Expr}{ta tb tc:TE}{pos:Pos}
theorem Xq0 {pins:List (Addr×Obj)} {σ:St}{H:Hp}{s:Shared}{Q:VK}{k k':Bool} (I:Inv X pins σ H s) (q:Q (.bl k) H) (e:k=k'):EP X pins σ Q (.bool k') s:=by
 subst e
 exact ⟨.bl k,H,I,rfl,q⟩
theorem Xj0:OpR X (compareOp .Eq) rEq:=by
 intro pins s σ H x y v u Q I rx ry h
 obtain ⟨hs,q⟩:=h
 cases x with
 | non =>
  cases rx
  cases y with
  | non=>cases ry;exact PySem.EqNone.eq_none_none (Xq0 I q (by simp))
  | bl j=>cases ry;exact PySem.EqNone.eq_none_bool (Xq0 I q (by simp))
  | int j=>obtain ⟨t',rfl⟩:=ry;exact PySem.EqNone.eq_none_int (Xq0 I q (by simp))
  | str j=>obtain ⟨t',rfl⟩:=ry;exact PySem.EqNone.eq_none_str (Xq0 I q (by simp))
  | _=>exact absurd (show false=true from hs) Bool.false_ne_true
 | bl i =>
  cases rx
  cases y with
  | non=>cases ry;exact PySem.EqNone.eq_bool_none (Xq0 I q (by simp))
  | bl j=>cases ry;exact eq_bool (Xq0 I q Jn6)
  | str j=>obtain ⟨t',rfl⟩:=ry;exact PySem.EqMixed.eq_bool_str (Xq0 I q (by simp))
  | _=>exact absurd (show false=true from hs) Bool.false_ne_true
 | int i =>
  obtain ⟨t,rfl⟩:=rx
  cases y with
  | non=>cases ry;exact PySem.EqNone.eq_int_none (Xq0 I q (by simp))
  | int j=>obtain ⟨t',rfl⟩:=ry;exact eq_int (Xq0 I q Yc3)
  | str j=>obtain ⟨t',rfl⟩:=ry;exact PySem.EqMixed.eq_int_str (Xq0 I q (by simp))
  | _=>exact absurd (show false=true from hs) Bool.false_ne_true
 | str i =>
  obtain ⟨t,rfl⟩:=rx
  cases y with
  | non=>cases ry;exact PySem.EqNone.eq_str_none (Xq0 I q (by simp))
  | bl j=>cases ry;exact PySem.EqMixed.eq_str_bool (Xq0 I q (by simp))
  | int j=>obtain ⟨t',rfl⟩:=ry;exact PySem.EqMixed.eq_str_int (Xq0 I q (by simp))
  | str j=>obtain ⟨t',rfl⟩:=ry;exact eq_str (Xq0 I q Jd5)
  | _=>exact absurd (show false=true from hs) Bool.false_ne_true
 | byt i =>
  obtain ⟨t,rfl⟩:=rx
  cases y with
  | byt j=>obtain ⟨t',rfl⟩:=ry;exact PySem.W.eq_bytes (Xq0 I q Je5)
  | _=>exact absurd (show false=true from hs) Bool.false_ne_true
 | _=>cases y <;> exact absurd (show false=true from hs) Bool.false_ne_true
theorem Vd5:OpR X (compareOp .NotEq) rNe:=by
 intro pins s σ H x y v u Q I rx ry h
 obtain ⟨hs,q⟩:=h
 cases x with
 | non =>
  cases rx
  cases y with
  | non=>cases ry;exact PySem.EqNone.ne_none_none (Xq0 I q (by simp))
  | bl j=>cases ry;exact PySem.EqNone.ne_none_bool (Xq0 I q (by simp))
  | int j=>obtain ⟨t',rfl⟩:=ry;exact PySem.EqNone.ne_none_int (Xq0 I q (by simp))
  | str j=>obtain ⟨t',rfl⟩:=ry;exact PySem.EqNone.ne_none_str (Xq0 I q (by simp))
  | _=>exact absurd (show false=true from hs) Bool.false_ne_true
 | bl i =>
  cases rx
  cases y with
  | non=>cases ry;exact PySem.EqNone.ne_bool_none (Xq0 I q (by simp))
  | bl j=>cases ry;exact ne_bool (Xq0 I q (congrArg not Jn6))
  | str j=>obtain ⟨t',rfl⟩:=ry;exact PySem.EqMixed.ne_bool_str (Xq0 I q (by simp))
  | _=>exact absurd (show false=true from hs) Bool.false_ne_true
 | int i =>
  obtain ⟨t,rfl⟩:=rx
  cases y with
  | non=>cases ry;exact PySem.EqNone.ne_int_none (Xq0 I q (by simp))
  | int j=>obtain ⟨t',rfl⟩:=ry;exact ne_int (Xq0 I q (congrArg not Yc3))
  | str j=>obtain ⟨t',rfl⟩:=ry;exact PySem.EqMixed.ne_int_str (Xq0 I q (by simp))
  | _=>exact absurd (show false=true from hs) Bool.false_ne_true
 | str i =>
  obtain ⟨t,rfl⟩:=rx
  cases y with
  | non=>cases ry;exact PySem.EqNone.ne_str_none (Xq0 I q (by simp))
  | bl j=>cases ry;exact PySem.EqMixed.ne_str_bool (Xq0 I q (by simp))
  | int j=>obtain ⟨t',rfl⟩:=ry;exact PySem.EqMixed.ne_str_int (Xq0 I q (by simp))
  | str j=>obtain ⟨t',rfl⟩:=ry;exact ne_str (Xq0 I q (congrArg not Jd5))
  | _=>exact absurd (show false=true from hs) Bool.false_ne_true
 | byt i =>
  obtain ⟨t,rfl⟩:=rx
  cases y with
  | byt j=>obtain ⟨t',rfl⟩:=ry;exact PySem.W.ne_bytes (Xq0 I q (congrArg not Je5))
  | _=>exact absurd (show false=true from hs) Bool.false_ne_true
 | _=>cases y <;> exact absurd (show false=true from hs) Bool.false_ne_true
theorem Ye1:OpR X (compareOp .Lt) (rI0 fun i j=>.bl (decide (i<j))):=opB0 fun _ _ _ _ _ _ _ q=>lt_int q
theorem Jq3:OpR X (compareOp .LtE) (rI0 fun i j=>.bl (decide (i≤j))):=opB0 fun _ _ _ _ _ _ _ q=>le_int q
theorem Vg2:OpR X (compareOp .Gt) (rI0 fun i j=>.bl (decide (j<i))):=opB0 fun _ _ _ _ _ _ _ q=>gt_int q
theorem Zh3:OpR X (compareOp .GtE) (rI0 fun i j=>.bl (decide (j≤i))):=opB0 fun _ _ _ _ _ _ _ q=>ge_int q
theorem Zv0 (b:Expr) {op:CmpOp} (h:op ≠ .In:=by decide) (h2:op ≠ .NotIn:=by decide):behindInMarks op b=false:=by
 have e1:(op == CmpOp.In)=false:=by cases op <;> first | rfl | exact absurd rfl h
 have e2:(op == CmpOp.NotIn)=false:=by cases op <;> first | rfl | exact absurd rfl h2
 cases b <;> simp [behindInMarks,e1,e2]
theorem Xy0 {op:CmpOp}{r:R2} (ho:OpR X (compareOp op) r) (ha:PE X a ta) (hb:PE X b tb) (hm:behindInMarks op b=false):PE X (.Compare a [op] [b] pos) (tOp r ta tb):=by
 intro pins s σ H Q I h
 exact wpAny_Compare1 (binT ha hb I h fun v u s2 x y H2 I2 rx ry q=>ho pins s2 σ H2 x y v u Q I2 rx ry q) hm
inductive XTest (x:V) (H':Hp) (Q:Bool→Hp→Prop):Prop |mk (k:Bool) (_:x=.bl k) (_:Q k H')
def tTest (t:TE):TT:=fun σ H Q=>t σ H fun x H'=>XTest x H' Q
theorem Zt0 {op:CmpOp}{r:R2} (ho:OpR X (compareOp op) r) (ha:PE X a ta) (hb:PE X b tb) (hm:behindInMarks op b=false):PT X (.Compare a [op] [b] pos) (tTest (tOp r ta tb)):=by
 intro pins s σ H Q I h
 refine wpAny_isTrue_Compare1 (thn (ha pins s σ H _ I h) fun v s1 ⟨x,H1,I1,r1,q1⟩=>thn (hb pins s1 σ H1 _ I1 q1) fun u s2 ⟨y,H2,I2,r2,q2⟩ =>
  thn (ho pins s2 σ H2 x y v u _ I2 r1 r2 q2) fun c s3 ⟨z,H3,I3,r3,k,e,q3⟩=>?_) hm
 subst e
 cases r3
 exact wpAny_truthy_bool ⟨H3,I3,q3⟩
def Vt6 (r r':R2) (ta tb tc:TE):TE:=fun σ H Q=>ta σ H fun x H1=>tb σ H1 fun y H2=>r x y H2 fun z H3=>∃ k,z=.bl k ∧
 (if k=true then tc σ H3 fun w' H4=>r' y w' H4 Q else Q (.bl false) H3)
theorem Yw4 {op op':CmpOp}{r r':R2} (ho:OpR X (compareOp op) r) (ho':OpR X (compareOp op') r') (ha:PE X a ta) (hb:PE X b tb) (hc:PE X c tc)
  (hm:lastMarks [op,op'] [b,c]=false:=by with_unfolding_all rfl):PE X (.Compare a [op,op'] [b,c] pos) (Vt6 r r' ta tb tc):=by
 intro pins s σ H Q I h
 refine Compare_chain (thn (ha pins s σ H _ I h) fun v s1 ⟨x,H1,I1,r1,q1⟩=>chain_link (thn (hb pins s1 σ H1 _ I1 q1) fun u s2 ⟨y,H2,I2,r2,q2⟩ =>
  thn (ho pins s2 σ H2 x y v u _ I2 r1 r2 q2) fun d s3 ⟨z,H3,I3,r3,k,e,q3⟩=>?_)) hm
 subst e
 cases r3
 refine wpAny_truthy_bool ?_
 cases k with
 | false=>exact ite_ff ⟨.bl false,H3,I3,rfl,q3⟩
 | true=>exact ite_tt (chain_last (thn (hc pins s3 σ H3 _ I3 q3) fun w' s4 ⟨z',H4,I4,r4,q4⟩=>ho' pins s4 σ H4 y z' u w' Q I4 r2 r4 q4))
theorem Yl6 {op op':CmpOp}{r r':R2} (ho:OpR X (compareOp op) r) (ho':OpR X (compareOp op') r') (ha:PE X a ta) (hb:PE X b tb) (hc:PE X c tc)
  (hm:lastMarks [op,op'] [b,c]=false:=by with_unfolding_all rfl):PT X (.Compare a [op,op'] [b,c] pos) (tTest (Vt6 r r' ta tb tc)):=by
 intro pins s σ H Q I h
 refine isTrue_chain (thn (ha pins s σ H _ I h) fun v s1 ⟨x,H1,I1,r1,q1⟩=>test_link (thn (hb pins s1 σ H1 _ I1 q1) fun u s2 ⟨y,H2,I2,r2,q2⟩ =>
  thn (ho pins s2 σ H2 x y v u _ I2 r1 r2 q2) fun d s3 ⟨z,H3,I3,r3,k,e,q3⟩=>?_)) hm
 subst e
 cases r3
 refine wpAny_truthy_bool ?_
 cases k with
 | false =>
  obtain ⟨k',e',q'⟩:=q3
  cases e'
  exact ite_ff ⟨H3,I3,q'⟩
 | true =>
  refine ite_tt (test_last (thn (hc pins s3 σ H3 _ I3 q3) fun w' s4 ⟨z',H4,I4,r4,q4⟩=>thn (ho' pins s4 σ H4 y z' u w' _ I4 r2 r4 q4) fun d' s5 ⟨z2,H5,I5,r5,k2,e2,q5⟩=>?_))
  subst e2
  cases r5
  exact wpAny_truthy_bool ⟨H5,I5,q5⟩
def TruV (K:PySem.W.Frag) (x:V) (H:Hp) (k:Bool):Prop :=
 match x with
 | .non=>k=false
 | .bl b=>k=b
 | .int i=>k=(i != 0)
 | .str y=>y.length≤sizeLine∧k=((y.length:Int) != 0)
 | .byt y=>y.size≤sizeLine∧k=((y.size:Int) != 0)
 | .ref p=>(∃ xs,SqL K H p xs∧k = !xs.isEmpty)∨(∃ xs,SqT K H p xs∧k = !xs.isEmpty)∨∃ kvs,H p=some (.dK kvs)∧k = !kvs.isEmpty
 | _=>False
theorem Jl4 {κ:Type}{kvs:List (κ×V)}{vs:List (κ×Value)} (r:KV kvs vs):(!vs.isEmpty) = !kvs.isEmpty:=by
 cases r <;> rfl
theorem Uy2 {xs:List V}{its:List Value} (r:Xw0 xs its):(!its.toArray.isEmpty) = !xs.isEmpty:=by
 cases r <;> simp
theorem Ux2:(sizeLine:Nat)<2^63:=by rw [sizeLine_eq];decide
theorem tru_ok:TruR X (fun x H Q=>∃ k,TruV X.K x H k∧Q k H):=by
 intro pins s σ H x v Q I rx h
 obtain ⟨k,e,q⟩:=h
 have hl:=Ux2
 have hs:sizeLine=16777216:=sizeLine_eq
 cases x with
 | non =>
  cases rx
  have e':k=false:=e
  subst e'
  exact truthy_none ⟨H,I,q⟩
 | bl b =>
  cases rx
  have e':k=b:=e
  subst e'
  exact wpAny_truthy_bool ⟨H,I,q⟩
 | int i =>
  obtain ⟨t,rfl⟩:=rx
  have e':k=(i != 0):=e
  subst e'
  exact PySem.P.truthy_int ⟨H,I,q⟩
 | str y =>
  obtain ⟨t,rfl⟩:=rx
  obtain ⟨hy,e'⟩:y.length≤sizeLine∧k=((y.length:Int) != 0):=e
  subst e'
  exact PySem.P.truthy_str (by lia) ⟨H,I.tok _,q⟩
 | byt y =>
  obtain ⟨t,rfl⟩:=rx
  obtain ⟨hy,e'⟩:y.size≤sizeLine∧k=((y.size:Int) != 0):=e
  subst e'
  exact PySem.W.truthy_bytes (by lia) ⟨H,I.tok _,q⟩
 | ref p =>
  cases rx
  have e':(∃ xs,SqL X.K H p xs∧k = !xs.isEmpty)∨(∃ xs,SqT X.K H p xs∧k = !xs.isEmpty)∨∃ kvs,H p=some (.dK kvs)∧k = !kvs.isEmpty:=e
  rcases e' with ⟨xs,hx,e'⟩ | ⟨xs,hx,e'⟩ | ⟨kvs,hx,e'⟩
  ·subst e'
   obtain ⟨its,r,pl,hz⟩:=I.list hx
   have hlen:=r.length
   exact wpAny_truthy_list pl.isList (by simp only [List.size_toArray];lia) ⟨H,I.tok _,by rw [Uy2 r];exact q⟩
  ·subst e'
   obtain ⟨its,r,pl,hz⟩:=I.tuple hx
   have hlen:=r.length
   exact truthy_tuple pl (by simp only [List.size_toArray];lia) ⟨H,I.tok _,by rw [Uy2 r];exact q⟩
  ·subst e'
   obtain ⟨hz,hS,vs,r,m⟩:kvs.length≤sizeLine∧(p == sysModules)=false∧∃ vs,KV kvs vs∧s.heap.DictOf (Vs0 X.prog X.w) p vs:=I.hok p _ hx
   have hlen:kvs.length=vs.length:=Paired.length r
   exact wpAny_truthy_dict hS m (by lia) ⟨H,I.tok _,by rw [Jl4 r];exact q⟩
 | _=>exact (show False from e).elim
theorem Zs0 (ha:PE X a ta) (he:∀ whole,isTrue a X.env whole=(do let v ← whole;standAt a.pos;holding [v] (truthy v))) :
  PT X a (fun σ H Q=>ta σ H fun x H'=>∃ k,TruV X.K x H' k∧Q k H'):=by
 intro pins s σ H Q I h
 exact isTrue_plain (thn (ha pins s σ H _ I h) fun v s1 ⟨x,H1,I1,r1,q1⟩=>tru_ok pins s1 σ H1 x v Q I1 r1 q1) (he _)
theorem vals1 {x:V}{us:List Value} (r:Xw0 [x] us):∃ u,us=[u]∧Vp0 x u:=by
 cases r with
 | cons r1 r2=>cases r2;exact ⟨_,rfl,r1⟩
theorem vals2 {x y:V}{us:List Value} (r:Xw0 [x,y] us):∃ u w',us=[u,w']∧Vp0 x u∧Vp0 y w':=by
 cases r with
 | cons r1 r2 =>
  cases r2 with
  | cons r3 r4=>cases r4;exact ⟨_,_,rfl,r1,r3⟩
theorem Uv1:Ju5 X (.builtin "abs") (fun xs H Q=>∃ i,xs=[.int i]∧Q (.int (if i<0 then -i else i)) H):=by
 intro pins s σ H xs us Q I r h
 obtain ⟨i,rfl,q⟩:=h
 obtain ⟨u,rfl,t,rfl⟩:=vals1 r
 exact call_abs_int fun u tk=>⟨.int (if i<0 then -i else i),H,I.tok _,⟨_,rfl⟩,q⟩
theorem Uu1 (hc:X.calm=true):Ju5 X (.builtin "max") (fun xs H Q=>∃ i j,xs=[.int i,.int j]∧Q (.int (if j > i then j else i)) H):=by
 intro pins s σ H xs us Q I r h
 obtain ⟨i,j,rfl,q⟩:=h
 obtain ⟨u,w',rfl,⟨t,rfl⟩,⟨t',rfl⟩⟩:=vals2 r
 refine max_two_ints (I.ok.hd hc) fun h' tk k=>⟨_,H,I.kept k,?_,q⟩
 by_cases hj:j > i
 ·rw [if_pos hj,if_pos hj];exact ⟨_,rfl⟩
 ·rw [if_neg hj,if_neg hj];exact ⟨_,rfl⟩
theorem Zc1 (hc:X.calm=true):Ju5 X (.builtin "min") (fun xs H Q=>∃ i j,xs=[.int i,.int j]∧Q (.int (if j<i then j else i)) H):=by
 intro pins s σ H xs us Q I r h
 obtain ⟨i,j,rfl,q⟩:=h
 obtain ⟨u,w',rfl,⟨t,rfl⟩,⟨t',rfl⟩⟩:=vals2 r
 refine min_two_ints (I.ok.hd hc) fun h' tk k=>⟨_,H,I.kept k,?_,q⟩
 by_cases hj:j<i
 ·rw [if_pos hj,if_pos hj];exact ⟨_,rfl⟩
 ·rw [if_neg hj,if_neg hj];exact ⟨_,rfl⟩
end
end L2
namespace L2
open PySem PySem.Spec PyProof.Rows
structure Zl8 (h:Heap) (x dx C:Addr) (mA:Str→Option Value):Prop where
 obj:h.get? x=some (PySem.W.instObj C dx)
 ns:h.Ns1 dx mA
 ne:dx≠x
theorem Ud5 {h:Heap}{dx:Addr}{mA:Str→Option Value} (n:h.Ns1 dx mA):∃ od,h.get? dx=some od∧∀ name,PySem.W.lookIn name od=some (mA name):=by
 obtain ⟨o,es,ep,ho,hd,hk,_,hm⟩:=n
 refine ⟨o,ho,fun name=>?_⟩
 have e:=hm name
 unfold nsFind findBy at e
 rw [← Array.find?_toList] at e
 unfold PySem.W.lookIn
 rw [hd]
 dsimp only
 split
 ·rename_i y q
  rw [q] at e
  exact congrArg some e
 ·rename_i q
  rw [q] at e
  have a:es.toList.any (·.refKey)=false:=by
   rw [List.any_eq_false]
   intro y hy
   obtain ⟨z,t,hkey⟩:=hk y (Array.mem_toList_iff.mp hy)
   simp [DictEntry.refKey,hkey]
  have a':¬ es.toList.any (·.refKey)=true:=by rw [a];exact Bool.false_ne_true
  rw [if_neg a']
  exact congrArg some e
theorem Zl8.look {h:Heap}{x dx C:Addr}{mA:Str→Option Value} (I:Zl8 h x dx C mA):∃ od,PySem.W.InstAt h x (PySem.W.instObj C dx) C (some od)∧∀ name,PySem.W.lookIn name od=some (mA name) :=
 let ⟨od,ho,hl⟩:=Ud5 I.ns
 ⟨od,⟨I.obj,rfl,rfl,ho⟩,hl⟩
section
variable {prog:Program}{w:World}{A:Around}{E:Value→Shared→Prop}{s:Shared}{K:PySem.W.Frag}{x dx C f:Addr}{mA:Str→Option Value}{name:Str}{v:Value}
theorem Jr7 {expr:Bool}{Q:Value→Shared→Prop} (X:K.In s.heap) (I:Zl8 s.heap x dx C mA) (hg:PySem.W.plainGet K C name=true) (hh:PySem.W.hasDictIn K C=true)
  (ha:PySem.W.findIn K (.ref C) name=some none) (hv:mA name=some v) (hv':PySem.W.handedIn v=true) (h:Q v { s with toks:=s.toks+1 }) :
  wpAny (model prog w) A (getAttr (.ref x) name expr) Q E s:=by
 obtain ⟨od,J,hl⟩:=I.look
 exact PySem.W.get_value X J (PySem.W.plainGet_of hg).1 (PySem.W.findObj_own hh ha rfl (by rw [hl,hv])) hv' h
theorem Xv6 {pl:Sem Bool}{Q:Value×List Value→Shared→Prop} (X:K.In s.heap) (I:Zl8 s.heap x dx C mA) (hg:PySem.W.plainGet K C name=true)
  (hf:PySem.W.findIn K (.ref C) name=some (some (.ref f))) (ht:PySem.W.isFn K (.ref f)=true) (hv:mA name=none) (h:Q (.ref f,[.ref x]) s) :
  wpAny (model prog w) A (getMethod (.ref x) name pl) Q E s:=by
 obtain ⟨od,J,hl⟩:=I.look
 exact PySem.W.method_fn X J (PySem.W.plainGet_of hg).1 (PySem.W.plainGet_of hg).2 hf (beq_iff_eq.mp ht) (by show (PySem.W.lookIn name od).map (·.isSome)=some false;rw [hl,hv];rfl) h
theorem Ya7 {ns:List Str}{Q:Unit→Shared→Prop} (X:K.In s.heap) (I:Zl8 s.heap x dx C mA)
  (hs:PySem.W.findIn K (.ref C) "__setattr__" = some (some (.builtin "object.__setattr__"))) (hp:PySem.W.plainOver K C=true) (ht:PySem.W.takerIn K C name=some none) (hh:PySem.W.hasDictIn K C=true)
  (hw:PySem.Within mA ns) (hsz:ns.length≤sizeLine)
  (h:∀ h',Zl8 h' x dx C (fun y=>if y=name then some v else mA y)→Heap.SameBut dx s.heap h'→Q () { s with heap:=h',toks:=s.toks+2 }) :
  wpAny (model prog w) A (setAttr (.ref x) name v) Q E s:=by
 obtain ⟨od,J,hl⟩:=I.look
 refine PySem.W.set_plain X J hs (PySem.W.osa_open (s:={ s with toks:=s.toks+1 }) (r:=none) X J hp ht fun b=>?_)
 obtain ⟨cd,hc,hd'⟩:=PySem.W.any_some hh
 have hx:s.heap.get? x=some ⟨.ref C,some dx,.plain,#[]⟩:=I.obj
 refine wpAny_bind (wpAny_pure (wpAny_bind (wpAny_bind (wpAny_loadPart hx (wpAny_bind (PySem.W.Looks.here (s:={ s with toks:=s.toks+1 }) (PySem.W.looks_clsIn X hc) ?_))))))
 rw [hd']
 refine wpAny_pure (a:=some dx) (wpAny_bind (wpAny_pure (wpAny_bind ?_)))
 refine wpAny_nsSet1 (s:={ s with toks:=s.toks+1 }) I.ns fun h' hn2 hs2=>?_
 obtain ⟨oD,esD,epD,hoD,hdD,hcD⟩:=hn2.count (PySem.Within.cons name v hw)
 refine wpAny_bind (wpAny_lookBehind hoD (by rw [hdD];exact pastItsLine_dict (Nat.le_trans hcD (by rw [List.length_cons];lia))) ?_)
 exact wpAny_pure (h _ ⟨(hs2.2 _ (Ne.symm I.ne)).trans I.obj,hn2,I.ne⟩ hs2)
theorem Xl6 {R:Result→Shared→Prop}{vs:List Value}{kw:List (Str×Value)} (X:K.In s.heap) (hm:PySem.W.makesIn K C=true)
  (hi:PySem.W.findIn K (.ref C) "__init__" = some (some (.ref f))) (hf:PySem.W.typeIn K (.ref f)=some (.type "function"))
  (h:codeAny (model prog w) (A.under (.builtin "type.__call__" ⟨.ref C :: vs,kw⟩)) (.call (.ref f) ⟨.ref (s.heap.objs.size+1) :: vs,kw⟩) (PySem.W.InitBack (s.heap.objs.size+1) R)
   { s with heap:=(s.heap.push PySem.W.emptyDict).push (PySem.W.instObj C s.heap.objs.size) }) :
  codeAny (model prog w) A (.call (.ref C) ⟨vs,kw⟩) R s:=by
 obtain ⟨hh,g,d,t,os⟩:=s
 exact PySem.W.make_core (PySem.W.makes_of X hm) (PySem.W.looks_findIn X hi) (fun self=>PySem.W.bind_fn X self hf) (.inl rfl) h
end
def Us0 (f:Str) (v:V):List (Str×V)→List (Str×V)
 | []=>[(f,v)]
 | (g,x) :: r=>if g=f then (g,v) :: r else (g,x) :: Us0 f v r
theorem Vv1 (f g:Str) (v:V):∀ fs:List (Str×V),(Us0 f v fs).lookup g=if g=f then some v else fs.lookup g
 | []=>by
  show List.lookup g [(f,v)]=_
  by_cases h:g=f
  ·have hb:(g == f)=true:=beq_iff_eq.mpr h
   simp only [List.lookup,hb,if_pos h]
  ·have hb:(g == f)=false:=beq_eq_false_iff_ne.mpr h
   simp only [List.lookup,hb,if_neg h]
 | (k,x) :: r=>by
  have ih:=Vv1 f g v r
  rw [show Us0 f v ((k,x) :: r)=(if k=f then (k,v) :: r else (k,x) :: Us0 f v r) from rfl]
  by_cases hk:k=f
  ·rw [if_pos hk]
   by_cases h:g=k
   ·have hb:(g == k)=true:=beq_iff_eq.mpr h
    simp only [List.lookup,hb,if_pos (h.trans hk)]
   ·have hb:(g == k)=false:=beq_eq_false_iff_ne.mpr h
    simp only [List.lookup,hb,if_neg (fun e:g=f=>h (e.trans hk.symm))]
  ·rw [if_neg hk]
   by_cases h:g=k
   ·have hb:(g == k)=true:=beq_iff_eq.mpr h
    simp only [List.lookup,hb,if_neg (fun e:g=f=>hk (h.symm.trans e))]
   ·have hb:(g == k)=false:=beq_eq_false_iff_ne.mpr h
    simp only [List.lookup,hb]
    exact ih
theorem Xi2 (f:Str) (v:V):∀ fs:List (Str×V),f∈(Us0 f v fs).map (·.1)∧∀ g,g∈fs.map (·.1)→g∈(Us0 f v fs).map (·.1)
 | []=>⟨by simp [Us0],fun g h=>by simp at h⟩
 | (k,x) :: r=>by
  obtain ⟨i1,i2⟩:=Xi2 f v r
  rw [show Us0 f v ((k,x) :: r)=(if k=f then (k,v) :: r else (k,x) :: Us0 f v r) from rfl]
  by_cases hk:k=f
  ·rw [if_pos hk]
   subst hk
   exact ⟨by simp,fun g h=>by simpa using h⟩
  ·rw [if_neg hk]
   refine ⟨?_,fun g h=>?_⟩
   ·rw [List.map_cons]
    exact List.mem_cons_of_mem _ i1
   ·rw [List.map_cons] at h ⊢
    rcases List.mem_cons.mp h with e | e
    ·exact List.mem_cons.mpr (.inl e)
    ·exact List.mem_cons_of_mem _ (i2 g e)
theorem Vk0 (f:Str) (v:V):∀ fs:List (Str×V),(Us0 f v fs).length≤fs.length+1
 | []=>by simp [Us0]
 | (k,x) :: r=>by
  have ih:=Vk0 f v r
  rw [show Us0 f v ((k,x) :: r)=(if k=f then (k,v) :: r else (k,x) :: Us0 f v r) from rfl]
  by_cases hk:k=f
  ·rw [if_pos hk,List.length_cons,List.length_cons];lia
  ·rw [if_neg hk,List.length_cons,List.length_cons];lia
theorem Uj3.some_of {v:V}{o:Option Value} (r:Uj3 (some v) o):∃ u,o=some u∧Vp0 v u:=by
 cases o with
 | none=>exact (show False from r).elim
 | some u=>exact ⟨u,rfl,r⟩
theorem Uj3.none_of {o:Option Value} (r:Uj3 none o):o=none:=by
 cases o with
 | none=>rfl
 | some u=>exact (show False from r).elim
theorem Ut5 {v:V}{u:Value} (r:Vp0 v u):PySem.W.handedIn u=true:=by
 cases v with
 | non=>cases (show u=Value.none from r);rfl
 | bl b=>cases (show u=Value.bool b from r);rfl
 | int i=>obtain ⟨t,e⟩:=(show ∃ t,u=Value.int i t from r);cases e;rfl
 | str x=>obtain ⟨t,e⟩:=(show ∃ t,u=Value.str x t from r);cases e;rfl
 | byt b=>obtain ⟨t,e⟩:=(show ∃ t,u=Value.bytes b t from r);cases e;rfl
 | flt b=>obtain ⟨t,e⟩:=(show ∃ t,u=Value.float b t from r);cases e;rfl
 | ref a=>cases (show u=Value.ref a from r);rfl
 | ty n=>cases (show u=Value.type n from r);rfl
section
variable {P:Program}{w:World}{H H':Hp}{h h':Heap}{a C dx:Addr}{fs fs':List (Str×V)}
theorem Zm4 (hok:HOk P w H h) (e:H a=some (.ins C dx fs)):∃ mA,Zl8 h a dx C mA∧(∀ f,Uj3 (fs.lookup f) (mA f))∧PySem.Within mA (fs.map (·.1))∧fs.length≤1000∧H dx=some (.own a):=by
 obtain ⟨d,z,ne,ob,mA,n,r,q⟩:=(show Js0 P w H h a (.ins C dx fs) from hok a _ e)
 exact ⟨mA,⟨ob,n,ne⟩,r,q,z,d⟩
end
structure Cls (K:PySem.W.Frag) (C:Addr):Prop where
 pg:PySem.W.plainGet K C Str.empty=true
 hd:PySem.W.hasDictIn K C=true
 po:PySem.W.plainOver K C=true
 sa:PySem.W.findIn K (.ref C) "__setattr__" = some (some (.builtin "object.__setattr__"))
theorem Cls.get {K:PySem.W.Frag}{C:Addr} (c:Cls K C) (f:Str):PySem.W.plainGet K C f=true:=c.pg
def Jo0 (K:PySem.W.Frag) (C:Addr) (f:Str):Prop:=PySem.W.findIn K (.ref C) f=some none
theorem Jo0.taker {K:PySem.W.Frag}{C:Addr}{f:Str} (n:Jo0 K C f):PySem.W.takerIn K C f=some none:=by
 unfold PySem.W.takerIn
 rw [show PySem.W.findIn K (.ref C) f=some none from n]
 rfl
structure Vm6 (K:PySem.W.Frag) (C:Addr) (m:Str) (f:Addr):Prop where
 at_:PySem.W.findIn K (.ref C) m=some (some (.ref f))
 fn:PySem.W.isFn K (.ref f)=true
 kp:PySem.W.keepIn K (.ref f)=true
section
variable {X:Cx}{pins:List (Addr×Obj)} {σ:St}{H:Hp}{s:Shared}{a C dx:Addr}{fs:List (Str×V)}{f:Str}{v:V}{A:Around}{E:Value→Shared→Prop}
theorem Jm4 {b:Bool}{Q:Value→Shared→Prop} (I:Inv X pins σ H s) (e:H a=some (.ins C dx fs)) (c:Cls X.K C) (n:Jo0 X.K C f) (l:fs.lookup f=some v)
  (h:∀ u s',Inv X pins σ H s'→Vp0 v u→Q u s'):wpAny (model X.prog X.w) A (getAttr (.ref a) f b) Q E s:=by
 obtain ⟨mA,O,r,_,_,_⟩:=Zm4 I.hok e
 obtain ⟨u,hu,ru⟩:=Uj3.some_of (v:=v) (o:=mA f) (by rw [← l];exact r f)
 exact Jr7 I.kIn O (c.get f) c.hd n hu (Ut5 ru) (h u _ (I.tok _) ru)
theorem Jb2 {m:Str}{g:Addr}{pl:Sem Bool}{Q:Value×List Value→Shared→Prop} (I:Inv X pins σ H s) (e:H a=some (.ins C dx fs)) (c:Cls X.K C) (k:Vm6 X.K C m g) (l:fs.lookup m=none)
  (h:Q (.ref g,[.ref a]) s):wpAny (model X.prog X.w) A (getMethod (.ref a) m pl) Q E s:=by
 obtain ⟨mA,O,r,_,_,_⟩:=Zm4 I.hok e
 have hn:mA m=none:=Uj3.none_of (by rw [← l];exact r m)
 exact Xv6 I.kIn O (c.get m) k.at_ k.fn hn h
theorem Vk4 {y:V}{u:Value}{Q:Unit→Shared→Prop} (I:Inv X pins σ H s) (e:H a=some (.ins C dx fs)) (c:Cls X.K C) (n:Jo0 X.K C f) (hl:fs.length<1000) (ry:Vp0 y u)
  (h:∀ s',Inv X pins σ (upd H a (.ins C dx (Us0 f y fs))) s'→Q () s'):wpAny (model X.prog X.w) A (setAttr (.ref a) f u) Q E s:=by
 obtain ⟨mA,O,r,wi,_,ho⟩:=Zm4 I.hok e
 have hz:(fs.map (·.1)).length≤sizeLine:=by rw [List.length_map,sizeLine_eq];lia
 refine Ya7 I.kIn O c.sa c.po n.taker c.hd wi hz fun h' O' sb=>h _ ?_
 have hd:∃ o,h'.get? dx=some o:=let ⟨o,_,_,e',_⟩:=O'.ns;⟨o,e'⟩
 refine I.write (x:=a) (e:=dx) (by rw [e];exact True.intro) (.inr ho) (fun b q hb z=>(sb.2 b hb).trans z) hd ?_
 refine ⟨by rw [Zn0 O.ne];exact ho,?_,O.ne,O'.obj,_,O'.ns,fun g=>?_,fun g hg=>?_⟩
 ·have:=Vk0 f y fs;lia
 ·show Uj3 ((Us0 f y fs).lookup g) (if g=f then some u else mA g)
  rw [Vv1]
  by_cases q:g=f
  ·rw [if_pos q,if_pos q];exact ry
  ·rw [if_neg q,if_neg q];exact r g
 ·by_cases q:g=f
  ·rw [q];exact (Xi2 f y fs).1
  ·refine (Xi2 f y fs).2 g (wi g fun z=>hg ?_)
   show (if g=f then some u else mA g)=none
   rw [if_neg q];exact z
theorem Inv.made (I:Inv X pins σ H s):Inv X pins σ (upd (upd H s.heap.objs.size (.own (s.heap.objs.size+1))) (s.heap.objs.size+1) (.ins C s.heap.objs.size []))
  { s with heap:=(s.heap.push PySem.W.emptyDict).push (PySem.W.instObj C s.heap.objs.size) }:=by
 have e1:(s.heap.push PySem.W.emptyDict).get? s.heap.objs.size=some PySem.W.emptyDict:=Heap.get?_push_size s.heap rfl
 have e2:((s.heap.push PySem.W.emptyDict).push (PySem.W.instObj C s.heap.objs.size)).get? (s.heap.objs.size+1)=some (PySem.W.instObj C s.heap.objs.size):=by
  have:=Heap.get?_push_size (s.heap.push PySem.W.emptyDict) (o:=PySem.W.instObj C s.heap.objs.size) rfl
  rwa [Heap.size_push] at this
 have e3:(s.heap.push PySem.W.emptyDict).Ns s.heap.objs.size (fun _=>none):=⟨PySem.W.emptyDict,#[],_,e1,rfl,(fun e he=>absurd he (by simp)),fun _=>rfl⟩
 have I1:=I.laid (a:=s.heap.objs.size) (o:=.own (s.heap.objs.size+1)) (h':=s.heap.push PySem.W.emptyDict) (t':=s.toks) (fun b u q=>Heap.get?_push_of_some _ q) (Nat.le_refl _) ⟨_,e1⟩
 refine I1.laid (a:=s.heap.objs.size+1) (o:=.ins C s.heap.objs.size []) (t':=s.toks) (fun b u q=>Heap.get?_push_of_some _ q) (Nat.le_of_eq (Heap.size_push _ _)) ?_
 have ne:s.heap.objs.size≠s.heap.objs.size+1:=Nat.ne_of_lt (Nat.lt_succ_self _)
 refine ⟨by rw [Zn0 ne,Zm0],Nat.zero_le _,ne,e2,fun _=>none,(Heap.Ns1.of_empty e3).at fun o q=>Heap.get?_push_of_some _ q,fun _=>True.intro,fun y hy=>absurd rfl hy⟩
theorem Zd8 {prog:Program}{w:World}{env:Env}{e:Expr}{f:Str}{pos:Pos}{s:Shared}{Q:Value→Shared→Prop} (hb:attributeBase e f env (eval e env)=eval e env)
  (h:wpAny (model prog w) A (eval e env) (fun o s₁=>wpAny (model prog w) A (getAttr o f true) Q E s₁) E s):wpAny (model prog w) A (eval (.Attribute e f pos) env) Q E s :=
 Attribute_any_ h (by rw [arm_eval_Attribute,hb])
end
inductive XFld (K:PySem.W.Frag) (f:Str) (x:V) (H1:Hp) (Q:VK):Prop |mk (a:Addr) (C:Addr) (dx:Addr) (fs:List (Str×V)) (v:V) (_:x=.ref a) (_:H1 a=some (.ins C dx fs)) (_:Cls K C) (_:Jo0 K C f) (_:fs.lookup f=some v) (_:Q v H1)
def tFld (K:PySem.W.Frag) (ta:TE) (f:Str):TE:=fun σ H Q=>ta σ H fun x H1=>XFld K f x H1 Q
def sFld (K:PySem.W.Frag) (ta tv:TE) (f:Str):TS:=fun D σ H=>tv σ H fun y H1=>ta σ H1 fun x H2=>∃ a C dx fs,x=.ref a∧H2 a=some (.ins C dx fs)∧Cls K C∧Jo0 K C f∧fs.length<1000 ∧
 D.nx σ (upd H2 a (.ins C dx (Us0 f y fs)))
section
variable {X:Cx}{o e value:Expr}{f:Str}{pos pos' tpos:Pos}{ta tv:TE}
theorem Yh0 (he:PE X e ta) (hb:attributeBase e f X.env (eval e X.env)=eval e X.env):PE X (.Attribute e f pos) (tFld X.K ta f):=by
 intro pins s σ H Q I h
 refine Zd8 hb (thn (he pins s σ H _ I h) fun u s1 ⟨x,H1,I1,rx,a,C,dx,fs,v,ex,ea,c,n,l,q⟩=>?_)
 subst ex
 obtain rfl:u=Value.ref a:=rx
 exact Jm4 I1 ea c n l fun u' s2 I2 ru=>⟨v,H1,I2,ru,q⟩
theorem Ue0 (ha:PE X o ta) (hv:PE X value tv) (hs:swapsWith value (some (.Attribute o f pos')) pos.line X.env=pure false):PS X (.Assign [.Attribute o f pos'] value pos) (sFld X.K ta tv f):=by
 intro pins s σ H D I h
 refine plainObj_wpAny_Assign_Attribute (thn (hv pins s σ H _ I h) fun u s1 ⟨y,H1,I1,ry,q⟩=>thn (ha pins s1 σ H1 _ I1 q) fun ov s2 ⟨x,H2,I2,rx,a,C,dx,fs,ex,ea,c,n,l,q2⟩=>?_) hs
 subst ex
 obtain rfl:ov=Value.ref a:=rx
 exact Vk4 I2 ea c n l ry fun s3 I3=>⟨σ,_,I3,q2⟩
end
end L2
namespace L2
open PySem PySem.Spec PyProof.Rows
structure Ua1 (k:Nat) (A:Around):Prop where
 hd:A.handled=none
 dp:A.depth+3*k+5<recursionLimit
 un:A.units+16*k+200<cLine
theorem Ua1.mono {j k:Nat}{A:Around} (r:Ua1 k A) (h:j≤k):Ua1 j A:=⟨r.hd,by have:=r.dp;lia,by have:=r.un;lia⟩
theorem Ua1.deeper {k:Nat}{A:Around} (r:Ua1 (k+1) A) (env:Env):Ua1 k (A.deeper env) :=
 ⟨r.hd,by have:=r.dp;show A.depth+1+3*k+5<_;lia,by have:=r.un;show A.units+3+16*k+200<_;lia⟩
theorem Jj4 {A:Around}{C:Addr}{us:List Value}{kw:List (Str×Value)}:(A.under (.builtin "type.__call__" ⟨.ref C :: us,kw⟩)).depth=A.depth+1:=by
 first | rfl | simp [Around.under,Code.weight,Code.isCreation,Code.isGuard,Code.isCaller,Code.frames,Code.isFrame,guardIds]
theorem Ji4 {A:Around}{C:Addr}{us:List Value}{kw:List (Str×Value)}:(A.under (.builtin "type.__call__" ⟨.ref C :: us,kw⟩)).units=A.units+1:=by
 first | rfl | simp [Around.under,Code.cUnits,Code.frames,Code.isFrame]
theorem Ua1.make {k:Nat}{A:Around} (r:Ua1 (k+1) A) (C:Addr) (us:List Value) (kw:List (Str×Value)):Ua1 k (A.under (.builtin "type.__call__" ⟨.ref C :: us,kw⟩)) :=
 ⟨r.hd,by have:=r.dp;rw [Jj4];lia,by have:=r.un;rw [Ji4];lia⟩
theorem Ua1.depth {k:Nat}{A:Around} (r:Ua1 k A):A.depth<recursionLimit:=by have:=r.dp;lia
theorem Ua1.units {k:Nat}{A:Around} (r:Ua1 k A):A.units+64<cLine:=by have:=r.un;lia
def Jv5:TA:=fun _ H Q=>Q [] H
def Yv3 (ta:TE) (tr:TA):TA:=fun σ H Q=>ta σ H fun x H1=>tr σ H1 fun xs H2=>Q (x :: xs) H2
section
variable {X:Cx}{e:Expr}{es:List Expr}{te:TE}{t:TA}{pos:Pos}
theorem Zc0:PA X [] Jv5:=fun _ _ _ _ H Q I h=>Calls.spliced_nil ⟨[],H,I,.nil,h⟩
theorem Za0 (ha:PE X e te) (hr:PA X es t) (hs:starEach (e :: es) X.env=(false,eval e X.env) :: starEach es X.env:=by rfl):PA X (e :: es) (Yv3 te t):=by
 intro pos pins s σ H Q I h
 rw [hs]
 show wpAny _ _ (spliced ((false,eval e X.env) :: backTo pos (starEach es X.env))) _ _ s
 refine Calls.spliced_cons (thn (ha pins s σ H _ I h) fun u s1 ⟨x,H1,I1,r1,q1⟩=>?_)
 exact thn (hr pos pins s1 σ H1 _ I1 q1) fun us s2 ⟨xs,H2,I2,r2,q2⟩=>⟨x :: xs,H2,I2,.cons r1 r2,q2⟩
def tTup (t:TA):TE:=fun σ H Q=>t σ H fun xs H1=>xs.length≤sizeLine∧∀ p,H1 p=none→Q (.ref p) (upd H1 p (.tup xs))
def tLst (t:TA):TE:=fun σ H Q=>t σ H fun xs H1=>xs.length≤sizeLine∧∀ p,H1 p=none→Q (.ref p) (upd H1 p (.lst xs))
theorem Um1 {x1} (h:PA X es t):PE X (.Tuple es x1 pos) (tTup t):=by
 intro pins s σ H Q I hq
 refine wpAny_Tuple_spliced (thn (h pos pins s σ H _ I hq) fun us s1 ⟨xs,H1,I1,r,z,q⟩=>⟨by rw [← r.length];exact z,?_⟩)
 have hf:H1 s1.heap.objs.size=none:=I1.hok.fresh (Nat.le_refl _)
 refine ⟨.ref s1.heap.objs.size,upd H1 s1.heap.objs.size (.tup xs),I1.laid (t':=s1.toks) (fun b u e=>Heap.get?_push_of_some _ e) (Nat.le_refl _) ?_,rfl,q _ hf⟩
 exact ⟨z,us,r,⟨_,Heap.get?_push_size _ rfl,rfl,_,rfl⟩⟩
theorem Vc0 (h:PA X es t):PE X (.List es pos) (tLst t):=by
 intro pins s σ H Q I hq
 refine wpAny_List_spliced (thn (h pos pins s σ H _ I hq) fun us s1 ⟨xs,H1,I1,r,z,q⟩=>⟨by rw [← r.length];exact z,?_⟩)
 have hf:H1 s1.heap.objs.size=none:=I1.hok.fresh (Nat.le_refl _)
 refine ⟨.ref s1.heap.objs.size,upd H1 s1.heap.objs.size (.lst xs),I1.laid (t':=s1.toks) (fun b u e=>Heap.get?_push_of_some _ e) (Nat.le_refl _) ?_,rfl,q _ hf⟩
 exact ⟨z,us,0,r,Heap.get?_push_size _ rfl⟩
end
abbrev Sp:=List V→Hp→VK→XK→Prop
abbrev CXT:=List Env→Hp→Shared→XK→Value→Shared→Prop
structure Zm8 (P:Program) (w:World) (K:PySem.W.Frag) (mg:Str→Option Value) (base:Heap) (A:Around) (outer:List Env) (s:Shared) (H:Hp):Prop where
 frames:A.frames=some outer
 mod:Mod K mg base
 bs:∀ b o,base.get? b=some o→s.heap.get? b=some o∧H b=none
 bsz:base.objs.size≤s.heap.objs.size
 funs:s.heap.FunFrames base outer
 frf:∀ b∈frs outer,H b=none
 hok:HOk P w H s.heap
 bare:AllBare s.gens
def CE (outer:List Env) (P:Program) (w:World) (H:Hp) (s:Shared) (Q:VK) (u:Value) (s':Shared):Prop :=
 ∃ v H',s'.os=s.os∧AllBare s'.gens∧Un (frs outer) [] H H' s.heap s'.heap∧HOk P w H' s'.heap∧Vp0 v u∧Q v H'
def CR (CX:CXT) (outer:List Env) (P:Program) (w:World) (H:Hp) (s:Shared) (Q:VK) (E:XK) (r:Result) (s':Shared):Prop :=
 match r with
 | .ok (.ret u)=>CE outer P w H s Q u s'
 | .ok _=>False
 | .error e=>CX outer H s E e s'
structure Vu0 (P:Program) (w:World) (K:PySem.W.Frag) (mg:Str→Option Value) (base:Heap) (CX:CXT) (k:Nat) (f:Addr) (fd:FuncData) (ps:List Str) (sp:Sp):Prop where
 len:∀ vs H Q E,sp vs H Q E→vs.length=ps.length
 run:∀ (A:Around) (outer:List Env) (s:Shared) (H:Hp) (args:Args) (us:List Value) (vs:List V) (Q:VK) (E:XK),Ua1 k A→Zm8 P w K mg base A outer s H→BindsTo s fd args (ps.zip us)→Xw0 vs us→sp vs H Q E →
  codeAny (model P w) A (.call (.ref f) args) (CR CX outer P w H s Q E) s
theorem Vu0.mono {P:Program}{w:World}{K:PySem.W.Frag}{mg:Str→Option Value}{base:Heap}{CX:CXT}{j k:Nat}{f:Addr}{fd:FuncData}{ps:List Str}{sp:Sp} (F:Vu0 P w K mg base CX j f fd ps sp) (h:j≤k) :
  Vu0 P w K mg base CX k f fd ps sp:=⟨F.len,fun A outer s H args us vs Q E hr=>F.run A outer s H args us vs Q E (hr.mono h)⟩
theorem Vu0.imp {P:Program}{w:World}{K:PySem.W.Frag}{mg:Str→Option Value}{base:Heap}{CX:CXT}{k:Nat}{f:Addr}{fd:FuncData}{ps:List Str}{sp sp':Sp} (F:Vu0 P w K mg base CX k f fd ps sp)
  (h:∀ vs H Q E,sp' vs H Q E→sp vs H Q E):Vu0 P w K mg base CX k f fd ps sp' :=
 ⟨fun vs H Q E q=>F.len vs H Q E (h _ _ _ _ q),fun A outer s H args us vs Q E hr he hb hv hs=>F.run A outer s H args us vs Q E hr he hb hv (h _ _ _ _ hs)⟩
theorem Zm8.make {P:Program}{w:World}{K:PySem.W.Frag}{mg:Str→Option Value}{base:Heap}{A:Around}{outer:List Env}{s:Shared}{H:Hp} (e:Zm8 P w K mg base A outer s H) (C:Addr) (us:List Value) (kw:List (Str×Value)) :
  Zm8 P w K mg base (A.under (.builtin "type.__call__" ⟨.ref C :: us,kw⟩)) outer s H:=⟨by first | exact e.frames | (simpa [Around.under,Code.envs,Code.isFrame,pushEnvs] using e.frames),e.mod,e.bs,e.bsz,e.funs,e.frf,e.hok,e.bare⟩
section
variable {X:Cx}{pins:List (Addr×Obj)} {σ:St}{H:Hp}{s s':Shared}
theorem Inv.env0 (I:Inv X pins σ H s):Zm8 X.prog X.w X.K X.mg X.base X.A X.stack s H :=
 ⟨I.ok.frames,I.ok.mod,I.bs,Nat.le_trans I.ok.bsz I.sz,I.stack,I.stkFree,I.hok,I.bare⟩
theorem Inv.after {Q:VK}{u:Value} (I:Inv X pins σ H s) (h:CE X.stack X.prog X.w H s Q u s'):EP X pins σ Q u s':=by
 obtain ⟨v,H',os,bare,un,hok,r,q⟩:=h
 obtain ⟨hh,g,d,t,os'⟩:=s'
 obtain rfl:os'=s.os:=os
 exact ⟨v,H',I.call (h':=hh) (g':=g) (d':=d) (t':=t) (ch:=[]) un hok bare (fun b z=>absurd z (by simp)),r,q⟩
end
def Zl5 (sp:Sp) (dvs:List V) (E:XK) (t:TA):TE:=fun σ H Q=>t σ H fun vs H1=>sp (vs++dvs) H1 Q E
inductive XMeth (C:Addr) (m:Str) (sp:Sp) (dvs:List V) (E:XK) (t:TA) (σ:St) (x:V) (H1:Hp) (Q:VK):Prop |mk (a:Addr) (dx:Addr) (fs:List (Str×V)) (_:x=.ref a) (_:H1 a=some (.ins C dx fs)) (_:fs.lookup m=none) (_:t σ H1 fun vs H2=>sp (x :: (vs++dvs)) H2 Q E)
def Zk6 (C:Addr) (m:Str) (sp:Sp) (dvs:List V) (E:XK) (ta:TE) (t:TA):TE:=fun σ H Q=>ta σ H fun x H1=>XMeth C m sp dvs E t σ x H1 Q
def tMake (C:Addr) (sp:Sp) (dvs:List V) (E:XK) (t:TA):TE:=fun σ H Q=>t σ H fun vs H1=>∀ x dx,H1 x=none→H1 dx=none→dx≠x →
 sp (.ref x :: (vs++dvs)) (upd (upd H1 dx (.own x)) x (.ins C dx [])) (fun v H2=>v=.non∧Q (.ref x) H2) E
def Ui0 (K:PySem.W.Frag) (fd:FuncData) (ps:List Str) (ds:List Value):Prop :=
 ∀ (s:Shared) (us:List Value),K.In s.heap→(us++ds).length=ps.length→BindsTo s fd ⟨us,[]⟩ (ps.zip (us++ds))
theorem Ui0.all {K:PySem.W.Frag}{fd:FuncData}{ps:List Str} (h:∀ us:List Value,us.length=ps.length→bindArgs fd ⟨us,[]⟩=pure (ps.zip us)):Ui0 K fd ps []:=fun s us _ hl=>by
 rw [List.append_nil] at hl ⊢
 exact .of_eq (h us hl)
def Jn0 (CX:CXT) (X:Cx) (E:XK):Prop:=∀ (pins:List (Addr×Obj)) (σ:St) (H:Hp) (s:Shared) (e:Value) (s':Shared),Inv X pins σ H s→CX X.stack H s E e s'→X.xe e s'
section
variable {X:Cx}{CX:CXT}{k:Nat}{f C:Addr}{fd:FuncData}{ps:List Str}{sp:Sp}{dvs:List V}{ds:List Value}{E:XK}{x m:Str}{p pos apos:Pos}{e o:Expr}{es:List Expr}{ta:TE}{t:TA}
theorem Xm3 {pins:List (Addr×Obj)} {σ:St}{H:Hp}{s:Shared}{Q:VK}{us:List Value}{vs:List V} (F:Vu0 X.prog X.w X.K X.mg X.base CX k f fd ps sp) (hr:Ua1 k X.A) (hb:Ui0 X.K fd ps ds) (hd:Xw0 dvs ds) (hx:Jn0 CX X E)
  (I:Inv X pins σ H s) (r:Xw0 vs us) (h:sp (vs++dvs) H Q E):wpAny (model X.prog X.w) X.A (call (.ref f) us) (EP X pins σ Q) X.xe s:=by
 have r2:Xw0 (vs++dvs) (us++ds):=r.append hd
 have hl:(us++ds).length=ps.length:=by rw [← r2.length];exact F.len _ _ _ _ h
 refine wpAny_call (codeAny_mono (F.run X.A X.stack s H ⟨us,[]⟩ (us++ds) (vs++dvs) Q E hr I.env0 (hb s us I.kIn hl) r2 h) fun r s' hq=>?_)
 cases r with
 | error e=>exact hx pins σ H s e s' I hq
 | ok fl =>
  cases fl with
  | ret u=>exact I.after hq
  | next=>exact False.elim hq
  | brk=>exact False.elim hq
  | cont=>exact False.elim hq
theorem Xu7 (F:Vu0 X.prog X.w X.K X.mg X.base CX k f fd ps sp) (hr:Ua1 k X.A) (hg:Gl X x) (hm:X.mg x=some (.ref f)) (hk:PySem.W.keepIn X.K (.ref f)=true) (hb:Ui0 X.K fd ps ds) (hd:Xw0 dvs ds) (hx:Jn0 CX X E)
  (ha:PA X (e :: es) t) (hdb:(x == ("__debug__" : Str))=false:=by decide) (he:starEach (e :: es) X.env=(false,eval e X.env) :: starEach es X.env:=by rfl) (hpl:(backTo pos (starEach es X.env)).any (·.1)=false:=by rfl) :
  PE X (.Call (.Name x p) (e :: es) [] pos) (Zl5 sp dvs E t):=by
 intro pins s σ H Q I h
 refine wpAny_Call_Name_kw (Jl1 I hg hm ?_ hdb)
 refine PySem.W.callWith_K (h₀:=X.base) I.ok.mod.kin hk (thn (ha pos pins s σ H _ I h) fun us s1 ⟨vs,H1,I1,r,q⟩=>⟨I1.kIn,?_⟩) he hpl
 exact Xm3 F hr hb hd hx I1 r q
theorem Yp6 (F:Vu0 X.prog X.w X.K X.mg X.base CX k f fd ps sp) (hr:Ua1 k X.A) (hg:Gl X x) (hm:X.mg x=some (.ref f)) (hk:PySem.W.keepIn X.K (.ref f)=true) (hb:Ui0 X.K fd ps ds) (hd:Xw0 dvs ds) (hx:Jn0 CX X E)
  (hdb:(x == ("__debug__" : Str))=false:=by decide):PE X (.Call (.Name x p) [] [] pos) (Zl5 sp dvs E Jv5):=by
 intro pins s σ H Q I h
 refine wpAny_Call_Name_kw (Jl1 I hg hm ?_ hdb)
 exact PySem.W.callWith_K0 I.kIn hk (Xm3 (us:=[]) F hr hb hd hx I .nil h)
theorem Xy5 {pl:Sem Bool} (he:PE X o ta) (c:Cls X.K C) (hm:Vm6 X.K C m f) (F:Vu0 X.prog X.w X.K X.mg X.base CX k f fd ps sp) (hr:Ua1 k X.A) (hb:Ui0 X.K fd ps ds) (hd:Xw0 dvs ds) (hx:Jn0 CX X E) (ha:PA X (e :: es) t)
  (hst:starEach (e :: es) X.env=(false,eval e X.env) :: starEach es X.env:=by rfl) (hpl:(backTo pos (starEach es X.env)).any (·.1)=false:=by rfl)
  (ht:eval (.Call (.Attribute o m apos) (e :: es) [] pos) X.env=(do
   let ov ← eval o X.env
   standAt apos.atName
   let (f,first) ← holding [ov] (getMethod ov m pl)
   callWith pos f first (backTo pos (starEach (e :: es) X.env)) (backToKw pos (keywordEach [] X.env))):=by rfl) :
  PE X (.Call (.Attribute o m apos) (e :: es) [] pos) (Zk6 C m sp dvs E ta t):=by
 intro pins s σ H Q I h
 refine PySem.W.methodCall_KW (pl:=pl) (thn (he pins s σ H _ I h) fun u s1 ⟨x,H1,I1,rx,a,dx,fs,ex,ea,l,q⟩=>?_) ht
 subst ex
 obtain rfl:u=Value.ref a:=rx
 refine Jb2 I1 ea c hm l ?_
 refine PySem.W.callWith_K (first:=[.ref a]) (h₀:=X.base) I.ok.mod.kin hm.kp (thn (ha pos pins s1 σ H1 _ I1 q) fun us s2 ⟨vs,H2,I2,r,q2⟩=>⟨I2.kIn,?_⟩) hst hpl
 exact Xm3 (us:=.ref a :: us) (vs:=.ref a :: vs) F hr hb hd hx I2 (.cons rfl r) q2
theorem Yu4 {pl:Sem Bool} (he:PE X o ta) (c:Cls X.K C) (hm:Vm6 X.K C m f) (F:Vu0 X.prog X.w X.K X.mg X.base CX k f fd ps sp) (hr:Ua1 k X.A) (hb:Ui0 X.K fd ps ds) (hd:Xw0 dvs ds) (hx:Jn0 CX X E)
  (ht:eval (.Call (.Attribute o m apos) [] [] pos) X.env=(do
   let ov ← eval o X.env
   standAt apos.atName
   let (f,first) ← holding [ov] (getMethod ov m pl)
   callWith pos f first (backTo pos (starEach [] X.env)) (backToKw pos (keywordEach [] X.env))):=by rfl) :
  PE X (.Call (.Attribute o m apos) [] [] pos) (Zk6 C m sp dvs E ta Jv5):=by
 intro pins s σ H Q I h
 refine PySem.W.methodCall_KW (pl:=pl) (thn (he pins s σ H _ I h) fun u s1 ⟨x,H1,I1,rx,a,dx,fs,ex,ea,l,q⟩=>?_) ht
 subst ex
 obtain rfl:u=Value.ref a:=rx
 refine Jb2 I1 ea c hm l ?_
 exact PySem.W.callWith_K0 (first:=[.ref a]) I1.kIn hm.kp (Xm3 (us:=[.ref a]) (vs:=[.ref a]) F hr hb hd hx I1 (.cons rfl .nil) q)
structure Mk (K:PySem.W.Frag) (C f:Addr):Prop where
 makes:PySem.W.makesIn K C=true
 init:PySem.W.findIn K (.ref C) "__init__" = some (some (.ref f))
 fn:PySem.W.isFn K (.ref f)=true
 kp:PySem.W.keepIn K (.ref C)=true
theorem Yh6 {pins:List (Addr×Obj)} {σ:St}{H:Hp}{s:Shared}{Q:VK}{us:List Value}{vs:List V} (M:Mk X.K C f) (F:Vu0 X.prog X.w X.K X.mg X.base CX k f fd ps sp) (hr:Ua1 (k+1) X.A) (hb:Ui0 X.K fd ps ds) (hd:Xw0 dvs ds)
  (hx:Jn0 CX X E) (I:Inv X pins σ H s) (r:Xw0 vs us)
  (h:∀ x dx,H x=none→H dx=none→dx≠x→sp (.ref x :: (vs++dvs)) (upd (upd H dx (.own x)) x (.ins C dx [])) (fun v H2=>v=.non∧Q (.ref x) H2) E) :
  wpAny (model X.prog X.w) X.A (call (.ref C) us) (EP X pins σ Q) X.xe s:=by
 have hq:=h (s.heap.objs.size+1) s.heap.objs.size (I.hok.fresh (Nat.le_succ _)) (I.hok.fresh (Nat.le_refl _)) (Nat.ne_of_lt (Nat.lt_succ_self _))
 have I2:=Inv.made (C:=C) I
 have r2:Xw0 (V.ref (s.heap.objs.size+1) :: (vs++dvs)) (Value.ref (s.heap.objs.size+1) :: (us++ds)):=.cons rfl (r.append hd)
 have hl:(Value.ref (s.heap.objs.size+1) :: us++ds).length=ps.length:=by
  have e:=r2.length
  rw [F.len _ _ _ _ hq] at e
  exact e.symm
 refine wpAny_call (Xl6 (f:=f) I.kIn M.makes M.init (beq_iff_eq.mp M.fn) (codeAny_mono (F.run _ X.stack _ _ ⟨Value.ref (s.heap.objs.size+1) :: us,[]⟩ (Value.ref (s.heap.objs.size+1) :: (us++ds)) _ _ E (hr.make C us [])
  (I2.env0.make C us []) (hb _ (Value.ref (s.heap.objs.size+1) :: us) I2.kIn hl) r2 hq) fun r s' hq'=>?_))
 cases r with
 | error e=>exact hx pins σ _ _ e s' I2 hq'
 | ok fl =>
  cases fl with
  | ret u =>
   obtain ⟨v,H',I3,rv,ev,q3⟩:=I2.after hq'
   subst ev
   exact ⟨rv,⟨V.ref (s.heap.objs.size+1),H',I3,rfl,q3⟩⟩
  | next=>exact False.elim hq'
  | brk=>exact False.elim hq'
  | cont=>exact False.elim hq'
theorem Yn6 (M:Mk X.K C f) (F:Vu0 X.prog X.w X.K X.mg X.base CX k f fd ps sp) (hr:Ua1 (k+1) X.A) (hg:Gl X x) (hm:X.mg x=some (.ref C)) (hb:Ui0 X.K fd ps ds) (hd:Xw0 dvs ds) (hx:Jn0 CX X E)
  (hdb:(x == ("__debug__" : Str))=false:=by decide):PE X (.Call (.Name x p) [] [] pos) (tMake C sp dvs E Jv5):=by
 intro pins s σ H Q I h
 refine wpAny_Call_Name_kw (Jl1 I hg hm ?_ hdb)
 exact PySem.W.callWith_K0 I.kIn M.kp (Yh6 (us:=[]) M F hr hb hd hx I .nil h)
end
structure Zj0 (N P:List Str) (sc:Scope):Prop where
 kind:sc.kind=.function
 co:sc.isCoroutine=false
 gen:sc.isGenerator=false
 nd:N.Nodup
 pre:N.take P.length=P
 par:∀ x∈P,sc.names.lookup x=some .local∨sc.names.lookup x=some .cell
 nofree:∀ y∈sc.names,y.2 ≠ .free
theorem Ud3 {kindOf:Str→Option NameKind}{x:Str}:∀ {binds:List (Str×Value)}{m:Str→Option Value},(∀ v,(x,v) ∉ binds)→bindL kindOf binds m x=m x
 | [],_,_=>rfl
 | (n,v) :: r,m,h=>by
  unfold bindL
  rw [Ud3 fun w hw=>h w (List.mem_cons_of_mem _ hw)]
  split
  ·have:x≠n:=by rintro rfl;exact h v List.mem_cons_self
   simp [this]
  ·rfl
theorem Uf3 {kindOf:Str→Option NameKind}{x:Str}:∀ {binds:List (Str×Value)}{m:Str→Option Value},(∀ v,(x,v) ∉ binds)→bindC kindOf binds m x=m x
 | [],_,_=>rfl
 | (n,v) :: r,m,h=>by
  unfold bindC
  rw [Uf3 fun w hw=>h w (List.mem_cons_of_mem _ hw)]
  split
  ·rfl
  ·have:x≠n:=by rintro rfl;exact h v List.mem_cons_self
   simp [this]
theorem Ue3 {kindOf:Str→Option NameKind}{x:Str}{v:Value}:∀ {P:List Str}{vs:List Value}{i:Nat}{m:Str→Option Value},P.Nodup→P[i]? = some x→vs[i]? = some v→kindOf x=some .local →
  bindL kindOf (P.zip vs) m x=some v
 | [],_,_,_,_,h,_,_=>by simp at h
 | _ :: _,[],_,_,_,_,h,_=>by simp at h
 | p :: P,w :: vs,0,m,nd,h1,h2,hk=>by
  simp at h1 h2;subst h1;subst h2
  show bindL kindOf ((p,w) :: P.zip vs) m p=_
  unfold bindL
  rw [Ud3 fun v hv=>(List.nodup_cons.mp nd).1 (List.of_mem_zip hv).1,if_pos hk]
  simp
 | p :: P,w :: vs,i+1,m,nd,h1,h2,hk=>by
  show bindL kindOf ((p,w) :: P.zip vs) m x=_
  unfold bindL
  exact Ue3 (i:=i) (List.nodup_cons.mp nd).2 (by simpa using h1) (by simpa using h2) hk
theorem Ug3 {kindOf:Str→Option NameKind}{x:Str}{v:Value}:∀ {P:List Str}{vs:List Value}{i:Nat}{m:Str→Option Value},P.Nodup→P[i]? = some x→vs[i]? = some v→kindOf x≠some .local →
  bindC kindOf (P.zip vs) m x=some v
 | [],_,_,_,_,h,_,_=>by simp at h
 | _ :: _,[],_,_,_,_,h,_=>by simp at h
 | p :: P,w :: vs,0,m,nd,h1,h2,hk=>by
  simp at h1 h2;subst h1;subst h2
  show bindC kindOf ((p,w) :: P.zip vs) m p=_
  unfold bindC
  rw [Uf3 fun v hv=>(List.nodup_cons.mp nd).1 (List.of_mem_zip hv).1,if_neg hk]
  simp
 | p :: P,w :: vs,i+1,m,nd,h1,h2,hk=>by
  show bindC kindOf ((p,w) :: P.zip vs) m x=_
  unfold bindC
  exact Ug3 (i:=i) (List.nodup_cons.mp nd).2 (by simpa using h1) (by simpa using h2) hk
def start (N:List Str) (vs:List V):St:=vs.map some++List.replicate (N.length-vs.length) none
def cxOf (CX:CXT) (P:Program) (w:World) (K:PySem.W.Frag) (mg:Str→Option Value) (base:Heap) (N:List Str) (qual:Str) (scope:Scope) (f:Addr) (cd:Value) (A:Around) (outer:List Env) (s:Shared) (H:Hp) (E:XK):Cx where
 prog:=P
 w:=w
 K:=K
 mg:=mg
 base:=base
 A:=A.deeper (envOfC qual scope s.heap.objs.size f cd)
 N:=N
 s_0:=s
 H_0:=H
 env:=envOfC qual scope s.heap.objs.size f cd
 outer:=outer
 stack:=envOfC qual scope s.heap.objs.size f cd :: outer
 ex:=[]
 calm:=true
 fn:=fun _=>true
 pn:=[]
 xe:=fun e s'=>wpAny (model P w) (A.deeper (envOfC qual scope s.heap.objs.size f cd)) (leaving (envOfC qual scope s.heap.objs.size f cd) e) (fun _ s''=>CX outer H s E e s'') (fun e' s''=>CX outer H s E e' s'') s'
theorem Xp4 {sc:Scope}{n:Nat}{x:Str} (h:sc.names.lookup x=some .cell):∃ c,(cellsFrom n sc.names []).lookup x=some c:=by
 have q:=PySem.W.cellsFrom_some sc.names n [] (.inl h)
 exact Option.isSome_iff_exists.mp q
theorem Uq5 {CX:CXT}{P:Program}{w:World}{K:PySem.W.Frag}{mg:Str→Option Value}{base:Heap}{N ps:List Str}{qual:Str}{scope:Scope}{f:Addr}{cd:Value}{A:Around}{outer:List Env}{s s1:Shared}{H:Hp}{E:XK}{us:List Value}{vs:List V}
  (S:Zj0 N ps scope) (hd:A.handled=none) (e0:Zm8 P w K mg base A outer s H) (hl:vs.length=ps.length) (r:Xw0 vs us)
  (x:InCallC s s.heap.objs.size (bindL (envOfC qual scope s.heap.objs.size f cd).kindOf (ps.zip us) fun _=>none) (cellsFrom (s.heap.objs.size+1) scope.names []) (bindC (envOfC qual scope s.heap.objs.size f cd).kindOf (ps.zip us) fun _=>none) s1) :
  Inv (cxOf CX P w K mg base N qual scope f cd A outer s H E) [] (start N vs) H s1:=by
 have hpl:ps.length≤N.length:=by have:=congrArg List.length S.pre;rw [List.length_take] at this;lia
 obtain ⟨h1,tk,rfl,hk⟩:=x.done
 have noA:∀ b:Addr,b ∉ (cxOf CX P w K mg base N qual scope f cd A outer s H E).ex:=fun b z=>absurd (show b∈([]:List Addr) from z) (by simp)
 refine ⟨⟨e0.mod,S.kind,rfl,rfl,Nat.le_refl _,fun y z c h1 h2=>?_,fun y hy=>?_,fun y c _ h=>?_,fun _=>hd,Around.frames_deeper e0.frames,.inr ⟨rfl,rfl⟩,fun b z=>absurd z (noA b),e0.bs,e0.bsz,fun b _ _=>noA b,fun b z=>absurd z (noA b),e0.funs,e0.frf⟩,
  rfl,e0.bare,Un.kept hk,⟨_,x.toInCall.ns,fun i y v h1 h2 h3=>?_⟩,fun y c h=>⟨_,x.cell y c h⟩,e0.hok.fresh (Nat.le_refl _),fun y c h=>?_,fun p hp=>absurd (show p∈([]:List (Addr×Obj)) from hp) (by simp),e0.hok.kept hk,?_⟩
 ·exact name_of_addr x.apart (PySem.mem_of_lookup h1) (PySem.mem_of_lookup h2)
 ·have hy:scope.names.lookup y=some .cell∨scope.names.lookup y=some .free:=hy
  rcases hy with hy | hy
  ·exact Xp4 hy
  ·exact absurd rfl (S.nofree _ (PySem.mem_of_lookup hy))
 ·exact Nat.le_of_lt (x.above y c (PySem.mem_of_lookup h))
 ·have hi:i<vs.length:=by
   unfold start at h2
   by_cases hi:i<vs.length
   ·exact hi
   ·rw [List.getElem?_append_right (by simpa using hi)] at h2
    rw [List.getElem?_replicate] at h2
    split at h2 <;> cases h2
  have ha:vs[i]? = some v:=by
   unfold start at h2
   rw [List.getElem?_append_left (by simpa using hi),List.getElem?_map] at h2
   cases e:vs[i]? with
   | none=>rw [e] at h2;cases h2
   | some a=>rw [e] at h2;cases h2;rfl
  obtain ⟨u,hu,rv⟩:=r.get ha
  have hp:ps[i]? = some y:=by
   rw [← S.pre,List.getElem?_take_of_lt (by lia)];exact h1
  have ndP:ps.Nodup:=by rw [← S.pre];exact S.nd.sublist (List.take_sublist _ _)
  refine ⟨u,rv,?_⟩
  rcases S.par y (List.mem_of_getElem? hp) with k | k
  ·exact .inl ⟨k,Ue3 ndP hp hu k⟩
  ·obtain ⟨c,e⟩:=Xp4 (n:=s.heap.objs.size+1) k
   refine .inr ⟨.inl k,c,e,?_⟩
   have q:=x.cell y c e
   rw [Ug3 ndP hp hu (by show scope.names.lookup y≠_;rw [k];decide)] at q
   exact q
 ·exact e0.hok.fresh (Nat.le_of_lt (x.above y c (PySem.mem_of_lookup h)))
 ·unfold start
  show _=N.length
  rw [List.length_append,List.length_map,List.length_replicate]
  lia
theorem fn_of {CX:CXT}{P:Program}{w:World}{K:PySem.W.Frag}{mg:Str→Option Value}{base:Heap}{k:Nat}{f:Addr}{name qual:Str}{params:Arguments}{body:List Stmt}{scope:Scope}{dV kV doc pm cdv ct oc:Value}{an od:Option Addr}
  {osl:Array (Option Value)}{N ps:List Str}{sp:Sp} (lk:K.lookup f=some ⟨oc,od,.func (PySem.W.fnOf name qual params body scope dV kV doc pm an cdv ct),osl⟩) (hcd:PySem.W.codeIn K cdv qual=true) (S:Zj0 N ps scope)
  (len:∀ vs H Q E,sp vs H Q E→vs.length=ps.length)
  (hbody:∀ (A:Around) (outer:List Env) (s:Shared) (H:Hp) (vs:List V) (Q:VK) (E:XK),Ua1 k (A.deeper (envOfC qual scope s.heap.objs.size f cdv))→sp vs H Q E →
   ∃ t,PSs (cxOf CX P w K mg base N qual scope f cdv A outer s H E) body t∧t { nx:=fun _ H'=>Q .non H',rt:=Q } (start N vs) H) :
  Vu0 P w K mg base CX (k+1) f (PySem.W.fnOf name qual params body scope dV kV doc pm an cdv ct) ps sp:=by
 refine ⟨len,fun A outer s H args us vs Q E hr e0 hb r hsp=>?_⟩
 have hl:=len _ _ _ _ hsp
 have KX:K.In s.heap:=e0.mod.kin.keeps fun b o e=>(e0.bs b o e).1
 have lim:s.heap.NoLimit:=e0.mod.nolimit.keeps fun b o e=>(e0.bs b o e).1
 have hkind:∀ y∈ps.zip us,scope.names.lookup y.1=some .local∨(scope.names.lookup y.1=some .cell∧((cellsFrom (s.heap.objs.size+1) scope.names []).lookup y.1).isSome=true):=fun ⟨n,v⟩ hy=>by
  rcases S.par n (List.of_mem_zip hy).1 with q | q
  ·exact .inl q
  ·exact .inr ⟨q,PySem.W.cellsFrom_some _ _ _ (.inl q)⟩
 refine codeAny_call_function hr.depth (KX _ _ lk) rfl S.co S.gen rfl (PySem.W.codeRec_of KX hcd) (hb _ _ _ _ ?_)
 refine wpAny_newFunctionEnv_cells S.kind hkind fun env he s1 x=>?_
 subst he
 refine ⟨lim.keeps x.toInCall.keep,codeAny_func ?_⟩
 obtain ⟨t,ht,hq⟩:=hbody A outer s H vs Q E (hr.deeper _) hsp
 have I:Inv (cxOf CX P w K mg base N qual scope f cdv A outer s H E) [] (start N vs) H s1:=Uq5 S hr.hd e0 hl r x
 refine wpAny_mono (ht [] s1 (start N vs) H _ I hq) (fun fl s' hs=>?_) fun e s' hs=>hs
 have fin:∀ {σ':St}{H':Hp}{v:V}{u:Value},Inv (cxOf CX P w K mg base N qual scope f cdv A outer s H E) [] σ' H' s'→Vp0 v u→Q v H'→CE outer P w H s Q u s' :=
  fun {σ' H' v u} J rv q=>⟨v,H',J.os,J.bare,J.base,J.hok,rv,q⟩
 cases fl with
 | ret u =>
  obtain ⟨v,σ',H',J,rv,q⟩:=hs
  exact fin J rv q
 | next =>
  obtain ⟨σ',H',J,q⟩:=hs
  exact fin (v:=V.non) (u:=Value.none) J rfl q
 | brk =>
  obtain ⟨_,_,_,q⟩:=hs
  exact False.elim q
 | cont =>
  obtain ⟨_,_,_,q⟩:=hs
  exact False.elim q
end L2
namespace L2
open PySem PySem.Spec PyProof.Rows
section
variable {X:Cx}{x:Str}{p pos:Pos}{e:Expr}{es:List Expr}{t:TA}{id T:String}{r:List V→Hp→VK→Prop}
def tCB (r:List V→Hp→VK→Prop) (t:TA):TE:=fun σ H Q=>t σ H fun vs H1=>r vs H1 Q
theorem Yl0 (hc:Ju5 X (.builtin id) r) (hg:Gl X x) (hm:X.mg x=none) (hv:bootBuiltins x=some (.builtin id)) (ha:PA X (e :: es) t) (hn:x ≠ "__name__" := by decide) (hdb:(x == ("__debug__" : Str))=false:=by decide)
  (he:starEach (e :: es) X.env=(false,eval e X.env) :: starEach es X.env:=by rfl) (hpl:(backTo pos (starEach es X.env)).any (·.1)=false:=by rfl):PE X (.Call (.Name x p) (e :: es) [] pos) (tCB r t):=by
 intro pins s σ H Q I h
 refine wpAny_Call_Name_kw (Xe4 I hg hm hv ?_ hn hdb)
 exact PyProof.Rows.callWith_builtin1 (thn (ha pos pins s σ H _ I h) fun us s1 ⟨vs,H1,I1,r1,q1⟩=>hc pins s1 σ H1 vs us Q I1 r1 q1) he hpl
end
end L2
namespace HT
open PySem PyProof.Rows
section
variable {prog:Program}{w:World}{A:Around}{E:Value→Shared→Prop}{s:Shared}
def sIx (n d:Nat):Option Int→Nat
 | none=>d
 | some v=>if v<0 then (v+(n:Int)).toNat else min v.toNat n
theorem sIx_none (n d:Nat):sIx n d none=d:=rfl
theorem sIx_nat (n d k:Nat):sIx n d (some (k:Int))=min k n:=by
 show (if (k:Int)<0 then ((k:Int)+(n:Int)).toNat else min (k:Int).toNat n)=min k n
 rw [if_neg (by lia),Int.toNat_natCast]
end
end HT
namespace L2
open PySem PySem.Spec PyProof.Rows
abbrev TO:=St→Hp→(Option Int→Hp→Prop)→Prop
def PO (X:Cx) (e:Option Expr) (t:TO):Prop :=
 ∀ (pins:List (Addr×Obj)) (s:Shared) (σ:St) (H:Hp) (Q:Option Int→Hp→Prop),Inv X pins σ H s→t σ H Q →
  wpAny (model X.prog X.w) X.A (evalPart e X.env) (fun u s'=>∃ o H',Inv X pins σ H' s'∧IsPart u o∧Q o H') X.xe s
def Zq7:TO:=fun _ H Q=>Q none H
inductive XPart (x:V) (H1:Hp) (Q:Option Int→Hp→Prop):Prop |mk (i:Int) (_:x=.int i) (_:Q (some i) H1)
def tPart (t:TE):TO:=fun σ H Q=>t σ H fun x H1=>XPart x H1 Q
section
variable {X:Cx}{e:Expr}{te:TE}{lo hi:Option Expr}{tl th:TO}{pos p2:Pos}
theorem Yp2:PO X none Zq7:=by
 intro pins s σ H Q I h
 rw [evalPart_none]
 exact wpAny_pure ⟨none,H,I,.none,h⟩
theorem Vq1 (h:PE X e te):PO X (some e) (tPart te):=by
 intro pins s σ H Q I hw
 rw [evalPart_some]
 refine thn (h pins s σ H _ I hw) fun u s1 ⟨x,H1,I1,r1,q1⟩=>?_
 obtain ⟨i,rfl,q⟩:=q1
 obtain ⟨t,rfl⟩:=r1
 exact ⟨some i,H1,I1,.int i t,q⟩
def SlR (X:Cx) (r:V→Option Int→Option Int→Hp→VK→Prop):Prop :=
 ∀ (pins:List (Addr×Obj)) (s:Shared) (σ:St) (H:Hp) (x:V) (v vl vu:Value) (lo hi:Option Int) (sl:Addr) (Q:VK),Inv X pins σ H s→Vp0 x v→s.heap.IsSliceOf sl vl vu .none→IsPart vl lo→IsPart vu hi→r x lo hi H Q →
  ∃ T id,typeLookup (.type T) "__getitem__" = pure (some (.builtin id))∧s.TypeIs v T∧wpAny (model X.prog X.w) X.A (getItem v (.ref sl)) (EP X pins σ Q) X.xe s
def tSl (r:V→Option Int→Option Int→Hp→VK→Prop) (te:TE) (tl th:TO):TE:=fun σ H Q=>te σ H fun x H1=>tl σ H1 fun l H2=>th σ H2 fun u H3=>r x l u H3 Q
theorem Xu1 {r:V→Option Int→Option Int→Hp→VK→Prop} (hr:SlR X r) (he:PE X e te) (hl:PO X lo tl) (hu:PO X hi th):PE X (.Subscript e (.Slice lo hi none p2) pos) (tSl r te tl th):=by
 intro pins s σ H Q I h
 refine Subscript_ (thn (he pins s σ H _ I h) fun v s1 ⟨x,H1,I1,r1,q1⟩=>?_)
 refine wpAny_Slice (thn (hl pins s1 σ H1 _ I1 q1) fun vl s2 ⟨l,H2,I2,pl,q2⟩=>thn (hu pins s2 σ H2 _ I2 q2) fun vu s3 ⟨u,H3,I3,pu,q3⟩=>?_)
 rw [evalPart_none]
 refine wpAny_pure ?_
 have I4:Inv X pins σ H3 { s3 with heap:=s3.heap.push { cls:=.type "slice",data:=.fields #[vl,vu,.none] } }:=I3.kept (t':=s3.toks) fun b ob q=>Heap.get?_push_of_some _ q
 obtain ⟨T,id,hT,ht,hg⟩:=hr pins { s3 with heap:=s3.heap.push { cls:=.type "slice",data:=.fields #[vl,vu,.none] } } σ H3 x v vl vu l u s3.heap.objs.size Q I4 r1 (Heap.IsSliceOf.new ..) pl pu q3
 show wpAny (model X.prog X.w) X.A (subscriptTail e (.Slice lo hi none p2) v (.ref s3.heap.objs.size)) (EP X pins σ Q) X.xe { s3 with heap:=s3.heap.push { cls:=.type "slice",data:=.fields #[vl,vu,.none] } }
 exact tail_any (ops:=[.ref s3.heap.objs.size,v]) ht hT hg (by with_unfolding_all rfl)
def Jq4 (xs:List V) (lo hi:Option Int):List V:=(xs.drop (HT.sIx xs.length 0 lo)).take (HT.sIx xs.length xs.length hi-HT.sIx xs.length 0 lo)
theorem Zr4 (xs:List V) (lo hi:Option Int):(Jq4 xs lo hi).length≤xs.length:=by
 unfold Jq4
 rw [List.length_take,List.length_drop]
 lia
end
end L2
namespace L2
open PySem PySem.Spec PyProof.Rows
def ixN (n:Nat) (i:Int):Option Nat:=if 0≤i then (if i<n then some i.toNat else none) else if -(n:Int)≤i then some (i+n).toNat else none
def atI {α:Type} (xs:List α) (i:Int):Option α:=(ixN xs.length i).bind fun j=>xs[j]?
theorem Un5 {n:Nat}{i:Int}{j:Nat} (h:ixN n i=some j):seqIndex? i n=some j∧j<n ∧ -(n:Int)≤i∧i<n:=by
 unfold ixN at h
 by_cases h0:0≤i
 ·rw [if_pos h0] at h
  by_cases h1:i<n
  ·rw [if_pos h1] at h
   have e:i.toNat=j:=Option.some.inj h
   exact ⟨by rw [seqIndex_of h0 h1,e],by lia,by lia,h1⟩
  ·rw [if_neg h1] at h;cases h
 ·rw [if_neg h0] at h
  by_cases h1:-(n:Int)≤i
  ·rw [if_pos h1] at h
   have e:(i+n).toNat=j:=Option.some.inj h
   exact ⟨by rw [seqIndex_neg (by lia) h1,e],by lia,h1,by lia⟩
  ·rw [if_neg h1] at h;cases h
theorem Zu4 {α:Type}{xs:List α}{i:Int}{v:α} (h:atI xs i=some v):∃ j,seqIndex? i xs.length=some j∧xs[j]? = some v∧j<xs.length ∧ -(xs.length:Int)≤i∧i<xs.length:=by
 unfold atI at h
 cases e:ixN xs.length i with
 | none=>rw [e] at h;cases h
 | some j =>
  rw [e] at h
  obtain ⟨h1,h2,h3,h4⟩:=Un5 e
  exact ⟨j,h1,h,h2,h3,h4⟩
theorem Xt2 {α:Type}{xs:List α}{j:Nat}{v:α} (h:xs[j]? = some v):atI xs (j:Int)=some v:=by
 have hj:j<xs.length:=(List.getElem?_eq_some_iff.mp h).1
 have e:ixN xs.length (j:Int)=some j:=by
  unfold ixN
  rw [if_pos (by lia),if_pos (by lia)];simp
 unfold atI;rw [e];exact h
def Zk8 (b:Expr):Prop:=∀ o i,subscripted b false o i=operate [o,i] (getItem o i)
def IxR (X:Cx) (r:R2):Prop :=
 ∀ (value slice:Expr) (pins:List (Addr×Obj)) (s:Shared) (σ:St) (H:Hp) (x y:V) (v u:Value) (Q:VK),Inv X pins σ H s→Vp0 x v→Vp0 y u→r x y H Q →
  subscripted slice false v u=operate [v,u] (getItem v u)→wpAny (model X.prog X.w) X.A (subscriptTail value slice v u) (EP X pins σ Q) X.xe s
def MtR (X:Cx) (id:String) (r:V→List V→Hp→VK→Prop):Prop :=
 ∀ (pins:List (Addr×Obj)) (s:Shared) (σ:St) (H:Hp) (x:V) (xs:List V) (v:Value) (us:List Value) (Q:VK),Inv X pins σ H s→Vp0 x v→Xw0 xs us→r x xs H Q →
  wpAny (model X.prog X.w) X.A (call (.builtin id) (v :: us)) (EP X pins σ Q) X.xe s
section
variable {X:Cx}{a b:Expr}{ta tb:TE}{pos:Pos}
theorem Xi0 {r:R2} (hr:IxR X r) (ha:PE X a ta) (hb:PE X b tb) (hs:Zk8 b):PE X (.Subscript a b pos) (tOp r ta tb):=by
 intro pins s σ H Q I h
 exact Subscript_ (binT ha hb I h fun v u s2 x y H2 I2 rx ry q=>hr a b pins s2 σ H2 x y v u Q I2 rx ry q (hs _ _))
inductive rIxL (K:PySem.W.Frag) (x:V) (y:V) (H:Hp) (Q:VK):Prop |mk (p:Addr) (xs:List V) (i:Int) (v:V) (_:x=.ref p) (_:y=.int i) (_:SqL K H p xs) (_:atI xs i=some v) (_:Q v H)
inductive rIxT (K:PySem.W.Frag) (x:V) (y:V) (H:Hp) (Q:VK):Prop |mk (p:Addr) (xs:List V) (i:Int) (v:V) (_:x=.ref p) (_:y=.int i) (_:SqT K H p xs) (_:atI xs i=some v) (_:Q v H)
theorem Ym0:IxR X (rIxL X.K):=by
 intro value slice pins s σ H x y v u Q I rx ry h hs
 obtain ⟨p,xs,i,z,rfl,rfl,hq,he,q⟩:=h
 cases rx
 obtain ⟨t,rfl⟩:=ry
 obtain ⟨its,r,pl,hz⟩:=I.list hq
 obtain ⟨j,h1,h2,h3,h4,h5⟩:=Zu4 he
 obtain ⟨w,ew,rw'⟩:=r.get h2
 have hl:=r.length
 have hn:=Ux2
 have fin:EP X pins σ Q w s:=⟨z,H,I,rw',q⟩
 by_cases h0:0≤i
 ·have hj:i.toNat=j:=by
   rw [seqIndex_of h0 h5] at h1
   exact Option.some.inj h1
  exact item_listR pl.isList h0 (by lia) (by rw [hj];simpa using ew) fin hs
 ·have hj:(i+(its.toArray.size:Int)).toNat=j:=by
   rw [seqIndex_neg (by lia) h4] at h1
   rw [List.size_toArray,← hl]
   exact Option.some.inj h1
  exact subscriptTail_builtinR (x:=w) pl.isList.typeIs slot_list_getitem.lookup
   (wpAny_getItem_list_neg (Q:=fun r s'=>r=w∧EP X pins σ Q r s') pl.isList (by lia) (by rw [List.size_toArray] <;> lia) (by lia) (by rw [hj];simpa using ew) ⟨rfl,fin⟩) hs
theorem Jl0:IxR X (rIxT X.K):=by
 intro value slice pins s σ H x y v u Q I rx ry h hs
 obtain ⟨p,xs,i,z,rfl,rfl,hq,he,q⟩:=h
 cases rx
 obtain ⟨t,rfl⟩:=ry
 obtain ⟨its,r,pl,hz⟩:=I.tuple hq
 obtain ⟨j,h1,h2,h3,h4,h5⟩:=Zu4 he
 obtain ⟨w,ew,rw'⟩:=r.get h2
 have hl:=r.length
 have hn:=Ux2
 have fin:EP X pins σ Q w s:=⟨z,H,I,rw',q⟩
 exact subscriptTail_builtinR (x:=w) pl.typeIs slot_tuple_getitem.lookup
  (getItem_tuple (j:=j) (Q:=fun r s'=>r=w∧EP X pins σ Q r s') pl (by lia) (by lia) (by rw [List.size_toArray,← hl];exact h1) (by simpa using ew) ⟨rfl,fin⟩) hs
theorem Jh4 (its:List Value) (n j:Nat) (u:Value):Obj.mapSeq (·.setIfInBounds j u) { cls:=.type "list",data:=.seq its.toArray n }={ cls:=.type "list",data:=.seq (its.set j u).toArray n }:=by
 simp [Obj.mapSeq]
theorem Inv.lst {pins:List (Addr×Obj)} {σ:St}{H:Hp}{s:Shared}{p:Addr}{xs:List V} (I:Inv X pins σ H s) (h:H p=some (.lst xs)) :
  ∃ (its:List Value) (n:Nat),Xw0 xs its∧s.heap.get? p=some { cls:=.type "list",data:=.seq its.toArray n }∧xs.length≤sizeLine:=by
 obtain ⟨z,its,n,r,e⟩:=I.hok p _ h
 exact ⟨its,n,r,e,z⟩
theorem Inv.lstUpd {pins:List (Addr×Obj)} {σ:St}{H:Hp}{s:Shared}{p:Addr}{xs ys:List V}{its its':List Value}{n n':Nat}{f:Obj→Obj} (I:Inv X pins σ H s) (h:H p=some (.lst xs))
  (ho:s.heap.get? p=some { cls:=.type "list",data:=.seq its.toArray n }) (hf:f { cls:=.type "list",data:=.seq its.toArray n }={ cls:=.type "list",data:=.seq its'.toArray n' }) (r:Xw0 ys its') (hz:ys.length≤sizeLine) (t:Nat) :
  Inv X pins σ (upd H p (.lst ys)) { s with heap:=s.heap.update p f,toks:=t }:=by
 have e:(s.heap.update p f).get? p=some { cls:=.type "list",data:=.seq its'.toArray n' }:=by
  rw [Heap.get?_update_self f ho (by rw [hf] <;> rfl),hf]
 refine I.write (x:=p) (e:=p) (by rw [h];trivial) (.inl rfl) (fun b u hb q=>(Heap.get?_update_other _ _ (Ne.symm hb)).trans q) ⟨_,e⟩ ?_
 exact ⟨hz,its',n',r,e⟩
inductive rSetL (o:V) (i:V) (v:V) (H:Hp) (Q:(Hp→Prop)):Prop |mk (p:Addr) (xs:List V) (k:Int) (j:Nat) (_:o=.ref p) (_:i=.int k) (_:H p=some (.lst xs)) (_:ixN xs.length k=some j) (_:Q (upd H p (.lst (xs.set j v))))
theorem Xs0:PSet X rSetL:=by
 intro pins s σ H o i v ov iv u Q I ro ri rv h
 obtain ⟨p,xs,k,j,rfl,rfl,hp,hj,q⟩:=h
 cases ro
 obtain ⟨t,rfl⟩:=ri
 obtain ⟨its,n,r,ho,hz⟩:=I.lst hp
 obtain ⟨h1,h2,h3,h4⟩:=Un5 hj
 have hl:=r.length
 have hn:=Ux2
 have I':Inv X pins σ (upd H p (.lst (xs.set j v))) { s with heap:=s.heap.update p (Obj.mapSeq (·.setIfInBounds j u)) } :=
  I.lstUpd hp ho (Jh4 its n j u) (r.set rv j) (by rw [List.length_set];exact hz) s.toks
 by_cases h0:0≤k
 ·have hk:k.toNat=j:=by
   rw [seqIndex_of h0 h4] at h1
   exact Option.some.inj h1
  exact PySem.W.ki_setAt ho h0 (by lia) (by rw [List.size_toArray,← hl];exact h4) (by rw [hk];exact ⟨_,I',q⟩)
 ·have hk:(k+(its.toArray.size:Int)).toNat=j:=by
   rw [seqIndex_neg (by lia) h3] at h1
   rw [List.size_toArray,← hl]
   exact Option.some.inj h1
  exact PySem.W.ki_setBack ho (by lia) (by rw [List.size_toArray,← hl];exact h3) (by lia) (by rw [hk];exact ⟨_,I',q⟩)
theorem Xd3 (lo hi:Option Int) (n:Nat):(sliceBounds lo hi none n).1=((HT.sIx n 0 lo:Nat):Int)∧(sliceBounds lo hi none n).2.1=((HT.sIx n n hi:Nat):Int)∧(sliceBounds lo hi none n).2.2=1:=by
 refine ⟨?_,?_,rfl⟩
 ·cases lo with
  | none=>simp [sliceBounds,HT.sIx]
  | some i =>
   simp only [sliceBounds,HT.sIx,Option.getD_none,show (1:Int) > 0 by decide,if_true]
   by_cases h:i<0
   ·simp only [h,if_true] <;> lia
   ·simp only [h,if_false] <;> lia
 ·cases hi with
  | none=>simp [sliceBounds,HT.sIx]
  | some i =>
   simp only [sliceBounds,HT.sIx,Option.getD_none,show (1:Int) > 0 by decide,if_true]
   by_cases h:i<0
   ·simp only [h,if_true] <;> lia
   ·simp only [h,if_false] <;> lia
theorem Js2 (its:List Value) (lo hi:Option Int):slicePick its.toArray lo hi none=((its.drop (HT.sIx its.length 0 lo)).take (HT.sIx its.length its.length hi-HT.sIx its.length 0 lo)).toArray:=by
 obtain ⟨h1,h2,h3⟩:=Xd3 lo hi its.toArray.size
 unfold slicePick
 rw [h1,h2,h3]
 simp only [sliceRange_one,pick_run,List.size_toArray] <;> rfl
inductive rSlL (K:PySem.W.Frag) (x:V) (lo:Option Int) (hi:Option Int) (H:Hp) (Q:VK):Prop |mk (a:Addr) (xs:List V) (_:x=.ref a) (_:SqL K H a xs) (_:∀ p,H p=none→Q (.ref p) (upd H p (.lst (Jq4 xs lo hi))))
theorem Jc1:SlR X (rSlL X.K):=by
 intro pins s σ H x v vl vu lo hi sl Q I rx hs pl pu h
 obtain ⟨a,xs,rfl,hx,q⟩:=h
 cases rx
 obtain ⟨its,r,ht,hz⟩:=I.list hx
 have hlen:=r.length
 refine ⟨"list",_,slot_list_getitem.lookup,ht.isList.typeIs,?_⟩
 refine wpAny_getItem_list_slice ht.isList hs pl pu .none (by simp) ?_ (by rw [List.size_toArray] <;> lia)
 rw [Js2,← hlen]
 refine ⟨.ref s.heap.objs.size,_,I.laid (t':=s.toks) (o:=.lst (Jq4 xs lo hi)) (fun b ob q=>Heap.get?_push_of_some _ q) (Nat.le_refl _) ?_,rfl,q _ (I.hok.fresh (Nat.le_refl _))⟩
 exact ⟨Nat.le_trans (Zr4 xs lo hi) hz,_,0,(r.drop (HT.sIx xs.length 0 lo)).take (HT.sIx xs.length xs.length hi-HT.sIx xs.length 0 lo),Heap.get?_push_size _ rfl⟩
def Vu3:V→Bool
 | .non=>true
 | .bl _=>true
 | .int _=>true
 | .str _=>true
 | _=>false
def eqV:V→V→Bool
 | .non,.non=>true
 | .bl a,.bl b=>a == b
 | .bl a,.int b=>(if a then 1 else 0) == b
 | .int a,.bl b=>a == (if b then 1 else 0)
 | .int a,.int b=>a == b
 | .str a,.str b=>a == b
 | _,_=>false
theorem eqAt_V {A:Around}{s:Shared}{y x:V}{u v:Value} (ry:Vp0 y u) (rx:Vp0 x v) (fy:Vu3 y=true) (fx:Vu3 x=true):SeqAt.EqAt A s u v (eqV y x):=by
 cases y with
 | non =>
  cases ry
  cases x with
  | non=>cases rx;exact SeqAt.EqAt.same _
  | bl b=>cases rx;exact SeqAt.EqAt.none_bool b
  | int b=>obtain ⟨t,rfl⟩:=rx;exact SeqAt.EqAt.none_int b t
  | str b=>obtain ⟨t,rfl⟩:=rx;exact SeqAt.EqAt.none_str b t
  | _=>exact absurd (show false=true from fx) Bool.false_ne_true
 | bl a =>
  cases ry
  cases x with
  | non=>cases rx;exact SeqAt.EqAt.bool_none a
  | bl b=>cases rx;exact SeqAt.EqAt.bool_bool a b
  | int b=>obtain ⟨t,rfl⟩:=rx;exact SeqAt.EqAt.bool_int a b t
  | str b=>obtain ⟨t,rfl⟩:=rx;exact SeqAt.EqAt.bool_str a b t
  | _=>exact absurd (show false=true from fx) Bool.false_ne_true
 | int a =>
  obtain ⟨t',rfl⟩:=ry
  cases x with
  | non=>cases rx;exact SeqAt.EqAt.int_none a t'
  | bl b=>cases rx;exact SeqAt.EqAt.int_bool a t' b
  | int b=>obtain ⟨t,rfl⟩:=rx;exact SeqAt.EqAt.int_int a t' b t
  | str b=>obtain ⟨t,rfl⟩:=rx;exact SeqAt.EqAt.int_str a t' b t
  | _=>exact absurd (show false=true from fx) Bool.false_ne_true
 | str a =>
  obtain ⟨t',rfl⟩:=ry
  cases x with
  | non=>cases rx;exact SeqAt.EqAt.str_none a t'
  | bl b=>cases rx;exact SeqAt.EqAt.str_bool a t' b
  | int b=>obtain ⟨t,rfl⟩:=rx;exact SeqAt.EqAt.str_int a t' b t
  | str b=>obtain ⟨t,rfl⟩:=rx;exact SeqAt.EqAt.str_str a t' b t
  | _=>exact absurd (show false=true from fx) Bool.false_ne_true
 | _=>exact absurd (show false=true from fy) Bool.false_ne_true
def eqU (x:V) (u:Value):Bool:=match u with
 | .none=>eqV .non x
 | .bool b=>eqV (.bl b) x
 | .int i _=>eqV (.int i) x
 | .str z _=>eqV (.str z) x
 | _=>false
theorem Jk6 {x y:V}{u:Value} (r:Vp0 y u) (f:Vu3 y=true):eqU x u=eqV y x:=by
 cases y with
 | non=>cases r;rfl
 | bl b=>cases r;rfl
 | int i=>obtain ⟨t,rfl⟩:=r;rfl
 | str z=>obtain ⟨t,rfl⟩:=r;rfl
 | _=>exact absurd (show false=true from f) Bool.false_ne_true
theorem Zv4 {x:V}:∀ {xs:List V}{us:List Value},Xw0 xs us→xs.all Vu3=true→us.any (eqU x)=xs.any fun y=>eqV y x
 | _,_,.nil,_=>rfl
 | y :: xs,u :: us,.cons r t,f=>by
  rw [List.all_cons,Bool.and_eq_true] at f
  rw [List.any_cons,List.any_cons,Jk6 r f.1,Zv4 t f.2]
theorem Zv3 {A:Around}{s:Shared}{x:V}{v:Value} (rx:Vp0 x v) (fx:Vu3 x=true):∀ {xs:List V}{us:List Value},Xw0 xs us→xs.all Vu3=true→∀ u∈us,SeqAt.EqAt A s u v (eqU x u)
 | _,_,.nil,_=>fun u hu=>by cases hu
 | y :: xs,u :: us,.cons r t,f=>fun u' hu=>by
  rw [List.all_cons,Bool.and_eq_true] at f
  rcases List.mem_cons.mp hu with rfl | hu
  ·rw [Jk6 r f.1];exact eqAt_V r rx f.1 fx
  ·exact Zv3 rx fx t f.2 u' hu
def inV (x:V) (xs:List V):Bool:=xs.any fun y=>eqV y x
def rIn (K:PySem.W.Frag) (neg:Bool):R2:=fun x y H Q=>∃ p xs,y=.ref p∧(SqL K H p xs∨SqT K H p xs)∧Vu3 x=true∧xs.all Vu3=true∧Q (.bl (if neg then !inV x xs else inV x xs)) H
theorem Ve5:OpR X (compareOp .In) (rIn X.K false):=by
 intro pins s σ H x y v u Q I rx ry h
 obtain ⟨p,xs,rfl,hq,fx,fs,q⟩:=h
 cases ry
 rcases hq with hq | hq
 ·obtain ⟨its,r,pl,hz⟩:=I.list hq
  refine SeqAt.in_listAt (eqU x) pl.isList (fun w hw=>Zv3 rx fx r fs w (by simpa using hw)) ⟨.bl _,H,I,rfl,?_⟩
  rw [show its.toArray.any (eqU x)=its.any (eqU x) by simp,Zv4 r fs]
  exact q
 ·obtain ⟨its,r,pl,hz⟩:=I.tuple hq
  refine SeqAt.in_tupleAt (eqU x) pl (fun w hw=>Zv3 rx fx r fs w (by simpa using hw)) ⟨.bl _,H,I,rfl,?_⟩
  rw [show its.toArray.any (eqU x)=its.any (eqU x) by simp,Zv4 r fs]
  exact q
theorem Yu0:Ju5 X (.builtin "len") (fun xs H Q=>∃ p ys,xs=[.ref p]∧(SqL X.K H p ys∨SqT X.K H p ys)∧Q (.int ys.length) H):=by
 intro pins s σ H xs us Q I r h
 obtain ⟨p,ys,rfl,hq,q⟩:=h
 obtain ⟨u,rfl,rx⟩:=vals1 r
 cases rx
 have hn:=Ux2
 rcases hq with hq | hq
 ·obtain ⟨its,r',pl,hz⟩:=I.list hq
  have hlen:=r'.length
  exact Calls.call_len_list pl.isList (by simp only [List.size_toArray] <;> lia) ⟨.int ys.length,H,I.tok _,⟨s.toks+1,by rw [List.size_toArray,hlen]⟩,q⟩
 ·obtain ⟨its,r',pl,hz⟩:=I.tuple hq
  have hlen:=r'.length
  exact len_tuple pl (by simp only [List.size_toArray] <;> lia) ⟨.int ys.length,H,I.tok _,⟨s.toks+1,by rw [List.size_toArray,hlen]⟩,q⟩
def tyV (K:PySem.W.Frag) (T:String) (x:V) (H:Hp):Prop:=match x with
 | .str _=>T = "str"
 | .int _=>T = "int"
 | .ref p=>(T = "list" ∧ ∃ xs,SqL K H p xs)∨(T = "tuple" ∧ ∃ o,K.lookup p=some o∧o.cls=.type "tuple" ∧ o.dict=none) ∨
   (T = "dict" ∧ ((∃ kvs,H p=some (.dK kvs))∨∃ kvs,H p=some (.dT kvs)))∨(T = "set" ∧ ∃ S n,H p=some (.set S n))
 | _=>False
theorem Vq6 {pins:List (Addr×Obj)} {σ:St}{H:Hp}{s:Shared}{T:String}{x:V}{v:Value} (I:Inv X pins σ H s) (r:Vp0 x v) (ty:tyV X.K T x H) :
  s.TypeIs v T∧∀ a,v=.ref a→∃ ob,s.heap.get? a=some ob∧ob.dict=none:=by
 cases x with
 | str z =>
  obtain ⟨t,rfl⟩:=r
  cases (show T = "str" from ty)
  exact ⟨typeIs_str s z t,fun _ e=>nomatch e⟩
 | int i =>
  obtain ⟨t,rfl⟩:=r
  cases (show T = "int" from ty)
  exact ⟨typeIs_int s i t,fun _ e=>nomatch e⟩
 | ref p =>
  cases r
  rcases ty with ⟨rfl,xs,hq⟩ | ⟨rfl,o,hk,hc,hd⟩ | ⟨rfl,hk⟩ | ⟨rfl,S,n,hk⟩
  ·obtain ⟨its,_,pl,_⟩:=I.list hq
   refine ⟨pl.isList.typeIs,fun a e=>?_⟩
   cases e
   obtain ⟨o,n,e,c,hd,_⟩:=pl
   exact ⟨o,e,hd⟩
  ·refine ⟨⟨o,I.kIn p o hk,hc⟩,fun a e=>?_⟩
   cases e
   exact ⟨o,I.kIn _ o hk,hd⟩
  ·have z:∃ o,s.heap.get? p=some o∧o.ExactDict:=by
    rcases hk with ⟨kvs,hk⟩ | ⟨kvs,hk⟩
    ·obtain ⟨_,_,_,_,o,_,_,e,ex,_⟩:=I.hok p _ hk
     exact ⟨o,e,ex⟩
    ·obtain ⟨_,_,_,_,o,_,_,e,ex,_⟩:=I.hok p _ hk
     exact ⟨o,e,ex⟩
   obtain ⟨o,e,ex⟩:=z
   refine ⟨⟨o,e,ex.1⟩,fun a e2=>?_⟩
   cases e2
   exact ⟨o,e,ex.2.1⟩
  ·obtain ⟨o,_,_,_,e,ex,_⟩:=I.hok p _ hk
   refine ⟨⟨o,e,ex.1⟩,fun a e2=>?_⟩
   cases e2
   exact ⟨o,e,ex.2.1⟩
 | _=>exact False.elim ty
def tBM0 (K:PySem.W.Frag) (T:String) (r:V→List V→Hp→VK→Prop) (to:TE):TE:=fun σ H Q=>to σ H fun x H1=>tyV K T x H1∧r x [] H1 Q
def tBM (K:PySem.W.Frag) (T:String) (r:V→List V→Hp→VK→Prop) (to:TE) (t:TA):TE:=fun σ H Q=>to σ H fun x H1=>tyV K T x H1∧t σ H1 fun xs H2=>r x xs H2 Q
variable {o e:Expr}{es:List Expr}{to:TE}{t:TA}{name:Str}{apos cpos:Pos}{T id:String}{r:V→List V→Hp→VK→Prop}
theorem Xu3 (pa:PlainAttrs T) (slot:Slot T name id) (hty:typeOf (.builtin id)=pure (.type "method_descriptor")) (hm:MtR X id r) (ho:PE X o to)
  (hbase:attributeBase o name X.env (eval o X.env)=eval o X.env:=by rfl) (hline:(apos.endLine == cpos.line)=true:=by rfl):PE X (.Call (.Attribute o name apos) [] [] cpos) (tBM0 X.K T r to):=by
 intro pins s σ H Q I h
 refine wpAny_Call_method0_late hbase hline (thn (ho pins s σ H _ I h) fun v s1 ⟨x,H1,I1,r1,ty,q1⟩=>?_)
 obtain ⟨h1,h2⟩:=Vq6 I1 r1 ty
 exact ⟨T,id,pa,slot,hty,h1,h2,Calls.callWith_builtin rfl (PySem.evalArgs_none (hm pins s1 σ H1 x [] v [] Q I1 r1 .nil q1))⟩
theorem Jp3 (pa:PlainAttrs T) (slot:Slot T name id) (hty:typeOf (.builtin id)=pure (.type "method_descriptor")) (hm:MtR X id r) (ho:PE X o to) (ha:PA X (e :: es) t)
  (hbase:attributeBase o name X.env (eval o X.env)=eval o X.env:=by rfl)
  (hfew:((backTo cpos (starEach (e :: es) X.env)).all (fun x=>!x.1) && (backToKw cpos (keywordEach [] X.env)).all (fun x=>x.1.isSome)
   && decide ((e :: es).length+([]:List Keyword).length+(if ([]:List Keyword).isEmpty then 0 else 1)<30))=true:=by rfl)
  (hline:(apos.endLine == cpos.line)=true:=by rfl) (hs:starEach (e :: es) X.env=(false,eval e X.env) :: starEach es X.env:=by rfl) (hplain:(backTo cpos (starEach es X.env)).any (·.1)=false:=by rfl) :
  PE X (.Call (.Attribute o name apos) (e :: es) [] cpos) (tBM X.K T r to t):=by
 intro pins s σ H Q I h
 refine wpAny_Call_method_late hbase hfew hline rfl (thn (ho pins s σ H _ I h) fun v s1 ⟨x,H1,I1,r1,ty,q1⟩=>?_)
 obtain ⟨h1,h2⟩:=Vq6 I1 r1 ty
 refine ⟨T,id,pa,slot,hty,h1,h2,?_⟩
 have hA:=ha cpos pins s1 σ H1 _ I1 q1
 rw [hs] at hA ⊢
 refine Calls.callWith_builtin (by show (false || (backTo cpos (starEach es X.env)).any (·.1))=false;rw [hplain] <;> rfl) (Calls.evalArgs_plain ?_)
 exact thn hA fun us s2 ⟨vs,H2,I2,r2,q2⟩=>hm pins s2 σ H2 x vs v us Q I2 r1 r2 q2
end
end L2
namespace L2
open PySem PySem.Spec PyProof.Rows
def MtM (X:Cx) (id:String) (r:V→List V→Hp→VK→Prop):Prop :=
 ∀ (pins:List (Addr×Obj)) (s:Shared) (σ:St) (H:Hp) (x:V) (xs:List V) (v:Value) (us:List Value) (Q:VK),Inv X pins σ H s→Vp0 x v→Xw0 xs us→r x xs H Q →
  wpAny (model X.prog X.w) X.A (call (.builtin id) (v :: us)) (EP X pins σ Q) X.xe s
theorem Xw0.one:∀ {x:V}{us:List Value},Xw0 [x] us→∃ u,us=[u]∧Vp0 x u
 | _,_,.cons r .nil=>⟨_,rfl,r⟩
theorem Xw0.zero:∀ {us:List Value},Xw0 [] us→us=[]
 | _,.nil=>rfl
theorem Xw0.dropLast {xs:List V}{us:List Value} (h:Xw0 xs us):Xw0 xs.dropLast us.dropLast:=by
 induction h with
 | nil=>exact .nil
 | cons r t ih =>
  cases t with
  | nil=>exact .nil
  | cons q t'=>exact .cons r ih
theorem Xw0.reverse {xs:List V}{us:List Value} (h:Xw0 xs us):Xw0 xs.reverse us.reverse:=by
 induction h with
 | nil=>exact .nil
 | cons r t ih=>rw [List.reverse_cons,List.reverse_cons];exact Xw0.append ih (.cons r .nil)
theorem Xw0.rep {xs:List V}{us:List Value} (h:Xw0 xs us):∀ k:Nat,Xw0 (List.replicate k xs).flatten (List.replicate k us).flatten
 | 0=>.nil
 | k+1=>by
  rw [List.replicate_succ,List.replicate_succ,List.flatten_cons,List.flatten_cons]
  exact Xw0.append h (Xw0.rep h k)
theorem Jo4 {α:Type} (l:List α):l.eraseIdx (l.length-1)=l.dropLast:=by
 induction l with
 | nil=>rfl
 | cons a r ih =>
  cases r with
  | nil=>rfl
  | cons b r =>
   have e:(a :: b :: r).length-1=((b :: r).length-1)+1:=by
    have h1:(a :: b :: r).length=r.length+2:=rfl
    have h2:(b :: r).length=r.length+1:=rfl
    lia
   rw [e,List.eraseIdx_cons_succ,ih]
   all_goals rfl
theorem Vr3 (its:List Value):∀ (k:Nat) (acc:List Value),
  List.foldl (fun x1 x2=>x1++x2) acc.toArray (List.replicate k its.toArray)=(acc++(List.replicate k its).flatten).toArray
 | 0,acc=>by simp
 | k+1,acc=>by
  have e:acc.toArray++its.toArray=(acc++its).toArray:=by simp
  have e2:(acc++its)++(List.replicate k its).flatten=acc++(List.replicate (k+1) its).flatten:=by
   rw [List.replicate_succ,List.flatten_cons,List.append_assoc]
  rw [← e2,← Vr3 its k (acc++its),← e,List.replicate_succ,List.foldl_cons]
section
variable {X:Cx}{pins:List (Addr×Obj)} {σ:St}{H:Hp}{s:Shared}{l b:Addr}{xs ys zs:List V}
theorem Inv.lset {its its':List Value}{n:Nat}{f:Array Value→Array Value}{t':Nat} (I:Inv X pins σ H s) (hH:H l=some (.lst xs))
  (e:s.heap.get? l=some { cls:=.type "list",data:=.seq its.toArray n }) (hf:f its.toArray=its'.toArray) (hv:Xw0 ys its') (hz:ys.length≤sizeLine) :
  Inv X pins σ (upd H l (.lst ys)) { s with heap:=s.heap.update l (Obj.mapSeq f),toks:=t' }:=by
 have q:=PySem.IsL.update e f
 rw [hf] at q
 refine I.write (x:=l) (e:=l) (by rw [hH];exact trivial) (.inl rfl) (fun b' u hb hu=>(Heap.get?_update_other s.heap (Obj.mapSeq f) (Ne.symm hb)).trans hu) ⟨_,q⟩ ?_
 exact ⟨hz,its',_,hv,q⟩
theorem Inv.lnew {its:List Value}{t':Nat} (I:Inv X pins σ H s) (hv:Xw0 ys its) (hz:ys.length≤sizeLine) :
  Inv X pins σ (upd H s.heap.objs.size (.lst ys)) { s with heap:=s.heap.push { cls:=.type "list",data:=.seq its.toArray },toks:=t' } :=
 I.laid (fun _ _ q=>Heap.get?_push_of_some _ q) (Nat.le_refl _) ⟨hz,its,0,hv,Heap.get?_push_size _ rfl⟩
theorem Inv.fresh (I:Inv X pins σ H s):H s.heap.objs.size=none:=I.hok.fresh (Nat.le_refl _)
theorem Inv.lstM (I:Inv X pins σ H s) (hH:H l=some (.lst xs)):xs.length≤sizeLine∧∃ (its:List Value) (n:Nat),Xw0 xs its∧xs.length=its.length∧s.heap.get? l=some { cls:=.type "list",data:=.seq its.toArray n }:=by
 obtain ⟨z,its,n,r,e⟩:=I.hok l _ hH
 exact ⟨z,its,n,r,r.length,e⟩
theorem Xb4 {n:Nat} (h:n≤sizeLine):Builtin.List.listTooLong n=false:=by
 unfold Builtin.List.listTooLong
 exact decide_eq_false (by lia)
end
section
variable {X:Cx}
inductive Xj7 (x:V) (vs:List V) (H:Hp) (Q:VK):Prop |mk (l:Addr) (xs:List V) (y:V) (_:x=.ref l) (_:vs=[y]) (_:H l=some (.lst xs)) (_:xs.length<sizeLine) (_:Q .non (upd H l (.lst (xs++[y]))))
theorem Xd1:MtM X "list.append" Xj7:=by
 intro pins s σ H x vs v us Q I rx rv h
 obtain ⟨l,xs,y,rfl,rfl,hH,hz,q⟩:=h
 cases rx
 obtain ⟨u,rfl,ru⟩:=rv.one
 obtain ⟨z,its,n,r,hl,e⟩:=I.lstM hH
 refine call_meets F.slot_list_append ⟨_,e,rfl⟩ F.entry_list_append (F.args_list_append_2 _ _) (PySem.list_append l its.toArray n u (by rw [List.size_toArray];lia)) ⟨e,?_⟩
 refine ⟨.non,_,I.lset (its':=its++[u]) hH e (by simp) (r.append (.cons ru .nil)) ?_,rfl,q⟩
 rw [List.length_append,List.length_singleton]
 lia
inductive Xi7 (x:V) (vs:List V) (H:Hp) (Q:VK):Prop |mk (l:Addr) (b:Addr) (xs:List V) (zs:List V) (_:x=.ref l) (_:vs=[.ref b]) (_:H l=some (.lst xs)) (_:H b=some (.lst zs)) (_:xs.length+zs.length≤sizeLine) (_:Q .non (upd H l (.lst (xs++zs))))
theorem Vg3:MtM X "list.extend" Xi7:=by
 intro pins s σ H x vs v us Q I rx rv h
 obtain ⟨l,b,xs,zs,rfl,rfl,hH,hB,hz,q⟩:=h
 cases rx
 obtain ⟨u,rfl,ru⟩:=rv.one
 cases ru
 obtain ⟨z,its,n,r,hl,e⟩:=I.lstM hH
 obtain ⟨z2,its2,n2,r2,hl2,e2⟩:=I.lstM hB
 have hsz:its.toArray.size+its2.toArray.size≤sizeLine:=by rw [List.size_toArray,List.size_toArray];lia
 have hlong:¬ (!its.toArray.isEmpty && Builtin.List.listTooLong (its.toArray.size+its2.toArray.size))=true:=by
  rw [Xb4 hsz,Bool.and_false]
  exact Bool.false_ne_true
 refine call_meets F.slot_list_extend ⟨_,e,rfl⟩ F.entry_list_extend (F.args_list_extend_2 _ _)
  (AutoSeq1.list_extend_list_list_0 l its.toArray n b its2.toArray n2 hlong (by rw [List.size_toArray];lia) (by lia)) ⟨e,e2,?_⟩
 refine ⟨.non,_,I.lset (its':=its++its2) hH e (by simp) (r.append r2) ?_,rfl,q⟩
 rw [List.length_append]
 lia
inductive rPop (x:V) (vs:List V) (H:Hp) (Q:VK):Prop |mk (l:Addr) (xs:List V) (y:V) (_:x=.ref l) (_:vs=[]) (_:H l=some (.lst xs)) (_:xs[xs.length-1]? = some y) (_:Q y (upd H l (.lst xs.dropLast)))
theorem Ux6:MtM X "list.pop" rPop:=by
 intro pins s σ H x vs v us Q I rx rv h
 obtain ⟨l,xs,y,rfl,rfl,hH,hy,q⟩:=h
 cases rx
 have hus:=rv.zero
 subst hus
 obtain ⟨z,its,n,r,hl,e⟩:=I.lstM hH
 obtain ⟨u,hu,ru⟩:=r.get hy
 have hy':its.toArray[its.toArray.size-1]? = some u:=by
  show its.toArray[its.length-1]? = some u
  rw [← Array.getElem?_toList,← hl]
  exact hu
 refine call_meets F.slot_list_pop ⟨_,e,rfl⟩ F.entry_list_pop (F.args_list_pop_1 _) (MeetsSeq.list_pop_last l its.toArray n u hy' (by rw [List.size_toArray];lia)) ⟨e,?_⟩
 refine ⟨y,_,I.lset (its':=its.dropLast) hH e ?_ r.dropLast ?_,ru,q⟩
 ·show its.toArray.eraseIdxIfInBounds (its.toArray.size-1)=its.dropLast.toArray
  rw [List.size_toArray,List.eraseIdxIfInBounds_toArray,Jo4]
 ·rw [List.length_dropLast]
  lia
def Yj6:V→List V→Hp→VK→Prop:=fun x vs H Q=>∃ l xs,x=.ref l∧vs=[]∧H l=some (.lst xs)∧Q .non (upd H l (.lst xs.reverse))
theorem Jg4:MtM X "list.reverse" Yj6:=by
 intro pins s σ H x vs v us Q I rx rv h
 obtain ⟨l,xs,rfl,rfl,hH,q⟩:=h
 cases rx
 have hus:=rv.zero
 subst hus
 obtain ⟨z,its,n,r,hl,e⟩:=I.lstM hH
 refine call_meets F.slot_list_reverse ⟨_,e,rfl⟩ F.entry_list_reverse (F.args_list_reverse_1 _) (AutoSeq1.list_reverse_list_0 l its.toArray n (by rw [List.size_toArray];lia)) ⟨e,?_⟩
 refine ⟨.non,_,I.lset (its':=its.reverse) hH e (by simp) r.reverse ?_,rfl,q⟩
 rw [List.length_reverse]
 lia
def rCat:R2:=fun x y H Q=>∃ l b xs zs,x=.ref l∧y=.ref b∧H l=some (.lst xs)∧H b=some (.lst zs)∧xs.length+zs.length≤sizeLine∧∀ p,H p=none→Q (.ref p) (upd H p (.lst (xs++zs)))
theorem Yx4:OpR X (binaryOp .Add) rCat:=by
 intro pins s σ H x y v u Q I rx ry h
 obtain ⟨l,b,xs,zs,rfl,rfl,hH,hB,hz,q⟩:=h
 cases rx
 cases ry
 obtain ⟨z,its,n,r,hl,e⟩:=I.lstM hH
 obtain ⟨z2,its2,n2,r2,hl2,e2⟩:=I.lstM hB
 refine PySem.P.add_list e e2 ?_ (by rw [List.size_toArray,List.size_toArray];lia)
 have ea:its.toArray++its2.toArray=(its++its2).toArray:=by simp
 rw [ea]
 exact ⟨.ref _,_,I.lnew (t':=s.toks) (r.append r2) (by rw [List.length_append];lia),rfl,q _ I.fresh⟩
def rRep:R2:=fun x y H Q=>∃ l k xs,x=.ref l∧y=.int k∧H l=some (.lst xs) ∧ -(2^63)≤k∧k<2^63∧xs.length*k.toNat≤sizeLine ∧
 ∀ p,H p=none→Q (.ref p) (upd H p (.lst (List.replicate k.toNat xs).flatten))
theorem Ji7 {α:Type} (xs:List α) (k:Nat):(List.replicate k xs).flatten.length=k*xs.length:=by
 induction k with
 | zero=>simp
 | succ k ih=>rw [List.replicate_succ,List.flatten_cons,List.length_append,ih,Nat.succ_mul,Nat.add_comm]
theorem Vc5:OpR X (binaryOp .Mult) rRep:=by
 intro pins s σ H x y v u Q I rx ry h
 obtain ⟨l,k,xs,rfl,rfl,hH,h1,h2,hz,q⟩:=h
 cases rx
 obtain ⟨t,rfl⟩:=ry
 obtain ⟨z,its,n,r,hl,e⟩:=I.lstM hH
 have hlen:its.toArray.size*k.toNat≤sizeLine:=by rw [List.size_toArray,← hl];exact hz
 have hcap:¬ its.toArray.size*k.toNat > (2^63-1)/8:=by
  have:(sizeLine:Nat)≤(2^63-1)/8:=by decide
  lia
 have hfit:¬ (!Builtin.List.listFitsIndex k)=true:=by
  rw [fitsIndex_both h1 h2]
  exact Bool.false_ne_true
 have hlong:¬ Builtin.List.listTooLong (its.toArray.size*k.toNat)=true:=by
  rw [Xb4 hlen]
  exact Bool.false_ne_true
 have hnew:List.foldl (fun x1 x2=>x1++x2) #[] (List.replicate (if its.toArray.isEmpty=true then 0 else k.toNat) its.toArray)=(List.replicate k.toNat its).flatten.toArray:=by
  have f0:∀ m:Nat,List.foldl (fun x1 x2=>x1++x2) #[] (List.replicate m its.toArray)=(List.replicate m its).flatten.toArray:=fun m=>by
   have:=Vr3 its m []
   rw [List.nil_append] at this
   exact this
  rw [f0]
  cases its with
  | nil=>simp
  | cons a r'=>rw [if_neg (by simp)]
 refine wpAny_binaryOp_repeat_ref (T := "list") (U := "int") (by decide) ⟨_,e,rfl⟩ (fun s'=>typeIs_int s' k t) noFill_list_mul F.fills_int_mul F.slot_int_rmul repeat_list F.slot_int_index.lookup
  (call_meets F.slot_int_rmul (typeIs_int s k t) F.entry_int_rmul (F.args_int_rmul_2 _ _) (int___rmul___int_list k t l its.toArray n)
   ⟨e,rfl,⟨_,e,rfl⟩,call_meets F.slot_list_mul ⟨_,e,rfl⟩ F.entry_list_mul (F.args_list_mul_2 _ _) (AutoListH.list___mul___list_int_3 l its.toArray n k t hfit hcap hlong) ⟨e,?_⟩⟩)
 rw [hnew]
 exact ⟨.ref _,_,I.lnew (t':=s.toks) (r.rep k.toNat) (by rw [Ji7,Nat.mul_comm];exact hz),rfl,q _ I.fresh⟩
end
section
variable {prog:Program}{w:World}{A:Around}{E:Value→Shared→Prop}{s:Shared}
set_option maxRecDepth 100000 in
end
end L2
namespace L2
open PySem PySem.Spec PyProof.Rows
abbrev Jw6 (h:Heap) (c:Addr) (v:Option Value):Prop:=h.IsCell c v
def relS (scope sc:Scope):Scope :=
 { scope with names:=scope.names.map fun (n,k)=>if (k == .free && sc.kind == .function && sc.names.lookup n == some .cell) then (n,.cell) else (n,k) }
def Xt0 (cells:List (Str×Addr)):List (Str×NameKind)→List (Str×Addr)→List (Str×Addr)
 | [],acc=>acc
 | (n,k) :: r,acc=>if k == .free then Xt0 cells r ((n,(cells.lookup n).getD 0) :: acc) else Xt0 cells r acc
theorem Zc2 (env:Env) (f:Str×NameKind→List (Str×Addr)→Sem (ForInStep (List (Str×Addr))))
  (hf:∀ n k c,f (n,k) c=if k == .free then (do let a ← cellOf env n;pure (.yield ((n,a) :: c))) else pure (.yield c)) :
  ∀ (names:List (Str×NameKind)) (acc:List (Str×Addr)),(∀ y∈names,y.2=.free→∃ c,env.cells.lookup y.1=some c)→forIn names acc f=pure (Xt0 env.cells names acc)
 | [],acc,_=>by rw [List.forIn_nil];rfl
 | (n,k) :: r,acc,h=>by
  rw [List.forIn_cons,hf]
  have ih:=fun acc=>Zc2 env f hf r acc fun y hy=>h y (List.mem_cons_of_mem _ hy)
  unfold Xt0
  by_cases hk:(k == NameKind.free)=true
  ·rw [if_pos hk,if_pos hk]
   obtain ⟨c,hc⟩:=h (n,k) List.mem_cons_self (by simpa using hk)
   have e:cellOf env n=pure c:=by unfold cellOf;rw [hc]
   rw [e]
   have e2:(env.cells.lookup n).getD 0=c:=by rw [hc];rfl
   rw [e2]
   exact ih _
  ·rw [if_neg hk,if_neg hk]
   exact ih _
theorem Jr4 {scope:Scope}{env:Env} (h:∀ y∈scope.names,y.2=.free→∃ c,env.cells.lookup y.1=some c):closureFor scope env=pure (Xt0 env.cells scope.names []):=by
 simp only [closureFor]
 rw [Zc2 env _ (fun n k c=>rfl) scope.names [] h]
 rfl
theorem Jj1 {α:Type}:∀ {l:List (Str×α)}{n:Str}{c:α},(n,c)∈l→∃ c',l.lookup n=some c'
 | (k,v) :: r,n,c,h=>by
  rw [List.lookup_cons]
  cases hb:n == k with
  | true=>exact ⟨_,rfl⟩
  | false =>
   rcases List.mem_cons.mp h with e | h
   ·cases e;simp at hb
   ·exact Jj1 h
theorem Yi1 {cells:List (Str×Addr)}:∀ {names:List (Str×NameKind)}{acc:List (Str×Addr)}{n:Str}{c:Addr},(n,c)∈Xt0 cells names acc→(n,c)∈acc∨((n,.free)∈names∧c=(cells.lookup n).getD 0)
 | [],_,_,_,h=>.inl h
 | (m,k) :: r,acc,n,c,h=>by
  unfold Xt0 at h
  split at h
  ·rename_i hk
   have hk:k=.free:=by simpa using hk
   rcases Yi1 h with h | ⟨h1,h2⟩
   ·rcases List.mem_cons.mp h with e | h
    ·cases e;exact .inr ⟨hk ▸ List.mem_cons_self,rfl⟩
    ·exact .inl h
   ·exact .inr ⟨List.mem_cons_of_mem _ h1,h2⟩
  ·rcases Yi1 h with h | ⟨h1,h2⟩
   ·exact .inl h
   ·exact .inr ⟨List.mem_cons_of_mem _ h1,h2⟩
theorem Vy1 {cells:List (Str×Addr)}:∀ {names:List (Str×NameKind)}{acc:List (Str×Addr)}{p:Str×Addr},p∈acc→p∈Xt0 cells names acc
 | [],_,_,h=>h
 | (m,k) :: r,acc,p,h=>by
  unfold Xt0
  split
  ·exact Vy1 (List.mem_cons_of_mem _ h)
  ·exact Vy1 h
theorem Vx1 {cells:List (Str×Addr)}:∀ {names:List (Str×NameKind)}{acc:List (Str×Addr)}{n:Str},(n,.free)∈names→(n,(cells.lookup n).getD 0)∈Xt0 cells names acc
 | (m,k) :: r,acc,n,h=>by
  unfold Xt0
  rcases List.mem_cons.mp h with e | h
  ·cases e
   exact Vy1 List.mem_cons_self
  ·split
   ·exact Vx1 h
   ·exact Vx1 h
theorem Xh1:∀ {names:List (Str×NameKind)}{h:Heap}{acc:List (Str×Addr)}{x:Str}{c:Addr},(x,c)∈cellsFrom h.objs.size names acc →
  (x,c)∈acc∨((x,.cell)∈names∧h.objs.size≤c∧Jw6 (pushCells h names) c none)
 | [],_,_,_,_,h=>.inl h
 | (n,k) :: r,h,acc,x,c,hm=>by
  unfold cellsFrom at hm
  unfold pushCells
  split at hm
  ·rename_i hk
   rw [if_pos hk]
   have hk:k=.cell:=by simpa using hk
   rw [← Heap.size_push h { cls:=.type "cell",data:=.cell none }] at hm
   rcases Xh1 hm with hm | ⟨h1,h2,h3⟩
   ·rcases List.mem_cons.mp hm with e | hm
    ·cases e
     exact .inr ⟨hk ▸ List.mem_cons_self,Nat.le_refl _,_,pushCells_keeps r _ _ _ (Heap.get?_push_size _ rfl),rfl⟩
    ·exact .inl hm
   ·rw [Heap.size_push] at h2
    exact .inr ⟨List.mem_cons_of_mem _ h1,Nat.le_of_succ_le h2,h3⟩
  ·rename_i hk
   rw [if_neg hk]
   rcases Xh1 hm with hm | ⟨h1,h2,h3⟩
   ·exact .inl hm
   ·exact .inr ⟨List.mem_cons_of_mem _ h1,h2,h3⟩
theorem Ut1:∀ {names:List (Str×NameKind)}{n:Nat}{acc:List (Str×Addr)}{p:Str×Addr},p∈acc→p∈cellsFrom n names acc
 | [],_,_,_,h=>h
 | (m,k) :: r,n,acc,p,h=>by
  unfold cellsFrom
  split
  ·exact Ut1 (List.mem_cons_of_mem _ h)
  ·exact Ut1 h
theorem Xq2:∀ {names:List (Str×NameKind)}{n:Nat}{acc:List (Str×Addr)}{x:Str},(x,.cell)∈names→∃ c,(x,c)∈cellsFrom n names acc
 | (m,k) :: r,n,acc,x,h=>by
  unfold cellsFrom
  rcases List.mem_cons.mp h with e | h
  ·cases e
   exact ⟨n,Ut1 List.mem_cons_self⟩
  ·split
   ·exact Xq2 h
   ·exact Xq2 h
theorem Xp2:∀ {names:List (Str×NameKind)}{h:Heap}{acc:List (Str×Addr)}{x y:Str}{c:Addr},(∀ p∈acc,p.2<h.objs.size)→(∀ x y c,(x,c)∈acc→(y,c)∈acc→x=y) →
  (x,c)∈cellsFrom h.objs.size names acc→(y,c)∈cellsFrom h.objs.size names acc→x=y
 | [],_,_,_,_,_,_,hi,h1,h2=>hi _ _ _ h1 h2
 | (n,k) :: r,h,acc,x,y,c,hl,hi,h1,h2=>by
  unfold cellsFrom at h1 h2
  split at h1
  ·rename_i hk
   rw [if_pos hk] at h2
   rw [← Heap.size_push h { cls:=.type "cell",data:=.cell none }] at h1 h2
   refine Xp2 (h:=h.push _) (fun p hp=>?_) (fun x y c a b=>?_) h1 h2
   ·rw [Heap.size_push]
    rcases List.mem_cons.mp hp with rfl | hp
    ·exact Nat.lt_succ_self _
    ·exact Nat.lt_succ_of_lt (hl p hp)
   ·rcases List.mem_cons.mp a with e | a <;> rcases List.mem_cons.mp b with e' | b
    ·cases e;cases e';rfl
    ·cases e;exact absurd (hl _ b) (Nat.lt_irrefl _)
    ·cases e';exact absurd (hl _ a) (Nat.lt_irrefl _)
    ·exact hi _ _ _ a b
  ·rename_i hk
   rw [if_neg hk] at h2
   exact Xp2 hl hi h1 h2
theorem Ze4 {M:Model}{A:Around}{E:Value→Shared→Prop}{s:Shared}{scope:Scope}{globals:Addr}{closure:List (Str×Addr)}{qual:Str}{func:Option Addr}{code:Value}{around:Env}{builtins:Addr}{Q:Env→Shared→Prop}
  (h:Q (newEnv scope s.heap.objs.size globals (cellsFrom (s.heap.objs.size+1) scope.names closure) qual func code (some around) builtins)
   { s with heap:=pushCells (s.heap.push { cls:=.type "dict",data:=.dict #[] }) scope.names }) :
  wpAny M A (newFunctionEnv scope globals closure [] qual func code (some around) builtins) Q E s:=by
 simp only [newFunctionEnv,Option.isSome_some,if_true]
 refine wpAny_bind (wpAny_alloc ?_)
 refine wpAny_bind (wpAny_layCells _ (fun n k c=>rfl) scope.names closure _ _ ?_)
 rw [show ({ s with heap:=s.heap.push { cls:=.type "dict",data:=.dict #[] } }:Shared).heap.objs.size=s.heap.objs.size+1 from Heap.size_push ..]
 rw [List.forIn_nil]
 exact wpAny_bind (wpAny_pure (wpAny_pure h))
theorem Vu1 {sc:Scope}:∀ {names:List (Str×NameKind)}{x:Str}{k:NameKind},
  (names.map fun (n,k)=>if (k == NameKind.free && sc.kind == .function && sc.names.lookup n == some .cell) then (n,NameKind.cell) else (n,k)).lookup x=some k →
  ∃ k',names.lookup x=some k'∧(k=k'∨(k'=.free∧k=.cell))
 | [],_,_,h=>by simp at h
 | (n,k₀) :: r,x,k,h=>by
  have ih:=@Vu1 sc r x k
  have h':List.lookup x ((if (k₀ == NameKind.free && sc.kind == .function && sc.names.lookup n == some .cell)=true then (n,NameKind.cell) else (n,k₀)) :: (r.map _))=some k:=h
  cases hx:x == n with
  | true =>
   simp only [List.lookup_cons,hx]
   by_cases hc:(k₀ == NameKind.free && sc.kind == .function && sc.names.lookup n == some .cell)=true
   ·rw [if_pos hc] at h'
    simp only [List.lookup_cons,hx] at h'
    cases h'
    simp only [Bool.and_eq_true,beq_iff_eq] at hc
    exact ⟨k₀,rfl,.inr ⟨hc.1.1,rfl⟩⟩
   ·rw [if_neg hc] at h'
    simp only [List.lookup_cons,hx] at h'
    cases h'
    exact ⟨_,rfl,.inl rfl⟩
  | false =>
   simp only [List.lookup_cons,hx]
   by_cases hc:(k₀ == NameKind.free && sc.kind == .function && sc.names.lookup n == some .cell)=true
   ·rw [if_pos hc] at h'
    simp only [List.lookup_cons,hx] at h'
    exact ih h'
   ·rw [if_neg hc] at h'
    simp only [List.lookup_cons,hx] at h'
    exact ih h'
structure Vn6 (N:List Str) (sc scope:Scope) (own:List (Str×Nat)):Prop where
 kind:scope.kind=.function
 uniq:∀ y∈scope.names,scope.names.lookup y.1=some y.2
 ix:∀ p∈own,N[p.2]? = some p.1
 free:∀ y∈scope.names,y.2=.free→sc.names.lookup y.1=some .cell∨sc.names.lookup y.1=some .free
 own:∀ y∈scope.names,y.2=.local∨y.2=.cell→y.1∈own.map (·.1)∨y.1 ∉ N
def Jh2 (σ:St):List Nat→St
 | []=>σ
 | v :: vs=>(Jh2 σ vs).set v none
theorem Vj1 (σ:St):∀ vs:List Nat,(Jh2 σ vs).length=σ.length
 | []=>rfl
 | v :: vs=>by unfold Jh2;rw [List.length_set,Vj1 σ vs]
theorem Zt2 {σ:St}{i:Nat}{x:V}:∀ {vs:List Nat},(Jh2 σ vs)[i]? = some (some x)→σ[i]? = some (some x)∧i ∉ vs
 | [],h=>⟨h,by simp⟩
 | v :: vs,h=>by
  unfold Jh2 at h
  by_cases hi:v=i
  ·subst hi
   by_cases hv:v<(Jh2 σ vs).length
   ·rw [List.getElem?_set_self hv] at h;cases h
   ·rw [List.getElem?_eq_none (by simpa using hv)] at h;cases h
  ·rw [List.getElem?_set_ne hi] at h
   obtain ⟨h1,h2⟩:=Zt2 h
   exact ⟨h1,by simp only [List.mem_cons,not_or];exact ⟨fun e=>hi e.symm,h2⟩⟩
abbrev Cx.blk (X:Cx) (s:Shared) (H:Hp) (scope:Scope) (cenv:Env) (fp:List Addr):Cx:={ X with s_0:=s,H_0:=H,env:=cenv,outer:=X.stack,ex:=fp,fn:=fun x=>scope.names.lookup x == some .cell,pn:=[],xe:=fun _ _=>False }
section
variable {X:Cx}{pins:List (Addr×Obj)} {σ:St}{H:Hp}{s:Shared}
theorem Zs4 {scope:Scope}{own:List (Str×Nat)}{fp:List Addr} (I:Inv X pins σ H s) (ok:Vn6 X.N X.env.scope scope own) (hN:X.N.Nodup) (hfp:∀ b∈fp,Zc6 X pins H b∧b<s.heap.objs.size) :
  Inv (X.blk s H scope (compEnvC scope (cellsFrom (s.heap.objs.size+1) scope.names (Xt0 X.env.cells scope.names [])) s.heap.objs.size X.env) fp) [] (Jh2 σ (own.map (·.2))) H { s with heap:=pushCells (s.heap.push { cls:=.type "dict",data:=.dict #[] }) scope.names }:=by
 have hfree:∀ y∈scope.names,y.2=.free→∃ c,X.env.cells.lookup y.1=some c:=fun y hy e=>by
  rcases ok.free y hy e with k | k
  ·exact I.ok.has _ (.inl k)
  ·exact I.ok.has _ (.inr k)
 generalize hcenv:compEnvC scope (cellsFrom (s.heap.objs.size+1) scope.names (Xt0 X.env.cells scope.names [])) s.heap.objs.size X.env=cenv
 have kp:∀ b o,s.heap.get? b=some o→(pushCells (s.heap.push { cls:=.type "dict",data:=.dict #[] }) scope.names).get? b=some o:=fun b o e=>pushCells_keeps _ _ _ _ (Heap.get?_push_of_some _ e)
 have hL:cenv.locals=s.heap.objs.size:=by rw [← hcenv];rfl
 have hcl:cenv.cells=cellsFrom (s.heap.objs.size+1) scope.names (Xt0 X.env.cells scope.names []):=by rw [← hcenv];rfl
 have hsc:cenv.scope=relS scope X.env.scope:=by rw [← hcenv];rfl
 rw [← Heap.size_push s.heap { cls:=.type "dict",data:=.dict #[] }] at hcl
 have cm:∀ {y c},(y,c)∈Xt0 X.env.cells scope.names []→X.env.cells.lookup y=some c∧c<s.heap.objs.size:=fun {y c} hm=>by
  rcases Yi1 hm with hm | ⟨h1,rfl⟩
  ·cases hm
  ·obtain ⟨c,hc⟩:=hfree _ h1 rfl
   rw [hc]
   obtain ⟨w,z⟩:=I.cell _ _ hc
   exact ⟨rfl,z.lt⟩
 have mem:∀ {y c},cenv.cells.lookup y=some c→(X.env.cells.lookup y=some c∧c<s.heap.objs.size)∨(s.heap.objs.size+1≤c∧Jw6 (pushCells (s.heap.push { cls:=.type "dict",data:=.dict #[] }) scope.names) c none):=fun {y c} e=>by
  rw [hcl] at e
  rcases Xh1 (PySem.mem_of_lookup e) with hm | ⟨_,h2,h3⟩
  ·exact .inl (cm hm)
  ·rw [Heap.size_push] at h2;exact .inr ⟨h2,h3⟩
 have look:∀ {y},scope.names.lookup y=some .free→∃ c,cenv.cells.lookup y=some c∧X.env.cells.lookup y=some c:=fun {y} hl=>by
  have hy:(y,NameKind.free)∈scope.names:=PySem.mem_of_lookup hl
  obtain ⟨c',e'⟩:=Jj1 (Ut1 (names:=scope.names) (n:=(s.heap.push { cls:=.type "dict",data:=.dict #[] }).objs.size) (Vx1 (cells:=X.env.cells) (acc:=[]) hy))
  rw [← hcl] at e'
  refine ⟨c',e',?_⟩
  rw [hcl] at e'
  rcases Xh1 (PySem.mem_of_lookup e') with hm | ⟨h1,_,_⟩
  ·exact (cm hm).1
  ·have:=ok.uniq _ h1
   rw [hl] at this;cases this
 have okB:(X.blk s H scope cenv fp).Ok:=by
  refine ⟨I.ok.mod,by show cenv.scope.kind=_;rw [hsc];exact ok.kind,by show cenv.globals=_;rw [← hcenv];exact I.ok.glob,by show cenv.builtins=_;rw [← hcenv];exact I.ok.blt,by show s.heap.objs.size≤cenv.locals;rw [hL];exact Nat.le_refl _,
   fun y z c e1 e2=>?_,fun y hy=>?_,fun y c z e=>?_,I.ok.hd,I.ok.frames,.inl rfl,fun b hb=>⟨?_,fun y c e z=>?_⟩,I.bs,Nat.le_trans I.ok.bsz I.sz,fun b o e hb=>?_,fun b hb z=>?_,I.stack,I.stkFree⟩
  ·have e1:cenv.cells.lookup y=some c:=e1
   have e2:cenv.cells.lookup z=some c:=e2
   rw [hcl] at e1 e2
   refine Xp2 (fun p hp=>?_) (fun y z c a b=>I.ok.inj y z c (cm a).1 (cm b).1) (PySem.mem_of_lookup e1) (PySem.mem_of_lookup e2)
   rw [Heap.size_push]
   exact Nat.lt_succ_of_lt (cm (y:=p.1) (c:=p.2) hp).2
  ·show ∃ c,cenv.cells.lookup y=some c
   have key:∀ k,cenv.kindOf y=some k→(k=.cell∨k=.free)→∃ c,cenv.cells.lookup y=some c:=fun k hk hk'=>by
    unfold Env.kindOf at hk
    rw [hsc] at hk
    obtain ⟨k',e,r⟩:=Vu1 hk
    have:k'=.cell∨k'=.free:=by
     rcases r with rfl | ⟨rfl,_⟩
     ·exact hk'
     ·exact .inr rfl
    rcases this with rfl | rfl
    ·obtain ⟨c,hm⟩:=Xq2 (n:=(s.heap.push { cls:=.type "dict",data:=.dict #[] }).objs.size) (acc:=Xt0 X.env.cells scope.names []) (PySem.mem_of_lookup e)
     obtain ⟨c',e'⟩:=Jj1 hm
     exact ⟨c',by rw [hcl];exact e'⟩
    ·obtain ⟨c,h1,_⟩:=look e
     exact ⟨c,h1⟩
   rcases hy with hy | hy
   ·exact key _ hy (.inl rfl)
   ·exact key _ hy (.inr rfl)
  ·have z:(scope.names.lookup y == some NameKind.cell)=true:=z
   have z:scope.names.lookup y=some .cell:=by simpa using z
   have e:cenv.cells.lookup y=some c:=e
   rw [hcl] at e
   rcases Xh1 (PySem.mem_of_lookup e) with hm | ⟨_,h2,_⟩
   ·rcases Yi1 hm with hm | ⟨h1,_⟩
    ·cases hm
    ·have q:=ok.uniq _ h1
     rw [z] at q;cases q
   ·rw [Heap.size_push] at h2
    exact Nat.le_of_succ_le h2
  ·show b≠cenv.locals
   rw [hL];exact Nat.ne_of_lt (hfp b hb).2
  ·have e:cenv.cells.lookup y=some c:=e
   rcases mem e with ⟨h1,_⟩ | ⟨h1,_⟩
   ·exact (hfp b hb).1.2.2.2.2.1 y c h1 z
   ·have h2:s.heap.objs.size+1≤b:=by rw [← z];exact h1
    exact absurd (Nat.lt_of_lt_of_le (hfp b hb).2 (Nat.le_of_succ_le h2)) (Nat.lt_irrefl _)
  ·rcases (hfp b hb).1.2.2.2.1 with z | z
   ·exact I.ok.noex b o e z
   ·exact absurd (Nat.lt_of_lt_of_le (Heap.lt_size e) (Nat.le_trans I.ok.bsz z)) (Nat.lt_irrefl _)
  ·rcases List.mem_cons.mp (I.stkSub b z) with z | z
   ·exact (hfp b hb).1.2.1 z
   ·exact (hfp b hb).1.2.2.1 z
 refine ⟨okB,rfl,I.bare,Un.kept kp,⟨fun _=>none,?_,fun i y av e1 e2 e3=>?_⟩,fun y c e=>?_,?_,fun y c e=>?_,fun p hp=>?_,I.hok.kept kp,by rw [Vj1];exact I.len⟩
 ·show Heap.Ns _ cenv.locals _
  rw [hL]
  exact Heap.Ns.keeps (Heap.Ns.new ..) fun b o e=>pushCells_keeps _ _ _ _ e
 ·obtain ⟨e2,hne⟩:=Zt2 e2
  have hfr:scope.names.lookup y=some .free∧(cenv.kindOf y=some .cell∨cenv.kindOf y=some .free):=by
   have key:∀ k,cenv.scope.names.lookup y=some k→k=.local∨k=.cell∨k=.free→scope.names.lookup y=some .free∧(cenv.kindOf y=some .cell∨cenv.kindOf y=some .free):=fun k hk hk'=>by
    have hk0:=hk
    rw [hsc] at hk
    obtain ⟨k',e,r⟩:=Vu1 hk
    have no:¬ (k'=.local∨k'=.cell):=fun hh=>by
     rcases ok.own _ (PySem.mem_of_lookup e) hh with e' | e'
     ·obtain ⟨p,hp,hpy⟩:=List.mem_map.mp e'
      have e3:=ok.ix p hp
      have:p.1=y:=hpy
      rw [this] at e3
      exact hne (List.mem_map.mpr ⟨p,hp,Zs3 hN e3 e1⟩)
     ·exact e' (List.mem_of_getElem? e1)
    rcases r with rfl | ⟨rfl,rfl⟩
    ·rcases hk' with rfl | rfl | rfl
     ·exact absurd (.inl rfl) no
     ·exact absurd (.inr rfl) no
     ·exact ⟨e,.inr hk0⟩
    ·exact ⟨e,.inl hk0⟩
   have e3:Vis cenv.scope y:=e3
   rcases e3 with e3 | e3 | e3
   ·exact key _ e3 (.inl rfl)
   ·exact key _ e3 (.inr (.inl rfl))
   ·exact key _ e3 (.inr (.inr rfl))
  obtain ⟨m,hn,hl⟩:=I.loc
  have hvis:Vis X.env.scope y:=(ok.free _ (PySem.mem_of_lookup hfr.1) rfl).elim (fun k=>.inr (.inl k)) (fun k=>.inr (.inr k))
  obtain ⟨w,r,q⟩:=hl i y av e1 e2 hvis
  refine ⟨w,r,.inr ⟨hfr.2,?_⟩⟩
  obtain ⟨c,h1,h2⟩:=look hfr.1
  rcases q with ⟨k,_⟩ | ⟨_,c',e',z⟩
  ·have k:X.env.scope.names.lookup y=some .local:=k
   rcases ok.free _ (PySem.mem_of_lookup hfr.1) rfl with k' | k' <;> rw [show X.env.scope.names.lookup y=_ from k'] at k <;> cases k
  ·rw [h2] at e';cases e'
   exact ⟨c,h1,z.keeps kp⟩
 ·have e:cenv.cells.lookup y=some c:=e
  rcases mem e with ⟨h1,_⟩ | ⟨_,z⟩
  ·obtain ⟨w,z⟩:=I.cell y c h1
   exact ⟨w,z.keeps kp⟩
  ·exact ⟨_,z⟩
 ·show H cenv.locals=none
  rw [hL];exact I.hok.fresh (Nat.le_refl _)
 ·have e:cenv.cells.lookup y=some c:=e
  rcases mem e with ⟨h1,_⟩ | ⟨h1,_⟩
  ·exact I.freeC y c h1
  ·exact I.hok.fresh (Nat.le_of_succ_le h1)
 ·exact absurd (show p∈([]:List (Addr×Obj))++[] from hp) (by simp)
theorem app_ok {E:Value→Shared→Prop}{D:Addr}{xs:List V}{y:V}{v:Value}{Q:Value→Shared→Prop} (I:Inv X pins σ H s) (hD:H D=some (.lst xs)) (hz:xs.length<sizeLine) (r:Vp0 y v)
  (h:∀ s',Inv X pins σ (upd H D (.lst (xs++[y]))) s'→Q .none s'):wpAny (model X.prog X.w) X.A (call (.builtin "list.append") [.ref D,v]) Q E s:=by
 obtain ⟨hz',its,n,ri,e⟩:=I.hok D _ hD
 have hl:=ri.length
 refine append_at (hsz:=by rw [List.size_toArray];lia) e fun h' sb ho'=>?_
 refine h { s with heap:=h' } (I.write (t':=s.toks) (by rw [hD];trivial) (.inl rfl) (fun b u hb q=>(sb.2 b hb).trans q) ⟨_,ho'⟩ ⟨by rw [List.length_append];exact hz,its++[v],n+1,ri.append (.cons r .nil),?_⟩)
 rw [ho']
 simp
def PTs (X:Cx) (ifs:List Expr) (t:TT):Prop :=
 ∀ (pins:List (Addr×Obj)) (s:Shared) (σ:St) (H:Hp) (Q:Bool→Hp→Prop),Inv X pins σ H s→t σ H Q →
  wpAny (model X.prog X.w) X.A (forIn ifs true fun c r=>if r=true then do let ok ← isTrue c X.env (eval c X.env);pure (ForInStep.yield ok) else pure (ForInStep.yield r)) (TP X pins σ Q) X.xe s
def tYes:TT:=fun _ H Q=>Q true H
theorem Xk7:PTs X [] tYes:=fun _ _ _ H _ I h=>wpAny_tests_nil ⟨H,I,h⟩
end
theorem thnF {α:Type}{t:Sem α}{Q Q':α→Shared→Prop}{M:Model}{A:Around}{E:Value→Shared→Prop}{s:Shared} (h:wpAny M A t Q (fun _ _=>False) s) (hQ:∀ a s,Q a s→Q' a s):wpAny M A t Q' E s:=wpAny_mono h hQ fun _ _ z=>False.elim z
theorem Ua3 {prog:Program}{w:World}{A:Around}{R:Result→Shared→Prop}{s:Shared}{elt target iter:Expr}{ifs:List Expr}{scope:Scope}{pos:Pos}{it acc:Value}{env:Env} (I:Nat→Shared→Prop)
  (turn:∀ n s,I n s→wpAny (model prog w) A (pyNext it) (fun r s₁=>match r with
   | none=>R (.ok .next) s₁
   | some v=>wpAny (model prog w) A (letOwnedTupleGo target it v) (fun _ s₁'=>wpAny (model prog w) A (assign target env v) (fun _ s₂ =>
     wpAny (model prog w) A (forIn ifs true fun c r=>if r=true then do let ok ← isTrue c env (eval c env);pure (ForInStep.yield ok) else pure (ForInStep.yield r)) (fun ok s₃ =>
      if ok=true then wpAny (model prog w) A (eval elt env) (fun x s₄ =>
       wpAny (model prog w) A (call (.builtin "list.append") [acc,x]) (fun _ s₅=>∃ m,m<n∧I m s₅) (notedBy (model prog w) A env fun e s'=>R (.error e) s') s₄) (notedBy (model prog w) A env fun e s'=>R (.error e) s') s₃
      else ∃ m,m<n∧I m s₃) (notedBy (model prog w) A env fun e s'=>R (.error e) s') s₂) (notedBy (model prog w) A env fun e s'=>R (.error e) s') s₁') (notedBy (model prog w) A env fun e s'=>R (.error e) s') s₁) (notedBy (model prog w) A env fun e s'=>R (.error e) s') s)
  (n:Nat) (h:I n s) :
  codeAny (model prog w) A (.compLoop (.ListComp elt [⟨target,iter,ifs,0⟩] scope pos) 0 it acc env) R s:=by
 refine codeAny_loop rfl I (fun n s hI=>?_) n h
 show wpAny _ A ((compTurn (.ListComp elt [⟨target,iter,ifs,0⟩] scope pos) 0 it acc env).onRaise (fun x=>do noteFrame x env;theTreesLotGoes x)) _ _ s
 refine wpAny_noted ?_
 rw [compTurn_list]
 refine wpAny_bind (wpAny_standAt (wpAny_bind (wpAny_mono (turn n s hI) (fun r s₁ h₁=>?_) fun _ _ h'=>h')))
 cases r with
 | none=>exact wpAny_pure h₁
 | some v =>
  refine wpAny_bind (wpAny_mono h₁ (fun _ s₁' h₁'=>?_) fun _ _ h'=>h')
  refine wpAny_bind (wpAny_mono h₁' (fun _ s₂ h₂=>wpAny_bind (wpAny_mono h₂ (fun ok s₃ h₃=>?_) fun _ _ h'=>h')) fun _ _ h'=>h')
  cases ok with
  | false=>exact wpAny_pure ⟨rfl,h₃⟩
  | true =>
   exact wpAny_bind (wpAny_bind (wpAny_mono h₃ (fun x s₄ h₄=>wpAny_bind (wpAny_mono h₄ (fun _ s₅ h₅=>wpAny_pure (wpAny_pure ⟨rfl,h₅⟩)) fun _ _ h'=>h')) fun _ _ h'=>h'))
section
variable {X:Cx}
def tLc (wi:TI) (g:TG) (tt:TT) (te:TE) (vs:List Nat):TE:=fun σ H Q=>wi σ H fun J H1=>∀ D,H1 D=none→∃ W:Nat→Nat→Hp→Prop,(∃ m,W 0 m (upd H1 D (.lst [])))∧∀ i m H,W i m H →
 (J.stop i H∧Q (.ref D) H)∨(J.go i H∧∃ Nx:Hp→Prop,(∀ H',Nx H'→∃ m',m'<m∧W (i+1) m' H')∧∀ x H',J.yld i H x H'→g x (Jh2 σ vs) H' fun σ2 H2=>Jh2 σ2 vs=Jh2 σ vs∧tt σ2 H2 fun b H3 =>
  if b=true then te σ2 H3 fun y H4=>∃ acc,H4 D=some (.lst acc)∧acc.length<sizeLine∧Nx (upd H4 D (.lst (acc++[y]))) else Nx H3)
theorem Jj7 {pins:List (Addr×Obj)}{s:Shared} {σ:St}{H:Hp}{Q:VK}{elt tg iter:Expr}{ifs:List Expr}{scope:Scope}{own:List (Str×Nat)}{pos pos':Pos}{wi:TI}{g:TG}{tt:TT}{te:TE}{use:Option (Value→Sem Unit)}{Qf:Value→Shared→Prop}
  (hc:X.calm=true) (hN:X.N.Nodup) (I:Inv X pins σ H s) (hi:PI X tg iter wi) (ok:Vn6 X.N X.env.scope scope own)
  (hg:∀ (s:Shared) (H:Hp) (C:Addr) (cl:List (Str×Addr)) (fp:List Addr),PG (X.blk s H scope (compEnvC scope cl C X.env) fp) tg g) (ht:∀ (s:Shared) (H:Hp) (C:Addr) (cl:List (Str×Addr)) (fp:List Addr),PTs (X.blk s H scope (compEnvC scope cl C X.env) fp) ifs tt)
  (he:∀ (s:Shared) (H:Hp) (C:Addr) (cl:List (Str×Addr)) (fp:List Addr),PE (X.blk s H scope (compEnvC scope cl C X.env) fp) elt te) (hs:∀ x,foldedSetIterable iter X.env x=pure x)
  (h:tLc wi g tt te (own.map (·.2)) σ H Q)
  (hRR:∀ D C s' m H',Inv X pins σ H' s'→Q (.ref D) H'→s'.heap.Ns C m→Zc6 X pins H' C→compPost (model X.prog X.w) X.A X.xe use Qf (.ref D) C (.ok .next) s') :
  wpAny (model X.prog X.w) X.A (comprehension (.ListComp elt [⟨tg,iter,ifs,0⟩] scope pos) scope X.env pos' (newList []) false (eval iter X.env) use) Qf X.xe s:=by
 have hfree:∀ y∈scope.names,y.2=.free→∃ c,X.env.cells.lookup y.1=some c:=fun y hy e=>by
  rcases ok.free y hy e with k | k
  ·exact I.ok.has _ (.inl k)
  ·exact I.ok.has _ (.inr k)
 refine wpAny_comprehension_free (use:=use) rfl hs (Jr4 hfree) ok.kind (fun y hy e=>by rw [ok.uniq y hy,e])
  (thn (hi pins s σ H _ I h) fun xv s1 hx=>thn hx fun itv s2 h2=>?_)
 obtain ⟨it,fp,tn,J,H2,e,I2,T,st2,f2,q⟩:=h2
 subst e
 refine wpAny_newObj_type (Ze4 ?_) (by show 0≤sizeLine;decide)
 generalize hD:s2.heap.objs.size=D
 have hDn:H2 D=none:=I2.hok.fresh (Nat.le_of_eq hD)
 obtain ⟨W,⟨m0,w0⟩,turn⟩:=q D hDn
 generalize hs3:({ s2 with heap:=s2.heap.push { cls:=.type "list",data:=.seq ([]:List Value).toArray } }:Shared)=s3
 have I3:Inv X pins σ (upd H2 D (.lst [])) s3:=by
  rw [← hs3]
  refine I2.laid (t':=s2.toks) (fun b o e=>Heap.get?_push_of_some _ e) (Nat.le_of_eq hD) ⟨Nat.zero_le _,[],0,.nil,?_⟩
  rw [← hD]
  exact Heap.get?_push_size _ rfl
 have h3:s3.heap=s2.heap.push { cls:=.type "list",data:=.seq ([]:List Value).toArray }:=by rw [← hs3]
 have sz:∀ b∈fp,b<s2.heap.objs.size:=fun b hb=>by
  obtain ⟨o,e,_⟩:=T.obj _ _ st2 b hb
  exact Heap.lt_size e
 have f3:∀ b∈fp,Zc6 X pins (upd H2 D (.lst [])) b∧b<s3.heap.objs.size:=fun b hb=>by
  have hlt:=sz b hb
  refine ⟨⟨?_,(f2 b hb).2⟩,by rw [h3,Heap.size_push];exact Nat.lt_succ_of_lt hlt⟩
  rw [Zn0 (by rw [← hD];exact Nat.ne_of_lt hlt)]
  exact (f2 b hb).1
 have st3:tn 0 s3.heap:=T.keep _ _ _ st2 fun b _ o e=>by rw [h3];exact Heap.get?_push_of_some _ e
 have I4:=Zs4 I3 ok hN f3
 have pg:=hg s3 (upd H2 D (.lst [])) s3.heap.objs.size (cellsFrom (s3.heap.objs.size+1) scope.names (Xt0 X.env.cells scope.names [])) fp
 have pt:=ht s3 (upd H2 D (.lst [])) s3.heap.objs.size (cellsFrom (s3.heap.objs.size+1) scope.names (Xt0 X.env.cells scope.names [])) fp
 have pe:=he s3 (upd H2 D (.lst [])) s3.heap.objs.size (cellsFrom (s3.heap.objs.size+1) scope.names (Xt0 X.env.cells scope.names [])) fp
 show codeAny _ _ (.compStart (.ListComp elt [⟨tg,iter,ifs,0⟩] scope pos) 0 (.ref it) (.ref D) (compEnvC scope (cellsFrom (s3.heap.objs.size+1) scope.names (Xt0 X.env.cells scope.names [])) s3.heap.objs.size X.env)) (compPost (model X.prog X.w) X.A X.xe use Qf (.ref D) s3.heap.objs.size) { s3 with heap:=pushCells (s3.heap.push { cls:=.type "dict",data:=.dict #[] }) scope.names }
 have nfp:∀ b∈fp,(upd H2 D (.lst [])) b=none:=fun b hb=>(f3 b hb).1.1
 generalize hce:compEnvC scope (cellsFrom (s3.heap.objs.size+1) scope.names (Xt0 X.env.cells scope.names [])) s3.heap.objs.size X.env=ce at I4 pg pt pe ⊢
 have cL:ce.locals=s3.heap.objs.size:=by subst hce;rfl
 generalize hH3:upd H2 D (.lst [])=H3 at I3 I4 pg pt pe w0 nfp f3
 generalize hs4:({ s3 with heap:=pushCells (s3.heap.push { cls:=.type "dict",data:=.dict #[] }) scope.names }:Shared)=s4 at I4 ⊢
 have st4:tn 0 s4.heap:=T.keep _ _ _ st3 fun b _ o e=>by rw [← hs4];exact pushCells_keeps _ _ _ _ (Heap.get?_push_of_some _ e)
 have stat:∀ {σ':St}{H':Hp}{s':Shared},Inv (X.blk s3 H3 scope ce fp) [] σ' H' s'→(∀ b∈fp,H' b=none)→∀ b∈fp,Zc6 (X.blk s3 H3 scope ce fp) [] H' b:=fun {σ' H' s'} I' hn b hb =>
  ⟨hn b hb,(I'.ok.exf b hb).1,I'.ok.exfs b hb,.inl hb,fun x c e=>(I'.ok.exf b hb).2 x c e,fun p hp=>absurd (show p∈([]:List (Addr×Obj))++[] from hp) (by simp)⟩
 have loop:codeAny (model X.prog X.w) X.A (.compLoop (.ListComp elt [⟨tg,iter,ifs,0⟩] scope pos) 0 (.ref it) (.ref D) ce) (compPost (model X.prog X.w) X.A X.xe use Qf (.ref D) s3.heap.objs.size) s4:=by
  refine Ua3 (fun n s'=>∃ i H',Inv (X.blk s3 H3 scope ce fp) [] (Jh2 σ (own.map (·.2))) H' s'∧tn i s'.heap∧(∀ b∈fp,H' b=none)∧W i n H') ?_ m0 ⟨0,H3,I4,st4,nfp,w0⟩
  rintro n s5 ⟨i,H5,I5,st5,n5,w5⟩
  rcases turn i n H5 w5 with ⟨stop,qq⟩ | ⟨go,Nx,hNx,step⟩
  ·have td:=T.done (X.blk s3 H3 scope ce fp) rfl rfl rfl hc i [] s5 _ H5 (fun _ _=>False) I5 (stat I5 n5) st5 stop
   refine thnF td fun r s6 ⟨hr,I6⟩=>?_
   subst hr
   have I7:Inv X pins σ H5 s6:=I3.call' (ch:=fp) I6.os I6.base I6.hok I6.bare fun b hb=>⟨(f3 b hb).1.2.2.2.1,(f3 b hb).1.2.1,(f3 b hb).1.2.2.2.2.1,(f3 b hb).1.2.2.2.2.2⟩
   have nC:H5 s3.heap.objs.size=none:=by
    have z:H5 ce.locals=none:=I6.free
    rw [cL] at z
    exact z
   obtain ⟨m,hn,_⟩:=I6.loc
   have hn:s6.heap.Ns ce.locals m:=hn
   rw [cL] at hn
   exact hRR D s3.heap.objs.size s6 m H5 I7 qq hn (I3.fpOk (Nat.le_refl _) nC)
  ·have ti:=T.item (X.blk s3 H3 scope ce fp) rfl rfl rfl hc i [] s5 _ H5 (fun _ _=>False) I5 (stat I5 n5) st5 go
   refine thnF ti fun r s6 ⟨u,hr,h6⟩=>?_
   subst hr
   refine thnF h6 fun _ s7 ⟨x,H7,I7,r7,y7,st7,n7⟩=>?_
   have I7':=I7.pinned (stat I7 n7) (T.obj _ _ st7)
   refine thnF (pg _ s7 _ H7 x u _ I7' r7 (step x H7 y7)) fun _ s8 ⟨σ8,H8,I8,hw8,q8⟩=>?_
   refine thnF (pt _ s8 σ8 H8 _ I8 q8) fun b s9 ⟨H9,I9,q9⟩=>?_
   have fin:∀ {s':Shared}{H':Hp},Inv (X.blk s3 H3 scope ce fp) ([]++Xr3 fp s7.heap) σ8 H' s'→Nx H'→∃ m,m<n∧∃ i H',Inv (X.blk s3 H3 scope ce fp) [] (Jh2 σ (own.map (·.2))) H' s'∧tn i s'.heap∧(∀ b∈fp,H' b=none)∧W i m H':=fun {s' H'} I' nx=>by
    obtain ⟨m',hm,w'⟩:=hNx H' nx
    have pin':∀ b∈fp,∀ o,s7.heap.get? b=some o→s'.heap.get? b=some o∧H' b=none:=fun b hb o e =>
     let z:=I'.pin (b,o) (List.mem_append_right _ (List.mem_append_right _ (Ji1 hb e)))
     ⟨z.1,z.2.1⟩
    have hl:(Jh2 σ (own.map (·.2))).length=σ8.length:=by rw [← hw8,Vj1]
    refine ⟨m',hm,i+1,H',(I'.unpinned (pins:=[])).weak hl (fun j v e=>?_),T.keep _ _ _ st7 fun b hb o e=>(pin' b hb o e).1,fun b hb=>?_,w'⟩
    ·rw [← hw8] at e
     exact (Zt2 e).1
    ·obtain ⟨o,e,_⟩:=T.obj _ _ st7 b hb
     exact (pin' b hb o e).2
   cases b with
   | false =>
    simp only [Bool.false_eq_true,if_false] at q9 ⊢
    exact fin I9 q9
   | true =>
    simp only [if_true] at q9 ⊢
    refine thnF (pe _ s9 σ8 H9 _ I9 q9) fun z s10 ⟨yv,H10,I10,r10,acc,hD10,hz10,nx⟩=>?_
    exact app_ok (X:=X.blk s3 H3 scope ce fp) I10 hD10 hz10 r10 fun s11 I11=>fin I11 nx
 exact codeAny_compStart_list loop (T.self X.A 0 _ _ _ st4 loop)
theorem pe_lc {elt tg iter:Expr}{ifs:List Expr}{scope:Scope}{own:List (Str×Nat)}{pos:Pos}{wi:TI}{g:TG}{tt:TT}{te:TE} (hc:X.calm=true) (hN:X.N.Nodup) (hi:PI X tg iter wi) (ok:Vn6 X.N X.env.scope scope own)
  (hg:∀ (s:Shared) (H:Hp) (C:Addr) (cl:List (Str×Addr)) (fp:List Addr),PG (X.blk s H scope (compEnvC scope cl C X.env) fp) tg g) (ht:∀ (s:Shared) (H:Hp) (C:Addr) (cl:List (Str×Addr)) (fp:List Addr),PTs (X.blk s H scope (compEnvC scope cl C X.env) fp) ifs tt)
  (he:∀ (s:Shared) (H:Hp) (C:Addr) (cl:List (Str×Addr)) (fp:List Addr),PE (X.blk s H scope (compEnvC scope cl C X.env) fp) elt te) (hs:∀ x,foldedSetIterable iter X.env x=pure x:=by intro _;rfl) :
  PE X (.ListComp elt [⟨tg,iter,ifs,0⟩] scope pos) (tLc wi g tt te (own.map (·.2))):=by
 intro pins s σ H Q I h
 rw [eval_ListComp]
 refine Jj7 hc hN I hi ok hg ht he hs h fun D C s' m H' I' q hn f=>⟨m,hn,fun h'' sb=>?_⟩
 obtain ⟨f0,f1,f2,f3,f4,f5⟩:=f
 exact ⟨.ref D,H',I'.turned (t':=s'.toks) (fun b o hb e=>(sb.2 b hb).trans e) f0 f1 f3 f4 f5,rfl,q⟩
end
theorem Xr6 {lo:Int}{n:Nat}{g:TG}{tt:TT}{te:TE}{vs:List Nat} {σ:St}{H1:Hp}{D:Addr}{Qd:Hp→Prop} (Pv:Nat→Hp→Prop) (h0:Pv 0 (upd H1 D (.lst [])))
  (hs:∀ i H,i<n→Pv i H→g (.int (lo+i)) (Jh2 σ vs) H fun σ2 H2=>Jh2 σ2 vs=Jh2 σ vs∧tt σ2 H2 fun b H3 =>
   if b=true then te σ2 H3 fun y H4=>∃ acc,H4 D=some (.lst acc)∧acc.length<sizeLine∧Pv (i+1) (upd H4 D (.lst (acc++[y]))) else Pv (i+1) H3) (hd:∀ H,Pv n H→Qd H) :
  ∃ W:Nat→Nat→Hp→Prop,(∃ m,W 0 m (upd H1 D (.lst [])))∧∀ i m H,W i m H →
   ((Itr lo n).stop i H∧Qd H)∨((Itr lo n).go i H∧∃ Nx:Hp→Prop,(∀ H',Nx H'→∃ m',m'<m∧W (i+1) m' H')∧∀ x H',(Itr lo n).yld i H x H'→g x (Jh2 σ vs) H' fun σ2 H2=>Jh2 σ2 vs=Jh2 σ vs∧tt σ2 H2 fun b H3 =>
    if b=true then te σ2 H3 fun y H4=>∃ acc,H4 D=some (.lst acc)∧acc.length<sizeLine∧Nx (upd H4 D (.lst (acc++[y]))) else Nx H3):=by
 refine ⟨fun i m H=>m=n-i∧i≤n∧Pv i H,⟨n,by simp,Nat.zero_le _,h0⟩,?_⟩
 rintro i m H ⟨rfl,hi,p⟩
 by_cases hlt:i<n
 ·refine .inr ⟨hlt,Pv (i+1),fun H' p'=>⟨n-(i+1),by lia,rfl,hlt,p'⟩,fun x H' y=>?_⟩
  obtain ⟨e,y⟩:=y
  subst e y
  exact hs i _ hlt p
 ·have e:i=n:=by lia
  subst e
  exact .inl ⟨Nat.le_refl _,hd H p⟩
end L2
namespace L2
open PySem PySem.Spec PyProof.Rows
section
variable {κ:Type} [DecidableEq κ]
def Zu2 (kvs:List (κ×V)) (k:κ):Option V:=(kvs.find? fun kv=>decide (kv.1=k)).map (·.2)
def Jo3 (kvs:List (κ×V)) (k:κ) (v:V):List (κ×V) :=
 if (kvs.any fun kv=>decide (kv.1=k))=true then kvs.map (fun kv=>if kv.1=k then (kv.1,v) else kv) else kvs++[(k,v)]
theorem Uk0 {p:κ×V}{r:List (κ×V)}{k:κ} (e:p.1=k):Zu2 (p :: r) k=some p.2:=by simp [Zu2,List.find?_cons,e]
theorem Ul0 {p:κ×V}{r:List (κ×V)}{k:κ} (e:¬ p.1=k):Zu2 (p :: r) k=Zu2 r k:=by simp [Zu2,List.find?_cons,e]
theorem Zn2 (k:κ):∀ kvs:List (κ×V),(kvs.any fun kv=>decide (kv.1=k))=(Zu2 kvs k).isSome
 | []=>rfl
 | p :: r=>by
  rw [List.any_cons]
  by_cases e:p.1=k
  ·simp only [Uk0 e,decide_eq_true e,Bool.true_or,Option.isSome_some]
  ·rw [Ul0 e,decide_eq_false e,Bool.false_or];exact Zn2 k r
theorem Zy4 (k j:κ) (y:V):∀ kvs:List (κ×V),Zu2 (kvs.map fun kv=>if kv.1=k then (kv.1,y) else kv) j=(Zu2 kvs j).map fun x=>if j=k then y else x
 | []=>rfl
 | p :: r=>by
  have ih:=Zy4 k j y r
  rw [List.map_cons]
  by_cases h:p.1=k
  ·rw [if_pos h]
   by_cases e:p.1=j
   ·rw [Uk0 (p:=(p.1,y)) e,Uk0 e,Option.map_some,if_pos (e.symm.trans h)]
   ·rw [Ul0 (p:=(p.1,y)) e,Ul0 e,ih]
  ·rw [if_neg h]
   by_cases e:p.1=j
   ·rw [Uk0 (p:=p) e,Uk0 e,Option.map_some,if_neg (fun z=>h (e.trans z))]
   ·rw [Ul0 (p:=p) e,Ul0 e,ih]
theorem Yp3 (k j:κ) (y:V):∀ kvs:List (κ×V),Zu2 kvs k=none→Zu2 (kvs++[(k,y)]) j=if j=k then some y else Zu2 kvs j
 | [],_=>by
  by_cases e:k=j
  ·rw [if_pos e.symm];exact Uk0 (p:=(k,y)) e
  ·rw [if_neg (fun z=>e z.symm)];exact Ul0 (p:=(k,y)) e
 | p :: r,hn=>by
  rw [List.cons_append]
  have hk:¬ p.1=k:=fun z=>by rw [Uk0 z] at hn;cases hn
  rw [Ul0 hk] at hn
  have ih:=Yp3 k j y r hn
  by_cases e:p.1=j
  ·rw [Uk0 e,Uk0 e,if_neg (fun z=>hk (e.trans z))]
  ·rw [Ul0 e,Ul0 e,ih]
theorem Zh6 (kvs:List (κ×V)) (k j:κ) (y:V):Zu2 (Jo3 kvs k y) j=if j=k then some y else Zu2 kvs j:=by
 unfold Jo3
 by_cases a:(kvs.any fun kv=>decide (kv.1=k))=true
 ·rw [if_pos a,Zy4]
  rw [Zn2] at a
  by_cases e:j=k
  ·obtain ⟨x,hx⟩:=Option.isSome_iff_exists.mp a
   rw [if_pos e,e,hx,Option.map_some,if_pos rfl]
  ·rw [if_neg e]
   cases Zu2 kvs j with
   | none=>rfl
   | some x=>rw [Option.map_some,if_neg e]
 ·rw [if_neg a]
  refine Yp3 k j y kvs ?_
  rw [Zn2] at a
  cases q:Zu2 kvs k with
  | none=>rfl
  | some x=>rw [q] at a;exact (a rfl).elim
theorem Xh2 (kvs:List (κ×V)) (k:κ) (v:V):(Jo3 kvs k v).length≤kvs.length+1:=by
 unfold Jo3
 split
 ·rw [List.length_map];lia
 ·rw [List.length_append,List.length_cons,List.length_nil];lia
theorem Uj3.isSome_eq {o:Option V}{u:Option Value} (r:Uj3 o u):o.isSome=u.isSome:=by
 cases o with
 | none=>cases u with
  | none=>rfl
  | some _=>exact (show False from r).elim
 | some _=>cases u with
  | none=>exact (show False from r).elim
  | some _=>rfl
theorem Uj3.getD {o:Option V}{u:Option Value}{d:V}{d':Value} (r:Uj3 o u) (rd:Vp0 d d'):Vp0 (o.getD d) (u.getD d'):=by
 cases o with
 | none=>cases u with
  | none=>exact rd
  | some _=>exact (show False from r).elim
 | some _=>cases u with
  | none=>exact (show False from r).elim
  | some _=>exact r
theorem KV.val {kvs:List (κ×V)}{vs:List (κ×Value)} (r:KV kvs vs) (k:κ):Uj3 (Zu2 kvs k) (valueAt vs k):=by
 unfold KV at r
 induction r with
 | nil=>exact True.intro
 | @cons p q ps qs h t ih =>
  obtain ⟨h1,h2⟩:=h
  by_cases e:p.1=k
  ·have e':q.1=k:=h1.symm.trans e
   have b:valueAt (q :: qs) k=some q.2:=by simp [valueAt,List.find?_cons,e']
   rw [Uk0 e,b];exact h2
  ·have e':¬ q.1=k:=fun z=>e (h1.trans z)
   have b:valueAt (q :: qs) k=valueAt qs k:=by simp [valueAt,List.find?_cons,e']
   rw [Ul0 e,b];exact ih
theorem KV.any {kvs:List (κ×V)}{vs:List (κ×Value)} (r:KV kvs vs) (k:κ):(kvs.any fun kv=>decide (kv.1=k))=vs.any fun kv=>decide (kv.1=k):=by
 unfold KV at r
 induction r with
 | nil=>rfl
 | cons h t ih=>rw [List.any_cons,List.any_cons,ih,h.1]
theorem KV.repl {kvs:List (κ×V)}{vs:List (κ×Value)} (r:KV kvs vs) (k:κ) {y:V}{u:Value} (ry:Vp0 y u) :
  KV (kvs.map fun kv=>if kv.1=k then (kv.1,y) else kv) (vs.map fun kv=>if kv.1=k then (kv.1,u) else kv):=by
 unfold KV at r ⊢
 induction r with
 | nil=>exact .nil
 | @cons p q ps qs h t ih =>
  rw [List.map_cons,List.map_cons]
  refine .cons ?_ ih
  obtain ⟨h1,h2⟩:=h
  by_cases e:p.1=k
  ·rw [if_pos e,if_pos (h1.symm.trans e)];exact ⟨h1,ry⟩
  ·rw [if_neg e,if_neg (fun z=>e (h1.trans z))];exact ⟨h1,h2⟩
theorem KV.put {kvs:List (κ×V)}{vs:List (κ×Value)} (r:KV kvs vs) (k:κ) {y:V}{u:Value} (ry:Vp0 y u):KV (Jo3 kvs k y) (stored vs k u):=by
 unfold Jo3 stored
 rw [r.any k]
 by_cases e:(vs.any fun kv=>decide (kv.1=k))=true
 ·rw [if_pos e,if_pos e];exact r.repl k ry
 ·rw [if_neg e,if_neg e];exact Paired.snoc r ⟨rfl,ry⟩
theorem KV.length {kvs:List (κ×V)}{vs:List (κ×Value)} (r:KV kvs vs):kvs.length=vs.length:=Paired.length r
end
theorem Jk7 {P:Program}{w:World}{k:Key}{u:Value} (r:Vp0 (kV k) u):(Vs0 P w).is k u=true:=by
 cases k with
 | inl i=>obtain ⟨t,e⟩:=(show ∃ t,u=Value.int i t from r);subst e;exact Zh4 P w i t
 | inr x=>obtain ⟨t,e⟩:=(show ∃ t,u=Value.str x t from r);subst e;exact Zg4 P w x t
theorem Vm3 {P:Program}{w:World}:∀ {ks:List Key}{us:List Value},Xw0 (ks.map kV) us→ItemsAre (Vs0 P w) ks us
 | [],_,r=>by rw [List.map_nil] at r;cases r;exact .nil
 | k :: ks,_,r=>by
  rw [List.map_cons] at r
  cases r with
  | cons h t=>exact .cons (Jk7 h) (Vm3 t)
abbrev KT (H:Hp):List (List Key×V)→List (List Key×Addr×Value)→Prop:=Paired fun p q=>p.1=q.1∧H q.2.1=some (.tup (p.1.map kV))∧Vp0 p.2 q.2.2
theorem KT.val {H:Hp}{kvs:List (List Key×V)}{xs:List (List Key×Addr×Value)} (r:KT H kvs xs) (k:List Key):Uj3 (Zu2 kvs k) ((atKey xs k).map (·.2)):=by
 induction r with
 | nil=>exact True.intro
 | @cons p q ps qs h t ih =>
  obtain ⟨h1,_,h2⟩:=h
  by_cases e:p.1=k
  ·have e':q.1=k:=h1.symm.trans e
   have b:atKey (q :: qs) k=some q.2:=by simp [atKey,List.find?_cons,e']
   rw [Uk0 e,b];exact h2
  ·have e':¬ q.1=k:=fun z=>e (h1.trans z)
   have b:atKey (q :: qs) k=atKey qs k:=by simp [atKey,List.find?_cons,e']
   rw [Ul0 e,b];exact ih
theorem KT.repl {H:Hp}{kvs:List (List Key×V)}{xs:List (List Key×Addr×Value)} (r:KT H kvs xs) (k:List Key) {y:V}{u:Value} (ry:Vp0 y u) :
  KT H (kvs.map fun kv=>if kv.1=k then (kv.1,y) else kv) (xs.map (putAt k u)):=by
 induction r with
 | nil=>exact .nil
 | @cons p q ps qs h t ih =>
  rw [List.map_cons,List.map_cons]
  refine .cons ?_ ih
  obtain ⟨h1,h2,h3⟩:=h
  unfold putAt
  by_cases e:p.1=k
  ·rw [if_pos e,if_pos (h1.symm.trans e)];exact ⟨h1,h2,ry⟩
  ·rw [if_neg e,if_neg (fun z=>e (h1.trans z))];exact ⟨h1,h2,h3⟩
theorem KT.put {H:Hp}{kvs:List (List Key×V)}{xs:List (List Key×Addr×Value)} (r:KT H kvs xs) (k:List Key) {b:Addr}{y:V}{u:Value} (hb:H b=some (.tup (k.map kV))) (ry:Vp0 y u) :
  KT H (Jo3 kvs k y) (storedH xs k b u):=by
 have e:(kvs.any fun kv=>decide (kv.1=k))=(atKey xs k).isSome:=by
  rw [Zn2,(r.val k).isSome_eq,Option.isSome_map]
 unfold Jo3 storedH
 rw [e]
 by_cases q:(atKey xs k).isSome=true
 ·rw [if_pos q,if_pos q];exact r.repl k ry
 ·rw [if_neg q,if_neg q];exact Paired.snoc r ⟨rfl,hb,ry⟩
theorem KT.keeps {H H':Hp}{kvs:List (List Key×V)}{xs:List (List Key×Addr×Value)} (r:KT H kvs xs) (ht:∀ b ys,H b=some (.tup ys)→H' b=some (.tup ys)):KT H' kvs xs :=
 Paired.mapP r fun _ _ z=>⟨z.1,ht _ _ z.2.1,z.2.2⟩
section
variable {P:Program}{w:World}{H:Hp}{h:Heap}{a:Addr}
theorem rd_of {u:HO} (ok:HOk P w H h) (e:Rd H a u):Js0 P w H h a u:=e.ok ok
theorem Jy7 {kvs:List (Key×V)} (ok:HOk P w H h) (e:Rd H a (.dK kvs)):kvs.length≤sizeLine∧(a == sysModules)=false∧∃ vs,KV kvs vs∧h.DictOf (Vs0 P w) a vs :=
 show Js0 P w H h a (.dK kvs) from rd_of ok e
theorem dk_of {kvs:List (Key×V)} (ok:HOk P w H h) (e:H a=some (.dK kvs)):kvs.length≤sizeLine∧(a == sysModules)=false∧∃ vs,KV kvs vs∧h.DictOf (Vs0 P w) a vs:=Jy7 ok (.inl e)
theorem Uk5 {ks:List Key} (ok:HOk P w H h) (e:H a=some (.tup (ks.map kV))):(tupleKind (Vs0 P w)).is h ks a:=by
 obtain ⟨_,its,r,o,h1,h2,n,h3⟩:=(show Js0 P w H h a (.tup (ks.map kV)) from ok a _ e)
 exact ⟨o,its.toArray,n,h1,h2,h3,by simpa using Vm3 r⟩
theorem Jw7 {kvs:List (List Key×V)} (ok:HOk P w H h) (e:Rd H a (.dT kvs)):kvs.length≤sizeLine∧(a == sysModules)=false ∧
  ∃ xs,KT H kvs xs∧h.DictOfH (tupleKind (Vs0 P w)) a xs:=by
 obtain ⟨z,y,xs,r,o,es,ep,h1,h2,h3,h4,h5⟩:=(show Js0 P w H h a (.dT kvs) from rd_of ok e)
 refine ⟨z,y,xs,r,o,es,ep,h1,h2,h3,h4,fun x hx=>?_,h5⟩
 have all:∀ {l:List (List Key×V)}{m:List (List Key×Addr×Value)},KT H l m→∀ x∈m,(tupleKind (Vs0 P w)).is h x.1 x.2.1:=by
  intro l m q
  induction q with
  | nil=>intro x hx;exact nomatch hx
  | @cons p q ps qs hq t ih =>
   intro x hx
   rcases List.mem_cons.mp hx with e | hx
   ·subst e
    exact Uk5 ok (by rw [← hq.1];exact hq.2.1)
   ·exact ih x hx
 exact all r x hx
theorem dt_of {kvs:List (List Key×V)} (ok:HOk P w H h) (e:H a=some (.dT kvs)):kvs.length≤sizeLine∧(a == sysModules)=false ∧
  ∃ xs,KT H kvs xs∧h.DictOfH (tupleKind (Vs0 P w)) a xs:=Jw7 ok (.inl e)
end
def DGet (H:Hp) (a:Addr) (y:V) (r:Option V):Prop :=
 (∃ kvs k,Rd H a (.dK kvs)∧y=kV k∧r=Zu2 kvs k)∨∃ kvs k b,Rd H a (.dT kvs)∧y=.ref b∧H b=some (.tup (k.map kV))∧r=Zu2 kvs k
def DPut (H:Hp) (a:Addr) (y v:V) (H':Hp):Prop :=
 (∃ kvs k,H a=some (.dK kvs)∧y=kV k∧kvs.length<sizeLine∧H'=upd H a (.dK (Jo3 kvs k v))) ∨
 ∃ kvs k b,H a=some (.dT kvs)∧y=.ref b∧H b=some (.tup (k.map kV))∧kvs.length<sizeLine∧H'=upd H a (.dT (Jo3 kvs k v))
theorem DGet.k {H:Hp}{a:Addr}{kvs:List (Key×V)}{k:Key} (e:H a=some (.dK kvs)):DGet H a (kV k) (Zu2 kvs k):=.inl ⟨kvs,k,.inl e,rfl,rfl⟩
theorem DPut.k {H:Hp}{a:Addr}{kvs:List (Key×V)}{k:Key}{v:V} (e:H a=some (.dK kvs)) (hl:kvs.length<sizeLine):DPut H a (kV k) v (upd H a (.dK (Jo3 kvs k v))):=.inl ⟨kvs,k,e,rfl,hl,rfl⟩
section
variable {X:Cx}{pins:List (Addr×Obj)} {σ:St}{H:Hp}{s:Shared}{a:Addr}{y v:V}{u r:Value}{o:Option V}{A:Around}{E:Value→Shared→Prop}
theorem Inv.big (I:Inv X pins σ H s):sysModules<s.heap.objs.size:=by
 have h:mainGlobals<s.heap.objs.size:=(I.mod.glob.keeps I.bk).lt
 exact Nat.lt_trans (by decide) h
theorem Jf5 {h':Heap}{t':Nat}{ob:HO} (I:Inv X pins σ H s) (mu:Mut (H a)) (hs:Heap.SameBut a s.heap h') (he:∃ q,h'.get? a=some q) (new:Js0 X.prog X.w (upd H a ob) h' a ob) :
  Inv X pins σ (upd H a ob) { s with heap:=h',toks:=t' } :=
 I.write (x:=a) (e:=a) mu (.inl rfl) (fun b q hb z=>(hs.2 b hb).trans z) he new
theorem dk_new {P:Program}{w:World}{H':Hp}{h':Heap}{kvs:List (Key×V)}{vs:List (Key×Value)} (z:kvs.length≤sizeLine) (hd:(a == sysModules)=false) (rel:KV kvs vs) (dd:h'.DictOf (Vs0 P w) a vs) :
  Js0 P w H' h' a (.dK kvs):=⟨z,hd,vs,rel,dd⟩
theorem Jg5 {H':Hp}{Q:Unit→Shared→Prop} (hu:A.units+1<cLine) (I:Inv X pins σ H s) (g:DPut H a y v H') (ry:Vp0 y u) (rv:Vp0 v r) (h:∀ s',Inv X pins σ H' s'→Q () s') :
  wpAny (model X.prog X.w) A (setItem (.ref a) u r) Q E s:=by
 rcases g with ⟨kvs,k,e,ey,l,eH⟩ | ⟨kvs,k,b,e,ey,eb,l,eH⟩
 ·subst ey eH
  obtain ⟨z,hd,vs,rel,dd⟩:=dk_of I.hok e
  have hz:vs.length≤sizeLine:=by rw [← rel.length];exact z
  have hl:(Jo3 kvs k v).length≤sizeLine:=by have:=Xh2 kvs k v;lia
  refine wpAny_setItem_pairs (hsz:=hz) (Jk7 ry) dd fun h' dd' hs=>h _ ?_
  have he:∃ q,h'.get? a=some q:=let ⟨q,_,_,hq,_⟩:=dd';⟨q,hq⟩
  exact Jf5 I (by rw [e];exact True.intro) hs he (dk_new hl hd (rel.put k rv) dd')
 ·subst ey eH
  cases (show u=Value.ref b from ry)
  obtain ⟨z,hd,xs,rel,dd⟩:=dt_of I.hok e
  have hz:xs.length≤sizeLine:=by rw [← Paired.length rel];exact z
  have hl:(Jo3 kvs k v).length≤sizeLine:=by have:=Xh2 kvs k v;lia
  refine wpAny_setItem_heap (hsz:=hz) (tupleKind_room_in1 hu) (Uk5 I.hok eb) dd fun h' dd' hs=>h _ ?_
  obtain ⟨q,es,ep,hq,h2,h3,h4,_,h5⟩:=dd'
  refine Jf5 I (by rw [e];exact True.intro) hs ⟨q,hq⟩ ⟨hl,hd,_,(rel.put k eb rv).keeps fun c ys ec=>?_,q,es,ep,hq,h2,h3,h4,h5⟩
  rw [Zn0 (Zp1 ec e (fun z=>nomatch z))]
  exact ec
end
def NoSl (i:Expr):Prop:=∀ ov iv,subscripted i false ov iv=operate [ov,iv] (getItem ov iv)
theorem Zt7 {prog:Program}{w:World}{A:Around}{E:Value→Shared→Prop}{s:Shared}{env:Env}{value slice:Expr}{pos:Pos}{T id:String}{Q:Value→Shared→Prop}
  (hl:typeLookup (.type T) "__getitem__" = pure (some (.builtin id))) (hs:NoSl slice)
  (h:wpAny (model prog w) A (eval value env) (fun o s₁=>wpAny (model prog w) A (eval slice env) (fun i s₂=>s₂.TypeIs o T∧wpAny (model prog w) A (getItem o i) Q E s₂) E s₁) E s) :
  wpAny (model prog w) A (eval (.Subscript value slice pos) env) Q E s:=by
 refine Subscript_ (wpAny_mono h (fun o s₁ h₁=>wpAny_mono h₁ (fun i s₂ h₂=>?_) fun _ _ x=>x) fun _ _ x=>x)
 obtain ⟨hT,h₂⟩:=h₂
 unfold subscriptTail
 refine wpAny_bind ?_
 rw [getitemInPython_of_ne hT.not_modules]
 refine wpAny_bind (wpAny_specialOf hT hl ?_)
 have fin:wpAny (model prog w) A (subscripted slice false o i) (fun r s₃=>wpAny (model prog w) A (letTemporaryGo value o r >>= fun _=>pure r) Q E s₃) E s₂:=by
  rw [hs o i]
  exact wpAny_operating (wpAny_mono h₂ (fun r s₃ h₃=>wpAny_bind (wpAny_letTemporaryGo (wpAny_pure h₃))) fun _ _ x=>x)
 first
  | exact wpAny_pure (wpAny_bind fin)
  | exact wpAny_bind (wpAny_pure (wpAny_bind fin))
  | exact wpAny_bind fin
def sDPut (td ty tv:TE):TS:=fun D σ H=>tv σ H fun v H1=>td σ H1 fun x H2=>ty σ H2 fun y H3=>∃ a H4,x=.ref a∧DPut H3 a y v H4∧D.nx σ H4
section
variable {X:Cx}{o i e value:Expr}{pos pos' tpos:Pos}{td ty tv:TE}
theorem Xo7 (hu:X.A.units+1<cLine) (ho:PE X o td) (hi:PE X i ty) (hv:PE X value tv) (hs:swapsWith value (some (.Subscript o i pos')) pos.line X.env=pure false) :
  PS X (.Assign [.Subscript o i pos'] value pos) (sDPut td ty tv):=by
 intro pins s σ H D I h
 refine wpAny_Assign_Subscript (thn (hv pins s σ H _ I h) fun r s1 ⟨v,H1,I1,rv,q1⟩=>thn (ho pins s1 σ H1 _ I1 q1) fun u s2 ⟨x,H2,I2,rx,q2⟩=>thn (hi pins s2 σ H2 _ I2 q2) fun iv s3 ⟨y,H3,I3,ry,a,H4,ex,g,q3⟩=>?_) hs
 subst ex
 obtain rfl:u=Value.ref a:=rx
 exact Jg5 hu I3 g ry rv fun s4 I4=>⟨σ,H4,I4,q3⟩
end
theorem Va6 {P:Program}{w:World}{H:Hp} (h:Heap) (hb:sysModules<h.objs.size):Js0 P w H (h.push { cls:=.type "dict",data:=.dict #[] }) h.objs.size (.dK []) :=
 ⟨Nat.zero_le _,beq_eq_false_iff_ne.mpr (Ne.symm (Nat.ne_of_lt hb)),[],.nil,Heap.DictOf.new h⟩
def tDNewK:TE:=fun _ H Q=>∀ p,H p=none→Q (.ref p) (upd H p (.dK []))
section
variable {X:Cx}{pos:Pos}
theorem Yo6:PE X (.Dict [] [] pos) tDNewK:=fun pins s σ H Q I h =>
 wpAny_Dict_empty ⟨.ref s.heap.objs.size,_,I.laid (a:=s.heap.objs.size) (o:=.dK []) (t':=s.toks) (fun _ _ q=>Heap.get?_push_of_some _ q) (Nat.le_refl _) (Va6 s.heap I.big),rfl,h _ (I.hok.fresh (Nat.le_refl _))⟩
end
structure M1 (X:Cx) (o:Expr) (m:Str) (apos:Pos) (e:Expr) (cpos:Pos):Prop where
 base:attributeBase o m X.env (eval o X.env)=eval o X.env
 few:((backTo cpos (starEach [e] X.env)).all (fun x=>!x.1) && (backToKw cpos (keywordEach [] X.env)).all (fun x=>x.1.isSome)
  && decide (([e]:List Expr).length+([]:List Keyword).length+(if ([]:List Keyword).isEmpty then 0 else 1)<30))=true
 line:(apos.endLine == cpos.line)=true
 trees:backTo cpos (starEach [e] X.env)=[(false,eval e X.env)]
structure M2 (X:Cx) (o:Expr) (m:Str) (apos:Pos) (e f:Expr) (cpos:Pos):Prop where
 base:attributeBase o m X.env (eval o X.env)=eval o X.env
 few:((backTo cpos (starEach [e,f] X.env)).all (fun x=>!x.1) && (backToKw cpos (keywordEach [] X.env)).all (fun x=>x.1.isSome)
  && decide (([e,f]:List Expr).length+([]:List Keyword).length+(if ([]:List Keyword).isEmpty then 0 else 1)<30))=true
 line:(apos.endLine == cpos.line)=true
 trees:backTo cpos (starEach [e,f] X.env)=[(false,eval e X.env),(false,eval f X.env)]
def IsD (H:Hp) (a:Addr):Prop:=(∃ kvs,Rd H a (.dK kvs))∨∃ kvs,Rd H a (.dT kvs)
theorem isD_at {X:Cx}{pins:List (Addr×Obj)} {σ:St}{H:Hp}{s:Shared}{a:Addr} (I:Inv X pins σ H s) (d:IsD H a) :
  s.TypeIs (.ref a) "dict" ∧ (∀ b,Value.ref a=.ref b→∃ ob,s.heap.get? b=some ob∧ob.dict=none)∧(a == sysModules)=false:=by
 rcases d with ⟨kvs,e⟩ | ⟨kvs,e⟩
 ·obtain ⟨_,hd,vs,_,dd⟩:=Jy7 I.hok e
  refine ⟨dd.typeIs,fun b q=>?_,hd⟩
  cases q
  obtain ⟨ob,_,_,h1,h2,_⟩:=dd
  exact ⟨ob,h1,h2.2.1⟩
 ·obtain ⟨_,hd,xs,_,dd⟩:=Jw7 I.hok e
  refine ⟨dd.typeIs,fun b q=>?_,hd⟩
  cases q
  obtain ⟨ob,_,_,h1,h2,_⟩:=dd
  exact ⟨ob,h1,h2.2.1⟩
section
variable {X:Cx}{pins:List (Addr×Obj)} {σ:St}{H:Hp}{s:Shared}{a:Addr}{y d:V}{u r:Value}{o:Option V}{A:Around}{E:Value→Shared→Prop}
theorem d_get2 {Q:Value→Shared→Prop} (hu:A.units+1<cLine) (I:Inv X pins σ H s) (g:DGet H a y o) (ry:Vp0 y u) (rd:Vp0 d r) (h:∀ w' s',Inv X pins σ H s'→Vp0 (o.getD d) w'→Q w' s') :
  wpAny (model X.prog X.w) A (call (.builtin "dict.get") [.ref a,u,r]) Q E s:=by
 rcases g with ⟨kvs,k,e,ey,l⟩ | ⟨kvs,k,b,e,ey,eb,l⟩
 ·subst ey
  obtain ⟨z,hd,vs,rel,dd⟩:=Jy7 I.hok e
  refine call_meetsIn PySem.F.slot_dict_get dd.typeIs PySem.F.entry_dict_get (PySem.F.args_dict_get_3 _ _ _) (meets_dict_get_default (Vs0 X.prog X.w) a (Jk7 ry) hd r) ⟨_,dd.mapOf,h _ _ (I.tok _) ?_⟩
  rw [l]
  exact (rel.val k).getD rd
 ·subst ey
  cases (show u=Value.ref b from ry)
  obtain ⟨z,hd,xs,rel,dd⟩:=Jw7 I.hok e
  refine call_meetsIn PySem.F.slot_dict_get dd.typeIs PySem.F.entry_dict_get (PySem.F.args_dict_get_3 _ _ _) (meetsH_dict_get_default (tupleKind (Vs0 X.prog X.w)) a b hd r) ⟨tupleKind_room_in1 hu,k,xs,Uk5 I.hok eb,dd,h _ _ (I.tok _) ?_⟩
  rw [l]
  exact (rel.val k).getD rd
end
def tDGet2 (td ty tx:TE):TE:=fun σ H Q=>td σ H fun x H1=>∃ a,x=.ref a∧IsD H1 a∧ty σ H1 fun y H2=>tx σ H2 fun z H3=>∃ o,DGet H3 a y o∧Q (o.getD z) H3
section
variable {X:Cx}{o e f:Expr}{apos cpos:Pos}{td ty tx:TE}
theorem Yv4 (hu:X.A.units+1<cLine) (ho:PE X o td) (he:PE X e ty) (hf:PE X f tx) (m:M2 X o "get" apos e f cpos):PE X (.Call (.Attribute o "get" apos) [e,f] [] cpos) (tDGet2 td ty tx):=by
 intro pins s σ H Q I h
 refine wpAny_Call_method m.base m.few m.line PySem.F.plainAttrs_dict PySem.F.slot_dict_get PySem.F.type_dict_get (thn (ho pins s σ H _ I h) fun u s1 ⟨x,H1,I1,rx,a,ex,d,q1⟩=>?_)
 subst ex
 obtain rfl:u=Value.ref a:=rx
 obtain ⟨t1,t2,_⟩:=isD_at I1 d
 refine ⟨t1,t2,?_⟩
 rw [m.trees]
 refine Calls.callWith_builtin rfl (Calls.evalArgs_plain (Calls.spliced_cons (thn (he pins s1 σ H1 _ I1 q1) fun iv s2 ⟨y,H2,I2,ry,q2⟩ =>
  Calls.spliced_cons (thn (hf pins s2 σ H2 _ I2 q2) fun fv s3 ⟨z,H3,I3,rz,ov,g,q3⟩=>Calls.spliced_nil ?_))))
 exact d_get2 hu I3 g ry rz fun w' s4 I4 rw'=>⟨_,H3,I4,rw',q3⟩
end
end L2
namespace L2
open PySem PySem.Spec PyProof.Rows
section
variable {X:Cx}
theorem pi_one {tg:Expr}{pins:List (Addr×Obj)} {σ:St}{H:Hp}{s:Shared}{R:It→Hp→Prop}{J:It}{tn:Nat→Heap→Prop}{tk:Nat} (I:Inv X pins σ H s) (o:Obj)
  (T:Turn X.prog X.w X.K tg J [s.heap.objs.size] s.heap.objs.size tn) (st:tn 0 (s.heap.push o)) (q:R J H):PIE X pins σ tg R (.ref s.heap.objs.size) { s with heap:=s.heap.push o,toks:=tk }:=by
 refine ⟨s.heap.objs.size,[s.heap.objs.size],tn,J,H,rfl,I.kept fun b ob e=>Heap.get?_push_of_some _ e,T,st,fun b hb=>?_,q⟩
 have e:b=s.heap.objs.size:=by simpa using hb
 subst e
 exact I.fpOk (Nat.le_refl _) (I.hok.fresh (Nat.le_refl _))
end
def Itc (lo c:Int) (n:Nat):It:=⟨fun i _=>i<n,fun i H x H'=>H'=H∧x=.int (lo+(i:Nat)*c),fun i _=>n≤i⟩
theorem Uk3 {P:Program}{w:World}{K:PySem.W.Frag}{tg:Expr} (it:Addr) (lo c:Int) (n:Nat):Turn P w K tg (Itc lo c n) [it] it (fun i h=>IsRangeIter h it (lo+(i:Nat)*c) ((n:Int)-(i:Nat)) c) where
 mem:=by simp
 obj:=fun i h st b hb=>by
  have e:b=it:=by simpa using hb
  subst e
  exact ⟨_,st,fun v z=>nomatch z⟩
 keep:=fun i h h' st k=>k it (by simp) _ st
 item:=by
  intro X hP hw hK hc i pins s σ H E I hf st hg
  subst hP hw hK
  obtain ⟨f0,f1,f2,f3,f4,f5⟩:=hf it (by simp)
  have W:=Walks.range (prog:=X.prog) (w:=X.w) (I.ok.hd hc) it lo c n
  refine W.item i s _ _ hg st fun v h' tk hv st' kk=>?_
  obtain ⟨t,rfl⟩:=hv
  have I1:Inv X pins σ H { s with heap:=h',toks:=tk }:=I.turned (fun b o hb e=>kk b o (by simpa using hb) e) f0 f1 f3 f4 f5
  exact ⟨_,rfl,Jq7 (s:={ s with heap:=h',toks:=tk }) (n := "range_iterator") st' rfl rfl (by decide) ⟨.int (lo+(i:Nat)*c),H,I1,⟨t,rfl⟩,⟨rfl,rfl⟩,st',fun b hb=>(hf b hb).1⟩⟩
 done:=by
  intro X hP hw hK hc i pins s σ H E I hf st hg
  subst hP hw hK
  obtain ⟨f0,f1,f2,f3,f4,f5⟩:=hf it (by simp)
  exact wpAny_pyNext_range_end (I.ok.hd hc) st (by have:n≤i:=hg;lia) fun h' eb=>⟨rfl,I.turned (t':=s.toks) (fun b o hb e=>eb b o hb e) f0 f1 f3 f4 f5⟩
 self:=fun A i s Q E st h=>wpAny_pyIter_rangeiter st h
def RgC (i j c:Int) (n:Nat):Prop:=c≠0∧c.natAbs<1073741824∧Builtin.Range.small i j c=true∧Builtin.Range.rangeSize i j c=n
def iRng3 (ta:TA):TI:=fun σ H R=>ta σ H fun vs H1=>∃ (i j c:Int) (n:Nat),vs=[.int i,.int j,.int c]∧RgC i j c n∧R (Itc i c n) H1
section
variable {X:Cx}{tg:Expr}
theorem Xx5 {a b c:Expr}{ta:TA}{p pos:Pos} (hg:Gl X "range") (hm:X.mg "range" = none) (ha:PA X [a,b,c] ta)
  (hs:starEach [a,b,c] X.env=(false,eval a X.env) :: starEach [b,c] X.env:=by rfl) (hpl:(backTo pos (starEach [b,c] X.env)).any (·.1)=false:=by rfl) :
  PI X tg (.Call (.Name "range" p) [a,b,c] [] pos) (iRng3 ta):=by
 intro pins s σ H R I h
 refine Call_ (Xe4 I hg hm boot_range (PyProof.Rows.callWith_type1 (thn (ha pos pins s σ H _ I h) fun us s1 ⟨vs,H1,I1,r1,q1⟩=>?_) hs hpl))
 obtain ⟨i,j,k,n,e,⟨c0,c1,c2,c3⟩,q⟩:=q1
 subst e
 cases r1 with
 | cons r rr =>
  cases rr with
  | cons r' rr =>
   cases rr with
   | cons r'' rr =>
    cases rr
    obtain ⟨t,rfl⟩:=r
    obtain ⟨t',rfl⟩:=r'
    obtain ⟨t'',rfl⟩:=r''
    refine call_range_3 c0 ?_ (.inl (PyProof.noPylong_small c1))
    refine wpAny_pyIter_range (IsRange.new ..) c2 ?_
    have I2:Inv X pins σ H1 { s1 with heap:=s1.heap.push { cls:=.type "range",data:=.fields #[.int i t,.int j t',.int k t''] } }:=I1.kept (t':=s1.toks) fun b o e=>Heap.get?_push_of_some _ e
    refine pi_one (tk:=s1.toks) I2 _ (Uk3 _ i k n) ?_ q
    have e1:i+((0:Nat):Int)*k=i:=by simp
    have e2:(n:Int)-((0:Nat):Int)=Builtin.Range.rangeSize i j k:=by rw [c3];simp
    show IsRangeIter _ _ (i+((0:Nat):Int)*k) ((n:Int)-((0:Nat):Int)) k
    rw [e1,e2]
    exact Heap.get?_push_size _ rfl
end
theorem Jn4 {lo c:Int}{n:Nat}{g:TG}{tb:TS}{D:Zd6} {σ:St}{H:Hp} (Pv:Nat→St→Hp→Prop) (h0:Pv 0 σ H)
  (hs:∀ i σ H,i<n→Pv i σ H→g (.int (lo+(i:Nat)*c)) σ H fun σ2 H2=>tb { D with nx:=Pv (i+1),ct:=Pv (i+1),bk:=D.nx } σ2 H2) (hd:∀ σ H,Pv n σ H→D.nx σ H) :
  ∃ W:Nat→Nat→St→Hp→Prop,(∃ m,W 0 m σ H)∧∀ i m σ H,W i m σ H →
   ((Itc lo c n).stop i H∧D.nx σ H)∨((Itc lo c n).go i H∧∃ N:St→Hp→Prop,(∀ σ' H',N σ' H'→∃ m',m'<m∧W (i+1) m' σ' H')∧∀ x H',(Itc lo c n).yld i H x H'→g x σ H' fun σ2 H2=>tb { D with nx:=N,ct:=N,bk:=D.nx } σ2 H2):=by
 refine ⟨fun i m σ H=>m=n-i∧i≤n∧Pv i σ H,⟨n,by simp,Nat.zero_le _,h0⟩,?_⟩
 rintro i m σ H ⟨rfl,hi,p⟩
 by_cases hlt:i<n
 ·refine .inr ⟨hlt,Pv (i+1),fun σ' H' p'=>⟨n-(i+1),by lia,rfl,hlt,p'⟩,fun x H' y=>?_⟩
  obtain ⟨e,y⟩:=y
  subst e y
  exact hs i σ _ hlt p
 ·have e:i=n:=by lia
  subst e
  exact .inl ⟨Nat.le_refl _,hd σ H p⟩
end L2
section
namespace TL
open PySem PySem.Builtin PySem.Builtin.Str PySem.StrLaws
abbrev tl (x:Str):List Nat:=x.cps.toList
def pre (S l:List Nat):Bool:=l.take S.length == S
def par (S:List Nat):List Nat→List Nat→Option (List Nat×List Nat)
 | _,[]=>none
 | acc,c :: r=>if pre S (c :: r)=true then some (acc,(c :: r).drop S.length) else par S (acc++[c]) r
end TL
end
namespace L2
open PySem PySem.Spec PyProof.Rows
def Xa0 (s:Stmt) (j:Nat):Stmt:=match s with
 | .ClassDef _ _ _ body _ _ _ _ _ _ _=>body.getD j (.Pass ⟨0,0,0,0⟩)
 | _=>.Pass ⟨0,0,0,0⟩
def Uw0 (s:Stmt):Arguments:=match s with
 | .FunctionDef _ a _ _ _ _ _ _ _ _=>a
 | _=>{ posonlyargs:=[],args:=[],vararg:=none,kwonlyargs:=[],kw_defaults:=[],kwarg:=none,defaults:=[] }
def Vm0 (s:Stmt):List Stmt:=match s with
 | .FunctionDef _ _ b _ _ _ _ _ _ _=>b
 | _=>[]
def Zh0 (s:Stmt):Scope:=match s with
 | .FunctionDef _ _ _ _ _ _ sc _ _ _=>sc
 | _=>{ kind:=.function,names:=[],isGenerator:=false,isCoroutine:=false }
structure Fun (K:PySem.W.Frag) (x qual:Str) (st:Stmt) (f:Addr) (fd:FuncData):Prop where
 ex:∃ (oc:Value) (od:Option Addr) (kV doc pm:Value) (an:Option Addr) (cdv ct:Value) (osl:Array (Option Value)),
  fd=PySem.W.fnOf x qual (Uw0 st) (Vm0 st) (Zh0 st) .none kV doc pm an cdv ct∧K.lookup f=some ⟨oc,od,.func fd,osl⟩∧PySem.W.codeIn K cdv qual=true
 kp:PySem.W.keepIn K (.ref f)=true
section
variable {P:Program}{w:World}{K:PySem.W.Frag}{mg:Str→Option Value}{base:Heap}
theorem Fun.binds {x qual:Str}{st:Stmt}{f:Addr}{fd:FuncData}{ps:List Str} (F:Fun K x qual st f fd)
  (h:∀ (kV doc pm:Value) (an:Option Addr) (cdv ct:Value) (us:List Value),us.length=ps.length→bindArgs (PySem.W.fnOf x qual (Uw0 st) (Vm0 st) (Zh0 st) .none kV doc pm an cdv ct) ⟨us,[]⟩=pure (ps.zip us)):Ui0 K fd ps []:=by
 obtain ⟨oc,od,kV,doc,pm,an,cdv,ct,osl,rfl,lk,hcd⟩:=F.ex
 exact .all (h kV doc pm an cdv ct)
end
theorem Jp7 {A:Around}{k:Nat} (hr:Ua1 k A):A.units+1<cLine:=Nat.lt_of_le_of_lt (Nat.add_le_add_left (by decide:1≤64) _) hr.units
section
variable {X:Cx}
theorem pv (i:Nat) {x:Str}{pos:Pos} (hN:X.N[i]? = some x:=by rfl) (hv:Vis X.env.scope x:=by first | exact Or.inl rfl | exact Or.inr (Or.inl rfl) | exact Or.inr (Or.inr rfl)) (hd:(x == ("__debug__" : Str))=false:=by decide)
  (hcd:(x == ("__classdict__" : Str))=false:=by decide):PE X (.Name x pos) (tVar i):=Uu6 hN hv hd hcd
end
theorem Xb0 {c A B:Prop} [Decidable c] (h1:c→A) (h2:¬ c→B):if c then A else B:=by
 by_cases h:c
 ·rw [if_pos h]
  exact h1 h
 ·rw [if_neg h]
  exact h2 h
def Jf0 (H H':Hp):Prop:=∀ b o,H b=some o→H' b=some o
theorem Jf0.refl (H:Hp):Jf0 H H:=fun _ _ h=>h
theorem Jf0.trans {H H1 H2:Hp} (a:Jf0 H H1) (b:Jf0 H1 H2):Jf0 H H2:=fun c o h=>b c o (a c o h)
theorem Jf0.free {H H':Hp} (e:Jf0 H H') {l:Addr} (h:H' l=Option.none):H l=Option.none:=by
 cases q:H l with
 | none=>rfl
 | some o =>
  rw [e l o q] at h
  cases h
theorem Jf0.seq {K:PySem.W.Frag}{H H':Hp}{a:Addr}{xs:List V} (e:Jf0 H H') (h:SqL K H a xs):SqL K H' a xs:=by
 rcases h with (h | ⟨o,h⟩) | h
 ·exact .inl (.inl (e _ _ h))
 ·exact .inl (.inr ⟨o,e _ _ h⟩)
 ·exact .inr h
section
variable {κ:Type} [DecidableEq κ]
theorem Vw5:∀ {l:List κ}{k:κ},l.Nodup→¬ k∈l→(l++[k]).Nodup
 | [],k,_,_=>by simp
 | a :: r,k,h,hk=>by
  obtain ⟨h1,h2⟩:=List.nodup_cons.mp h
  show (a :: (r++[k])).Nodup
  refine List.nodup_cons.mpr ⟨fun m=>?_,Vw5 h2 fun m=>hk (List.mem_cons.mpr (Or.inr m))⟩
  rcases List.mem_append.mp m with q | q
  ·exact h1 q
  ·exact hk (List.mem_cons.mpr (Or.inl (List.mem_singleton.mp q).symm))
end
theorem at_of {xs:List V}{z:Int}{j:Nat}{v:V} (e:z=(j:Int)) (h:xs[j]? = some v):atI xs z=some v:=by
 rw [e]
 exact Xt2 h
end L2
section
namespace L2
open PySem PySem.Spec PyProof.Rows
open PySem.W (WData Codec OpenSpec Well WellAll ReadsW ReadsAllW)
mutual
inductive Dw (K:PySem.W.Frag) (H:Hp):V→WData→Prop
 | non:Dw K H .non .none
 | bl (b:Bool):Dw K H (.bl b) (.bool b)
 | int (i:Int):Dw K H (.int i) (.int i)
 | str (x:Str):Dw K H (.str x) (.str x)
 | byt (b:Array UInt8):Dw K H (.byt b) (.bytes b.toList)
 | lst {a:Addr}{xs:List V}{ds:List WData}:SqL K H a xs→DwAll K H xs ds→Dw K H (.ref a) (.list ds)
 | tup {a:Addr}{xs:List V}{ds:List WData}:SqT K H a xs→DwAll K H xs ds→Dw K H (.ref a) (.tuple ds)
inductive DwAll (K:PySem.W.Frag) (H:Hp):List V→List WData→Prop
 | nil:DwAll K H [] []
 | cons {v:V}{vs:List V}{d:WData}{ds:List WData}:Dw K H v d→DwAll K H vs ds→DwAll K H (v :: vs) (d :: ds)
end
theorem dw_ints {K:PySem.W.Frag}{H:Hp}:∀ ns:List Int,DwAll K H (ns.map V.int) (ns.map WData.int)
 | []=>.nil
 | n :: r=>.cons (.int n) (dw_ints r)
theorem ints_dw {K:PySem.W.Frag}{H:Hp}:∀ (ns:List Int) (xs:List V),DwAll K H xs (ns.map WData.int)→xs=ns.map V.int
 | [],xs,h=>by
  cases h
  rfl
 | n :: r,xs,h=>by
  cases h with
  | cons h1 h2 =>
   cases h1
   rw [ints_dw r _ h2] <;> rfl
section
variable {P:Program}{w:World}{K:PySem.W.Frag}{H:Hp}{h:Heap}{R:PySem.W.WRecords}{cl:Str→Option Addr}
theorem sqL_at {a:Addr}{xs:List V} (hok:HOk P w H h) (KX:K.In h) (q:SqL K H a xs):∃ (its:List Value) (o:Obj) (n:Nat),Xw0 xs its∧h.get? a=some o∧o.cls=.type "list" ∧ o.data=.seq its.toArray n:=by
 rcases q with q | ⟨o,its,n,e,hc,_,hd,_,hv⟩
 ·obtain ⟨_,its,n,hv,e⟩:=(show Js0 P w H h a (.lst xs) from q.ok hok)
  exact ⟨its,_,n,hv,e,rfl,rfl⟩
 ·exact ⟨its.toList,o,n,hv,KX _ _ e,hc,by simp [hd]⟩
theorem sqT_at {a:Addr}{xs:List V} (hok:HOk P w H h) (KX:K.In h) (q:SqT K H a xs):∃ (its:List Value) (o:Obj) (n:Nat),Xw0 xs its∧h.get? a=some o∧o.cls=.type "tuple" ∧ o.data=.seq its.toArray n:=by
 rcases q with q | ⟨o,its,n,e,hc,hd,_,hv⟩
 ·obtain ⟨_,its,hv,o,e,hc,n,hd⟩:=(show Js0 P w H h a (.tup xs) from q.ok hok)
  exact ⟨its,o,n,hv,e,hc,hd⟩
 ·exact ⟨its.toList,o,n,hv,KX _ _ e,hc,by simp [hd]⟩
mutual
theorem Dw.reads (hok:HOk P w H h) (KX:K.In h):∀ (d:WData) (v:V) (u:Value),Dw K H v d→Vp0 v u→∃ as,ReadsW R cl h u d as
 | .none,_,_,x,r=>by
  cases x
  cases r
  exact ⟨_,ReadsW.none⟩
 | .bool b,_,_,x,r=>by
  cases x
  cases r
  exact ⟨_,ReadsW.bool b⟩
 | .int i,_,_,x,r=>by
  cases x
  obtain ⟨t,rfl⟩:=r
  exact ⟨_,ReadsW.int i t⟩
 | .str s,_,_,x,r=>by
  cases x
  obtain ⟨t,rfl⟩:=r
  exact ⟨_,ReadsW.str s t⟩
 | .bytes b,_,_,x,r=>by
  cases x
  obtain ⟨t,rfl⟩:=r
  exact ⟨_,ReadsW.bytes _ t⟩
 | .list ds,_,_,x,r=>by
  cases x with
  | lst hs ha =>
   cases r
   obtain ⟨its,o,n,rv,ho,hc,hd⟩:=sqL_at hok KX hs
   obtain ⟨as,hr⟩:=Dw.readsAll hok KX ds _ its ha rv
   exact ⟨_,ReadsW.list ho hc hd hr⟩
 | .tuple ds,_,_,x,r=>by
  cases x with
  | tup hs ha =>
   cases r
   obtain ⟨its,o,n,rv,ho,hc,hd⟩:=sqT_at hok KX hs
   obtain ⟨as,hr⟩:=Dw.readsAll hok KX ds _ its ha rv
   exact ⟨_,ReadsW.tuple ho hc hd hr⟩
 | .float _,_,_,x,_=>by cases x
 | .dict _,_,_,x,_=>by cases x
 | .bytearray _,_,_,x,_=>by cases x
 | .set _,_,_,x,_=>by cases x
 | .frozenset _,_,_,x,_=>by cases x
 | .obj _ _,_,_,x,_=>by cases x
theorem Dw.readsAll (hok:HOk P w H h) (KX:K.In h):∀ (ds:List WData) (vs:List V) (us:List Value),DwAll K H vs ds→Xw0 vs us→∃ as,ReadsAllW R cl h us ds as
 | [],_,_,x,r=>by
  cases x
  cases r
  exact ⟨_,ReadsAllW.nil⟩
 | d :: ds,_,_,x,r=>by
  cases x with
  | cons h1 h2 =>
   cases r with
   | cons r1 r2 =>
    obtain ⟨as,q1⟩:=Dw.reads hok KX d _ _ h1 r1
    obtain ⟨bs,q2⟩:=Dw.readsAll hok KX ds _ _ h2 r2
    exact ⟨_,ReadsAllW.cons q1 q2⟩
end
end
mutual
def plW:WData→Bool
 | .none=>true
 | .bool _=>true
 | .int _=>true
 | .str _=>true
 | .bytes _=>true
 | .list xs=>plWs xs
 | .tuple xs=>plWs xs
 | _=>false
def plWs:List WData→Bool
 | []=>true
 | x :: r=>plW x && plWs r
end
theorem Yr4 {α:Type}{f:α→WData} (h:∀ a,plW (f a)=true):∀ l:List α,plWs (l.map f)=true
 | []=>rfl
 | x :: r=>by
  show (plW (f x) && plWs (r.map f))=true
  rw [h x,Yr4 h r] <;> rfl
theorem Jz1:∀ (c:Codec) (a:c.denote),plW (c.enc a)=true
 | .unit,_=>rfl
 | .bool,_=>rfl
 | .int _ _,_=>rfl
 | .nat _ _,_=>rfl
 | .u8,_=>rfl
 | .bytes _ _,_=>rfl
 | .text _ _ _ _,_=>rfl
 | .list _ _ c,a=>Yr4 (fun x=>Jz1 c x) a
 | .pair c d,a=>by
  show (plW (c.enc a.1) && (plW (d.enc a.2) && true))=true
  rw [Jz1 c a.1,Jz1 d a.2] <;> rfl
 | .triple c d e,a=>by
  show (plW (c.enc a.1) && (plW (d.enc a.2.1) && (plW (e.enc a.2.2) && true)))=true
  rw [Jz1 c a.1,Jz1 d a.2.1,Jz1 e a.2.2] <;> rfl
 | .option c,none=>rfl
 | .option c,some x=>Jz1 c x
theorem Xq3:∀ (cs:List Codec) (a:Codec.denoteAll cs),plWs (Codec.encAll cs a)=true
 | [],_=>rfl
 | c :: cs,a=>by
  show (plW (c.enc a.1) && plWs (Codec.encAll cs a.2))=true
  rw [Jz1 c a.1,Xq3 cs a.2] <;> rfl
theorem Uy1:∀ {xs:List WData}{d:WData},d∈xs→d.weight≤WData.weightAll xs
 | [],d,h=>absurd h (by simp)
 | x :: r,d,h=>by
  show d.weight≤x.weight+1+WData.weightAll r
  rcases List.mem_cons.mp h with e | m
  ·rw [e]
   lia
  ·have z:=Uy1 m
   lia
def toV:Value→V
 | .none=>.non
 | .bool b=>.bl b
 | .int i _=>.int i
 | .str x _=>.str x
 | .bytes b _=>.byt b
 | .ref a=>.ref a
 | _=>.non
def OkU (A:List Addr):Value→Prop
 | .none=>True
 | .bool _=>True
 | .int _ _=>True
 | .str _ _=>True
 | .bytes _ _=>True
 | .ref a=>a∈A
 | _=>False
theorem OkU.mono {A B:List Addr} (h:∀ a∈A,a∈B):∀ {u:Value},OkU A u→OkU B u:=fun {u} x=>by
 cases u with
 | ref a=>exact h a x
 | none=>trivial
 | bool b=>trivial
 | int i t=>trivial
 | str s t=>trivial
 | bytes b t=>trivial
 | _=>exact False.elim x
theorem Yi6 {A:List Addr}{u:Value} (x:OkU A u):Vp0 (toV u) u:=by
 cases u with
 | ref a=>rfl
 | none=>rfl
 | bool b=>rfl
 | int i t=>exact ⟨t,rfl⟩
 | str s t=>exact ⟨t,rfl⟩
 | bytes b t=>exact ⟨t,rfl⟩
 | _=>exact False.elim x
theorem Xn1 {A:List Addr}:∀ {vs:List Value},(∀ u∈vs,OkU A u)→Xw0 (vs.map toV) vs
 | [],_=>.nil
 | u :: r,h=>.cons (Yi6 (h u (List.mem_cons_self ..))) (Xn1 fun x hx=>h x (List.mem_cons_of_mem _ hx))
def Zm2 (h:Heap) (A:List Addr) (a:Addr):Prop:=∃ vs:List Value,vs.length≤sizeLine∧(∀ u∈vs,OkU A u) ∧
 (h.get? a=some { cls:=.type "list",data:=.seq vs.toArray }∨h.get? a=some { cls:=.type "tuple",data:=.seq vs.toArray })
theorem Zm2.mono {h:Heap}{A B:List Addr}{a:Addr} (k:∀ a∈A,a∈B) (x:Zm2 h A a):Zm2 h B a:=by
 obtain ⟨vs,h1,h2,h3⟩:=x
 exact ⟨vs,h1,fun u hu=>(h2 u hu).mono k,h3⟩
theorem Zy1 {P:Params}{h:Heap}:∀ {vs:List Value}{ds:List WData},WellAll P h vs ds→vs.length=ds.length
 | _,_,.nil=>rfl
 | _,_,.cons _ b=>by
  show _+1=_+1
  rw [Zy1 b]
theorem Yn3 {P:Params}{h:Heap}{v:Value}{ds:List WData} (x:Well P h v (.list ds)):∃ (a:Addr) (vs:List Value),v=.ref a∧h.get? a=some { cls:=.type "list",data:=.seq vs.toArray }∧WellAll P h vs ds:=by
 cases x with
 | list ho hall=>exact ⟨_,_,rfl,ho,hall⟩
theorem Uf2 {P:Params}{h:Heap}{v:Value}{ds:List WData} (x:Well P h v (.tuple ds)):∃ (a:Addr) (vs:List Value),v=.ref a∧h.get? a=some { cls:=.type "tuple",data:=.seq vs.toArray }∧WellAll P h vs ds:=by
 cases x with
 | tuple ho hall=>exact ⟨_,_,rfl,ho,hall⟩
theorem Yo3 {P:Params}{h:Heap}{us:List Value}{d:WData}{ds:List WData} (x:WellAll P h us (d :: ds)):∃ (v:Value) (vs:List Value),us=v :: vs∧Well P h v d∧WellAll P h vs ds:=by
 cases x with
 | cons a b=>exact ⟨_,_,rfl,a,b⟩
theorem Uh5 {n:Nat} (h:n≤1048576):n≤sizeLine:=Nat.le_trans h (by decide)
section
variable {P:Params}{h:Heap}
mutual
theorem Vj6:∀ (d:WData) (v:Value),Well P h v d→plW d=true→d.weight≤1048576→∃ A:List Addr,OkU A v∧∀ a∈A,Zm2 h A a
 | .none,_,x,_,_=>by
  cases x
  exact ⟨[],trivial,fun a m=>absurd m (by simp)⟩
 | .bool b,_,x,_,_=>by
  cases x
  exact ⟨[],trivial,fun a m=>absurd m (by simp)⟩
 | .int i,_,x,_,_=>by
  cases x
  exact ⟨[],trivial,fun a m=>absurd m (by simp)⟩
 | .str s,_,x,_,_=>by
  cases x
  exact ⟨[],trivial,fun a m=>absurd m (by simp)⟩
 | .bytes b,_,x,_,_=>by
  cases x
  exact ⟨[],trivial,fun a m=>absurd m (by simp)⟩
 | .list ds,_,x,p,z=>by
  obtain ⟨a,vs,rfl,ho,hall⟩:=Yn3 x
  have z2:WData.weightAll ds≤1048576:=z
  obtain ⟨A,h1,h2⟩:=area_all ds _ hall p fun d hd=>Nat.le_trans (Uy1 hd) z2
  have k:∀ b∈A,b∈a :: A:=fun b hb=>List.mem_cons_of_mem _ hb
  refine ⟨a :: A,List.mem_cons_self ..,fun b hb=>?_⟩
  rcases List.mem_cons.mp hb with e | m
  ·rw [e]
   exact ⟨vs,Uh5 (by rw [Zy1 hall];exact Nat.le_trans (PySem.W.length_le_weightAllW ds) z2),fun u hu=>(h1 u hu).mono k,.inl ho⟩
  ·exact (h2 b m).mono k
 | .tuple ds,_,x,p,z=>by
  obtain ⟨a,vs,rfl,ho,hall⟩:=Uf2 x
  have z2:WData.weightAll ds≤1048576:=z
  obtain ⟨A,h1,h2⟩:=area_all ds _ hall p fun d hd=>Nat.le_trans (Uy1 hd) z2
  have k:∀ b∈A,b∈a :: A:=fun b hb=>List.mem_cons_of_mem _ hb
  refine ⟨a :: A,List.mem_cons_self ..,fun b hb=>?_⟩
  rcases List.mem_cons.mp hb with e | m
  ·rw [e]
   exact ⟨vs,Uh5 (by rw [Zy1 hall];exact Nat.le_trans (PySem.W.length_le_weightAllW ds) z2),fun u hu=>(h1 u hu).mono k,.inr ho⟩
  ·exact (h2 b m).mono k
 | .float _,_,_,p,_=>Bool.noConfusion (show false=true from p)
 | .dict _,_,_,p,_=>Bool.noConfusion (show false=true from p)
 | .bytearray _,_,_,p,_=>Bool.noConfusion (show false=true from p)
 | .set _,_,_,p,_=>Bool.noConfusion (show false=true from p)
 | .frozenset _,_,_,p,_=>Bool.noConfusion (show false=true from p)
 | .obj _ _,_,_,p,_=>Bool.noConfusion (show false=true from p)
theorem area_all:∀ (ds:List WData) (vs:List Value),WellAll P h vs ds→plWs ds=true→(∀ d∈ds,d.weight≤1048576)→∃ A:List Addr,(∀ u∈vs,OkU A u)∧∀ a∈A,Zm2 h A a
 | [],_,x,_,_=>by
  cases x
  exact ⟨[],fun u m=>absurd m (by simp),fun a m=>absurd m (by simp)⟩
 | d :: ds,_,x,p,z=>by
  obtain ⟨v,vs,rfl,x1,x2⟩:=Yo3 x
  have q:plW d=true∧plWs ds=true:=Bool.and_eq_true_iff.mp p
  obtain ⟨A,a1,a2⟩:=Vj6 d v x1 q.1 (z d (List.mem_cons_self ..))
  obtain ⟨B,b1,b2⟩:=area_all ds vs x2 q.2 fun e he=>z e (List.mem_cons_of_mem _ he)
  have kA:∀ b∈A,b∈A++B:=fun b hb=>List.mem_append.mpr (.inl hb)
  have kB:∀ b∈B,b∈A++B:=fun b hb=>List.mem_append.mpr (.inr hb)
  refine ⟨A++B,fun u hu=>?_,fun b hb=>?_⟩
  ·rcases List.mem_cons.mp hu with e | m
   ·rw [e]
    exact a1.mono kA
   ·exact (b1 u m).mono kB
  ·rcases List.mem_append.mp hb with m | m
   ·exact (a2 b m).mono kA
   ·exact (b2 b m).mono kB
end
end
def hoOf (o:Obj):Option HO:=match o.data with
 | .seq vs _=>if (o.cls == Value.type "list")=true then some (.frz o (.lst (vs.toList.map toV))) else some (.frz o (.tup (vs.toList.map toV)))
 | _=>none
def Yh3 (K:PySem.W.Frag) (h:Heap) (A:List Addr):Hp:=fun b=>if b∈A then (if (K.lookup b).isNone=true then (h.get? b).bind hoOf else none) else none
def Vl6 (H:Hp):Prop:=∀ b,H b=none∨∃ o u,H b=some (.frz o u)
theorem Xi4 (vs:List Value):hoOf { cls:=.type "list",data:=.seq vs.toArray }=some (.frz { cls:=.type "list",data:=.seq vs.toArray } (.lst (vs.map toV))):=by
 show (if (Value.type "list" == Value.type "list")=true then some (HO.frz { cls:=.type "list",data:=.seq vs.toArray } (.lst (vs.toArray.toList.map toV))) else some (HO.frz { cls:=.type "list",data:=.seq vs.toArray } (.tup (vs.toArray.toList.map toV))))=_
 rw [if_pos (beq_self_eq_true _)]
theorem Xh4 (vs:List Value):hoOf { cls:=.type "tuple",data:=.seq vs.toArray }=some (.frz { cls:=.type "tuple",data:=.seq vs.toArray } (.tup (vs.map toV))):=by
 show (if (Value.type "tuple" == Value.type "list")=true then some (HO.frz { cls:=.type "tuple",data:=.seq vs.toArray } (.lst (vs.toArray.toList.map toV))) else some (HO.frz { cls:=.type "tuple",data:=.seq vs.toArray } (.tup (vs.toArray.toList.map toV))))=_
 rw [if_neg (by decide)]
section
variable {P:Program}{w:World}{K:PySem.W.Frag}{h:Heap}{A:List Addr}
theorem Yg3 {b:Addr}{o:Obj} (hb:b∈A) (hk:K.lookup b=none) (e:h.get? b=some o):Yh3 K h A b=hoOf o:=by
 unfold Yh3
 rw [if_pos hb,hk,if_pos (show (none:Option Obj).isNone=true from rfl),e] <;> rfl
theorem Uu7 {b:Addr}{u:HO} (q:Yh3 K h A b=some u):b∈A∧K.lookup b=none:=by
 unfold Yh3 at q
 by_cases hb:b∈A
 ·rw [if_pos hb] at q
  cases hk:K.lookup b with
  | none=>exact ⟨hb,rfl⟩
  | some o =>
   rw [hk,if_neg (by simp)] at q
   cases q
 ·rw [if_neg hb] at q
  cases q
theorem Yf3 (ar:∀ a∈A,Zm2 h A a) {b:Addr}{u:HO} (q:Yh3 K h A b=some u):K.lookup b=none∧∃ vs:List Value,vs.length≤sizeLine∧(∀ u∈vs,OkU A u) ∧
    ((h.get? b=some { cls:=.type "list",data:=.seq vs.toArray }∧u=.frz { cls:=.type "list",data:=.seq vs.toArray } (.lst (vs.map toV))) ∨
     (h.get? b=some { cls:=.type "tuple",data:=.seq vs.toArray }∧u=.frz { cls:=.type "tuple",data:=.seq vs.toArray } (.tup (vs.map toV)))):=by
  obtain ⟨hb,hk⟩:=Uu7 q
  obtain ⟨vs,h1,h2,h3⟩:=ar b hb
  refine ⟨hk,vs,h1,h2,?_⟩
  rcases h3 with e | e
  · rw [Yg3 hb hk e,Xi4] at q
    exact .inl ⟨e,(Option.some.inj q).symm⟩
  · rw [Yg3 hb hk e,Xh4] at q
    exact .inr ⟨e,(Option.some.inj q).symm⟩
theorem Jo5 (ar:∀ a∈A,Zm2 h A a):Vl6 (Yh3 K h A):=fun b=>by
 cases q:Yh3 K h A b with
 | none=>exact .inl rfl
 | some u =>
  obtain ⟨_,vs,_,_,⟨_,e⟩ | ⟨_,e⟩⟩:=Yf3 ar q
  ·exact .inr ⟨_,_,by rw [e]⟩
  ·exact .inr ⟨_,_,by rw [e]⟩
theorem Ze8 (ar:∀ a∈A,Zm2 h A a):HOk P w (Yh3 K h A) h:=fun b u q=>by
 obtain ⟨_,vs,h1,h2,⟨e,rfl⟩ | ⟨e,rfl⟩⟩:=Yf3 ar q
 ·exact ⟨e,by rw [List.length_map];exact h1,vs,_,Xn1 h2,e⟩
 ·exact ⟨e,by rw [List.length_map];exact h1,vs,Xn1 h2,_,e,rfl,_,rfl⟩
theorem Jv2 {c c':Value}{vs us:List Value} (e:(some { cls:=c,data:=.seq vs.toArray }:Option Obj)=some { cls:=c',data:=.seq us.toArray }):c=c'∧vs=us:=by
 have e1:=Option.some.inj e
 have e2:c=c':=congrArg Obj.cls e1
 have e3:Data.seq vs.toArray=Data.seq us.toArray:=congrArg Obj.data e1
 injection e3 with e4
 refine ⟨e2,?_⟩
 have e5:=congrArg Array.toList e4
 simpa using e5
theorem argL (KX:K.In h) (ar:∀ a∈A,Zm2 h A a) {a:Addr}{vs:List Value} (ha:a∈A) (e:h.get? a=some { cls:=.type "list",data:=.seq vs.toArray }):(∀ u∈vs,OkU A u)∧SqL K (Yh3 K h A) a (vs.map toV):=by
 obtain ⟨us,h1,h2,h3⟩:=ar a ha
 have hu:us=vs:=by
  rcases h3 with q | q
  ·rw [e] at q
   exact (Jv2 q).2.symm
  ·rw [e] at q
   exact absurd (Value.type.inj (Jv2 q).1) (by decide)
 subst hu
 refine ⟨h2,?_⟩
 cases hk:K.lookup a with
 | none=>exact .inl (.inr ⟨_,by rw [Yg3 ha hk e,Xi4]⟩)
 | some o =>
  have e2:=KX a o hk
  rw [e] at e2
  obtain rfl:=Option.some.inj e2
  exact .inr ⟨_,us.toArray,_,hk,rfl,rfl,rfl,by rw [List.size_toArray];exact h1,by simpa using Xn1 h2⟩
theorem argT (KX:K.In h) (ar:∀ a∈A,Zm2 h A a) {a:Addr}{vs:List Value} (ha:a∈A) (e:h.get? a=some { cls:=.type "tuple",data:=.seq vs.toArray }):(∀ u∈vs,OkU A u)∧SqT K (Yh3 K h A) a (vs.map toV):=by
 obtain ⟨us,h1,h2,h3⟩:=ar a ha
 have hu:us=vs:=by
  rcases h3 with q | q
  ·rw [e] at q
   exact absurd (Value.type.inj (Jv2 q).1) (by decide)
  ·rw [e] at q
   exact (Jv2 q).2.symm
 subst hu
 refine ⟨h2,?_⟩
 cases hk:K.lookup a with
 | none=>exact .inl (.inr ⟨_,by rw [Yg3 ha hk e,Xh4]⟩)
 | some o =>
  have e2:=KX a o hk
  rw [e] at e2
  obtain rfl:=Option.some.inj e2
  exact .inr ⟨_,us.toArray,_,hk,rfl,rfl,by rw [List.size_toArray];exact h1,by simpa using Xn1 h2⟩
mutual
theorem dw_one {Pm:Params} (KX:K.In h) (ar:∀ a∈A,Zm2 h A a):∀ (d:WData) (v:Value),Well Pm h v d→plW d=true→OkU A v→Dw K (Yh3 K h A) (toV v) d
 | .none,_,x,_,_=>by
  cases x
  exact .non
 | .bool b,_,x,_,_=>by
  cases x
  exact .bl b
 | .int i,_,x,_,_=>by
  cases x
  exact .int i
 | .str s,_,x,_,_=>by
  cases x
  exact .str s
 | .bytes b,_,x,_,_=>by
  cases x
  have z:=Dw.byt (K:=K) (H:=Yh3 K h A) b.toArray
  exact z
 | .list ds,_,x,p,hu=>by
  obtain ⟨a,vs,rfl,ho,hall⟩:=Yn3 x
  obtain ⟨h2,hs⟩:=argL KX ar hu ho
  exact .lst hs (dw_all KX ar ds _ hall p h2)
 | .tuple ds,_,x,p,hu=>by
  obtain ⟨a,vs,rfl,ho,hall⟩:=Uf2 x
  obtain ⟨h2,hs⟩:=argT KX ar hu ho
  exact .tup hs (dw_all KX ar ds _ hall p h2)
 | .float _,_,_,p,_=>Bool.noConfusion (show false=true from p)
 | .dict _,_,_,p,_=>Bool.noConfusion (show false=true from p)
 | .bytearray _,_,_,p,_=>Bool.noConfusion (show false=true from p)
 | .set _,_,_,p,_=>Bool.noConfusion (show false=true from p)
 | .frozenset _,_,_,p,_=>Bool.noConfusion (show false=true from p)
 | .obj _ _,_,_,p,_=>Bool.noConfusion (show false=true from p)
theorem dw_all {Pm:Params} (KX:K.In h) (ar:∀ a∈A,Zm2 h A a):∀ (ds:List WData) (vs:List Value),WellAll Pm h vs ds→plWs ds=true→(∀ u∈vs,OkU A u)→DwAll K (Yh3 K h A) (vs.map toV) ds
 | [],_,x,_,_=>by
  cases x
  exact .nil
 | d :: ds,_,x,p,hu=>by
  obtain ⟨v,vs,rfl,x1,x2⟩:=Yo3 x
  have q:plW d=true∧plWs ds=true:=Bool.and_eq_true_iff.mp p
  exact .cons (dw_one KX ar d v x1 q.1 (hu _ (List.mem_cons_self ..))) (dw_all KX ar ds vs x2 q.2 fun u m=>hu u (List.mem_cons_of_mem _ m))
end
end
theorem Yi5 {P:Program}{w:World}{K:PySem.W.Frag}{mg mb:Str→Option Value}{CX:CXT}{k:Nat}{fa:Addr}{fd:FuncData}{ps:List Str}{sp:Sp}{s₁:Shared}{vals:List Value}{ds:List WData}{R:PySem.W.WRecords}{cl:Str→Option Addr}{d0:WData}
  (KX:K.In s₁.heap) (hns:s₁.heap.Ns mainGlobals mg) (hb:s₁.heap.Ns builtinsNs mb) (hbb:∀ x:Str,x ≠ "__name__" → mb x=bootBuiltins x) (hlim:s₁.heap.NoLimit) (hg:s₁.gens = #[])
  (hwl:WellAll w.params s₁.heap vals ds) (hpl:plWs ds=true) (hwt:∀ d∈ds,d.weight≤1048576) (hr:Ua1 k callerA)
  (F:∀ base:Heap,K.In base→base.Ns mainGlobals mg→Vu0 P w K mg base CX k fa fd ps sp) (hbind:∀ (s:Shared) (us:List Value),us.length=ps.length→BindsTo s fd ⟨us,[]⟩ (ps.zip us)) (hlen:ds.length=ps.length)
  (hsp:∀ (H:Hp) (xs:List V),Vl6 H→DwAll K H xs ds→sp xs H (fun v H'=>Dw K H' v d0) fun _ _ _=>False)
  (hCX:∀ H e s',CX [] H s₁ (fun _ _ _=>False) e s'→False) :
  codeAny (model P w) callerA (.call (.ref fa) ⟨vals,[]⟩) (fun r s'=>∃ u as,r=.ok (.ret u)∧ReadsW R cl s'.heap u d0 as∧OldK s₁.heap s'.heap∧s'.os=s₁.os∧AllBare s'.gens) s₁:=by
 obtain ⟨A,ho,ar⟩:=area_all ds vals hwl hpl hwt
 have hO:Vl6 (Yh3 K s₁.heap A):=Jo5 ar
 have hok:HOk P w (Yh3 K s₁.heap A) s₁.heap:=Ze8 ar
 have hS:=dw_all KX ar ds vals hwl hpl ho
 have hV:=Xn1 ho
 have hK:∀ b u,Yh3 K s₁.heap A b=some u→K.lookup b=none:=fun b u q=>(Yf3 ar q).1
 have noA:∀ {b:Addr}{o:Obj}{es:Array DictEntry}{ep:Nat},s₁.heap.get? b=some o→o.data=.dict es ep→Yh3 K s₁.heap A b=none:=fun {b o es ep} e d=>by
  cases q:Yh3 K s₁.heap A b with
  | none=>rfl
  | some u =>
   obtain ⟨_,vs,_,_,⟨e2,_⟩ | ⟨e2,_⟩⟩:=Yf3 ar q
   ·rw [e2] at e
    cases e
    have d':Data.seq vs.toArray _=Data.dict es ep:=d
    cases d'
   ·rw [e2] at e
    cases e
    have d':Data.seq vs.toArray _=Data.dict es ep:=d
    cases d'
 generalize Yh3 K s₁.heap A=H at hO hok hS hK noA
 have base_of:∀ {b:Addr}{o:Obj},s₁.heap.get? b=some o→H b=none→(Xu6 s₁.heap H).get? b=some o:=fun e n=>Xt6 e n
 have nsK:∀ {b:Addr}{m:Str→Option Value},s₁.heap.Ns b m→(Xu6 s₁.heap H).Ns b m:=fun {b m} ⟨o,es,ep,e,d,r⟩=>⟨o,es,ep,base_of e (noA e d),d,r⟩
 have nK:∀ b o,K.lookup b=some o→H b=none:=fun b o e=>by
  cases q:H b with
  | none=>rfl
  | some u =>
   rw [hK b u q] at e
   cases e
 have hKb:K.In (Xu6 s₁.heap H):=fun b o e=>base_of (KX b o e) (nK b o e)
 have hM:Mod K mg (Xu6 s₁.heap H):=⟨hKb,nsK hns,⟨mb,nsK hb,hbb⟩,let ⟨mc,h1,h2⟩:=hlim;⟨mc,nsK h1,h2⟩⟩
 have e0:Zm8 P w K mg (Xu6 s₁.heap H) callerA [] s₁ H:=⟨rfl,hM,fun b o e=>Ut7 e,Nat.le_of_eq (Us5 _ _),trivial,fun b hb=>absurd (show b∈([]:List Addr) from hb) (by simp),hok,.of_eq hg⟩
 have hl:vals.length=ps.length:=by rw [Zy1 hwl];exact hlen
 refine codeAny_mono ((F _ hKb (nsK hns)).run callerA [] s₁ H ⟨vals,[]⟩ vals (vals.map toV) _ _ hr e0 (hbind s₁ vals hl) hV (hsp H _ hO hS)) fun r s' x=>?_
 cases r with
 | error e=>exact (hCX H e s' x).elim
 | ok fl =>
  cases fl with
  | next=>exact False.elim x
  | brk=>exact False.elim x
  | cont=>exact False.elim x
  | ret u =>
   obtain ⟨v,H',os,bare,un,hok',r',q⟩:=x
   have kept:∀ b o,s₁.heap.get? b=some o→s'.heap.get? b=some o:=fun b o e=>by
    cases q2:H b with
    | none=>exact un.keep b o e q2 (by intro z;exact absurd (show b∈([]:List Addr) from z) (by simp)) (by simp)
    | some u2 =>
     rcases hO b with z | ⟨ob,u3,z⟩
     ·rw [q2] at z
      cases z
     ·have z2:=un.frzs b ob _ z
      obtain ⟨e1,_⟩:=hok b _ z
      obtain ⟨e2,_⟩:=hok' b _ z2
      rw [e] at e1
      cases e1
      exact e2
   have KX':K.In s'.heap:=fun b o e=>kept b o (KX b o e)
   obtain ⟨as,hrd⟩:=Dw.reads (R:=R) (cl:=cl) hok' KX' d0 v u q r'
   exact ⟨u,as,rfl,hrd,OldK.of_keep kept,os,bare⟩
theorem Vy2 {ds:List WData} (h:WData.layableAll ds=true):∀ d∈ds,d.weight≤1048576:=fun d hd =>
 (PySem.W.layableW_iff.mp (List.all_eq_true.mp h d hd)).2.2
theorem Jc2:∀ (cs:List Codec) (a:Codec.denoteAll cs),(Codec.encAll cs a).length=cs.length
 | [],_=>rfl
 | c :: cs,a=>by
  show (Codec.encAll cs a.2).length+1=cs.length+1
  rw [Jc2 cs a.2]
theorem walk_spec {r:OpenSpec}{k:Nat}{q:Program}{loose:List Str}{XP:(Str→Option Value)→Heap→Prop}{YP:World→Heap→Prop}{d:DefRec}{K:Params→PySem.W.Frag}{CX:World→CXT}{ps:List Str}{sp:World→Sp}
  (hwell:r.wellSaid=true) (hdf:d.params.defaults=[]) (hlen:r.args.length=ps.length) (hr:Ua1 k callerA)
  (hY:∀ (w:World) (h:Heap),YP w h→(K w.params).In h)
  (F:∀ (w:World) (mg:Str→Option Value) (fa:Addr) (h:Heap),YP w h→(K w.params).In h→h.Ns mainGlobals mg→mg d.name=some (.ref fa) →
   ∃ fd:FuncData,(∀ (s:Shared) (us:List Value),us.length=ps.length→BindsTo s fd ⟨us,[]⟩ (ps.zip us)) ∧
    ∀ base:Heap,(K w.params).In base→base.Ns mainGlobals mg→Vu0 r.prog w (K w.params) mg base (CX w) k fa fd ps (sp w))
  (hsp:∀ (w:World) (H:Hp) (xs:List V) (a:Codec.denoteAll r.args),Vl6 H→Codec.withinAll r.args a=true→Codec.app r.args r.asked a=true→DwAll (K w.params) H xs (Codec.encAll r.args a) →
   sp w xs H (fun v H'=>Dw (K w.params) H' v (r.ret.enc (Codec.app r.args r.f a))) fun _ _ _=>False)
  (hCX:∀ (w:World) (H:Hp) (s:Shared) (e:Value) (s':Shared),CX w [] H s (fun _ _ _=>False) e s'→False) :
  PySem.W.WalkOS q loose XP YP r d [] (fun f vs=>PySem.call f vs):=by
 intro w s_0 s₁ mg mb G Y fa o pm cd doc dV kV ho hd hcd hD hmg hg args vals as hpre hlay hrd hwl hlo
 obtain ⟨a,e1,e2⟩:=PySem.W.os_pre_some hpre
 obtain ⟨e3,hwi⟩:=Codec.encAll_of_decAll r.args args a e1
 subst e3
 have KX:=hY w _ Y
 obtain ⟨fd,hb,hF⟩:=F w mg fa _ Y KX G.T.g hmg
 refine PySem.W.enter_call (codeAny_mono (Yi5 (R:=[]) (cl:=classAt s_0.heap) (d0:=r.ret.enc (Codec.app r.args r.f a)) KX G.T.g G.T.b G.T.builtins G.T.nolimit hg hwl (Xq3 _ _) (Vy2 hlay) hr hF hb (by rw [Jc2];exact hlen)
  (fun H xs hO hS=>hsp w H xs a hO hwi e2 hS) fun H e s'=>hCX w H s₁ e s') fun r' s' hq=>?_)
 obtain ⟨u,as',rfl,h1,h2,h3,h4⟩:=hq
 exact ⟨.inl ⟨u,_,as',rfl,fun _=>rfl,h1,(OpenSpec.post_iff hwell hwi _ _).mpr rfl,fun z=>Bool.noConfusion (show false=true from z)⟩,h2,h3,h4⟩
end L2
end
namespace Wr
open Kg22
theorem Yy1 {n d n' d':Nat} (hd:0<d) (hd':0<d') (h:n*d'=n'*d):n/d=n'/d':=by
 have h1:n/d=(n*d')/(d*d'):=(Nat.mul_div_mul_right n d hd').symm
 have h2:n'/d'=(n'*d)/(d'*d):=(Nat.mul_div_mul_right n' d' hd).symm
 rw [h1,h2,h,Nat.mul_comm d d']
theorem Xo3 {n d n' d':Nat} (hd:0<d) (hd':0<d') (h:n*d'=n'*d):(n%d)*d'=(n'%d')*d:=by
 have h1:=Yy1 hd hd' h
 have e1:=Nat.div_add_mod n d
 have e2:=Nat.div_add_mod n' d'
 have a1:n*d'=(d*(n/d))*d'+(n%d)*d':=by rw [← Nat.add_mul,e1]
 have a2:n'*d=(d'*(n'/d'))*d+(n'%d')*d:=by rw [← Nat.add_mul,e2]
 have a3:(d*(n/d))*d'=(d'*(n'/d'))*d:=by rw [h1,Nat.mul_right_comm,Nat.mul_comm d d',Nat.mul_right_comm]
 lia
theorem Vx0 {n d n' d':Nat} (hd:0<d) (hd':0<d') (h:n*d'=n'*d):(n%d=0)↔(n'%d'=0):=by
 have e:=Xo3 hd hd' h
 constructor
 ·intro z;rw [z,Nat.zero_mul] at e
  rcases Nat.mul_eq_zero.mp e.symm with q | q
  ·exact q
  ·lia
 ·intro z;rw [z,Nat.zero_mul] at e
  rcases Nat.mul_eq_zero.mp e with q | q
  ·exact q
  ·lia
theorem Uu0 {mode:Nat}{s:Bool}{n d n' d':Nat} (hd:0<d) (hd':0<d') (h:n*d'=n'*d):whole mode s n d=whole mode s n' d':=by
 have e:=Xo3 hd hd' h
 have z:=Vx0 hd hd' h
 have q:=Yy1 hd hd' h
 have l1:2*(n%d)<d↔2*(n'%d')<d':=by
  constructor
  ·intro g
   have:=Nat.mul_lt_mul_of_pos_right g hd'
   rw [Nat.mul_assoc,e,← Nat.mul_assoc,Nat.mul_comm d d'] at this
   exact Nat.lt_of_mul_lt_mul_right this
  ·intro g
   have:=Nat.mul_lt_mul_of_pos_right g hd
   rw [Nat.mul_assoc,← e,← Nat.mul_assoc,Nat.mul_comm d' d] at this
   exact Nat.lt_of_mul_lt_mul_right this
 have l2:d<2*(n%d)↔d'<2*(n'%d'):=by
  constructor
  ·intro g
   have:=Nat.mul_lt_mul_of_pos_right g hd'
   rw [Nat.mul_assoc,e,← Nat.mul_assoc,Nat.mul_comm d d'] at this
   exact Nat.lt_of_mul_lt_mul_right this
  ·intro g
   have:=Nat.mul_lt_mul_of_pos_right g hd
   rw [Nat.mul_assoc,← e,← Nat.mul_assoc,Nat.mul_comm d' d] at this
   exact Nat.lt_of_mul_lt_mul_right this
 unfold whole
 simp only [z,q,l1,l2]
def rnd (p inf mode:Nat) (s:Bool) (n d:Nat):Nat×Nat :=
 let q:=n/d
 let e:=if q<2^p then 0 else Nat.log2 q-(p-1)
 let m:=whole mode s n (d*2^e)
 let exact:=decide (n%(d*2^e)=0)
 let r:=e*2^(p-1)+m
 if inf≤r then ((if mode=0∨(mode=2∧s=false)∨(mode=3∧s=true) then inf else inf-1),9)
 else (r,(if exact=true then 0 else 1)+if exact=false∧n<2^(p-1)*d then 4 else 0)
theorem Jy0 (mode:Nat) (s:Bool) (n d:Nat):rounded mode s n d=(withSign s (rnd 53 INF mode s n d).1,(rnd 53 INF mode s n d).2):=by
 unfold rounded rnd
 simp only [show (53:Nat)-1=52 from rfl]
 generalize (if n/d<2^53 then 0 else Nat.log2 (n/d)-52)=e
 generalize e*2^52+whole mode s n (d*2^e)=r
 by_cases h:INF≤r
 ·rw [if_pos h,if_pos h]
 ·rw [if_neg h,if_neg h]
theorem Xn3 {p inf mode:Nat}{s:Bool}{n d n' d':Nat} (hd:0<d) (hd':0<d') (h:n*d'=n'*d):rnd p inf mode s n d=rnd p inf mode s n' d':=by
 have q:=Yy1 hd hd' h
 have pw:∀ e:Nat,0<2^e:=fun e=>Nat.two_pow_pos e
 have h2:∀ e,n*(d'*2^e)=n'*(d*2^e):=fun e=>by rw [← Nat.mul_assoc,h,Nat.mul_assoc]
 have wh:∀ e,whole mode s n (d*2^e)=whole mode s n' (d'*2^e):=fun e=>Uu0 (Nat.mul_pos hd (pw e)) (Nat.mul_pos hd' (pw e)) (h2 e)
 have ex:∀ e,(n%(d*2^e)=0)↔(n'%(d'*2^e)=0):=fun e=>Vx0 (Nat.mul_pos hd (pw e)) (Nat.mul_pos hd' (pw e)) (h2 e)
 have lt:(n<2^(p-1)*d)↔(n'<2^(p-1)*d'):=by
  rw [← Nat.div_lt_iff_lt_mul hd,← Nat.div_lt_iff_lt_mul hd',q]
 unfold rnd
 simp only [q,wh,ex,lt]
def Yo0 (n:Nat):Nat:=if n=0 then 0 else Nat.log2 n+1
theorem Jp1 (n:Nat):n<2^Yo0 n:=by
 unfold Yo0
 split
 ·lia
 ·rename_i h;exact Nat.lt_log2_self
theorem Zt4 {n:Nat} (h:n≠0):2^(Yo0 n-1)≤n:=by
 unfold Yo0
 rw [if_neg h]
 exact Nat.log2_self_le h
theorem Ye3 {n:Nat} (h:n≠0):0<Yo0 n:=by unfold Yo0;rw [if_neg h];lia
theorem Xr2 {n k:Nat} (h1:2^k≤n) (h2:n<2^(k+1)):Yo0 n=k+1:=by
 have h0:n≠0:=by have:=Nat.two_pow_pos k;lia
 unfold Yo0
 rw [if_neg h0]
 have:Nat.log2 n=k:=by
  apply Nat.le_antisymm
  ·have:=(Nat.log2_lt h0).mpr h2;lia
  ·exact (Nat.le_log2 h0).mpr h1
 lia
theorem Zr0 {n k:Nat}:n<2^k↔Yo0 n≤k:=by
 constructor
 ·intro h
  by_cases h0:n=0
  ·subst h0;unfold Yo0;simp
  ·unfold Yo0;rw [if_neg h0]
   have:=(Nat.log2_lt h0).mpr h;lia
 ·intro h
  exact Nat.lt_of_lt_of_le (Jp1 n) (Nat.pow_le_pow_right (by decide) h)
open Kg22
theorem Yz0 {n:Nat} (h:n≠0) (k:Nat):Yo0 (n*2^k)=Yo0 n+k:=by
 have h1:=Zt4 h
 have h2:=Jp1 n
 have h3:=Ye3 h
 have e:Yo0 n+k=(Yo0 n-1+k)+1:=by lia
 rw [e]
 apply Xr2
 ·rw [Nat.pow_add];exact Nat.mul_le_mul_right _ h1
 ·rw [← e,Nat.pow_add];exact Nat.mul_lt_mul_of_pos_right h2 (Nat.two_pow_pos k)
theorem Ug0 (n k:Nat):Yo0 (n/2^k)=Yo0 n-k:=by
 by_cases h:n=0
 ·subst h;simp [Yo0]
 by_cases hk:Yo0 n≤k
 ·have:n/2^k=0:=Nat.div_eq_of_lt (Zr0.mpr hk)
  rw [this]
  have b0:Yo0 0=0:=rfl
  lia
 ·have h1:=Zt4 h
  have h2:=Jp1 n
  have e:Yo0 n-k=(Yo0 n-1-k)+1:=by lia
  rw [e]
  apply Xr2
  ·rw [Nat.le_div_iff_mul_le (Nat.two_pow_pos k),← Nat.pow_add]
   rw [show Yo0 n-1-k+k=Yo0 n-1 by lia];exact h1
  ·rw [Nat.div_lt_iff_lt_mul (Nat.two_pow_pos k),← Nat.pow_add,← e,show Yo0 n-k+k=Yo0 n by lia];exact h2
theorem Xe1 {q:Nat} (h:q≠0):Nat.log2 q=Yo0 q-1:=by unfold Yo0;rw [if_neg h];lia
theorem Zb5 (mode:Nat) (s:Bool) (n:Nat):whole mode s n 1=n:=by
 unfold whole;simp [Nat.mod_one]
def Yq0 (mode:Nat) (s:Bool) (mant:Nat) (count:Int):Nat :=
 if count≤0 then mant*2^(-count).toNat else whole mode s mant (2^count.toNat)
def Jd0 (mant:Nat) (count:Int):Bool:=decide (count≤0) || decide (mant%2^count.toNat=0)
def Yo2 (inf mode:Nat) (s:Bool):Nat:=if mode=0∨(mode=2∧s=false)∨(mode=3∧s=true) then inf else inf-1
def Yr0 (p L mant:Nat) (ex:Int):Int:=max ((Yo0 mant:Int)-(p:Int)) (-(L:Int)-ex)
def Yx0 (p L inf mode:Nat) (s:Bool) (mant:Nat) (ex:Int):Nat×Nat :=
 if mant=0 then (0,0)
 else if inf≤Yq0 mode s mant (Yr0 p L mant ex)+(ex+Yr0 p L mant ex+(L:Int)).toNat*2^(p-1) then (Yo2 inf mode s,9)
 else (Yq0 mode s mant (Yr0 p L mant ex)+(ex+Yr0 p L mant ex+(L:Int)).toNat*2^(p-1),
  if Jd0 mant (Yr0 p L mant ex)=true then 0 else if (Yo0 mant:Int)+ex<(p:Int)-(L:Int) then 5 else 1)
theorem Ya2 {mode:Nat}{s:Bool}{mant A B e:Nat}{c:Int} (h:(A:Int)+e=B+c):whole mode s (mant*2^B) (2^A*2^e)=Yq0 mode s mant c:=by
 unfold Yq0
 rw [← Nat.pow_add]
 by_cases hc:c≤0
 ·rw [if_pos hc,← Zb5 mode s (mant*2^(-c).toNat)]
  apply Uu0 (Nat.two_pow_pos _) (by decide)
  rw [Nat.mul_one,Nat.mul_assoc,← Nat.pow_add]
  congr 2;lia
 ·rw [if_neg hc]
  apply Uu0 (Nat.two_pow_pos _) (Nat.two_pow_pos _)
  rw [Nat.mul_assoc,← Nat.pow_add]
  congr 2;lia
theorem Yb2 {mant A B e:Nat}{c:Int} (h:(A:Int)+e=B+c):decide ((mant*2^B)%(2^A*2^e)=0)=Jd0 mant c:=by
 unfold Jd0
 rw [← Nat.pow_add]
 by_cases hc:c≤0
 ·rw [decide_eq_true hc,Bool.true_or]
  apply decide_eq_true
  have:B=(-c).toNat+(A+e):=by lia
  rw [this,Nat.pow_add,← Nat.mul_assoc]
  exact Nat.mul_mod_left _ _
 ·rw [decide_eq_false hc,Bool.false_or]
  have:(mant*2^B)%2^(A+e)=0↔mant%2^c.toNat=0:=by
   apply Vx0 (Nat.two_pow_pos _) (Nat.two_pow_pos _)
   rw [Nat.mul_assoc,← Nat.pow_add]
   congr 2;lia
  simp only [this]
theorem Uj1 {p L inf mode:Nat}{s:Bool}{mant n d A B:Nat}{ex:Int} (hp:0<p) (hinf:0<inf) (hd:0<d) (hsh:(B:Int)-A=ex+L) (h:n*2^A=mant*2^B*d) :
  rnd p inf mode s n d=Yx0 p L inf mode s mant ex:=by
 rw [Xn3 (n':=mant*2^B) (d':=2^A) hd (Nat.two_pow_pos A) h]
 by_cases hm:mant=0
 ·subst hm
  have e1:(0:Nat)*2^B=0:=Nat.zero_mul _
  unfold Yx0
  rw [if_pos rfl,e1]
  have w0:∀ d,whole mode s 0 d=0:=fun d=>by unfold whole;simp
  unfold rnd
  simp only [Nat.zero_div,Nat.zero_mod,w0,decide_true,if_true,Bool.true_eq_false,false_and,if_false,Nat.two_pow_pos,Nat.zero_mul,Nat.add_zero]
  rw [if_neg (by lia)]
 ·have hq:Yo0 (mant*2^B/2^A)=Yo0 mant+B-A:=by rw [Ug0,Yz0 hm]
  have he:(if mant*2^B/2^A<2^p then 0 else Nat.log2 (mant*2^B/2^A)-(p-1))=(ex+Yr0 p L mant ex+(L:Int)).toNat:=by
   unfold Yr0
   by_cases hl:mant*2^B/2^A<2^p
   ·rw [if_pos hl]
    have:=Zr0.mp hl
    rw [hq] at this
    lia
   ·rw [if_neg hl]
    have h0:mant*2^B/2^A≠0:=by intro z;rw [z] at hl;exact hl (Nat.two_pow_pos p)
    rw [Xe1 h0,hq]
    have:¬ (Yo0 mant+B-A≤p):=fun z=>hl (Zr0.mpr (by rw [hq];exact z))
    lia
  have hc:(A:Int)+((ex+Yr0 p L mant ex+(L:Int)).toNat:Nat)=B+Yr0 p L mant ex:=by
   unfold Yr0
   lia
  have hu:(mant*2^B<2^(p-1)*2^A)↔((Yo0 mant:Int)+ex<(p:Int)-(L:Int)):=by
   rw [← Nat.pow_add,Zr0,Yz0 hm]
   lia
  unfold rnd Yx0
  rw [if_neg hm]
  simp only [he,Ya2 hc,Yb2 hc,hu]
  generalize Yq0 mode s mant (Yr0 p L mant ex)=k
  generalize (ex+Yr0 p L mant ex+(L:Int)).toNat*2^(p-1)=z
  rw [Nat.add_comm z k]
  unfold Yo2
  by_cases hi:inf≤k+z
  ·rw [if_pos hi,if_pos hi]
  ·rw [if_neg hi,if_neg hi]
   congr 1
   cases Jd0 mant (Yr0 p L mant ex) with
   | true=>simp
   | false =>
    by_cases hx:(Yo0 mant:Int)+ex<(p:Int)-(L:Int)
    ·simp [hx]
    ·simp [hx]
theorem Yx3 {mode:Nat}{s:Bool}{N D c:Nat} (hD:0<D) (hc:1≤c) :
  whole mode s N (D*2^c)=whole mode s (2*(N/D)+if N%D=0 then 0 else 1) (2^(c+1)) ∧
  (N%(D*2^c)=0↔(2*(N/D)+if N%D=0 then 0 else 1)%2^(c+1)=0):=by
 generalize hQ:N/D=Q
 generalize hR:N%D=R
 have hN:N=D*Q+R:=by rw [← hQ,← hR];exact (Nat.div_add_mod N D).symm
 have hRD:R<D:=by rw [← hR];exact Nat.mod_lt _ hD
 generalize hst:(if R=0 then 0 else 1:Nat)=st
 have hst1:st≤1:=by rw [← hst];split <;> lia
 have hP:2^c=2*2^(c-1):=by rw [← Nat.pow_succ'];congr 1;lia
 have hP1:2^(c+1)=2*2^c:=Nat.pow_succ'
 generalize hP2:2^(c-1)=h at hP
 generalize hPc:2^c=P at *
 have hPpos:0<P:=by rw [← hPc];exact Nat.two_pow_pos c
 generalize hk:Q/P=k
 generalize ht:Q%P=t
 have hQ2:Q=P*k+t:=by rw [← hk,← ht];exact (Nat.div_add_mod Q P).symm
 have htP:t<P:=by rw [← ht];exact Nat.mod_lt _ hPpos
 have d1:N/(D*P)=k:=by rw [← Nat.div_div_eq_div_mul,hQ,hk]
 have m1:N%(D*P)=D*t+R:=by rw [Nat.mod_mul,hR,hQ,ht];lia
 have d2:(2*Q+st)/2^(c+1)=k:=by
  rw [hP1,← Nat.div_div_eq_div_mul]
  have:(2*Q+st)/2=Q:=by lia
  rw [this,hk]
 have m2:(2*Q+st)%2^(c+1)=2*t+st:=by
  rw [hP1,Nat.mod_mul]
  have a:(2*Q+st)/2=Q:=by lia
  have b:(2*Q+st)%2=st:=by lia
  rw [a,b,ht];lia
 have z0:(D*t+R=0)↔(2*t+st=0):=by
  constructor
  ·intro z
   have r0:R=0:=by lia
   have t0:t=0:=by
    have:D*t=0:=by lia
    rcases Nat.mul_eq_zero.mp this with q | q <;> lia
   rw [← hst,if_pos r0];lia
  ·intro z
   have t0:t=0:=by lia
   have s0:st=0:=by lia
   have r0:R=0:=by
    by_cases r0:R=0
    ·exact r0
    ·rw [← hst,if_neg r0] at s0;lia
   rw [t0,r0];simp
 have lt1:(2*(D*t+R)<D*P)↔(2*(2*t+st)<2^(c+1)):=by
  rw [hP1,hP]
  by_cases q:t<h
  ·have:D*(t+1)≤D*h:=Nat.mul_le_mul_left D q
   rw [Nat.mul_add,Nat.mul_one] at this
   rw [Nat.mul_left_comm D 2 h]
   constructor
   ·intro _;lia
   ·intro _;lia
  ·have:D*h≤D*t:=Nat.mul_le_mul_left D (by lia)
   rw [Nat.mul_left_comm D 2 h]
   constructor
   ·intro _;lia
   ·intro _;lia
 have lt2:(D*P<2*(D*t+R))↔(2^(c+1)<2*(2*t+st)):=by
  rw [hP1,hP,Nat.mul_left_comm D 2 h]
  by_cases q:t<h
  ·have:D*(t+1)≤D*h:=Nat.mul_le_mul_left D q
   rw [Nat.mul_add,Nat.mul_one] at this
   constructor
   ·intro _;lia
   ·intro _;lia
  ·by_cases q2:t=h
   ·subst q2
    constructor
    ·intro g
     have:R≠0:=by lia
     rw [← hst,if_neg this];lia
    ·intro g
     have:R≠0:=by
      intro r0;rw [← hst,if_pos r0] at g;lia
     lia
   ·have:D*(h+1)≤D*t:=Nat.mul_le_mul_left D (by lia)
    rw [Nat.mul_add,Nat.mul_one] at this
    constructor
    ·intro _;lia
    ·intro _;lia
 refine ⟨?_,?_⟩
 ·unfold whole
  simp only [d1,m1,d2,m2,z0,lt1,lt2]
 ·rw [m1,m2,z0]
open Kg22
theorem Uc3 {N D A B:Nat} (hD:0<D) (h0:N/D≠0):Yo0 (N*2^B/(D*2^A))=Yo0 (N/D)+B-A:=by
 by_cases hAB:A≤B
 ·have e:N*2^B/(D*2^A)=N*2^(B-A)/D:=by
   apply Yy1 (Nat.mul_pos hD (Nat.two_pow_pos _)) hD
   have:2^B=2^(B-A)*2^A:=by rw [← Nat.pow_add];congr 1;lia
   rw [this,← Nat.mul_assoc,Nat.mul_assoc (N*2^(B-A)),Nat.mul_comm (2^A) D]
  rw [e]
  have h1:=Zt4 h0
  have h2:=Jp1 (N/D)
  have h3:=Ye3 h0
  have e2:Yo0 (N/D)+B-A=(Yo0 (N/D)-1+(B-A))+1:=by lia
  rw [e2]
  apply Xr2
  ·rw [Nat.le_div_iff_mul_le hD,Nat.pow_add]
   have:2^(Yo0 (N/D)-1)*D≤N:=Nat.le_trans (Nat.mul_le_mul_right D h1) (Nat.div_mul_le_self N D)
   calc 2^(Yo0 (N/D)-1)*2^(B-A)*D=2^(Yo0 (N/D)-1)*D*2^(B-A):=Nat.mul_right_comm _ _ _
    _≤N*2^(B-A):=Nat.mul_le_mul_right _ this
  ·rw [Nat.div_lt_iff_lt_mul hD]
   have hlt:N<2^Yo0 (N/D)*D:=by rw [← Nat.div_lt_iff_lt_mul hD];exact h2
   have e3:Yo0 (N/D)-1+(B-A)+1=Yo0 (N/D)+(B-A):=by lia
   rw [e3,Nat.pow_add]
   calc N*2^(B-A)<2^Yo0 (N/D)*D*2^(B-A):=Nat.mul_lt_mul_of_pos_right hlt (Nat.two_pow_pos _)
    _=2^Yo0 (N/D)*2^(B-A)*D:=Nat.mul_right_comm _ _ _
 ·have e:N*2^B/(D*2^A)=N/D/2^(A-B):=by
   rw [Nat.div_div_eq_div_mul]
   apply Yy1 (Nat.mul_pos hD (Nat.two_pow_pos _)) (Nat.mul_pos hD (Nat.two_pow_pos _))
   have:2^A=2^(A-B)*2^B:=by rw [← Nat.pow_add];congr 1;lia
   rw [this]
   simp only [Nat.mul_assoc,Nat.mul_comm,Nat.mul_left_comm]
  rw [e,Ug0]
  lia
theorem Uu2 {p L inf mode:Nat}{s:Bool}{N D n d A B:Nat}{ex:Int} (hp:0<p) (hinf:0<inf) (hd:0<d) (hD:0<D) (hQ:p+1≤Yo0 (N/D)) (hsh:(B:Int)-A=ex+1+L) (h:n*(D*2^A)=N*2^B*d) :
  rnd p inf mode s n d=Yx0 p L inf mode s (2*(N/D)+if N%D=0 then 0 else 1) ex:=by
 have hst:(2*(N/D)+if N%D=0 then 0 else 1)/2=N/D:=by split <;> lia
 generalize hy:(2*(N/D)+if N%D=0 then 0 else 1)=y at *
 have h0:N/D≠0:=by intro z;rw [z] at hQ;have b0:Yo0 0=0:=rfl;lia
 have h02:y/2≠0:=by rw [hst];exact h0
 rw [← Uj1 (n:=y*2^B) (d:=2*2^A) (A:=A+1) (B:=B) hp hinf (Nat.mul_pos (by decide) (Nat.two_pow_pos _)) (by lia) (by rw [Nat.pow_succ];simp only [Nat.mul_comm])]
 rw [Xn3 (n':=N*2^B) (d':=D*2^A) hd (Nat.mul_pos hD (Nat.two_pow_pos _)) h]
 have b1:=Uc3 (A:=A) (B:=B) hD h0
 have b2:=Uc3 (A:=A) (B:=B) (N:=y) (D:=2) (by decide) h02
 rw [hst] at b2
 have hlt:∀ k,(N*2^B/(D*2^A)<2^k)↔(y*2^B/(2*2^A)<2^k):=fun k=>by rw [Zr0,Zr0,b1,b2]
 have hlg:¬ (N*2^B/(D*2^A)<2^p)→Nat.log2 (N*2^B/(D*2^A))=Nat.log2 (y*2^B/(2*2^A)):=fun z=>by
  have n1:N*2^B/(D*2^A)≠0:=fun q=>z (by rw [q];exact Nat.two_pow_pos p)
  have n2:y*2^B/(2*2^A)≠0:=fun q=>z ((hlt p).mpr (by rw [q];exact Nat.two_pow_pos p))
  rw [Xe1 n1,Xe1 n2,b1,b2]
 have he:(if N*2^B/(D*2^A)<2^p then 0 else Nat.log2 (N*2^B/(D*2^A))-(p-1))=(if y*2^B/(2*2^A)<2^p then 0 else Nat.log2 (y*2^B/(2*2^A))-(p-1)):=by
  by_cases z:N*2^B/(D*2^A)<2^p
  ·rw [if_pos z,if_pos ((hlt p).mp z)]
  ·rw [if_neg z,if_neg (fun q=>z ((hlt p).mpr q)),hlg z]
 generalize hE:(if y*2^B/(2*2^A)<2^p then 0 else Nat.log2 (y*2^B/(2*2^A))-(p-1))=e at he
 have hc:∃ c:Nat,A+e=B+c∧1≤c:=by
  refine ⟨A+e-B,?_⟩
  by_cases z:N*2^B/(D*2^A)<2^p
  ·rw [if_pos z] at he
   have:=Zr0.mp z
   lia
  ·rw [if_neg z] at he
   have n1:N*2^B/(D*2^A)≠0:=fun q=>z (by rw [q];exact Nat.two_pow_pos p)
   rw [Xe1 n1,b1] at he
   have:¬ Yo0 (N/D)+B-A≤p:=fun q=>z (Zr0.mpr (by rw [b1];exact q))
   lia
 obtain ⟨c,hc1,hc2⟩:=hc
 obtain ⟨w1,x1⟩:=Yx3 (mode:=mode) (s:=s) (N:=N) (D:=D) hD hc2
 rw [hy] at w1 x1
 have r1:N*2^B*(D*2^c)=N*(D*2^A*2^e):=by
  have:2^A*2^e=2^B*2^c:=by rw [← Nat.pow_add,← Nat.pow_add,hc1]
  rw [Nat.mul_assoc D,this]
  simp only [Nat.mul_assoc,Nat.mul_comm,Nat.mul_left_comm]
 have r2:y*2^B*2^(c+1)=y*(2*2^A*2^e):=by
  have:2^A*2^e=2^B*2^c:=by rw [← Nat.pow_add,← Nat.pow_add,hc1]
  rw [Nat.mul_assoc 2,this,Nat.pow_succ]
  simp only [Nat.mul_assoc,Nat.mul_comm,Nat.mul_left_comm]
 have pz:∀ k,0<2^k:=fun k=>Nat.two_pow_pos k
 have W:whole mode s (N*2^B) (D*2^A*2^e)=whole mode s (y*2^B) (2*2^A*2^e):=by
  rw [Uu0 (n':=N) (d':=D*2^c) (Nat.mul_pos (Nat.mul_pos hD (pz A)) (pz e)) (Nat.mul_pos hD (pz c)) r1,w1]
  exact (Uu0 (Nat.mul_pos (Nat.mul_pos (by decide) (pz A)) (pz e)) (pz (c+1)) r2).symm
 have X:(N*2^B%(D*2^A*2^e)=0)↔(y*2^B%(2*2^A*2^e)=0):=by
  rw [Vx0 (n':=N) (d':=D*2^c) (Nat.mul_pos (Nat.mul_pos hD (pz A)) (pz e)) (Nat.mul_pos hD (pz c)) r1,x1]
  exact (Vx0 (Nat.mul_pos (Nat.mul_pos (by decide) (pz A)) (pz e)) (pz (c+1)) r2).symm
 have U:(N*2^B<2^(p-1)*(D*2^A))↔(y*2^B<2^(p-1)*(2*2^A)):=by
  rw [← Nat.div_lt_iff_lt_mul (Nat.mul_pos hD (pz A)),← Nat.div_lt_iff_lt_mul (Nat.mul_pos (by decide) (pz A))]
  exact hlt (p-1)
 unfold rnd
 simp only [he,hE,W,X,U]
open Kg22
def mant (b:Nat):Nat:=if rest b<2^52 then rest b else 2^52+rest b%2^52
def Vz0 (b:Nat):Nat:=max (rest b/2^52) 1-1
def Xu0 (b:Nat):Int:=(Vz0 b:Int)-1074
theorem Xf7 (b:Nat):rest b<2^63:=by unfold rest SIGN;exact Nat.mod_lt _ (by decide)
theorem Xr0 (b:Nat):units b=mant b*2^Vz0 b:=by
 unfold units mant Vz0
 dsimp only
 by_cases h:rest b<2^52
 ·rw [if_pos h,if_pos h]
  have:rest b/2^52=0:=Nat.div_eq_of_lt h
  rw [this];simp
 ·rw [if_neg h,if_neg h]
  have:1≤rest b/2^52:=(Nat.le_div_iff_mul_le (by decide)).mpr (by lia)
  rw [Nat.max_eq_left this]
theorem Vj0 (b:Nat):mant b<2^53:=by
 unfold mant
 have:rest b%2^52<2^52:=Nat.mod_lt _ (by decide)
 split <;> lia
theorem Vi0 {b:Nat}:mant b=0↔rest b=0:=by
 unfold mant
 split <;> lia
theorem Ja1 {b:Nat}:units b=0↔rest b=0:=by
 rw [Xr0,← Vi0]
 constructor
 ·intro h
  rcases Nat.mul_eq_zero.mp h with q | q
  ·exact q
  ·have:=Nat.two_pow_pos (Vz0 b);lia
 ·intro h;rw [h,Nat.zero_mul]
def Ym3 (b:Nat):Prop:=rest b<INF
theorem Ya3 {b:Nat} (h:Ym3 b):Vz0 b≤2045:=by
 unfold Ym3 INF at h
 unfold Vz0
 have:rest b/2^52<2047:=(Nat.div_lt_iff_lt_mul (by decide)).mpr (by lia)
 lia
theorem Xl2 (b:Nat):Vz0 b≤2047:=by
 have:=Xf7 b
 unfold Vz0
 have:rest b/2^52<2048:=(Nat.div_lt_iff_lt_mul (by decide)).mpr (by lia)
 lia
theorem Xu2:0<INF:=by unfold INF;decide
def Xk0 (mode:Nat) (s:Bool) (m:Nat) (ex:Int):Out:=(withSign s (Yx0 53 1074 INF mode s m ex).1,(Yx0 53 1074 INF mode s m ex).2)
theorem Xg2 {mode:Nat}{s:Bool}{m n d A B:Nat}{ex:Int} (hd:0<d) (hsh:(B:Int)-A=ex+1074) (h:n*2^A=m*2^B*d):rounded mode s n d=Xk0 mode s m ex:=by
 rw [Jy0,Uj1 (L:=1074) (A:=A) (B:=B) (mant:=m) (ex:=ex) (by decide) Xu2 hd hsh h]
 rfl
theorem mul_eq (mode:Nat) (s:Bool) (a b:Nat):rounded mode s (units a*units b) ONE=Xk0 mode s (mant a*mant b) (Xu0 a+Xu0 b):=by
 refine Xg2 (A:=1074) (B:=Vz0 a+Vz0 b) (by unfold ONE;exact Nat.two_pow_pos _) (by unfold Xu0;lia) ?_
 rw [Xr0,Xr0,ONE,Nat.pow_add]
 simp only [Nat.mul_assoc,Nat.mul_comm,Nat.mul_left_comm]
theorem Us1 (mode:Nat) (s:Bool) (ex:Int):Xk0 mode s 0 ex=(withSign s 0,0):=by
 unfold Xk0 Yx0;simp
theorem div_eq (mode:Nat) (s:Bool) {a b:Nat} (ha:rest a≠0) (hb:rest b≠0) :
  rounded mode s (units a*ONE) (units b)=Xk0 mode s (2*(mant a*2^128/mant b)+if mant a*2^128%mant b=0 then 0 else 1) (Xu0 a-Xu0 b-129):=by
 have hma:0<mant a:=Nat.pos_of_ne_zero (fun z=>ha (Vi0.mp z))
 have hmb:0<mant b:=Nat.pos_of_ne_zero (fun z=>hb (Vi0.mp z))
 have hlb:=Vj0 b
 rw [Jy0,Uu2 (L:=1074) (N:=mant a*2^128) (D:=mant b) (A:=128+Vz0 b) (B:=Vz0 a+1074) (ex:=Xu0 a-Xu0 b-129) (by decide) Xu2 ?_ hmb ?_ ?_ ?_]
 ·rfl
 ·exact Nat.pos_of_ne_zero (fun z=>hb (Ja1.mp z))
 ·have:2^75≤mant a*2^128/mant b:=by
   rw [Nat.le_div_iff_mul_le hmb]
   calc 2^75*mant b≤2^75*2^53:=Nat.mul_le_mul_left _ (by lia)
    _=2^128:=by rw [← Nat.pow_add]
    _≤mant a*2^128:=Nat.le_mul_of_pos_left _ hma
  have h2:¬ Yo0 (mant a*2^128/mant b)≤53:=fun z=>by
   have:=Zr0.mpr z
   have l:(2:Nat)^53≤2^75:=Nat.pow_le_pow_right (by decide) (by decide)
   lia
  lia
 ·unfold Xu0;lia
 ·rw [Xr0,Xr0,ONE,Nat.pow_add,Nat.pow_add]
  simp only [Nat.mul_assoc,Nat.mul_comm,Nat.mul_left_comm]
def Yd0 (b e:Nat):Nat:=mant b*2^(Vz0 b-e)
theorem Vg0 {b e:Nat} (h:e≤Vz0 b):units b=Yd0 b e*2^e:=by
 rw [Xr0,Yd0,Nat.mul_assoc,← Nat.pow_add];congr 2;lia
def Yk0 (b e:Nat):Int:=if neg b=true then -(Yd0 b e:Int) else (Yd0 b e:Int)
theorem Jq1 {b e:Nat} (h:e≤Vz0 b):value b=Yk0 b e*(2^e:Nat):=by
 unfold value Yk0
 rw [Vg0 h]
 split
 ·rw [Int.natCast_mul,Int.neg_mul]
 ·rw [Int.natCast_mul]
theorem sum_eq (mode:Nat) (zero:Bool) {a b e:Nat} (ha:e≤Vz0 a) (hb:e≤Vz0 b) :
  ofInt mode zero (value a+value b)=if Yk0 a e+Yk0 b e=0 then (withSign zero 0,0)
   else Xk0 mode (decide (Yk0 a e+Yk0 b e<0)) (Yk0 a e+Yk0 b e).natAbs ((e:Int)-1074):=by
 rw [Jq1 ha,Jq1 hb,← Int.add_mul]
 generalize Yk0 a e+Yk0 b e=t
 have hp:(0:Int)<((2^e:Nat):Int):=by have:=Nat.two_pow_pos e;lia
 unfold ofInt
 by_cases ht:t=0
 ·subst ht;rw [Int.zero_mul,if_pos rfl,if_pos rfl]
 ·have hz:t*((2^e:Nat):Int)≠0:=Int.mul_ne_zero ht (by lia)
  rw [if_neg hz,if_neg ht]
  have hs:(t*((2^e:Nat):Int)<0)↔t<0:=by
   constructor
   ·intro q
    by_cases q2:t<0
    ·exact q2
    ·have:=Int.mul_nonneg (show 0≤t by lia) (Int.le_of_lt hp);lia
   ·intro q;exact Int.mul_neg_of_neg_of_pos q hp
  simp only [hs]
  refine Xg2 (A:=0) (B:=e) (by decide) (by lia) ?_
  rw [Int.natAbs_mul,Int.natAbs_natCast]
open Kg22
theorem Vk1 {mode:Nat}{s:Bool}{n d:Nat} (h:n%d=0):whole mode s n d=n/d:=by
 unfold whole;simp [h]
theorem Uw1 {a b:Nat} (h:a≤b):Yo0 a≤Yo0 b:=by
 rw [← Zr0];exact Nat.lt_of_le_of_lt h (Jp1 b)
theorem Jn3 {p L inf mode:Nat}{s:Bool}{k j:Nat}{ex:Int} (hp:0<p) (hk:Yo0 k≤p) (hj:-(L:Int)≤ex+j)
  (hinf:∀ e:Nat,(e:Int)≤max ((Yo0 k:Int)+j+ex+L-p) 0→2^p+e*2^(p-1)≤inf) :
  Yx0 p L inf mode s (k*2^j) ex=Yx0 p L inf 0 false (k*2^j) ex∧(Yx0 p L inf mode s (k*2^j) ex).2=0:=by
 by_cases h0:k=0
 ·subst h0;rw [Nat.zero_mul];unfold Yx0;simp
 ·have hb:Yo0 (k*2^j)=Yo0 k+j:=Yz0 h0 j
  have hm:k*2^j≠0:=Nat.mul_ne_zero h0 (Nat.ne_of_gt (Nat.two_pow_pos j))
  have hc:Yr0 p L (k*2^j) ex≤j:=by unfold Yr0;rw [hb];lia
  have hc2:(Yo0 k:Int)+j-p≤Yr0 p L (k*2^j) ex:=by unfold Yr0;rw [hb];lia
  have he:((ex+Yr0 p L (k*2^j) ex+(L:Int)).toNat:Int)≤max ((Yo0 k:Int)+j+ex+L-p) 0:=by unfold Yr0;rw [hb];lia
  unfold Yx0
  generalize Yr0 p L (k*2^j) ex=c at *
  have hX:Jd0 (k*2^j) c=true:=by
   unfold Jd0
   by_cases z:c≤0
   ·rw [decide_eq_true z];rfl
   ·have:j=(j-c.toNat)+c.toNat:=by lia
    rw [this,Nat.pow_add,← Nat.mul_assoc,decide_eq_true (Nat.mul_mod_left _ _),Bool.or_true]
  have hS:∀ md t,Yq0 md t (k*2^j) c=k*2^((j:Int)-c).toNat:=fun md t=>by
   unfold Yq0
   by_cases z:c≤0
   ·rw [if_pos z,Nat.mul_assoc,← Nat.pow_add];congr 2;lia
   ·rw [if_neg z]
    have e:k*2^j=k*2^((j:Int)-c).toNat*2^c.toNat:=by rw [Nat.mul_assoc,← Nat.pow_add];congr 2;lia
    rw [e,Vk1 (Nat.mul_mod_left _ _),Nat.mul_div_cancel _ (Nat.two_pow_pos _)]
  have hlt:k*2^((j:Int)-c).toNat<2^p:=by
   rw [Zr0,Yz0 h0];lia
  rw [if_neg hm,if_neg hm,hS mode s,hS 0 false]
  have hI:=hinf _ he
  have hno:¬ inf≤k*2^((j:Int)-c).toNat+(ex+c+(L:Int)).toNat*2^(p-1):=by lia
  rw [if_neg hno,if_neg hno,hX]
  simp
theorem Xv2:INF=2047*2^52:=by unfold INF;decide
theorem Xw1 {mode:Nat}{s:Bool}{k j:Nat}{ex:Int} (hk:Yo0 k≤53) (hj:-1074≤ex+j) (hb:(Yo0 k:Int)+j+ex≤1024) :
  Yx0 53 1074 INF mode s (k*2^j) ex=Yx0 53 1074 INF 0 false (k*2^j) ex∧(Yx0 53 1074 INF mode s (k*2^j) ex).2=0:=by
 refine Jn3 (by decide) hk (by lia) fun e he=>?_
 rw [Xv2]
 have:e≤2045:=by lia
 have e2:(2:Nat)^53=2*2^52:=by decide
 rw [show (53:Nat)-1=52 from rfl,e2,← Nat.add_mul]
 exact Nat.mul_le_mul_right _ (by lia)
theorem rem_eq (mode:Nat) {a b e:Nat} (ha:e≤Vz0 a) (hb:e≤Vz0 b) (hab:e=Vz0 a∨e=Vz0 b) (h0:rest b≠0) (fb:Ym3 b) :
    (let q:=whole 0 false (units a) (units b)
     let z:Int:=(units a:Int)-(q*units b:Nat)
     let z:=if neg a=true then -z else z
     ofInt 0 (neg a) z) =
    (let D:=Yd0 b e
     let r:=Yd0 a e%D
     let up:=decide (2*r > D) || (decide (2*r=D) && decide (Yd0 a e/D%2=1))
     Xk0 mode (if up then !neg a else neg a) (if up then D-r else r) ((e:Int)-1074)):=by
  have hD:0<Yd0 b e:=by
    unfold Yd0
    exact Nat.mul_pos (Nat.pos_of_ne_zero (fun z=>h0 (Vi0.mp z))) (Nat.two_pow_pos _)
  have hq:whole 0 false (units a) (units b)=whole 0 false (Yd0 a e) (Yd0 b e):=by
    apply Uu0 (Nat.pos_of_ne_zero (fun z=>h0 (Ja1.mp z))) hD
    rw [Vg0 ha,Vg0 hb]
    simp only [Nat.mul_assoc,Nat.mul_comm,Nat.mul_left_comm]
  have hla:=Vj0 a
  have hlb:=Vj0 b
  have heb:=Ya3 fb
  have small:∀ r,r≤Yd0 a e→r<Yd0 b e→(e=Vz0 b∨r≤mant a)→Yo0 r≤53:=fun r h1 h2 h3=>by
    rw [← Zr0]
    rcases h3 with q | q
    · rw [Yd0,q,Nat.sub_self,Nat.pow_zero,Nat.mul_one] at h2;lia
    · lia
  dsimp only
  rw [hq,Vg0 ha,Vg0 hb]
  have hsa:Vz0 a=e→Yd0 a e=mant a:=fun q=>by unfold Yd0;rw [q,Nat.sub_self,Nat.pow_zero,Nat.mul_one]
  have hsb:Vz0 b=e→Yd0 b e=mant b:=fun q=>by unfold Yd0;rw [q,Nat.sub_self,Nat.pow_zero,Nat.mul_one]
  generalize hx:Yd0 a e=x at *
  generalize hy:Yd0 b e=D at *
  generalize hr:x%D=r
  generalize hk:x/D=k
  have hxe:x=D*k+r:=by rw [← hr,← hk];exact (Nat.div_add_mod x D).symm
  have hrD:r<D:=by rw [← hr];exact Nat.mod_lt _ hD
  have hrx:r≤x:=by rw [← hr];exact Nat.mod_le _ _
  have hpz:(0:Int)<((2^e:Nat):Int):=by have:=Nat.two_pow_pos e;lia
  have bit:∀ v,(e=Vz0 b∨v≤mant a)→v≤D→Yo0 v≤53:=fun v h1 h2=>by
    rw [← Zr0]
    rcases h1 with q | q
    · have:=hsb q.symm;lia
    · lia
  have fin:∀ (s:Bool) (v:Nat),v≠0→Yo0 v≤53→rounded 0 s (v*2^e) 1=Xk0 mode s v ((e:Int)-1074):=fun s v v0 hb53=>by
    rw [Xg2 (A:=0) (B:=e) (m:=v) (ex:=(e:Int)-1074) (by decide) (by lia) (by simp)]
    have q1:=Xw1 (mode:=0) (s:=s) (k:=v) (j:=0) (ex:=(e:Int)-1074) hb53 (by lia) (by lia)
    have q2:=Xw1 (mode:=mode) (s:=s) (k:=v) (j:=0) (ex:=(e:Int)-1074) hb53 (by lia) (by lia)
    rw [Nat.pow_zero,Nat.mul_one] at q1 q2
    unfold Xk0
    rw [q1.1,q2.1]
  have ofI:∀ (zs:Bool) (s:Bool) (v:Nat),v≠0→Yo0 v≤53→ofInt 0 zs ((if s=true then -(v:Int) else (v:Int))*((2^e:Nat):Int))=Xk0 mode s v ((e:Int)-1074):=fun zs s v v0 hb53=>by
    unfold ofInt
    have hv:(0:Int)<(v:Int):=by lia
    have hvp:(0:Int)<(v:Int)*((2^e:Nat):Int):=Int.mul_pos hv hpz
    cases s with
    | true =>
      rw [if_pos rfl,Int.neg_mul,if_neg (by lia),decide_eq_true (by lia),Int.natAbs_neg,Int.natAbs_mul,Int.natAbs_natCast,Int.natAbs_natCast]
      exact fin true v v0 hb53
    | false =>
      rw [if_neg (show ¬ (false=true) by decide),if_neg (by lia),decide_eq_false (by lia),Int.natAbs_mul,Int.natAbs_natCast,Int.natAbs_natCast]
      exact fin false v v0 hb53
  have down:∀ K:Nat,K=k→ofInt 0 (neg a) (if neg a=true then -(((x*2^e:Nat):Int)-((K*(D*2^e):Nat):Int)) else ((x*2^e:Nat):Int)-((K*(D*2^e):Nat):Int))=Xk0 mode (neg a) r ((e:Int)-1074):=fun K hK=>by
    have hz:((x*2^e:Nat):Int)-((K*(D*2^e):Nat):Int)=(r:Int)*((2^e:Nat):Int):=by
      have:x*2^e=K*(D*2^e)+r*2^e:=by rw [hxe,hK,Nat.add_mul,Nat.mul_comm D k,Nat.mul_assoc]
      rw [this,Int.natCast_add,Int.natCast_mul r];lia
    rw [hz]
    by_cases r0:r=0
    · subst r0
      rw [Us1]
      unfold ofInt
      simp
    · have:=ofI (neg a) (neg a) r r0 (by
        apply bit r _ (Nat.le_of_lt hrD)
        rcases hab with q | q
        · right;rw [hsa q.symm] at hrx;exact hrx
        · left;exact q)
      rw [← this]
      congr 1
      split
      · rw [Int.neg_mul]
      · rfl
  have up:∀ K:Nat,K=k+1→D≤2*r→ofInt 0 (neg a) (if neg a=true then -(((x*2^e:Nat):Int)-((K*(D*2^e):Nat):Int)) else ((x*2^e:Nat):Int)-((K*(D*2^e):Nat):Int))=Xk0 mode (!neg a) (D-r) ((e:Int)-1074):=fun K hK h2r=>by
    have hz:((x*2^e:Nat):Int)-((K*(D*2^e):Nat):Int) = -(((D-r:Nat):Int)*((2^e:Nat):Int)):=by
      have:K*(D*2^e)=x*2^e+(D-r)*2^e:=by
        rw [← Nat.add_mul,← Nat.mul_assoc];congr 1
        rw [hK,hxe,Nat.add_mul,Nat.mul_comm D k];lia
      rw [this,Int.natCast_add,Int.natCast_mul (D-r)];lia
    rw [hz]
    have:=ofI (neg a) (!neg a) (D-r) (by lia) (by
      apply bit (D-r) _ (by lia)
      rcases hab with q | q
      · right;rw [hsa q.symm] at hrx;lia
      · left;exact q)
    rw [← this]
    congr 1
    cases neg a with
    | true=>simp
    | false=>simp [Int.neg_mul]
  have hw:whole 0 false x D=if (decide (2*r > D) || (decide (2*r=D) && decide (k%2=1)))=true then k+1 else k:=by
    unfold whole
    simp only [hr,hk]
    by_cases r0:r=0
    · rw [if_pos r0,if_neg]
      simp only [Bool.or_eq_true,Bool.and_eq_true,decide_eq_true_eq]
      lia
    · rw [if_neg r0,if_pos True.intro]
      by_cases l1:2*r<D
      · rw [if_pos l1,if_neg]
        simp only [Bool.or_eq_true,Bool.and_eq_true,decide_eq_true_eq]
        lia
      · rw [if_neg l1]
        by_cases l2:D<2*r
        · rw [if_pos l2,if_pos]
          simp only [Bool.or_eq_true,Bool.and_eq_true,decide_eq_true_eq]
          lia
        · rw [if_neg l2]
          by_cases l3:k%2=1
          · have e3:k+k%2=k+1:=by lia
            rw [e3,if_pos]
            simp only [Bool.or_eq_true,Bool.and_eq_true,decide_eq_true_eq]
            lia
          · rw [if_neg]
            · lia
            · simp only [Bool.or_eq_true,Bool.and_eq_true,decide_eq_true_eq]
              lia
  generalize hu:(decide (2*r > D) || (decide (2*r=D) && decide (k%2=1)))=u at *
  cases u with
  | true =>
    rw [hw]
    simp only [if_true]
    refine up _ rfl ?_
    simp only [Bool.or_eq_true,Bool.and_eq_true,decide_eq_true_eq] at hu
    lia
  | false =>
    rw [hw]
    simp only [Bool.false_eq_true,if_false]
    exact down _ rfl
open Kg22
theorem Vv3 (mode:Nat) (s:Bool) (a:Nat):whole mode s (units a) ONE=Yq0 mode s (mant a) (-(Xu0 a)):=by
 have h:=Ya2 (mode:=mode) (s:=s) (mant:=mant a) (A:=1074) (B:=Vz0 a) (e:=0) (c:=-(Xu0 a)) (by unfold Xu0;lia)
 rw [Nat.pow_zero,Nat.mul_one,← Xr0] at h
 exact h
theorem Vw3 (a:Nat):decide (units a%ONE=0)=Jd0 (mant a) (-(Xu0 a)):=by
 have h:=Yb2 (mant:=mant a) (A:=1074) (B:=Vz0 a) (e:=0) (c:=-(Xu0 a)) (by unfold Xu0;lia)
 rw [Nat.pow_zero,Nat.mul_one,← Xr0] at h
 exact h
theorem Ji2 (mode:Nat) (s:Bool) (n d:Nat):whole mode s n d≤n/d+1:=by
 unfold whole
 dsimp only
 have:n/d%2≤1:=by lia
 repeat' split
 all_goals lia
theorem Xs6 (mode:Nat) (s:Bool) {a:Nat} (fa:Ym3 a):∃ (k j:Nat),Yq0 mode s (mant a) (-(Xu0 a))=k*2^j∧Yo0 k≤53∧(Yo0 k:Int)+j≤1024:=by
 have hm:=Vj0 a
 have he:=Ya3 fa
 by_cases h:-(Xu0 a)≤0
 ·refine ⟨mant a,(Xu0 a).toNat,?_,Zr0.mp hm,?_⟩
  ·unfold Yq0;rw [if_pos h,Int.neg_neg]
  ·have:=Zr0.mp hm
   unfold Xu0 at *;lia
 ·unfold Yq0
  rw [if_neg h]
  have hw:=Ji2 mode s (mant a) (2^(-(Xu0 a)).toNat)
  have hd:mant a/2^(-(Xu0 a)).toNat<2^52:=by
   rw [Nat.div_lt_iff_lt_mul (Nat.two_pow_pos _)]
   have:2^1≤2^(-(Xu0 a)).toNat:=Nat.pow_le_pow_right (by decide) (by lia)
   lia
  refine ⟨_,0,by rw [Nat.pow_zero,Nat.mul_one],?_,?_⟩
  ·exact Zr0.mp (by lia)
  ·have:Yo0 (whole mode s (mant a) (2^(-(Xu0 a)).toNat))≤53:=Zr0.mp (by lia)
   lia
theorem Jd6 (mode:Nat) (s:Bool) {a:Nat} (fa:Ym3 a) :
  (rounded 0 s (whole mode s (units a) ONE*ONE) 1).1=(Xk0 mode s (Yq0 mode s (mant a) (-(Xu0 a))) 0).1∧(Xk0 mode s (Yq0 mode s (mant a) (-(Xu0 a))) 0).2=0:=by
 rw [Vv3]
 obtain ⟨k,j,e,hk,hb⟩:=Xs6 mode s fa
 rw [e]
 have q1:=Xw1 (mode:=0) (s:=s) (k:=k) (j:=j) (ex:=0) hk (by lia) (by lia)
 have q2:=Xw1 (mode:=mode) (s:=s) (k:=k) (j:=j) (ex:=0) hk (by lia) (by lia)
 rw [Xg2 (A:=0) (B:=1074) (m:=k*2^j) (ex:=0) (by decide) (by lia) (by rw [ONE,Nat.pow_zero,Nat.mul_one])]
 unfold Xk0
 exact ⟨by rw [q1.1,q2.1],q2.2⟩
theorem Js7 (mode:Nat) (z:Int):flot mode z=Xk0 mode (decide (z<0)) z.natAbs 0:=by
 unfold flot ofInt
 have hO:(0:Int)<(ONE:Int):=by have:=Nat.two_pow_pos 1074;unfold ONE;lia
 by_cases h:z=0
 ·subst h
  rw [Int.zero_mul,if_pos rfl]
  exact (Us1 mode false 0).symm
 ·have hz:z*(ONE:Int)≠0:=Int.mul_ne_zero h (by lia)
  rw [if_neg hz]
  have hs:(z*(ONE:Int)<0)↔z<0:=by
   constructor
   ·intro q
    by_cases q2:z<0
    ·exact q2
    ·have:=Int.mul_nonneg (show 0≤z by lia) (Int.le_of_lt hO);lia
   ·intro q;exact Int.mul_neg_of_neg_of_pos q hO
  simp only [hs]
  refine Xg2 (A:=0) (B:=1074) (by decide) (by lia) ?_
  rw [Int.natAbs_mul,Int.natAbs_natCast,ONE]
def Vb0:Nat:=0x7F800000
theorem Ze3 (s:Bool) (m:Nat) (c:Int):Yq0 0 s m c=Yq0 0 false m c:=by
 unfold Yq0
 split
 ·rfl
 ·unfold whole;simp
theorem Jm3 (p L inf:Nat) (s:Bool) (m:Nat) (ex:Int):Yx0 p L inf 0 s m ex=Yx0 p L inf 0 false m ex:=by
 unfold Yx0 Yo2
 simp only [Ze3 s,true_or,if_true]
def Jk0 (x:Nat):Nat:=if x/2^23%256=0 then x%2^23 else 2^23+x%2^23
def Xm2 (x:Nat):Nat:=max (x/2^23%256) 1-1
theorem Zb1 (x:Nat) (s:Bool):longer x=withSign (decide (2^31≤x)) (if x/2^23%256=255 then INF+x%2^23*2^29 else (Yx0 53 1074 INF 0 s (Jk0 x) ((max (x/2^23%256) 1:Nat)-150)).1):=by
 unfold longer
 generalize hz0:(2:Nat)^(1074-149)=z
 have hz:(2:Nat)^925=z:=hz0
 dsimp only
 by_cases h:x/2^23%256=255
 ·rw [if_pos h,if_pos h]
 ·rw [if_neg h,if_neg h,Jm3,Jy0]
  refine congrArg _ ?_
  have key:=Uj1 (p:=53) (L:=1074) (inf:=INF) (mode:=0) (s:=false) (mant:=Jk0 x) (ex:=((max (x/2^23%256) 1:Nat):Int)-150) (A:=0) (B:=Xm2 x+925) (d:=1) (n:=(if x/2^23%256=0 then x%2^23 else (2^23+x%2^23)*2^(x/2^23%256-1))*z) (by decide) Xu2 (by decide) (by unfold Xm2;lia) (by
   rw [Nat.pow_add,hz]
   unfold Jk0 Xm2
   by_cases h0:x/2^23%256=0
   ·rw [if_pos h0,if_pos h0,h0]
    simp
   ·rw [if_neg h0,if_neg h0,Nat.max_eq_left (by lia)]
    simp [Nat.mul_assoc])
  rw [key]
  unfold withSign
  rw [if_neg (by decide)]
theorem Vh4 (mode a:Nat) (fa:Ym3 a):shorter mode a =
  ((if neg a=true then 2^31+(Yx0 24 149 Vb0 mode (neg a) (mant a) (Xu0 a)).1 else (Yx0 24 149 Vb0 mode (neg a) (mant a) (Xu0 a)).1),(Yx0 24 149 Vb0 mode (neg a) (mant a) (Xu0 a)).2):=by
 have n1:isNan a=false:=by unfold isNan;unfold Ym3 at fa;exact decide_eq_false (by lia)
 have n2:isInf a=false:=by unfold isInf;unfold Ym3 at fa;exact beq_eq_false_iff_ne.mpr (by lia)
 unfold shorter
 generalize hz0:(2:Nat)^(1074-149)=d
 have hz:(2:Nat)^925=d:=hz0
 have hd:0<d:=by rw [← hz];exact Nat.two_pow_pos _
 have key:=Uj1 (p:=24) (L:=149) (inf:=Vb0) (mode:=mode) (s:=neg a) (mant:=mant a) (ex:=Xu0 a) (n:=units a) (d:=d) (A:=925) (B:=Vz0 a) (by decide) (by unfold Vb0;decide) hd (by unfold Xu0;lia) (by rw [Xr0,hz])
 rw [← key,n1,n2]
 have c1:Vb0-1=0x7F7FFFFF:=by unfold Vb0;decide
 unfold rnd
 simp only [Bool.false_eq_true,if_false,show (24:Nat)-1=23 from rfl,c1]
 generalize (if units a/d<2^24 then 0 else Nat.log2 (units a/d)-23)=e
 generalize e*2^23+whole mode (neg a) (units a) (d*2^e)=r
 by_cases hi:0x7F800000≤r
 ·rw [if_pos hi,if_pos (show Vb0≤r from hi)]
  rfl
 ·rw [if_neg hi,if_neg (show ¬ Vb0≤r from hi)]
open Kg22
theorem Xp5 (n:Nat):∀ (k r:Nat),r*r≤n→n<(r+2^k)*(r+2^k)→(∃ t,r=t*2^k) →
  (let f:=(List.range k).foldl (fun r i=>let q:=r+2^(k-1-i);if q*q≤n then q else r) r;f*f≤n∧n<(f+1)*(f+1)):=by
 intro k
 induction k with
 | zero=>intro r h1 h2 _;simpa using ⟨h1,h2⟩
 | succ k ih =>
  intro r h1 h2 h3
  obtain ⟨t,ht⟩:=h3
  dsimp only
  rw [List.range_succ_eq_map,List.foldl_cons,List.foldl_map]
  have e:∀ i,k-Nat.succ i=k-1-i:=fun i=>by lia
  simp only [Nat.add_sub_cancel,Nat.sub_zero]
  have h':(fun (x y:Nat)=>if (x+2^(k-y.succ))*(x+2^(k-y.succ))≤n then x+2^(k-y.succ) else x)=(fun x y=>if (x+2^(k-1-y))*(x+2^(k-1-y))≤n then x+2^(k-1-y) else x):=by
   funext x y;rw [e y]
  rw [h']
  have hp:2^(k+1)=2^k+2^k:=by rw [Nat.pow_succ];lia
  by_cases hq:(r+2^k)*(r+2^k)≤n
  ·rw [if_pos hq]
   refine ih (r+2^k) hq ?_ ⟨t*2+1,by rw [ht,Nat.pow_succ,Nat.add_mul,Nat.one_mul,Nat.mul_assoc,Nat.mul_comm (2^k) 2]⟩
   rw [hp,← Nat.add_assoc] at h2
   exact h2
  ·rw [if_neg hq]
   exact ih r h1 (by lia) ⟨t*2,by rw [ht,Nat.pow_succ,Nat.mul_assoc,Nat.mul_comm (2^k) 2]⟩
theorem Xe7 {n:Nat} (h:n<2^3400):root n*root n≤n∧n<(root n+1)*(root n+1):=by
 have:=Xp5 n 1700 0 (Nat.zero_le _) (by rw [Nat.zero_add,← Nat.pow_add];exact h) ⟨0,by rw [Nat.zero_mul]⟩
 have e:∀ i,1700-1-i=1699-i:=fun i=>by lia
 simp only [e] at this
 exact this
theorem Zx7 (mode:Nat) {a R:Nat}{odd:Nat} (fa:Ym3 a) (h0:rest a≠0) (hodd:odd<2) (hpar:(Xu0 a-odd)%2=0)
    (hR1:R*R≤mant a*2^(128+odd)) (hR2:mant a*2^(128+odd)<(R+1)*(R+1)) :
    (let n:=units a*ONE*2^200
     let r:=root n
     rounded mode false (2*r+if r*r=n then 0 else 1) (2*2^100)) =
    Xk0 mode false (2*R+if R*R=mant a*2^(128+odd) then 0 else 1) ((Xu0 a-128-odd)/2-1):=by
  have hm:=Vj0 a
  have hm0:0<mant a:=Nat.pos_of_ne_zero (fun z=>h0 (Vi0.mp z))
  have he:=Ya3 fa
  generalize hP:mant a*2^(128+odd)=P at *
  obtain ⟨j,hj⟩:∃ j:Nat,(j:Int)*2=Xu0 a-odd+2220:=⟨((Xu0 a-odd+2220)/2).toNat,by unfold Xu0 at *;lia⟩
  have hn:units a*ONE*2^200=P*(2^j*2^j):=by
    rw [Xr0,← hP,ONE,← Nat.pow_add]
    simp only [Nat.mul_assoc,← Nat.pow_add]
    congr 2
    unfold Xu0 at hj;lia
  dsimp only
  rw [hn]
  have hlt:P*(2^j*2^j)<2^3400:=by
    rw [← hn,Xr0,ONE]
    have q1:mant a*2^Vz0 a≤2^53*2^2045:=Nat.mul_le_mul (Nat.le_of_lt hm) (Nat.pow_le_pow_right (by decide) he)
    calc mant a*2^Vz0 a*2^1074*2^200≤2^53*2^2045*2^1074*2^200:=Nat.mul_le_mul_right _ (Nat.mul_le_mul_right _ q1)
      _=2^3372:=by rw [← Nat.pow_add,← Nat.pow_add,← Nat.pow_add]
      _<2^3400:=Nat.pow_lt_pow_right (by decide) (by decide)
  obtain ⟨g1,g2⟩:=Xe7 hlt
  generalize root (P*(2^j*2^j))=r at *
  have hJ:0<2^j:=Nat.two_pow_pos j
  generalize hJe:2^j=J at *
  have hq1:R*J≤r:=by
    apply Nat.le_of_not_lt;intro q
    have q1:(r+1)*(r+1)≤R*J*(R*J):=Nat.mul_le_mul q q
    have q2:R*J*(R*J)=R*R*(J*J):=by simp only [Nat.mul_assoc,Nat.mul_comm,Nat.mul_left_comm]
    have q3:R*R*(J*J)≤P*(J*J):=Nat.mul_le_mul_right _ hR1
    lia
  have hq2:r<(R+1)*J:=by
    apply Nat.lt_of_not_le;intro q
    have q1:(R+1)*J*((R+1)*J)≤r*r:=Nat.mul_le_mul q q
    have q2:(R+1)*J*((R+1)*J)=(R+1)*(R+1)*(J*J):=by simp only [Nat.mul_assoc,Nat.mul_comm,Nat.mul_left_comm]
    have q3:P*(J*J)<(R+1)*(R+1)*(J*J):=Nat.mul_lt_mul_of_pos_right hR2 (Nat.mul_pos hJ hJ)
    lia
  have hsq:(r*r=P*(J*J))↔(R*R=P∧r=R*J):=by
    constructor
    · intro q
      have c:r=R*J:=by
        obtain ⟨x,hx⟩:∃ x,r=R*J+x:=⟨r-R*J,by lia⟩
        by_cases x0:x=0
        · rw [hx,x0,Nat.add_zero]
        · exfalso
          have dv:(J*J)∣(r*r):=⟨P,by rw [q,Nat.mul_comm]⟩
          have dv2:J∣r:=by
            rw [← hJe] at dv ⊢
            have:∀ (j r:Nat),(2^j*2^j)∣r*r→2^j∣r:=by
              intro j
              induction j with
              | zero=>intro r _;rw [Nat.pow_zero];exact Nat.one_dvd r
              | succ j ih =>
                intro r hd
                have h2:2∣r*r:=Nat.dvd_trans ⟨2^j*2^(j+1),by rw [Nat.pow_succ];simp only [Nat.mul_assoc,Nat.mul_comm,Nat.mul_left_comm]⟩ hd
                have hr2:r%2=0:=by
                  have m:(r*r)%2=0:=Nat.mod_eq_zero_of_dvd h2
                  rw [Nat.mul_mod] at m
                  rcases Nat.mod_two_eq_zero_or_one r with z | z
                  · exact z
                  · rw [z] at m;simp at m
                obtain ⟨y,hy⟩:∃ y,r=2*y:=⟨r/2,by lia⟩
                subst hy
                have:(2^j*2^j)∣y*y:=by
                  obtain ⟨c,hc⟩:=hd
                  refine ⟨c,?_⟩
                  have e1:2*y*(2*y)=4*(y*y):=by simp only [Nat.mul_assoc,Nat.mul_comm,Nat.mul_left_comm]
                  have e2:2^(j+1)*2^(j+1)*c=4*(2^j*2^j*c):=by
                    rw [Nat.pow_succ]
                    generalize 2^j=w
                    have:w*2*(w*2)*c=4*(w*w*c):=by
                      rw [show w*2*(w*2)=4*(w*w) by simp only [Nat.mul_assoc,Nat.mul_comm,Nat.mul_left_comm],Nat.mul_assoc]
                    exact this
                  rw [e1,e2] at hc
                  lia
                obtain ⟨c,hc⟩:=ih y this
                exact ⟨c,by rw [hc,Nat.pow_succ];simp only [Nat.mul_assoc,Nat.mul_comm,Nat.mul_left_comm]⟩
            exact this j r dv
          obtain ⟨y,hy⟩:=dv2
          rw [hy,Nat.mul_comm J y] at hq1 hq2
          have y1:=Nat.le_of_mul_le_mul_right hq1 hJ
          have y2:=Nat.lt_of_mul_lt_mul_right hq2
          have:y=R:=by lia
          rw [hy,this,Nat.mul_comm] at hx
          lia
      refine ⟨?_,c⟩
      rw [c] at q
      have e2:R*J*(R*J)=R*R*(J*J):=by simp only [Nat.mul_assoc,Nat.mul_comm,Nat.mul_left_comm]
      rw [e2] at q
      exact Nat.eq_of_mul_eq_mul_right (Nat.mul_pos hJ hJ) q
    · rintro ⟨q1,q2⟩
      rw [q2,← q1]
      simp only [Nat.mul_assoc,Nat.mul_comm,Nat.mul_left_comm]
  generalize hst:(if r*r=P*(J*J) then 0 else 1:Nat)=st
  have hst1:st≤1:=by rw [← hst];split <;> lia
  have hdq:(2*r+st)/(2*J)=R:=by
    rw [← Nat.div_div_eq_div_mul]
    have:(2*r+st)/2=r:=by lia
    rw [this]
    apply Nat.le_antisymm
    · have:=(Nat.div_lt_iff_lt_mul hJ).mpr hq2;lia
    · exact (Nat.le_div_iff_mul_le hJ).mpr hq1
  have hmz:((2*r+st)%(2*J)=0)↔(R*R=P):=by
    have hdm:=Nat.div_add_mod (2*r+st) (2*J)
    rw [hdq] at hdm
    have e:2*J*R=2*(R*J):=by simp only [Nat.mul_assoc,Nat.mul_comm]
    rw [e] at hdm
    constructor
    · intro z
      have:st=0:=by lia
      have z2:r*r=P*(J*J):=by
        by_cases z2:r*r=P*(J*J)
        · exact z2
        · rw [← hst,if_neg z2] at this;lia
      exact (hsq.mp z2).1
    · intro z
      have hr:r=R*J:=by
        have q1:r*r≤R*J*(R*J):=by
          have:R*J*(R*J)=P*(J*J):=by rw [← z];simp only [Nat.mul_assoc,Nat.mul_comm,Nat.mul_left_comm]
          lia
        have:¬ R*J<r:=fun q=>by
          have:=Nat.mul_lt_mul'' q q
          lia
        lia
      have z2:=hsq.mpr ⟨z,hr⟩
      have:st=0:=by rw [← hst,if_pos z2]
      lia
  have hbR:54≤Yo0 R:=by
    have:¬ Yo0 R≤53:=fun z=>by
      have l:=Zr0.mpr z
      have l2:(R+1)*(R+1)≤2^53*2^53:=Nat.mul_le_mul l l
      have l3:2^128≤P:=by
        rw [← hP]
        calc 2^128≤2^(128+odd):=Nat.pow_le_pow_right (by decide) (by lia)
          _≤mant a*2^(128+odd):=Nat.le_mul_of_pos_left _ hm0
      have l4:(2:Nat)^53*2^53<2^128:=by decide
      lia
    lia
  have key:=Uu2 (p:=53) (L:=1074) (inf:=INF) (mode:=mode) (s:=false) (N:=2*r+st) (D:=2*J) (n:=2*r+st) (d:=2*2^100) (A:=100) (B:=j) (ex:=(Xu0 a-128-odd)/2-1)
    (by decide) Xu2 (by decide) (Nat.mul_pos (by decide) hJ) (by rw [hdq];exact hbR) (by lia) (by rw [hJe];simp only [Nat.mul_assoc,Nat.mul_comm,Nat.mul_left_comm])
  rw [hdq] at key
  rw [Jy0,key]
  simp only [hmz]
  rfl
open Kg22
theorem Xh6 (s:Bool) {r:Nat} (h:r<2^63):neg (withSign s r)=s:=by
 unfold neg withSign SIGN
 cases s with
 | true=>rw [if_pos rfl];exact decide_eq_true (by lia)
 | false=>rw [if_neg (by decide)];exact decide_eq_false (by lia)
theorem Xq5 (s:Bool) {r:Nat} (h:r<2^63):rest (withSign s r)=r:=by
 unfold rest withSign SIGN
 cases s with
 | true=>rw [if_pos rfl,Nat.add_mod_left,Nat.mod_eq_of_lt h]
 | false=>rw [if_neg (by decide),Nat.mod_eq_of_lt h]
def uu (r:Nat):Nat:=if r<2^52 then r else (2^52+r%2^52)*2^(r/2^52-1)
theorem Jl2 (b:Nat):units b=uu (rest b):=rfl
theorem Ub1 {e m:Nat} (h:(e=0∧m≤2^53)∨(2^52≤m∧m≤2^53)):uu (m+e*2^52)=m*2^e:=by
 by_cases hm:m=2^53
 ·subst hm
  unfold uu
  have e1:2^53+e*2^52=(e+2)*2^52:=by rw [Nat.add_mul];lia
  rw [e1,if_neg (by lia),Nat.mul_mod_left,Nat.mul_div_cancel _ (by decide),Nat.add_zero]
  rw [show e+2-1=e+1 by lia]
  have w2:2^(e+1)=2^e*2:=Nat.pow_succ _ _
  rw [w2]
  generalize 2^e=w
  lia
 ·by_cases hl:m<2^52
  ·rcases h with ⟨q,_⟩ | ⟨q,_⟩
   ·subst q;unfold uu;rw [Nat.zero_mul,Nat.add_zero,if_pos hl,Nat.pow_zero,Nat.mul_one]
   ·lia
  ·have hlt:m<2^53:=by rcases h with ⟨_,q⟩ | ⟨_,q⟩ <;> lia
   unfold uu
   have e1:m+e*2^52=(m-2^52)+(e+1)*2^52:=by rw [Nat.add_mul];lia
   rw [e1,if_neg (by rw [Nat.add_mul];lia),Nat.add_mul_mod_self_right,Nat.mod_eq_of_lt (by lia),Nat.add_mul_div_right _ _ (by decide),Nat.div_eq_of_lt (by lia)]
   rw [show 2^52+(m-2^52)=m by lia,show 0+(e+1)-1=e by lia]
theorem Zd5 (r:Nat):uu r<uu (r+1):=by
 by_cases h:r+1≤2^53
 ·have h1:=Ub1 (e:=0) (m:=r) (.inl ⟨rfl,by lia⟩)
  have h2:=Ub1 (e:=0) (m:=r+1) (.inl ⟨rfl,h⟩)
  rw [Nat.zero_mul,Nat.add_zero,Nat.pow_zero,Nat.mul_one] at h1 h2
  lia
 ·obtain ⟨e,m,hr,hm1,hm2⟩:∃ e m,r=m+e*2^52∧2^52≤m∧m<2^53:=⟨r/2^52-1,2^52+r%2^52,by lia,by lia,by lia⟩
  have h1:=Ub1 (e:=e) (m:=m) (.inr ⟨hm1,by lia⟩)
  have h2:=Ub1 (e:=e) (m:=m+1) (.inr ⟨by lia,by lia⟩)
  rw [hr,show m+e*2^52+1=m+1+e*2^52 by lia,h1,h2]
  exact Nat.mul_lt_mul_of_pos_right (by lia) (Nat.two_pow_pos e)
theorem Jk2:∀ {a b:Nat},a<b→uu a<uu b:=by
 intro a b h
 obtain ⟨k,rfl⟩:∃ k,b=a+k+1:=⟨b-a-1,by lia⟩
 induction k with
 | zero=>exact Zd5 a
 | succ k ih=>exact Nat.lt_trans (ih (by lia)) (Zd5 _)
theorem Ze5 {a b:Nat}:uu a<uu b↔a<b:=by
 constructor
 ·intro h
  apply Nat.lt_of_not_le;intro q
  rcases Nat.lt_or_eq_of_le q with z | z
  ·have:=Jk2 z;lia
  ·rw [z] at h;lia
 ·exact Jk2
theorem Zf5 {a b:Nat}:uu a=uu b↔a=b:=by
 constructor
 ·intro h
  rcases Nat.lt_trichotomy a b with q | q | q
  ·have:=Jk2 q;lia
  ·exact q
  ·have:=Jk2 q;lia
 ·intro h;rw [h]
def Yo4 (b:Nat):Int:=if neg b=true then -(rest b:Int) else (rest b:Int)
def big (b:Nat):Nat:=if isInf b=true then 2^3000 else units b
theorem Jl5 {a b:Nat} (ha:isNan a=false) (hb:isNan b=false):(big a<big b↔rest a<rest b)∧(big a=big b↔rest a=rest b):=by
 have na:rest a≤INF:=by unfold isNan at ha;have:=of_decide_eq_false ha;lia
 have nb:rest b≤INF:=by unfold isNan at hb;have:=of_decide_eq_false hb;lia
 have sm:∀ c,rest c<INF→units c<2^3000:=fun c hc=>by
  rw [Xr0]
  have h1:=Vj0 c
  have h2:=Ya3 (b:=c) hc
  calc mant c*2^Vz0 c≤2^53*2^2045:=Nat.mul_le_mul (Nat.le_of_lt h1) (Nat.pow_le_pow_right (by decide) h2)
   _=2^2098:=by rw [← Nat.pow_add]
   _<2^3000:=Nat.pow_lt_pow_right (by decide) (by decide)
 have inf:∀ c,isInf c=true↔rest c=INF:=fun c=>by unfold isInf;exact beq_iff_eq
 unfold big
 generalize hz:(2:Nat)^3000=Z at *
 by_cases ia:rest a=INF
 ·rw [if_pos ((inf a).mpr ia)]
  by_cases ib:rest b=INF
  ·rw [if_pos ((inf b).mpr ib)];exact ⟨⟨fun h=>by lia,fun h=>by lia⟩,⟨fun _=>by rw [ia,ib],fun _=>rfl⟩⟩
  ·rw [if_neg (fun q=>ib ((inf b).mp q))]
   have:=sm b (by lia)
   exact ⟨⟨fun h=>by lia,fun h=>by lia⟩,⟨fun h=>by lia,fun h=>by lia⟩⟩
 ·rw [if_neg (fun q=>ia ((inf a).mp q))]
  by_cases ib:rest b=INF
  ·rw [if_pos ((inf b).mpr ib)]
   have:=sm a (by lia)
   exact ⟨⟨fun h=>by lia,fun h=>by lia⟩,⟨fun h=>by lia,fun h=>by lia⟩⟩
  ·rw [if_neg (fun q=>ib ((inf b).mp q)),Jl2,Jl2]
   exact ⟨Ze5,Zf5⟩
theorem Xg1 {a b:Nat} (h:isNan a=true∨isNan b=true):compare_ a b=none:=by
 unfold compare_;rw [if_pos h]
theorem Un6 {x y r q:Nat} (s t:Bool) (h1:(x<y↔r<q)∧(x=y↔r=q)) (h3:x=0↔r=0) (h4:y=0↔q=0):(((if s=true then -(x:Int) else x)<(if t=true then -(y:Int) else y))↔((if s=true then -(r:Int) else r)<(if t=true then -(q:Int) else q)))∧(((if s=true then -(x:Int) else x)=(if t=true then -(y:Int) else y))↔((if s=true then -(r:Int) else r)=(if t=true then -(q:Int) else q))):=by
 have e0:∀ {u v:Nat},(u=0↔v=0)→(u=0∧v=0)∨(0<u∧0<v):=fun {u v} h=>(Nat.eq_zero_or_pos u).elim (fun z=>.inl ⟨z,h.mp z⟩) fun z=>.inr ⟨z,Nat.pos_of_ne_zero fun e=>Nat.ne_of_gt z (h.mpr e)⟩
 have k:(x<y∧r<q)∨(x=y∧r=q)∨(y<x∧q<r):=(Nat.lt_trichotomy x y).elim (fun z=>.inl ⟨z,h1.1.mp z⟩) fun z=>.inr (z.elim (fun z=>.inl ⟨z,h1.2.mp z⟩) fun z=>.inr ⟨z,Nat.lt_of_le_of_ne (Nat.le_of_not_lt fun e=>Nat.lt_asymm z (h1.1.mpr e)) fun e=>Nat.ne_of_lt z (h1.2.mpr e.symm).symm⟩)
 have i:=e0 h3
 have j:=e0 h4
 clear e0 h1 h3 h4
 cases s <;> cases t <;> simp only [Bool.false_eq_true,if_false,if_true]
 ·clear i j;rcases k with k | k | k <;> (constructor <;> constructor <;> intro _ <;> lia)
 ·clear k;rcases i with i | i <;> rcases j with j | j <;> (constructor <;> constructor <;> intro _ <;> lia)
 ·clear k;rcases i with i | i <;> rcases j with j | j <;> (constructor <;> constructor <;> intro _ <;> lia)
 ·clear i j;rcases k with k | k | k <;> (constructor <;> constructor <;> intro _ <;> lia)
theorem Jn1 {a b:Nat} (ha:isNan a=false) (hb:isNan b=false):compare_ a b=some (if Yo4 a<Yo4 b then -1 else if Yo4 a=Yo4 b then 0 else 1):=by
 unfold compare_
 rw [if_neg (by rw [ha,hb];simp)]
 have e:∀ c,(if isInf c=true then (if neg c=true then -(2^3000:Int) else 2^3000) else value c)=if neg c=true then -(big c:Int) else (big c:Int):=fun c=>by
  unfold big value
  by_cases ic:isInf c=true
  ·rw [if_pos ic,if_pos ic];rw [show ((2^3000:Nat):Int)=(2:Int)^3000 from Int.natCast_pow 2 3000]
  ·rw [if_neg ic,if_neg ic]
 have z0:∀ c,isNan c=false→(big c=0↔rest c=0):=fun c hc=>by
  have h0:=(Jl5 (a:=0) (b:=c) (by decide) hc).2
  have b0:big 0=0:=by
   unfold big
   rw [if_neg (by decide)]
   rfl
  have r0:rest 0=0:=rfl
  rw [b0,r0] at h0
  exact ⟨fun h=>(h0.mp h.symm).symm,fun h=>(h0.mpr h.symm).symm⟩
 simp only [e]
 have h1:=Jl5 ha hb
 have h2:=Jl5 hb ha
 have h3:=z0 a ha
 have h4:=z0 b hb
 unfold Yo4
 generalize big a=x at *
 generalize big b=y at *
 simp only [(Un6 (neg a) (neg b) h1 h3 h4).1,(Un6 (neg a) (neg b) h1 h3 h4).2]
theorem newton {n r:Nat} (hr:0<r):n<((r+n/r)/2+1)*((r+n/r)/2+1):=by
 generalize hq:n/r=q
 have h1:n<r*(q+1):=by
  have:=Nat.lt_mul_div_succ n hr
  rw [hq] at this;exact this
 generalize hb:(r+q)/2=b
 have h2:r+(q+1)≤2*(b+1):=by lia
 have h3:(r+(q+1))*(r+(q+1))≤2*(b+1)*(2*(b+1)):=Nat.mul_le_mul h2 h2
 have h4:4*(r*(q+1))≤(r+(q+1))*(r+(q+1)):=by
  generalize q+1=y
  rcases Nat.le_total r y with z | z
  ·obtain ⟨k,rfl⟩:=Nat.le.dest z
   simp only [Nat.mul_add,Nat.add_mul]
   have:r*k=k*r:=Nat.mul_comm _ _
   generalize k*k=kk
   lia
  ·obtain ⟨k,rfl⟩:=Nat.le.dest z
   simp only [Nat.mul_add,Nat.add_mul]
   have:y*k=k*y:=Nat.mul_comm _ _
   generalize k*k=kk
   lia
 have h5:2*(b+1)*(2*(b+1))=4*((b+1)*(b+1)):=by simp only [Nat.mul_assoc,Nat.mul_comm,Nat.mul_left_comm]
 lia
open Kg22
theorem Jl3 {mode:Nat}{s:Bool}{k j:Nat}{ex:Int} (hk:Yo0 k≤53) (hj:-1074≤ex+j) (hb:(Yo0 k:Int)+j+ex≤1024) :
  uu (Yx0 53 1074 INF mode s (k*2^j) ex).1=k*2^(ex+j+1074).toNat∧(Yx0 53 1074 INF mode s (k*2^j) ex).1<INF:=by
 by_cases h0:k=0
 ·subst h0;rw [Nat.zero_mul,Nat.zero_mul]
  have:(Yx0 53 1074 INF mode s 0 ex).1=0:=by unfold Yx0;simp
  rw [this]
  exact ⟨by unfold uu;simp,Xu2⟩
 ·have hbl:Yo0 (k*2^j)=Yo0 k+j:=Yz0 h0 j
  have hm:k*2^j≠0:=Nat.mul_ne_zero h0 (Nat.ne_of_gt (Nat.two_pow_pos j))
  have hc:Yr0 53 1074 (k*2^j) ex≤j:=by unfold Yr0;rw [hbl];lia
  have hc2:Yr0 53 1074 (k*2^j) ex=max ((Yo0 k:Int)+j-53) (-1074-ex):=by unfold Yr0;rw [hbl];lia
  unfold Yx0
  generalize Yr0 53 1074 (k*2^j) ex=c at *
  have hS:Yq0 mode s (k*2^j) c=k*2^((j:Int)-c).toNat:=by
   unfold Yq0
   by_cases z:c≤0
   ·rw [if_pos z,Nat.mul_assoc,← Nat.pow_add];congr 2;lia
   ·rw [if_neg z]
    have e:k*2^j=k*2^((j:Int)-c).toNat*2^c.toNat:=by rw [Nat.mul_assoc,← Nat.pow_add];congr 2;lia
    rw [e,Vk1 (Nat.mul_mod_left _ _),Nat.mul_div_cancel _ (Nat.two_pow_pos _)]
  have hlt:k*2^((j:Int)-c).toNat<2^53:=by
   rw [Zr0,Yz0 h0];lia
  rw [if_neg hm,hS]
  simp only [show (53:Nat)-1=52 from rfl]
  have hE:(ex+c+((1074:Nat):Int)).toNat≤2045:=by lia
  have hno:¬ INF≤k*2^((j:Int)-c).toNat+(ex+c+((1074:Nat):Int)).toNat*2^52:=by
   rw [Xv2]
   have:=Nat.mul_le_mul_right (2^52) hE
   lia
  rw [if_neg hno]
  refine ⟨?_,by lia⟩
  rw [Ub1]
  ·rw [Nat.mul_assoc,← Nat.pow_add];congr 2;lia
  ·by_cases hE0:(ex+c+((1074:Nat):Int)).toNat=0
   ·left;exact ⟨hE0,by lia⟩
   ·right
    refine ⟨?_,by lia⟩
    have:52<Yo0 (k*2^((j:Int)-c).toNat):=by rw [Yz0 h0];lia
    exact Nat.le_of_not_lt (fun q=>by have:=Zr0.mp q;lia)
theorem Vb5 {e m x:Nat} (hx:x%2^31=e*2^23+m) (h:(e=0∧m≤2^24)∨(2^23≤m∧m≤2^24)) (hlt:e*2^23+m<255*2^23) :
  Jk0 x*2^Xm2 x=m*2^e∧x/2^23%256<255:=by
 have hf:x/2^23%256=(e*2^23+m)/2^23:=by rw [← hx];(omega)
 have hr:x%2^23=(e*2^23+m)%2^23:=by rw [← hx];lia
 have hf2:(e*2^23+m)/2^23=e+m/2^23:=by lia
 have hr2:(e*2^23+m)%2^23=m%2^23:=by lia
 refine ⟨?_,by rw [hf];lia⟩
 unfold Jk0 Xm2
 rw [hf,hr,hf2,hr2]
 by_cases h24:m=2^24
 ·subst h24
  rw [if_neg (by lia),Nat.max_eq_left (by lia)]
  have:e+2^24/2^23-1=e+1:=by lia
  rw [this]
  have w2:2^(e+1)=2^e*2:=Nat.pow_succ _ _
  rw [w2]
  generalize 2^e=w
  lia
 ·by_cases hl:m<2^23
  ·rcases h with ⟨q,_⟩ | ⟨q,_⟩
   ·subst q
    have hd:m/2^23=0:=Nat.div_eq_of_lt hl
    rw [hd,if_pos (by lia),Nat.mod_eq_of_lt hl]
    simp
   ·lia
  ·have hd:m/2^23=1:=by
    have:m<2^24:=by rcases h with ⟨_,q⟩ | ⟨_,q⟩ <;> lia
    lia
   rw [hd,if_neg (by lia),Nat.max_eq_left (by lia)]
   have:2^23+m%2^23=m:=by
    have:m<2^24:=by rcases h with ⟨_,q⟩ | ⟨_,q⟩ <;> lia
    lia
   rw [this]
   congr 1
theorem Zj8 {v:Int} (q:v<0):-((v.natAbs:Nat):Int)=v:=by lia
theorem Zi8 {v:Int} (q:¬ v<0):((v.natAbs:Nat):Int)=v:=by lia
theorem Vx5 (md:Nat) {v:Int} (hv:v.natAbs≤2^64) :
  narrow md v=(if v<0 then 2^31 else 0)+(Yx0 24 149 Vb0 md (decide (v<0)) v.natAbs 0).1 ∧
  (Yx0 24 149 Vb0 md (decide (v<0)) v.natAbs 0).1<2^31 ∧
  (Yx0 24 149 Vb0 md (decide (v<0)) v.natAbs 0).1/2^23%256<255 ∧
  ((if value (longer (narrow md v))=v*(ONE:Int) then 0 else 1)=(Yx0 24 149 Vb0 md (decide (v<0)) v.natAbs 0).2):=by
 generalize hs:decide (v<0)=s
 generalize ha:v.natAbs=a at *
 unfold narrow
 rw [hs,ha]
 generalize hd0:(2:Nat)^(1074-149)=d
 have hd1:(2:Nat)^925=d:=hd0
 have hd:0<d:=by rw [← hd1];exact Nat.two_pow_pos _
 have hONE:ONE=2^149*d:=by rw [← hd1,← Nat.pow_add];rfl
 generalize ONE=O at *
 have key:=Uj1 (p:=24) (L:=149) (inf:=Vb0) (mode:=md) (s:=s) (mant:=a) (ex:=0) (n:=a*O) (d:=d) (A:=0) (B:=149) (by decide) (by unfold Vb0;decide) hd (by lia) (by rw [hONE,Nat.pow_zero,Nat.mul_one,Nat.mul_assoc])
 rw [← key]
 unfold rnd
 simp only [show (24:Nat)-1=23 from rfl]
 have hq:a*O/d=a*2^149:=by rw [hONE,← Nat.mul_assoc,Nat.mul_div_cancel _ hd]
 simp only [hq]
 generalize he:(if a*2^149<2^24 then 0 else Nat.log2 (a*2^149)-23)=e
 have hba:Yo0 a≤65:=Zr0.mp (by lia)
 have hpos:0<d*2^e:=Nat.mul_pos hd (Nat.two_pow_pos e)
 by_cases a0:a=0
 ·subst a0
  have v0:v=0:=Int.natAbs_eq_zero.mp ha
  subst v0
  have e0:e=0:=by rw [← he,Nat.zero_mul,if_pos (Nat.two_pow_pos 24)]
  subst e0
  have w0:whole md s (0*O) (d*2^0)=0:=by rw [Nat.zero_mul];unfold whole;simp
  rw [w0]
  have l0:longer (0+0*2^23+0)=0:=by
   have:=Zb1 0 false
   rw [show (0+0*2^23+0:Nat)=0 by lia,this]
   have m0:Jk0 0=0:=by decide
   rw [m0]
   have p0:(Yx0 53 1074 INF 0 false 0 ((max (0/2^23%256) 1:Nat)-150)).1=0:=by unfold Yx0;simp
   rw [p0]
   decide
  have i0:¬ Vb0≤0*2^23+0:=by unfold Vb0;lia
  rw [if_neg i0,if_neg (by lia:¬ (0:Int)<0)]
  refine ⟨by lia,by dsimp only;lia,by dsimp only;lia,?_⟩
  have v0:value 0=0:=by decide
  have z0:0*O%(d*2^0)=0:=by rw [Nat.zero_mul,Nat.zero_mod]
  rw [l0,v0,Int.zero_mul,if_pos rfl,decide_eq_true z0,if_pos rfl,if_neg (fun q=>by cases q.1)]
 ·have hbq:Yo0 (a*2^149)=Yo0 a+149:=Yz0 a0 149
  have hnl:¬ a*2^149<2^24:=fun q=>by have:=Zr0.mp q;lia
  have hq0:a*2^149≠0:=Nat.mul_ne_zero a0 (Nat.ne_of_gt (Nat.two_pow_pos 149))
  rw [if_neg hnl,Xe1 hq0,hbq] at he
  have hbp:=Ye3 a0
  have hel:e≤190:=by lia
  have he1:1≤e:=by lia
  have hquo:a*O/(d*2^e)=a*2^149/2^e:=by rw [← Nat.div_div_eq_div_mul,hq]
  have hql:a*2^149/2^e<2^24:=by rw [Zr0,Ug0,hbq];lia
  have hqg:2^23≤a*2^149/2^e:=Nat.le_of_not_lt (fun q=>by have:=Zr0.mp q;rw [Ug0,hbq] at this;lia)
  have hw1:=Ji2 md s (a*O) (d*2^e)
  have hw2:a*O/(d*2^e)≤whole md s (a*O) (d*2^e):=by
   unfold whole
   dsimp only
   repeat' split
   all_goals lia
  rw [hquo] at hw1 hw2
  generalize hm:whole md s (a*O) (d*2^e)=m at *
  have i0:¬ Vb0≤e*2^23+m:=by unfold Vb0;lia
  rw [if_neg i0]
  have hlt31:e*2^23+m<2^31:=by lia
  have hsgn:(if v<0 then 2^31 else 0)+e*2^23+m=(if v<0 then 2^31 else 0)+(e*2^23+m):=by lia
  rw [hsgn]
  generalize hx:(if v<0 then 2^31 else 0)+(e*2^23+m)=x
  have hxm:x%2^31=e*2^23+m:=by rw [← hx];split <;> lia
  obtain ⟨hp,hf⟩:=Vb5 (e:=e) (m:=m) (x:=x) hxm (.inr ⟨by lia,by lia⟩) (by lia)
  obtain ⟨hp',hf'⟩:=Vb5 (e:=e) (m:=m) (x:=e*2^23+m) (Nat.mod_eq_of_lt hlt31) (.inr ⟨by lia,by lia⟩) (by lia)
  refine ⟨rfl,hlt31,hf',?_⟩
  dsimp only
  have hx31:decide (2^31≤x)=s:=by
   rw [← hx,← hs]
   by_cases q:v<0
   ·rw [if_pos q,decide_eq_true q];exact decide_eq_true (by lia)
   ·rw [if_neg q,decide_eq_false q];exact decide_eq_false (by lia)
  have hlo:=Zb1 x false
  rw [if_neg (by lia),hx31] at hlo
  have hk:Yo0 (Jk0 x)≤53:=Zr0.mp (by unfold Jk0;split <;> lia)
  have hmx:Jk0 x<2^24:=by unfold Jk0;split <;> lia
  have hk24:Yo0 (Jk0 x)≤24:=Zr0.mp hmx
  obtain ⟨u1,u2⟩:=Jl3 (mode:=0) (s:=false) (k:=Jk0 x) (j:=0) (ex:=((max (x/2^23%256) 1:Nat):Int)-150) hk (by lia) (by lia)
  rw [Nat.pow_zero,Nat.mul_one] at u1 u2
  have hI:INF<2^63:=by rw [Xv2];decide
  generalize hR:(Yx0 53 1074 INF 0 false (Jk0 x) (((max (x/2^23%256) 1:Nat):Int)-150)).1=R at *
  have hE:(((max (x/2^23%256) 1:Nat):Int)-150+((0:Nat):Int)+1074).toNat=Xm2 x+925:=by unfold Xm2;lia
  rw [hE,Nat.pow_add,← Nat.mul_assoc,hp,hd1] at u1
  have hval:value (longer x)=if s=true then -((m*2^e*d:Nat):Int) else ((m*2^e*d:Nat):Int):=by
   unfold value
   rw [hlo,Xh6 s (by lia),Jl2,Xq5 s (by lia),u1]
  rw [hval]
  have hvv:v*(O:Int)=if s=true then -((a*O:Nat):Int) else ((a*O:Nat):Int):=by
   rw [← hs,← ha]
   by_cases q:v<0
   ·rw [decide_eq_true q,if_pos rfl,Int.natCast_mul,← Int.neg_mul,Zj8 q]
   ·rw [decide_eq_false q,if_neg (fun q=>by cases q),Int.natCast_mul,Zi8 q]
  rw [hvv]
  have hiff:((if s=true then -((m*2^e*d:Nat):Int) else ((m*2^e*d:Nat):Int))=(if s=true then -((a*O:Nat):Int) else ((a*O:Nat):Int)))↔a*O%(d*2^e)=0:=by
   have e1:m*2^e*d=m*(d*2^e):=by rw [Nat.mul_assoc,Nat.mul_comm (2^e) d]
   have e2:(m*(d*2^e)=a*O)↔a*O%(d*2^e)=0:=by
    constructor
    ·intro q;rw [← q];exact Nat.mul_mod_left _ _
    ·intro q
     rw [← hm,Vk1 q]
     exact Nat.div_mul_cancel (Nat.dvd_of_mod_eq_zero q)
   rw [← e2,e1]
   cases s with
   | true=>simp only [if_true];(omega)
   | false=>simp only [Bool.false_eq_true,if_false];(omega)
  have hun:¬ (a*O<2^23*d):=by
   rw [hONE,← Nat.mul_assoc]
   intro q
   have:=Nat.lt_of_mul_lt_mul_right q
   have:=Zr0.mp this
   lia
  by_cases hz:a*O%(d*2^e)=0
  ·rw [if_pos (hiff.mpr hz),decide_eq_true hz,if_pos rfl,if_neg (fun q=>by cases q.1)]
  ·rw [if_neg (fun q=>hz (hiff.mp q)),decide_eq_false hz,if_neg (fun q=>by cases q),if_neg (fun q=>hun q.2)]
open Kg22
theorem Za2 {r v s:Nat} (h:r<2^s):r|||(v*2^s)=r+v*2^s:=by
 rw [Nat.or_comm,← Nat.shiftLeft_eq,← Nat.shiftLeft_add_eq_or_of_lt h,Nat.add_comm]
theorem Jt6 {r v s w:Nat} (h:r<2^s) (hv:v<2^w):r+v*2^s<2^(s+w):=by
 rw [Nat.pow_add,Nat.mul_comm (2^s)]
 have:v*2^s+2^s≤2^w*2^s:=by rw [← Nat.succ_mul];exact Nat.mul_le_mul_right _ hv
 lia
theorem Xq4 (a b:Nat):(a&&&b)=2*(a/2&&&b/2)+(a%2&&&b%2)∧(a|||b)=2*(a/2|||b/2)+(a%2|||b%2)∧(a^^^b)=2*(a/2^^^b/2)+(a%2^^^b%2):=by
 have h1:=Nat.and_div_two_pow (a:=a) (b:=b) (n:=1)
 have h2:=Nat.or_div_two_pow (a:=a) (b:=b) (n:=1)
 have h3:=Nat.xor_div_two_pow (a:=a) (b:=b) (n:=1)
 have m1:=Nat.and_mod_two_pow (a:=a) (b:=b) (n:=1)
 have m2:=Nat.or_mod_two_pow (a:=a) (b:=b) (n:=1)
 have m3:=Nat.xor_mod_two_pow (a:=a) (b:=b) (n:=1)
 rw [Nat.pow_one] at h1 h2 h3 m1 m2 m3
 rw [← h1,← h2,← h3,← m1,← m2,← m3]
 lia
theorem bit01 {x y:Nat} (hx:x<2) (hy:y<2):(x^^^y)+(x&&&y)=(x|||y)∧(x^^^y)+2*(x&&&y)=x+y:=by
 have:x=0∨x=1:=by lia
 have:y=0∨y=1:=by lia
 rcases ‹x=0∨x=1› with rfl | rfl <;> rcases ‹y=0∨y=1› with rfl | rfl <;> decide
theorem Zs2:∀ (a b:Nat),(a^^^b)+(a&&&b)=(a|||b)∧(a^^^b)+2*(a&&&b)=a+b:=by
 intro a
 induction a using Nat.strongRecOn with
 | ind a ih =>
  intro b
  by_cases h:a=0
  ·subst h;simp
  ·have i:=ih (a/2) (by lia) (b/2)
   have r:=Xq4 a b
   have c:=bit01 (x:=a%2) (y:=b%2) (by lia) (by lia)
   lia
theorem Ze6 {x n:Nat} (h:x<2^n):x^^^(2^n-1)=2^n-1-x:=by
 have e:2^n-1-x=2^n-(x+1):=by lia
 rw [e]
 apply Nat.eq_of_testBit_eq
 intro i
 rw [Nat.testBit_two_pow_sub_succ h,Nat.testBit_xor,Nat.testBit_two_pow_sub_one]
 by_cases hi:i<n
 ·simp [hi]
 ·have:x.testBit i=false:=Nat.testBit_lt_two_pow (Nat.lt_of_lt_of_le h (Nat.pow_le_pow_right (by decide) (by lia)))
  simp [hi,this]
def pc:Nat→Nat→Nat
 | 0,_=>0
 | k+1,x=>x%2+pc k (x/2)
theorem Jr3 (k:Nat):∀ x,((List.range k).filter fun (i:Nat)=>x.testBit i).length=pc k x:=by
 induction k with
 | zero=>intro x;rfl
 | succ k ih =>
  intro x
  rw [List.range_succ_eq_map,List.filter_cons,List.filter_map]
  have e:((fun (i:Nat)=>x.testBit i) ∘ Nat.succ)=fun i=>(x/2).testBit i:=by
   funext i;show x.testBit (i+1)=_;rw [Nat.testBit_succ]
  rw [e]
  show _=x%2+pc k (x/2)
  have h0:x.testBit 0=decide (x%2=1):=Nat.testBit_zero x
  rw [h0]
  by_cases h:x%2=1
  ·simp only [h,decide_true,if_true,List.length_cons,List.length_map,ih];lia
  ·have:x%2=0:=by lia
   simp only [this,show decide ((0:Nat)=1)=false from rfl,Bool.false_eq_true,if_false,List.length_map,ih];lia
theorem pc_low:∀ (k x:Nat),x≠0→x<2^k→pc k (x&&&(x-1))+1=pc k x:=by
 intro k
 induction k with
 | zero=>intro x h1 h2;simp at h2;lia
 | succ k ih =>
  intro x h1 h2
  have hp:2^(k+1)=2^k*2:=Nat.pow_succ _ _
  obtain ⟨r,_,_⟩:=Xq4 x (x-1)
  show (x&&&(x-1))%2+pc k ((x&&&(x-1))/2)+1=x%2+pc k (x/2)
  rcases Nat.mod_two_eq_zero_or_one x with z | z
  ·have a1:(x-1)%2=1:=by lia
   have a2:(x-1)/2=x/2-1:=by lia
   rw [z,a1,a2,show (0&&&1:Nat)=0 from rfl] at r
   have i:=ih (x/2) (by lia) (by lia)
   have b1:(x&&&(x-1))%2=0:=by lia
   have b2:(x&&&(x-1))/2=(x/2&&&(x/2-1)):=by lia
   rw [b1,b2,z];lia
  ·have a1:(x-1)%2=0:=by lia
   have a2:(x-1)/2=x/2:=by lia
   rw [z,a1,a2,show (1&&&0:Nat)=0 from rfl,Nat.and_self] at r
   have b1:(x&&&(x-1))%2=0:=by lia
   have b2:(x&&&(x-1))/2=x/2:=by lia
   rw [b1,b2,z];lia
theorem Yq6 {x:Nat} (h1:x≠0) (h2:x<2^64):ones (x&&&(x-1))+1=ones x:=by
 unfold ones;rw [Jr3,Jr3];exact pc_low 64 x h1 h2
theorem Vf5:ones 0=0:=by unfold ones;rw [Jr3];decide
theorem Zw4 {x:Nat} (h1:x≠0):(x&&&(x-1))<x:=Nat.lt_of_le_of_lt Nat.and_le_right (by lia)
def Xn2 (w x y:Nat) (i:Nat):Nat:=(List.range i).foldl (fun r i=>r+(x/2^(w*i)%2^w-y/2^(w*i)%2^w)*2^(w*i)) 0
theorem Je2 (w x y i:Nat):Xn2 w x y (i+1)=Xn2 w x y i+(x/2^(w*i)%2^w-y/2^(w*i)%2^w)*2^(w*i):=by
 unfold Xn2;rw [List.range_succ,List.foldl_append];rfl
theorem Yb3 (w x y:Nat):∀ i,Xn2 w x y i<2^(w*i)
 | 0=>by simp [Xn2]
 | i+1=>by
  rw [Je2,Nat.mul_succ]
  exact Jt6 (Yb3 w x y i) (by have:=Nat.mod_lt (x/2^(w*i)) (Nat.two_pow_pos w);lia)
theorem Vb6 (w x y i:Nat):Xn2 w x y i|||((x/2^(w*i)%2^w-y/2^(w*i)%2^w)*2^(w*i))=Xn2 w x y (i+1):=by
 rw [Za2 (Yb3 w x y i),Je2]
theorem Jl6 (w x y:Nat):dif w x y=Xn2 w x y (64/w):=rfl
def Yw0 (y k:Nat):Nat:=y/2^(8*k)%256
def Xt1 (xor:Bool) (r p:Nat):Nat:=if xor=true then r^^^p else r|||p
theorem Yq2 (xor:Bool) (r:Nat):Xt1 xor r 0=r:=by unfold Xt1;split <;> simp
theorem Xw5 (xor:Bool) (a b:Nat):Xt1 xor a b=Xt1 xor b a:=by unfold Xt1;split;exact Nat.xor_comm a b;exact Nat.or_comm a b
theorem Uf4 (xor:Bool) (a b c:Nat):Xt1 xor (Xt1 xor a b) c=Xt1 xor a (Xt1 xor b c):=by unfold Xt1;cases xor;exact Nat.or_assoc a b c;exact Nat.xor_assoc a b c
theorem Xv5 {xor:Bool}{a b k:Nat} (ha:a<2^k) (hb:b<2^k):Xt1 xor a b<2^k:=by unfold Xt1;split;exact Nat.xor_lt_two_pow ha hb;exact Nat.or_lt_two_pow ha hb
def Jh5 (y c:Nat) (k:Nat):List Nat:=((List.range k).filter fun (i:Nat)=>c.testBit i).map (Yw0 y)
def Jo1 (xor:Bool) (y c:Nat):Nat:=(Jh5 y c 8).foldl (Xt1 xor) 0
theorem Xo2 (xor:Bool) (y c:Nat):∀ (k a:Nat),(Jh5 y c k).foldl (Xt1 xor) a=(List.range k).foldl (fun r i=>Xt1 xor r (if c.testBit i=true then Yw0 y i else 0)) a:=by
 intro k
 induction k with
 | zero=>intro a;rfl
 | succ k ih =>
  intro a
  unfold Jh5 at *
  rw [List.range_succ,List.filter_append,List.map_append,List.foldl_append,List.foldl_append,ih]
  by_cases h:c.testBit k=true
  ·simp [h]
  ·simp [h,Yq2]
theorem Xj6 (xor:Bool) (y c:Nat) :
  (List.range 8).foldl (fun r k=>if c.testBit (7-k)=true then (if xor=true then r^^^(bytesOf y).getD k 0 else r|||(bytesOf y).getD k 0) else r) 0=Jo1 xor y c:=by
 have e:∀ k,k<8→(bytesOf y).getD k 0=Yw0 y (7-k):=fun k hk=>by
  unfold bytesOf Yw0
  rw [List.getD_eq_getElem?_getD,List.getElem?_map,List.getElem?_range hk]
  show y/256^(7-k)%256=_
  rw [show (256:Nat)=2^8 from rfl,← Nat.pow_mul]
 have f:∀ (l:List Nat) (a:Nat),(∀ k∈l,k<8)→l.foldl (fun r k=>if c.testBit (7-k)=true then (if xor=true then r^^^(bytesOf y).getD k 0 else r|||(bytesOf y).getD k 0) else r) a=l.foldl (fun r k=>Xt1 xor r (if c.testBit (7-k)=true then Yw0 y (7-k) else 0)) a:=by
  intro l
  induction l with
  | nil=>intro a _;rfl
  | cons x l ih =>
   intro a h
   rw [List.foldl_cons,List.foldl_cons,ih _ (fun k hk=>h k (List.mem_cons_of_mem _ hk))]
   congr 1
   rw [e x (h x List.mem_cons_self)]
   by_cases q:c.testBit (7-x)=true
   ·rw [if_pos q,if_pos q];rfl
   ·rw [if_neg q,if_neg q,Yq2]
 rw [f (List.range 8) 0 (fun k hk=>List.mem_range.mp hk)]
 unfold Jo1
 rw [Xo2]
 simp only [show List.range 8=[0,1,2,3,4,5,6,7] from rfl,List.foldl_cons,List.foldl_nil,Nat.sub_zero,Nat.sub_self,show 7-1=6 from rfl,show 7-2=5 from rfl,show 7-3=4 from rfl,show 7-4=3 from rfl,show 7-5=2 from rfl,show 7-6=1 from rfl]
 generalize (if c.testBit 0=true then Yw0 y 0 else 0)=p0
 generalize (if c.testBit 1=true then Yw0 y 1 else 0)=p1
 generalize (if c.testBit 2=true then Yw0 y 2 else 0)=p2
 generalize (if c.testBit 3=true then Yw0 y 3 else 0)=p3
 generalize (if c.testBit 4=true then Yw0 y 4 else 0)=p4
 generalize (if c.testBit 5=true then Yw0 y 5 else 0)=p5
 generalize (if c.testBit 6=true then Yw0 y 6 else 0)=p6
 generalize (if c.testBit 7=true then Yw0 y 7 else 0)=p7
 have ia:Std.Associative (Xt1 xor):=⟨Uf4 xor⟩
 have ic:Std.Commutative (Xt1 xor):=⟨Xw5 xor⟩
 ac_rfl
def Ua5 (xor:Bool) (y z:Nat):Nat→Nat
 | 0=>0
 | j+1=>Ua5 xor y z j+Jo1 xor y (Yw0 z j)*2^(8*j)
theorem Ub3 (y k:Nat):Yw0 y k<2^8:=Nat.mod_lt _ (by decide)
theorem mor_eq (xor:Bool) (y z:Nat):Kg22.mor xor y z=Ua5 xor y z 8:=by
 unfold Kg22.mor
 dsimp only
 have h:(bytesOf z).map (fun c=>(List.range 8).foldl (fun r k=>if c.testBit (7-k)=true then (if xor=true then r^^^(bytesOf y).getD k 0 else r|||(bytesOf y).getD k 0) else r) 0)=(bytesOf z).map (Jo1 xor y):=by
  apply List.map_congr_left
  intro c _
  exact Xj6 xor y c
 rw [h]
 have hb:bytesOf z=[Yw0 z 7,Yw0 z 6,Yw0 z 5,Yw0 z 4,Yw0 z 3,Yw0 z 2,Yw0 z 1,Yw0 z 0]:=by
  unfold bytesOf Yw0
  simp only [show List.range 8=[0,1,2,3,4,5,6,7] from rfl,List.map_cons,List.map_nil]
 rw [hb]
 unfold ofBytes
 simp only [List.map_cons,List.map_nil,List.foldl_cons,List.foldl_nil,Ua5]
 lia
theorem Ys3 {c i:Nat} (h:i<8) (z j:Nat):(Yw0 z j).testBit i=(z/2^(8*j)).testBit i:=by
 unfold Yw0
 rw [show (256:Nat)=2^8 from rfl,Nat.testBit_mod_two_pow]
 simp [h]
open Kg22
def byt (f:Nat→Nat):Nat→Nat
 | 0=>0
 | n+1=>byt f n+f n*2^(8*n)
theorem Jf2 {f:Nat→Nat} (h:∀ j,f j<2^8):∀ n,byt f n<2^(8*n)
 | 0=>by simp [byt]
 | n+1=>by
  show byt f n+f n*2^(8*n)<_
  rw [Nat.mul_succ]
  exact Jt6 (Jf2 h n) (h n)
theorem Xj1 {r v s:Nat} (h:r<2^s) (i:Nat):(r+v*2^s).testBit i=if i<s then r.testBit i else v.testBit (i-s):=by
 rw [Nat.add_comm,Nat.mul_comm]
 exact Nat.testBit_two_pow_mul_add v h i
theorem Ys4 {xor:Bool}{r r' v v' s:Nat} (h:r<2^s) (h':r'<2^s):Xt1 xor (r+v*2^s) (r'+v'*2^s)=Xt1 xor r r'+Xt1 xor v v'*2^s:=by
 apply Nat.eq_of_testBit_eq
 intro i
 rw [Xj1 (Xv5 h h')]
 unfold Xt1
 cases xor
 ·show ((r+v*2^s)|||(r'+v'*2^s)).testBit i=if i<s then (r|||r').testBit i else (v|||v').testBit (i-s)
  rw [Nat.testBit_or,Xj1 h,Xj1 h',Nat.testBit_or,Nat.testBit_or]
  split <;> rfl
 ·show ((r+v*2^s)^^^(r'+v'*2^s)).testBit i=if i<s then (r^^^r').testBit i else (v^^^v').testBit (i-s)
  rw [Nat.testBit_xor,Xj1 h,Xj1 h',Nat.testBit_xor,Nat.testBit_xor]
  split <;> rfl
theorem Zf8 {r r' v v' s:Nat} (h:r<2^s) (h':r'<2^s):(r+v*2^s)&&&(r'+v'*2^s)=(r&&&r')+(v&&&v')*2^s:=by
 apply Nat.eq_of_testBit_eq
 intro i
 rw [Xj1 (Nat.lt_of_le_of_lt Nat.and_le_left h),Nat.testBit_and,Xj1 h,Xj1 h',Nat.testBit_and,Nat.testBit_and]
 split <;> rfl
theorem Yt4 {xor:Bool}{f g:Nat→Nat} (hf:∀ j,f j<2^8) (hg:∀ j,g j<2^8):∀ n,Xt1 xor (byt f n) (byt g n)=byt (fun j=>Xt1 xor (f j) (g j)) n
 | 0=>by show Xt1 xor 0 0=0;exact Yq2 xor 0
 | n+1=>by
  show Xt1 xor (byt f n+f n*2^(8*n)) (byt g n+g n*2^(8*n))=byt _ n+Xt1 xor (f n) (g n)*2^(8*n)
  rw [Ys4 (Jf2 hf n) (Jf2 hg n),Yt4 hf hg n]
theorem Jp5 {f g:Nat→Nat} (hf:∀ j,f j<2^8) (hg:∀ j,g j<2^8):∀ n,(byt f n&&&byt g n)=byt (fun j=>f j&&&g j) n
 | 0=>by show (0&&&0:Nat)=0;decide
 | n+1=>by
  show (byt f n+f n*2^(8*n))&&&(byt g n+g n*2^(8*n))=byt _ n+(f n&&&g n)*2^(8*n)
  rw [Zf8 (Jf2 hf n) (Jf2 hg n),Jp5 hf hg n]
theorem Jj5 (f:Nat→Nat) (c:Nat):∀ n,byt f n*c=byt (fun j=>f j*c) n
 | 0=>by simp [byt]
 | n+1=>by
  show (byt f n+f n*2^(8*n))*c=byt _ n+(f n*c)*2^(8*n)
  rw [Nat.add_mul,Jj5 f c n,Nat.mul_right_comm]
theorem Xi1 {f g:Nat→Nat}:∀ n,(∀ j,j<n→f j=g j)→byt f n=byt g n
 | 0,_=>rfl
 | n+1,h=>by
  show byt f n+f n*2^(8*n)=byt g n+g n*2^(8*n)
  rw [Xi1 n (fun j hj=>h j (by lia)),h n (by lia)]
theorem byt_of {z:Nat} (h:z<2^64):byt (Yw0 z) 8=z:=by
 have e:∀ n,byt (Yw0 z) n=z%2^(8*n):=by
  intro n
  induction n with
  | zero=>simp [byt,Nat.mod_one]
  | succ n ih =>
   show byt (Yw0 z) n+Yw0 z n*2^(8*n)=_
   rw [ih,Nat.mul_succ,Nat.pow_add,Nat.mod_mul]
   unfold Yw0
   rw [Nat.mul_comm (2^(8*n))]
 rw [e 8]
 exact Nat.mod_eq_of_lt h
def Jq2 (y z k:Nat):Nat:=((z/2^k)&&&72340172838076673)*(y/2^(8*k)%256)
def cell (y z k j:Nat):Nat:=if (Yw0 z j).testBit k=true then Yw0 y k else 0
theorem Ji5 (y z k j:Nat):cell y z k j<2^8:=by
 unfold cell;split
 ·exact Ub3 y k
 ·decide
theorem Jf7:byt (fun _=>1) 8=72340172838076673:=by decide
theorem Vi6 {z k j:Nat} (hk:k<8):Yw0 (z/2^k) j%2=if (Yw0 z j).testBit k=true then 1 else 0:=by
 rw [Ys3 (c:=0) hk]
 unfold Yw0
 rw [Nat.mod_mod_of_dvd _ (by decide:2∣256),Nat.div_div_eq_div_mul,← Nat.pow_add,Nat.testBit_eq_decide_div_mod_eq,Nat.div_div_eq_div_mul,← Nat.pow_add,Nat.add_comm k]
 by_cases h:z/2^(8*j+k)%2=1
 ·rw [decide_eq_true h,if_pos rfl];exact h
 ·rw [decide_eq_false h,if_neg (by decide)];lia
theorem Vf4 {y z k:Nat} (hz:z<2^64) (hk:k<8):Jq2 y z k=byt (cell y z k) 8:=by
 unfold Jq2
 have hz':z/2^k<2^64:=Nat.lt_of_le_of_lt (Nat.div_le_self _ _) hz
 have e:=Jp5 (f:=Yw0 (z/2^k)) (g:=fun _=>1) (Ub3 _) (fun _=>by decide) 8
 rw [byt_of hz',Jf7] at e
 rw [e,Jj5]
 apply Xi1
 intro j _
 show (Yw0 (z/2^k) j&&&1)*(y/2^(8*k)%256)=cell y z k j
 rw [Nat.and_one_is_mod,Vi6 hk]
 unfold cell
 split
 ·rw [Nat.one_mul];rfl
 ·rw [Nat.zero_mul]
theorem Xo4 {xor:Bool}{y z:Nat}:∀ (k:Nat) j,(List.range k).foldl (fun r i=>Xt1 xor r (cell y z i j)) 0<2^8:=by
 intro k j
 induction k with
 | zero=>exact (by decide:(0:Nat)<2^8)
 | succ k ih=>rw [List.range_succ,List.foldl_append];exact Xv5 ih (Ji5 y z k j)
def Jx5 (xor:Bool) (y z k:Nat):Nat:=byt (fun j=>(List.range k).foldl (fun r i=>Xt1 xor r (cell y z i j)) 0) 8
theorem Vi3 (xor:Bool) (y z:Nat):Jx5 xor y z 0=0:=by
 unfold Jx5
 exact (Xi1 (g:=fun _=>0) 8 (fun j _=>rfl)).trans (by decide)
theorem Vj3 {xor:Bool}{y z k:Nat} (hz:z<2^64) (hk:k<8):Xt1 xor (Jx5 xor y z k) (Jq2 y z k)=Jx5 xor y z (k+1):=by
 rw [Vf4 hz hk]
 unfold Jx5
 rw [Yt4 (Xo4 k) (Ji5 y z k)]
 apply Xi1
 intro j _
 rw [List.range_succ,List.foldl_append]
 rfl
theorem Vh3 (xor:Bool) (y z:Nat):∀ n,Ua5 xor y z n=byt (fun j=>Jo1 xor y (Yw0 z j)) n
 | 0=>rfl
 | n+1=>by
  show Ua5 xor y z n+_=_
  rw [Vh3 xor y z n];rfl
theorem Zf4 (xor:Bool) (y z:Nat):Jx5 xor y z 8=Kg22.mor xor y z:=by
 rw [mor_eq,Vh3]
 unfold Jx5
 apply Xi1
 intro j _
 unfold Jo1
 rw [Xo2]
 rfl
theorem Jb7 (xor:Bool) (y z k:Nat):Jx5 xor y z k<2^64:=Jf2 (Xo4 k) 8
theorem Uy6 (xor:Bool) (y z:Nat):Kg22.mor xor y z<2^64:=by rw [← Zf4];exact Jb7 xor y z 8
def Xx2 (a:Int) (n:Int):Int:=if n<0∨65536<n then -8 else if 1048576<a+n then -1 else 0
def lensN:List Nat:=[1,3,3,2,2,1,2,3,2]
def Zl2 (k:Nat) (n:Int):Nat:=lensN.getD k 0+if k=1 then n.toNat else 0
def dut (k:Nat) (m:KM) (as:List Int):KM×List Int:=match k with
 | 0=>(Kg22.init,[0])
 | 1=>if Xx2 (as.getD 1 0) (as.getD 2 0)<0 then (m,[Xx2 (as.getD 1 0) (as.getD 2 0)]) else (Kg22.writes m (as.getD 1 0).toNat ((as.drop 3).map Int.toNat),[0])
 | 2=>(m,if Xx2 (as.getD 1 0) (as.getD 2 0)<0 then [Xx2 (as.getD 1 0) (as.getD 2 0)] else as.getD 2 0 :: (List.range (as.getD 2 0).toNat).map fun (i:Nat)=>((m.mem (((as.getD 1 0).toNat+i)/8)/256^(7-((as.getD 1 0).toNat+i)%8)%256:Nat):Int))
 | 3=>({ m with pc:=(as.getD 1 0).toNat },[0])
 | 4=>if as.getD 1 0<0 then (m,[-8]) else ((KC (as.getD 1 0).toNat m).1,[(KC (as.getD 1 0).toNat m).2])
 | 5=>(m,[0,(m.pc:Int)])
 | 6=>(m,if as.getD 1 0<0∨255<as.getD 1 0 then [-8] else [0,(KS m (as.getD 1 0).toNat:Int)])
 | 7=>if as.getD 1 0<0∨255<as.getD 1 0 then (m,[-8]) else (KL m (as.getD 1 0).toNat (as.getD 2 0).toNat,[0])
 | _=>(m,if as.getD 1 0<0∨31<as.getD 1 0 then [-8] else [0,(Kg22.special_ m (as.getD 1 0).toNat:Int)])
def okD (k:Nat) (as:List Int):Prop:=match k with
 | 0=>True
 | 1=>(as.length:Int)=3+as.getD 2 0∧0≤as.getD 2 0∧as.getD 2 0≤15000∧0≤as.getD 1 0∧as.getD 1 0<2^64∧∀ v∈as.drop 3,0≤v∧v<256
 | 2=>as.length=3∧0≤as.getD 1 0∧as.getD 1 0<2^64 ∧ -(2^31)≤as.getD 2 0∧as.getD 2 0<2^31
 | 3=>as.length=2∧0≤as.getD 1 0∧as.getD 1 0<2^64
 | 4=>as.length=2 ∧ -(2^31)≤as.getD 1 0∧as.getD 1 0≤100000
 | 5=>True
 | 6=>as.length=2
 | 7=>as.length=3∧0≤as.getD 2 0∧as.getD 2 0<2^64
 | _=>as.length=2
open Kg22Neutral in
theorem Xx1 {z:Int} (h1:-2147483648≤z) (h2:z≤2147483647):i32 (unsigned 32 z)=z:=by
 unfold i32 unsigned
 have e:((2^32:Nat):Int)=4294967296:=by decide
 rw [e]
 by_cases h:0≤z
 ·rw [Int.emod_eq_of_lt h (by lia),if_pos (by lia)];lia
 ·have e2:z%4294967296=z+4294967296:=by lia
  rw [e2,if_neg (by lia)];lia
theorem wit {lo hi z:Int} (h:PyInside.within lo hi z=true):lo≤z∧z≤hi:=by
 unfold PyInside.within at h
 simp only [Bool.and_eq_true,decide_eq_true_eq] at h
 exact h
structure Next (l:List Int) (cs:List (List (List Int))):Prop where
 ex:∃ (k:Nat) (n:Int) (f:Nat) (c:List (List Int)) (cs':List (List (List Int))),k<9∧l[0]? = some (k:Int)∧(k=1→l[2]? = some n∧0≤n)∧Zl2 k n≤l.length∧cs=c :: cs' ∧
  PyFlat.calls PyKg22.shape f (l.drop (Zl2 k n))=some cs'∧okD k (l.take (Zl2 k n))∧∀ m,Kg22Neutral.step m (PyKg22.whole c)=dut k m (l.take (Zl2 k n))
theorem Zw6 {p:Int}{x:Nat×Nat} (h:PyKg22.shape p=some x):∃ k:Nat,k<9∧p=(k:Int):=by
 unfold PyKg22.shape at h
 by_cases h0:0≤p∧p<9
 ·exact ⟨p.toNat,by lia,by lia⟩
 ·iterate 8 rewrite [if_neg (by lia)] at h
  rw [if_neg (by lia)] at h
  cases h
theorem Uf0 {p:Int}{r:List Int}{n:Nat}{c:List (List Int)}{t:List Int} (es:PyKg22.shape p=some (n,0)) (e:PyFlat.call PyKg22.shape (p :: r)=some (c,t)):n≤r.length∧c=[p :: r.take n]∧t=r.drop n:=by
 unfold PyFlat.call at e
 dsimp only at e
 rw [es] at e
 dsimp only at e
 by_cases h:r.length<n
 ·rw [if_pos h] at e;cases e
 ·rw [if_neg h] at e
  have e':=Option.some.inj e
  injection e' with a b
  exact ⟨by lia,a.symm,b.symm⟩
theorem Ve6 {p:Int}{r:List Int}{c:List (List Int)}{t:List Int} (es:PyKg22.shape p=some (1,1)) (e:PyFlat.call PyKg22.shape (p :: r)=some (c,t)) :
  ∃ a n s,r=a :: n :: s∧0≤n∧n.toNat≤s.length∧c=[[p,a],s.take n.toNat]∧t=s.drop n.toNat:=by
 unfold PyFlat.call at e
 dsimp only at e
 rw [es] at e
 dsimp only at e
 by_cases h:r.length<1
 ·rw [if_pos h] at e;cases e
 ·rw [if_neg h] at e
  match r,h,e with
  | [],h,_=>exact absurd (by decide) h
  | [a],_,e=>cases e
  | a :: n :: s,_,e =>
   by_cases hn:0≤n∧n.toNat≤s.length
   ·have er:PyFlat.rows 1 (List.drop 1 (a :: n :: s))=some ([s.take n.toNat],s.drop n.toNat):=by
     show (match PyFlat.row (n :: s) with | none=>none | some (x,s)=>_)=_
     have:PyFlat.row (n :: s)=some (s.take n.toNat,s.drop n.toNat):=if_pos hn
     rw [this];rfl
    rw [er] at e
    have e':=Option.some.inj e
    injection e' with a' b'
    exact ⟨a,n,s,rfl,hn.1,hn.2,a'.symm,b'.symm⟩
   ·have er:PyFlat.rows 1 (List.drop 1 (a :: n :: s))=none:=by
     show (match PyFlat.row (n :: s) with | none=>none | some (x,s)=>_)=_
     have:PyFlat.row (n :: s)=none:=if_neg hn
     rw [this]
    rw [er] at e;cases e
theorem Xn6 {α:Type}{r:List α} (h:1≤r.length):∃ a s,r=a :: s:=by
 cases r with
 | nil=>cases h
 | cons a s=>exact ⟨a,s,rfl⟩
theorem list2 {α:Type}{r:List α} (h:2≤r.length):∃ a b s,r=a :: b :: s:=by
 match r,h with
 | [],h=>cases h
 | [_],h=>exact absurd h (by show ¬ 2≤1;decide)
 | a :: b :: s,_=>exact ⟨a,b,s,rfl⟩
theorem Uw7 {f:Nat}{p:Int}{r:List Int}{cs:List (List (List Int))} (h:PyFlat.calls PyKg22.shape f (p :: r)=some cs) (hb:PyInside.calls PyKg22.bound cs=true):Next (p :: r) cs:=by
 cases f with
 | zero=>cases h
 | succ f =>
  unfold PyFlat.calls at h
  cases e:PyFlat.call PyKg22.shape (p :: r) with
  | none=>rw [e] at h;cases h
  | some ct =>
   obtain ⟨c,t⟩:=ct
   rw [e] at h
   dsimp only at h
   cases e2:PyFlat.calls PyKg22.shape f t with
   | none=>rw [e2] at h;cases h
   | some cs' =>
    rw [e2] at h
    obtain rfl:c :: cs'=cs:=Option.some.inj h
    have hc:PyInside.call PyKg22.bound c=true:=by
     unfold PyInside.calls at hb
     rw [List.all_cons,Bool.and_eq_true] at hb
     exact hb.1
    cases es:PyKg22.shape p with
    | none=>unfold PyFlat.call at e;dsimp only at e;rw [es] at e;cases e
    | some x =>
     obtain ⟨k,hk,rfl⟩:=Zw6 es
     have hk':k=0∨k=1∨k=2∨k=3∨k=4∨k=5∨k=6∨k=7∨k=8:=by lia
     rcases hk' with rfl | rfl | rfl | rfl | rfl | rfl | rfl | rfl | rfl
     ·obtain ⟨h1,rfl,rfl⟩:=Uf0 (n:=0) rfl e
      exact ⟨0,0,f,_,cs',by decide,rfl,(by intro z;cases z),by show 1≤_+1;lia,rfl,e2,trivial,fun m=>rfl⟩
     ·obtain ⟨a,n,s,rfl,h0,h1,rfl,rfl⟩:=Ve6 rfl e
      have hc':((PyInside.within 0 18446744073709551615 a && true) && (decide (0≤(s.take n.toNat).length) && decide ((s.take n.toNat).length≤15000) && (s.take n.toNat).all (PyInside.within 0 255) && true))=true:=hc
      simp only [Bool.and_true,Bool.and_eq_true,decide_eq_true_eq,List.length_take,List.all_eq_true] at hc'
      obtain ⟨ha,⟨_,hl⟩,hv⟩:=hc'
      have ha':=wit ha
      have hn:n.toNat≤15000:=by lia
      have hlen:(s.take n.toNat).length=n.toNat:=by rw [List.length_take];lia
      have et:List.take (Zl2 1 n) (((1:Nat):Int) :: a :: n :: s)=((1:Nat):Int) :: a :: n :: s.take n.toNat:=by
       show List.take (3+n.toNat) _=_
       rw [Nat.add_comm];rfl
      have ed:List.drop (Zl2 1 n) (((1:Nat):Int) :: a :: n :: s)=s.drop n.toNat:=by
       show List.drop (3+n.toNat) _=_
       rw [Nat.add_comm];rfl
      refine ⟨1,n,f,_,cs',by decide,rfl,fun _=>⟨rfl,h0⟩,?_,rfl,?_,?_,?_⟩
      ·show 3+n.toNat≤s.length+1+1+1;lia
      ·rw [ed];exact e2
      ·rw [et]
       refine ⟨?_,h0,?_,ha'.1,?_,?_⟩
       ·show (((s.take n.toNat).length+1+1+1:Nat):Int)=3+n
        rw [hlen];lia
       ·show n≤15000;lia
       ·show a<2^64;lia
       ·intro v hv'
        have:=wit (hv v hv')
        lia
      ·intro m
       rw [et]
       have eh:Kg22Neutral.i32 (Kg22Neutral.unsigned 32 ((s.take n.toNat).length:Int))=n:=by
        rw [Xx1 (by lia) (by lia),hlen];lia
       have ecount:(Kg22Neutral.counted 0 65536 1 (Kg22Neutral.unsigned 32 ((s.take n.toNat).length:Int) :: ((s.take n.toNat).map Int.toNat++[]))).1=some ((s.take n.toNat).map Int.toNat):=by
        unfold Kg22Neutral.counted Kg22Neutral.h32
        rw [List.headD_cons,eh]
        dsimp only
        rw [if_pos (by lia)]
        show some ((List.take (1*n.toNat) ((s.take n.toNat).map Int.toNat++[])))=_
        rw [List.append_nil,Nat.one_mul,List.take_of_length_le (by rw [List.length_map,hlen];lia)]
       have est:Kg22Neutral.step m (PyKg22.whole [[((1:Nat):Int),a],s.take n.toNat])=((Kg22.does m (.write a.toNat (some ((s.take n.toNat).map Int.toNat)))).1,(Kg22.does m (.write a.toNat (some ((s.take n.toNat).map Int.toNat)))).2.value :: Kg22Neutral.ofNats (Kg22.does m (.write a.toNat (some ((s.take n.toNat).map Int.toNat)))).2.out):=by
        rw [← ecount];rfl
       rw [est]
       show _=(if Xx2 a n<0 then (m,[Xx2 a n]) else (Kg22.writes m a.toNat ((s.take n.toNat).map Int.toNat),[0]))
       have hsz:(1048576<a+n)↔Kg22.SIZE<a.toNat+((s.take n.toNat).map Int.toNat).length:=by
        rw [List.length_map,hlen]
        have:Kg22.SIZE=1048576:=by decide
        lia
       have er:Xx2 a n=if 1048576<a+n then -1 else 0:=if_neg (by lia)
       by_cases hx:1048576<a+n
       ·rw [er,if_pos hx]
        have hx':=hsz.mp hx
        have ed2:Kg22.does m (.write a.toNat (some ((s.take n.toNat).map Int.toNat)))=(m,Kg22.num (-1)):=if_pos hx'
        rw [ed2];rfl
       ·rw [er,if_neg hx]
        have hx':=fun z=>hx (hsz.mpr z)
        have ed2:Kg22.does m (.write a.toNat (some ((s.take n.toNat).map Int.toNat)))=(Kg22.writes m a.toNat ((s.take n.toNat).map Int.toNat),Kg22.num 0):=if_neg hx'
        rw [ed2];rfl
     ·obtain ⟨h1,rfl,rfl⟩:=Uf0 (n:=2) rfl e
      obtain ⟨a,n,s,rfl⟩:=list2 h1
      have hc':((PyInside.within 0 18446744073709551615 a && (PyInside.within (-2147483648) 2147483647 n && true)) && true)=true:=hc
      simp only [Bool.and_true,Bool.and_eq_true] at hc'
      have ha:=wit hc'.1
      have hn:=wit hc'.2
      refine ⟨2,0,f,_,cs',by decide,rfl,(by intro z;cases z),by show 3≤s.length+1+1+1;lia,rfl,e2,⟨rfl,ha.1,?_,?_,?_⟩,fun m=>?_⟩
      ·show a<2^64;lia
      ·show -(2^31)≤n;lia
      ·show n<2^31;lia
      ·have eh:Kg22Neutral.i32 (Kg22Neutral.unsigned 32 n)=n:=Xx1 hn.1 hn.2
       show (m,(Kg22.does m (.read a.toNat (Kg22Neutral.i32 (Kg22Neutral.unsigned 32 n)))).2.value :: Kg22Neutral.ofNats (Kg22.does m (.read a.toNat (Kg22Neutral.i32 (Kg22Neutral.unsigned 32 n)))).2.out)=_
       rw [eh]
       show _=(m,if Xx2 a n<0 then [Xx2 a n] else n :: (List.range n.toNat).map fun (i:Nat)=>((m.mem ((a.toNat+i)/8)/256^(7-(a.toNat+i)%8)%256:Nat):Int))
       have hsz:(¬ (n<0∨65536<n))→((1048576<a+n)↔Kg22.SIZE<a.toNat+n.toNat):=fun _=>by
        have:Kg22.SIZE=1048576:=by decide
        lia
       have edoes:(Kg22.does m (.read a.toNat n)).2=(if n<0∨65536<n then Kg22.num (-8) else if Kg22.SIZE<a.toNat+n.toNat then Kg22.num (-1) else ⟨n,(List.range n.toNat).map fun (i:Nat)=>m.mem ((a.toNat+i)/8)/256^(7-(a.toNat+i)%8)%256⟩):=rfl
       rw [edoes]
       unfold Xx2
       by_cases hx:n<0∨65536<n
       ·rw [if_pos hx,if_pos hx,if_pos (by decide)];rfl
       ·rw [if_neg hx,if_neg hx]
        by_cases hy:1048576<a+n
        ·rw [if_pos hy,if_pos ((hsz hx).mp hy),if_pos (by decide)];rfl
        ·rw [if_neg hy,if_neg (fun z=>hy ((hsz hx).mpr z)),if_neg (by decide)]
         show (m,n :: ((List.range n.toNat).map fun (i:Nat)=>m.mem ((a.toNat+i)/8)/256^(7-(a.toNat+i)%8)%256).map (fun (c:Nat)=>(c:Int)))=_
         rw [List.map_map];rfl
     ·obtain ⟨h1,rfl,rfl⟩:=Uf0 (n:=1) rfl e
      obtain ⟨a,s,rfl⟩:=Xn6 h1
      have hc':((PyInside.within 0 18446744073709551615 a && true) && true)=true:=hc
      simp only [Bool.and_true] at hc'
      have ha:=wit hc'
      refine ⟨3,0,f,_,cs',by decide,rfl,(by intro z;cases z),by show 2≤s.length+1+1;lia,rfl,e2,⟨rfl,ha.1,?_⟩,fun m=>rfl⟩
      show a<2^64;lia
     ·obtain ⟨h1,rfl,rfl⟩:=Uf0 (n:=1) rfl e
      obtain ⟨a,s,rfl⟩:=Xn6 h1
      have hc':((PyInside.within (-2147483648) 100000 a && true) && true)=true:=hc
      simp only [Bool.and_true] at hc'
      have ha:=wit hc'
      refine ⟨4,0,f,_,cs',by decide,rfl,(by intro z;cases z),by show 2≤s.length+1+1;lia,rfl,e2,⟨rfl,?_,ha.2⟩,fun m=>?_⟩
      ·show -(2^31)≤a;lia
      ·have eh:Kg22Neutral.i32 (Kg22Neutral.unsigned 32 a)=a:=Xx1 (by lia) (by lia)
       show ((Kg22.does m (.run (Kg22Neutral.i32 (Kg22Neutral.unsigned 32 a)))).1,(Kg22.does m (.run (Kg22Neutral.i32 (Kg22Neutral.unsigned 32 a)))).2.value :: Kg22Neutral.ofNats (Kg22.does m (.run (Kg22Neutral.i32 (Kg22Neutral.unsigned 32 a)))).2.out)=_
       rw [eh]
       show _=if a<0 then (m,[-8]) else ((KC a.toNat m).1,[(KC a.toNat m).2])
       have edoes:Kg22.does m (.run a)=if a<0 then (m,Kg22.num (-8)) else ((KC a.toNat m).1,Kg22.num (KC a.toNat m).2):=rfl
       rw [edoes]
       by_cases hx:a<0
       ·rw [if_pos hx,if_pos hx];rfl
       ·rw [if_neg hx,if_neg hx];rfl
     ·obtain ⟨h1,rfl,rfl⟩:=Uf0 (n:=0) rfl e
      exact ⟨5,0,f,_,cs',by decide,rfl,(by intro z;cases z),by show 1≤_+1;lia,rfl,e2,trivial,fun m=>rfl⟩
     ·obtain ⟨h1,rfl,rfl⟩:=Uf0 (n:=1) rfl e
      obtain ⟨a,s,rfl⟩:=Xn6 h1
      have hc':((PyInside.within (-2147483648) 2147483647 a && true) && true)=true:=hc
      simp only [Bool.and_true] at hc'
      have ha:=wit hc'
      refine ⟨6,0,f,_,cs',by decide,rfl,(by intro z;cases z),by show 2≤s.length+1+1;lia,rfl,e2,rfl,fun m=>?_⟩
      have eh:Kg22Neutral.i32 (Kg22Neutral.unsigned 32 a)=a:=Xx1 ha.1 ha.2
      show (m,(Kg22.does m (.get (Kg22Neutral.i32 (Kg22Neutral.unsigned 32 a)))).2.value :: Kg22Neutral.ofNats (Kg22.does m (.get (Kg22Neutral.i32 (Kg22Neutral.unsigned 32 a)))).2.out)=_
      rw [eh]
      show _=(m,if a<0∨255<a then [-8] else [0,(KS m a.toNat:Int)])
      have edoes:(Kg22.does m (.get a)).2=if a<0∨255<a then Kg22.num (-8) else ⟨0,[KS m a.toNat]⟩:=rfl
      rw [edoes]
      by_cases hx:a<0∨255<a
      ·rw [if_pos hx,if_pos hx];rfl
      ·rw [if_neg hx,if_neg hx];rfl
     ·obtain ⟨h1,rfl,rfl⟩:=Uf0 (n:=2) rfl e
      obtain ⟨a,x,s,rfl⟩:=list2 h1
      have hc':((PyInside.within (-2147483648) 2147483647 a && (PyInside.within 0 18446744073709551615 x && true)) && true)=true:=hc
      simp only [Bool.and_true,Bool.and_eq_true] at hc'
      have ha:=wit hc'.1
      have hx:=wit hc'.2
      refine ⟨7,0,f,_,cs',by decide,rfl,(by intro z;cases z),by show 3≤s.length+1+1+1;lia,rfl,e2,⟨rfl,hx.1,?_⟩,fun m=>?_⟩
      ·show x<2^64;lia
      ·have eh:Kg22Neutral.i32 (Kg22Neutral.unsigned 32 a)=a:=Xx1 ha.1 ha.2
       show ((Kg22.does m (.set (Kg22Neutral.i32 (Kg22Neutral.unsigned 32 a)) x.toNat)).1,(Kg22.does m (.set (Kg22Neutral.i32 (Kg22Neutral.unsigned 32 a)) x.toNat)).2.value :: Kg22Neutral.ofNats (Kg22.does m (.set (Kg22Neutral.i32 (Kg22Neutral.unsigned 32 a)) x.toNat)).2.out)=_
       rw [eh]
       show _=if a<0∨255<a then (m,[-8]) else (KL m a.toNat x.toNat,[0])
       have edoes:Kg22.does m (.set a x.toNat)=if a<0∨255<a then (m,Kg22.num (-8)) else (KL m a.toNat x.toNat,Kg22.num 0):=rfl
       rw [edoes]
       by_cases hx:a<0∨255<a
       ·rw [if_pos hx,if_pos hx];rfl
       ·rw [if_neg hx,if_neg hx];rfl
     ·obtain ⟨h1,rfl,rfl⟩:=Uf0 (n:=1) rfl e
      obtain ⟨a,s,rfl⟩:=Xn6 h1
      have hc':((PyInside.within (-2147483648) 2147483647 a && true) && true)=true:=hc
      simp only [Bool.and_true] at hc'
      have ha:=wit hc'
      refine ⟨8,0,f,_,cs',by decide,rfl,(by intro z;cases z),by show 2≤s.length+1+1;lia,rfl,e2,rfl,fun m=>?_⟩
      have eh:Kg22Neutral.i32 (Kg22Neutral.unsigned 32 a)=a:=Xx1 ha.1 ha.2
      show (m,(Kg22.does m (.special (Kg22Neutral.i32 (Kg22Neutral.unsigned 32 a)))).2.value :: Kg22Neutral.ofNats (Kg22.does m (.special (Kg22Neutral.i32 (Kg22Neutral.unsigned 32 a)))).2.out)=_
      rw [eh]
      show _=(m,if a<0∨31<a then [-8] else [0,(Kg22.special_ m a.toNat:Int)])
      have edoes:(Kg22.does m (.special a)).2=if a<0∨31<a then Kg22.num (-8) else ⟨0,[Kg22.special_ m a.toNat]⟩:=rfl
      rw [edoes]
      by_cases hx:a<0∨31<a
      ·rw [if_pos hx,if_pos hx];rfl
      ·rw [if_neg hx,if_neg hx];rfl
def Todo (l:List Int) (i:Nat) (m:KM) (g:List Int):Prop:=∃ f cs,PyFlat.calls PyKg22.shape f (l.drop i)=some cs∧PyInside.calls PyKg22.bound cs=true∧g++PyFlat.told (PyFlat.played Kg22Neutral.step m (cs.map PyKg22.whole))=PyKg22.answers l
theorem Xw4 {l:List Int} (h:PyKg22.answers_asked l=true):Todo l 0 Kg22.init []:=by
 unfold PyKg22.answers_asked at h
 cases e:PyFlat.calls PyKg22.shape l.length l with
 | none=>rw [e] at h;cases h
 | some cs =>
  rw [e] at h
  simp only [Bool.and_eq_true] at h
  refine ⟨l.length,cs,e,h.1.2,?_⟩
  unfold PyKg22.answers PyKg22.calls
  rw [e];rfl
theorem Ya4 {S:Type} (step:S→List (List Int)→S×List Int):∀ (cs:List (List (List Int))) (s:S) , (PyFlat.told (PyFlat.played step s cs)).length=cs.length+(PyFlat.played step s cs).flatten.length
 | [],s=>rfl
 | c :: r,s=>by
  have ih:=Ya4 step r (step s c).1
  unfold PyFlat.told at ih ⊢
  show (List.flatMap _ ((step s c).2 :: PyFlat.played step (step s c).1 r)).length=(c :: r).length+((step s c).2 :: PyFlat.played step (step s c).1 r).flatten.length
  rw [List.flatMap_cons,List.length_append,ih,List.flatten_cons,List.length_append,List.length_cons,List.length_cons]
  lia
theorem Yr3:∀ (cs:List (List (List Int))) (s:KM),Kg22Neutral.total s cs=(PyFlat.played Kg22Neutral.step s cs).flatten.length
 | [],s=>rfl
 | c :: r,s=>by
  show (Kg22Neutral.step s c).2.length+Kg22Neutral.total (Kg22Neutral.step s c).1 r=((Kg22Neutral.step s c).2 :: PyFlat.played Kg22Neutral.step (Kg22Neutral.step s c).1 r).flatten.length
  rw [List.flatten_cons,List.length_append,Yr3 r]
theorem Yi3 {l:List Int} (h:PyKg22.answers_asked l=true):(PyKg22.answers l).length≤1000100:=by
 unfold PyKg22.answers_asked at h
 cases e:PyFlat.calls PyKg22.shape l.length l with
 | none=>rw [e] at h;cases h
 | some cs =>
  rw [e] at h
  simp only [Bool.and_eq_true] at h
  obtain ⟨⟨_,_⟩,ha⟩:=h
  unfold Kg22Neutral.asked at ha
  simp only [Bool.and_eq_true,decide_eq_true_eq] at ha
  obtain ⟨_,hl,_,ht⟩:=ha
  unfold PyKg22.answers PyKg22.calls
  rw [e]
  show (PyFlat.told (PyFlat.played Kg22Neutral.step Kg22Neutral.start (cs.map PyKg22.whole))).length≤_
  rw [Ya4,← Yr3]
  have ht':Kg22Neutral.total Kg22Neutral.start (cs.map PyKg22.whole)≤1000000:=ht
  lia
theorem Xx4 {l:List Int}{i:Nat}{m:KM}{g:List Int} (h:PyKg22.answers_asked l=true) (t:Todo l i m g):g.length≤1000100:=by
 obtain ⟨f,cs,_,_,e⟩:=t
 have:=Yi3 h
 rw [← e,List.length_append] at this
 lia
theorem Zj5 {l:List Int}{i:Nat}{m:KM}{g:List Int} (t:Todo l i m g) (h:l.length≤i):g=PyKg22.answers l:=by
 obtain ⟨f,cs,e,_,er⟩:=t
 rw [List.drop_eq_nil_of_le h] at e
 have:cs=[]:=by
  cases f <;> exact (Option.some.inj e).symm
 rw [this] at er
 rw [← er]
 show g=g++[]
 rw [List.append_nil]
theorem Xq6 {k:Nat} (h:k<9) (n:Int):0<Zl2 k n:=by
 have hk':k=0∨k=1∨k=2∨k=3∨k=4∨k=5∨k=6∨k=7∨k=8:=by lia
 unfold Zl2
 rcases hk' with rfl | rfl | rfl | rfl | rfl | rfl | rfl | rfl | rfl <;> exact Nat.lt_of_lt_of_le (by decide) (Nat.le_add_right _ _)
theorem Zi5 {l:List Int}{i:Nat}{m:KM}{g:List Int} (t:Todo l i m g) (h:i<l.length):∃ (k:Nat) (n:Int),k<9∧l[i]? = some (k:Int)∧(k=1→l[i+2]? = some n∧0≤n)∧i+Zl2 k n≤l.length∧okD k ((l.drop i).take (Zl2 k n)) ∧
  Todo l (i+Zl2 k n) (dut k m ((l.drop i).take (Zl2 k n))).1 (g++(((dut k m ((l.drop i).take (Zl2 k n))).2.length:Int) :: (dut k m ((l.drop i).take (Zl2 k n))).2)):=by
 obtain ⟨f,cs,e,hb,er⟩:=t
 obtain ⟨p,r,ed⟩:∃ p r,l.drop i=p :: r:=by
  cases e0:l.drop i with
  | nil=>have:=List.drop_eq_nil_iff.mp e0;lia
  | cons p r=>exact ⟨p,r,rfl⟩
 rw [ed] at e
 obtain ⟨k,n,f',c,cs',hk,h0,h2,hl,rfl,ec,ho,hs⟩:=(Uw7 e hb).ex
 rw [← ed] at h0 h2 hl ec ho hs
 rw [List.getElem?_drop] at h0 h2
 rw [List.length_drop] at hl
 refine ⟨k,n,hk,h0,h2,by lia,ho,f',cs',?_,?_,?_⟩
 ·rw [List.drop_drop] at ec;exact ec
 ·unfold PyInside.calls at hb ⊢
  rw [List.all_cons,Bool.and_eq_true] at hb
  exact hb.2
 ·rw [← er,← hs m,List.append_assoc]
  rfl
def Ok5 {α:Type} (x:KD α):Prop:=∀ e,x=.error e→1≤e∧e≤5
theorem Zu1 {α:Type} (a:α):Ok5 (.ok a:KD α):=fun e h=>by cases h
theorem Je0 {α:Type} (k:Nat) (h:1≤k∧k≤5):Ok5 (.error k:KD α):=fun e q=>by cases q;exact h
theorem Yz4 {α β:Type}{x:KD α}{f:α→KD β} (h:Ok5 x) (hf:∀ a,Ok5 (f a)):Ok5 (x.bind f):=by
 cases x with
 | error e=>intro e' q;cases q;exact h e rfl
 | ok a=>exact hf a
theorem Uv0 {α:Type}{c:Prop} [Decidable c] {x y:KD α} (h1:Ok5 x) (h2:Ok5 y):Ok5 (if c then x else y):=by
 by_cases h:c
 ·rw [if_pos h];exact h1
 ·rw [if_neg h];exact h2
theorem Yy4 (m:KM) (a n:Nat):Ok5 (KI m a n):=by
 unfold KI
 exact Uv0 (Je0 1 (by decide)) (Zu1 _)
theorem Vq5 (m:KM) (a n x:Nat):Ok5 (KY m a n x):=by
 unfold KY
 exact Uv0 (Je0 1 (by decide)) (Zu1 _)
theorem Jf4 (m:KM) (x:Nat):Ok5 (Kg22.pushes m x):=by
 unfold Kg22.pushes
 exact Uv0 (Je0 5 (by decide)) (Zu1 _)
theorem Xf6 (m:KM) (x:Nat):Ok5 (Kg22.pops m x):=by
 unfold Kg22.pops
 cases m.pushed with
 | nil=>exact Je0 4 (by decide)
 | cons _ _=>exact Zu1 _
theorem Vr5 (m:KM) (o k y z:Nat):Ok5 (Kg22.floatOp m o k y z):=by
 unfold Kg22.floatOp
 dsimp only
 split <;> first | exact Zu1 _ | exact Je0 2 (by decide) | exact Uv0 (Je0 2 (by decide)) (Zu1 _)
theorem Xg6 (m:KM) (o k y z:Nat):Ok5 (Kg22.flotOp m o k y z):=by
 unfold Kg22.flotOp
 exact Uv0 (Je0 2 (by decide)) (Uv0 (Zu1 _) (Zu1 _))
theorem Us7 (m:KM) (x v:Nat):Ok5 (Kg22.step.put m x v):=by
 unfold Kg22.step.put
 exact Uv0 (Zu1 _) (Uv0 (Uv0 (Je0 3 (by decide)) (Zu1 _)) (Uv0 (Uv0 (Je0 3 (by decide)) (Zu1 _)) (Uv0 (Je0 3 (by decide)) (Zu1 _))))
theorem Yb4 (m:KM):Ok5 (KG m):=by
 unfold KG
 refine Yz4 (Yy4 _ _ _) fun w=>?_
 dsimp only
 repeat' first
  | exact Zu1 _
  | exact Je0 2 (by decide)
  | exact Je0 3 (by decide)
  | with_reducible exact Yy4 _ _ _
  | with_reducible exact Vq5 _ _ _ _
  | with_reducible exact Jf4 _ _
  | with_reducible exact Xf6 _ _
  | with_reducible exact Vr5 _ _ _ _ _
  | with_reducible exact Xg6 _ _ _ _ _
  | with_reducible exact Us7 _ _ _
  | with_reducible refine Uv0 ?_ ?_
  | with_reducible refine Yz4 ?_ fun _=>?_
end Wr
namespace L2
open PySem PySem.Spec PyProof.Rows
theorem Js0.there {P:Program}{w:World}{H:Hp}{h:Heap}{a:Addr}{o:HO} (x:Js0 P w H h a o):∃ u,h.get? a=some u:=by
 cases o with
 | lst xs=>obtain ⟨_,_,_,_,e⟩:=x;exact ⟨_,e⟩
 | tup xs=>obtain ⟨_,_,_,o,e,_⟩:=x;exact ⟨_,e⟩
 | dK kvs=>obtain ⟨_,_,_,_,o,_,_,e,_⟩:=x;exact ⟨_,e⟩
 | dT kvs=>obtain ⟨_,_,_,_,o,_,_,e,_⟩:=x;exact ⟨_,e⟩
 | set S n=>obtain ⟨o,_,_,_,e,_⟩:=x;exact ⟨_,e⟩
 | ins C dx fs=>obtain ⟨_,_,_,e,_⟩:=x;exact ⟨_,e⟩
 | own y=>exact x
 | xd fs=>obtain ⟨_,⟨_,_,_,e,_⟩,_⟩:=x;exact ⟨_,e⟩
 | rng lo hi=>obtain ⟨_,_,_,e⟩:=x;exact ⟨_,e⟩
 | frz ob u=>obtain ⟨e,_⟩:=x;exact ⟨_,e⟩
 | tbl ps=>exact ⟨_,(show h.get? a=some _ from x)⟩
 | met f y=>exact ⟨_,(show h.get? a=some _ from x)⟩
 | ext φ=>obtain ⟨_,e,_⟩:=x;exact e
structure Held (outer:List Env) (H':Hp) (h0 B:Heap):Prop where
 old:∀ b o,h0.get? b=some o→b ∉ frs outer→∃ o',B.get? b=some o'
 trk:∀ b u,H' b=some u→∃ o',B.get? b=some o'
def CXW (P:Program) (w:World):CXT:=fun outer H s E e s'=>∃ (ea:Addr) (cls:Value) (H':Hp) (B:Heap) (a0:Value),e=.ref ea∧s'.os=s.os∧AllBare s'.gens∧Un (frs outer) [] H H' s.heap s'.heap∧HOk P w H' s'.heap ∧
 Heap.FlyingW B outer ea cls a0 s'.heap∧Held outer H' s.heap B∧E cls none H'
theorem Xg4 {P:Program}{w:World}{H:Hp}{h h' B:Heap} (ok:HOk P w H h) (b1:B.StaysIn h) (b2:B.StaysIn h') (t:∀ b u,H b=some u→∃ o',B.get? b=some o'):HOk P w H h':=fun a o e =>
 (ok a o e).stay (fun b u hb q=>by
  have ht:∃ o',B.get? b=some o':=by
   rcases hb with rfl | hb
   ·exact t _ _ e
   ·exact t _ _ hb
  obtain ⟨o',q'⟩:=ht
  have z:=b1 b o' q'
  rw [q] at z;cases z
  exact b2 b _ q') (fun _ q=>q) fun _ _ q=>q
theorem Zj6 {fs:List Addr}{H H':Hp}{h h1 h' B:Heap} (u:Un fs [] H H' h h1) (b1:B.StaysIn h1) (b2:B.StaysIn h') (old:∀ b o,h.get? b=some o→b ∉ fs→∃ o',B.get? b=some o')
  (fr:∀ b,b∈fs→∀ o,h1.get? b=some o→∃ sl,h'.get? b=some { o with slots:=sl }):Un fs [] H H' h h' where
 keep:=fun b o q n hb _=>by
  have e:=u.keep b o q n hb (by simp)
  obtain ⟨o',q'⟩:=old b o q hb
  have z:=b1 b o' q'
  rw [e] at z;cases z
  exact b2 b o q'
 slot:=fun b o q n hb _=>by
  obtain ⟨sl,e⟩:=u.slot b o q n hb (by simp)
  obtain ⟨sl',e'⟩:=fr b hb _ e
  exact ⟨sl',e'⟩
 free:=fun b o q n _=>u.free b o q n (by simp)
 there:=fun b o q _=>by
  by_cases hb:b∈fs
  ·obtain ⟨o1,e⟩:=u.there b o q (by simp)
   obtain ⟨sl,e'⟩:=fr b hb _ e
   exact ⟨_,e'⟩
  ·obtain ⟨o',q'⟩:=old b o q hb
   exact ⟨o',b2 b o' q'⟩
 tups:=u.tups
 frzs:=u.frzs
 tbls:=u.tbls
section
variable {P:Program}{w:World}{K:PySem.W.Frag}{mg:Str→Option Value}{base:Heap}{N:List Str}{qual:Str}{scope:Scope}{f:Addr}{cd:Value}{A:Around}{outer:List Env}{s0:Shared}{H0:Hp}{E:XK}
abbrev Yd3 (P:Program) (w:World) (K:PySem.W.Frag) (mg:Str→Option Value) (base:Heap) (N:List Str) (qual:Str) (scope:Scope) (f:Addr) (cd:Value) (A:Around) (outer:List Env) (s0:Shared) (H0:Hp) (E:XK):Cx :=
 cxOf (CXW P w) P w K mg base N qual scope f cd A outer s0 H0 E
theorem Zo2 (env:Env) (l:List Env) (L:Addr) (h:env.frame=some L):frs (env :: l)=L :: frs l:=by unfold frs;rw [List.filterMap_cons,h]
theorem Zs1 {E1:XK} (hE:∀ c H',E1 c none H'→E c none H'):Jn0 (CXW P w) (Yd3 P w K mg base N qual scope f cd A outer s0 H0 E) E1:=by
 intro pins σ H s e s' I hx
 obtain ⟨ea,cls,H',B,a0,rfl,os,bare,un,hok,fly,held,he⟩:=hx
 have hfr:(Yd3 P w K mg base N qual scope f cd A outer s0 H0 E).A.frames=some (envOfC qual scope s0.heap.objs.size f cd :: outer):=I.ok.frames
 have hlt:∀ b o,s0.heap.get? b=some o→b≠s0.heap.objs.size:=fun b o q=>Nat.ne_of_lt (Heap.lt_size q)
 refine wpAny_leaves_onW (L:=s0.heap.objs.size) hfr rfl fly fun h' fly' sm=>?_
 have notin:∀ b o,s0.heap.get? b=some o→b ∉ frs outer→b ∉ frs (envOfC qual scope s0.heap.objs.size f cd :: outer):=fun b o q hb hb'=>by
  rw [Zo2 _ _ _ rfl] at hb'
  rcases List.mem_cons.mp hb' with z | z
  ·exact hlt b o q z
  ·exact hb z
 have sub:∀ b,b∈frs outer→b∈frs (envOfC qual scope s0.heap.objs.size f cd :: outer):=fun b hb=>by rw [Zo2 _ _ _ rfl];exact List.mem_cons_of_mem _ hb
 have oldB:∀ b o,s0.heap.get? b=some o→b ∉ frs outer→∃ o',B.get? b=some o':=fun b o q hb=>by
  obtain ⟨o1,q1⟩:=I.base.there b o q (by show b ∉ ([]:List Addr);simp)
  exact held.old b o1 q1 (notin b o q hb)
 have un0:Un (frs outer) [] H0 H' s0.heap s'.heap:=by
  have a:Un (frs outer) [] H0 H s0.heap s.heap:=I.base
  refine ⟨fun b o q n hb _=>un.keep b o (a.keep b o q n hb (by simp)) (a.free b o q n (by simp)) (notin b o q hb) (by simp),fun b o q n hb _=>?_,fun b o q n _=>?_,fun b o q _=>?_,fun b xs q=>un.tups b xs (a.tups b xs q),fun b ob xs q=>un.frzs b ob xs (a.frzs b ob xs q),fun b ps q=>?_⟩
  ·obtain ⟨sl,e1⟩:=a.slot b o q n hb (by simp)
   obtain ⟨sl',e2⟩:=un.slot b _ e1 (a.free b o q n (by simp)) (sub b hb) (by simp)
   exact ⟨sl',e2⟩
  ·obtain ⟨o1,q1⟩:=a.there b o q (by simp)
   exact un.free b o1 q1 (a.free b o q n (by simp)) (by simp)
  ·obtain ⟨o1,q1⟩:=a.there b o q (by simp)
   exact un.there b o1 q1 (by simp)
  ·obtain ⟨m1,e1⟩:=a.tbls b ps q
   obtain ⟨m2,e2⟩:=un.tbls b _ e1
   exact ⟨m1++m2,by rw [e2,Array.append_assoc]⟩
 refine ⟨ea,cls,H',B,a0,rfl,os.trans I.os,bare,?_,Xg4 hok fly.1 fly'.1 held.trk,fly',⟨oldB,held.trk⟩,hE _ _ he⟩
 refine Zj6 un0 fly.1 fly'.1 oldB fun b hb o q=>?_
 obtain ⟨_,o1,q1,hd⟩:=fly.2.2.1.mem (sub b hb)
 rw [q] at q1;cases q1
 exact sm b o q hd
theorem raiseW {pins:List (Addr×Obj)} {σ:St}{H:Hp}{s:Shared}{ea:Addr}{cls:Value}{h1:Heap} (I:Inv (Yd3 P w K mg base N qual scope f cd A outer s0 H0 E) pins σ H s) (hx:Heap.MadeExcOf s.heap h1 ea cls []) (he:E cls none H) :
  (Yd3 P w K mg base N qual scope f cd A outer s0 H0 E).xe (.ref ea) { s with heap:=h1 }:=by
 have hfr:(Yd3 P w K mg base N qual scope f cd A outer s0 H0 E).A.frames=some (envOfC qual scope s0.heap.objs.size f cd :: outer):=I.ok.frames
 have hlt:∀ b o,s0.heap.get? b=some o→b≠s0.heap.objs.size:=fun b o q=>Nat.ne_of_lt (Heap.lt_size q)
 have hst:s.heap.FunFrames base (envOfC qual scope s0.heap.objs.size f cd :: outer):=I.stack
 have hin:∀ env∈(envOfC qual scope s0.heap.objs.size f cd :: outer),∀ a,env.frame=some a→a∈frs (envOfC qual scope s0.heap.objs.size f cd :: outer):=fun env he b hb=>List.mem_filterMap.mpr ⟨env,he,hb⟩
 have hkb:(PySem.W.hideAll s.heap (frs (envOfC qual scope s0.heap.objs.size f cd :: outer))).StaysIn s.heap:=fun b o q=>PySem.W.of_hideAll _ q
 have notin:∀ b o,s0.heap.get? b=some o→b ∉ frs outer→b ∉ frs (envOfC qual scope s0.heap.objs.size f cd :: outer):=fun b o q hb hb'=>by
  rw [Zo2 _ _ _ rfl] at hb'
  rcases List.mem_cons.mp hb' with z | z
  ·exact hlt b o q z
  ·exact hb z
 refine wpAny_leaves_madeW (base:=PySem.W.hideAll s.heap (frs (envOfC qual scope s0.heap.objs.size f cd :: outer))) (h:=s.heap) (L:=s0.heap.objs.size) hfr rfl hkb (PySem.W.funFrames_hide hst hin) hx fun h' t fly _ _ sm=>?_
 have oldB:∀ b o,s0.heap.get? b=some o→b ∉ frs outer→∃ o',(PySem.W.hideAll s.heap (frs (envOfC qual scope s0.heap.objs.size f cd :: outer))).get? b=some o':=fun b o q hb=>by
  obtain ⟨o1,q1⟩:=I.base.there b o q (by show b ∉ ([]:List Addr);simp)
  exact ⟨o1,PySem.W.hideAll_get _ q1 (notin b o q hb)⟩
 have trk:∀ b u,H b=some u→∃ o',(PySem.W.hideAll s.heap (frs (envOfC qual scope s0.heap.objs.size f cd :: outer))).get? b=some o':=fun b u q=>by
  obtain ⟨o1,q1⟩:=(I.hok b u q).there
  exact ⟨o1,PySem.W.hideAll_get _ q1 fun z=>by have:=I.stkFree b z;rw [q] at this;cases this⟩
 refine ⟨ea,cls,H,_,_,rfl,I.os,I.bare,?_,Xg4 I.hok hkb fly.1 trk,fly,⟨oldB,trk⟩,he⟩
 refine Zj6 (show Un (frs outer) [] H0 H s0.heap s.heap from I.base) hkb fly.1 oldB fun b hb o q=>?_
 obtain ⟨_,o1,q1,hd⟩:=hst.mem (show b∈(envOfC qual scope s0.heap.objs.size f cd :: outer).filterMap (·.frame) from by have:=Zo2 (envOfC qual scope s0.heap.objs.size f cd) outer _ rfl;unfold frs at this hb;rw [this];exact List.mem_cons_of_mem _ hb)
 rw [q] at q1;cases q1
 exact sm b o (hx.keeps b o q) hd
end
end L2
namespace L2
open PySem PySem.Spec PyProof.Rows
abbrev bmE:List Value:=[.type "Exception",.type "BaseException",.type "object"]
structure ExC (K:PySem.W.Frag) (C:Addr):Prop where
 q:PySem.W.excIn K C bmE "Exception.__new__" = true
theorem ExC.obj {K:PySem.W.Frag}{C:Addr}{h:Heap} (x:ExC K C) (X:K.In h) :
  ∃ bm N nm q bs hdct sn sub ab col dd k0 k1 k2 k3 k5 mN,h.get? C=some (excClassObj nm q C N bs bm hdct sn sub ab col dd k0 k1 k2 k3 k5 "Exception.__new__")∧h.Ns N mN∧mN "__init__" = none∧OwnTail h bmE bm:=by
 have q:=x.q
 unfold PySem.W.excIn at q
 split at q
 ·rename_i dd cd sl ho
  split at q
  ·rename_i C' bm k0 k1 k2 k3 n k5 hm hs
   simp only [Bool.and_eq_true,beq_iff_eq,Bool.not_eq_true'] at q
   obtain ⟨⟨⟨⟨⟨rfl,rfl⟩,hdel⟩,ht⟩,hok⟩,hni⟩:=q
   obtain ⟨nm,bs,mro,ns,qn,hd,sn,sub,ab,col,del⟩:=cd
   dsimp only at hm hdel hok hni
   subst hm hdel
   have hsl:sl = #[k0,k1,k2,k3,some (.builtin "Exception.__new__"),k5]:=by
    obtain ⟨l⟩:=sl
    simp only at hs
    rw [hs]
   subst hsl
   exact ⟨bm,ns,nm,qn,bs,hd,sn,sub,ab,col,dd,k0,k1,k2,k3,k5,_,X _ _ ho,.of_isNs (PySem.W.isNs_of_in X hok),PySem.W.nsMap_none_of_in X hok hni,PySem.W.tail_of_in X ht⟩
  ·cases q
 ·cases q
section
variable {P:Program}{w:World}{K:PySem.W.Frag}{mg:Str→Option Value}{base:Heap}{N:List Str}{qual:Str}{scope:Scope}{f:Addr}{cd:Value}{A:Around}{outer:List Env}{s0:Shared}{H0:Hp}{E:XK}
def tRaise (E:XK) (C:Addr):TS:=fun _ _ H=>E (.ref C) none H
theorem Uy0 {x:Str}{C:Addr}{np cpos pos:Pos} (c:ExC K C) (hg:Gl (Yd3 P w K mg base N qual scope f cd A outer s0 H0 E) x) (hm:mg x=some (.ref C)) (hd:(x == ("__debug__" : Str))=false:=by decide) :
  PS (Yd3 P w K mg base N qual scope f cd A outer s0 H0 E) (.Raise (some (.Call (.Name x np) [] [] cpos)) none pos) (tRaise E C):=by
 intro pins s σ H D I h
 obtain ⟨tl,Nn,nm,q,bs,hdct,sn,sub,ab,col,dd,k0,k1,k2,k3,k5,mN,hC,hN,hni,T⟩:=c.obj (h:=s.heap) I.kIn
 refine wpAny_Raise_call_subU (C:=C) (nm:=nm) (q:=q) (N:=Nn) (bs:=bs) (bm:=tl) (hdct:=hdct) (sn:=sn) (sub:=sub) (ab:=ab) (col:=col) (dd:=dd) (k0:=k0) (k1:=k1) (k2:=k2) (k3:=k3) (k5:=k5)
  PySem.F.excBase_Exception (by decide) PySem.F.excBase_Exception (mN:=mN) (T.hasType (by decide)) (I.ok.hd rfl) rfl hni (Jl1 I hg hm ⟨rfl,?_⟩ hd)
 exact evalArgs_empty ⟨rfl,Nat.zero_le _,hC,hN,T,fun h' e hm=>raiseW I hm h⟩
end
section
variable {X:Cx}{pins:List (Addr×Obj)} {σ:St}{H H':Hp}{s s':Shared}
abbrev Cx.inExc (X:Cx) (e:Value) (E:Value→Shared→Prop):Cx:={ X with A:=X.A.mark (some e),calm:=false,xe:=E }
theorem Inv.inExc (I:Inv X pins σ H s) (e:Value) (E:Value→Shared→Prop):Inv (X.inExc e E) pins σ H s :=
 ⟨⟨I.ok.mod,I.ok.kind,I.ok.glob,I.ok.blt,I.ok.above,I.ok.inj,I.ok.has,I.ok.cab,fun z=>(by cases z),I.ok.frames,I.ok.stk,I.ok.exf,I.ok.bs,I.ok.bsz,I.ok.noex,I.ok.exfs,I.ok.funs,I.ok.frf⟩,I.os,I.bare,I.base,I.loc,I.cell,I.free,I.freeC,I.pin,I.hok,I.len⟩
theorem Inv.outExc {e:Value}{E:Value→Shared→Prop} (ok:X.Ok) (I:Inv (X.inExc e E) pins σ H s):Inv X pins σ H s :=
 ⟨ok,I.os,I.bare,I.base,I.loc,I.cell,I.free,I.freeC,I.pin,I.hok,I.len⟩
theorem Inv.caught {ea:Addr}{cls a0:Value}{B h6:Heap} (I:Inv X pins σ H s) (os:s'.os=s.os) (bare:AllBare s'.gens) (un:Un (frs X.stack) [] H H' s.heap s'.heap) (hok:HOk X.prog X.w H' s'.heap)
  (fly:Heap.FlyingW B X.stack ea cls a0 s'.heap) (held:Held X.stack H' s.heap B) (fly6:Heap.FlyingW B X.stack ea cls a0 h6) (sm:s'.heap.UpToSlots h6):Inv X pins σ H' { s' with heap:=h6 }:=by
 refine I.call' (ch:=[]) (s':={ s' with heap:=h6 }) os ?_ (Xg4 hok fly.1 fly6.1 held.trk) bare (fun b z=>absurd z (by simp))
 refine Zj6 un fly.1 fly6.1 held.old fun b hb o q=>?_
 obtain ⟨_,o1,q1,hd⟩:=fly.2.2.1.mem (show b∈X.stack.filterMap (·.frame) from hb)
 rw [q] at q1;cases q1
 exact sm b o q hd
end
inductive Hs (X:Cx):List ExceptHandler→List (Addr×Int)→Prop
 | nil:Hs X [] []
 | cons {x:Str}{C:Addr}{k:Int}{j:Nat}{np p1 p2 p3 p4:Pos}{hs:List ExceptHandler}{l:List (Addr×Int)}:Gl X x→X.mg x=some (.ref C)→(x == ("__debug__" : Str))=false→Hs X hs l →
   Hs X (.ExceptHandler (some (.Name x np)) none [.Return (some (.UnaryOp .USub (.Constant (.int k) j p1) p2)) p3] p4 :: hs) ((C,k) :: l)
section
variable {X:Cx}{pins:List (Addr×Obj)} {σ:St}{H H':Hp}{s s':Shared}
theorem typ_of {M:Model}{h:Heap}{B:Heap}{l:List Env}{ea:Addr}{cls a0:Value} (fly:Heap.FlyingW B l ea cls a0 h):PySem.W.Looks M h (typeOf (.ref ea)) cls:=by
 obtain ⟨ob,hob,hc⟩:=fly.there
 subst hc
 exact (PySem.W.Looks.ld hob).andThen .now
theorem Zi6 {ea:Addr}{cls a0:Value}{B h6:Heap} (un:Un (frs X.stack) [] H H' s.heap s'.heap) (fly:Heap.FlyingW B X.stack ea cls a0 s'.heap) (held:Held X.stack H' s.heap B) (fly6:Heap.FlyingW B X.stack ea cls a0 h6) (sm:s'.heap.UpToSlots h6) :
  Un (frs X.stack) [] H H' s.heap h6:=by
 refine Zj6 un fly.1 fly6.1 held.old fun b hb o q=>?_
 obtain ⟨_,o1,q1,hd⟩:=fly.2.2.1.mem (show b∈X.stack.filterMap (·.frame) from hb)
 rw [q] at q1;cases q1
 exact sm b o q hd
theorem Vp3 {ea C:Addr}{a0:Value}{B:Heap}{D:Zd6} (I0:Inv X pins σ H s) (held:Held X.stack H' s.heap B):∀ {hs:List ExceptHandler}{l:List (Addr×Int)}{s1:Shared},Hs X hs l→(∀ C'∈l.map (·.1),PySem.W.exmOne X.K (.ref C) (.ref C')=some (C == C')) →
  s1.os=s.os→AllBare s1.gens→Un (frs X.stack) [] H H' s.heap s1.heap→HOk X.prog X.w H' s1.heap→Heap.FlyingW B X.stack ea (.ref C) a0 s1.heap→(∃ k,(C,k)∈l∧l.lookup C=some k∧D.rt (.int (-k)) H') →
  wpAny (model X.prog X.w) X.A (handleBy (.ref ea) X.env hs) (SP X pins D) X.xe s1
 | _,_,_,.nil,_,_,_,_,_,_,⟨k,hk,_⟩=>by cases hk
 | _,_,s1,.cons (x:=x) (C:=C') (k:=k') (hs:=hs) (l:=l) hg hm hd hr,hex,os,bare,un,hok,fly,⟨k,hk,hl,hq⟩=>by
  have I:Inv X pins σ H' s1:=I0.caught os bare un hok fly held fly (Heap.UpToSlots.refl _)
  have hx0:=hex C' (by simp)
  have LT:=typ_of (M:=model X.prog X.w) fly
  refine wpAny_handleBy_cons (codeAny_handlers_test (Jl1 (X:=X.inExc (.ref ea) X.xe) (I.inExc (.ref ea) X.xe) hg hm ?_ hd)) (by intro q;cases q)
  refine (PySem.W.exm_one I.kIn LT hx0).here ?_
  by_cases hc:C=C'
  ·have hb:(C == C')=true:=beq_iff_eq.mpr hc
   rw [hb]
   have ek:k=k':=by
    rw [List.lookup_cons,hb] at hl
    exact (Option.some.inj hl).symm
   subst ek
   refine codeAny_handlers_suite ?_
   refine lands_againW fly fun h6 fly6 sm=>?_
   have I6:Inv X pins σ H' { s1 with heap:=h6 }:=I0.caught os bare un hok fly held fly6 sm
   have PB:∀ (E':Value→Shared→Prop) (j:Nat) (p1 p2 p3:Pos),PSs (X.inExc (.ref ea) E') [.Return (some (.UnaryOp .USub (.Constant (.int k) j p1) p2)) p3] (tRet (tUn (rU fun i=>.int (-i)) (tC (.int k)))):=fun E' j p1 p2 p3=>Ze0 (Zk0 (Xc1 Jg0 Zg0))
   refine wpAny_mono (PB _ _ _ _ _ pins _ σ H' D (I6.inExc (.ref ea) _) ⟨k,rfl,hq⟩) (fun fl s2 hs2=>?_) fun _ _ z=>z
   show SP X pins D fl s2
   cases fl with
   | next=>obtain ⟨σ',H2,J,q⟩:=hs2;exact ⟨σ',H2,J.outExc I.ok,q⟩
   | brk=>obtain ⟨σ',H2,J,q⟩:=hs2;exact ⟨σ',H2,J.outExc I.ok,q⟩
   | cont=>obtain ⟨σ',H2,J,q⟩:=hs2;exact ⟨σ',H2,J.outExc I.ok,q⟩
   | ret u=>obtain ⟨v,σ',H2,J,r,q⟩:=hs2;exact ⟨v,σ',H2,J.outExc I.ok,r,q⟩
  ·have hb:(C == C')=false:=beq_eq_false_iff_ne.mpr hc
   rw [hb]
   rw [List.lookup_cons,hb] at hl
   refine Vp3 I0 held hr (fun C2 h2=>hex C2 (by simp at h2 ⊢;exact .inr h2)) os bare un hok fly ⟨k,?_,hl,hq⟩
   rcases List.mem_cons.mp hk with z | z
   ·exact absurd (congrArg Prod.fst z) hc
   ·exact z
def tTry (l:List (Addr×Int)) (te:XK→TE):TS:=fun D σ H=>te (fun cls _ H'=>∃ C k,cls=.ref C∧(C,k)∈l∧l.lookup C=some k∧D.rt (.int (-k)) H') σ H D.rt
abbrev Cx.pinned (X:Cx) (pn':List (Addr×Obj)) (E:Value→Shared→Prop):Cx:={ X with pn:=pn',xe:=E }
theorem Inv.toPinned (I:Inv X pins σ H s) (E:Value→Shared→Prop):Inv (X.pinned (X.pn++pins) E) [] σ H s :=
 ⟨⟨I.ok.mod,I.ok.kind,I.ok.glob,I.ok.blt,I.ok.above,I.ok.inj,I.ok.has,I.ok.cab,I.ok.hd,I.ok.frames,I.ok.stk,I.ok.exf,I.ok.bs,I.ok.bsz,I.ok.noex,I.ok.exfs,I.ok.funs,I.ok.frf⟩,I.os,I.bare,I.base,I.loc,I.cell,I.free,I.freeC,fun p hp=>I.pin p (by rw [List.append_nil] at hp;exact hp),I.hok,I.len⟩
theorem Inv.ofPinned {E:Value→Shared→Prop}{pins':List (Addr×Obj)} (ok:X.Ok) (I:Inv (X.pinned (X.pn++pins) E) pins' σ H s):Inv X pins σ H s :=
 ⟨ok,I.os,I.bare,I.base,I.loc,I.cell,I.free,I.freeC,fun p hp=>I.pin p (List.mem_append_left _ hp),I.hok,I.len⟩
theorem Xl7 {e:Expr}{rp pos:Pos}{h0:ExceptHandler}{hs:List ExceptHandler}{l:List (Addr×Int)}{te:XK→TE} (hH:Hs X (h0 :: hs) l)
  (hex:∀ C∈l.map (·.1),∀ C'∈l.map (·.1),PySem.W.exmOne X.K (.ref C) (.ref C')=some (C == C')) (hstk:X.stack=X.env :: X.outer) (hfr:X.env.frame=some X.env.locals)
  (hb:∀ (pn':List (Addr×Obj)) (E':Value→Shared→Prop) (E1:XK),Jn0 (CXW X.prog X.w) (X.pinned pn' E') E1→PE (X.pinned pn' E') e (te E1)) :
  PS X (.Try [.Return (some e) rp] (h0 :: hs) [] [] pos) (tTry l te):=by
 intro pins s σ H D I h
 rw [arm_exec_Try]
 refine wpAny_bind (wpAny_standAt (wpAny_tryStmt_except ?_))
 have hpass:Jn0 (CXW X.prog X.w) (X.pinned (X.pn++pins) (fun e s₁=>wpAny (model X.prog X.w) X.A (noteFrame e X.env) (fun _ s₂=>wpAny (model X.prog X.w) X.A (setFlight e none) (fun _ s₃=>wpAny (model X.prog X.w) X.A (handleBy e X.env (h0 :: hs)) (SP X pins D) X.xe s₃) X.xe s₂) X.xe s₁))
   (fun cls _ H'=>∃ C k,cls=.ref C∧(C,k)∈l∧l.lookup C=some k∧D.rt (.int (-k)) H'):=by
  intro pins' σ' H1 s1 ex s' J hx
  obtain ⟨ea,cls,H',B,a0,rfl,os,bare,un,hok,fly,held,C,k,rfl,hm,hl,hq⟩:=hx
  have I1:Inv X pins σ' H1 s1:=J.ofPinned I.ok
  have hfs:X.A.frames=some (X.env :: X.outer):=by rw [← hstk];exact I.ok.frames
  have fly1:Heap.FlyingW B (X.env :: X.outer) ea (.ref C) a0 s'.heap:=by rw [← hstk];exact fly
  refine wpAny_looks_onW (L:=X.env.locals) hfs hfr fly1 fun h4 held4 sm4=>?_
  refine wpAny_landsW held4 fun h5 fly5 sm5=>?_
  have fly5':Heap.FlyingW B X.stack ea (.ref C) a0 h5:=by rw [hstk];exact fly5
  exact Vp3 (B:=B) (s1:={ s' with heap:=h5 }) I1 held hH (hex C (List.mem_map_of_mem hm)) os bare (Zi6 (s':=s') un fly held fly5' (sm4.trans sm5)) (Xg4 hok fly.1 fly5'.1 held.trk) fly5' ⟨k,hm,hl,hq⟩
 have hr:=Ze0 (Zk0 (pos:=rp) (hb _ _ _ hpass)) [] s σ H D (I.toPinned _) h
 refine wpAny_mono hr (fun fl s2 hs2=>?_) fun _ _ z=>z
 cases fl with
 | next=>obtain ⟨σ',H2,J,q⟩:=hs2;exact wpAny_execs_nil ⟨σ',H2,J.ofPinned I.ok,q⟩
 | brk=>obtain ⟨σ',H2,J,q⟩:=hs2;exact ⟨σ',H2,J.ofPinned I.ok,q⟩
 | cont=>obtain ⟨σ',H2,J,q⟩:=hs2;exact ⟨σ',H2,J.ofPinned I.ok,q⟩
 | ret u=>obtain ⟨v,σ',H2,J,r,q⟩:=hs2;exact ⟨v,σ',H2,J.ofPinned I.ok,r,q⟩
end
end L2
namespace L2
open PySem PySem.Spec PyProof.Rows
section
variable {P:Program}{w:World}{K:PySem.W.Frag}{mg:Str→Option Value}{base:Heap}
theorem Fun.okW {x qual:Str}{st:Stmt}{f:Addr}{fd:FuncData}{N ps:List Str}{k:Nat}{sp:Sp} (F:Fun K x qual st f fd) (S:Zj0 N ps (Zh0 st)) (len:∀ vs H Q E,sp vs H Q E→vs.length=ps.length)
  (hbody:∀ (cdv:Value) (A:Around) (outer:List Env) (s:Shared) (H:Hp) (vs:List V) (Q:VK) (E:XK),Ua1 k (A.deeper (envOfC qual (Zh0 st) s.heap.objs.size f cdv))→sp vs H Q E →
   ∃ t,PSs (Yd3 P w K mg base N qual (Zh0 st) f cdv A outer s H E) (Vm0 st) t∧t { nx:=fun _ H'=>Q .non H',rt:=Q } (start N vs) H):Vu0 P w K mg base (CXW P w) (k+1) f fd ps sp:=by
 obtain ⟨oc,od,kV,doc,pm,an,cdv,ct,osl,rfl,lk,hcd⟩:=F.ex
 exact fn_of lk hcd S len fun A outer s H vs Q E hr hsp=>hbody cdv A outer s H vs Q E hr hsp
theorem Zf0 {X:Cx}:Jn0 (CXW P w) X (fun _ _ _=>False):=fun _ _ _ _ _ _ _ h=>by
 obtain ⟨_,_,_,_,_,_,_,_,_,_,_,_,q⟩:=h
 exact q.elim
end
section
variable {X:Cx}{CX:CXT}{k:Nat}{E:XK}{x:Str}{p pos:Pos}{e:Expr}{es:List Expr}{t:TA}
def tCallV (X:Cx) (CX:CXT) (k i:Nat) (E:XK) (t:TA):TE:=fun σ H Q=>∃ (f:Addr) (fd:FuncData) (ps:List Str) (sp:Sp),σ[i]? = some (some (.ref f))∧PySem.W.keepIn X.K (.ref f)=true∧Vu0 X.prog X.w X.K X.mg X.base CX k f fd ps sp∧Ui0 X.K fd ps [] ∧
 t σ H fun vs H1=>sp vs H1 Q E
theorem Zj1 {i:Nat} (hN:X.N[i]? = some x) (hv:Vis X.env.scope x) (hr:Ua1 k X.A) (hx:Jn0 CX X E) (ha:PA X (e :: es) t) (hd:(x == ("__debug__" : Str))=false:=by decide) (hcd:(x == ("__classdict__" : Str))=false:=by decide)
  (he:starEach (e :: es) X.env=(false,eval e X.env) :: starEach es X.env:=by rfl) (hpl:(backTo pos (starEach es X.env)).any (·.1)=false:=by rfl) :
  PE X (.Call (.Name x p) (e :: es) [] pos) (tCallV X CX k i E t):=by
 intro pins s σ H Q I ⟨f,fd,ps,sp,hs,hk,F,hb,h⟩
 refine wpAny_Call_Name_kw (thn (Uu6 (pos:=p) hN hv hd hcd pins s σ H (fun v H'=>v=.ref f∧H'=H) I ⟨_,hs,rfl,rfl⟩) fun u s1 ⟨v,H1,I1,r,ev,eH⟩=>?_)
 subst ev eH
 obtain rfl:u=Value.ref f:=r
 refine PySem.W.callWith_K (h₀:=X.base) I1.ok.mod.kin hk (thn (ha pos pins s1 σ H1 _ I1 h) fun us s2 ⟨vs,H2,I2,r2,q⟩=>⟨I2.kIn,?_⟩) he hpl
 exact Xm3 F hr hb (dvs:=[]) .nil hx I2 r2 (by rw [List.append_nil];exact q)
end
section
variable {X:Cx}
def CDivB (_ j:Int):Prop:=j≠0∧j.natAbs.log2<9000
theorem Xv1:OpR X (binaryOp .FloorDiv) (rI CDivB fun i j=>.int (i.fdiv j)):=opI fun _ _ _ _ _ _ _ hc q=>floordiv_int hc.1 q (.inl (PyProof.noPylong_of_log2 hc.2))
def CShl (i j:Int):Prop:=0≤j∧(Builtin.Int.intBits i:Int)+j≤2^27
theorem Vr1:OpR X (binaryOp .LShift) (rI CShl fun i j=>.int (i*2^j.toNat)):=opI fun _ _ _ _ _ _ _ hc q=>lshift_int hc.1 hc.2 q
theorem Xz7:OpR X (binaryOp .Mult) (rI IntMulOk fun i j=>.int (i*j)):=opI fun _ _ _ _ _ _ _ hc q=>mul_int q hc
def rBits:V→List V→Hp→VK→Prop:=fun x xs H Q=>∃ i,x=.int i∧xs=[]∧Q (.int (Builtin.Int.intBits i)) H
theorem Vz5:MtR X "int.bit_length" rBits:=by
 intro pins s σ H x xs v us Q I r rs h
 obtain ⟨i,rfl,rfl,q⟩:=h
 obtain ⟨t,rfl⟩:=r
 cases rs
 exact PyProof.Rows.call_int_bit_length ⟨.int _,H,I.tok _,⟨_,rfl⟩,q⟩
end
end L2
namespace Wr
open PySem PySem.Spec PyProof.Rows L2
variable {P : Program} {w : World} {K : PySem.W.Frag} {mg : Str → Option Value} {base : Heap}
local macro_rules
 | `(tactic| exists $a, $b) => do
  let i := fun (n : Lean.Name) => Lean.mkIdent n
  let f := i `F.okW
  `(tactic| refine $f:ident $a $b (fun $(i `cdv) $(i `A) $(i `outer) $(i `s) $(i `H) $(i `vs) $(i `Q) $(i `E) $(i `hr) $(i `h) => ?_))
def top (i:Nat):Stmt:=PySem.Challenge.pw_wordrunner_s01_answers.main.body.getD i (.Pass ⟨0,0,0,0⟩)
theorem nl {a b x:Nat} (h:b≤x) (d:a≤b:=by decide):¬ x<a:=Nat.not_lt.mpr (Nat.le_trans d h)
theorem nq {a b x:Nat} (h:b≤x) (d:a<b:=by decide):¬ x=a:=Nat.ne_of_gt (Nat.lt_of_lt_of_le d h)
instance {N P:List Str}{sc:Scope}:Decidable (Zj0 N P sc) :=
 decidable_of_iff (sc.kind=.function∧sc.isCoroutine=false∧sc.isGenerator=false∧N.Nodup∧N.take P.length=P∧(∀ x∈P,sc.names.lookup x=some .local∨sc.names.lookup x=some .cell)∧∀ y∈sc.names,y.2 ≠ .free) ⟨fun ⟨a,b,c,d,e,f,g⟩=>⟨a,b,c,d,e,f,g⟩,fun ⟨a,b,c,d,e,f,g⟩=>⟨a,b,c,d,e,f,g⟩⟩
inductive spN1 (C:Nat→Prop) (g:Nat→V) (vs:List V) (H:Hp) (Q:VK) (_:XK):Prop |mk (n:Nat) (_:vs=[.int n]) (_:C n) (_:Q (g n) H)
theorem Zt6 {C:Nat→Prop}{g:Nat→V}:∀ vs H Q E,spN1 C g vs H Q E→vs.length=1:=by
 rintro vs H Q E ⟨n,rfl,_⟩;rfl
variable (P w K mg base) in abbrev FnW:=Vu0 P w K mg base (CXW P w)
theorem Yd7:Zj0 ["word"] ["word"] (Zh0 (top 28)):=by decide +kernel
theorem Vg7 {f:Addr}{fd:FuncData} (F:Fun K "x_of" "x_of" (top 28) f fd):FnW P w K mg base 1 f fd ["word"] (spN1 (fun _=>True) fun n=>.int ((n/65536%256:Nat):Int)):=by
 exists Yd7,Zt6
 obtain ⟨n,rfl,_,k⟩:=h
 refine ⟨_,Ze0 (Zk0 (Zl0 Yf0 (Zl0 Xf0 (pv 0) Zg0) Zg0)),?_⟩
 refine ⟨_,rfl,_,_,rfl,rfl,(by decide:(0:Int)≤16),_,_,rfl,rfl,?_⟩
 have e:Builtin.bitAnd ((n:Int)/2^(16:Int).toNat) 255=((n/65536%256:Nat):Int):=by
  rw [bitAnd_m8];rfl
 show Q (.int (Builtin.bitAnd ((n:Int)/2^(16:Int).toNat) 255)) H
 rw [e];exact k
abbrev iv (n:Nat):V:=.int (n:Int)
def mf (aM aL aW aS aP:Addr) (pc b:Nat):List (Str×V) :=
 [("memory",.ref aM),("local",.ref aL),("wide",.ref aW),("special",.ref aS),("pushed",.ref aP),("place",iv pc),("behind",iv b)]
inductive Stk:List Nat→Prop
 | nil:Stk []
 | cons {n:Nat}{r t:List Nat}:r.length=n→Stk t→Stk (n :: (r++t))
structure WF (m:KM):Prop where
 pc:m.pc<2^64
 loc:∀ v∈m.locals,v<2^64
 glo:∀ j,m.globals j<2^64
 spe:∀ j,m.special j<2^64
 mem:∀ k,m.mem k<2^64
 g1:32≤m.special 19
 g2:m.special 19≤255
 len:m.locals.length≤300
 ra:m.special 21<2^18
 psh:∀ v∈m.pushed,v<2^64
 stk:Stk m.pushed
 few:m.pushed.length≤65536
structure Yl3 (kvs:List (Key×V)) (mem:Nat→Nat):Prop where
 at_:∀ k:Nat,(Zu2 kvs (Sum.inl (k:Int))=none∧mem k=0)∨Zu2 kvs (Sum.inl (k:Int))=some (iv (mem k))
 keys:∃ ks:List Nat,kvs.map (·.1)=ks.map (fun k:Nat=>(Sum.inl (k:Int):Key))∧ks.Nodup∧∀ k∈ks,k<131072
structure Ad where
 M:Addr
 dx:Addr
 aM:Addr
 aL:Addr
 aW:Addr
 aS:Addr
 aP:Addr
def Ad.own (d:Ad):List Addr:=[d.M,d.dx,d.aM,d.aL,d.aW,d.aS,d.aP]
structure Rep (C:Addr) (H:Hp) (d:Ad) (m:KM) (b:Nat):Prop where
 obj:H d.M=some (.ins C d.dx (mf d.aM d.aL d.aW d.aS d.aP m.pc b))
 dxo:H d.dx=some (.own d.M)
 mem:∃ kvs,H d.aM=some (.dK kvs)∧Yl3 kvs m.mem
 loc:H d.aL=some (.lst (m.locals.map iv))
 wid:∃ ws:List Nat,H d.aW=some (.lst (ws.map iv))∧ws.length=256∧∀ j,m.special 19≤j→j<256→ws[j]? = some (m.globals j)
 spc:∃ ss:List Nat,H d.aS=some (.lst (ss.map iv))∧ss.length=32∧∀ j,j<32→ss[j]? = some (m.special j)
 psh:H d.aP=some (.lst (m.pushed.reverse.map iv))
 nd:[d.aL,d.aW,d.aS,d.aP].Nodup
 wf:WF m
 bh:b<2^64
def Vf0 (o o':List Addr) (H H':Hp):Prop:=∀ a u,H a=some u→a ∉ o→H' a=some u∧a ∉ o'
theorem Vf0.refl (o:List Addr) (H:Hp):Vf0 o o H H:=fun _ _ h n=>⟨h,n⟩
theorem Vf0.trans {o1 o2 o3:List Addr}{H H1 H2:Hp} (a:Vf0 o1 o2 H H1) (b:Vf0 o2 o3 H1 H2):Vf0 o1 o3 H H2:=fun x u h n=>let ⟨h1,n1⟩:=a x u h n;b x u h1 n1
theorem Vf0.upd {o:List Addr}{H:Hp}{a:Addr}{u:HO} (h:a∈o):Vf0 o o H (L2.upd H a u):=fun x v e n=>⟨by rw [Zn0 (fun z=>n (by rw [z];exact h))];exact e,n⟩
def Ub0 (C:Addr) (H:Hp) (d:Ad) (m':KM) (b':Nat) (Q:Hp→Prop):Prop:=∀ (H':Hp) (d':Ad),d'.M=d.M→Rep C H' d' m' b'→Vf0 d.own d'.own H H'→Q H'
theorem Ub0.here {C:Addr}{H:Hp}{d:Ad}{m:KM}{b:Nat}{Q:Hp→Prop} (R:Rep C H d m b) (a:Ub0 C H d m b Q):Q H:=a H d rfl R (Vf0.refl _ _)
theorem Ub0.of {C:Addr}{H H1:Hp}{d d1:Ad}{m:KM}{b:Nat}{Q:Hp→Prop} (a:Ub0 C H d m b Q) (e:d1.M=d.M) (k:Vf0 d.own d1.own H H1):Ub0 C H1 d1 m b Q :=
 fun H' d' e' R' k'=>a H' d' (e'.trans e) R' (k.trans k')
namespace Rep
variable {C:Addr}{H:Hp}{d:Ad}{m:KM}{b:Nat}
theorem ne_ML (R:Rep C H d m b):d.M≠d.aL:=Zp1 R.obj R.loc (by intro z;cases z)
theorem ne_MP (R:Rep C H d m b):d.M≠d.aP:=Zp1 R.obj R.psh (by intro z;cases z)
theorem ne_MS (R:Rep C H d m b):d.M≠d.aS:=let ⟨_,h,_⟩:=R.spc;Zp1 R.obj h (by intro z;cases z)
theorem ne_MW (R:Rep C H d m b):d.M≠d.aW:=let ⟨_,h,_⟩:=R.wid;Zp1 R.obj h (by intro z;cases z)
theorem ne_MM (R:Rep C H d m b):d.M≠d.aM:=let ⟨_,h,_⟩:=R.mem;Zp1 R.obj h (by intro z;cases z)
theorem ne_Md (R:Rep C H d m b):d.M≠d.dx:=Zp1 R.obj R.dxo (by intro z;cases z)
theorem ne_dL (R:Rep C H d m b):d.dx≠d.aL:=Zp1 R.dxo R.loc (by intro z;cases z)
theorem ne_dP (R:Rep C H d m b):d.dx≠d.aP:=Zp1 R.dxo R.psh (by intro z;cases z)
theorem ne_dS (R:Rep C H d m b):d.dx≠d.aS:=let ⟨_,h,_⟩:=R.spc;Zp1 R.dxo h (by intro z;cases z)
theorem ne_dW (R:Rep C H d m b):d.dx≠d.aW:=let ⟨_,h,_⟩:=R.wid;Zp1 R.dxo h (by intro z;cases z)
theorem ne_dM (R:Rep C H d m b):d.dx≠d.aM:=let ⟨_,h,_⟩:=R.mem;Zp1 R.dxo h (by intro z;cases z)
theorem ne_KL (R:Rep C H d m b):d.aM≠d.aL:=let ⟨_,h,_⟩:=R.mem;Zp1 h R.loc (by intro z;cases z)
theorem ne_KP (R:Rep C H d m b):d.aM≠d.aP:=let ⟨_,h,_⟩:=R.mem;Zp1 h R.psh (by intro z;cases z)
theorem ne_KS (R:Rep C H d m b):d.aM≠d.aS:=let ⟨_,h,_⟩:=R.mem;let ⟨_,g,_⟩:=R.spc;Zp1 h g (by intro z;cases z)
theorem ne_KW (R:Rep C H d m b):d.aM≠d.aW:=let ⟨_,h,_⟩:=R.mem;let ⟨_,g,_⟩:=R.wid;Zp1 h g (by intro z;cases z)
theorem ne_LW (R:Rep C H d m b):d.aL≠d.aW:=by have:=R.nd;simp at this;exact this.1.1
theorem ne_LS (R:Rep C H d m b):d.aL≠d.aS:=by have:=R.nd;simp at this;exact this.1.2.1
theorem ne_LP (R:Rep C H d m b):d.aL≠d.aP:=by have:=R.nd;simp at this;exact this.1.2.2
theorem ne_WS (R:Rep C H d m b):d.aW≠d.aS:=by have:=R.nd;simp at this;exact this.2.1.1
theorem ne_WP (R:Rep C H d m b):d.aW≠d.aP:=by have:=R.nd;simp at this;exact this.2.1.2
theorem ne_SP (R:Rep C H d m b):d.aS≠d.aP:=by have:=R.nd;simp at this;exact this.2.2
theorem setLoc (R:Rep C H d m b) {ls:List Nat} (wf:WF { m with locals:=ls }):Rep C (upd H d.aL (.lst (ls.map iv))) d { m with locals:=ls } b where
 obj:=by rw [Zn0 R.ne_ML];exact R.obj
 dxo:=by rw [Zn0 R.ne_dL];exact R.dxo
 mem:=by rw [Zn0 R.ne_KL];exact R.mem
 loc:=Zm0
 wid:=by rw [Zn0 R.ne_LW.symm];exact R.wid
 spc:=by rw [Zn0 R.ne_LS.symm];exact R.spc
 psh:=by rw [Zn0 R.ne_LP.symm];exact R.psh
 nd:=R.nd
 wf:=wf
 bh:=R.bh
theorem setSpc (R:Rep C H d m b) {k x:Nat}{ss:List Nat} (hk:k<32) (hs:H d.aS=some (.lst (ss.map iv))) (ls:ss.length=32) (gs:∀ j,j<32→ss[j]? = some (m.special j)) (wf:WF (KU m k x)) (hg:k≠19) :
  Rep C (upd H d.aS (.lst ((ss.set k x).map iv))) d (KU m k x) b where
 obj:=by rw [Zn0 R.ne_MS];exact R.obj
 dxo:=by rw [Zn0 R.ne_dS];exact R.dxo
 mem:=by rw [Zn0 R.ne_KS];exact R.mem
 loc:=by rw [Zn0 R.ne_LS];exact R.loc
 wid:=by
  rw [Zn0 R.ne_WS]
  obtain ⟨ws,h1,h2,h3⟩:=R.wid
  refine ⟨ws,h1,h2,fun j hj=>h3 j ?_⟩
  have e:(KU m k x).special 19=m.special 19:=if_neg (fun z=>hg z.symm)
  rw [e] at hj
  exact hj
 spc:=by
  refine ⟨ss.set k x,Zm0,by rw [List.length_set];exact ls,fun j hj=>?_⟩
  show _=some (if j=k then x else m.special j)
  by_cases e:j=k
  ·subst e;rw [if_pos rfl,List.getElem?_set_self (by lia)]
  ·rw [if_neg e,List.getElem?_set_ne (fun z=>e z.symm)];exact gs j hj
 psh:=by rw [Zn0 R.ne_SP.symm];exact R.psh
 nd:=R.nd
 wf:=wf
 bh:=R.bh
theorem setWid (R:Rep C H d m b) {k x:Nat}{ws:List Nat} (hk:k<256) (hs:H d.aW=some (.lst (ws.map iv))) (ls:ws.length=256) (gs:∀ j,m.special 19≤j→j<256→ws[j]? = some (m.globals j))
  (wf:WF { m with globals:=fun j=>if j=k then x else m.globals j }):Rep C (upd H d.aW (.lst ((ws.set k x).map iv))) d { m with globals:=fun j=>if j=k then x else m.globals j } b where
 obj:=by rw [Zn0 R.ne_MW];exact R.obj
 dxo:=by rw [Zn0 R.ne_dW];exact R.dxo
 mem:=by rw [Zn0 R.ne_KW];exact R.mem
 loc:=by rw [Zn0 R.ne_LW];exact R.loc
 wid:=by
  refine ⟨ws.set k x,Zm0,by rw [List.length_set];exact ls,fun j hj hj2=>?_⟩
  show _=some (if j=k then x else m.globals j)
  by_cases e:j=k
  ·subst e;rw [if_pos rfl,List.getElem?_set_self (by lia)]
  ·rw [if_neg e,List.getElem?_set_ne (fun z=>e z.symm)];exact gs j hj hj2
 spc:=by rw [Zn0 R.ne_WS.symm];exact R.spc
 psh:=by rw [Zn0 R.ne_WP.symm];exact R.psh
 nd:=R.nd
 wf:=wf
 bh:=R.bh
theorem setObj (R:Rep C H d m b) {pc' b':Nat} (wf:WF { m with pc:=pc' }) (hb:b'<2^64):Rep C (upd H d.M (.ins C d.dx (mf d.aM d.aL d.aW d.aS d.aP pc' b'))) d { m with pc:=pc' } b' where
 obj:=Zm0
 dxo:=by rw [Zn0 R.ne_Md.symm];exact R.dxo
 mem:=by rw [Zn0 R.ne_MM.symm];exact R.mem
 loc:=by rw [Zn0 R.ne_ML.symm];exact R.loc
 wid:=by rw [Zn0 R.ne_MW.symm];exact R.wid
 spc:=by rw [Zn0 R.ne_MS.symm];exact R.spc
 psh:=by rw [Zn0 R.ne_MP.symm];exact R.psh
 nd:=R.nd
 wf:=wf
 bh:=hb
end Rep
structure Txt (K:PySem.W.Frag) (mg:Str→Option Value) (C:Addr):Prop where
 cl:Cls K C
 nMem:Jo0 K C "memory"
 nLoc:Jo0 K C "local"
 nWid:Jo0 K C "wide"
 nSpc:Jo0 K C "special"
 nPsh:Jo0 K C "pushed"
 nPla:Jo0 K C "place"
 nBeh:Jo0 K C "behind"
 mgC:mg "Machine" = some (.ref C)
 rg:∃ t,mg "RG" = some (.int 19 t)
 len:mg "len" = none
theorem Zo0 {X:Cx}{x:Str}{n:Int}{pos:Pos} (h:∃ t,X.mg x=some (.int n t)) (hg:Gl X x:=by rfl) (hd:(x == ("__debug__" : Str))=false:=by decide):PE X (.Name x pos) (tC (.int n)):=by
 obtain ⟨t,hm⟩:=h
 exact Za1 (v:=.int n) hg hm ⟨t,rfl⟩ hd
theorem Zd1 {ws:List Nat}{j:Nat}{n:Nat} (h:ws[j]? = some n):atI (ws.map iv) (j:Int)=some (iv n):=Xt2 (by rw [List.getElem?_map,h];rfl)
inductive Yt1 (C:Addr) (vs:List V) (H:Hp) (Q:VK) (_:XK):Prop |mk (d:Ad) (m:KM) (b k:Nat) (_:vs=[.ref d.M,iv k]) (_:Rep C H d m b) (_:k<256) (_:Q (iv (KS m k)) H)
theorem Jb3:Zj0 ["self","number"] ["self","number"] (Zh0 (Xa0 (top 24) 4)):=by decide +kernel
theorem Js3 {f C:Addr}{fd:FuncData} (F:Fun K "value_of" "Machine.value_of" (Xa0 (top 24) 4) f fd) (T:Txt K mg C):FnW P w K mg base 1 f fd ["self","number"] (Yt1 C):=by
 exists Jb3,(by rintro vs H Q E ⟨d,m,b,k,rfl,_⟩;rfl)
 obtain ⟨d,m,b,k,rfl,R,hk,q⟩:=h
 refine ⟨_,Zd0 (Yb0 (Zt0 Zh3 (pv 1) (Xi0 Ym0 (Yh0 (pv 0) rfl) (Zo0 T.rg) (fun _ _=>rfl)) (Zv0 _)) (Ze0 (Zk0 (Xi0 Ym0 (Yh0 (pv 0) rfl) (pv 1) (fun _ _=>rfl)))) Zq0)
  (Zd0 (Yb0 (Zt0 Ye1 (pv 1) (Yl0 Yu0 (by rfl) T.len PySem.boot_len (Za0 (Yh0 (pv 0) rfl) Zc0)) (Zv0 _)) (Ze0 (Zk0 (Xi0 Ym0 (Yh0 (pv 0) rfl) (pv 1) (fun _ _=>rfl)))) Zq0)
  (Ze0 (Zk0 Zg0))),?_⟩
 obtain ⟨ss,hS,lS,gS⟩:=R.spc
 obtain ⟨ws,hW,lW,gW⟩:=R.wid
 refine ⟨_,rfl,_,rfl,d.M,C,d.dx,_,_,rfl,R.obj,T.cl,T.nSpc,rfl,d.aS,_,_,_,rfl,rfl,SqL.of hS,Zd1 (gS 19 (by decide)),_,_,rfl,rfl,_,rfl,?_⟩
 refine Xb0 (fun hc=>?_) (fun hc=>?_)
 ·have hc':m.special 19≤k:=by have:=of_decide_eq_true hc;lia
  refine ⟨_,rfl,d.M,C,d.dx,_,_,rfl,R.obj,T.cl,T.nWid,rfl,_,rfl,d.aW,_,_,_,rfl,rfl,SqL.of hW,Zd1 (gW k hc' hk),?_⟩
  have e:KS m k=m.globals k:=if_pos hc'
  rw [e] at q
  exact q
 ·have hc':¬ m.special 19≤k:=fun z=>hc (decide_eq_true (by lia))
  have e:KS m k=m.locals.getD k 0:=if_neg hc'
  rw [e] at q
  refine ⟨_,rfl,_,rfl,d.M,C,d.dx,_,_,rfl,R.obj,T.cl,T.nLoc,rfl,d.aL,_,rfl,.inl (SqL.of R.loc),_,_,rfl,rfl,_,rfl,?_⟩
  refine Xb0 (fun hd=>?_) (fun hd=>?_)
  ·have hd':k<m.locals.length:=by have:=of_decide_eq_true hd;rw [List.length_map] at this;lia
   have hx:m.locals[k]? = some (m.locals.getD k 0):=by rw [List.getElem?_eq_getElem hd',List.getD_eq_getElem?_getD,List.getElem?_eq_getElem hd'];rfl
   exact ⟨_,rfl,d.M,C,d.dx,_,_,rfl,R.obj,T.cl,T.nLoc,rfl,_,rfl,d.aL,_,_,_,rfl,rfl,SqL.of R.loc,Zd1 hx,q⟩
  ·have hd':m.locals.length≤k:=by
    apply Nat.le_of_not_lt;intro z;exact hd (decide_eq_true (by rw [List.length_map];lia))
   have hx:m.locals.getD k 0=0:=by rw [List.getD_eq_getElem?_getD,List.getElem?_eq_none hd'];rfl
   rw [hx] at q
   exact q
theorem Uw5 {X:Cx}:PGet X (rIxL X.K):=by
 intro pins s σ H x y v u Q I rx ry h
 obtain ⟨p,xs,i,z,rfl,rfl,hq,he,q⟩:=h
 cases rx
 obtain ⟨t,rfl⟩:=ry
 obtain ⟨its,r,pl,hz⟩:=I.list hq
 obtain ⟨j,h1,h2,h3,h4,h5⟩:=Zu4 he
 obtain ⟨w,ew,rw'⟩:=r.get h2
 have hl:=r.length
 have hn:=Ux2
 have fin:EP X pins σ Q w s:=⟨z,H,I,rw',q⟩
 by_cases h0:0≤i
 ·have hj:i.toNat=j:=by
   rw [seqIndex_of h0 h5] at h1
   exact Option.some.inj h1
  exact wpAny_getItem_list pl.isList h0 (by lia) (by rw [hj];simpa using ew) fin
 ·have hj:(i+(its.toArray.size:Int)).toNat=j:=by
   rw [seqIndex_neg (by lia) h4] at h1
   rw [List.size_toArray,← hl]
   exact Option.some.inj h1
  exact wpAny_getItem_list_neg pl.isList (by lia) (by rw [List.size_toArray] <;> lia) (by lia) (by rw [hj];simpa using ew) fin
theorem ip_orP {X:Cx}:PIp X .BitOr (rI0 fun i j=>.int (Builtin.bitOr i j)):=Up5
theorem Vt0 {n j:Nat} (h:j<n):ixN n (j:Int)=some j:=by
 unfold ixN
 rw [if_pos (by lia),if_pos (by lia)]
 rfl
theorem Jh0 (ws:List Nat) (j x:Nat):(ws.map iv).set j (iv x)=(ws.set j x).map iv:=List.map_set.symm
namespace WF
variable {m:KM}
theorem setLoc (h:WF m) {ls:List Nat} (h1:∀ v∈ls,v<2^64) (h2:ls.length≤300):WF { m with locals:=ls }:=⟨h.pc,h1,h.glo,h.spe,h.mem,h.g1,h.g2,h2,h.ra,h.psh,h.stk,h.few⟩
theorem setGlo (h:WF m) {k x:Nat} (hx:x<2^64):WF { m with globals:=fun j=>if j=k then x else m.globals j } :=
 ⟨h.pc,h.loc,fun j=>by show (if j=k then x else m.globals j)<_;split;exact hx;exact h.glo j,h.spe,h.mem,h.g1,h.g2,h.len,h.ra,h.psh,h.stk,h.few⟩
theorem setPc (h:WF m) {x:Nat} (hx:x<2^64):WF { m with pc:=x }:=⟨hx,h.loc,h.glo,h.spe,h.mem,h.g1,h.g2,h.len,h.ra,h.psh,h.stk,h.few⟩
theorem setSp (h:WF m) {k x:Nat} (hx:x<2^64) (h19:k≠19) (h21:k=21→x<2^18):WF (KU m k x):=by
 have e19:(KU m k x).special 19=m.special 19:=if_neg (fun z=>h19 z.symm)
 refine ⟨h.pc,h.loc,h.glo,fun j=>?_,h.mem,by rw [e19];exact h.g1,by rw [e19];exact h.g2,h.len,?_,h.psh,h.stk,h.few⟩
 ·show (if j=k then x else m.special j)<_
  split
  ·exact hx
  ·exact h.spe j
 ·show (if 21=k then x else m.special 21)<_
  split
  ·rename_i e;exact h21 e.symm
  ·exact h.ra
end WF
def Uq0 (ls:List Nat) (c:Nat):List Nat:=ls++List.replicate (c-ls.length) 0
theorem Xf1 (ls:List Nat) (c:Nat):(Uq0 ls c).length=max ls.length c:=by unfold Uq0;rw [List.length_append,List.length_replicate];lia
theorem Vq3 {ls:List Nat}{c:Nat} (h:∀ v∈ls,v<2^64):∀ v∈Uq0 ls c,v<2^64:=fun v hv=>by
 unfold Uq0 at hv
 rcases List.mem_append.mp hv with q | q
 ·exact h v q
 ·rw [(List.mem_replicate.mp q).2];exact Nat.two_pow_pos 64
theorem Uz2 {ls:List Nat}{c:Nat} (h:ls.length<c):Uq0 (ls++[0]) c=Uq0 ls c:=by
 unfold Uq0
 rw [List.append_assoc,List.length_append]
 congr 1
 have:c-ls.length=(c-(ls.length+1))+1:=by lia
 show [0]++List.replicate (c-(ls.length+1)) 0=_
 rw [this,List.replicate_succ]
 rfl
theorem Ja2 {ls:List Nat}{c:Nat} (h:c≤ls.length):Uq0 ls c=ls:=by unfold Uq0;rw [Nat.sub_eq_zero_of_le h];simp
inductive Ue6 (C:Addr) (vs:List V) (H:Hp) (Q:VK) (_:XK):Prop |mk (d:Ad) (m:KM) (b c:Nat) (_:vs=[.ref d.M,iv c]) (_:Rep C H d m b) (_:c≤300) (_:Ub0 C H d { m with locals:=Uq0 m.locals c } b (Q .non))
theorem Uf1:Zj0 ["self","count"] ["self","count"] (Zh0 (Xa0 (top 24) 6)):=by decide +kernel
theorem Zm3 {f C:Addr}{fd:FuncData} (F:Fun K "make_local" "Machine.make_local" (Xa0 (top 24) 6) f fd) (T:Txt K mg C):FnW P w K mg base 1 f fd ["self","count"] (Ue6 C):=by
 exists Uf1,(by rintro vs H Q E ⟨d,m,b,k,rfl,_⟩;rfl)
 obtain ⟨d,m,b,c,rfl,R,hc,q⟩:=h
 refine ⟨_,Ze0 (Xr1 PassesOwn.leaving (Zt0 Ye1 (Yl0 Yu0 (by rfl) T.len PySem.boot_len (Za0 (Yh0 (pv 0) rfl) Zc0)) (pv 1) (Zv0 _))
  (Ze0 (Zx0 (Jp3 PySem.F.plainAttrs_list PySem.F.slot_list_append PySem.F.type_list_append Xd1 (Yh0 (pv 0) rfl) (Za0 Zg0 Zc0))))),?_⟩
 refine Xm1 (fun σ H'=>∃ ls:List Nat,σ=[some (.ref d.M),some (iv c)]∧Rep C H' d { m with locals:=ls } b∧Vf0 d.own d.own H H'∧Uq0 ls c=Uq0 m.locals c) (fun σ H'=>c-(match H' d.aL with | some (.lst xs)=>xs.length | _=>0))
  ⟨m.locals,rfl,R,Vf0.refl _ _,rfl⟩ ?_ ?_
 ·rintro σ H' ⟨ls,rfl,R',kp,eg⟩
  refine ⟨_,rfl,d.M,C,d.dx,_,_,rfl,R'.obj,T.cl,T.nLoc,rfl,d.aL,_,rfl,.inl (SqL.of R'.loc),_,rfl,_,_,rfl,rfl,_,rfl,?_⟩
  refine Xb0 (fun hd=>?_) (fun hd=>?_)
  ·have hl:ls.length<c:=by have:=of_decide_eq_true (show decide (((ls.map iv).length:Int)<(c:Int))=true from hd);rw [List.length_map] at this;lia
   refine ⟨_,rfl,d.M,C,d.dx,_,_,rfl,R'.obj,T.cl,T.nLoc,rfl,.inl ⟨rfl,_,SqL.of R'.loc⟩,d.aL,_,_,rfl,rfl,R'.loc,(by rw [List.length_map];exact Nat.lt_of_lt_of_le hl (Nat.le_trans hc (by decide))),?_⟩
   have e:(ls.map iv++[V.int 0])=(ls++[0]).map iv:=by rw [List.map_append];rfl
   show (∃ ls':List Nat,_∧Rep C (upd H' d.aL (.lst (ls.map iv++[V.int 0]))) d { m with locals:=ls' } b∧_∧_)∧_
   rw [e]
   have wf':WF { m with locals:=ls++[0] }:=WF.setLoc R.wf (fun v hv=>by
    rcases List.mem_append.mp hv with z | z
    ·exact R'.wf.loc v z
    ·rw [List.mem_singleton.mp z];exact Nat.two_pow_pos 64) (by rw [List.length_append];show ls.length+1≤300;lia)
   refine ⟨⟨ls++[0],rfl,R'.setLoc wf',kp.trans (Vf0.upd (by simp [Ad.own])),by rw [Uz2 hl];exact eg⟩,?_⟩
   show c-(match upd H' d.aL (.lst ((ls++[0]).map iv)) d.aL with | some (.lst xs)=>xs.length | _=>0)<c-(match H' d.aL with | some (.lst xs)=>xs.length | _=>0)
   rw [Zm0,R'.loc]
   show c-((ls++[0]).map iv).length<c-(List.map iv ls).length
   rw [List.length_map,List.length_map,List.length_append]
   show c-(ls.length+1)<c-ls.length
   lia
  ·have hl:c≤ls.length:=by
    apply Nat.le_of_not_lt;intro z;exact hd (show decide (((ls.map iv).length:Int)<(c:Int))=true from decide_eq_true (by rw [List.length_map];lia))
   rw [Ja2 hl] at eg
   rw [eg] at R'
   exact q H' d rfl R' kp
 ·rintro σ H' Q1 Q2 hm ⟨x,e1,a1,C1,d1,f1,v1,e2,e3,e4,e5,e6,p1,ys,e7,e8,y,e9,i1,j1,e10,e11,bb,e12,hq⟩
  exact ⟨x,e1,a1,C1,d1,f1,v1,e2,e3,e4,e5,e6,p1,ys,e7,e8,y,e9,i1,j1,e10,e11,bb,e12,hm _ _ hq⟩
theorem Yv0 (a b:Nat):Builtin.bitOr (a:Int) (b:Int)=((a|||b:Nat):Int):=by
 unfold Builtin.bitOr Builtin.bitAnd Builtin.bitNot
 rw [decide_eq_false (by lia),decide_eq_false (by lia)]
 have e1:(-(-(a:Int)-1)-1).toNat=a:=by lia
 have e2:(-(-(b:Int)-1)-1).toNat=b:=by lia
 simp only [e1,e2]
 lia
theorem Xy7 {a b:Nat} (ha:a<2^18) (hb:b<2^18):a|||b<2^18:=Nat.or_lt_two_pow ha hb
structure Zx1 (mg:Str→Option Value):Prop where
 rl:∃ t,mg "RL" = some (.int 20 t)
 ra:∃ t,mg "RA" = some (.int 21 t)
 mask:∃ t,mg "MASK" = some (.int 18446744073709551615 t)
 size:∃ t,mg "MEMORY_SIZE" = some (.int 1048576 t)
theorem Vz1 {a:Int} (h:0≤a):Builtin.bitAnd a 18446744073709551615=a%18446744073709551616:=by
 obtain ⟨n,rfl⟩:=Int.eq_ofNat_of_zero_le h
 unfold Builtin.bitAnd
 rw [decide_eq_true (by lia),decide_eq_true (by decide)]
 show ((n&&&18446744073709551615:Nat):Int)=_
 rw [show (18446744073709551615:Nat)=2^64-1 from rfl,Nat.and_two_pow_sub_one_eq_mod]
 rfl
theorem wf_set {m:KM} (h:WF m) {k x:Nat} (hx:x<2^64) (hk:k<256):WF (KL m k x):=by
 unfold KL
 split
 ·exact h.setGlo hx
 ·refine h.setLoc (fun v hv=>?_) ?_
  ·rcases List.mem_or_eq_of_mem_set hv with q | q
   ·exact Vq3 h.loc v q
   ·rw [q];exact hx
  ·rw [List.length_set]
   have:=Xf1 m.locals (k+1)
   unfold Uq0 at this
   rw [this]
   have:=h.len
   lia
inductive Uk6 (C:Addr) (vs:List V) (H:Hp) (Q:VK) (_:XK):Prop |mk (d:Ad) (m:KM) (b k x:Nat) (_:vs=[.ref d.M,iv k,iv x]) (_:Rep C H d m b) (_:k<256) (_:x<2^64) (_:Ub0 C H d (KL m k x) b (Q .non))
theorem Ys7:Zj0 ["self","number","value"] ["self","number","value"] (Zh0 (Xa0 (top 24) 5)):=by decide +kernel
theorem Uc7 {f C fK:Addr}{fd fdK:FuncData} (F:Fun K "give" "Machine.give" (Xa0 (top 24) 5) f fd) (T:Txt K mg C) (GM:FnW P w K mg base 1 fK fdK ["self","count"] (Ue6 C)) (bM:Ui0 K fdK ["self","count"] []) (mM:Vm6 K C "make_local" fK) :
  FnW P w K mg base 2 f fd ["self","number","value"] (Uk6 C):=by
 exists Ys7,(by rintro vs H Q E ⟨d,m,b,k,x,rfl,_⟩;rfl)
 obtain ⟨d,m,b,k,x,rfl,R,hk,hx,q⟩:=h
 refine ⟨_,Zd0 (Yb0 (Zt0 Zh3 (pv 1) (Xi0 Ym0 (Yh0 (pv 0) rfl) (Zo0 T.rg) (fun _ _=>rfl)) (Zv0 _)) (Zd0 (Ji0 (pv 2) (Jj0 (Yh0 (pv 0) rfl) (pv 1) Xs0)) (Ze0 Xm7)) Zq0)
  (Zd0 (Zx0 (Xy5 (pv 0) T.cl mM GM hr bM .nil Zf0 (Za0 (Zl0 Yy0 (pv 1) Zg0) Zc0))) (Ze0 (Ji0 (pv 2) (Jj0 (Yh0 (pv 0) rfl) (pv 1) Xs0)))),?_⟩
 obtain ⟨ss,hS,lS,gS⟩:=R.spc
 obtain ⟨ws,hW,lW,gW⟩:=R.wid
 refine ⟨_,rfl,_,rfl,d.M,C,d.dx,_,_,rfl,R.obj,T.cl,T.nSpc,rfl,d.aS,_,_,_,rfl,rfl,SqL.of hS,Zd1 (gS 19 (by decide)),_,_,rfl,rfl,_,rfl,?_⟩
 refine Xb0 (fun hc=>?_) (fun hc=>?_)
 ·have hc':m.special 19≤k:=by have:=of_decide_eq_true hc;lia
  have e:KL m k x={ m with globals:=fun j=>if j=k then x else m.globals j }:=if_pos hc'
  rw [e] at q
  refine ⟨_,rfl,_,rfl,d.M,C,d.dx,_,_,rfl,R.obj,T.cl,T.nWid,rfl,_,rfl,d.aW,_,_,k,rfl,rfl,hW,Vt0 (by rw [List.length_map];lia),?_⟩
  have z:=q _ d rfl (R.setWid hk hW lW gW (R.wf.setGlo hx)) (Vf0.upd (by simp [Ad.own]))
  rw [← Jh0] at z
  exact z
 ·have hc':¬ m.special 19≤k:=fun z=>hc (decide_eq_true (by lia))
  have e:KL m k x={ m with locals:=(Uq0 m.locals (k+1)).set k x }:=if_neg hc'
  refine ⟨_,rfl,d.M,d.dx,_,rfl,R.obj,rfl,_,rfl,_,_,rfl,rfl,d,m,b,k+1,rfl,R,(by lia),fun H1 d1 e1 R1 k1=>?_⟩
  refine ⟨_,rfl,_,rfl,d1.M,C,d1.dx,_,_,(by rw [e1]),R1.obj,T.cl,T.nLoc,rfl,_,rfl,d1.aL,_,_,k,rfl,rfl,R1.loc,Vt0 (by rw [List.length_map];show k<(Uq0 m.locals (k+1)).length;rw [Xf1];lia),?_⟩
  have hwf:WF { m with locals:=(Uq0 m.locals (k+1)).set k x }:=by rw [← e];exact wf_set R.wf hx hk
  rw [e] at q
  have z:=q _ d1 e1 (R1.setLoc (ls:=(Uq0 m.locals (k+1)).set k x) hwf) (k1.trans (Vf0.upd (by simp [Ad.own])))
  rw [← Jh0] at z
  exact z
inductive Vm1 (C:Addr) (vs:List V) (H:Hp) (Q:VK) (_:XK):Prop |mk (d:Ad) (m:KM) (b k:Nat) (_:vs=[.ref d.M,iv k]) (_:Rep C H d m b) (_:k<32) (_:Q (iv (Kg22.special_ m k)) H)
theorem Jw2:Zj0 ["self","number"] ["self","number"] (Zh0 (Xa0 (top 24) 7)):=by decide +kernel
theorem Zk3 {f C:Addr}{fd:FuncData} (F:Fun K "special_of" "Machine.special_of" (Xa0 (top 24) 7) f fd) (T:Txt K mg C) (T2:Zx1 mg):FnW P w K mg base 1 f fd ["self","number"] (Vm1 C):=by
 exists Jw2,(by rintro vs H Q E ⟨d,m,b,k,rfl,_⟩;rfl)
 obtain ⟨d,m,b,k,rfl,R,hk,q⟩:=h
 refine ⟨_,Zd0 (Yb0 (Zt0 Xj0 (pv 1) (Zo0 T2.rl) (Zv0 _)) (Ze0 (Zk0 (Yl0 Yu0 (by rfl) T.len PySem.boot_len (Za0 (Yh0 (pv 0) rfl) Zc0)))) Zq0)
  (Ze0 (Zk0 (Xi0 Ym0 (Yh0 (pv 0) rfl) (pv 1) (fun _ _=>rfl)))),?_⟩
 obtain ⟨ss,hS,lS,gS⟩:=R.spc
 refine ⟨_,rfl,rfl,_,rfl,?_⟩
 refine Xb0 (fun hc=>?_) (fun hc=>?_)
 ·have hc':k=20:=by
   have z:=of_decide_eq_true hc
   injection z with z
   lia
  subst hc'
  refine ⟨_,rfl,d.M,C,d.dx,_,_,rfl,R.obj,T.cl,T.nLoc,rfl,d.aL,_,rfl,.inl (SqL.of R.loc),?_⟩
  rw [List.length_map]
  exact q
 ·have hc':k≠20:=fun z=>hc (decide_eq_true (by rw [z];rfl))
  have e:Kg22.special_ m k=m.special k:=if_neg hc'
  rw [e] at q
  exact ⟨_,rfl,d.M,C,d.dx,_,_,rfl,R.obj,T.cl,T.nSpc,rfl,_,rfl,d.aS,_,_,_,rfl,rfl,SqL.of hS,Zd1 (gS k hk),q⟩
inductive Yo5 (C:Addr) (vs:List V) (H:Hp) (Q:VK) (_:XK):Prop |mk (d:Ad) (m:KM) (b fl:Nat) (_:vs=[.ref d.M,iv fl]) (_:Rep C H d m b) (_:fl<256) (_:Ub0 C H d (KF m fl) b (Q .non))
theorem Xl3:Zj0 ["self","flags"] ["self","flags"] (Zh0 (Xa0 (top 24) 8)):=by decide +kernel
theorem Vf3 {f C:Addr}{fd:FuncData} (F:Fun K "add_flags" "Machine.add_flags" (Xa0 (top 24) 8) f fd) (T:Txt K mg C) (T2:Zx1 mg):FnW P w K mg base 1 f fd ["self","flags"] (Yo5 C):=by
 exists Xl3,(by rintro vs H Q E ⟨d,m,b,k,rfl,_⟩;rfl)
 obtain ⟨d,m,b,fl,rfl,R,hk,q⟩:=h
 refine ⟨_,Ze0 (Xp7 (Yh0 (pv 0) rfl) (Zo0 T2.ra) Uw5 (pv 1) ip_orP Xs0),?_⟩
 obtain ⟨ss,hS,lS,gS⟩:=R.spc
 have h21:m.special 21|||fl<2^18:=Xy7 R.wf.ra (by lia)
 refine ⟨_,rfl,d.M,C,d.dx,_,_,rfl,R.obj,T.cl,T.nSpc,rfl,d.aS,_,_,_,rfl,rfl,SqL.of hS,Zd1 (gS 21 (by decide)),_,rfl,_,_,rfl,rfl,d.aS,_,_,21,rfl,rfl,hS,Vt0 (n:=(List.map iv ss).length) (j:=21) (by rw [List.length_map,lS];decide),?_⟩
 have z:=q _ d rfl (R.setSpc (k:=21) (x:=m.special 21|||fl) (by decide) hS lS gS (R.wf.setSp (by lia) (by decide) (fun _=>h21)) (by decide)) (Vf0.upd (by simp [Ad.own]))
 rw [← Jh0] at z
 dsimp only
 rw [Yv0]
 exact z
inductive Uj2 (C:Addr) (vs:List V) (H:Hp) (Q:VK) (_:XK):Prop |mk (d:Ad) (m:KM) (b:Nat) (_:vs=[.ref d.M]) (_:Rep C H d m b) (_:Q (iv (KZ m)) H)
theorem Jd3:Zj0 ["self"] ["self"] (Zh0 (Xa0 (top 24) 9)):=by decide +kernel
theorem Jw3 {f C:Addr}{fd:FuncData} (F:Fun K "rounding" "Machine.rounding" (Xa0 (top 24) 9) f fd) (T:Txt K mg C) (T2:Zx1 mg):FnW P w K mg base 1 f fd ["self"] (Uj2 C):=by
 exists Jd3,(by rintro vs H Q E ⟨d,m,b,rfl,_⟩;rfl)
 obtain ⟨d,m,b,rfl,R,q⟩:=h
 refine ⟨_,Ze0 (Zk0 (Zl0 Yf0 (Zl0 Xf0 (Xi0 Ym0 (Yh0 (pv 0) rfl) (Zo0 T2.ra) (fun _ _=>rfl)) Zg0) Zg0)),?_⟩
 obtain ⟨ss,hS,lS,gS⟩:=R.spc
 refine ⟨_,rfl,d.M,C,d.dx,_,_,rfl,R.obj,T.cl,T.nSpc,rfl,d.aS,_,_,_,rfl,rfl,SqL.of hS,Zd1 (gS 21 (by decide)),_,_,rfl,rfl,(by decide:(0:Int)≤16),_,_,rfl,rfl,?_⟩
 dsimp only
 rw [bitAnd_m2]
 exact q
inductive Uj6 (C:Addr) (vs:List V) (H:Hp) (Q:VK) (_:XK):Prop |mk (d:Ad) (m:KM) (b:Nat) (_:vs=[.ref d.M]) (_:Rep C H d m b) (_:Ub0 C H d m ((m.pc+4)%2^64) (Q .non))
theorem Yc6:Zj0 ["self"] ["self"] (Zh0 (Xa0 (top 24) 10)):=by decide +kernel
theorem Xa6 {f C:Addr}{fd:FuncData} (F:Fun K "go_on" "Machine.go_on" (Xa0 (top 24) 10) f fd) (T:Txt K mg C) (T2:Zx1 mg):FnW P w K mg base 1 f fd ["self"] (Uj6 C):=by
 exists Yc6,(by rintro vs H Q E ⟨d,m,b,rfl,_⟩;rfl)
 obtain ⟨d,m,b,rfl,R,q⟩:=h
 refine ⟨_,Ze0 (Ue0 (pv 0) (Zl0 Yf0 (Zl0 Yy0 (Yh0 (pv 0) rfl) Zg0) (Zo0 T2.mask)) rfl),?_⟩
 refine ⟨_,rfl,d.M,C,d.dx,_,_,rfl,R.obj,T.cl,T.nPla,rfl,_,_,rfl,rfl,_,_,rfl,rfl,_,rfl,d.M,C,d.dx,_,rfl,R.obj,T.cl,T.nBeh,(by show 7<1000;decide),?_⟩
 dsimp only
 rw [Vz1 (by lia)]
 exact q _ d rfl (R.setObj (pc':=m.pc) (b':=(m.pc+4)%2^64) R.wf (Nat.mod_lt _ (by decide))) (Vf0.upd (by simp [Ad.own]))
theorem Xm0 (a b:Nat):Builtin.bitAnd (a:Int) (b:Int)=((a&&&b:Nat):Int):=by
 unfold Builtin.bitAnd
 rw [decide_eq_true (by lia),decide_eq_true (by lia)]
 rfl
theorem Vd0 (a k:Nat):Builtin.bitAnd (a:Int) (((2^k-1:Nat)):Int)=((a%2^k:Nat):Int):=by
 rw [Xm0,Nat.and_two_pow_sub_one_eq_mod]
def Sz (n:Nat):Prop:=n=1∨n=2∨n=4∨n=8
theorem Jg2 {r n:Nat} (hr:r<8) (hn:Sz n):Builtin.bitAnd (r:Int) (-(n:Int))=((r/n*n:Nat):Int):=by
 have h8:r=0∨r=1∨r=2∨r=3∨r=4∨r=5∨r=6∨r=7:=by lia
 rcases hn with rfl | rfl | rfl | rfl <;> rcases h8 with rfl | rfl | rfl | rfl | rfl | rfl | rfl | rfl <;> decide
def Vr0 (a n:Nat):Nat:=64-8*n-8*(a/n*n%8)
theorem Ud1 {a n:Nat} (hn:Sz n):(64:Int)-8*((n:Int)+((a%8/n*n:Nat):Int))=(Vr0 a n:Int)∧a/n*n/8=a/8∧Vr0 a n+8*n≤64:=by
 unfold Vr0
 rcases hn with rfl | rfl | rfl | rfl <;> lia
theorem Ug5 (m:KM) {a n:Nat} (ha:a<2^64) (hn:Sz n):KI m a n=if 1048576≤a then .error 1 else .ok (m.mem (a/8)/2^Vr0 a n%2^(8*n)):=by
 unfold KI
 have e:a%Kg22.W=a:=Nat.mod_eq_of_lt ha
 rw [e]
 dsimp only
 rw [(Ud1 (a:=a) hn).2.1]
 rfl
inductive Ug6 (C c1:Addr) (vs:List V) (H:Hp) (Q:VK) (E:XK):Prop |mk (d:Ad) (m:KM) (b a n:Nat) (_:vs=[.ref d.M,iv a,iv n]) (_:Rep C H d m b) (_:a<2^64) (_:Sz n) (_:∀ v,KI m a n=.ok v→Q (iv v) H) (_:KI m a n=.error 1→E (.ref c1) none H)
theorem Xd5:Zj0 ["self","place","size","shift","mask"] ["self","place","size"] (Zh0 (Xa0 (top 24) 2)):=by decide +kernel
theorem Uz6 {kvs:List (Key×V)}{mem:Nat→Nat} (h:Yl3 kvs mem) (k:Nat):(Zu2 kvs (Sum.inl (k:Int))).getD (V.int 0)=iv (mem k):=by
 rcases h.at_ k with ⟨e1,e2⟩ | e1
 ·rw [e1,e2];rfl
 ·rw [e1];rfl
theorem Vx7 {f C c1:Addr}{fd:FuncData} (F:Fun K "load" "Machine.load" (Xa0 (top 24) 2) f fd) (T:Txt K mg C) (T2:Zx1 mg) (x1:ExC K c1) (m1:mg "PastMemory" = some (.ref c1)):FnW P w K mg base 1 f fd ["self","place","size"] (Ug6 C c1):=by
 exists Xd5,(by rintro vs H Q E ⟨d,m,b,a,n,rfl,_⟩;rfl)
 obtain ⟨d,m,b,a,n,rfl,R,ha,hn,q1,q2⟩:=h
 have nd:=Xd5.nd
 refine ⟨_,Zd0 (Yb0 (Zt0 Zh3 (pv 1) (Zo0 T2.size) (Zv0 _)) (Ze0 (Uy0 x1 rfl m1)) Zq0)
  (Zd0 (Zp0 (i:=3) nd rfl (Or.inl rfl) (Zl0 Xe0 Zg0 (Zl0 Vq0 Zg0 (Zl0 Yy0 (pv 2) (Zl0 Yf0 (Zl0 Yf0 (pv 1) Zg0) (Xc1 Jg0 (pv 2)))))))
  (Zd0 (Zp0 (i:=4) nd rfl (Or.inl rfl) (Zl0 Xe0 (Zl0 Vy0 Zg0 (Zl0 Vq0 Zg0 (pv 2))) Zg0))
  (Ze0 (Zk0 (Zl0 Yf0 (Zl0 Xf0 (Yv4 (Jp7 hr) (Yh0 (pv 0) rfl) (Zl0 Xf0 (pv 1) Zg0) Zg0 ⟨rfl,rfl,rfl,rfl⟩) (pv 3)) (pv 4)))))),?_⟩
 refine ⟨_,rfl,_,_,rfl,rfl,_,rfl,?_⟩
 rw [Ug5 m ha hn] at q1 q2
 refine Xb0 (fun hc=>?_) (fun hc=>?_)
 ·have hc':1048576≤a:=by have:=of_decide_eq_true hc;lia
  exact q2 (if_pos hc')
 ·have hc':¬ 1048576≤a:=fun z=>hc (decide_eq_true (by lia))
  rw [if_neg hc'] at q1
  have q:=q1 _ rfl
  obtain ⟨e1,e2,e3⟩:=Ud1 (a:=a) hn
  obtain ⟨kvs,hM,mo⟩:=R.mem
  refine ⟨_,rfl,_,rfl,_,_,rfl,rfl,_,rfl,_,rfl,_,_,rfl,rfl,_,_,rfl,rfl,_,_,rfl,rfl,.inl ⟨by decide,by decide⟩,_,_,rfl,rfl,?_⟩
  have k1:(64:Int)-8*((n:Int)+Builtin.bitAnd (Builtin.bitAnd (a:Int) 7) (-(n:Int)))=(Vr0 a n:Int):=by
   rw [bitAnd_m3,show ((a:Int)%8)=((a%8:Nat):Int) from rfl,Jg2 (Nat.mod_lt _ (by decide)) hn]
   exact e1
  dsimp only
  rw [k1]
  have hn8:n≤8:=by rcases hn with rfl | rfl | rfl | rfl <;> decide
  refine ⟨_,rfl,_,_,rfl,rfl,.inl ⟨by decide,by decide⟩,_,_,rfl,rfl,⟨by lia,by lia,by decide⟩,_,_,rfl,rfl,?_⟩
  have k2:(1:Int)*2^((8:Int)*(n:Int)).toNat-1=(((2^(8*n)-1:Nat)):Int):=by
   have p:=Nat.two_pow_pos (8*n)
   have t:((8:Int)*(n:Int)).toNat=8*n:=by lia
   rw [t,Int.one_mul,Int.ofNat_sub p]
   norm_cast
  dsimp only
  rw [k2]
  refine ⟨_,rfl,d.M,C,d.dx,_,_,rfl,R.obj,T.cl,T.nMem,rfl,d.aM,rfl,.inl ⟨_,.inl hM⟩,_,rfl,_,_,rfl,rfl,(by decide:(0:Int)≤3),_,DGet.k (k:=Sum.inl ((a/8:Nat):Int)) hM,_,rfl,?_⟩
  rw [Uz6 mo]
  refine ⟨_,_,rfl,rfl,(by lia:(0:Int)≤(Vr0 a n:Int)),_,rfl,_,_,rfl,rfl,?_⟩
  have k3:((m.mem (a/8):Nat):Int)/2^((Vr0 a n:Int)).toNat=((m.mem (a/8)/2^Vr0 a n:Nat):Int):=by
   rw [Int.toNat_natCast]
   norm_cast
  dsimp only
  rw [k3,Vd0]
  exact q
theorem Zb2:∀ (n:Nat) (l:List Nat),l.Nodup→(∀ x∈l,x<n)→l.length≤n
 | 0,l,_,h=>by
  cases l with
  | nil=>exact Nat.le_refl _
  | cons a r=>exact absurd (h a List.mem_cons_self) (Nat.not_lt_zero _)
 | n+1,l,nd,h=>by
  have ih:=Zb2 n (l.erase n) (nd.erase n) fun x hx=>by
   have h1:=h x (List.mem_of_mem_erase hx)
   have h2:x≠n:=fun z=>by
    rw [z] at hx
    exact (nd.not_mem_erase) hx
   lia
  by_cases hm:n∈l
  ·rw [List.length_erase_of_mem hm] at ih;lia
  ·rw [List.erase_of_not_mem hm] at ih;lia
theorem Yl3.few {kvs:List (Key×V)}{mem:Nat→Nat} (h:Yl3 kvs mem):kvs.length≤131072:=by
 obtain ⟨ks,e,nd,lt⟩:=h.keys
 have:=congrArg List.length e
 rw [List.length_map,List.length_map] at this
 rw [this]
 exact Zb2 131072 ks nd lt
theorem Jo7 {a b:Nat} (h:(Sum.inl (a:Int):Key)=Sum.inl (b:Int)):a=b:=by injection h with h;lia
theorem Yl3.put {kvs:List (Key×V)}{mem:Nat→Nat} (h:Yl3 kvs mem) {k x:Nat} (hk:k<131072):Yl3 (Jo3 kvs (Sum.inl (k:Int)) (iv x)) (fun j=>if j=k then x else mem j):=by
 refine ⟨fun j=>?_,?_⟩
 ·rw [Zh6]
  by_cases e:j=k
  ·subst e
   rw [if_pos rfl,if_pos rfl];exact .inr rfl
  ·rw [if_neg (fun z=>e (Jo7 z)),if_neg e];exact h.at_ j
 ·obtain ⟨ks,e,nd,lt⟩:=h.keys
  unfold Jo3
  by_cases ha:(kvs.any fun kv=>decide (kv.1=(Sum.inl (k:Int):Key)))=true
  ·rw [if_pos ha]
   refine ⟨ks,?_,nd,lt⟩
   rw [List.map_map,← e]
   apply List.map_congr_left
   intro p _
   show (if p.1=_ then (p.1,iv x) else p).1=p.1
   split <;> rfl
  ·rw [if_neg ha]
   refine ⟨ks++[k],by rw [List.map_append,e,List.map_append];rfl,?_,fun j hj=>?_⟩
   ·refine Vw5 nd fun hm=>ha ?_
    have:(Sum.inl (k:Int):Key)∈kvs.map (·.1):=by rw [e];exact List.mem_map_of_mem hm
    obtain ⟨p,hp,ep⟩:=List.mem_map.mp this
    exact List.any_eq_true.mpr ⟨p,hp,decide_eq_true ep⟩
   ·rcases List.mem_append.mp hj with z | z
    ·exact lt j z
    ·rw [List.mem_singleton.mp z];exact hk
theorem Xr4 (k s i:Nat):((2^k-1)*2^s).testBit i=(decide (s≤i) && decide (i-s<k)):=by
 rw [← Nat.shiftLeft_eq,Nat.testBit_shiftLeft,Nat.testBit_two_pow_sub_one]
theorem Zr2 (o k s:Nat):o&&&((2^k-1)*2^s)=o/2^s%2^k*2^s:=by
 apply Nat.eq_of_testBit_eq
 intro i
 rw [Nat.testBit_and,Xr4,← Nat.shiftLeft_eq,Nat.testBit_shiftLeft,Nat.testBit_mod_two_pow,Nat.testBit_div_two_pow]
 by_cases h:s≤i
 ·have e:s+(i-s)=i:=by lia
  have e':i-s+s=i:=by lia
  simp only [h,decide_true,Bool.true_and,e,e',ge_iff_le]
  exact Bool.and_comm _ _
 ·simp [h]
theorem Vl3 (o M:Nat):o^^^(o&&&M)=o-(o&&&M):=by
 have h:=(Zs2 o (o&&&M)).2
 have e:o&&&(o&&&M)=o&&&M:=by rw [← Nat.and_assoc,Nat.and_self]
 rw [e] at h
 have:=Nat.and_le_left (n:=o) (m:=M)
 lia
theorem Yq4 (o x k s:Nat):(o-(o&&&((2^k-1)*2^s)))|||(x%2^k*2^s)=o-o/2^s%2^k*2^s+x%2^k*2^s:=by
 rw [← Vl3]
 have z:(o^^^(o&&&((2^k-1)*2^s)))&&&(x%2^k*2^s)=0:=by
  apply Nat.eq_of_testBit_eq
  intro i
  rw [Nat.testBit_and,Nat.testBit_xor,Nat.testBit_and,Xr4,← Nat.shiftLeft_eq,Nat.testBit_shiftLeft,Nat.testBit_mod_two_pow,Nat.zero_testBit]
  by_cases h:s≤i
  ·by_cases h2:i-s<k
   ·simp [h,h2]
   ·simp [h,h2]
  ·simp [h]
 have h1:=(Zs2 (o^^^(o&&&((2^k-1)*2^s))) (x%2^k*2^s)).1
 have h2:=(Zs2 (o^^^(o&&&((2^k-1)*2^s))) (x%2^k*2^s)).2
 rw [z] at h1 h2
 rw [← h1,Vl3,Zr2] at *
 lia
theorem Jt4 (o M:Nat):Builtin.bitAnd (o:Int) (Builtin.bitNot (M:Int))=((o-(o&&&M):Nat):Int):=by
 unfold Builtin.bitAnd Builtin.bitNot
 rw [decide_eq_true (by lia),decide_eq_false (by lia)]
 have e:(-(-(M:Int)-1)-1).toNat=M:=by lia
 dsimp only
 rw [e,Int.toNat_natCast,Int.ofNat_sub Nat.and_le_left]
theorem Xx7 {o x k s:Nat} (ho:o<2^64) (hs:s+k≤64):o-o/2^s%2^k*2^s+x%2^k*2^s<2^64:=by
 rw [← Yq4]
 refine Nat.or_lt_two_pow (by lia) ?_
 calc x%2^k*2^s<2^k*2^s:=Nat.mul_lt_mul_of_pos_right (Nat.mod_lt _ (Nat.two_pow_pos k)) (Nat.two_pow_pos s)
  _=2^(k+s):=(Nat.pow_add 2 k s).symm
  _≤2^64:=Nat.pow_le_pow_right (by decide) (by lia)
def stored (m:KM) (a n x:Nat):KM :=
 { m with mem:=fun k=>if k=a/8 then m.mem (a/8)-m.mem (a/8)/2^Vr0 a n%2^(8*n)*2^Vr0 a n+x%2^(8*n)*2^Vr0 a n else m.mem k }
theorem Jp2 (m:KM) {a n:Nat} (x:Nat) (ha:a<2^64) (hn:Sz n):KY m a n x=if 1048576≤a then .error 1 else .ok (stored m a n x):=by
 unfold KY stored
 have e:a%Kg22.W=a:=Nat.mod_eq_of_lt ha
 rw [e]
 dsimp only
 rw [(Ud1 (a:=a) hn).2.1]
 rfl
theorem Zc5 {m:KM} (h:WF m) {a n x:Nat} (hn:Sz n):WF (stored m a n x) :=
 ⟨h.pc,h.loc,h.glo,h.spe,fun k=>by
  show (if k=a/8 then _ else m.mem k)<_
  split
  ·exact Xx7 (h.mem _) (Ud1 (a:=a) hn).2.2
  ·exact h.mem k,h.g1,h.g2,h.len,h.ra,h.psh,h.stk,h.few⟩
theorem Rep.setMem {C:Addr}{H:Hp}{d:Ad}{m:KM}{b:Nat} (R:Rep C H d m b) {kvs':List (Key×V)}{mem':Nat→Nat} (mo:Yl3 kvs' mem') (wf:WF { m with mem:=mem' }):Rep C (upd H d.aM (.dK kvs')) d { m with mem:=mem' } b where
 obj:=by rw [Zn0 R.ne_MM];exact R.obj
 dxo:=by rw [Zn0 R.ne_dM];exact R.dxo
 mem:=⟨kvs',Zm0,mo⟩
 loc:=by rw [Zn0 R.ne_KL.symm];exact R.loc
 wid:=by rw [Zn0 R.ne_KW.symm];exact R.wid
 spc:=by rw [Zn0 R.ne_KS.symm];exact R.spc
 psh:=by rw [Zn0 R.ne_KP.symm];exact R.psh
 nd:=R.nd
 wf:=wf
 bh:=R.bh
inductive Yk5 (C c1:Addr) (vs:List V) (H:Hp) (Q:VK) (E:XK):Prop |mk (d:Ad) (m:KM) (b a n x:Nat) (_:vs=[.ref d.M,iv a,iv n,iv x]) (_:Rep C H d m b) (_:a<2^64) (_:Sz n) (_:∀ m',KY m a n x=.ok m'→Ub0 C H d m' b (Q .non)) (_:KY m a n x=.error 1→E (.ref c1) none H)
theorem Yj4:Zj0 ["self","place","size","value","shift","mask","others"] ["self","place","size","value"] (Zh0 (Xa0 (top 24) 3)):=by decide +kernel
theorem Yu6 {f C c1:Addr}{fd:FuncData} (F:Fun K "store" "Machine.store" (Xa0 (top 24) 3) f fd) (T:Txt K mg C) (T2:Zx1 mg) (x1:ExC K c1) (m1:mg "PastMemory" = some (.ref c1)):FnW P w K mg base 1 f fd ["self","place","size","value"] (Yk5 C c1):=by
 exists Yj4,(by rintro vs H Q E ⟨d,m,b,a,n,x,rfl,_⟩;rfl)
 obtain ⟨d,m,b,a,n,x,rfl,R,ha,hn,q1,q2⟩:=h
 have nd:=Yj4.nd
 refine ⟨_,Zd0 (Yb0 (Zt0 Zh3 (pv 1) (Zo0 T2.size) (Zv0 _)) (Ze0 (Uy0 x1 rfl m1)) Zq0)
  (Zd0 (Zp0 (i:=4) nd rfl (Or.inl rfl) (Zl0 Xe0 Zg0 (Zl0 Vq0 Zg0 (Zl0 Yy0 (pv 2) (Zl0 Yf0 (Zl0 Yf0 (pv 1) Zg0) (Xc1 Jg0 (pv 2)))))))
  (Zd0 (Zp0 (i:=5) nd rfl (Or.inl rfl) (Zl0 Xe0 (Zl0 Vy0 Zg0 (Zl0 Vq0 Zg0 (pv 2))) Zg0))
  (Zd0 (Zp0 (i:=6) nd rfl (Or.inl rfl) (Zl0 Yf0 (Yv4 (Jp7 hr) (Yh0 (pv 0) rfl) (Zl0 Xf0 (pv 1) Zg0) Zg0 ⟨rfl,rfl,rfl,rfl⟩) (Xc1 un_inv (Zl0 Vy0 (pv 5) (pv 4)))))
  (Ze0 (Xo7 (Jp7 hr) (Yh0 (pv 0) rfl) (Zl0 Xf0 (pv 1) Zg0) (Zl0 Yd1 (pv 6) (Zl0 Vy0 (Zl0 Yf0 (pv 3) (pv 5)) (pv 4))) rfl))))),?_⟩
 refine ⟨_,rfl,_,_,rfl,rfl,_,rfl,?_⟩
 rw [Jp2 m x ha hn] at q1 q2
 refine Xb0 (fun hc=>?_) (fun hc=>?_)
 ·have hc':1048576≤a:=by have:=of_decide_eq_true hc;lia
  exact q2 (if_pos hc')
 ·have hc':¬ 1048576≤a:=fun z=>hc (decide_eq_true (by lia))
  rw [if_neg hc'] at q1
  have q:=q1 _ rfl
  obtain ⟨e1,e2,e3⟩:=Ud1 (a:=a) hn
  obtain ⟨kvs,hM,mo⟩:=R.mem
  refine ⟨_,rfl,_,rfl,_,_,rfl,rfl,_,rfl,_,rfl,_,_,rfl,rfl,_,_,rfl,rfl,_,_,rfl,rfl,.inl ⟨by decide,by decide⟩,_,_,rfl,rfl,?_⟩
  have k1:(64:Int)-8*((n:Int)+Builtin.bitAnd (Builtin.bitAnd (a:Int) 7) (-(n:Int)))=(Vr0 a n:Int):=by
   rw [bitAnd_m3,show ((a:Int)%8)=((a%8:Nat):Int) from rfl,Jg2 (Nat.mod_lt _ (by decide)) hn]
   exact e1
  dsimp only
  rw [k1]
  have hn8:n≤8:=by rcases hn with rfl | rfl | rfl | rfl <;> decide
  refine ⟨_,rfl,_,_,rfl,rfl,.inl ⟨by decide,by decide⟩,_,_,rfl,rfl,⟨by lia,by lia,by decide⟩,_,_,rfl,rfl,?_⟩
  have k2:(1:Int)*2^((8:Int)*(n:Int)).toNat-1=(((2^(8*n)-1:Nat)):Int):=by
   have p:=Nat.two_pow_pos (8*n)
   have t:((8:Int)*(n:Int)).toNat=8*n:=by lia
   rw [t,Int.one_mul,Int.ofNat_sub p]
   norm_cast
  dsimp only
  rw [k2]
  have hmask:2^(8*n)-1<2^64:=by
   have:=Nat.pow_le_pow_right (n:=2) (by decide) (show 8*n≤64 by lia)
   have:=Nat.two_pow_pos (8*n)
   lia
  refine ⟨_,rfl,d.M,C,d.dx,_,_,rfl,R.obj,T.cl,T.nMem,rfl,d.aM,rfl,.inl ⟨_,.inl hM⟩,_,rfl,_,_,rfl,rfl,(by decide:(0:Int)≤3),_,DGet.k (k:=Sum.inl ((a/8:Nat):Int)) hM,_,rfl,_,rfl,_,_,rfl,rfl,
   ⟨by lia,by lia,by rw [Int.natAbs_natCast];exact hmask⟩,_,rfl,?_⟩
  rw [Uz6 mo]
  have k3:(((2^(8*n)-1:Nat)):Int)*2^((Vr0 a n:Int)).toNat=(((2^(8*n)-1)*2^Vr0 a n:Nat):Int):=by
   rw [Int.toNat_natCast];norm_cast
  dsimp only
  rw [k3]
  refine ⟨_,_,rfl,rfl,?_⟩
  rw [Jt4]
  refine ⟨_,rfl,_,rfl,_,rfl,_,_,rfl,rfl,_,rfl,_,_,rfl,rfl,⟨by lia,by lia,?_⟩,_,_,rfl,rfl,?_⟩
  ·rw [Vd0,Int.natAbs_natCast]
   have:=Nat.mod_lt x (Nat.two_pow_pos (8*n))
   lia
  ·dsimp only
   have k4:Builtin.bitAnd (x:Int) (((2^(8*n)-1:Nat)):Int)*2^((Vr0 a n:Int)).toNat=((x%2^(8*n)*2^Vr0 a n:Nat):Int):=by
    rw [Vd0,Int.toNat_natCast];norm_cast
   rw [k4,Yv0,Yq4]
   have hk:a/8<131072:=by lia
   refine ⟨_,rfl,d.M,C,d.dx,_,_,rfl,R.obj,T.cl,T.nMem,rfl,_,rfl,_,_,rfl,rfl,(by decide:(0:Int)≤3),d.aM,_,rfl,DPut.k (k:=Sum.inl ((a/8:Nat):Int)) hM (Nat.lt_of_le_of_lt mo.few (by decide)),?_⟩
   exact q _ d rfl (R.setMem (mo.put hk) (Zc5 R.wf hn)) (Vf0.upd (by simp [Ad.own]))
theorem Xr5:∀ n:Nat,(List.replicate n [V.int 0]).flatten=(List.replicate n 0).map iv
 | 0=>rfl
 | n+1=>by
  rw [List.replicate_succ,List.flatten_cons,Xr5 n,List.replicate_succ,List.map_cons]
  rfl
structure Bg (C M dx:Addr) (H Hc:Hp) (fs:List (Str×V)) (ps:List Addr):Prop where
 obj:Hc M=some (.ins C dx fs)
 own:Hc dx=some (.own M)
 keep:∀ a u,H a=some u→a≠M→Hc a=some u∧a ∉ ps
theorem Bg.new {C M dx:Addr}{H Hc:Hp}{fs:List (Str×V)}{ps:List Addr}{p:Addr}{u:HO} (B:Bg C M dx H Hc fs ps) (hp:Hc p=none):Bg C M dx H (upd Hc p u) fs (p :: ps) :=
 ⟨by rw [Zn0 (Ys0 B.obj hp)];exact B.obj,by rw [Zn0 (Ys0 B.own hp)];exact B.own,fun a v e n=>by
  obtain ⟨h1,h2⟩:=B.keep a v e n
  have hn:=Ys0 h1 hp
  exact ⟨by rw [Zn0 hn];exact h1,fun z=>by rcases List.mem_cons.mp z with z | z;exact hn z;exact h2 z⟩⟩
theorem Bg.fld {C M dx:Addr}{H Hc:Hp}{fs fs':List (Str×V)}{ps:List Addr} (B:Bg C M dx H Hc fs ps):Bg C M dx H (upd Hc M (.ins C dx fs')) fs' ps :=
 ⟨Zm0,by rw [Zn0 (Zp1 B.own B.obj (by intro z;cases z))];exact B.own,fun a v e n=>by
  obtain ⟨h1,h2⟩:=B.keep a v e n
  exact ⟨by rw [Zn0 n];exact h1,h2⟩⟩
theorem Va0 {Hc:Hp}{p q:Addr}{u v:HO} (h:Hc q=some v) (hp:Hc p=none):upd Hc p u q=some v:=by rw [Zn0 (Ys0 h hp)];exact h
theorem Xl0 {C M dx:Addr}{Hc:Hp}{fs fs':List (Str×V)}{q:Addr}{v:HO} (hM:Hc M=some (.ins C dx fs)) (h:Hc q=some v) (hv:v ≠ .ins C dx fs):upd Hc M (.ins C dx fs') q=some v:=by
 rw [Zn0 (Zp1 h hM hv)];exact h
theorem Zm7:WF Kg22.init where
 pc:=by decide
 loc:=fun v hv=>by cases hv
 glo:=fun _=>Nat.two_pow_pos 64
 spe:=fun j=>by
  show (if j=19 then 255 else 0)<2^64
  split <;> decide
 mem:=fun _=>Nat.two_pow_pos 64
 g1:=by decide
 g2:=by decide
 len:=Nat.zero_le _
 ra:=by decide
 psh:=fun v hv=>by cases hv
 stk:=Stk.nil
 few:=Nat.zero_le _
theorem Uv5 {n j:Nat} (h:j<n):(List.replicate n 0)[j]? = some 0:=by rw [List.getElem?_replicate,if_pos h]
def Sel (fs:List (Str×V)):Prop:=fs=[]∨∃ aM aL aW aS aP pc b,fs=mf aM aL aW aS aP pc b
inductive Ja3 (C:Addr) (vs:List V) (H:Hp) (Q:VK) (_:XK):Prop |mk (M dx:Addr) (fs:List (Str×V)) (_:vs=[.ref M]) (_:H M=some (.ins C dx fs)) (_:H dx=some (.own M)) (_:Sel fs) (_:∀ (H':Hp) (d':Ad),d'.M=M→Rep C H' d' Kg22.init 0→Vf0 [M,dx] d'.own H H'→Q .non H')
theorem Yf6:Zj0 ["self"] ["self"] (Zh0 (Xa0 (top 24) 1)):=by decide +kernel
theorem Xe6 {f C:Addr}{fd:FuncData} (F:Fun K "begin" "Machine.begin" (Xa0 (top 24) 1) f fd) (T:Txt K mg C):FnW P w K mg base 1 f fd ["self"] (Ja3 C):=by
 exists Yf6,(by rintro vs H Q E ⟨M,dx,fs,rfl,_⟩;rfl)
 obtain ⟨M,dx,fs,rfl,hM,hdx,hfs,q⟩:=h
 have l0:fs.length≤7:=by
  rcases hfs with rfl | ⟨_,_,_,_,_,_,_,rfl⟩
  ·decide
  ·exact Nat.le_refl 7
 refine ⟨_,Zd0 (Ue0 (pv 0) Yo6 rfl) (Zd0 (Ue0 (pv 0) (Vc0 Zc0) rfl) (Zd0 (Ue0 (pv 0) (Zl0 Vc5 (Vc0 (Za0 Zg0 Zc0)) Zg0) rfl) (Zd0 (Ue0 (pv 0) (Zl0 Vc5 (Vc0 (Za0 Zg0 Zc0)) Zg0) rfl)
  (Zd0 (Ji0 Zg0 (Jj0 (Yh0 (pv 0) rfl) (Zo0 T.rg) Xs0)) (Zd0 (Ue0 (pv 0) (Vc0 Zc0) rfl) (Zd0 (Ue0 (pv 0) Zg0 rfl) (Ze0 (Ue0 (pv 0) Zg0 rfl)))))))),?_⟩
 have B0:Bg C M dx H H fs []:=⟨hM,hdx,fun a u e _=>⟨e,by simp⟩⟩
 intro p1 n1
 have B1:=B0.new (u:=.dK []) n1
 refine ⟨_,rfl,M,C,dx,_,rfl,B1.obj,T.cl,T.nMem,by lia,?_⟩
 have l1:=Vk0 ("memory" : Str) (.ref p1) fs
 have B2:=B1.fld (fs':=Us0 "memory" (.ref p1) fs)
 have c1:upd (upd H p1 (.dK [])) M (.ins C dx (Us0 "memory" (.ref p1) fs)) p1=some (.dK []):=Xl0 B1.obj Zm0 (by intro z;cases z)
 generalize upd (upd H p1 (.dK [])) M (.ins C dx (Us0 "memory" (.ref p1) fs))=H2 at *
 refine ⟨Nat.zero_le _,fun p2 n2=>?_⟩
 have B3:=B2.new (u:=.lst []) n2
 refine ⟨_,rfl,M,C,dx,_,rfl,B3.obj,T.cl,T.nLoc,by lia,?_⟩
 have l2:=Vk0 ("local" : Str) (.ref p2) (Us0 "memory" (.ref p1) fs)
 have B4:=B3.fld (fs':=Us0 "local" (.ref p2) (Us0 "memory" (.ref p1) fs))
 have d1:=Xl0 (fs':=Us0 "local" (.ref p2) (Us0 "memory" (.ref p1) fs)) B3.obj (Va0 (u:=.lst []) c1 n2) (by intro z;cases z)
 have d2:upd (upd H2 p2 (.lst [])) M (.ins C dx (Us0 "local" (.ref p2) (Us0 "memory" (.ref p1) fs))) p2=some (.lst []):=Xl0 B3.obj Zm0 (by intro z;cases z)
 generalize upd (upd H2 p2 (.lst [])) M (.ins C dx (Us0 "local" (.ref p2) (Us0 "memory" (.ref p1) fs)))=H3 at *
 refine ⟨by decide,fun g3 m3=>?_⟩
 have B5:=B4.new (u:=.lst [.int 0]) m3
 have e1:=Va0 (u:=.lst [.int 0]) d1 m3
 have e2:=Va0 (u:=.lst [.int 0]) d2 m3
 refine ⟨g3,256,[.int 0],rfl,rfl,Zm0,by decide,by decide,by decide,fun p3 n3=>?_⟩
 have B6:=B5.new (u:=.lst (List.replicate (256:Int).toNat [V.int 0]).flatten) n3
 have f1:=Va0 (u:=.lst (List.replicate (256:Int).toNat [V.int 0]).flatten) e1 n3
 have f2:=Va0 (u:=.lst (List.replicate (256:Int).toNat [V.int 0]).flatten) e2 n3
 refine ⟨_,rfl,M,C,dx,_,rfl,B6.obj,T.cl,T.nWid,by lia,?_⟩
 have l3:=Vk0 ("wide" : Str) (.ref p3) (Us0 "local" (.ref p2) (Us0 "memory" (.ref p1) fs))
 have B7:=B6.fld (fs':=Us0 "wide" (.ref p3) (Us0 "local" (.ref p2) (Us0 "memory" (.ref p1) fs)))
 have g1:=Xl0 (fs':=Us0 "wide" (.ref p3) (Us0 "local" (.ref p2) (Us0 "memory" (.ref p1) fs))) B6.obj f1 (by intro z;cases z)
 have g2:=Xl0 (fs':=Us0 "wide" (.ref p3) (Us0 "local" (.ref p2) (Us0 "memory" (.ref p1) fs))) B6.obj f2 (by intro z;cases z)
 have g4:=Xl0 (fs':=Us0 "wide" (.ref p3) (Us0 "local" (.ref p2) (Us0 "memory" (.ref p1) fs))) (q:=p3) B6.obj Zm0 (by intro z;cases z)
 generalize upd (upd (upd H3 g3 (.lst [.int 0])) p3 (.lst (List.replicate (256:Int).toNat [V.int 0]).flatten)) M (.ins C dx (Us0 "wide" (.ref p3) (Us0 "local" (.ref p2) (Us0 "memory" (.ref p1) fs))))=H4 at *
 refine ⟨by decide,fun g5 m5=>?_⟩
 have B8:=B7.new (u:=.lst [.int 0]) m5
 have h1:=Va0 (u:=.lst [.int 0]) g1 m5
 have h2:=Va0 (u:=.lst [.int 0]) g2 m5
 have h3:=Va0 (u:=.lst [.int 0]) g4 m5
 refine ⟨g5,32,[.int 0],rfl,rfl,Zm0,by decide,by decide,by decide,fun p4 n4=>?_⟩
 have B9:=B8.new (u:=.lst (List.replicate (32:Int).toNat [V.int 0]).flatten) n4
 have i1:=Va0 (u:=.lst (List.replicate (32:Int).toNat [V.int 0]).flatten) h1 n4
 have i2:=Va0 (u:=.lst (List.replicate (32:Int).toNat [V.int 0]).flatten) h2 n4
 have i3:=Va0 (u:=.lst (List.replicate (32:Int).toNat [V.int 0]).flatten) h3 n4
 have n24:p4≠p2:=fun z=>by rw [z,h2] at n4;cases n4
 have n34:p4≠p3:=fun z=>by rw [z,h3] at n4;cases n4
 refine ⟨_,rfl,M,C,dx,_,rfl,B9.obj,T.cl,T.nSpc,by lia,?_⟩
 generalize hf4:Us0 "special" (.ref p4) (Us0 "wide" (.ref p3) (Us0 "local" (.ref p2) (Us0 "memory" (.ref p1) fs)))=fs4
 have l4:=Vk0 ("special" : Str) (.ref p4) (Us0 "wide" (.ref p3) (Us0 "local" (.ref p2) (Us0 "memory" (.ref p1) fs)))
 rw [hf4] at l4
 have B10:=B9.fld (fs':=fs4)
 have j1:=Xl0 (fs':=fs4) B9.obj i1 (by intro z;cases z)
 have j2:=Xl0 (fs':=fs4) B9.obj i2 (by intro z;cases z)
 have j3:=Xl0 (fs':=fs4) B9.obj i3 (by intro z;cases z)
 have j4:=Xl0 (fs':=fs4) (q:=p4) B9.obj Zm0 (by intro z;cases z)
 generalize upd (upd (upd H4 g5 (.lst [.int 0])) p4 (.lst (List.replicate (32:Int).toNat [V.int 0]).flatten)) M (.ins C dx fs4)=H5 at *
 have lk:fs4.lookup ("special" : Str)=some (.ref p4):=by rw [← hf4,Vv1,if_pos rfl]
 refine ⟨_,rfl,M,C,dx,_,_,rfl,B10.obj,T.cl,T.nSpc,lk,p4,_,_,19,rfl,rfl,j4,by decide,?_⟩
 have e4:(List.replicate (32:Int).toNat [V.int 0]).flatten.set 19 (V.int 255)=((List.replicate 32 0).set 19 255).map iv:=by
  rw [show (32:Int).toNat=32 from rfl,Xr5,← Jh0];rfl
 rw [e4]
 have B11:Bg C M dx H (upd H5 p4 (.lst (((List.replicate 32 0).set 19 255).map iv))) fs4 (p4 :: g5 :: p3 :: g3 :: p2 :: p1 :: []):=⟨by rw [Zn0 (Zp1 B10.obj j4 (by intro z;cases z))];exact B10.obj,by rw [Zn0 (Zp1 B10.own j4 (by intro z;cases z))];exact B10.own,fun a v e n=>by
  obtain ⟨x1,x2⟩:=B10.keep a v e n
  exact ⟨by rw [Zn0 (fun z=>x2 (by rw [z];exact List.mem_cons_self))];exact x1,x2⟩⟩
 have k1:upd H5 p4 (.lst (((List.replicate 32 0).set 19 255).map iv)) p1=some (.dK []):=by rw [Zn0 (Zp1 j1 j4 (by intro z;cases z))];exact j1
 have k2:upd H5 p4 (.lst (((List.replicate 32 0).set 19 255).map iv)) p2=some (.lst []):=by rw [Zn0 n24.symm];exact j2
 have k3:upd H5 p4 (.lst (((List.replicate 32 0).set 19 255).map iv)) p3=some (.lst (List.replicate (256:Int).toNat [V.int 0]).flatten):=by rw [Zn0 n34.symm];exact j3
 have k4:upd H5 p4 (.lst (((List.replicate 32 0).set 19 255).map iv)) p4=some (.lst (((List.replicate 32 0).set 19 255).map iv)):=Zm0
 generalize upd H5 p4 (.lst (((List.replicate 32 0).set 19 255).map iv))=H6 at *
 refine ⟨Nat.zero_le _,fun p5 n5=>?_⟩
 have B12:=B11.new (u:=.lst []) n5
 refine ⟨_,rfl,M,C,dx,_,rfl,B12.obj,T.cl,T.nPsh,by lia,?_⟩
 generalize hf5:Us0 "pushed" (.ref p5) fs4=fs5
 have l5:=Vk0 ("pushed" : Str) (.ref p5) fs4
 rw [hf5] at l5
 have B13:=B12.fld (fs':=fs5)
 have o1:=Xl0 (fs':=fs5) B12.obj (Va0 (u:=.lst []) k1 n5) (by intro z;cases z)
 have o2:=Xl0 (fs':=fs5) B12.obj (Va0 (u:=.lst []) k2 n5) (by intro z;cases z)
 have o3:=Xl0 (fs':=fs5) B12.obj (Va0 (u:=.lst []) k3 n5) (by intro z;cases z)
 have o4:=Xl0 (fs':=fs5) B12.obj (Va0 (u:=.lst []) k4 n5) (by intro z;cases z)
 have o5:=Xl0 (fs':=fs5) (q:=p5) B12.obj Zm0 (by intro z;cases z)
 have n15:∀ {x:Addr}{v:HO},H6 x=some v→p5≠x:=fun {x v} e z=>by rw [z,e] at n5;cases n5
 have z2:=n15 k2
 have z3:=n15 k3
 have z4:=n15 k4
 have y23:p2≠p3:=fun z=>by rw [z,k3] at k2;cases k2
 generalize upd (upd H6 p5 (.lst [])) M (.ins C dx fs5)=H7 at *
 refine ⟨_,rfl,M,C,dx,_,rfl,B13.obj,T.cl,T.nPla,by lia,?_⟩
 have l6:=Vk0 ("place" : Str) (.int 0) fs5
 have B14:=B13.fld (fs':=Us0 "place" (.int 0) fs5)
 refine ⟨_,rfl,M,C,dx,_,rfl,B14.obj,T.cl,T.nBeh,by lia,?_⟩
 have ef:Us0 "behind" (.int 0) (Us0 "place" (.int 0) fs5)=mf p1 p2 p3 p4 p5 0 0:=by
  rw [← hf5,← hf4]
  rcases hfs with rfl | ⟨_,_,_,_,_,_,_,rfl⟩ <;> rfl
 rw [ef,Uz1]
 have B15:=B13.fld (fs':=mf p1 p2 p3 p4 p5 0 0)
 refine q _ ⟨M,dx,p1,p2,p3,p4,p5⟩ rfl ⟨B15.obj,B15.own,⟨[],Xl0 B13.obj o1 (by intro z;cases z),fun _=>.inl ⟨rfl,rfl⟩,[],rfl,List.nodup_nil,fun _ z=>by cases z⟩,Xl0 B13.obj o2 (by intro z;cases z),
  ⟨List.replicate 256 0,by rw [← Xr5];exact Xl0 B13.obj o3 (by intro z;cases z),by rw [List.length_replicate],fun j _ hj=>Uv5 hj⟩,
  ⟨(List.replicate 32 0).set 19 255,Xl0 B13.obj o4 (by intro z;cases z),by rw [List.length_set,List.length_replicate],fun j hj=>?_⟩,Xl0 B13.obj o5 (by intro z;cases z),?_,Zm7,by decide⟩ (fun a u e n=>?_)
 ·show _=some (if j=19 then 255 else 0)
  by_cases e:j=19
  ·subst e;rw [if_pos rfl];rfl
  ·rw [if_neg e,List.getElem?_set_ne (fun z=>e z.symm)];exact Uv5 hj
 ·show [p2,p3,p4,p5].Nodup
  simp only [List.nodup_cons,List.mem_cons,List.not_mem_nil,or_false,not_or,List.nodup_nil,and_true,not_false_eq_true]
  exact ⟨⟨y23,n24.symm,z2.symm⟩,⟨n34.symm,z3.symm⟩,z4.symm⟩
 ·have na:a≠M:=fun z=>n (by rw [z];exact List.mem_cons_self)
  have nb:a≠dx:=fun z=>n (by rw [z];simp)
  obtain ⟨x1,x2⟩:=B15.keep a u e na
  refine ⟨x1,fun z=>?_⟩
  simp only [Ad.own,List.mem_cons,List.not_mem_nil,or_false,not_or] at z x2
  obtain ⟨a5,a4,_,a3,_,a2,a1⟩:=x2
  rcases z with z | z | z | z | z | z | z
  ·exact na z
  ·exact nb z
  ·exact a1 z
  ·exact a2 z
  ·exact a3 z
  ·exact a4 z
  ·exact a5 z
inductive Ui6 (C:Addr) (vs:List V) (H:Hp) (Q:VK) (_:XK):Prop |mk (M dx:Addr) (_:vs=[.ref M]) (_:H M=some (.ins C dx [])) (_:H dx=some (.own M)) (_:∀ (H':Hp) (d':Ad),d'.M=M→Rep C H' d' Kg22.init 0→Vf0 [M,dx] d'.own H H'→Q .non H')
theorem Yr7:Zj0 ["self"] ["self"] (Zh0 (Xa0 (top 24) 0)):=by decide +kernel
theorem Ub7 {f C fB:Addr}{fd fdB:FuncData} (F:Fun K "__init__" "Machine.__init__" (Xa0 (top 24) 0) f fd) (T:Txt K mg C) (GB:FnW P w K mg base 1 fB fdB ["self"] (Ja3 C)) (bB:Ui0 K fdB ["self"] []) (mB:Vm6 K C "begin" fB) :
  FnW P w K mg base 2 f fd ["self"] (Ui6 C):=by
 exists Yr7,(by rintro vs H Q E ⟨M,dx,rfl,_⟩;rfl)
 obtain ⟨M,dx,rfl,hM,hdx,q⟩:=h
 refine ⟨_,Ze0 (Zx0 (Yu4 (pv 0) T.cl mB GB hr bB .nil Zf0)),?_⟩
 exact ⟨_,rfl,M,dx,_,rfl,hM,rfl,M,dx,[],rfl,hM,hdx,.inl rfl,q⟩
variable (P w K mg base) in def FG (x:Str) (k:Nat) (ps:List Str) (sp:Sp):Prop :=
 ∃ (f:Addr) (fd:FuncData),mg x=some (.ref f)∧PySem.W.keepIn K (.ref f)=true∧Ui0 K fd ps []∧Vu0 P w K mg base (CXW P w) k f fd ps sp
variable (P w K mg base) in def MG (C:Addr) (x:Str) (k:Nat) (ps:List Str) (sp:Sp):Prop :=
 ∃ (f:Addr) (fd:FuncData),Vm6 K C x f∧Ui0 K fd ps []∧Vu0 P w K mg base (CXW P w) k f fd ps sp
section
variable {X:Cx}{E:XK}{x:Str}{k L:Nat}{ps:List Str}{sp:Sp}{p pos apos:Pos}{e o:Expr}{es:List Expr}{t:TA}{ta:TE}{C:Addr}
theorem Zb0 (g:FG X.prog X.w X.K X.mg X.base x k ps sp) (hr:Ua1 L X.A) (hx:Jn0 (CXW X.prog X.w) X E) (ha:PA X (e :: es) t) (hk:k≤L:=by decide) (hg:Gl X x:=by rfl) (hdb:(x == ("__debug__" : Str))=false:=by decide)
  (he:starEach (e :: es) X.env=(false,eval e X.env) :: starEach es X.env:=by rfl) (hpl:(backTo pos (starEach es X.env)).any (·.1)=false:=by rfl):PE X (.Call (.Name x p) (e :: es) [] pos) (Zl5 sp [] E t):=by
 obtain ⟨f,fd,hm,kp,hb,F⟩:=g
 exact Xu7 F (hr.mono hk) hg hm kp hb .nil hx ha hdb he hpl
theorem Zu0 {pl:Sem Bool} (he:PE X o ta) (c:Cls X.K C) (g:MG X.prog X.w X.K X.mg X.base C x k ps sp) (hr:Ua1 L X.A) (hx:Jn0 (CXW X.prog X.w) X E) (ha:PA X (e :: es) t) (hk:k≤L:=by decide)
  (h1:starEach (e :: es) X.env=(false,eval e X.env) :: starEach es X.env:=by rfl) (h2:(backTo pos (starEach es X.env)).any (·.1)=false:=by rfl)
  (h3:eval (.Call (.Attribute o x apos) (e :: es) [] pos) X.env=(do
   let ov ← eval o X.env
   standAt apos.atName
   let (f,first) ← holding [ov] (getMethod ov x pl)
   callWith pos f first (backTo pos (starEach (e :: es) X.env)) (backToKw pos (keywordEach [] X.env))):=by rfl):PE X (.Call (.Attribute o x apos) (e :: es) [] pos) (Zk6 C x sp [] E ta t):=by
 obtain ⟨f,fd,hm,hb,F⟩:=g
 exact Xy5 he c hm F (hr.mono hk) hb .nil hx ha h1 h2 h3
theorem Up0 {pl:Sem Bool} (he:PE X o ta) (c:Cls X.K C) (g:MG X.prog X.w X.K X.mg X.base C x k ps sp) (hr:Ua1 L X.A) (hx:Jn0 (CXW X.prog X.w) X E) (hk:k≤L:=by decide)
  (h3:eval (.Call (.Attribute o x apos) [] [] pos) X.env=(do
   let ov ← eval o X.env
   standAt apos.atName
   let (f,first) ← holding [ov] (getMethod ov x pl)
   callWith pos f first (backTo pos (starEach [] X.env)) (backToKw pos (keywordEach [] X.env))):=by rfl):PE X (.Call (.Attribute o x apos) [] [] pos) (Zk6 C x sp [] E ta Jv5):=by
 obtain ⟨f,fd,hm,hb,F⟩:=g
 exact Yu4 he c hm F (hr.mono hk) hb .nil hx h3
end
theorem Jr0 (n k:Nat):((n:Int)/2^k)=((n/2^k:Nat):Int):=by norm_cast
theorem Jv0 {b n:Nat} (h:n<2^b):KN b n=if n<2^(b-1) then (n:Int) else (n:Int)-2^b:=by
 unfold KN;rw [Nat.mod_eq_of_lt h]
inductive Yu1 (vs:List V) (H:Hp) (Q:VK) (_:XK):Prop |mk (n b:Nat) (_:vs=[iv n,iv b]) (_:b=8∨b=16∨b=32∨b=64) (_:n<2^b) (_:Q (.int (KN b n)) H)
theorem Xy2:Zj0 ["part","bits"] ["part","bits"] (Zh0 (top 8)):=by decide +kernel
theorem Vi2 {f:Addr}{fd:FuncData} (F:Fun K "signed_part" "signed_part" (top 8) f fd):FnW P w K mg base 1 f fd ["part","bits"] Yu1:=by
 exists Xy2,(by rintro vs H Q E ⟨n,b,rfl,_⟩;rfl)
 obtain ⟨n,b,rfl,hb,hn,q⟩:=h
 have hb1:1≤b∧b≤64:=by lia
 refine ⟨_,Zd0 (Yb0 (Zs0 (Zl0 Xf0 (pv 0) (Zl0 Xe0 (pv 1) Zg0)) (fun _=>rfl)) (Ze0 (Zk0 (Zl0 Xe0 (pv 0) (Zl0 Vy0 Zg0 (pv 1))))) Zq0) (Ze0 (Zk0 (pv 0))),?_⟩
 rw [Jv0 hn] at q
 refine ⟨_,rfl,_,rfl,_,_,rfl,rfl,_,_,rfl,rfl,(show (0:Int)≤(b:Int)-1 by lia),_,rfl,?_⟩
 have e:((n:Int)/2^((b:Int)-1).toNat)=((n/2^(b-1):Nat):Int):=by
  have t:((b:Int)-1).toNat=b-1:=by lia
  rw [t];exact Jr0 n (b-1)
 show if (((n:Int)/2^((b:Int)-1).toNat) != 0)=true then _ else _
 rw [e]
 by_cases h0:n<2^(b-1)
 ·have z:n/2^(b-1)=0:=Nat.div_eq_of_lt h0
  rw [if_pos h0] at q
  rw [z]
  exact ⟨_,rfl,q⟩
 ·have z:0<n/2^(b-1):=Nat.div_pos (by lia) (Nat.two_pow_pos _)
  rw [if_neg h0] at q
  have ne:(((n/2^(b-1):Nat):Int) != 0)=true:=by
   apply bne_iff_ne.mpr;lia
  rw [if_pos ne]
  refine ⟨_,rfl,_,rfl,_,_,rfl,rfl,⟨by lia,by lia,by decide⟩,_,_,rfl,rfl,?_⟩
  have e2:(1:Int)*2^((b:Int)).toNat=2^b:=by rw [Int.one_mul,Int.toNat_natCast]
  dsimp only
  rw [e2]
  exact q
theorem Zy3 (n:Nat) (k:Nat) (z:Int) (h:z.toNat=k):((n:Int)/2^z.toNat)=((n/2^k:Nat):Int):=by rw [h];exact Jr0 n k
theorem and254:∀ n,n<256→n&&&254=n-n%2:=by decide
inductive Ui2 (vs:List V) (H:Hp) (Q:VK) (_:XK):Prop |mk (n:Nat) (_:vs=[iv n]) (_:n<2^64) (_:Q (.int (KN 64 n)) H)
theorem Yv5:Zj0 ["word"] ["word"] (Zh0 (top 9)):=by decide +kernel
theorem Vi5 {f:Addr}{fd:FuncData} (F:Fun K "signed" "signed" (top 9) f fd) (g1:FG P w K mg base "signed_part" 1 ["part","bits"] Yu1):FnW P w K mg base 2 f fd ["word"] Ui2:=by
 exists Yv5,(by rintro vs H Q E ⟨n,rfl,_⟩;rfl)
 obtain ⟨n,rfl,hn,q⟩:=h
 refine ⟨_,Ze0 (Zk0 (Zb0 g1 hr Zf0 (Za0 (pv 0) (Za0 Zg0 Zc0)))),?_⟩
 exact ⟨_,rfl,n,64,rfl,by lia,hn,q⟩
inductive Ul6 (vs:List V) (H:Hp) (Q:VK) (_:XK):Prop |mk (z:Int) (b:Nat) (_:vs=[.int z,iv b]) (_:1≤b) (_:b≤64) (_:Q (.bl (decide (-(2^(b-1):Int)≤z∧z<2^(b-1)))) H)
theorem Xi5:Zj0 ["value","bits","half"] ["value","bits"] (Zh0 (top 10)):=by decide +kernel
theorem Ui7 {f:Addr}{fd:FuncData} (F:Fun K "fits" "fits" (top 10) f fd):FnW P w K mg base 1 f fd ["value","bits"] Ul6:=by
 exists Xi5,(by rintro vs H Q E ⟨n,b,rfl,_⟩;rfl)
 obtain ⟨z,b,rfl,h1,h2,q⟩:=h
 refine ⟨_,Zd0 (Zp0 (i:=2) Xi5.nd rfl (Or.inl rfl) (Zl0 Vy0 Zg0 (Zl0 Xe0 (pv 1) Zg0))) (Ze0 (Zk0 (Yw4 Jq3 Ye1 (Xc1 Jg0 (pv 2)) (pv 0) (pv 2)))),?_⟩
 have e:(1:Int)*2^((b:Int)-1).toNat=2^(b-1):=by
  have t:((b:Int)-1).toNat=b-1:=by lia
  rw [Int.one_mul,t]
 refine ⟨_,rfl,_,_,rfl,rfl,_,_,rfl,rfl,⟨by lia,by lia,by decide⟩,?_⟩
 dsimp only
 rw [e]
 refine ⟨_,rfl,_,rfl,_,rfl,_,_,rfl,rfl,_,rfl,?_⟩
 by_cases ha:-(2^(b-1):Int)≤z
 ·rw [if_pos (decide_eq_true ha)]
  refine ⟨_,rfl,_,_,rfl,rfl,?_⟩
  dsimp only
  simp only [ha,true_and] at q
  exact q
 ·rw [if_neg (by rw [decide_eq_false ha];decide)]
  rw [decide_eq_false (fun z=>ha z.1)] at q
  exact q
def Jp6 (a b:Int):Nat:=KH (if a<b then -1 else if a=b then 0 else 1)
inductive Xp1 (vs:List V) (H:Hp) (Q:VK) (_:XK):Prop |mk (a b:Int) (_:vs=[.int a,.int b]) (_:Q (iv (Jp6 a b)) H)
theorem Jf3:Zj0 ["first","second"] ["first","second"] (Zh0 (top 11)):=by decide +kernel
theorem Za4 {f:Addr}{fd:FuncData} (F:Fun K "compared" "compared" (top 11) f fd) (T2:Zx1 mg):FnW P w K mg base 1 f fd ["first","second"] Xp1:=by
 exists Jf3,(by rintro vs H Q E ⟨n,b,rfl,_⟩;rfl)
 obtain ⟨a,b,rfl,q⟩:=h
 refine ⟨_,Zd0 (Yb0 (Zt0 Ye1 (pv 0) (pv 1) (Zv0 _)) (Ze0 (Zk0 (Zo0 T2.mask))) Zq0) (Zd0 (Yb0 (Zt0 Vg2 (pv 0) (pv 1) (Zv0 _)) (Ze0 (Zk0 Zg0)) Zq0) (Ze0 (Zk0 Zg0))),?_⟩
 refine ⟨_,rfl,_,rfl,_,_,rfl,rfl,_,rfl,?_⟩
 unfold Jp6 at q
 refine Xb0 (fun hc=>?_) (fun hc=>?_)
 ·rw [if_pos (of_decide_eq_true hc)] at q
  exact q
 ·have hc':¬ a<b:=fun z=>hc (decide_eq_true z)
  rw [if_neg hc'] at q
  refine ⟨_,rfl,_,rfl,_,_,rfl,rfl,_,rfl,?_⟩
  refine Xb0 (fun hd=>?_) (fun hd=>?_)
  ·have:=of_decide_eq_true hd
   rw [if_neg (by lia)] at q
   exact q
  ·have hd':¬ b<a:=fun z=>hd (decide_eq_true z)
   rw [if_pos (by lia)] at q
   exact q
inductive spW (g:Nat→V) (vs:List V) (H:Hp) (Q:VK) (_:XK):Prop |mk (n:Nat) (_:vs=[iv n]) (_:n<2^32) (_:Q (g n) H)
theorem Ys1 {g:Nat→V}:∀ vs H Q E,spW g vs H Q E→vs.length=1:=by rintro vs H Q E ⟨n,rfl,_⟩;rfl
abbrev opW (n:Nat):Nat:=n/2^24
abbrev xW (n:Nat):Nat:=n/2^16%256
abbrev yW (n:Nat):Nat:=n/256%256
abbrev zW (n:Nat):Nat:=n%256
theorem Zz6:Zj0 ["word"] ["word"] (Zh0 (top 26)):=by decide +kernel
theorem Yw6 {f:Addr}{fd:FuncData} (F:Fun K "op_of" "op_of" (top 26) f fd):FnW P w K mg base 1 f fd ["word"] (spW fun n=>iv (opW n)):=by
 exists Zz6,Ys1
 obtain ⟨n,rfl,_,q⟩:=h
 exact ⟨_,Ze0 (Zk0 (Zl0 Xf0 (pv 0) Zg0)),⟨_,rfl,_,_,rfl,rfl,(by decide:(0:Int)≤24),q⟩⟩
theorem Vw4:Zj0 ["word"] ["word"] (Zh0 (top 27)):=by decide +kernel
theorem Ux4 {f:Addr}{fd:FuncData} (F:Fun K "even_op" "even_op" (top 27) f fd):FnW P w K mg base 1 f fd ["word"] (spW fun n=>iv (opW n-opW n%2)):=by
 exists Vw4,Ys1
 obtain ⟨n,rfl,hn,q⟩:=h
 refine ⟨_,Ze0 (Zk0 (Zl0 Yf0 (Zl0 Xf0 (pv 0) Zg0) Zg0)),⟨_,rfl,_,_,rfl,rfl,(by decide:(0:Int)≤24),_,_,rfl,rfl,?_⟩⟩
 have e:Builtin.bitAnd (((n:Int)/2^(24:Int).toNat)) 254=((opW n-opW n%2:Nat):Int):=by
  rw [Zy3 n 24 24 rfl,show (254:Int)=((254:Nat):Int) from rfl,Xm0,and254 _ (by lia)]
 dsimp only
 rw [e];exact q
theorem Ys6 {f:Addr}{fd:FuncData} (F:Fun K "x_of" "x_of" (top 28) f fd):FnW P w K mg base 1 f fd ["word"] (spW fun n=>iv (xW n)) :=
 (Vg7 F).imp fun vs H Q E ⟨n,e,_,q⟩=>⟨n,e,trivial,q⟩
theorem Yc7:Zj0 ["word"] ["word"] (Zh0 (top 29)):=by decide +kernel
theorem Vf7 {f:Addr}{fd:FuncData} (F:Fun K "y_of" "y_of" (top 29) f fd):FnW P w K mg base 1 f fd ["word"] (spW fun n=>iv (yW n)):=by
 exists Yc7,Ys1
 obtain ⟨n,rfl,hn,q⟩:=h
 refine ⟨_,Ze0 (Zk0 (Zl0 Yf0 (Zl0 Xf0 (pv 0) Zg0) Zg0)),⟨_,rfl,_,_,rfl,rfl,(by decide:(0:Int)≤8),_,_,rfl,rfl,?_⟩⟩
 dsimp only
 rw [bitAnd_m8];exact q
theorem Yb7:Zj0 ["word"] ["word"] (Zh0 (top 30)):=by decide +kernel
theorem Ve7 {f:Addr}{fd:FuncData} (F:Fun K "z_of" "z_of" (top 30) f fd):FnW P w K mg base 1 f fd ["word"] (spW fun n=>iv (zW n)):=by
 exists Yb7,Ys1
 obtain ⟨n,rfl,hn,q⟩:=h
 refine ⟨_,Ze0 (Zk0 (Zl0 Yf0 (pv 0) Zg0)),⟨_,rfl,_,_,rfl,rfl,?_⟩⟩
 dsimp only
 rw [bitAnd_m8];exact q
theorem Zx6:Zj0 ["word"] ["word"] (Zh0 (top 31)):=by decide +kernel
theorem Yr6 {f:Addr}{fd:FuncData} (F:Fun K "yz_of" "yz_of" (top 31) f fd):FnW P w K mg base 1 f fd ["word"] (spW fun n=>iv (n%65536)):=by
 exists Zx6,Ys1
 obtain ⟨n,rfl,hn,q⟩:=h
 refine ⟨_,Ze0 (Zk0 (Zl0 Yf0 (pv 0) Zg0)),⟨_,rfl,_,_,rfl,rfl,?_⟩⟩
 dsimp only
 rw [bitAnd_m16];exact q
theorem Xe5:Zj0 ["word"] ["word"] (Zh0 (top 32)):=by decide +kernel
theorem Vn5 {f:Addr}{fd:FuncData} (F:Fun K "is_odd" "is_odd" (top 32) f fd):FnW P w K mg base 1 f fd ["word"] (spW fun n=>.bl (decide (opW n%2=1))):=by
 exists Xe5,Ys1
 obtain ⟨n,rfl,hn,q⟩:=h
 refine ⟨_,Ze0 (Zk0 (Xy0 Xj0 (Zl0 Yf0 (Zl0 Xf0 (pv 0) Zg0) Zg0) Zg0 (Zv0 _))),⟨_,rfl,_,_,rfl,rfl,(by decide:(0:Int)≤24),_,_,rfl,rfl,rfl,?_⟩⟩
 have e:Builtin.bitAnd ((n:Int)/2^(24:Int).toNat) 1=((opW n%2:Nat):Int):=by rw [bitAnd_m1,Zy3 n 24 24 rfl];rfl
 have e2:(((opW n%2:Nat):Int) == 1)=decide (opW n%2=1):=by
  by_cases z:opW n%2=1
  ·rw [z];rfl
  ·have:opW n%2=0:=by lia
   rw [this];rfl
 have e3:decide (V.int (Builtin.bitAnd ((n:Int)/2^(24:Int).toNat) 1)=V.int 1)=decide (opW n%2=1):=by rw [Yc3,e];exact e2
 show Q (.bl (decide (V.int (Builtin.bitAnd ((n:Int)/2^(24:Int).toNat) 1)=V.int 1))) H
 rw [e3];exact q
def zvW (m:KM) (n:Nat):Nat:=if opW n%2=1 then zW n else KS m (zW n)
def Vt1 (pc n:Nat):Nat:=(pc+4*(n%65536)+if opW n%2=1 then 2^64-4*65536 else 0)%2^64
def Jt7 (pc n:Nat):Nat:=(pc+4*(n%2^24)+if opW n%2=1 then 2^64-4*2^24 else 0)%2^64
theorem Vl0 {m:KM} (h:WF m) (k:Nat):KS m k<2^64:=by
 unfold KS
 split
 ·exact h.glo k
 ·rw [List.getD_eq_getElem?_getD]
  cases e:m.locals[k]? with
  | none=>exact Nat.two_pow_pos 64
  | some v=>exact h.loc v (List.mem_of_getElem? e)
theorem Xz1 {m:KM} (h:WF m) (n:Nat):zvW m n<2^64:=by
 unfold zvW zW
 split
 ·lia
 ·exact Vl0 h _
theorem Yc0 (z:Int):Builtin.bitAnd z 18446744073709551615=z%18446744073709551616:=by
 by_cases h:0≤z
 ·exact Vz1 h
 ·obtain ⟨k,rfl⟩:∃ k:Nat,z = -(k:Int)-1:=⟨(-z-1).toNat,by lia⟩
  unfold Builtin.bitAnd Builtin.bitNot
  rw [decide_eq_false (by lia),decide_eq_true (by decide)]
  have e:(-(-(k:Int)-1)-1).toNat=k:=by lia
  show (18446744073709551615:Int)-((18446744073709551615&&&(-(-(k:Int)-1)-1).toNat:Nat):Int)=_
  rw [e,Nat.and_comm,show (18446744073709551615:Nat)=2^64-1 from rfl,Nat.and_two_pow_sub_one_eq_mod]
  lia
inductive Ze1 (C:Addr) (g:KM→Nat→V) (vs:List V) (H:Hp) (Q:VK) (_:XK):Prop |mk (d:Ad) (m:KM) (b n:Nat) (_:vs=[.ref d.M,iv n]) (_:Rep C H d m b) (_:n<2^32) (_:Q (g m n) H)
theorem Zr1 {C:Addr}{g:KM→Nat→V}:∀ vs H Q E,Ze1 C g vs H Q E→vs.length=2:=by rintro vs H Q E ⟨d,m,b,n,rfl,_⟩;rfl
theorem Vc2:Zj0 ["machine","word"] ["machine","word"] (Zh0 (top 33)):=by decide +kernel
theorem Vq2 {f C:Addr}{fd:FuncData} (F:Fun K "first_value" "first_value" (top 33) f fd) (T:Txt K mg C) (gV:MG P w K mg base C "value_of" 1 ["self","number"] (Yt1 C)) (gy:FG P w K mg base "y_of" 1 ["word"] (spW fun n=>iv (yW n))) :
  FnW P w K mg base 2 f fd ["machine","word"] (Ze1 C fun m n=>iv (KS m (yW n))):=by
 exists Vc2,Zr1
 obtain ⟨d,m,b,n,rfl,R,hn,q⟩:=h
 refine ⟨_,Ze0 (Zk0 (Zu0 (pv 0) T.cl gV hr Zf0 (Za0 (Zb0 gy hr Zf0 (Za0 (pv 1) Zc0)) Zc0))),?_⟩
 exact ⟨_,rfl,d.M,d.dx,_,rfl,R.obj,rfl,_,rfl,n,rfl,hn,d,m,b,yW n,rfl,R,Nat.mod_lt _ (by decide),q⟩
theorem Yc2:Zj0 ["machine","word"] ["machine","word"] (Zh0 (top 34)):=by decide +kernel
theorem Ys2 {f C:Addr}{fd:FuncData} (F:Fun K "second_value" "second_value" (top 34) f fd) (T:Txt K mg C) (gV:MG P w K mg base C "value_of" 1 ["self","number"] (Yt1 C)) (gz:FG P w K mg base "z_of" 1 ["word"] (spW fun n=>iv (zW n)))
  (go:FG P w K mg base "is_odd" 1 ["word"] (spW fun n=>.bl (decide (opW n%2=1)))):FnW P w K mg base 2 f fd ["machine","word"] (Ze1 C fun m n=>iv (zvW m n)):=by
 exists Yc2,Zr1
 obtain ⟨d,m,b,n,rfl,R,hn,q⟩:=h
 refine ⟨_,Zd0 (Yb0 (Zs0 (Zb0 go hr Zf0 (Za0 (pv 1) Zc0)) (fun _=>rfl)) (Ze0 (Zk0 (Zb0 gz hr Zf0 (Za0 (pv 1) Zc0)))) Zq0)
  (Ze0 (Zk0 (Zu0 (pv 0) T.cl gV hr Zf0 (Za0 (Zb0 gz hr Zf0 (Za0 (pv 1) Zc0)) Zc0)))),?_⟩
 refine ⟨_,rfl,n,rfl,hn,_,rfl,?_⟩
 unfold zvW at q
 refine Xb0 (fun hc=>?_) (fun hc=>?_)
 ·rw [if_pos (of_decide_eq_true hc)] at q
  exact ⟨_,rfl,n,rfl,hn,q⟩
 ·rw [if_neg (fun z=>hc (decide_eq_true z))] at q
  exact ⟨_,rfl,d.M,d.dx,_,rfl,R.obj,rfl,_,rfl,n,rfl,hn,d,m,b,zW n,rfl,R,Nat.mod_lt _ (by decide),q⟩
theorem Uc4:Zj0 ["machine","word"] ["machine","word"] (Zh0 (top 35)):=by decide +kernel
def Vo0 (m:KM) (n:Nat):Nat:=(KS m (yW n)+zvW m n)%2^64
theorem Je4 {f C:Addr}{fd:FuncData} (F:Fun K "address" "address" (top 35) f fd) (T2:Zx1 mg) (g1:FG P w K mg base "first_value" 2 ["machine","word"] (Ze1 C fun m n=>iv (KS m (yW n))))
  (g2:FG P w K mg base "second_value" 2 ["machine","word"] (Ze1 C fun m n=>iv (zvW m n))):FnW P w K mg base 3 f fd ["machine","word"] (Ze1 C fun m n=>iv (Vo0 m n)):=by
 exists Uc4,Zr1
 obtain ⟨d,m,b,n,rfl,R,hn,q⟩:=h
 refine ⟨_,Ze0 (Zk0 (Zl0 Yf0 (Zl0 Yy0 (Zb0 g1 hr Zf0 (Za0 (pv 0) (Za0 (pv 1) Zc0))) (Zb0 g2 hr Zf0 (Za0 (pv 0) (Za0 (pv 1) Zc0)))) (Zo0 T2.mask))),?_⟩
 refine ⟨_,rfl,_,rfl,d,m,b,n,rfl,R,hn,_,rfl,_,rfl,d,m,b,n,rfl,R,hn,_,_,rfl,rfl,_,_,rfl,rfl,?_⟩
 dsimp only
 rw [Vz1 (by lia)]
 exact q
theorem Xa5:Zj0 ["machine","word","far"] ["machine","word"] (Zh0 (top 36)):=by decide +kernel
theorem Vt7 {f C:Addr}{fd:FuncData} (F:Fun K "near_target" "near_target" (top 36) f fd) (T:Txt K mg C) (T2:Zx1 mg) (gyz:FG P w K mg base "yz_of" 1 ["word"] (spW fun n=>iv (n%65536)))
  (go:FG P w K mg base "is_odd" 1 ["word"] (spW fun n=>.bl (decide (opW n%2=1)))):FnW P w K mg base 2 f fd ["machine","word"] (Ze1 C fun m n=>iv (Vt1 m.pc n)):=by
 exists Xa5,Zr1
 obtain ⟨d,m,b,n,rfl,R,hn,q⟩:=h
 have nd:=Xa5.nd
 refine ⟨_,Zd0 (Zp0 (i:=2) nd rfl (Or.inl rfl) (Zb0 gyz hr Zf0 (Za0 (pv 1) Zc0)))
  (Zd0 (Yb0 (Zs0 (Zb0 go hr Zf0 (Za0 (pv 1) Zc0)) (fun _=>rfl)) (Ze0 (Jy1 (i:=2) nd rfl (Or.inl rfl) Zg0 Jb6)) Zq0)
  (Ze0 (Zk0 (Zl0 Yf0 (Zl0 Yy0 (Yh0 (pv 0) rfl) (Zl0 Vq0 Zg0 (pv 2))) (Zo0 T2.mask))))),?_⟩
 have hpc:=R.wf.pc
 refine ⟨_,rfl,n,rfl,hn,_,rfl,n,rfl,hn,_,rfl,?_⟩
 unfold Vt1 at q
 have mk:∀ z:Int,Builtin.bitAnd z 18446744073709551615=z%18446744073709551616:=fun z=>by
  have:=Yc0 z
  exact this
 refine Xb0 (fun hc=>?_) (fun hc=>?_)
 ·rw [if_pos (of_decide_eq_true hc)] at q
  refine ⟨_,rfl,_,_,rfl,rfl,_,rfl,d.M,C,d.dx,_,_,rfl,R.obj,T.cl,T.nPla,rfl,_,rfl,_,_,rfl,rfl,.inl ⟨by decide,by decide⟩,_,_,rfl,rfl,_,_,rfl,rfl,?_⟩
  dsimp only
  rw [mk]
  have e:((m.pc:Int)+4*(((n%65536:Nat):Int)-65536))%18446744073709551616=(((m.pc+4*(n%65536)+(2^64-4*65536))%2^64:Nat):Int):=by lia
  rw [e];exact q
 ·rw [if_neg (fun z=>hc (decide_eq_true z))] at q
  refine ⟨_,rfl,d.M,C,d.dx,_,_,rfl,R.obj,T.cl,T.nPla,rfl,_,rfl,_,_,rfl,rfl,.inl ⟨by decide,by decide⟩,_,_,rfl,rfl,_,_,rfl,rfl,?_⟩
  dsimp only
  rw [mk]
  have e:((m.pc:Int)+4*((n%65536:Nat):Int))%18446744073709551616=(((m.pc+4*(n%65536)+0)%2^64:Nat):Int):=by lia
  rw [e];exact q
theorem Yt0 (m:KM):KF m 0=m:=by
 unfold KF KU
 have e:(fun j=>if j=Kg22.rA then m.special Kg22.rA|||0 else m.special j)=m.special:=by
  funext j
  by_cases h:j=Kg22.rA
  ·rw [if_pos h,Nat.or_zero,h]
  ·rw [if_neg h]
 rw [e]
theorem Jc0 (z:Int):((KH z:Nat):Int)=z%18446744073709551616:=by
 unfold KH
 have e:Int.emod z (2^64)=z%18446744073709551616:=rfl
 rw [e]
 lia
theorem Uj0 (z:Int):KH z<2^64:=by have:=Jc0 z;lia
theorem Jj6 (z:Int):decide (-(2^(64-1):Int)≤z∧z<2^(64-1)) = !decide (z < -(2:Int)^63∨2^63≤z):=by
 by_cases h:z < -(2:Int)^63∨2^63≤z
 ·rw [decide_eq_true h,decide_eq_false (by lia)];rfl
 ·rw [decide_eq_false h,decide_eq_true (by lia)];rfl
theorem Ud0 {n:Nat} (h:n<2^64):-(2^63:Int)≤KN 64 n∧KN 64 n<2^63:=by
 rw [Jv0 h]
 split <;> lia
structure Zb6 (mg:Str→Option Value):Prop where
 wo:∃ t,mg "WHOLE_OVERFLOW" = some (.int 64 t)
 dc:∃ t,mg "DIVIDE_CHECK" = some (.int 128 t)
 rh:∃ t,mg "RH" = some (.int 3 t)
 rr:∃ t,mg "RR" = some (.int 6 t)
 rd:∃ t,mg "RD" = some (.int 1 t)
 min:mg "min" = none
variable (P w K mg base) in abbrev gFits:=FG P w K mg base "fits" 1 ["value","bits"] Ul6
variable (P w K mg base) in abbrev gSigned:=FG P w K mg base "signed" 2 ["word"] Ui2
variable (P w K mg base) in abbrev gFlags (C:Addr):=MG P w K mg base C "add_flags" 1 ["self","flags"] (Yo5 C)
inductive Yg4 (C:Addr) (vs:List V) (H:Hp) (Q:VK) (_:XK):Prop |mk (d:Ad) (m:KM) (b:Nat) (z:Int) (_:vs=[.ref d.M,.int z]) (_:Rep C H d m b) (_:Ub0 C H d (KF m (Kg22.overflow z)) b (Q (iv (KH z))))
theorem Xh5:Zj0 ["machine","value"] ["machine","value"] (Zh0 (top 174)):=by decide +kernel
theorem Vo5 {f C:Addr}{fd:FuncData} (F:Fun K "fitted" "fitted" (top 174) f fd) (T:Txt K mg C) (T2:Zx1 mg) (T3:Zb6 mg) (gF:gFits P w K mg base) (gA:gFlags P w K mg base C):FnW P w K mg base 2 f fd ["machine","value"] (Yg4 C):=by
 exists Xh5,(by rintro vs H Q E ⟨d,m,b,z,rfl,_⟩;rfl)
 obtain ⟨d,m,b,z,rfl,R,q⟩:=h
 refine ⟨_,Zd0 (Yb0 (Ul1 (Zs0 (Zb0 gF hr Zf0 (Za0 (pv 1) (Za0 Zg0 Zc0))) (fun _=>rfl))) (Ze0 (Zx0 (Zu0 (pv 0) T.cl gA hr Zf0 (Za0 (Zo0 T3.wo) Zc0)))) Zq0)
  (Ze0 (Zk0 (Zl0 Yf0 (pv 1) (Zo0 T2.mask)))),?_⟩
 refine ⟨_,rfl,z,64,rfl,by decide,by decide,_,rfl,?_⟩
 rw [Jj6]
 unfold Kg22.overflow at q
 by_cases h:z < -(2:Int)^63∨2^63≤z
 ·rw [if_pos h] at q
  rw [decide_eq_true h]
  refine ⟨_,rfl,d.M,d.dx,_,rfl,R.obj,rfl,d,m,b,64,rfl,R,by decide,fun H1 d1 e1 R1 k1=>?_⟩
  refine ⟨_,rfl,_,_,rfl,rfl,?_⟩
  dsimp only
  rw [Yc0,← Jc0]
  exact q H1 d1 e1 R1 k1
 ·rw [if_neg h,Yt0] at q
  rw [decide_eq_false h]
  refine ⟨_,rfl,_,_,rfl,rfl,?_⟩
  dsimp only
  rw [Yc0,← Jc0]
  exact q.here R
variable (P w K mg base) in abbrev gFitted (C:Addr):=FG P w K mg base "fitted" 2 ["machine","value"] (Yg4 C)
abbrev Op:=KM→Nat→Nat→KM×Nat
inductive Ja0 (C:Addr) (g:Op) (vs:List V) (H:Hp) (Q:VK) (_:XK):Prop |mk (d:Ad) (m:KM) (b y z:Nat) (_:vs=[.ref d.M,iv y,iv z]) (_:Rep C H d m b) (_:y<2^64) (_:z<2^64) (_:Ub0 C H d (g m y z).1 b (Q (iv (g m y z).2)))
theorem Zy0 {C:Addr}{g:Op}:∀ vs H Q E,Ja0 C g vs H Q E→vs.length=3:=by rintro vs H Q E ⟨d,m,b,y,z,rfl,_⟩;rfl
def Zp4 (h:Int→Int→Int):Op:=fun m y z=>(KF m (Kg22.overflow (h (KN 64 y) (KN 64 z))),KH (h (KN 64 y) (KN 64 z)))
def Ye0 (h:Nat→Nat→Nat):Op:=fun m y z=>(m,h y z)
theorem sc_mul:Zj0 ["machine","y","z"] ["machine","y","z"] (Zh0 (top 175)):=by decide +kernel
theorem ok_mul {f C:Addr}{fd:FuncData} (F:Fun K "mul" "mul" (top 175) f fd) (gS:gSigned P w K mg base) (gT:gFitted P w K mg base C):FnW P w K mg base 3 f fd ["machine","y","z"] (Ja0 C (Zp4 fun a b=>a*b)):=by
 exists sc_mul,Zy0
 obtain ⟨d,m,b,y,z,rfl,R,hy,hz,q⟩:=h
 refine ⟨_,Ze0 (Zk0 (Zb0 gT hr Zf0 (Za0 (pv 0) (Za0 (Zl0 Vq0 (Zb0 gS hr Zf0 (Za0 (pv 1) Zc0)) (Zb0 gS hr Zf0 (Za0 (pv 2) Zc0))) Zc0)))),?_⟩
 exact ⟨_,rfl,_,rfl,y,rfl,hy,_,rfl,z,rfl,hz,_,_,rfl,rfl,.inl ⟨by have:=Ud0 hy;lia,by have:=Ud0 hy;lia⟩,d,m,b,_,rfl,R,q⟩
theorem sc_add:Zj0 ["machine","y","z"] ["machine","y","z"] (Zh0 (top 179)):=by decide +kernel
theorem ok_add {f C:Addr}{fd:FuncData} (F:Fun K "add" "add" (top 179) f fd) (gS:gSigned P w K mg base) (gT:gFitted P w K mg base C):FnW P w K mg base 3 f fd ["machine","y","z"] (Ja0 C (Zp4 fun a b=>a+b)):=by
 exists sc_add,Zy0
 obtain ⟨d,m,b,y,z,rfl,R,hy,hz,q⟩:=h
 refine ⟨_,Ze0 (Zk0 (Zb0 gT hr Zf0 (Za0 (pv 0) (Za0 (Zl0 Yy0 (Zb0 gS hr Zf0 (Za0 (pv 1) Zc0)) (Zb0 gS hr Zf0 (Za0 (pv 2) Zc0))) Zc0)))),?_⟩
 exact ⟨_,rfl,_,rfl,y,rfl,hy,_,rfl,z,rfl,hz,_,_,rfl,rfl,d,m,b,_,rfl,R,q⟩
theorem sc_sub:Zj0 ["machine","y","z"] ["machine","y","z"] (Zh0 (top 181)):=by decide +kernel
theorem ok_sub {f C:Addr}{fd:FuncData} (F:Fun K "sub" "sub" (top 181) f fd) (gS:gSigned P w K mg base) (gT:gFitted P w K mg base C):FnW P w K mg base 3 f fd ["machine","y","z"] (Ja0 C (Zp4 fun a b=>a-b)):=by
 exists sc_sub,Zy0
 obtain ⟨d,m,b,y,z,rfl,R,hy,hz,q⟩:=h
 refine ⟨_,Ze0 (Zk0 (Zb0 gT hr Zf0 (Za0 (pv 0) (Za0 (Zl0 Xe0 (Zb0 gS hr Zf0 (Za0 (pv 1) Zc0)) (Zb0 gS hr Zf0 (Za0 (pv 2) Zc0))) Zc0)))),?_⟩
 exact ⟨_,rfl,_,rfl,y,rfl,hy,_,rfl,z,rfl,hz,_,_,rfl,rfl,d,m,b,_,rfl,R,q⟩
theorem Ve2:Zj0 ["machine","y","z"] ["machine","y","z"] (Zh0 (top 183)):=by decide +kernel
theorem Vx2 {f C:Addr}{fd:FuncData} (F:Fun K "addu_of_two" "addu_of_two" (top 183) f fd) (T2:Zx1 mg):FnW P w K mg base 1 f fd ["machine","y","z"] (Ja0 C (Ye0 fun y z=>(2*y+z)%2^64)):=by
 exists Ve2,Zy0
 obtain ⟨d,m,b,y,z,rfl,R,hy,hz,q⟩:=h
 refine ⟨_,Ze0 (Zk0 (Zl0 Yf0 (Zl0 Yy0 (Zl0 Vq0 Zg0 (pv 1)) (pv 2)) (Zo0 T2.mask))),?_⟩
 refine ⟨_,rfl,_,_,rfl,rfl,.inl ⟨by decide,by decide⟩,_,rfl,_,_,rfl,rfl,_,_,rfl,rfl,?_⟩
 have e:Builtin.bitAnd ((2:Int)*(y:Int)+(z:Int)) 18446744073709551615=(((2*y+z)%2^64:Nat):Int):=by rw [Yc0];lia
 dsimp only
 rw [e]
 exact q.here R
theorem Ym2:Zj0 ["machine","y","z"] ["machine","y","z"] (Zh0 (top 184)):=by decide +kernel
theorem Xb2 {f C:Addr}{fd:FuncData} (F:Fun K "addu_of_four" "addu_of_four" (top 184) f fd) (T2:Zx1 mg):FnW P w K mg base 1 f fd ["machine","y","z"] (Ja0 C (Ye0 fun y z=>(4*y+z)%2^64)):=by
 exists Ym2,Zy0
 obtain ⟨d,m,b,y,z,rfl,R,hy,hz,q⟩:=h
 refine ⟨_,Ze0 (Zk0 (Zl0 Yf0 (Zl0 Yy0 (Zl0 Vq0 Zg0 (pv 1)) (pv 2)) (Zo0 T2.mask))),?_⟩
 refine ⟨_,rfl,_,_,rfl,rfl,.inl ⟨by decide,by decide⟩,_,rfl,_,_,rfl,rfl,_,_,rfl,rfl,?_⟩
 have e:Builtin.bitAnd ((4:Int)*(y:Int)+(z:Int)) 18446744073709551615=(((4*y+z)%2^64:Nat):Int):=by rw [Yc0];lia
 dsimp only
 rw [e]
 exact q.here R
theorem Zg2:Zj0 ["machine","y","z"] ["machine","y","z"] (Zh0 (top 185)):=by decide +kernel
theorem Zk2 {f C:Addr}{fd:FuncData} (F:Fun K "addu_of_eight" "addu_of_eight" (top 185) f fd) (T2:Zx1 mg):FnW P w K mg base 1 f fd ["machine","y","z"] (Ja0 C (Ye0 fun y z=>(8*y+z)%2^64)):=by
 exists Zg2,Zy0
 obtain ⟨d,m,b,y,z,rfl,R,hy,hz,q⟩:=h
 refine ⟨_,Ze0 (Zk0 (Zl0 Yf0 (Zl0 Yy0 (Zl0 Vq0 Zg0 (pv 1)) (pv 2)) (Zo0 T2.mask))),?_⟩
 refine ⟨_,rfl,_,_,rfl,rfl,.inl ⟨by decide,by decide⟩,_,rfl,_,_,rfl,rfl,_,_,rfl,rfl,?_⟩
 have e:Builtin.bitAnd ((8:Int)*(y:Int)+(z:Int)) 18446744073709551615=(((8*y+z)%2^64:Nat):Int):=by rw [Yc0];lia
 dsimp only
 rw [e]
 exact q.here R
theorem Ui1:Zj0 ["machine","y","z"] ["machine","y","z"] (Zh0 (top 186)):=by decide +kernel
theorem Up1 {f C:Addr}{fd:FuncData} (F:Fun K "addu_of_sixteen" "addu_of_sixteen" (top 186) f fd) (T2:Zx1 mg):FnW P w K mg base 1 f fd ["machine","y","z"] (Ja0 C (Ye0 fun y z=>(16*y+z)%2^64)):=by
 exists Ui1,Zy0
 obtain ⟨d,m,b,y,z,rfl,R,hy,hz,q⟩:=h
 refine ⟨_,Ze0 (Zk0 (Zl0 Yf0 (Zl0 Yy0 (Zl0 Vq0 Zg0 (pv 1)) (pv 2)) (Zo0 T2.mask))),?_⟩
 refine ⟨_,rfl,_,_,rfl,rfl,.inl ⟨by decide,by decide⟩,_,rfl,_,_,rfl,rfl,_,_,rfl,rfl,?_⟩
 have e:Builtin.bitAnd ((16:Int)*(y:Int)+(z:Int)) 18446744073709551615=(((16*y+z)%2^64:Nat):Int):=by rw [Yc0];lia
 dsimp only
 rw [e]
 exact q.here R
theorem Xc7:Zj0 ["machine","y","z"] ["machine","y","z"] (Zh0 (top 180)):=by decide +kernel
theorem Ur7 {f C:Addr}{fd:FuncData} (F:Fun K "addu" "addu" (top 180) f fd) (T2:Zx1 mg):FnW P w K mg base 1 f fd ["machine","y","z"] (Ja0 C (Ye0 fun y z=>(y+z)%2^64)):=by
 exists Xc7,Zy0
 obtain ⟨d,m,b,y,z,rfl,R,hy,hz,q⟩:=h
 refine ⟨_,Ze0 (Zk0 (Zl0 Yf0 (Zl0 Yy0 (pv 1) (pv 2)) (Zo0 T2.mask))),?_⟩
 refine ⟨_,rfl,_,rfl,_,_,rfl,rfl,_,_,rfl,rfl,?_⟩
 have e:Builtin.bitAnd ((y:Int)+(z:Int)) 18446744073709551615=(((y+z)%2^64:Nat):Int):=by rw [Yc0];lia
 dsimp only
 rw [e]
 exact q.here R
theorem Yh7:Zj0 ["machine","y","z"] ["machine","y","z"] (Zh0 (top 182)):=by decide +kernel
theorem Vk7 {f C:Addr}{fd:FuncData} (F:Fun K "subu" "subu" (top 182) f fd) (T2:Zx1 mg):FnW P w K mg base 1 f fd ["machine","y","z"] (Ja0 C (Ye0 fun y z=>(y+2^64-z)%2^64)):=by
 exists Yh7,Zy0
 obtain ⟨d,m,b,y,z,rfl,R,hy,hz,q⟩:=h
 refine ⟨_,Ze0 (Zk0 (Zl0 Yf0 (Zl0 Xe0 (pv 1) (pv 2)) (Zo0 T2.mask))),?_⟩
 refine ⟨_,rfl,_,rfl,_,_,rfl,rfl,_,_,rfl,rfl,?_⟩
 have e:Builtin.bitAnd ((y:Int)-(z:Int)) 18446744073709551615=(((y+2^64-z)%2^64:Nat):Int):=by rw [Yc0,Int.natCast_emod,Int.ofNat_sub (Nat.le_of_lt (Nat.lt_of_lt_of_le hz (Nat.le_add_left _ _))),Int.natCast_add,Int.sub_eq_add_neg,Int.sub_eq_add_neg,Int.add_right_comm];exact (Int.add_emod_right _ _).symm
 dsimp only
 rw [e]
 exact q.here R
theorem Vx4:Zj0 ["machine","y","z"] ["machine","y","z"] (Zh0 (top 187)):=by decide +kernel
theorem Uy4 {f C:Addr}{fd:FuncData} (F:Fun K "compare" "compare" (top 187) f fd) (gS:gSigned P w K mg base) (gC:FG P w K mg base "compared" 1 ["first","second"] Xp1):FnW P w K mg base 3 f fd ["machine","y","z"] (Ja0 C (Ye0 fun y z=>Jp6 (KN 64 y) (KN 64 z))):=by
 exists Vx4,Zy0
 obtain ⟨d,m,b,y,z,rfl,R,hy,hz,q⟩:=h
 refine ⟨_,Ze0 (Zk0 (Zb0 gC hr Zf0 (Za0 (Zb0 gS hr Zf0 (Za0 (pv 1) Zc0)) (Za0 (Zb0 gS hr Zf0 (Za0 (pv 2) Zc0)) Zc0)))),?_⟩
 exact ⟨_,rfl,y,rfl,hy,_,rfl,z,rfl,hz,_,_,rfl,q.here R⟩
theorem Vo1:Zj0 ["machine","y","z"] ["machine","y","z"] (Zh0 (top 188)):=by decide +kernel
theorem Vs1 {f C:Addr}{fd:FuncData} (F:Fun K "compare_unsigned" "compare_unsigned" (top 188) f fd) (gC:FG P w K mg base "compared" 1 ["first","second"] Xp1):FnW P w K mg base 2 f fd ["machine","y","z"] (Ja0 C (Ye0 fun y z=>Jp6 y z)):=by
 exists Vo1,Zy0
 obtain ⟨d,m,b,y,z,rfl,R,hy,hz,q⟩:=h
 refine ⟨_,Ze0 (Zk0 (Zb0 gC hr Zf0 (Za0 (pv 1) (Za0 (pv 2) Zc0)))),?_⟩
 exact ⟨_,rfl,_,rfl,_,_,rfl,q.here R⟩
theorem sc_neg:Zj0 ["machine","number","z"] ["machine","number","z"] (Zh0 (top 189)):=by decide +kernel
def negOp:Op:=fun m y z=>(KF m (Kg22.overflow ((y:Int)-KN 64 z)),KH ((y:Int)-KN 64 z))
theorem ok_neg {f C:Addr}{fd:FuncData} (F:Fun K "neg" "neg" (top 189) f fd) (gS:gSigned P w K mg base) (gT:gFitted P w K mg base C):FnW P w K mg base 3 f fd ["machine","number","z"] (Ja0 C negOp):=by
 exists sc_neg,Zy0
 obtain ⟨d,m,b,y,z,rfl,R,hy,hz,q⟩:=h
 refine ⟨_,Ze0 (Zk0 (Zb0 gT hr Zf0 (Za0 (pv 0) (Za0 (Zl0 Xe0 (pv 1) (Zb0 gS hr Zf0 (Za0 (pv 2) Zc0))) Zc0)))),?_⟩
 exact ⟨_,rfl,_,rfl,_,rfl,z,rfl,hz,_,_,rfl,rfl,d,m,b,_,rfl,R,q⟩
theorem Jj2 {m:KM} (h:WF m) {k x:Nat} (hx:x<2^64) (h1:k≠19) (h2:k≠21):WF (KU m k x):=h.setSp hx h1 (fun z=>absurd z h2)
theorem Uc0 (n:Nat) {z:Int}{k:Nat} (h:z.toNat=k):((n:Int)/2^z.toNat)=((n/2^k:Nat):Int):=Zy3 n k z h
theorem Zu3 (z:Nat):(if (64:Int)<(z:Int) then (64:Int) else (z:Int))=((min z 64:Nat):Int):=by
 split <;> lia
def Vy5:Op:=fun m y z=>(KU m 3 (y*z/2^64),y*z%2^64)
def Jp4:Op:=fun m y z=>if z=0 then (KU (KF m 128) 6 y,0)
 else (KF (KU m 6 (KH (Int.fmod (KN 64 y) (KN 64 z)))) (Kg22.overflow (Int.fdiv (KN 64 y) (KN 64 z))),KH (Int.fdiv (KN 64 y) (KN 64 z)))
def Jd2:Op:=fun m y z=>if z≤m.special 1 then (KU m 6 y,m.special 1) else (KU m 6 ((m.special 1*2^64+y)%z),(m.special 1*2^64+y)/z)
def slOp:Op:=fun m y z=>(KF m (Kg22.overflow (KN 64 y*2^min z 64)),KH (KN 64 y*2^min z 64))
theorem Xe3 {z:Nat} (h:z<2^64) (h0:z≠0):KN 64 z≠0:=by
 rw [Jv0 h];split <;> lia
theorem Uf5 {j:Int} (h1:-(2^64:Int)<j) (h2:j<2^64):j.natAbs.log2<9000:=by
 by_cases h0:j.natAbs=0
 ·rw [h0];decide
 ·have:j.natAbs.log2<64:=(Nat.log2_lt h0).mpr (by lia)
  lia
theorem Yn7:Zj0 ["machine","y","z"] ["machine","y","z"] (Zh0 (top 176)):=by decide +kernel
theorem Vv7 {f C:Addr}{fd:FuncData} (F:Fun K "mulu" "mulu" (top 176) f fd) (T:Txt K mg C) (T2:Zx1 mg) (T3:Zb6 mg):FnW P w K mg base 1 f fd ["machine","y","z"] (Ja0 C Vy5):=by
 exists Yn7,Zy0
 obtain ⟨d,m,b,y,z,rfl,R,hy,hz,q⟩:=h
 refine ⟨_,Zd0 (Ji0 (Zl0 Xf0 (Zl0 Vq0 (pv 1) (pv 2)) Zg0) (Jj0 (Yh0 (pv 0) rfl) (Zo0 T3.rh) Xs0)) (Ze0 (Zk0 (Zl0 Yf0 (Zl0 Vq0 (pv 1) (pv 2)) (Zo0 T2.mask)))),?_⟩
 obtain ⟨ss,hS,lS,gS⟩:=R.spc
 refine ⟨_,rfl,_,rfl,_,_,rfl,rfl,.inl ⟨by lia,by lia⟩,_,_,rfl,rfl,(by decide:(0:Int)≤64),_,rfl,d.M,C,d.dx,_,_,rfl,R.obj,T.cl,T.nSpc,rfl,d.aS,_,_,3,rfl,rfl,hS,Vt0 (n:=(List.map iv ss).length) (j:=3) (by rw [List.length_map,lS];decide),?_⟩
 have e1:((y:Int)*(z:Int))/2^(64:Int).toNat=((y*z/2^64:Nat):Int):=by
  rw [← Int.natCast_mul];exact Uc0 (y*z) rfl
 dsimp only
 rw [e1]
 have hlt:y*z/2^64<2^64:=by
  rw [Nat.div_lt_iff_lt_mul (by decide)]
  exact Nat.mul_lt_mul'' hy hz
 have R':=R.setSpc (k:=3) (x:=y*z/2^64) (by decide) hS lS gS (Jj2 R.wf hlt (by decide) (by decide)) (by decide)
 rw [← Jh0] at R'
 refine ⟨_,rfl,_,rfl,_,_,rfl,rfl,.inl ⟨by lia,by lia⟩,_,_,rfl,rfl,?_⟩
 have e2:Builtin.bitAnd ((y:Int)*(z:Int)) 18446744073709551615=((y*z%2^64:Nat):Int):=by
  rw [Yc0,← Int.natCast_mul];rfl
 dsimp only
 rw [e2]
 exact q _ d rfl R' (Vf0.upd (by simp [Ad.own]))
theorem sc_div:Zj0 ["machine","y","z"] ["machine","y","z"] (Zh0 (top 177)):=by decide +kernel
theorem ok_div {f C:Addr}{fd:FuncData} (F:Fun K "div" "div" (top 177) f fd) (T:Txt K mg C) (T2:Zx1 mg) (T3:Zb6 mg) (gA:gFlags P w K mg base C) (gS:gSigned P w K mg base) (gT:gFitted P w K mg base C):FnW P w K mg base 3 f fd ["machine","y","z"] (Ja0 C Jp4):=by
 exists sc_div,Zy0
 obtain ⟨d,m,b,y,z,rfl,R,hy,hz,q⟩:=h
 refine ⟨_,Zd0 (Yb0 (Zt0 Xj0 (pv 2) Zg0 (Zv0 _)) (Zd0 (Zx0 (Zu0 (pv 0) T.cl gA hr Zf0 (Za0 (Zo0 T3.dc) Zc0))) (Zd0 (Ji0 (pv 1) (Jj0 (Yh0 (pv 0) rfl) (Zo0 T3.rr) Xs0)) (Ze0 (Zk0 Zg0)))) Zq0)
  (Zd0 (Ji0 (Zl0 Yf0 (Zl0 Va7 (Zb0 gS hr Zf0 (Za0 (pv 1) Zc0)) (Zb0 gS hr Zf0 (Za0 (pv 2) Zc0))) (Zo0 T2.mask)) (Jj0 (Yh0 (pv 0) rfl) (Zo0 T3.rr) Xs0))
  (Ze0 (Zk0 (Zb0 gT hr Zf0 (Za0 (pv 0) (Za0 (Zl0 Xv1 (Zb0 gS hr Zf0 (Za0 (pv 1) Zc0)) (Zb0 gS hr Zf0 (Za0 (pv 2) Zc0))) Zc0)))))),?_⟩
 refine ⟨_,rfl,rfl,_,rfl,?_⟩
 unfold Jp4 at q
 refine Xb0 (fun hc=>?_) (fun hc=>?_)
 ·have z0:z=0:=by
   have e:=of_decide_eq_true hc
   injection e with e
   lia
  rw [if_pos z0] at q
  refine ⟨_,rfl,d.M,d.dx,_,rfl,R.obj,rfl,d,m,b,128,rfl,R,by decide,fun H1 d1 e1 R1 k1=>?_⟩
  obtain ⟨ss,hS,lS,gS'⟩:=R1.spc
  refine ⟨_,rfl,_,rfl,d1.M,C,d1.dx,_,_,(by rw [e1]),R1.obj,T.cl,T.nSpc,rfl,d1.aS,_,_,6,rfl,rfl,hS,Vt0 (n:=(List.map iv ss).length) (j:=6) (by rw [List.length_map,lS];decide),?_⟩
  have R':=R1.setSpc (k:=6) (x:=y) (by decide) hS lS gS' (Jj2 R1.wf hy (by decide) (by decide)) (by decide)
  rw [← Jh0] at R'
  exact q _ d1 e1 R' (k1.trans (Vf0.upd (by simp [Ad.own])))
 ·have z0:z≠0:=fun e=>hc (decide_eq_true (by rw [e];rfl))
  rw [if_neg z0] at q
  obtain ⟨ss,hS,lS,gS'⟩:=R.spc
  have sn:=Xe3 hz z0
  have sr:=Ud0 hz
  refine ⟨_,rfl,y,rfl,hy,_,rfl,z,rfl,hz,_,_,rfl,rfl,sn,_,_,rfl,rfl,_,rfl,d.M,C,d.dx,_,_,rfl,R.obj,T.cl,T.nSpc,rfl,d.aS,_,_,6,rfl,rfl,hS,Vt0 (n:=(List.map iv ss).length) (j:=6) (by rw [List.length_map,lS];decide),?_⟩
  dsimp only
  rw [Yc0,← Jc0]
  have R':=R.setSpc (k:=6) (x:=KH (Int.fmod (KN 64 y) (KN 64 z))) (by decide) hS lS gS' (Jj2 R.wf (Uj0 _) (by decide) (by decide)) (by decide)
  rw [← Jh0] at R'
  exact ⟨_,rfl,_,rfl,y,rfl,hy,_,rfl,z,rfl,hz,_,_,rfl,rfl,⟨sn,Uf5 (by lia) (by lia)⟩,d,_,b,_,rfl,R',q.of rfl (Vf0.upd (by simp [Ad.own]))⟩
theorem Xk5:Zj0 ["machine","y","z","high","dividend"] ["machine","y","z"] (Zh0 (top 178)):=by decide +kernel
theorem Uo7 {f C:Addr}{fd:FuncData} (F:Fun K "divu" "divu" (top 178) f fd) (T:Txt K mg C) (T3:Zb6 mg):FnW P w K mg base 1 f fd ["machine","y","z"] (Ja0 C Jd2):=by
 exists Xk5,Zy0
 obtain ⟨d,m,b,y,z,rfl,R,hy,hz,q⟩:=h
 have nd:=Xk5.nd
 refine ⟨_,Zd0 (Zp0 (i:=3) nd rfl (Or.inl rfl) (Xi0 Ym0 (Yh0 (pv 0) rfl) (Zo0 T3.rd) (fun _ _=>rfl)))
  (Zd0 (Yb0 (Zt0 Jq3 (pv 2) (pv 3) (Zv0 _)) (Zd0 (Ji0 (pv 1) (Jj0 (Yh0 (pv 0) rfl) (Zo0 T3.rr) Xs0)) (Ze0 (Zk0 (pv 3)))) Zq0)
  (Zd0 (Zp0 (i:=4) nd rfl (Or.inl rfl) (Zl0 Yd1 (Zl0 Vy0 (pv 3) Zg0) (pv 1)))
  (Zd0 (Ji0 (Zl0 Xv3 (pv 4) (pv 2)) (Jj0 (Yh0 (pv 0) rfl) (Zo0 T3.rr) Xs0)) (Ze0 (Zk0 (Zl0 Xv1 (pv 4) (pv 2))))))),?_⟩
 obtain ⟨ss,hS,lS,gS⟩:=R.spc
 have hi:=R.wf.spe 1
 refine ⟨_,rfl,d.M,C,d.dx,_,_,rfl,R.obj,T.cl,T.nSpc,rfl,d.aS,_,_,_,rfl,rfl,SqL.of hS,Zd1 (gS 1 (by decide)),_,rfl,_,rfl,_,_,rfl,rfl,_,rfl,?_⟩
 unfold Jd2 at q
 refine Xb0 (fun hc=>?_) (fun hc=>?_)
 ·have hc':z≤m.special 1:=by have:=of_decide_eq_true hc;lia
  rw [if_pos hc'] at q
  refine ⟨_,rfl,_,rfl,d.M,C,d.dx,_,_,rfl,R.obj,T.cl,T.nSpc,rfl,d.aS,_,_,6,rfl,rfl,hS,Vt0 (n:=(List.map iv ss).length) (j:=6) (by rw [List.length_map,lS];decide),?_⟩
  have R':=R.setSpc (k:=6) (x:=y) (by decide) hS lS gS (Jj2 R.wf hy (by decide) (by decide)) (by decide)
  rw [← Jh0] at R'
  exact ⟨_,rfl,q _ d rfl R' (Vf0.upd (by simp [Ad.own]))⟩
 ·have hc':¬ z≤m.special 1:=fun e=>hc (decide_eq_true (by lia))
  rw [if_neg hc'] at q
  refine ⟨_,rfl,_,_,rfl,rfl,⟨by decide,by decide,by lia⟩,_,rfl,_,_,rfl,rfl,?_⟩
  have e:Builtin.bitOr (((m.special 1:Nat):Int)*2^(64:Int).toNat) (y:Int)=((m.special 1*2^64+y:Nat):Int):=by
   have e1:((m.special 1:Nat):Int)*2^(64:Int).toNat=((m.special 1*2^64:Nat):Int):=by norm_cast
   rw [e1,Yv0,Nat.or_comm,Za2 hy,Nat.add_comm]
  dsimp only
  rw [e]
  generalize hD:m.special 1*2^64+y=D at *
  refine ⟨_,rfl,_,rfl,_,_,rfl,rfl,(show (0:Int)<(z:Int) by lia),_,rfl,d.M,C,d.dx,_,_,rfl,R.obj,T.cl,T.nSpc,rfl,d.aS,_,_,6,rfl,rfl,hS,Vt0 (n:=(List.map iv ss).length) (j:=6) (by rw [List.length_map,lS];decide),?_⟩
  have R':=R.setSpc (k:=6) (x:=D%z) (by decide) hS lS gS (Jj2 R.wf (Nat.lt_trans (Nat.mod_lt _ (by lia)) hz) (by decide) (by decide)) (by decide)
  rw [← Jh0] at R'
  refine ⟨_,rfl,_,rfl,_,_,rfl,rfl,⟨by lia,Uf5 (by lia) (by lia)⟩,?_⟩
  have e2:Int.fdiv (D:Int) (z:Int)=((D/z:Nat):Int):=by rw [Int.fdiv_eq_ediv_of_nonneg _ (by lia)];rfl
  dsimp only
  rw [e2]
  exact q _ d rfl R' (Vf0.upd (by simp [Ad.own]))
theorem Zw1 (a b:Nat):Builtin.bitXor (a:Int) (b:Int)=((a^^^b:Nat):Int):=by
 have e:Builtin.bitXor (a:Int) (b:Int)=Builtin.bitOr (a:Int) (b:Int)-Builtin.bitAnd (a:Int) (b:Int):=rfl
 rw [e,Yv0,Xm0]
 have:=(Zs2 a b).1
 lia
theorem Uz0 {a:Nat} (h:a<2^64):Builtin.bitXor (a:Int) 18446744073709551615=((2^64-1-a:Nat):Int):=by
 have e:Builtin.bitXor (a:Int) ((18446744073709551615:Nat):Int)=((a^^^18446744073709551615:Nat):Int):=Zw1 a _
 rw [show (18446744073709551615:Int)=((18446744073709551615:Nat):Int) from rfl,e,show (18446744073709551615:Nat)=2^64-1 from rfl,Ze6 h]
theorem sc_sl:Zj0 ["machine","y","z"] ["machine","y","z"] (Zh0 (top 190)):=by decide +kernel
theorem ok_sl {f C:Addr}{fd:FuncData} (F:Fun K "sl" "sl" (top 190) f fd) (T3:Zb6 mg) (gS:gSigned P w K mg base) (gT:gFitted P w K mg base C):FnW P w K mg base 3 f fd ["machine","y","z"] (Ja0 C slOp):=by
 exists sc_sl,Zy0
 obtain ⟨d,m,b,y,z,rfl,R,hy,hz,q⟩:=h
 refine ⟨_,Ze0 (Zk0 (Zb0 gT hr Zf0 (Za0 (pv 0) (Za0 (Zl0 Vy0 (Zb0 gS hr Zf0 (Za0 (pv 1) Zc0)) (Yl0 (Zc1 rfl) (by rfl) T3.min boot_min (Za0 (pv 2) (Za0 Zg0 Zc0)))) Zc0)))),?_⟩
 have sr:=Ud0 hy
 refine ⟨_,rfl,_,rfl,y,rfl,hy,_,rfl,_,_,rfl,?_⟩
 rw [Zu3]
 refine ⟨_,_,rfl,rfl,⟨by lia,by lia,by lia⟩,d,m,b,_,rfl,R,?_⟩
 dsimp only
 rw [Int.toNat_natCast]
 exact q
theorem sc_slu:Zj0 ["machine","y","z"] ["machine","y","z"] (Zh0 (top 191)):=by decide +kernel
theorem ok_slu {f C:Addr}{fd:FuncData} (F:Fun K "slu" "slu" (top 191) f fd) (T2:Zx1 mg) (T3:Zb6 mg):FnW P w K mg base 1 f fd ["machine","y","z"] (Ja0 C (Ye0 fun y z=>y*2^min z 64%2^64)):=by
 exists sc_slu,Zy0
 obtain ⟨d,m,b,y,z,rfl,R,hy,hz,q⟩:=h
 refine ⟨_,Ze0 (Zk0 (Zl0 Yf0 (Zl0 Vy0 (pv 1) (Yl0 (Zc1 rfl) (by rfl) T3.min boot_min (Za0 (pv 2) (Za0 Zg0 Zc0)))) (Zo0 T2.mask))),?_⟩
 refine ⟨_,rfl,_,rfl,_,_,rfl,?_⟩
 rw [Zu3]
 refine ⟨_,_,rfl,rfl,⟨by lia,by lia,by lia⟩,_,_,rfl,rfl,?_⟩
 have e:Builtin.bitAnd ((y:Int)*2^(((min z 64:Nat):Int)).toNat) 18446744073709551615=((y*2^min z 64%2^64:Nat):Int):=by
  have e1:(y:Int)*2^min z 64=((y*2^min z 64:Nat):Int):=by rw [Int.natCast_mul,Int.natCast_pow];rfl
  rw [Yc0,Int.toNat_natCast,e1]
  generalize y*2^min z 64=N
  lia
 dsimp only
 rw [e]
 exact q.here R
theorem sc_sr:Zj0 ["machine","y","z"] ["machine","y","z"] (Zh0 (top 192)):=by decide +kernel
theorem ok_sr {f C:Addr}{fd:FuncData} (F:Fun K "sr" "sr" (top 192) f fd) (T2:Zx1 mg) (T3:Zb6 mg) (gS:gSigned P w K mg base):FnW P w K mg base 3 f fd ["machine","y","z"] (Ja0 C (Ye0 fun y z=>KH (KN 64 y/2^min z 64))):=by
 exists sc_sr,Zy0
 obtain ⟨d,m,b,y,z,rfl,R,hy,hz,q⟩:=h
 refine ⟨_,Ze0 (Zk0 (Zl0 Yf0 (Zl0 Xf0 (Zb0 gS hr Zf0 (Za0 (pv 1) Zc0)) (Yl0 (Zc1 rfl) (by rfl) T3.min boot_min (Za0 (pv 2) (Za0 Zg0 Zc0)))) (Zo0 T2.mask))),?_⟩
 refine ⟨_,rfl,y,rfl,hy,_,rfl,_,_,rfl,?_⟩
 rw [Zu3]
 refine ⟨_,_,rfl,rfl,(by lia:(0:Int)≤((min z 64:Nat):Int)),_,_,rfl,rfl,?_⟩
 dsimp only
 rw [Yc0,← Jc0,Int.toNat_natCast]
 exact q.here R
theorem sc_sru:Zj0 ["machine","y","z"] ["machine","y","z"] (Zh0 (top 193)):=by decide +kernel
theorem ok_sru {f C:Addr}{fd:FuncData} (F:Fun K "sru" "sru" (top 193) f fd) (T3:Zb6 mg):FnW P w K mg base 1 f fd ["machine","y","z"] (Ja0 C (Ye0 fun y z=>y/2^min z 64)):=by
 exists sc_sru,Zy0
 obtain ⟨d,m,b,y,z,rfl,R,hy,hz,q⟩:=h
 refine ⟨_,Ze0 (Zk0 (Zl0 Xf0 (pv 1) (Yl0 (Zc1 rfl) (by rfl) T3.min boot_min (Za0 (pv 2) (Za0 Zg0 Zc0))))),?_⟩
 refine ⟨_,rfl,_,rfl,_,_,rfl,?_⟩
 rw [Zu3]
 refine ⟨_,_,rfl,rfl,(by lia:(0:Int)≤((min z 64:Nat):Int)),?_⟩
 dsimp only
 rw [Int.toNat_natCast,Jr0]
 exact q.here R
theorem Xl5:Zj0 ["machine","y","z"] ["machine","y","z"] (Zh0 (top 40)):=by decide +kernel
theorem Vp5 {f C:Addr}{fd:FuncData} (F:Fun K "bit_or" "bit_or" (top 40) f fd) (T2:Zx1 mg):FnW P w K mg base 1 f fd ["machine","y","z"] (Ja0 C (Ye0 fun y z=>y|||z)):=by
 exists Xl5,Zy0
 obtain ⟨d,m,b,y,z,rfl,R,hy,hz,q⟩:=h
 refine ⟨_,Ze0 (Zk0 (Zl0 Yd1 (pv 1) (pv 2))),?_⟩
 refine ⟨_,rfl,_,rfl,_,_,rfl,rfl,?_⟩
 have e:Builtin.bitOr (y:Int) (z:Int)=((y|||z:Nat):Int):=by exact Yv0 y z
 dsimp only
 rw [e]
 exact q.here R
theorem Vz4:Zj0 ["machine","y","z"] ["machine","y","z"] (Zh0 (top 41)):=by decide +kernel
theorem Ja4 {f C:Addr}{fd:FuncData} (F:Fun K "bit_orn" "bit_orn" (top 41) f fd) (T2:Zx1 mg):FnW P w K mg base 1 f fd ["machine","y","z"] (Ja0 C (Ye0 fun y z=>y|||(2^64-1-z))):=by
 exists Vz4,Zy0
 obtain ⟨d,m,b,y,z,rfl,R,hy,hz,q⟩:=h
 refine ⟨_,Ze0 (Zk0 (Zl0 Yd1 (pv 1) (Zl0 Zt1 (pv 2) (Zo0 T2.mask)))),?_⟩
 refine ⟨_,rfl,_,rfl,_,_,rfl,rfl,_,_,rfl,rfl,?_⟩
 have e:Builtin.bitOr (y:Int) (Builtin.bitXor (z:Int) 18446744073709551615)=((y|||(2^64-1-z):Nat):Int):=by rw [Uz0 hz,Yv0]
 dsimp only
 rw [e]
 exact q.here R
theorem Ua4:Zj0 ["machine","y","z"] ["machine","y","z"] (Zh0 (top 42)):=by decide +kernel
theorem Jb4 {f C:Addr}{fd:FuncData} (F:Fun K "bit_nor" "bit_nor" (top 42) f fd) (T2:Zx1 mg):FnW P w K mg base 1 f fd ["machine","y","z"] (Ja0 C (Ye0 fun y z=>2^64-1-(y|||z))):=by
 exists Ua4,Zy0
 obtain ⟨d,m,b,y,z,rfl,R,hy,hz,q⟩:=h
 refine ⟨_,Ze0 (Zk0 (Zl0 Zt1 (Zl0 Yd1 (pv 1) (pv 2)) (Zo0 T2.mask))),?_⟩
 refine ⟨_,rfl,_,rfl,_,_,rfl,rfl,_,_,rfl,rfl,?_⟩
 have e:Builtin.bitXor (Builtin.bitOr (y:Int) (z:Int)) 18446744073709551615=((2^64-1-(y|||z):Nat):Int):=by rw [Yv0,Uz0 (Nat.or_lt_two_pow hy hz)]
 dsimp only
 rw [e]
 exact q.here R
theorem Vy4:Zj0 ["machine","y","z"] ["machine","y","z"] (Zh0 (top 43)):=by decide +kernel
theorem Uz4 {f C:Addr}{fd:FuncData} (F:Fun K "bit_xor" "bit_xor" (top 43) f fd) (T2:Zx1 mg):FnW P w K mg base 1 f fd ["machine","y","z"] (Ja0 C (Ye0 fun y z=>y^^^z)):=by
 exists Vy4,Zy0
 obtain ⟨d,m,b,y,z,rfl,R,hy,hz,q⟩:=h
 refine ⟨_,Ze0 (Zk0 (Zl0 Zt1 (pv 1) (pv 2))),?_⟩
 refine ⟨_,rfl,_,rfl,_,_,rfl,rfl,?_⟩
 have e:Builtin.bitXor (y:Int) (z:Int)=((y^^^z:Nat):Int):=by exact Zw1 y z
 dsimp only
 rw [e]
 exact q.here R
theorem Ub4:Zj0 ["machine","y","z"] ["machine","y","z"] (Zh0 (top 44)):=by decide +kernel
theorem Jc4 {f C:Addr}{fd:FuncData} (F:Fun K "bit_and" "bit_and" (top 44) f fd) (T2:Zx1 mg):FnW P w K mg base 1 f fd ["machine","y","z"] (Ja0 C (Ye0 fun y z=>y&&&z)):=by
 exists Ub4,Zy0
 obtain ⟨d,m,b,y,z,rfl,R,hy,hz,q⟩:=h
 refine ⟨_,Ze0 (Zk0 (Zl0 Yf0 (pv 1) (pv 2))),?_⟩
 refine ⟨_,rfl,_,rfl,_,_,rfl,rfl,?_⟩
 have e:Builtin.bitAnd (y:Int) (z:Int)=((y&&&z:Nat):Int):=by exact Xm0 y z
 dsimp only
 rw [e]
 exact q.here R
theorem Ji3:Zj0 ["machine","y","z"] ["machine","y","z"] (Zh0 (top 45)):=by decide +kernel
theorem Zd4 {f C:Addr}{fd:FuncData} (F:Fun K "bit_andn" "bit_andn" (top 45) f fd) (T2:Zx1 mg):FnW P w K mg base 1 f fd ["machine","y","z"] (Ja0 C (Ye0 fun y z=>y&&&(2^64-1-z))):=by
 exists Ji3,Zy0
 obtain ⟨d,m,b,y,z,rfl,R,hy,hz,q⟩:=h
 refine ⟨_,Ze0 (Zk0 (Zl0 Yf0 (pv 1) (Zl0 Zt1 (pv 2) (Zo0 T2.mask)))),?_⟩
 refine ⟨_,rfl,_,rfl,_,_,rfl,rfl,_,_,rfl,rfl,?_⟩
 have e:Builtin.bitAnd (y:Int) (Builtin.bitXor (z:Int) 18446744073709551615)=((y&&&(2^64-1-z):Nat):Int):=by rw [Uz0 hz,Xm0]
 dsimp only
 rw [e]
 exact q.here R
theorem Jh3:Zj0 ["machine","y","z"] ["machine","y","z"] (Zh0 (top 46)):=by decide +kernel
theorem Zc4 {f C:Addr}{fd:FuncData} (F:Fun K "bit_nand" "bit_nand" (top 46) f fd) (T2:Zx1 mg):FnW P w K mg base 1 f fd ["machine","y","z"] (Ja0 C (Ye0 fun y z=>2^64-1-(y&&&z))):=by
 exists Jh3,Zy0
 obtain ⟨d,m,b,y,z,rfl,R,hy,hz,q⟩:=h
 refine ⟨_,Ze0 (Zk0 (Zl0 Zt1 (Zl0 Yf0 (pv 1) (pv 2)) (Zo0 T2.mask))),?_⟩
 refine ⟨_,rfl,_,rfl,_,_,rfl,rfl,_,_,rfl,rfl,?_⟩
 have e:Builtin.bitXor (Builtin.bitAnd (y:Int) (z:Int)) 18446744073709551615=((2^64-1-(y&&&z):Nat):Int):=by rw [Xm0,Uz0 (Nat.lt_of_le_of_lt Nat.and_le_left hy)]
 dsimp only
 rw [e]
 exact q.here R
theorem Jg3:Zj0 ["machine","y","z"] ["machine","y","z"] (Zh0 (top 47)):=by decide +kernel
theorem Zb4 {f C:Addr}{fd:FuncData} (F:Fun K "bit_nxor" "bit_nxor" (top 47) f fd) (T2:Zx1 mg):FnW P w K mg base 1 f fd ["machine","y","z"] (Ja0 C (Ye0 fun y z=>2^64-1-(y^^^z))):=by
 exists Jg3,Zy0
 obtain ⟨d,m,b,y,z,rfl,R,hy,hz,q⟩:=h
 refine ⟨_,Ze0 (Zk0 (Zl0 Zt1 (Zl0 Zt1 (pv 1) (pv 2)) (Zo0 T2.mask))),?_⟩
 refine ⟨_,rfl,_,rfl,_,_,rfl,rfl,_,_,rfl,rfl,?_⟩
 have e:Builtin.bitXor (Builtin.bitXor (y:Int) (z:Int)) 18446744073709551615=((2^64-1-(y^^^z):Nat):Int):=by rw [Zw1,Uz0 (Nat.xor_lt_two_pow hy hz)]
 dsimp only
 rw [e]
 exact q.here R
structure Txt4 (mg:Str→Option Value):Prop where
 rm:∃ t,mg "RM" = some (.int 5 t)
 range:mg "range" = none
 max:mg "max" = none
theorem Uo6:Zj0 ["machine","y","z","chosen"] ["machine","y","z"] (Zh0 (top 53)):=by decide +kernel
def Uz7:Op:=fun m y z=>(m,(y&&&m.special 5)|||(z&&&(2^64-1-m.special 5)))
theorem ok_mux {f C:Addr}{fd:FuncData} (F:Fun K "mux" "mux" (top 53) f fd) (T:Txt K mg C) (T2:Zx1 mg) (T4:Txt4 mg):FnW P w K mg base 1 f fd ["machine","y","z"] (Ja0 C Uz7):=by
 exists Uo6,Zy0
 obtain ⟨d,m,b,y,z,rfl,R,hy,hz,q⟩:=h
 refine ⟨_,Zd0 (Zp0 (i:=3) Uo6.nd rfl (Or.inl rfl) (Xi0 Ym0 (Yh0 (pv 0) rfl) (Zo0 T4.rm) (fun _ _=>rfl)))
  (Ze0 (Zk0 (Zl0 Yd1 (Zl0 Yf0 (pv 1) (pv 3)) (Zl0 Yf0 (pv 2) (Zl0 Zt1 (pv 3) (Zo0 T2.mask)))))),?_⟩
 obtain ⟨ss,hS,lS,gS⟩:=R.spc
 refine ⟨_,rfl,d.M,C,d.dx,_,_,rfl,R.obj,T.cl,T.nSpc,rfl,d.aS,_,_,_,rfl,rfl,SqL.of hS,Zd1 (gS 5 (by decide)),_,rfl,_,rfl,_,_,rfl,rfl,_,rfl,_,rfl,_,_,rfl,rfl,_,_,rfl,rfl,_,_,rfl,rfl,?_⟩
 have e:Builtin.bitOr (Builtin.bitAnd (y:Int) ((m.special 5:Nat):Int)) (Builtin.bitAnd (z:Int) (Builtin.bitXor ((m.special 5:Nat):Int) 18446744073709551615))=(((y&&&m.special 5)|||(z&&&(2^64-1-m.special 5)):Nat):Int):=by
  rw [Uz0 (R.wf.spe 5),Xm0,Xm0,Yv0]
 dsimp only
 rw [e]
 exact q.here R
theorem Yx5:Zj0 ["machine","y","z","left","count"] ["machine","y","z"] (Zh0 (top 54)):=by decide +kernel
theorem Vo7 {f C:Addr}{fd:FuncData} (F:Fun K "sadd" "sadd" (top 54) f fd) (T2:Zx1 mg):FnW P w K mg base 1 f fd ["machine","y","z"] (Ja0 C (Ye0 fun y z=>Kg22.ones (y&&&(2^64-1-z)))):=by
 exists Yx5,Zy0
 obtain ⟨d,m,b,y,z,rfl,R,hy,hz,q⟩:=h
 have nd:=Yx5.nd
 refine ⟨_,Zd0 (Zp0 (i:=3) nd rfl (Or.inl rfl) (Zl0 Yf0 (pv 1) (Zl0 Zt1 (pv 2) (Zo0 T2.mask)))) (Zd0 (Zp0 (i:=4) nd rfl (Or.inl rfl) Zg0)
  (Zd0 (Xr1 PassesOwn.leaving (Zs0 (pv 3) (fun _=>rfl)) (Zd0 (Jy1 (i:=3) nd rfl (Or.inl rfl) (Zl0 Xe0 (pv 3) Zg0) (show PIp _ .BitAnd (rI0 fun i j=>.int (Builtin.bitAnd i j)) from Jm7)) (Ze0 (Jy1 (i:=4) nd rfl (Or.inl rfl) Zg0 Jc6))))
  (Ze0 (Zk0 (pv 4))))),?_⟩
 refine ⟨_,rfl,_,rfl,_,_,rfl,rfl,_,_,rfl,rfl,?_⟩
 have e:Builtin.bitAnd (y:Int) (Builtin.bitXor (z:Int) 18446744073709551615)=((y&&&(2^64-1-z):Nat):Int):=by rw [Uz0 hz,Xm0]
 dsimp only
 rw [e]
 have hl:(y&&&(2^64-1-z))<2^64:=Nat.lt_of_le_of_lt Nat.and_le_left hy
 generalize hL:(y&&&(2^64-1-z))=L at *
 simp only [Zq1,Xw2,tAsg,tC]
 refine Xm1 (fun σ H'=>∃ l c:Nat,σ=[some (.ref d.M),some (iv y),some (iv z),some (iv l),some (iv c)]∧H'=H∧l<2^64∧c+Kg22.ones l=Kg22.ones L) (fun σ _=>match σ with | [_,_,_,some (.int l),_]=>l.toNat | _=>0)
  ⟨L,0,rfl,rfl,hl,by lia⟩ ?_ ?_
 ·rintro σ H' ⟨l,c,rfl,rfl,hl2,hc⟩
  refine ⟨_,rfl,_,rfl,?_⟩
  by_cases l0:l=0
  ·subst l0
   refine ⟨_,rfl,?_⟩
   rw [Vf5,Nat.add_zero] at hc
   rw [hc]
   have q':=q.here R
   unfold Ye0 at q'
   dsimp only at q'
   rw [hL] at q'
   exact q'
  ·have ne:((l:Int) != 0)=true:=bne_iff_ne.mpr (by lia)
   show if ((l:Int) != 0)=true then _ else _
   rw [if_pos ne]
   refine ⟨_,rfl,_,rfl,_,_,rfl,rfl,_,_,rfl,rfl,?_⟩
   have e2:Builtin.bitAnd (l:Int) ((l:Int)-1)=((l&&&(l-1):Nat):Int):=by
    rw [show (l:Int)-1=((l-1:Nat):Int) by lia,Xm0]
   dsimp only
   rw [e2]
   refine ⟨_,rfl,_,_,rfl,rfl,⟨l&&&(l-1),c+1,rfl,rfl,Nat.lt_of_le_of_lt Nat.and_le_left hl2,?_⟩,?_⟩
   ·have:=Yq6 l0 hl2
    lia
   ·show (((l&&&(l-1):Nat):Int)).toNat<((l:Nat):Int).toNat
    rw [Int.toNat_natCast,Int.toNat_natCast]
    exact Zw4 l0
 ·rintro σ H' Q1 Q2 hm ⟨x,e1,k,e2,hq⟩
  exact ⟨x,e1,k,e2,hm _ _ hq⟩
def Wd (b n:Nat):Prop:=(b=8∧n=8)∨(b=16∧n=4)∨(b=32∧n=2)∨(b=64∧n=1)
theorem Wd.rg {b n:Nat} (h:Wd b n):RgC 0 64 (b:Int) n∧64/b=n∧b*n=64∧b≤64:=by
 rcases h with ⟨rfl,rfl⟩ | ⟨rfl,rfl⟩ | ⟨rfl,rfl⟩ | ⟨rfl,rfl⟩ <;> exact ⟨⟨by decide,by decide,by decide,by decide⟩,by decide,by decide,by decide⟩
theorem Jd7 (a c:Nat):(if (0:Int) > (a:Int)-(c:Int) then (0:Int) else (a:Int)-(c:Int))=((a-c:Nat):Int):=by split <;> lia
inductive spDif (vs:List V) (H:Hp) (Q:VK) (_:XK):Prop |mk (y z b n:Nat) (_:vs=[iv y,iv z,iv b]) (_:Wd b n) (_:y<2^64) (_:z<2^64) (_:Q (iv (Kg22.dif b y z)) H)
theorem Vg1:Zj0 ["y","z","bits","mask","result","shift","left"] ["y","z","bits"] (Zh0 (top 48)):=by decide +kernel
theorem Vu2 {f:Addr}{fd:FuncData} (F:Fun K "differences" "differences" (top 48) f fd) (T4:Txt4 mg):FnW P w K mg base 1 f fd ["y","z","bits"] spDif:=by
 exists Vg1,(by rintro vs H Q E ⟨y,z,b,n,rfl,_⟩;rfl)
 obtain ⟨y,z,b,n,rfl,hw,hy,hz,q⟩:=h
 have nd:=Vg1.nd
 obtain ⟨rg,hn,hbn,hb⟩:=hw.rg
 refine ⟨_,Zd0 (Zp0 (i:=3) nd rfl (Or.inl rfl) (Zl0 Xe0 (Zl0 Vy0 Zg0 (pv 2)) Zg0)) (Zd0 (Zp0 (i:=4) nd rfl (Or.inl rfl) Zg0)
  (Zd0 (Jx1 PassesOwn.leaving rfl (Xx5 (by rfl) T4.range (Za0 Zg0 (Za0 Zg0 (Za0 (pv 2) Zc0)))) (Jz0 (i:=5) nd rfl (Or.inl rfl))
   (Zd0 (Zp0 (i:=6) nd rfl (Or.inl rfl) (Zl0 Xe0 (Zl0 Yf0 (Zl0 Xf0 (pv 0) (pv 5)) (pv 3)) (Zl0 Yf0 (Zl0 Xf0 (pv 1) (pv 5)) (pv 3))))
   (Ze0 (Jy1 (i:=4) nd rfl (Or.inl rfl) (Zl0 Vy0 (Yl0 (Uu1 rfl) (by rfl) T4.max boot_max (Za0 (pv 6) (Za0 Zg0 Zc0))) (pv 5)) (show PIp _ .BitOr (rI0 fun i j=>.int (Builtin.bitOr i j)) from Up5)))))
  (Ze0 (Zk0 (pv 4))))),?_⟩
 refine ⟨_,rfl,_,_,rfl,rfl,⟨by lia,by lia,by decide⟩,_,_,rfl,rfl,?_⟩
 have k2:(1:Int)*2^((b:Int)).toNat-1=(((2^b-1:Nat)):Int):=by
  have p:=Nat.two_pow_pos b
  rw [Int.toNat_natCast,Int.one_mul,Int.ofNat_sub p]
  norm_cast
 dsimp only
 rw [k2]
 refine ⟨_,rfl,0,64,(b:Int),n,rfl,rg,?_⟩
 refine Jn4 (fun i σ H'=>H'=H∧∃ v5 v6:Option V,σ=[some (iv y),some (iv z),some (iv b),some (iv (2^b-1)),some (iv (Xn2 b y z i)),v5,v6]) ⟨rfl,none,none,rfl⟩ ?_ ?_
 ·rintro i σ H' hi ⟨rfl,v5,v6,rfl⟩
  have hs:b*i≤64:=by
   have:=Nat.mul_le_mul_left b (Nat.le_of_lt hi)
   lia
  have hbi:(0:Int)+(i:Nat)*(b:Int)=((b*i:Nat):Int):=by rw [Int.zero_add,Int.mul_comm,← Int.natCast_mul]
  rw [hbi]
  refine ⟨_,rfl,_,rfl,_,_,rfl,rfl,(by lia:(0:Int)≤((b*i:Nat):Int)),_,rfl,_,_,rfl,rfl,_,rfl,_,rfl,_,_,rfl,rfl,(by lia:(0:Int)≤((b*i:Nat):Int)),_,rfl,_,_,rfl,rfl,_,_,rfl,rfl,?_⟩
  have ey:Builtin.bitAnd ((y:Int)/2^(((b*i:Nat):Int)).toNat) ((2^b-1:Nat):Int)=((y/2^(b*i)%2^b:Nat):Int):=by rw [Int.toNat_natCast,Jr0,Vd0]
  have ez:Builtin.bitAnd ((z:Int)/2^(((b*i:Nat):Int)).toNat) ((2^b-1:Nat):Int)=((z/2^(b*i)%2^b:Nat):Int):=by rw [Int.toNat_natCast,Jr0,Vd0]
  dsimp only
  rw [ey,ez]
  refine ⟨_,rfl,_,rfl,_,_,rfl,?_⟩
  rw [Jd7]
  have hlt:y/2^(b*i)%2^b-z/2^(b*i)%2^b<2^64:=by
   have h1:=Nat.mod_lt (y/2^(b*i)) (Nat.two_pow_pos b)
   have h2:2^b≤2^64:=Nat.pow_le_pow_right (by decide) hb
   lia
  refine ⟨_,rfl,_,_,rfl,rfl,⟨by lia,by lia,by rw [Int.natAbs_natCast];exact hlt⟩,_,_,rfl,rfl,rfl,some (iv (b*i)),some (.int (((y/2^(b*i)%2^b:Nat):Int)-((z/2^(b*i)%2^b:Nat):Int))),?_⟩
  have eo:Builtin.bitOr ((Xn2 b y z i:Nat):Int) (((y/2^(b*i)%2^b-z/2^(b*i)%2^b:Nat):Int)*2^(((b*i:Nat):Int)).toNat)=((Xn2 b y z (i+1):Nat):Int):=by
   have e1:((y/2^(b*i)%2^b-z/2^(b*i)%2^b:Nat):Int)*2^(((b*i:Nat):Int)).toNat=(((y/2^(b*i)%2^b-z/2^(b*i)%2^b)*2^(b*i):Nat):Int):=by
    rw [Int.toNat_natCast,Int.natCast_mul,Int.natCast_pow];rfl
   rw [e1,Yv0,Vb6]
  rw [eo]
  rfl
 ·rintro σ H' ⟨rfl,v5,v6,rfl⟩
  refine ⟨_,rfl,?_⟩
  rw [Jl6,hn] at q
  exact q
variable (P w K mg base) in abbrev gDif:=FG P w K mg base "differences" 1 ["y","z","bits"] spDif
theorem Xb7:Zj0 ["machine","y","z"] ["machine","y","z"] (Zh0 (top 49)):=by decide +kernel
theorem Uq7 {f C:Addr}{fd:FuncData} (F:Fun K "bdif" "bdif" (top 49) f fd) (g:gDif P w K mg base):FnW P w K mg base 2 f fd ["machine","y","z"] (Ja0 C (Ye0 fun y z=>Kg22.dif 8 y z)):=by
 exists Xb7,Zy0
 obtain ⟨d,m,b,y,z,rfl,R,hy,hz,q⟩:=h
 refine ⟨_,Ze0 (Zk0 (Zb0 g hr Zf0 (Za0 (pv 1) (Za0 (pv 2) (Za0 Zg0 Zc0))))),?_⟩
 exact ⟨_,rfl,_,rfl,y,z,8,_,rfl,.inl ⟨rfl,rfl⟩,hy,hz,q.here R⟩
theorem Ye7:Zj0 ["machine","y","z"] ["machine","y","z"] (Zh0 (top 50)):=by decide +kernel
theorem Vh7 {f C:Addr}{fd:FuncData} (F:Fun K "wdif" "wdif" (top 50) f fd) (g:gDif P w K mg base):FnW P w K mg base 2 f fd ["machine","y","z"] (Ja0 C (Ye0 fun y z=>Kg22.dif 16 y z)):=by
 exists Ye7,Zy0
 obtain ⟨d,m,b,y,z,rfl,R,hy,hz,q⟩:=h
 refine ⟨_,Ze0 (Zk0 (Zb0 g hr Zf0 (Za0 (pv 1) (Za0 (pv 2) (Za0 Zg0 Zc0))))),?_⟩
 exact ⟨_,rfl,_,rfl,y,z,16,_,rfl,.inr (.inl ⟨rfl,rfl⟩),hy,hz,q.here R⟩
theorem Yg7:Zj0 ["machine","y","z"] ["machine","y","z"] (Zh0 (top 51)):=by decide +kernel
theorem Vj7 {f C:Addr}{fd:FuncData} (F:Fun K "tdif" "tdif" (top 51) f fd) (g:gDif P w K mg base):FnW P w K mg base 2 f fd ["machine","y","z"] (Ja0 C (Ye0 fun y z=>Kg22.dif 32 y z)):=by
 exists Yg7,Zy0
 obtain ⟨d,m,b,y,z,rfl,R,hy,hz,q⟩:=h
 refine ⟨_,Ze0 (Zk0 (Zb0 g hr Zf0 (Za0 (pv 1) (Za0 (pv 2) (Za0 Zg0 Zc0))))),?_⟩
 exact ⟨_,rfl,_,rfl,y,z,32,_,rfl,.inr (.inr (.inl ⟨rfl,rfl⟩)),hy,hz,q.here R⟩
theorem Ym7:Zj0 ["machine","y","z"] ["machine","y","z"] (Zh0 (top 52)):=by decide +kernel
theorem Vs7 {f C:Addr}{fd:FuncData} (F:Fun K "odif" "odif" (top 52) f fd) (g:gDif P w K mg base):FnW P w K mg base 2 f fd ["machine","y","z"] (Ja0 C (Ye0 fun y z=>Kg22.dif 64 y z)):=by
 exists Ym7,Zy0
 obtain ⟨d,m,b,y,z,rfl,R,hy,hz,q⟩:=h
 refine ⟨_,Ze0 (Zk0 (Zb0 g hr Zf0 (Za0 (pv 1) (Za0 (pv 2) (Za0 Zg0 Zc0))))),?_⟩
 exact ⟨_,rfl,_,rfl,y,z,64,_,rfl,.inr (.inr (.inr ⟨rfl,rfl⟩)),hy,hz,q.here R⟩
theorem Ur6:Zj0 ["machine","word","far"] ["machine","word"] (Zh0 (top 37)):=by decide +kernel
theorem ok_far {f C:Addr}{fd:FuncData} (F:Fun K "far_target" "far_target" (top 37) f fd) (T:Txt K mg C) (T2:Zx1 mg) (go:FG P w K mg base "is_odd" 1 ["word"] (spW fun n=>.bl (decide (opW n%2=1)))):FnW P w K mg base 2 f fd ["machine","word"] (Ze1 C fun m n=>iv (Jt7 m.pc n)):=by
 exists Ur6,Zr1
 obtain ⟨d,m,b,n,rfl,R,hn,q⟩:=h
 have nd:=Ur6.nd
 refine ⟨_,Zd0 (Zp0 (i:=2) nd rfl (Or.inl rfl) (Zl0 Yf0 (pv 1) Zg0))
  (Zd0 (Yb0 (Zs0 (Zb0 go hr Zf0 (Za0 (pv 1) Zc0)) (fun _=>rfl)) (Ze0 (Jy1 (i:=2) nd rfl (Or.inl rfl) Zg0 Jb6)) Zq0)
  (Ze0 (Zk0 (Zl0 Yf0 (Zl0 Yy0 (Yh0 (pv 0) rfl) (Zl0 Vq0 Zg0 (pv 2))) (Zo0 T2.mask))))),?_⟩
 have hpc:=R.wf.pc
 refine ⟨_,rfl,_,_,rfl,rfl,?_⟩
 have e0:Builtin.bitAnd (n:Int) 16777215=((n%2^24:Nat):Int):=Vd0 n 24
 dsimp only
 rw [e0]
 refine ⟨_,rfl,n,rfl,hn,_,rfl,?_⟩
 unfold Jt7 at q
 refine Xb0 (fun hc=>?_) (fun hc=>?_)
 ·rw [if_pos (of_decide_eq_true hc)] at q
  refine ⟨_,rfl,_,_,rfl,rfl,_,rfl,d.M,C,d.dx,_,_,rfl,R.obj,T.cl,T.nPla,rfl,_,rfl,_,_,rfl,rfl,.inl ⟨by decide,by decide⟩,_,_,rfl,rfl,_,_,rfl,rfl,?_⟩
  dsimp only
  rw [Yc0]
  have e:((m.pc:Int)+4*(((n%2^24:Nat):Int)-16777216))%18446744073709551616=(((m.pc+4*(n%2^24)+(2^64-4*2^24))%2^64:Nat):Int):=by lia
  rw [e];exact q
 ·rw [if_neg (fun z=>hc (decide_eq_true z))] at q
  refine ⟨_,rfl,d.M,C,d.dx,_,_,rfl,R.obj,T.cl,T.nPla,rfl,_,rfl,_,_,rfl,rfl,.inl ⟨by decide,by decide⟩,_,_,rfl,rfl,_,_,rfl,rfl,?_⟩
  dsimp only
  rw [Yc0]
  have e:((m.pc:Int)+4*((n%2^24:Nat):Int))%18446744073709551616=(((m.pc+4*(n%2^24)+0)%2^64:Nat):Int):=by lia
  rw [e];exact q
def soW (k n:Nat):Bool:=if k=0 then decide (2^63≤n) else if k=1 then decide (n=0) else if k=2 then (decide (n≠0) && decide (n<2^63)) else decide (n%2=1)
inductive Uh6 (vs:List V) (H:Hp) (Q:VK) (_:XK):Prop |mk (n k:Nat) (_:vs=[iv n,iv k]) (_:n<2^64) (_:k<4) (_:Q (.bl (soW k n)) H)
theorem Yb6:Zj0 ["value","question"] ["value","question"] (Zh0 (top 61)):=by decide +kernel
theorem Xn4 (a:Int) (b:Int):decide (V.int a=V.int b)=decide (a=b):=by
 rw [Yc3];rfl
theorem Vn0 (a:Nat) (b:Nat):decide (V.int (a:Int)=V.int (b:Int))=decide (a=b):=by
 rw [Xn4]
 by_cases h:a=b
 ·rw [decide_eq_true h,decide_eq_true (by rw [h])]
 ·rw [decide_eq_false h,decide_eq_false (by lia)]
theorem Yy6 {f:Addr}{fd:FuncData} (F:Fun K "is_so" "is_so" (top 61) f fd):FnW P w K mg base 1 f fd ["value","question"] Uh6:=by
 exists Yb6,(by rintro vs H Q E ⟨n,b,rfl,_⟩;rfl)
 obtain ⟨n,k,rfl,hn,hk,q⟩:=h
 refine ⟨_,Zd0 (Yb0 (Zt0 Xj0 (pv 1) Zg0 (Zv0 _)) (Ze0 (Zk0 (Xy0 Xj0 (Zl0 Xf0 (pv 0) Zg0) Zg0 (Zv0 _)))) Zq0)
  (Zd0 (Yb0 (Zt0 Xj0 (pv 1) Zg0 (Zv0 _)) (Ze0 (Zk0 (Xy0 Xj0 (pv 0) Zg0 (Zv0 _)))) Zq0)
  (Zd0 (Yb0 (Zt0 Xj0 (pv 1) Zg0 (Zv0 _)) (Ze0 (Zk0 (Xz5 (Xy0 Vd5 (pv 0) Zg0 (Zv0 _)) (Uv2 (Xy0 Xj0 (Zl0 Xf0 (pv 0) Zg0) Zg0 (Zv0 _)))))) Zq0)
  (Ze0 (Zk0 (Xy0 Xj0 (Zl0 Yf0 (pv 0) Zg0) Zg0 (Zv0 _)))))),?_⟩
 have s63:((n:Int)/2^(63:Int).toNat)=((n/2^63:Nat):Int):=Uc0 n rfl
 unfold soW at q
 refine ⟨_,rfl,rfl,_,rfl,?_⟩
 rw [show (V.int 0)=V.int ((0:Nat):Int) from rfl,Vn0]
 refine Xb0 (fun hc=>?_) (fun hc=>?_)
 ·rw [if_pos (of_decide_eq_true hc)] at q
  refine ⟨_,rfl,_,_,rfl,rfl,(by decide:(0:Int)≤63),rfl,?_⟩
  have e:decide (V.int ((n:Int)/2^(63:Int).toNat)=V.int 1)=decide (2^63≤n):=by
   rw [s63,show (V.int 1)=V.int ((1:Nat):Int) from rfl,Vn0]
   by_cases z:2^63≤n
   ·rw [decide_eq_true z,decide_eq_true (by lia)]
   ·rw [decide_eq_false z,decide_eq_false (by lia)]
  show Q (.bl (decide (V.int ((n:Int)/2^(63:Int).toNat)=V.int 1))) H
  rw [e];exact q
 ·rw [if_neg (fun z=>hc (decide_eq_true z))] at q
  refine ⟨_,rfl,rfl,_,rfl,?_⟩
  rw [show (V.int 1)=V.int ((1:Nat):Int) from rfl,Vn0]
  refine Xb0 (fun hc=>?_) (fun hc=>?_)
  ·rw [if_pos (of_decide_eq_true hc)] at q
   refine ⟨_,rfl,rfl,?_⟩
   show Q (.bl (decide (V.int (n:Int)=V.int ((0:Nat):Int)))) H
   rw [Vn0];exact q
  ·rw [if_neg (fun z=>hc (decide_eq_true z))] at q
   refine ⟨_,rfl,rfl,_,rfl,?_⟩
   rw [show (V.int 2)=V.int ((2:Nat):Int) from rfl,Vn0]
   refine Xb0 (fun hc=>?_) (fun hc=>?_)
   ·rw [if_pos (of_decide_eq_true hc)] at q
    refine ⟨_,rfl,rfl,_,rfl,?_⟩
    rw [Vn0]
    by_cases z:n=0
    ·rw [decide_eq_true z]
     have e2:(decide (n≠0) && decide (n<2^63))=false:=by rw [z];rfl
     rw [e2] at q
     exact q
    ·rw [decide_eq_false z]
     have e2:(decide (n≠0) && decide (n<2^63))=decide (n<2^63):=by rw [decide_eq_true (show n≠0 from z)];rfl
     rw [e2] at q
     refine ⟨_,rfl,_,_,rfl,rfl,(by decide:(0:Int)≤63),rfl,?_⟩
     have e:decide (V.int ((n:Int)/2^(63:Int).toNat)=V.int ((0:Nat):Int))=decide (n<2^63):=by
      rw [s63,Vn0]
      by_cases y:n<2^63
      ·rw [decide_eq_true y,decide_eq_true (by lia)]
      ·rw [decide_eq_false y,decide_eq_false (by lia)]
     show Q (.bl (decide (V.int ((n:Int)/2^(63:Int).toNat)=V.int ((0:Nat):Int)))) H
     rw [e];exact q
   ·rw [if_neg (fun z=>hc (decide_eq_true z))] at q
    refine ⟨_,rfl,_,_,rfl,rfl,rfl,?_⟩
    have e:decide (V.int (Builtin.bitAnd (n:Int) 1)=V.int 1)=decide (n%2=1):=by
     rw [bitAnd_m1,show ((n:Int)%2)=((n%2:Nat):Int) from rfl,show (V.int 1)=V.int ((1:Nat):Int) from rfl,Vn0]
    show Q (.bl (decide (V.int (Builtin.bitAnd (n:Int) 1)=V.int 1))) H
    rw [e];exact q
theorem Um2 {x:Nat} (h:x<2^64):decide (KN 64 x<0)=decide (2^63≤x):=by
 rw [Jv0 h]
 by_cases z:x<2^63
 ·rw [if_pos z,decide_eq_false (by lia),decide_eq_false (by lia)]
 ·rw [if_neg z,decide_eq_true (by lia),decide_eq_true (by lia)]
theorem Ul2 {x:Nat} (h:x<2^64):decide (0<KN 64 x)=(decide (x≠0) && decide (x<2^63)):=by
 rw [Jv0 h]
 by_cases z:x<2^63
 ·rw [if_pos z,decide_eq_true z,Bool.and_true]
  by_cases y:x=0
  ·rw [decide_eq_false (by lia),decide_eq_false (by lia)]
  ·rw [decide_eq_true (by lia),decide_eq_true y]
 ·rw [if_neg z,decide_eq_false z,Bool.and_false,decide_eq_false (by lia)]
theorem Zb8 {c x:Nat} (hc:c<8) (hx:x<2^64):Kg22.cond c x=if 4≤c then !soW (c-4) x else soW c x:=by
 have h:c=0∨c=1∨c=2∨c=3∨c=4∨c=5∨c=6∨c=7:=by lia
 have e0:(x == 0)=decide (x=0):=rfl
 have e1:(x%2 == 1)=decide (x%2=1):=rfl
 unfold Kg22.cond
 rcases h with rfl | rfl | rfl | rfl | rfl | rfl | rfl | rfl
 ·show (decide (KN 64 x<0) != false)=decide (2^63≤x)
  rw [Um2 hx];cases decide (2^63≤x) <;> rfl
 ·show (decide (x=0) != false)=decide (x=0)
  cases decide (x=0) <;> rfl
 ·show (decide (0<KN 64 x) != false)=(decide (x≠0) && decide (x<2^63))
  rw [Ul2 hx];cases (decide (x≠0) && decide (x<2^63)) <;> rfl
 ·show (decide (x%2=1) != false)=decide (x%2=1)
  cases decide (x%2=1) <;> rfl
 ·show (decide (KN 64 x<0) != true) = !decide (2^63≤x)
  rw [Um2 hx];cases decide (2^63≤x) <;> rfl
 ·show (decide (x=0) != true) = !decide (x=0)
  cases decide (x=0) <;> rfl
 ·show (decide (0<KN 64 x) != true) = !(decide (x≠0) && decide (x<2^63))
  rw [Ul2 hx];cases (decide (x≠0) && decide (x<2^63)) <;> rfl
 ·show (decide (x%2=1) != true) = !decide (x%2=1)
  cases decide (x%2=1) <;> rfl
abbrev cW (n:Nat):Nat:=opW n/2%8
inductive Uy3 (vs:List V) (H:Hp) (Q:VK) (_:XK):Prop |mk (n v:Nat) (_:vs=[iv n,iv v]) (_:n<2^32) (_:v<2^64) (_:Q (.bl (Kg22.cond (cW n) v)) H)
theorem Yl4:Zj0 ["word","value","question"] ["word","value"] (Zh0 (top 62)):=by decide +kernel
theorem Yz6 {f:Addr}{fd:FuncData} (F:Fun K "holds" "holds" (top 62) f fd) (go:FG P w K mg base "op_of" 1 ["word"] (spW fun n=>iv (opW n))) (gs:FG P w K mg base "is_so" 1 ["value","question"] Uh6):FnW P w K mg base 2 f fd ["word","value"] Uy3:=by
 exists Yl4,(by rintro vs H Q E ⟨n,b,rfl,_⟩;rfl)
 obtain ⟨n,v,rfl,hn,hv,q⟩:=h
 refine ⟨_,Zd0 (Zp0 (i:=2) Yl4.nd rfl (Or.inl rfl) (Zl0 Yf0 (Zl0 Xf0 (Zb0 go hr Zf0 (Za0 (pv 0) Zc0)) Zg0) Zg0))
  (Zd0 (Yb0 (Zt0 Zh3 (pv 2) Zg0 (Zv0 _)) (Ze0 (Zk0 (pe_not (Zb0 gs hr Zf0 (Za0 (pv 1) (Za0 (Zl0 Xe0 (pv 2) Zg0) Zc0)))))) Zq0)
  (Ze0 (Zk0 (Zb0 gs hr Zf0 (Za0 (pv 1) (Za0 (pv 2) Zc0)))))),?_⟩
 refine ⟨_,rfl,n,rfl,hn,_,_,rfl,rfl,(by decide:(0:Int)≤1),_,_,rfl,rfl,?_⟩
 have e:Builtin.bitAnd (((opW n:Nat):Int)/2^(1:Int).toNat) 7=((cW n:Nat):Int):=by
  rw [Uc0 (opW n) (k:=1) rfl,bitAnd_m3];rfl
 dsimp only
 rw [e]
 have hc:cW n<8:=Nat.mod_lt _ (by decide)
 rw [Zb8 hc hv] at q
 refine ⟨_,rfl,_,_,rfl,rfl,_,rfl,?_⟩
 generalize cW n=c at *
 refine Xb0 (fun hd=>?_) (fun hd=>?_)
 ·have hd':4≤c:=by have:=of_decide_eq_true hd;lia
  rw [if_pos hd'] at q
  refine ⟨_,rfl,_,rfl,_,_,rfl,rfl,v,c-4,?_,hv,by lia,_,rfl,q⟩
  show [V.int (v:Int),V.int ((c:Int)-4)]=[iv v,iv (c-4)]
  rw [show (c:Int)-4=((c-4:Nat):Int) by lia]
 ·have hd':¬ 4≤c:=fun z=>hd (decide_eq_true (by lia))
  rw [if_neg hd'] at q
  exact ⟨_,rfl,_,rfl,v,c,rfl,hv,by lia,q⟩
inductive Xc0 (C:Addr) (fc:Nat→Addr) (ops:Nat→Prop) (vs:List V) (H:Hp) (Q:VK) (E:XK):Prop |mk (d:Ad) (m:KM) (n:Nat) (_:vs=[.ref d.M,iv n]) (_:Rep C H d m ((m.pc+4)%2^64)) (_:n<2^32) (_:KI m m.pc 4=.ok n) (_:ops (opW n)) (_:∀ r,KG m=.ok (r,0)→∀ (m':KM) (b':Nat),{ m' with pc:=b' }=r→m'.pc=m.pc→Ub0 C H d m' b' (Q .non)) (_:∀ e,KG m=.error e→∀ H',Jf0 H H'→E (.ref (fc e)) none H')
theorem Ya0 {C:Addr}{fc:Nat→Addr}{ops:Nat→Prop}:∀ vs H Q E,Xc0 C fc ops vs H Q E→vs.length=2:=by rintro vs H Q E ⟨d,m,n,rfl,_⟩;rfl
theorem Xo0 (n:Nat) {α:Type} (a b:α):(if (n%2 == 1)=true then a else b)=if n%2=1 then a else b:=by
 by_cases h:n%2=1
 ·rw [if_pos h,if_pos (beq_iff_eq.mpr h)]
 ·rw [if_neg h,if_neg (fun z=>h (beq_iff_eq.mp z))]
theorem Jz4 (n:Nat):256*(n/256%256)+n%256=n%65536:=by lia
theorem Uv3 {m:KM}{n:Nat} (hl:KI m m.pc 4=.ok n) (h1:64≤opW n) (h2:opW n<96) :
  KG m=.ok (if Kg22.cond (cW n) (KS m (xW n))=true then { m with pc:=Vt1 m.pc n } else { m with pc:=(m.pc+4)%2^64 },0):=by
 unfold KG
 rw [hl]
 have h1':64≤n/2^24:=h1
 have h2':n/2^24<96:=h2
 show (if n/2^24=0 then _ else _)=_
 iterate 8 refine (if_neg (by first | exact nl h1' | exact nq h1')).trans ?_
 rw [if_pos h2]
 show Except.ok (if Kg22.cond (cW n) (KS m (xW n))=true then { m with pc:=(m.pc+4*(256*(n/256%256)+n%256)+if (opW n%2 == 1)=true then Kg22.W-4*65536 else 0)%Kg22.W } else { m with pc:=(m.pc+4)%Kg22.W },0)=_
 rw [Jz4,Xo0]
 rfl
theorem Jx2:Zj0 ["machine","word"] ["machine","word"] (Zh0 (top 63)):=by decide +kernel
theorem Zl3 {f C:Addr}{fd:FuncData}{fc:Nat→Addr} (F:Fun K "run_branch" "run_branch" (top 63) f fd) (T:Txt K mg C) (gh:FG P w K mg base "holds" 2 ["word","value"] Uy3) (gV:MG P w K mg base C "value_of" 1 ["self","number"] (Yt1 C))
  (gx:FG P w K mg base "x_of" 1 ["word"] (spW fun n=>iv (xW n))) (gn:FG P w K mg base "near_target" 2 ["machine","word"] (Ze1 C fun m n=>iv (Vt1 m.pc n))):FnW P w K mg base 3 f fd ["machine","word"] (Xc0 C fc fun o=>64≤o∧o<96):=by
 exists Jx2,Ya0
 obtain ⟨d,m,n,rfl,R,hn,hl,ho,q,_⟩:=h
 refine ⟨_,Ze0 (Yb0 (Zs0 (Zb0 gh hr Zf0 (Za0 (pv 1) (Za0 (Zu0 (pv 0) T.cl gV hr Zf0 (Za0 (Zb0 gx hr Zf0 (Za0 (pv 1) Zc0)) Zc0)) Zc0))) (fun _=>rfl))
  (Ze0 (Ue0 (pv 0) (Zb0 gn hr Zf0 (Za0 (pv 0) (Za0 (pv 1) Zc0))) rfl)) Zq0),?_⟩
 rw [Uv3 hl ho.1 ho.2] at q
 have q1:=q _ rfl
 refine ⟨_,rfl,_,rfl,d.M,d.dx,_,rfl,R.obj,rfl,_,rfl,n,rfl,hn,d,m,_,xW n,rfl,R,Nat.mod_lt _ (by decide),n,_,rfl,hn,Vl0 R.wf _,_,rfl,?_⟩
 refine Xb0 (fun hc=>?_) (fun hc=>?_)
 ·rw [if_pos hc] at q1
  have hlt:Vt1 m.pc n<2^64:=Nat.mod_lt _ (by decide)
  refine ⟨_,rfl,_,rfl,d,m,_,n,rfl,R,hn,_,rfl,d.M,C,d.dx,_,rfl,R.obj,T.cl,T.nBeh,(by show 7<1000;decide),?_⟩
  exact q1 m (Vt1 m.pc n) rfl rfl _ d rfl (R.setObj (pc':=m.pc) (b':=Vt1 m.pc n) R.wf hlt) (Vf0.upd (by simp [Ad.own]))
 ·rw [if_neg hc] at q1
  exact q1 m _ rfl rfl _ d rfl R (Vf0.refl _ _)
theorem Ut0 (m:KM) (p k v:Nat):KL { m with pc:=p } k v={ KL m k v with pc:=p }:=by
 unfold KL Kg22.Machine.G
 dsimp only
 split <;> rfl
theorem Jb0 (m:KM) (k v:Nat):(KL m k v).pc=m.pc:=by
 unfold KL
 split <;> rfl
theorem Yg5 {m:KM}{n:Nat} (hl:KI m m.pc 4=.ok n) (h1:96≤opW n) (h2:opW n<112):KG m=.ok (if Kg22.cond (cW n) (KS m (yW n))=true then KL { m with pc:=(m.pc+4)%2^64 } (xW n) (zvW m n) else { m with pc:=(m.pc+4)%2^64 },0):=by
 unfold KG
 rw [hl]
 have h1':96≤n/2^24:=h1
 have h2':n/2^24<112:=h2
 show (if n/2^24=0 then _ else _)=_
 iterate 9 refine (if_neg (by first | exact nl h1' | exact nq h1')).trans ?_
 rw [if_pos (by lia)]
 show Except.ok (if Kg22.cond (cW n) (KS m (yW n))=true then KL { m with pc:=(m.pc+4)%2^64 } (xW n) (if (opW n%2 == 1)=true then n%256 else KS m (n%256)) else { m with pc:=(m.pc+4)%2^64 },0)=_
 rw [Xo0];rfl
theorem Zo5 {m:KM}{n:Nat} (hl:KI m m.pc 4=.ok n) (h1:112≤opW n) (h2:opW n<128):KG m=.ok (KL { m with pc:=(m.pc+4)%2^64 } (xW n) (if Kg22.cond (cW n) (KS m (yW n))=true then zvW m n else 0),0):=by
 unfold KG
 rw [hl]
 have h1':112≤n/2^24:=h1
 have h2':n/2^24<128:=h2
 show (if n/2^24=0 then _ else _)=_
 iterate 10 refine (if_neg (by first | exact nl h1' | exact nq h1')).trans ?_
 rw [if_pos (by lia)]
 show Except.ok (KL { m with pc:=(m.pc+4)%2^64 } (xW n) (if Kg22.cond (cW n) (KS m (yW n))=true then (if (opW n%2 == 1)=true then n%256 else KS m (n%256)) else 0),0)=_
 rw [Xo0];rfl
theorem Zu7 {m:KM}{n:Nat} (hl:KI m m.pc 4=.ok n) (h1:158≤opW n) (h2:opW n<160):KG m=.ok ({ KL { m with pc:=(m.pc+4)%2^64 } (xW n) ((m.pc+4)%2^64) with pc:=Vo0 m n },0):=by
 unfold KG
 rw [hl]
 have h1':158≤n/2^24:=h1
 have h2':n/2^24<160:=h2
 show (if n/2^24=0 then _ else _)=_
 iterate 18 refine (if_neg (by first | exact nl h1' | exact nq h1')).trans ?_
 rw [if_pos (by lia)]
 show Except.ok ({ KL { m with pc:=(m.pc+4)%2^64 } (xW n) ((m.pc+4)%2^64) with pc:=(KS m (yW n)+(if (opW n%2 == 1)=true then n%256 else KS m (n%256)))%2^64 },0)=_
 rw [Xo0];rfl
theorem Zr6 {m:KM}{n:Nat} (hl:KI m m.pc 4=.ok n) (h1:240≤opW n) (h2:opW n<242):KG m=.ok ({ m with pc:=Jt7 m.pc n },0):=by
 unfold KG
 rw [hl]
 have h1':240≤n/2^24:=h1
 have h2':n/2^24<242:=h2
 show (if n/2^24=0 then _ else _)=_
 iterate 28 refine (if_neg (by first | exact nl h1' | exact nq h1')).trans ?_
 rw [if_pos (by lia)]
 show Except.ok ({ m with pc:=(m.pc+4*(n%2^24)+if (opW n%2 == 1)=true then Kg22.W-4*2^24 else 0)%Kg22.W },0)=_
 rw [Xo0];rfl
theorem Ye5 {m:KM}{n:Nat} (hl:KI m m.pc 4=.ok n) (h1:244≤opW n) (h2:opW n<246):KG m=.ok (KL { m with pc:=(m.pc+4)%2^64 } (xW n) (Vt1 m.pc n),0):=by
 unfold KG
 rw [hl]
 have h1':244≤n/2^24:=h1
 have h2':n/2^24<246:=h2
 show (if n/2^24=0 then _ else _)=_
 iterate 30 refine (if_neg (by first | exact nl h1' | exact nq h1')).trans ?_
 rw [if_pos (by lia)]
 show Except.ok (KL { m with pc:=(m.pc+4)%2^64 } (xW n) ((m.pc+4*(256*(n/256%256)+n%256)+if (opW n%2 == 1)=true then Kg22.W-4*65536 else 0)%Kg22.W),0)=_
 rw [Jz4,Xo0];rfl
theorem Zw5 {m:KM}{n:Nat} (hl:KI m m.pc 4=.ok n) (h1:154≤opW n) (h2:opW n<158):KG m=.ok ({ m with pc:=(m.pc+4)%2^64 },0):=by
 unfold KG
 rw [hl]
 have h1':154≤n/2^24:=h1
 have h2':n/2^24<158:=h2
 show (if n/2^24=0 then _ else _)=_
 iterate 17 refine (if_neg (by first | exact nl h1' | exact nq h1')).trans ?_
 rw [if_pos (by lia)]
 show Except.ok ({ m with pc:=(m.pc+4)%2^64 },0)=_
 rfl
theorem Zv5 {m:KM}{n:Nat} (hl:KI m m.pc 4=.ok n) (h1:184≤opW n) (h2:opW n<190):KG m=.ok ({ m with pc:=(m.pc+4)%2^64 },0):=by
 unfold KG
 rw [hl]
 have h1':184≤n/2^24:=h1
 have h2':n/2^24<190:=h2
 show (if n/2^24=0 then _ else _)=_
 iterate 24 refine (if_neg (by first | exact nl h1' | exact nq h1')).trans ?_
 rw [if_pos (by lia)]
 show Except.ok ({ m with pc:=(m.pc+4)%2^64 },0)=_
 rfl
theorem Zu5 {m:KM}{n:Nat} (hl:KI m m.pc 4=.ok n) (h1:252≤opW n) (h2:opW n<254):KG m=.ok ({ m with pc:=(m.pc+4)%2^64 },0):=by
 unfold KG
 rw [hl]
 have h1':252≤n/2^24:=h1
 have h2':n/2^24<254:=h2
 show (if n/2^24=0 then _ else _)=_
 iterate 34 refine (if_neg (by first | exact nl h1' | exact nq h1')).trans ?_
 rw [if_pos (by lia)]
 show Except.ok ({ m with pc:=(m.pc+4)%2^64 },0)=_
 rfl
variable (P w K mg base) in abbrev gGive (C:Addr):=MG P w K mg base C "give" 2 ["self","number","value"] (Uk6 C)
variable (P w K mg base) in abbrev gX:=FG P w K mg base "x_of" 1 ["word"] (spW fun n=>iv (xW n))
variable (P w K mg base) in abbrev gFirst (C:Addr):=FG P w K mg base "first_value" 2 ["machine","word"] (Ze1 C fun m n=>iv (KS m (yW n)))
variable (P w K mg base) in abbrev gSecond (C:Addr):=FG P w K mg base "second_value" 2 ["machine","word"] (Ze1 C fun m n=>iv (zvW m n))
variable (P w K mg base) in abbrev gHolds:=FG P w K mg base "holds" 2 ["word","value"] Uy3
variable (P w K mg base) in abbrev gNear (C:Addr):=FG P w K mg base "near_target" 2 ["machine","word"] (Ze1 C fun m n=>iv (Vt1 m.pc n))
theorem Vv0 (n:Nat):xW n<256:=Nat.mod_lt _ (by decide)
def sc2 (i:Nat):Prop:=Zj0 ["machine","word"] ["machine","word"] (Zh0 (top i))
instance {i:Nat}:Decidable (sc2 i):=inferInstanceAs (Decidable (Zj0 _ _ _))
theorem Xa7:sc2 64:=by decide +kernel
theorem Up7 {f C:Addr}{fd:FuncData}{fc:Nat→Addr} (F:Fun K "run_conditional_set" "run_conditional_set" (top 64) f fd) (T:Txt K mg C) (gh:gHolds P w K mg base) (gf:gFirst P w K mg base C) (gs:gSecond P w K mg base C) (gg:gGive P w K mg base C) (gx:gX P w K mg base) :
  FnW P w K mg base 3 f fd ["machine","word"] (Xc0 C fc fun o=>96≤o∧o<112):=by
 exists Xa7,Ya0
 obtain ⟨d,m,n,rfl,R,hn,hl,ho,q,_⟩:=h
 refine ⟨_,Ze0 (Yb0 (Zs0 (Zb0 gh hr Zf0 (Za0 (pv 1) (Za0 (Zb0 gf hr Zf0 (Za0 (pv 0) (Za0 (pv 1) Zc0))) Zc0))) (fun _=>rfl))
  (Ze0 (Zx0 (Zu0 (pv 0) T.cl gg hr Zf0 (Za0 (Zb0 gx hr Zf0 (Za0 (pv 1) Zc0)) (Za0 (Zb0 gs hr Zf0 (Za0 (pv 0) (Za0 (pv 1) Zc0))) Zc0))))) Zq0),?_⟩
 rw [Yg5 hl ho.1 ho.2] at q
 have q1:=q _ rfl
 refine ⟨_,rfl,_,rfl,_,rfl,d,m,_,n,rfl,R,hn,n,_,rfl,hn,Vl0 R.wf _,_,rfl,?_⟩
 refine Xb0 (fun hc=>?_) (fun hc=>?_)
 ·rw [if_pos hc] at q1
  refine ⟨_,rfl,d.M,d.dx,_,rfl,R.obj,rfl,_,rfl,n,rfl,hn,_,rfl,_,rfl,d,m,_,n,rfl,R,hn,d,m,_,xW n,zvW m n,rfl,R,Vv0 n,Xz1 R.wf n,?_⟩
  exact q1 (KL m (xW n) (zvW m n)) _ (Ut0 m _ _ _).symm (Jb0 m _ _)
 ·rw [if_neg hc] at q1
  exact q1 m _ rfl rfl _ d rfl R (Vf0.refl _ _)
theorem Yr5:Zj0 ["machine","word","so"] ["machine","word"] (Zh0 (top 65)):=by decide +kernel
theorem Vd7 {f C:Addr}{fd:FuncData}{fc:Nat→Addr} (F:Fun K "run_zero_or_set" "run_zero_or_set" (top 65) f fd) (T:Txt K mg C) (gh:gHolds P w K mg base) (gf:gFirst P w K mg base C) (gs:gSecond P w K mg base C) (gg:gGive P w K mg base C) (gx:gX P w K mg base) :
  FnW P w K mg base 3 f fd ["machine","word"] (Xc0 C fc fun o=>112≤o∧o<128):=by
 exists Yr5,Ya0
 obtain ⟨d,m,n,rfl,R,hn,hl,ho,q,_⟩:=h
 refine ⟨_,Zd0 (Zp0 (i:=2) Yr5.nd rfl (Or.inl rfl) (Zb0 gh hr Zf0 (Za0 (pv 1) (Za0 (Zb0 gf hr Zf0 (Za0 (pv 0) (Za0 (pv 1) Zc0))) Zc0))))
  (Ze0 (Zx0 (Zu0 (pv 0) T.cl gg hr Zf0 (Za0 (Zb0 gx hr Zf0 (Za0 (pv 1) Zc0)) (Za0 (Xx0 (Zs0 (pv 2) (fun _=>rfl)) (Zb0 gs hr Zf0 (Za0 (pv 0) (Za0 (pv 1) Zc0))) Zg0) Zc0))))),?_⟩
 rw [Zo5 hl ho.1 ho.2] at q
 have q1:=q _ rfl
 refine ⟨_,rfl,_,rfl,_,rfl,d,m,_,n,rfl,R,hn,n,_,rfl,hn,Vl0 R.wf _,?_⟩
 refine ⟨_,rfl,d.M,d.dx,_,rfl,R.obj,rfl,_,rfl,n,rfl,hn,_,rfl,_,rfl,?_⟩
 refine Xb0 (fun hc=>?_) (fun hc=>?_)
 ·rw [if_pos hc] at q1
  exact ⟨_,rfl,_,rfl,d,m,_,n,rfl,R,hn,d,m,_,xW n,zvW m n,rfl,R,Vv0 n,Xz1 R.wf n,q1 (KL m (xW n) (zvW m n)) _ (Ut0 m _ _ _).symm (Jb0 m _ _)⟩
 ·rw [if_neg hc] at q1
  exact ⟨d,m,_,xW n,0,rfl,R,Vv0 n,by decide,q1 (KL m (xW n) 0) _ (Ut0 m _ _ _).symm (Jb0 m _ _)⟩
theorem Yq7:sc2 143:=by decide +kernel
theorem Ua7 {f C:Addr}{fd:FuncData}{fc:Nat→Addr} (F:Fun K "run_jump" "run_jump" (top 143) f fd) (T:Txt K mg C) (gf:FG P w K mg base "far_target" 2 ["machine","word"] (Ze1 C fun m n=>iv (Jt7 m.pc n))) :
  FnW P w K mg base 3 f fd ["machine","word"] (Xc0 C fc fun o=>240≤o∧o<242):=by
 exists Yq7,Ya0
 obtain ⟨d,m,n,rfl,R,hn,hl,ho,q,_⟩:=h
 refine ⟨_,Ze0 (Ue0 (pv 0) (Zb0 gf hr Zf0 (Za0 (pv 0) (Za0 (pv 1) Zc0))) rfl),?_⟩
 rw [Zr6 hl ho.1 ho.2] at q
 have hlt:Jt7 m.pc n<2^64:=Nat.mod_lt _ (by decide)
 refine ⟨_,rfl,_,rfl,d,m,_,n,rfl,R,hn,_,rfl,d.M,C,d.dx,_,rfl,R.obj,T.cl,T.nBeh,(by show 7<1000;decide),?_⟩
 exact q _ rfl m (Jt7 m.pc n) rfl rfl _ d rfl (R.setObj (pc':=m.pc) (b':=Jt7 m.pc n) R.wf hlt) (Vf0.upd (by simp [Ad.own]))
theorem Ys5:sc2 144:=by decide +kernel
theorem Vg5 {f C:Addr}{fd:FuncData}{fc:Nat→Addr} (F:Fun K "run_target" "run_target" (top 144) f fd) (T:Txt K mg C) (gn:gNear P w K mg base C) (gg:gGive P w K mg base C) (gx:gX P w K mg base) :
  FnW P w K mg base 3 f fd ["machine","word"] (Xc0 C fc fun o=>244≤o∧o<246):=by
 exists Ys5,Ya0
 obtain ⟨d,m,n,rfl,R,hn,hl,ho,q,_⟩:=h
 refine ⟨_,Ze0 (Zx0 (Zu0 (pv 0) T.cl gg hr Zf0 (Za0 (Zb0 gx hr Zf0 (Za0 (pv 1) Zc0)) (Za0 (Zb0 gn hr Zf0 (Za0 (pv 0) (Za0 (pv 1) Zc0))) Zc0)))),?_⟩
 rw [Ye5 hl ho.1 ho.2] at q
 have hlt:Vt1 m.pc n<2^64:=Nat.mod_lt _ (by decide)
 exact ⟨_,rfl,d.M,d.dx,_,rfl,R.obj,rfl,_,rfl,n,rfl,hn,_,rfl,_,rfl,d,m,_,n,rfl,R,hn,d,m,_,xW n,Vt1 m.pc n,rfl,R,Vv0 n,hlt,q _ rfl (KL m (xW n) (Vt1 m.pc n)) _ (Ut0 m _ _ _).symm (Jb0 m _ _)⟩
theorem Vr4:sc2 146:=by decide +kernel
theorem Ur4 {f C:Addr}{fd:FuncData}{fc:Nat→Addr} (F:Fun K "run_nothing" "run_nothing" (top 146) f fd):FnW P w K mg base 1 f fd ["machine","word"] (Xc0 C fc fun o=>(154≤o∧o<158)∨(184≤o∧o<190)∨(252≤o∧o<254)):=by
 exists Vr4,Ya0
 obtain ⟨d,m,n,rfl,R,hn,hl,ho,q,_⟩:=h
 refine ⟨_,Ze0 Xn7,?_⟩
 have e:KG m=.ok ({ m with pc:=(m.pc+4)%2^64 },0):=by
  rcases ho with z | z | z
  ·exact Zw5 hl z.1 z.2
  ·exact Zv5 hl z.1 z.2
  ·exact Zu5 hl z.1 z.2
 exact q _ e m _ rfl rfl _ d rfl R (Vf0.refl _ _)
def Jo6 (m:KM) (n:Nat):Nat :=
 if opW n<228 then n%65536*2^(16*(3-opW n%4)) else if opW n<232 then (KS m (xW n)+n%65536*2^(16*(3-opW n%4)))%2^64
 else if opW n<236 then KS m (xW n)|||n%65536*2^(16*(3-opW n%4)) else KS m (xW n)&&&(2^64-1-n%65536*2^(16*(3-opW n%4)))
theorem Ve4 {m:KM}{n:Nat} (hl:KI m m.pc 4=.ok n) (h1:224≤opW n) (h2:opW n<240):KG m=.ok (KL { m with pc:=(m.pc+4)%2^64 } (xW n) (Jo6 m n),0):=by
 unfold KG
 rw [hl]
 have h1':224≤n/2^24:=h1
 have h2':n/2^24<240:=h2
 show (if n/2^24=0 then _ else _)=_
 iterate 27 refine (if_neg (by first | exact nl h1' | exact nq h1')).trans ?_
 rw [if_pos (by omega)]
 show Except.ok (KL { m with pc:=(m.pc+4)%2^64 } (xW n) (if opW n<228 then (256*(n/256%256)+n%256)*2^(16*(3-opW n%4)) else if opW n<232 then (KS m (xW n)+(256*(n/256%256)+n%256)*2^(16*(3-opW n%4)))%2^64 else if opW n<236 then KS m (xW n)|||(256*(n/256%256)+n%256)*2^(16*(3-opW n%4)) else KS m (xW n)&&&(2^64-1-(256*(n/256%256)+n%256)*2^(16*(3-opW n%4)))),0)=_
 rw [Jz4];rfl
theorem Zs6 {m:KM}{n:Nat} (hl:KI m m.pc 4=.ok n) (h1:254≤opW n) (h2:opW n<255):KG m=(if yW n≠0∨32≤zW n then .error 3 else .ok (KL { m with pc:=(m.pc+4)%2^64 } (xW n) (Kg22.special_ m (zW n)),0)):=by
 unfold KG
 rw [hl]
 have h1':254≤n/2^24:=h1
 have h2':n/2^24<255:=h2
 show (if n/2^24=0 then _ else _)=_
 iterate 35 refine (if_neg (by first | exact nl h1' | exact nq h1')).trans ?_
 rw [if_pos (by omega)]
 show (if yW n≠0∨32≤zW n then _ else _)=_
 rfl
theorem Vg4 {m:KM} (h:WF m) (k:Nat):Kg22.special_ m k<2^64:=by
 unfold Kg22.special_
 split
 ·exact Nat.lt_of_le_of_lt h.len (by decide)
 ·exact h.spe k
variable (P w K mg base) in abbrev gAddr (C:Addr):=FG P w K mg base "address" 3 ["machine","word"] (Ze1 C fun m n=>iv (Vo0 m n))
variable (P w K mg base) in abbrev gOp:=FG P w K mg base "op_of" 1 ["word"] (spW fun n=>iv (opW n))
variable (P w K mg base) in abbrev gYZ:=FG P w K mg base "yz_of" 1 ["word"] (spW fun n=>iv (n%65536))
variable (P w K mg base) in abbrev gY:=FG P w K mg base "y_of" 1 ["word"] (spW fun n=>iv (yW n))
variable (P w K mg base) in abbrev gZ:=FG P w K mg base "z_of" 1 ["word"] (spW fun n=>iv (zW n))
variable (P w K mg base) in abbrev gVal (C:Addr):=MG P w K mg base C "value_of" 1 ["self","number"] (Yt1 C)
theorem Xn0 (m:KM) (n:Nat):Vo0 m n<2^64:=Nat.mod_lt _ (by decide)
theorem Xi3:Zj0 ["machine","word","target"] ["machine","word"] (Zh0 (top 141)):=by decide +kernel
theorem Vl5 {f C:Addr}{fd:FuncData}{fc:Nat→Addr} (F:Fun K "run_go" "run_go" (top 141) f fd) (T:Txt K mg C) (ga:gAddr P w K mg base C) (gg:gGive P w K mg base C) (gx:gX P w K mg base):FnW P w K mg base 4 f fd ["machine","word"] (Xc0 C fc fun o=>158≤o∧o<160):=by
 exists Xi3,Ya0
 obtain ⟨d,m,n,rfl,R,hn,hl,ho,q,_⟩:=h
 refine ⟨_,Zd0 (Zp0 (i:=2) Xi3.nd rfl (Or.inl rfl) (Zb0 ga hr Zf0 (Za0 (pv 0) (Za0 (pv 1) Zc0))))
  (Zd0 (Zx0 (Zu0 (pv 0) T.cl gg hr Zf0 (Za0 (Zb0 gx hr Zf0 (Za0 (pv 1) Zc0)) (Za0 (Yh0 (pv 0) rfl) Zc0))))
  (Ze0 (Ue0 (pv 0) (pv 2) rfl))),?_⟩
 rw [Zu7 hl ho.1 ho.2] at q
 refine ⟨_,rfl,_,rfl,d,m,_,n,rfl,R,hn,?_⟩
 refine ⟨_,rfl,d.M,d.dx,_,rfl,R.obj,rfl,_,rfl,n,rfl,hn,_,rfl,d.M,C,d.dx,_,_,rfl,R.obj,T.cl,T.nBeh,rfl,d,m,_,xW n,(m.pc+4)%2^64,rfl,R,Vv0 n,R.bh,fun H1 d1 e1 R1 k1=>?_⟩
 refine ⟨_,rfl,_,rfl,d1.M,C,d1.dx,_,(by rw [e1]),R1.obj,T.cl,T.nBeh,(by show 7<1000;decide),?_⟩
 have R2:=R1.setObj (pc':=(KL m (xW n) ((m.pc+4)%2^64)).pc) (b':=Vo0 m n) R1.wf (Xn0 m n)
 exact q _ rfl (KL m (xW n) ((m.pc+4)%2^64)) (Vo0 m n) (by simp only [Ut0]) (Jb0 m _ _) _ d1 e1 R2 (k1.trans (Vf0.upd (by simp [Ad.own])))
theorem Vo4:sc2 145:=by decide +kernel
theorem Um4 {f C:Addr}{fd:FuncData}{fc:Nat→Addr} (F:Fun K "run_get" "run_get" (top 145) f fd) (T:Txt K mg C) (x3:ExC K (fc 3)) (m3:mg "NotAllowed" = some (.ref (fc 3))) (gy:gY P w K mg base) (gz:gZ P w K mg base) (gx:gX P w K mg base) (gg:gGive P w K mg base C)
  (gs:MG P w K mg base C "special_of" 1 ["self","number"] (Vm1 C)):FnW P w K mg base 3 f fd ["machine","word"] (Xc0 C fc fun o=>254≤o∧o<255):=by
 exists Vo4,Ya0
 obtain ⟨d,m,n,rfl,R,hn,hl,ho,q,qe'⟩:=h
 have qe:∀ e,KG m=.error e→E (.ref (fc e)) none H:=fun e he=>qe' e he H (Jf0.refl H)
 refine ⟨_,Zd0 (Yb0 (PW.pt (Yz1 (Zt0 Vd5 (Zb0 gy hr Zf0 (Za0 (pv 1) Zc0)) Zg0 (Zv0 _)) (Zi1 (Zt0 Zh3 (Zb0 gz hr Zf0 (Za0 (pv 1) Zc0)) Zg0 (Zv0 _))))) (Ze0 (Uy0 x3 rfl m3)) Zq0)
  (Ze0 (Zx0 (Zu0 (pv 0) T.cl gg hr Zf0 (Za0 (Zb0 gx hr Zf0 (Za0 (pv 1) Zc0)) (Za0 (Zu0 (pv 0) T.cl gs hr Zf0 (Za0 (Zb0 gz hr Zf0 (Za0 (pv 1) Zc0)) Zc0)) Zc0))))),?_⟩
 rw [Zs6 hl ho.1 ho.2] at q qe
 refine ⟨_,rfl,n,rfl,hn,rfl,_,rfl,?_⟩
 rw [show (V.int 0)=V.int ((0:Nat):Int) from rfl,Vn0]
 by_cases h1:yW n=0
 ·rw [decide_eq_true h1]
  refine ⟨_,rfl,n,rfl,hn,_,_,rfl,rfl,_,rfl,?_⟩
  refine Xb0 (fun hc=>?_) (fun hc=>?_)
  ·have hc':32≤zW n:=by have:=of_decide_eq_true hc;omega
   exact qe 3 (if_pos (.inr hc'))
  ·have hc':¬ 32≤zW n:=fun z=>hc (decide_eq_true (by omega))
   have q1:=q _ (if_neg (by rintro (z | z);exact z h1;exact hc' z))
   exact ⟨_,rfl,d.M,d.dx,_,rfl,R.obj,rfl,_,rfl,n,rfl,hn,_,rfl,d.M,d.dx,_,rfl,R.obj,rfl,_,rfl,n,rfl,hn,d,m,_,zW n,rfl,R,by omega,d,m,_,xW n,_,rfl,R,Vv0 n,Vg4 R.wf _,q1 (KL m (xW n) (Kg22.special_ m (zW n))) _ (Ut0 m _ _ _).symm (Jb0 m _ _)⟩
 ·rw [decide_eq_false h1]
  exact qe 3 (if_pos (.inl h1))
theorem Vd6 {n j:Nat} (h:j≤3):n%65536*2^(16*j)<2^64:=by
 have h1:n%65536<2^16:=Nat.mod_lt _ (by decide)
 have h2:2^(16*j)≤2^48:=Nat.pow_le_pow_right (by decide) (by lia)
 calc n%65536*2^(16*j)<2^16*2^(16*j):=Nat.mul_lt_mul_of_pos_right h1 (Nat.two_pow_pos _)
  _≤2^16*2^48:=Nat.mul_le_mul_left _ h2
  _=2^64:=by decide
theorem Xh7 {C:Int→Int→Prop}{g:Int→Int→V}{x y:V}{H:Hp}{Q:VK}{i j:Int} (h:x=.int i) (h2:y=.int j) (c:C i j∧Q (g i j) H):rI C g x y H Q:=⟨i,j,h,h2,c.1,c.2⟩
theorem Yw1:Zj0 ["machine","word","constant","before","work","value"] ["machine","word"] (Zh0 (top 142)):=by decide +kernel
theorem Yu2 {f C:Addr}{fd:FuncData}{fc:Nat→Addr} (F:Fun K "run_constant" "run_constant" (top 142) f fd) (T:Txt K mg C) (T2:Zx1 mg) (gyz:gYZ P w K mg base) (go:gOp P w K mg base) (gV:gVal P w K mg base C) (gg:gGive P w K mg base C) (gx:gX P w K mg base) :
  FnW P w K mg base 3 f fd ["machine","word"] (Xc0 C fc fun o=>224≤o∧o<240):=by
 exists Yw1,Ya0
 obtain ⟨d,m,n,rfl,R,hn,hl,ho,q,_⟩:=h
 have nd:=Yw1.nd
 refine ⟨_,Zd0 (Zp0 (i:=2) nd rfl (Or.inl rfl) (Zl0 Vy0 (Zb0 gyz hr Zf0 (Za0 (pv 1) Zc0)) (Zl0 Xe0 Zg0 (Zl0 Vq0 Zg0 (Zl0 Yf0 (Zb0 go hr Zf0 (Za0 (pv 1) Zc0)) Zg0)))))
  (Zd0 (Zp0 (i:=3) nd rfl (Or.inl rfl) (Zu0 (pv 0) T.cl gV hr Zf0 (Za0 (Zb0 gx hr Zf0 (Za0 (pv 1) Zc0)) Zc0)))
  (Zd0 (Zp0 (i:=4) nd rfl (Or.inl rfl) (Zl0 Yf0 (Zl0 Xf0 (Zb0 go hr Zf0 (Za0 (pv 1) Zc0)) Zg0) Zg0))
  (Zd0 (Yb0 (Zt0 Xj0 (pv 4) Zg0 (Zv0 _)) (Ze0 (Zp0 (i:=5) nd rfl (Or.inl rfl) (pv 2)))
   (Ze0 (Yb0 (Zt0 Xj0 (pv 4) Zg0 (Zv0 _)) (Ze0 (Zp0 (i:=5) nd rfl (Or.inl rfl) (Zl0 Yf0 (Zl0 Yy0 (pv 3) (pv 2)) (Zo0 T2.mask))))
   (Ze0 (Yb0 (Zt0 Xj0 (pv 4) Zg0 (Zv0 _)) (Ze0 (Zp0 (i:=5) nd rfl (Or.inl rfl) (Zl0 Yd1 (pv 3) (pv 2))))
   (Ze0 (Zp0 (i:=5) nd rfl (Or.inl rfl) (Zl0 Yf0 (pv 3) (Zl0 Zt1 (pv 2) (Zo0 T2.mask))))))))))
  (Ze0 (Zx0 (Zu0 (pv 0) T.cl gg hr Zf0 (Za0 (Zb0 gx hr Zf0 (Za0 (pv 1) Zc0)) (Za0 (pv 5) Zc0)))))))),?_⟩
 rw [Ve4 hl ho.1 ho.2] at q
 have q1:=q _ rfl
 refine ⟨_,rfl,n,rfl,hn,_,rfl,n,rfl,hn,_,_,rfl,rfl,_,_,rfl,rfl,.inl ⟨by decide,by decide⟩,_,_,rfl,rfl,Xh7 rfl rfl ?_⟩
 have k1:(48:Int)-16*Builtin.bitAnd ((opW n:Nat):Int) 3=((16*(3-opW n%4):Nat):Int):=by
  rw [bitAnd_m2];lia
 rw [k1]
 have hv:=Vl0 R.wf (xW n)
 have hc:=Vd6 (n:=n) (j:=3-opW n%4) (by lia)
 refine ⟨⟨by lia,by lia,by lia⟩,?_⟩
 have k2:(((n%65536:Nat):Int))*2^(((16*(3-opW n%4):Nat):Int)).toNat=((n%65536*2^(16*(3-opW n%4)):Nat):Int):=by
  rw [Int.toNat_natCast,Int.natCast_mul,Int.natCast_pow];rfl
 rw [k2]
 unfold Jo6 at q1
 generalize n%65536*2^(16*(3-opW n%4))=c at *
 refine ⟨_,rfl,d.M,d.dx,_,rfl,R.obj,rfl,_,rfl,n,rfl,hn,d,m,_,xW n,rfl,R,Vv0 n,?_⟩
 refine ⟨_,rfl,n,rfl,hn,_,_,rfl,rfl,(by decide:(0:Int)≤2),_,_,rfl,rfl,?_⟩
 have k3:Builtin.bitAnd (((opW n:Nat):Int)/2^(2:Int).toNat) 3=((opW n/4%4:Nat):Int):=by
  rw [Uc0 (opW n) (k:=2) rfl,bitAnd_m2];rfl
 dsimp only
 rw [k3]
 have fin:∀ v:Nat,v<2^64→(KL { m with pc:=(m.pc+4)%2^64 } (xW n) v=KL { m with pc:=(m.pc+4)%2^64 } (xW n) (if opW n<228 then c else if opW n<232 then (KS m (xW n)+c)%2^64 else if opW n<236 then KS m (xW n)|||c else KS m (xW n)&&&(2^64-1-c))) →
   Ub0 C H d (KL m (xW n) v) ((m.pc+4)%2^64) (Q .non):=fun v hv e=>by
  rw [← e] at q1
  exact q1 (KL m (xW n) v) _ (Ut0 m _ _ _).symm (Jb0 m _ _)
 refine ⟨_,rfl,rfl,_,rfl,?_⟩
 rw [show (V.int 0)=V.int ((0:Nat):Int) from rfl,Vn0]
 refine Xb0 (fun h=>?_) (fun h=>?_)
 ·have h':=of_decide_eq_true h
  exact ⟨_,rfl,_,rfl,d.M,d.dx,_,rfl,R.obj,rfl,_,rfl,n,rfl,hn,_,rfl,d,m,_,xW n,c,rfl,R,Vv0 n,hc,fin c hc (by rw [if_pos (by lia)])⟩
 ·have h0:¬ opW n/4%4=0:=fun z=>h (decide_eq_true z)
  refine ⟨_,rfl,rfl,_,rfl,?_⟩
  rw [show (V.int 1)=V.int ((1:Nat):Int) from rfl,Vn0]
  refine Xb0 (fun h=>?_) (fun h=>?_)
  ·have h':=of_decide_eq_true h
   refine ⟨_,rfl,_,rfl,_,_,rfl,rfl,_,_,rfl,rfl,?_⟩
   have e:Builtin.bitAnd (((KS m (xW n):Nat):Int)+(c:Int)) 18446744073709551615=(((KS m (xW n)+c)%2^64:Nat):Int):=by rw [Yc0];lia
   dsimp only
   rw [e]
   have hlt:(KS m (xW n)+c)%2^64<2^64:=Nat.mod_lt _ (by decide)
   exact ⟨_,rfl,d.M,d.dx,_,rfl,R.obj,rfl,_,rfl,n,rfl,hn,_,rfl,d,m,_,xW n,_,rfl,R,Vv0 n,hlt,fin _ hlt (by rw [if_neg (by lia),if_pos (by lia)])⟩
  ·have h1:¬ opW n/4%4=1:=fun z=>h (decide_eq_true z)
   refine ⟨_,rfl,rfl,_,rfl,?_⟩
   rw [show (V.int 2)=V.int ((2:Nat):Int) from rfl,Vn0]
   refine Xb0 (fun h=>?_) (fun h=>?_)
   ·have h':=of_decide_eq_true h
    refine ⟨_,rfl,_,rfl,_,_,rfl,rfl,?_⟩
    dsimp only
    rw [Yv0]
    have hlt:(KS m (xW n)|||c)<2^64:=Nat.or_lt_two_pow hv hc
    exact ⟨_,rfl,d.M,d.dx,_,rfl,R.obj,rfl,_,rfl,n,rfl,hn,_,rfl,d,m,_,xW n,_,rfl,R,Vv0 n,hlt,fin _ hlt (by rw [if_neg (by lia),if_neg (by lia),if_pos (by lia)])⟩
   ·have h2:¬ opW n/4%4=2:=fun z=>h (decide_eq_true z)
    refine ⟨_,rfl,_,rfl,_,_,rfl,rfl,_,_,rfl,rfl,?_⟩
    dsimp only
    rw [Uz0 hc,Xm0]
    have hlt:(KS m (xW n)&&&(2^64-1-c))<2^64:=Nat.lt_of_le_of_lt Nat.and_le_left hv
    exact ⟨_,rfl,d.M,d.dx,_,rfl,R.obj,rfl,_,rfl,n,rfl,hn,_,rfl,d,m,_,xW n,_,rfl,R,Vv0 n,hlt,fin _ hlt (by rw [if_neg (by lia),if_neg (by lia),if_neg (by lia)])⟩
structure Txt5 (mg:Str→Option Value):Prop where
 low:∃ t,mg "LOW_BITS" = some (.int 72340172838076673 t)
inductive Yc4 (vs:List V) (H:Hp) (Q:VK) (_:XK):Prop |mk (y z k:Nat) (_:vs=[iv y,iv z,iv k]) (_:y<2^64) (_:z<2^64) (_:k<8) (_:Q (iv (Jq2 y z k)) H)
theorem Yu5:Zj0 ["y","z","k"] ["y","z","k"] (Zh0 (top 55)):=by decide +kernel
theorem Vh5 {f:Addr}{fd:FuncData} (F:Fun K "spread" "spread" (top 55) f fd) (T5:Txt5 mg):FnW P w K mg base 1 f fd ["y","z","k"] Yc4:=by
 exists Yu5,(by rintro vs H Q E ⟨y,z,k,rfl,_⟩;rfl)
 obtain ⟨y,z,k,rfl,hy,hz,hk,q⟩:=h
 refine ⟨_,Ze0 (Zk0 (Zl0 Vq0 (Zl0 Yf0 (Zl0 Xf0 (pv 1) (pv 2)) (Zo0 T5.low)) (Zl0 Yf0 (Zl0 Xf0 (pv 0) (Zl0 Vq0 Zg0 (pv 2))) Zg0))),?_⟩
 refine ⟨_,rfl,_,rfl,_,_,rfl,rfl,(by lia:(0:Int)≤(k:Int)),_,_,rfl,rfl,_,rfl,_,rfl,_,_,rfl,rfl,.inl ⟨by decide,by decide⟩,_,_,rfl,rfl,(by lia:(0:Int)≤8*(k:Int)),_,_,rfl,rfl,?_⟩
 have e1:Builtin.bitAnd ((z:Int)/2^((k:Int)).toNat) 72340172838076673=(((z/2^k)&&&72340172838076673:Nat):Int):=by
  rw [Int.toNat_natCast,Jr0,show (72340172838076673:Int)=((72340172838076673:Nat):Int) from rfl,Xm0]
 have e2:Builtin.bitAnd ((y:Int)/2^((8:Int)*(k:Int)).toNat) 255=((y/2^(8*k)%256:Nat):Int):=by
  rw [show ((8:Int)*(k:Int)).toNat=8*k by lia,Jr0,bitAnd_m8];rfl
 dsimp only
 rw [e1,e2]
 have h2:y/2^(8*k)%256<256:=Nat.mod_lt _ (by decide)
 have h1:((z/2^k)&&&72340172838076673)<2^64:=Nat.lt_of_le_of_lt Nat.and_le_right (by decide)
 refine ⟨_,_,rfl,rfl,.inl ⟨by lia,by lia⟩,?_⟩
 rw [← Int.natCast_mul]
 exact q
variable (P w K mg base) in abbrev gSpread:=FG P w K mg base "spread" 1 ["y","z","k"] Yc4
theorem Up6:Zj0 ["machine","y","z","result","k"] ["machine","y","z"] (Zh0 (top 56)):=by decide +kernel
theorem ok_mor {f C:Addr}{fd:FuncData} (F:Fun K "mor" "mor" (top 56) f fd) (T4:Txt4 mg) (g:gSpread P w K mg base):FnW P w K mg base 2 f fd ["machine","y","z"] (Ja0 C (Ye0 fun y z=>Kg22.mor false y z)):=by
 exists Up6,Zy0
 obtain ⟨d,m,b,y,z,rfl,R,hy,hz,q⟩:=h
 have nd:=Up6.nd
 refine ⟨_,Zd0 (Zp0 (i:=3) nd rfl (Or.inl rfl) Zg0) (Zd0 (Jx1 PassesOwn.leaving rfl (Xb1 rfl T4.range (Za0 Zg0 Zc0)) (Jz0 (i:=4) nd rfl (Or.inl rfl))
  (Ze0 (Jy1 (i:=3) nd rfl (Or.inl rfl) (Zb0 g hr Zf0 (Za0 (pv 1) (Za0 (pv 2) (Za0 (pv 4) Zc0)))) (show PIp _ .BitOr (rI0 fun i j=>.int (Builtin.bitOr i j)) from Up5)))) (Ze0 (Zk0 (pv 3)))),?_⟩
 refine ⟨8,rfl,by decide,by decide,Zv1 (n:=8) (fun i σ H'=>H'=H∧∃ v:Option V,σ=[some (.ref d.M),some (iv y),some (iv z),some (iv (Jx5 false y z i)),v]) ⟨rfl,none,by rw [Vi3];rfl⟩ ?_ ?_⟩
 ·rintro i σ H' hi ⟨rfl,v,rfl⟩
  refine ⟨_,rfl,_,rfl,_,rfl,_,rfl,y,z,i,?_,hy,hz,hi,_,_,rfl,rfl,rfl,some (iv i),?_⟩
  ·show [iv y,iv z,V.int (0+(i:Int))]=_
   rw [Int.zero_add]
  ·skip
   rw [Yv0]
   have e:=Vj3 (xor:=false) (y:=y) hz hi
   unfold Xt1 at e
   rw [if_neg (by decide)] at e
   rw [e,Int.zero_add]
   rfl
 ·rintro σ H' ⟨rfl,v,rfl⟩
  refine ⟨_,rfl,?_⟩
  rw [Zf4]
  exact q.here R
theorem Xb5:Zj0 ["machine","y","z","result","k"] ["machine","y","z"] (Zh0 (top 57)):=by decide +kernel
theorem Vu7 {f C:Addr}{fd:FuncData} (F:Fun K "mxor" "mxor" (top 57) f fd) (T4:Txt4 mg) (g:gSpread P w K mg base):FnW P w K mg base 2 f fd ["machine","y","z"] (Ja0 C (Ye0 fun y z=>Kg22.mor true y z)):=by
 exists Xb5,Zy0
 obtain ⟨d,m,b,y,z,rfl,R,hy,hz,q⟩:=h
 have nd:=Xb5.nd
 refine ⟨_,Zd0 (Zp0 (i:=3) nd rfl (Or.inl rfl) Zg0) (Zd0 (Jx1 PassesOwn.leaving rfl (Xb1 rfl T4.range (Za0 Zg0 Zc0)) (Jz0 (i:=4) nd rfl (Or.inl rfl))
  (Ze0 (Jy1 (i:=3) nd rfl (Or.inl rfl) (Zb0 g hr Zf0 (Za0 (pv 1) (Za0 (pv 2) (Za0 (pv 4) Zc0)))) (show PIp _ .BitXor (rI0 fun i j=>.int (Builtin.bitXor i j)) from Jl7)))) (Ze0 (Zk0 (pv 3)))),?_⟩
 refine ⟨8,rfl,by decide,by decide,Zv1 (n:=8) (fun i σ H'=>H'=H∧∃ v:Option V,σ=[some (.ref d.M),some (iv y),some (iv z),some (iv (Jx5 true y z i)),v]) ⟨rfl,none,by rw [Vi3];rfl⟩ ?_ ?_⟩
 ·rintro i σ H' hi ⟨rfl,v,rfl⟩
  refine ⟨_,rfl,_,rfl,_,rfl,_,rfl,y,z,i,?_,hy,hz,hi,_,_,rfl,rfl,rfl,some (iv i),?_⟩
  ·show [iv y,iv z,V.int (0+(i:Int))]=_
   rw [Int.zero_add]
  ·skip
   rw [Zw1]
   have e:=Vj3 (xor:=true) (y:=y) hz hi
   unfold Xt1 at e
   rw [if_pos rfl] at e
   rw [e,Int.zero_add]
   rfl
 ·rintro σ H' ⟨rfl,v,rfl⟩
  refine ⟨_,rfl,?_⟩
  rw [Zf4]
  exact q.here R
def Xf4 (e:DictEntry):Bool:=match e.key with
 | .int k _=>e.hash == hashInt k
 | _=>false
def Jz5 (K:PySem.W.Frag) (a:Addr) (k:Int):Option Value:=match K.lookup a with
 | some ⟨.type "dict",none,.dict es _,sl⟩=>if (sl.size == 0 && es.toList.all Xf4)=true then findBy Value.isInt es k else none
 | _=>none
theorem kg_map {P:Program}{w:World}{K:PySem.W.Frag}{h:Heap}{a:Addr}{k:Int}{v:Value} (e:Jz5 K a k=some v) (X:K.In h):∃ f,h.MapOf (intKind P w) a f∧f k=some v:=by
 unfold Jz5 at e
 split at e
 ·rename_i es ep sl hl
  split at e
  ·rename_i hc
   rw [Bool.and_eq_true] at hc
   refine ⟨findBy Value.isInt es,⟨_,es,ep,X a _ hl,⟨rfl,rfl,?_⟩,rfl,?_,fun _=>rfl⟩,e⟩
   ·exact Array.eq_empty_of_size_eq_zero (beq_iff_eq.mp hc.1)
   ·intro x hx
    have q:=List.all_eq_true.mp hc.2 x (by simpa using hx)
    unfold Xf4 at q
    split at q
    ·rename_i i t hk
     refine ⟨i,?_,beq_iff_eq.mp q⟩
     show Value.isInt i x.key=true
     rw [hk]
     simp [Value.isInt]
    ·cases q
  ·cases e
 ·cases e
def tKGet (K:PySem.W.Frag) (a:Addr) (ty:TE):TE:=fun σ H Q=>ty σ H fun y H1=>∃ (k:Int) (f:Addr),y=.int k∧Jz5 K a k=some (.ref f)∧Q (.ref f) H1
theorem Jf1 {X:Cx}{x:Str}{a:Addr}{i:Expr}{p pos:Pos}{ty:TE} (hm:X.mg x=some (.ref a)) (hi:PE X i ty) (hs:NoSl i:=by intro _ _;rfl) (hg:Gl X x:=by rfl) (hd:(x == ("__debug__" : Str))=false:=by decide):PE X (.Subscript (.Name x p) i pos) (tKGet X.K a ty):=by
 intro pins s σ H Q I h
 refine Zt7 PySem.F.slot_dict_getitem.lookup hs (thn (Za1 (v:=.ref a) hg hm rfl hd pins s σ H (fun v H'=>v=.ref a∧H'=H) I ⟨rfl,rfl⟩) fun u s1 ⟨x,H1,I1,rx,ex,eH⟩=>?_)
 subst ex eH
 obtain rfl:u=Value.ref a:=rx
 refine thn (hi pins s1 σ H1 _ I1 h) fun iv s2 ⟨y,H2,I2,ry,k,f,ey,g,q2⟩=>?_
 subst ey
 obtain ⟨t,rfl⟩:=ry
 obtain ⟨F,hM,hv⟩:=kg_map (P:=X.prog) (w:=X.w) g I2.kIn
 refine ⟨hM.typeIs,wpAny_getItem_of (knd:=intKind X.prog X.w) (k:=k) (show Value.isInt k (Value.int k t)=true by simp [Value.isInt]) hM hv ⟨.ref f,H2,I2.tok _,rfl,q2⟩⟩
variable (P w K mg base) in def VG (f:Addr) (k:Nat) (ps:List Str) (sp:Sp):Prop :=
 PySem.W.keepIn K (.ref f)=true∧∃ fd,Ui0 K fd ps []∧Vu0 P w K mg base (CXW P w) k f fd ps sp
theorem VG.mono {P:Program}{w:World}{K:PySem.W.Frag}{mg:Str→Option Value}{base:Heap}{f:Addr}{j k:Nat}{ps:List Str}{sp:Sp} (g:VG P w K mg base f j ps sp) (h:j≤k):VG P w K mg base f k ps sp:=by
 obtain ⟨h1,fd,h2,h3⟩:=g
 exact ⟨h1,fd,h2,h3.mono h⟩
theorem Un0 (m:KM) (k v fl:Nat):KF (KL m k v) fl=KL (KF m fl) k v:=by
 unfold KF KL KU Kg22.Machine.G
 by_cases h:m.special Kg22.rG≤k
 ·have h':(if Kg22.rG=Kg22.rA then m.special Kg22.rA|||fl else m.special Kg22.rG)≤k:=h
  rw [if_pos h,if_pos h']
 ·have h':¬ (if Kg22.rG=Kg22.rA then m.special Kg22.rA|||fl else m.special Kg22.rG)≤k:=h
  rw [if_neg h,if_neg h']
theorem Vn1 {m:KM}{k v j x:Nat} (hj:j≠19):KU (KL m k v) j x=KL (KU m j x) k v:=by
 unfold KL KU Kg22.Machine.G
 have e:(if Kg22.rG=j then x else m.special Kg22.rG)=m.special Kg22.rG:=if_neg (fun z=>hj z.symm)
 by_cases h:m.special Kg22.rG≤k
 ·have h':(if Kg22.rG=j then x else m.special Kg22.rG)≤k:=by rw [e];exact h
  rw [if_pos h,if_pos h']
 ·have h':¬ (if Kg22.rG=j then x else m.special Kg22.rG)≤k:=by rw [e];exact h
  rw [if_neg h,if_neg h']
theorem Zc3 {m:KM}{j x fl:Nat} (hj:j≠21):KF (KU m j x) fl=KU (KF m fl) j x:=by
 unfold KF KU
 congr 1
 funext i
 show (if i=21 then (if 21=j then x else m.special 21)|||fl else if i=j then x else m.special i)=if i=j then x else if i=21 then m.special 21|||fl else m.special i
 have e:(if 21=j then x else m.special 21)=m.special 21:=if_neg (fun z=>hj z.symm)
 rw [e]
 by_cases h:i=21
 ·have h3:¬ i=j:=fun z=>hj (by lia)
  rw [if_pos h,if_neg h3,if_pos h]
 ·rw [if_neg h]
  by_cases h2:i=j
  ·rw [if_pos h2,if_pos h2]
  ·rw [if_neg h2,if_neg h2,if_neg h]
def Xg0 (o:Nat) (g:Op):Prop:=∀ m k y z,WF m→y<2^64→z<2^64→Kg22.wholeOp m o k y z=KL (g m y z).1 k (g m y z).2∧(g m y z).2<2^64
theorem Vb7 (x:Nat):Kg22.ones x<2^64:=by
 unfold Kg22.ones
 exact Nat.lt_of_le_of_lt (List.length_filter_le _ _) (by rw [List.length_range];decide)
theorem Xy6 (p:Int) (j:Nat):Int.fdiv p (2^j)=p/2^j:=Int.fdiv_eq_ediv_of_nonneg _ (Int.le_of_lt (Int.pow_pos (by decide)))
theorem wk_mul:Xg0 0x18 (Zp4 fun a b=>a*b):=fun m k y z _ _ _=>⟨Un0 m k _ _,Uj0 _⟩
theorem Zf7:Xg0 0x1A Vy5:=fun m k y z _ _ _=>⟨rfl,Nat.mod_lt _ (by decide)⟩
theorem wk_div:Xg0 0x1C Jp4:=fun m k y z _ _ _=>by
 unfold Jp4
 show (if z=0 then _ else _)=_∧_
 by_cases h:z=0
 ·rw [if_pos h,if_pos h]
  refine ⟨?_,by show 0<2^64;decide⟩
  rw [Zc3 (m:=KL m k 0) (by decide),Un0,Vn1 (by decide)]
  rfl
 ·rw [if_neg h,if_neg h]
  exact ⟨Un0 _ k _ _,Uj0 _⟩
theorem Zg7:Xg0 0x1E Jd2:=fun m k y z wf hy hz=>by
 unfold Jd2
 show (if z≤m.special 1 then _ else _)=_∧_
 by_cases h:z≤m.special 1
 ·rw [if_pos h,if_pos h]
  exact ⟨Vn1 (by decide),wf.spe 1⟩
 ·rw [if_neg h,if_neg h]
  refine ⟨Vn1 (by decide),?_⟩
  show (m.special 1*2^64+y)/z<2^64
  rw [Nat.div_lt_iff_lt_mul (by lia)]
  have:(m.special 1+1)*2^64≤z*2^64:=Nat.mul_le_mul_right _ (by lia)
  rw [Nat.mul_comm (2^64) z]
  lia
theorem wk_add:Xg0 0x20 (Zp4 fun a b=>a+b):=fun m k y z _ _ _=>⟨Un0 m k _ _,Uj0 _⟩
theorem Zk7:Xg0 0x22 (Ye0 fun y z=>(y+z)%2^64):=fun m k y z _ _ _=>⟨rfl,Nat.mod_lt _ (by decide)⟩
theorem wk_sub:Xg0 0x24 (Zp4 fun a b=>a-b):=fun m k y z _ _ _=>⟨Un0 m k _ _,Uj0 _⟩
theorem Jz6:Xg0 0x26 (Ye0 fun y z=>(y+2^64-z)%2^64):=fun m k y z _ _ _=>⟨rfl,Nat.mod_lt _ (by decide)⟩
theorem wk_2:Xg0 0x28 (Ye0 fun y z=>(2*y+z)%2^64):=fun m k y z _ _ _=>⟨rfl,Nat.mod_lt _ (by decide)⟩
theorem wk_4:Xg0 0x2A (Ye0 fun y z=>(4*y+z)%2^64):=fun m k y z _ _ _=>⟨rfl,Nat.mod_lt _ (by decide)⟩
theorem wk_8:Xg0 0x2C (Ye0 fun y z=>(8*y+z)%2^64):=fun m k y z _ _ _=>⟨rfl,Nat.mod_lt _ (by decide)⟩
theorem wk_16:Xg0 0x2E (Ye0 fun y z=>(16*y+z)%2^64):=fun m k y z _ _ _=>⟨rfl,Nat.mod_lt _ (by decide)⟩
theorem wk_cmp:Xg0 0x30 (Ye0 fun y z=>Jp6 (KN 64 y) (KN 64 z)):=fun m k y z _ _ _=>⟨rfl,Uj0 _⟩
theorem Zh7:Xg0 0x32 (Ye0 fun y z=>Jp6 y z):=fun m k y z _ _ _=>by
 refine ⟨?_,Uj0 _⟩
 show KL m k (KH (if y<z then -1 else if y=z then 0 else 1))=KL m k (Jp6 y z)
 unfold Jp6
 have e:(if y<z then (-1:Int) else if y=z then 0 else 1)=if (y:Int)<(z:Int) then -1 else if (y:Int)=(z:Int) then 0 else 1:=by
  by_cases h:y<z
  ·have h':(y:Int)<(z:Int):=by lia
   rw [if_pos h,if_pos h']
  ·have h':¬ (y:Int)<(z:Int):=by lia
   rw [if_neg h,if_neg h']
   by_cases h2:y=z
   ·have h3:(y:Int)=(z:Int):=by lia
    rw [if_pos h2,if_pos h3]
   ·have h3:¬ (y:Int)=(z:Int):=by lia
    rw [if_neg h2,if_neg h3]
 rw [e]
theorem wk_sl:Xg0 0x38 slOp:=fun m k y z _ hy _=>by
 have sr:=Ud0 hy
 refine ⟨?_,Uj0 _⟩
 show (if 63<z then _ else _)=_
 unfold slOp
 by_cases h:63<z
 ·have e:min z 64=64:=by lia
  rw [if_pos h]
  show KF (KL m k 0) (if y=0 then 0 else 64)=_
  rw [Un0]
  show _=KL (KF m (Kg22.overflow (KN 64 y*2^min z 64))) k (KH (KN 64 y*2^min z 64))
  rw [e]
  have e1:KH (KN 64 y*2^64)=0:=by have:=Jc0 (KN 64 y*2^64);lia
  have e2:Kg22.overflow (KN 64 y*2^64)=if y=0 then 0 else 64:=by
   unfold Kg22.overflow
   by_cases y0:y=0
   ·rw [if_pos y0,if_neg]
    rw [y0,show KN 64 0=0 from rfl];decide
   ·rw [if_neg y0,if_pos]
    have:=Xe3 hy y0
    lia
  rw [e1,e2]
 ·have e:min z 64=z:=by lia
  rw [if_neg h]
  show KF (KL m k (y*2^z%2^64)) (Kg22.overflow (KN 64 y*2^z))=_
  rw [Un0]
  show _=KL (KF m (Kg22.overflow (KN 64 y*2^min z 64))) k (KH (KN 64 y*2^min z 64))
  rw [e]
  have e1:KH (KN 64 y*2^z)=y*2^z%2^64:=by
   have h1:=Jc0 (KN 64 y*2^z)
   rw [Jv0 hy] at h1 ⊢
   by_cases hs:y<2^(64-1)
   ·rw [if_pos hs] at h1 ⊢
    have:((y*2^z:Nat):Int)=(y:Int)*2^z:=by norm_cast
    rw [← this] at h1 ⊢
    lia
   ·rw [if_neg hs] at h1 ⊢
    have e3:((y:Int)-2^64)*2^z=((y*2^z:Nat):Int)+18446744073709551616*(-(2^z)):=by
     rw [Int.sub_mul]
     have:((y*2^z:Nat):Int)=(y:Int)*2^z:=by norm_cast
     rw [this]
     lia
    rw [e3] at h1 ⊢
    rw [Int.add_mul_emod_self_left] at h1
    lia
  rw [e1]
theorem wk_slu:Xg0 0x3A (Ye0 fun y z=>y*2^min z 64%2^64):=fun m k y z _ _ _=>by
 refine ⟨?_,Nat.mod_lt _ (by decide)⟩
 show KL m k (if 63<z then 0 else y*2^z%2^64)=KL m k (y*2^min z 64%2^64)
 by_cases h:63<z
 ·rw [if_pos h,show min z 64=64 by lia,Nat.mul_mod_left]
 ·rw [if_neg h,show min z 64=z by lia]
theorem wk_sr:Xg0 0x3C (Ye0 fun y z=>KH (KN 64 y/2^min z 64)):=fun m k y z _ _ _=>by
 refine ⟨?_,Uj0 _⟩
 show KL m k (KH (Int.fdiv (KN 64 y) (2^min z 64)))=_
 rw [Xy6];rfl
theorem wk_sru:Xg0 0x3E (Ye0 fun y z=>y/2^min z 64):=fun m k y z _ hy _=>by
 refine ⟨?_,Nat.lt_of_le_of_lt (Nat.div_le_self _ _) hy⟩
 show KL m k (if 63<z then 0 else y/2^z)=KL m k (y/2^min z 64)
 by_cases h:63<z
 ·rw [if_pos h,show min z 64=64 by lia,Nat.div_eq_of_lt hy]
 ·rw [if_neg h,show min z 64=z by lia]
theorem wk_or:Xg0 0xC0 (Ye0 fun y z=>y|||z):=fun m k y z _ hy hz=>⟨rfl,Nat.or_lt_two_pow hy hz⟩
theorem wk_orn:Xg0 0xC2 (Ye0 fun y z=>y|||(2^64-1-z)):=fun m k y z _ hy hz=>⟨rfl,Nat.or_lt_two_pow hy (by lia)⟩
theorem wk_nor:Xg0 0xC4 (Ye0 fun y z=>2^64-1-(y|||z)):=fun m k y z _ hy hz=>⟨rfl,by show 2^64-1-(y|||z)<2^64;lia⟩
theorem wk_xor:Xg0 0xC6 (Ye0 fun y z=>y^^^z):=fun m k y z _ hy hz=>⟨rfl,Nat.xor_lt_two_pow hy hz⟩
theorem wk_and:Xg0 0xC8 (Ye0 fun y z=>y&&&z):=fun m k y z _ hy hz=>⟨rfl,Nat.lt_of_le_of_lt Nat.and_le_left hy⟩
theorem Zj7:Xg0 0xCA (Ye0 fun y z=>y&&&(2^64-1-z)):=fun m k y z _ hy hz=>⟨rfl,Nat.lt_of_le_of_lt Nat.and_le_left hy⟩
theorem Zd7:Xg0 0xCC (Ye0 fun y z=>2^64-1-(y&&&z)):=fun m k y z _ hy hz=>⟨rfl,by show 2^64-1-(y&&&z)<2^64;lia⟩
theorem Zc7:Xg0 0xCE (Ye0 fun y z=>2^64-1-(y^^^z)):=fun m k y z _ hy hz=>⟨rfl,by show 2^64-1-(y^^^z)<2^64;lia⟩
theorem Xm4 {w x y:Nat} (h:w*(64/w)=64):Kg22.dif w x y<2^64:=by
 have:=Yb3 w x y (64/w)
 rw [h] at this
 rw [Jl6]
 exact this
theorem Zi7:Xg0 0xD0 (Ye0 fun y z=>Kg22.dif 8 y z):=fun m k y z _ hy hz=>⟨rfl,Xm4 (by decide)⟩
theorem Jx6:Xg0 0xD2 (Ye0 fun y z=>Kg22.dif 16 y z):=fun m k y z _ hy hz=>⟨rfl,Xm4 (by decide)⟩
theorem Jy6:Xg0 0xD4 (Ye0 fun y z=>Kg22.dif 32 y z):=fun m k y z _ hy hz=>⟨rfl,Xm4 (by decide)⟩
theorem Zb7:Xg0 0xD6 (Ye0 fun y z=>Kg22.dif 64 y z):=fun m k y z _ hy hz=>by
 refine ⟨?_,Xm4 (by decide)⟩
 show KL m k (y-z)=KL m k (Kg22.dif 64 y z)
 have e:Kg22.dif 64 y z=y-z:=by
  show 0+(y/2^(64*0)%2^64-z/2^(64*0)%2^64)*2^(64*0)=y-z
  rw [Nat.mul_zero,Nat.pow_zero,Nat.div_one,Nat.div_one,Nat.mod_eq_of_lt hy,Nat.mod_eq_of_lt hz,Nat.mul_one,Nat.zero_add]
 rw [e]
theorem wk_mux:Xg0 0xD8 Uz7:=fun m k y z _ hy hz=>⟨rfl,Nat.or_lt_two_pow (Nat.lt_of_le_of_lt Nat.and_le_left hy) (Nat.lt_of_le_of_lt Nat.and_le_left hz)⟩
theorem Za7:Xg0 0xDA (Ye0 fun y z=>Kg22.ones (y&&&(2^64-1-z))):=fun m k y z _ hy hz=>⟨rfl,Vb7 _⟩
theorem wk_mor:Xg0 0xDC (Ye0 fun y z=>Kg22.mor false y z):=fun m k y z _ hy hz=>⟨rfl,Uy6 _ _ _⟩
theorem Ze7:Xg0 0xDE (Ye0 fun y z=>Kg22.mor true y z):=fun m k y z _ hy hz=>⟨rfl,Uy6 _ _ _⟩
theorem Zo6 {m:KM}{n:Nat} (hl:KI m m.pc 4=.ok n) (h1:24≤opW n) (h2:opW n<52):KG m=.ok (Kg22.wholeOp { m with pc:=(m.pc+4)%2^64 } (opW n-opW n%2) (xW n) (KS m (yW n)) (zvW m n),0):=by
 unfold KG
 rw [hl]
 have h1':24≤n/2^24:=h1
 have h2':n/2^24<52:=h2
 show (if n/2^24=0 then _ else _)=_
 iterate 4 refine (if_neg (by first | exact nl h1' | exact nq h1')).trans ?_
 rw [if_pos (by lia)]
 show Except.ok (Kg22.wholeOp { m with pc:=(m.pc+4)%2^64 } (opW n-opW n%2) (xW n) (KS m (yW n)) (if (opW n%2 == 1)=true then n%256 else KS m (n%256)),0)=_
 rw [Xo0];rfl
theorem Zn6 {m:KM}{n:Nat} (hl:KI m m.pc 4=.ok n) (h1:56≤opW n) (h2:opW n<64):KG m=.ok (Kg22.wholeOp { m with pc:=(m.pc+4)%2^64 } (opW n-opW n%2) (xW n) (KS m (yW n)) (zvW m n),0):=by
 unfold KG
 rw [hl]
 have h1':56≤n/2^24:=h1
 have h2':n/2^24<64:=h2
 show (if n/2^24=0 then _ else _)=_
 iterate 7 refine (if_neg (by first | exact nl h1' | exact nq h1')).trans ?_
 rw [if_pos (by lia)]
 show Except.ok (Kg22.wholeOp { m with pc:=(m.pc+4)%2^64 } (opW n-opW n%2) (xW n) (KS m (yW n)) (if (opW n%2 == 1)=true then n%256 else KS m (n%256)),0)=_
 rw [Xo0];rfl
theorem Zm6 {m:KM}{n:Nat} (hl:KI m m.pc 4=.ok n) (h1:192≤opW n) (h2:opW n<224):KG m=.ok (Kg22.wholeOp { m with pc:=(m.pc+4)%2^64 } (opW n-opW n%2) (xW n) (KS m (yW n)) (zvW m n),0):=by
 unfold KG
 rw [hl]
 have h1':192≤n/2^24:=h1
 have h2':n/2^24<224:=h2
 show (if n/2^24=0 then _ else _)=_
 iterate 26 refine (if_neg (by first | exact nl h1' | exact nq h1')).trans ?_
 rw [if_pos (by lia)]
 show Except.ok (Kg22.wholeOp { m with pc:=(m.pc+4)%2^64 } (opW n-opW n%2) (xW n) (KS m (yW n)) (if (opW n%2 == 1)=true then n%256 else KS m (n%256)),0)=_
 rw [Xo0];rfl
theorem Zp6 {m:KM}{n:Nat} (hl:KI m m.pc 4=.ok n) (h1:52≤opW n) (h2:opW n<54):KG m=.ok (Kg22.give { m with pc:=(m.pc+4)%2^64 } (xW n) (KH ((yW n:Int)-KN 64 (zvW m n)),Kg22.overflow ((yW n:Int)-KN 64 (zvW m n))),0):=by
 unfold KG
 rw [hl]
 have h1':52≤n/2^24:=h1
 have h2':n/2^24<54:=h2
 show (if n/2^24=0 then _ else _)=_
 iterate 5 refine (if_neg (by first | exact nl h1' | exact nq h1')).trans ?_
 rw [if_pos (by lia)]
 show Except.ok (Kg22.give { m with pc:=(m.pc+4)%2^64 } (xW n) (KH ((yW n:Int)-KN 64 (if (opW n%2 == 1)=true then n%256 else KS m (n%256))),Kg22.overflow ((yW n:Int)-KN 64 (if (opW n%2 == 1)=true then n%256 else KS m (n%256)))),0)=_
 rw [Xo0];rfl
theorem Zx5 {m:KM}{n:Nat} (hl:KI m m.pc 4=.ok n) (h1:54≤opW n) (h2:opW n<56):KG m=.ok (KL { m with pc:=(m.pc+4)%2^64 } (xW n) ((yW n+2^64-zvW m n)%2^64),0):=by
 unfold KG
 rw [hl]
 have h1':54≤n/2^24:=h1
 have h2':n/2^24<56:=h2
 show (if n/2^24=0 then _ else _)=_
 iterate 6 refine (if_neg (by first | exact nl h1' | exact nq h1')).trans ?_
 rw [if_pos (by lia)]
 show Except.ok (KL { m with pc:=(m.pc+4)%2^64 } (xW n) ((yW n+Kg22.W-(if (opW n%2 == 1)=true then n%256 else KS m (n%256)))%Kg22.W),0)=_
 rw [Xo0];rfl
def Ju6 (g:Op):Prop:=∀ m p y z,g { m with pc:=p } y z=({ (g m y z).1 with pc:=p },(g m y z).2)∧(g m y z).1.pc=m.pc
theorem Va5 (h:Int→Int→Int):Ju6 (Zp4 h):=fun _ _ _ _=>⟨rfl,rfl⟩
theorem Xd0 (h:Nat→Nat→Nat):Ju6 (Ye0 h):=fun _ _ _ _=>⟨rfl,rfl⟩
theorem Xv7:Ju6 Vy5:=fun _ _ _ _=>⟨rfl,rfl⟩
theorem pc_sl:Ju6 slOp:=fun _ _ _ _=>⟨rfl,rfl⟩
theorem pc_mux:Ju6 Uz7:=fun _ _ _ _=>⟨rfl,rfl⟩
theorem pc_div:Ju6 Jp4:=fun m p y z=>by
 unfold Jp4
 by_cases h:z=0
 ·rw [if_pos h,if_pos h];exact ⟨rfl,rfl⟩
 ·rw [if_neg h,if_neg h];exact ⟨rfl,rfl⟩
theorem Xw7:Ju6 Jd2:=fun m p y z=>by
 unfold Jd2
 by_cases h:z≤m.special 1
 ·have h':z≤({ m with pc:=p }:KM).special 1:=h
  rw [if_pos h,if_pos h'];exact ⟨rfl,rfl⟩
 ·have h':¬ z≤({ m with pc:=p }:KM).special 1:=h
  rw [if_neg h,if_neg h'];exact ⟨rfl,rfl⟩
abbrev evW (n:Nat):Nat:=opW n-opW n%2
def Yn1 (m:KM) (n:Nat):Nat:=if evW n=52∨evW n=54 then yW n else KS m (yW n)
theorem Jc5 {m:KM} (h:WF m) (n:Nat):Yn1 m n<2^64:=by
 unfold Yn1
 split
 ·exact Nat.lt_trans (Nat.mod_lt _ (by decide)) (by decide:256<2^64)
 ·exact Vl0 h _
def Xt4 (o:Nat) (g:Op):Prop:=∀ (m:KM) (n:Nat),WF m→KI m m.pc 4=.ok n→evW n=o →
 KG m=.ok ({ KL (g m (Yn1 m n) (zvW m n)).1 (xW n) (g m (Yn1 m n) (zvW m n)).2 with pc:=(m.pc+4)%2^64 },0)∧(g m (Yn1 m n) (zvW m n)).2<2^64∧(g m (Yn1 m n) (zvW m n)).1.pc=m.pc
theorem Yn0 {o:Nat}{g:Op} (W:Xg0 o g) (p:Ju6 g) (ho:(24≤o∧o<52)∨(56≤o∧o<64)∨(192≤o∧o<224)) (he:o%2=0):Xt4 o g:=fun m n wf hl e=>by
 have e':opW n-opW n%2=o:=e
 have hf:Yn1 m n=KS m (yW n):=if_neg (by lia)
 rw [hf]
 have st:KG m=.ok (Kg22.wholeOp { m with pc:=(m.pc+4)%2^64 } (opW n-opW n%2) (xW n) (KS m (yW n)) (zvW m n),0):=by
  rcases ho with h | h | h
  ·exact Zo6 hl (by lia) (by lia)
  ·exact Zn6 hl (by lia) (by lia)
  ·exact Zm6 hl (by lia) (by lia)
 have hg:=Vl0 wf (yW n)
 have hz:=Xz1 wf n
 obtain ⟨w1,_⟩:=W { m with pc:=(m.pc+4)%2^64 } (xW n) (KS m (yW n)) (zvW m n) (wf.setPc (Nat.mod_lt _ (by decide))) hg hz
 obtain ⟨_,w2⟩:=W m (xW n) (KS m (yW n)) (zvW m n) wf hg hz
 obtain ⟨p1,p2⟩:=p m ((m.pc+4)%2^64) (KS m (yW n)) (zvW m n)
 refine ⟨?_,w2,p2⟩
 rw [st,show opW n-opW n%2=o from e,w1,p1,Ut0]
theorem st_neg:Xt4 52 negOp:=fun m n wf hl e=>by
 have e':opW n-opW n%2=52:=e
 have hf:Yn1 m n=yW n:=if_pos (by lia)
 rw [hf]
 refine ⟨?_,Uj0 _,rfl⟩
 rw [Zp6 hl (by lia) (by lia)]
 unfold Kg22.give
 rw [Un0,show KF { m with pc:=(m.pc+4)%2^64 } _={ KF m _ with pc:=(m.pc+4)%2^64 } from rfl,Ut0]
 rfl
theorem Zv7:Xt4 54 (Ye0 fun y z=>(y+2^64-z)%2^64):=fun m n wf hl e=>by
 have e':opW n-opW n%2=54:=e
 have hf:Yn1 m n=yW n:=if_pos (by lia)
 rw [hf]
 refine ⟨?_,Nat.mod_lt _ (by decide),rfl⟩
 rw [Zx5 hl (by lia) (by lia),Ut0]
 rfl
variable (P w K mg base) in def OpAt (C aD:Addr) (o:Nat):Prop :=
 ∃ (f:Addr) (ps:List Str) (g:Op),Jz5 K aD (o:Int)=some (.ref f)∧VG P w K mg base f 3 ps (Ja0 C g)∧Xt4 o g
variable (P w K mg base) in abbrev gEven:=FG P w K mg base "even_op" 1 ["word"] (spW fun n=>iv (opW n-opW n%2))
theorem Ye2:Zj0 ["machine","word","work","value"] ["machine","word"] (Zh0 (top 59)):=by decide +kernel
theorem Jv3 {f C aD:Addr}{fd:FuncData}{fc:Nat→Addr} (F:Fun K "run_bits" "run_bits" (top 59) f fd) (T:Txt K mg C) (hm:mg "WORKS_bits" = some (.ref aD)) (ge:gEven P w K mg base) (gf:gFirst P w K mg base C) (gs:gSecond P w K mg base C) (gg:gGive P w K mg base C) (gx:gX P w K mg base)
  (ops:∀ o,192≤o→o<224→o%2=0→OpAt P w K mg base C aD o):FnW P w K mg base 4 f fd ["machine","word"] (Xc0 C fc fun o=>192≤o∧o<224):=by
 exists Ye2,Ya0
 obtain ⟨d,m,n,rfl,R,hn,hl,ho,q,_⟩:=h
 have nd:=Ye2.nd
 refine ⟨_,Zd0 (Zp0 (i:=2) nd rfl (Or.inl rfl) (Jf1 hm (Zb0 ge hr Zf0 (Za0 (pv 1) Zc0))))
  (Zd0 (Zp0 (i:=3) nd rfl (Or.inl rfl) (Zj1 (CX:=CXW P w) (k:=3) (i:=2) rfl (Or.inl rfl) hr Zf0 (Za0 (pv 0) (Za0 (Zb0 gf hr Zf0 (Za0 (pv 0) (Za0 (pv 1) Zc0))) (Za0 (Zb0 gs hr Zf0 (Za0 (pv 0) (Za0 (pv 1) Zc0))) Zc0)))))
  (Ze0 (Zx0 (Zu0 (pv 0) T.cl gg hr Zf0 (Za0 (Zb0 gx hr Zf0 (Za0 (pv 1) Zc0)) (Za0 (pv 3) Zc0)))))),?_⟩
 have ho':192≤opW n∧opW n<224:=ho
 have eE:evW n=opW n-opW n%2:=rfl
 obtain ⟨fw,ps,g,kg,⟨kp,fdw,bw,Fw⟩,sb⟩:=ops (evW n) (by lia) (by lia) (by lia)
 obtain ⟨s1,s2,s3⟩:=sb m n R.wf hl rfl
 have hf:Yn1 m n=KS m (yW n):=if_neg (by lia)
 rw [hf] at s1 s2 s3
 refine ⟨_,rfl,n,rfl,hn,_,fw,rfl,kg,?_⟩
 refine ⟨fw,fdw,ps,_,rfl,kp,Fw,bw,_,rfl,_,rfl,_,rfl,d,m,_,n,rfl,R,hn,_,rfl,_,rfl,d,m,_,n,rfl,R,hn,d,m,_,_,_,rfl,R,Vl0 R.wf _,Xz1 R.wf n,fun H1 d1 e1 R1 k1=>?_⟩
 refine ⟨_,rfl,d1.M,d1.dx,_,(by rw [e1]),R1.obj,rfl,_,rfl,n,rfl,hn,_,rfl,d1,_,_,xW n,_,(by rw [e1];rfl),R1,Vv0 n,s2,?_⟩
 exact (q _ s1 _ _ rfl ((Jb0 _ _ _).trans s3)).of e1 k1
theorem Js1:Zj0 ["machine","word","op","first","work"] ["machine","word"] (Zh0 (top 196)):=by decide +kernel
theorem Xy3 {f C aD aN:Addr}{fd:FuncData}{fc:Nat→Addr} (F:Fun K "run_whole" "run_whole" (top 196) f fd) (T:Txt K mg C) (hm:mg "WORKS_whole" = some (.ref aD)) (hN:mg "NEGATIONS" = some (.ref aN)) (sN:∀ H,SqT K H aN [.int 52,.int 54]) (ge:gEven P w K mg base) (gy:gY P w K mg base) (gf:gFirst P w K mg base C)
  (gs:gSecond P w K mg base C) (gg:gGive P w K mg base C) (gx:gX P w K mg base) (ops:∀ o,24≤o→o<64→o%2=0→OpAt P w K mg base C aD o):FnW P w K mg base 4 f fd ["machine","word"] (Xc0 C fc fun o=>24≤o∧o<64):=by
 exists Js1,Ya0
 obtain ⟨d,m,n,rfl,R,hn,hl,ho,q,_⟩:=h
 have nd:=Js1.nd
 refine ⟨_,Zd0 (Zp0 (i:=2) nd rfl (Or.inl rfl) (Zb0 ge hr Zf0 (Za0 (pv 1) Zc0)))
  (Zd0 (Zp0 (i:=3) nd rfl (Or.inl rfl) (Xx0 (Zt0 Ve5 (pv 2) (Za1 (v:=.ref aN) rfl hN rfl) rfl) (Zb0 gy hr Zf0 (Za0 (pv 1) Zc0)) (Zb0 gf hr Zf0 (Za0 (pv 0) (Za0 (pv 1) Zc0)))))
  (Zd0 (Zp0 (i:=4) nd rfl (Or.inl rfl) (Jf1 hm (pv 2)))
  (Ze0 (Zx0 (Zu0 (pv 0) T.cl gg hr Zf0 (Za0 (Zb0 gx hr Zf0 (Za0 (pv 1) Zc0)) (Za0 (Zj1 (CX:=CXW P w) (k:=3) (i:=4) rfl (Or.inl rfl) hr Zf0 (Za0 (pv 0) (Za0 (pv 3) (Za0 (Zb0 gs hr Zf0 (Za0 (pv 0) (Za0 (pv 1) Zc0))) Zc0)))) Zc0))))))),?_⟩
 have ho':24≤opW n∧opW n<64:=ho
 have eE:evW n=opW n-opW n%2:=rfl
 obtain ⟨fw,ps,g,kg,⟨kp,fdw,bw,Fw⟩,sb⟩:=ops (evW n) (by lia) (by lia) (by lia)
 obtain ⟨s1,s2,s3⟩:=sb m n R.wf hl rfl
 have hlt:=Jc5 R.wf n
 refine ⟨_,rfl,n,rfl,hn,_,rfl,aN,_,rfl,.inr (sN H),rfl,rfl,_,rfl,?_⟩
 have e:inV (V.int ((evW n:Nat):Int)) [.int 52,.int 54]=decide (evW n=52∨evW n=54):=by
  show ((52:Int) == ((evW n:Nat):Int) || (((54:Int) == ((evW n:Nat):Int)) || false))=_
  by_cases h1:evW n=52
  ·rw [h1];rfl
  ·by_cases h2:evW n=54
   ·rw [h2];rfl
   ·rw [decide_eq_false (by lia),Bool.or_false,beq_eq_false_iff_ne.mpr (by lia),beq_eq_false_iff_ne.mpr (by lia)];rfl
 show if inV (V.int ((evW n:Nat):Int)) [.int 52,.int 54]=true then _ else _
 rw [e]
 refine Xb0 (fun hc=>?_) (fun hc=>?_)
 ·have hf:Yn1 m n=yW n:=if_pos (of_decide_eq_true hc)
  rw [hf] at s1 s2 s3 hlt
  refine ⟨_,rfl,n,rfl,hn,?_⟩
  refine ⟨_,rfl,_,fw,rfl,kg,?_⟩
  refine ⟨_,rfl,d.M,d.dx,_,rfl,R.obj,rfl,_,rfl,n,rfl,hn,fw,fdw,ps,_,rfl,kp,Fw,bw,_,rfl,_,rfl,_,rfl,_,rfl,d,m,_,n,rfl,R,hn,d,m,_,_,_,rfl,R,hlt,Xz1 R.wf n,fun H1 d1 e1 R1 k1=>?_⟩
  exact ⟨d1,_,_,xW n,_,(by rw [e1];rfl),R1,Vv0 n,s2,(q _ s1 _ _ rfl ((Jb0 _ _ _).trans s3)).of e1 k1⟩
 ·have hf:Yn1 m n=KS m (yW n):=if_neg (fun z=>hc (decide_eq_true z))
  rw [hf] at s1 s2 s3 hlt
  refine ⟨_,rfl,_,rfl,d,m,_,n,rfl,R,hn,?_⟩
  refine ⟨_,rfl,_,fw,rfl,kg,?_⟩
  refine ⟨_,rfl,d.M,d.dx,_,rfl,R.obj,rfl,_,rfl,n,rfl,hn,fw,fdw,ps,_,rfl,kp,Fw,bw,_,rfl,_,rfl,_,rfl,_,rfl,d,m,_,n,rfl,R,hn,d,m,_,_,_,rfl,R,hlt,Xz1 R.wf n,fun H1 d1 e1 R1 k1=>?_⟩
  exact ⟨d1,_,_,xW n,_,(by rw [e1];rfl),R1,Vv0 n,s2,(q _ s1 _ _ rfl ((Jb0 _ _ _).trans s3)).of e1 k1⟩
section
variable {t u:TT}{te ue:TE} {σ:L2.St}{H:Hp}{Q:Bool→Hp→Prop}{q:VK}{a b:Bool}
theorem Uh3 (h1:∀ Q':Bool→Hp→Prop,Q' a H→t σ H Q') (h2:∀ Q':Bool→Hp→Prop,Q' b H→u σ H Q') (h:Q (a || b) H):tOr t u σ H Q:=h1 _ (by
 cases a
 ·exact h2 _ h
 ·exact h)
theorem Jm2 (h1:∀ Q':Bool→Hp→Prop,Q' a H→t σ H Q') (h2:∀ Q':Bool→Hp→Prop,Q' b H→u σ H Q') (h:Q (a && b) H):tAnd t u σ H Q:=h1 _ (by
 cases a
 ·exact h
 ·exact h2 _ h)
theorem v_or (h1:∀ Q':VK,Q' (.bl a) H→te σ H Q') (h2:∀ Q':VK,Q' (.bl b) H→ue σ H Q') (h:q (.bl (a || b)) H):tOrV te ue σ H q:=h1 _ ⟨a,rfl,by
 cases a
 ·exact h2 _ h
 ·exact h⟩
theorem v_and (h1:∀ Q':VK,Q' (.bl a) H→te σ H Q') (h2:∀ Q':VK,Q' (.bl b) H→ue σ H Q') (h:q (.bl (a && b)) H):tAndV te ue σ H q:=h1 _ ⟨a,rfl,by
 cases a
 ·exact h
 ·exact h2 _ h⟩
end
theorem Yj0 (a b:Nat):decide (V.int (a:Int)=V.int (b:Int))=decide (a=b):=Vn0 a b
theorem Uu5 (a b:Nat):decide ((a:Int) > (b:Int))=decide (b<a):=by
 by_cases h:b<a
 ·rw [decide_eq_true h,decide_eq_true (by lia)]
 ·rw [decide_eq_false h,decide_eq_false (by lia)]
abbrev sN (s:Bool):Nat:=if s=true then 1 else 0
structure Ze2 (mg:Str→Option Value):Prop where
 sign:∃ t,mg "SIGN" = some (.int 9223372036854775808 t)
 inf:∃ t,mg "INFINITY" = some (.int 9218868437227405312 t)
 nan:∃ t,mg "NO_NUMBER" = some (.int 9221120237041090560 t)
 quiet:∃ t,mg "QUIET" = some (.int 2251799813685248 t)
 near:∃ t,mg "NEAREST" = some (.int 0 t)
 up:∃ t,mg "UP" = some (.int 2 t)
 down:∃ t,mg "DOWN" = some (.int 3 t)
 inexact:∃ t,mg "INEXACT" = some (.int 1 t)
 dz:∃ t,mg "DIVIDED_BY_ZERO" = some (.int 2 t)
 under:∃ t,mg "UNDERFLOW" = some (.int 4 t)
 over:∃ t,mg "OVERFLOW" = some (.int 8 t)
 invalid:∃ t,mg "INVALID" = some (.int 16 t)
 fixo:∃ t,mg "FIX_OVERFLOW" = some (.int 32 t)
 max:mg "max" = none
 min:mg "min" = none
 abs:mg "abs" = none
theorem Ux7 {b:Nat} (h:b<2^64):b/2^63=sN (KA b):=by
 unfold sN KA Kg22.SIGN
 by_cases z:2^63≤b
 ·rw [decide_eq_true z,if_pos rfl];lia
 ·rw [decide_eq_false z,if_neg (by decide)];lia
inductive spB (g:Nat→V) (vs:List V) (H:Hp) (Q:VK) (_:XK):Prop |mk (b:Nat) (_:vs=[iv b]) (_:b<2^64) (_:Q (g b) H)
theorem Ya1 {g:Nat→V}:∀ vs H Q E,spB g vs H Q E→vs.length=1:=by rintro vs H Q E ⟨n,rfl,_⟩;rfl
variable (P w K mg base) in abbrev gB (x:Str) (k:Nat) (g:Nat→V):=FG P w K mg base x k ["word"] (spB g)
theorem Vn4:Zj0 ["word"] ["word"] (Zh0 (top 84)):=by decide +kernel
theorem Uj4 {f:Addr}{fd:FuncData} (F:Fun K "sign_of" "sign_of" (top 84) f fd):FnW P w K mg base 1 f fd ["word"] (spB fun b=>iv (sN (KA b))):=by
 exists Vn4,Ya1
 obtain ⟨b,rfl,hb,q⟩:=h
 refine ⟨_,Ze0 (Zk0 (Zl0 Xf0 (pv 0) Zg0)),⟨_,rfl,_,_,rfl,rfl,(by decide:(0:Int)≤63),?_⟩⟩
 dsimp only
 rw [Uc0 b (k:=63) rfl,Ux7 hb]
 exact q
theorem Xj3:Zj0 ["word"] ["word"] (Zh0 (top 85)):=by decide +kernel
theorem Vd3 {f:Addr}{fd:FuncData} (F:Fun K "magnitude" "magnitude" (top 85) f fd) (T6:Ze2 mg):FnW P w K mg base 1 f fd ["word"] (spB fun b=>iv (KR b)):=by
 exists Xj3,Ya1
 obtain ⟨b,rfl,hb,q⟩:=h
 refine ⟨_,Ze0 (Zk0 (Zl0 Yf0 (pv 0) (Zl0 Xe0 (Zo0 T6.sign) Zg0))),⟨_,rfl,_,_,rfl,rfl,_,_,rfl,rfl,?_⟩⟩
 have e:Builtin.bitAnd (b:Int) (9223372036854775808-1)=((KR b:Nat):Int):=Vd0 b 63
 dsimp only
 rw [e]
 exact q
theorem Yj2:Zj0 ["word"] ["word"] (Zh0 (top 86)):=by decide +kernel
theorem Yx2 {f:Addr}{fd:FuncData} (F:Fun K "is_no_number" "is_no_number" (top 86) f fd) (T6:Ze2 mg) (g:gB P w K mg base "magnitude" 1 fun b=>iv (KR b)):FnW P w K mg base 2 f fd ["word"] (spB fun b=>.bl (KW b)):=by
 exists Yj2,Ya1
 obtain ⟨b,rfl,hb,q⟩:=h
 refine ⟨_,Ze0 (Zk0 (Xy0 Vg2 (Zb0 g hr Zf0 (Za0 (pv 0) Zc0)) (Zo0 T6.inf) (Zv0 _))),⟨_,rfl,b,rfl,hb,_,_,rfl,rfl,?_⟩⟩
 have e:decide (((KR b:Nat):Int) > 9218868437227405312)=KW b:=Uu5 (KR b) 9218868437227405312
 show Q (.bl (decide (((KR b:Nat):Int) > 9218868437227405312))) H
 rw [e]
 exact q
theorem Vb2:Zj0 ["word"] ["word"] (Zh0 (top 87)):=by decide +kernel
theorem Vp2 {f:Addr}{fd:FuncData} (F:Fun K "is_infinite" "is_infinite" (top 87) f fd) (T6:Ze2 mg) (g:gB P w K mg base "magnitude" 1 fun b=>iv (KR b)):FnW P w K mg base 2 f fd ["word"] (spB fun b=>.bl (KO b)):=by
 exists Vb2,Ya1
 obtain ⟨b,rfl,hb,q⟩:=h
 refine ⟨_,Ze0 (Zk0 (Xy0 Xj0 (Zb0 g hr Zf0 (Za0 (pv 0) Zc0)) (Zo0 T6.inf) (Zv0 _))),⟨_,rfl,b,rfl,hb,rfl,?_⟩⟩
 have e:decide (V.int ((KR b:Nat):Int)=V.int 9218868437227405312)=KO b:=Yj0 (KR b) 9218868437227405312
 show Q (.bl (decide (V.int ((KR b:Nat):Int)=V.int 9218868437227405312))) H
 rw [e]
 exact q
theorem Vs4:Zj0 ["word"] ["word"] (Zh0 (top 88)):=by decide +kernel
theorem Ut4 {f:Addr}{fd:FuncData} (F:Fun K "is_zero" "is_zero" (top 88) f fd) (g:gB P w K mg base "magnitude" 1 fun b=>iv (KR b)):FnW P w K mg base 2 f fd ["word"] (spB fun b=>.bl (decide (KR b=0))):=by
 exists Vs4,Ya1
 obtain ⟨b,rfl,hb,q⟩:=h
 refine ⟨_,Ze0 (Zk0 (Xy0 Xj0 (Zb0 g hr Zf0 (Za0 (pv 0) Zc0)) Zg0 (Zv0 _))),⟨_,rfl,b,rfl,hb,rfl,?_⟩⟩
 have e:decide (V.int ((KR b:Nat):Int)=V.int 0)=decide (KR b=0):=Yj0 (KR b) 0
 show Q (.bl (decide (V.int ((KR b:Nat):Int)=V.int 0))) H
 rw [e]
 exact q
inductive Vx6 (vs:List V) (H:Hp) (Q:VK) (_:XK):Prop |mk (s:Bool) (r:Nat) (_:vs=[iv (sN s),iv r]) (_:r<2^63) (_:Q (iv (Kg22.withSign s r)) H)
theorem Xg3:Zj0 ["sign","bits"] ["sign","bits"] (Zh0 (top 89)):=by decide +kernel
theorem Xw3 {f:Addr}{fd:FuncData} (F:Fun K "with_sign" "with_sign" (top 89) f fd):FnW P w K mg base 1 f fd ["sign","bits"] Vx6:=by
 exists Xg3,(by rintro vs H Q E ⟨s,r,rfl,_⟩;rfl)
 obtain ⟨sg,r,rfl,hr',q⟩:=h
 refine ⟨_,Ze0 (Zk0 (Zl0 Yd1 (pv 1) (Zl0 Vy0 (pv 0) Zg0))),⟨_,rfl,_,rfl,_,_,rfl,rfl,⟨by decide,by decide,by cases sg <;> decide⟩,_,_,rfl,rfl,?_⟩⟩
 have e:Builtin.bitOr (r:Int) (((sN sg:Nat):Int)*2^(63:Int).toNat)=((Kg22.withSign sg r:Nat):Int):=by
  have e1:((sN sg:Nat):Int)*2^(63:Int).toNat=((sN sg*2^63:Nat):Int):=by cases sg <;> rfl
  rw [e1,Yv0,Za2 hr']
  unfold Kg22.withSign Kg22.SIGN
  cases sg
  ·rfl
  ·show ((r+1*2^63:Nat):Int)=((2^63+r:Nat):Int)
   lia
 dsimp only
 rw [e]
 exact q
theorem Vd1:Zj0 ["word","fraction"] ["word"] (Zh0 (top 90)):=by decide +kernel
theorem Vm2 {f:Addr}{fd:FuncData} (F:Fun K "mantissa_of" "mantissa_of" (top 90) f fd) (g:gB P w K mg base "magnitude" 1 fun b=>iv (KR b)):FnW P w K mg base 2 f fd ["word"] (spB fun b=>iv (mant b)):=by
 exists Vd1,Ya1
 obtain ⟨b,rfl,hb,q⟩:=h
 have nd:=Vd1.nd
 refine ⟨_,Zd0 (Zp0 (i:=1) nd rfl (Or.inl rfl) (Zl0 Yf0 (pv 0) Zg0)) (Zd0 (Yb0 (Zs0 (Zl0 Xf0 (Zb0 g hr Zf0 (Za0 (pv 0) Zc0)) Zg0) (fun _=>rfl)) (Ze0 (Zk0 (Zl0 Yd1 (pv 1) Zg0))) Zq0) (Ze0 (Zk0 (pv 1)))),?_⟩
 refine ⟨_,rfl,_,_,rfl,rfl,?_⟩
 have e:Builtin.bitAnd (b:Int) 4503599627370495=((b%2^52:Nat):Int):=Vd0 b 52
 have er:b%2^52=KR b%2^52:=by unfold KR Kg22.SIGN;lia
 dsimp only
 rw [e,er]
 refine ⟨_,rfl,b,rfl,hb,_,_,rfl,rfl,(by decide:(0:Int)≤52),_,rfl,?_⟩
 show if ((((KR b:Nat):Int)/2^(52:Int).toNat) != 0)=true then _ else _
 rw [Uc0 (KR b) (k:=52) rfl]
 unfold mant at q
 by_cases h:KR b<2^52
 ·rw [if_pos h] at q
  have z:KR b/2^52=0:=Nat.div_eq_of_lt h
  rw [z]
  refine ⟨_,rfl,?_⟩
  rw [Nat.mod_eq_of_lt h]
  exact q
 ·rw [if_neg h] at q
  have ne:(((KR b/2^52:Nat):Int) != 0)=true:=bne_iff_ne.mpr (by lia)
  rw [if_pos ne]
  refine ⟨_,rfl,_,_,rfl,rfl,?_⟩
  have e2:Builtin.bitOr ((KR b%2^52:Nat):Int) 4503599627370496=((2^52+KR b%2^52:Nat):Int):=by
   have e3:(4503599627370496:Int)=((1*2^52:Nat):Int):=rfl
   rw [e3,Yv0,Za2 (Nat.mod_lt _ (by decide)),Nat.add_comm]
  dsimp only
  rw [e2]
  exact q
theorem Vd2:Zj0 ["word"] ["word"] (Zh0 (top 91)):=by decide +kernel
theorem Zi4 (a b:Nat):(if (b:Int) > (a:Int) then (b:Int) else (a:Int))=((max a b:Nat):Int):=by split <;> lia
theorem Vt2 {f:Addr}{fd:FuncData} (F:Fun K "exponent_of" "exponent_of" (top 91) f fd) (T6:Ze2 mg) (g:gB P w K mg base "magnitude" 1 fun b=>iv (KR b)):FnW P w K mg base 2 f fd ["word"] (spB fun b=>.int (Xu0 b)):=by
 exists Vd2,Ya1
 obtain ⟨b,rfl,hb,q⟩:=h
 refine ⟨_,Ze0 (Zk0 (Zl0 Xe0 (Yl0 (Uu1 rfl) (by rfl) T6.max boot_max (Za0 (Zl0 Xf0 (Zb0 g hr Zf0 (Za0 (pv 0) Zc0)) Zg0) (Za0 Zg0 Zc0))) Zg0)),⟨_,rfl,b,rfl,hb,_,_,rfl,rfl,(by decide:(0:Int)≤52),_,_,rfl,_,_,rfl,rfl,?_⟩⟩
 dsimp only
 rw [Uc0 (KR b) (k:=52) rfl,show (1:Int)=((1:Nat):Int) from rfl,Zi4]
 have e:((max (KR b/2^52) 1:Nat):Int)-1075=Xu0 b:=by
  unfold Xu0 Vz0;lia
 rw [e]
 exact q
def upB (mode:Nat) (s:Bool) (kept rest half:Nat):Bool:=if mode=0 then (decide (half<rest) || (decide (rest=half) && decide (kept%2=1))) else if mode=2 then !s else if mode=3 then s else false
inductive spUp (vs:List V) (H:Hp) (Q:VK) (_:XK):Prop |mk (s:Bool) (kept r half mode:Nat) (_:vs=[iv (sN s),iv kept,iv r,iv half,iv mode]) (_:Q (.bl (upB mode s kept r half)) H)
theorem Vu4:Zj0 ["sign","kept","rest","half","mode"] ["sign","kept","rest","half","mode"] (Zh0 (top 92)):=by decide +kernel
theorem Uv4 {f:Addr}{fd:FuncData} (F:Fun K "goes_up" "goes_up" (top 92) f fd) (T6:Ze2 mg):FnW P w K mg base 1 f fd ["sign","kept","rest","half","mode"] spUp:=by
 exists Vu4,(by rintro vs H Q E ⟨s,k,r,h,m,rfl,_⟩;rfl)
 obtain ⟨sg,kept,r,half,mode,rfl,q⟩:=h
 refine ⟨_,Zd0 (Yb0 (Zt0 Xj0 (pv 4) (Zo0 T6.near) (Zv0 _)) (Ze0 (Zk0 (Xt7 (Xy0 Vg2 (pv 2) (pv 3) (Zv0 _)) (Uv2 (Xz5 (Xy0 Xj0 (pv 2) (pv 3) (Zv0 _)) (Uv2 (Xy0 Xj0 (Zl0 Yf0 (pv 1) Zg0) Zg0 (Zv0 _)))))))) Zq0)
  (Zd0 (Yb0 (Zt0 Xj0 (pv 4) (Zo0 T6.up) (Zv0 _)) (Ze0 (Zk0 (Xy0 Xj0 (pv 0) Zg0 (Zv0 _)))) Zq0)
  (Zd0 (Yb0 (Zt0 Xj0 (pv 4) (Zo0 T6.down) (Zv0 _)) (Ze0 (Zk0 (Xy0 Xj0 (pv 0) Zg0 (Zv0 _)))) Zq0)
  (Ze0 (Zk0 pe_bl)))),?_⟩
 unfold upB at q
 refine ⟨_,rfl,rfl,_,rfl,?_⟩
 rw [show (V.int 0)=V.int ((0:Nat):Int) from rfl,Yj0]
 refine Xb0 (fun hc=>?_) (fun hc=>?_)
 ·rw [if_pos (of_decide_eq_true hc)] at q
  refine v_or (a:=decide (half<r)) (b:=decide (r=half) && decide (kept%2=1)) (fun Q' q'=>⟨_,rfl,_,rfl,_,_,rfl,rfl,by skip;rw [Uu5];exact q'⟩) (fun Q' q'=>?_) q
  refine v_and (a:=decide (r=half)) (b:=decide (kept%2=1)) (fun Q' q'=>⟨_,rfl,_,rfl,rfl,by rw [Yj0];exact q'⟩) (fun Q' q'=>⟨_,rfl,_,_,rfl,rfl,rfl,?_⟩) q'
  have e:decide (V.int (Builtin.bitAnd (kept:Int) 1)=V.int 1)=decide (kept%2=1):=by rw [bitAnd_m1];exact Yj0 (kept%2) 1
  show Q' (.bl (decide (V.int (Builtin.bitAnd (kept:Int) 1)=V.int 1))) H
  rw [e];exact q'
 ·rw [if_neg (fun z=>hc (decide_eq_true z))] at q
  refine ⟨_,rfl,rfl,_,rfl,?_⟩
  rw [show (V.int 2)=V.int ((2:Nat):Int) from rfl,Yj0]
  refine Xb0 (fun hc=>?_) (fun hc=>?_)
  ·rw [if_pos (of_decide_eq_true hc)] at q
   refine ⟨_,rfl,rfl,?_⟩
   cases sg <;> exact q
  ·rw [if_neg (fun z=>hc (decide_eq_true z))] at q
   refine ⟨_,rfl,rfl,_,rfl,?_⟩
   rw [show (V.int 3)=V.int ((3:Nat):Int) from rfl,Yj0]
   refine Xb0 (fun hc=>?_) (fun hc=>?_)
   ·rw [if_pos (of_decide_eq_true hc)] at q
    refine ⟨_,rfl,rfl,?_⟩
    cases sg <;> exact q
   ·rw [if_neg (fun z=>hc (decide_eq_true z))] at q
    exact q
theorem Ua0 (n:Nat):Builtin.Int.intBits (n:Int)=Yo0 n:=by
 unfold Builtin.Int.intBits Yo0
 by_cases h:n=0
 ·rw [if_pos h,h];rfl
 ·rw [if_neg h,if_neg (by intro z;have:=beq_iff_eq.mp z;lia),Int.natAbs_natCast]
theorem Zf6 {mode:Nat}{s:Bool}{m c:Nat} (hm:mode<4) (hc:1≤c) :
  Kg22.whole mode s m (2^c)=if (!decide (m%2^c=0) && upB mode s (m/2^c) (m%2^c) (2^(c-1)))=true then m/2^c+1 else m/2^c:=by
 have h2:2^c=2*2^(c-1):=by rw [← Nat.pow_succ'];congr 1;lia
 unfold Kg22.whole
 dsimp only
 generalize m%2^c=r at *
 generalize m/2^c=q at *
 generalize 2^(c-1)=h at *
 rw [h2]
 by_cases r0:r=0
 ·rw [if_pos r0,decide_eq_true r0];rfl
 ·rw [if_neg r0,decide_eq_false r0]
  unfold upB
  rcases (show mode=0∨mode=1∨mode=2∨mode=3 by lia) with rfl | rfl | rfl | rfl
  ·rw [if_pos rfl,if_pos rfl]
   by_cases h1:2*r<2*h
   ·rw [if_pos h1,decide_eq_false (by lia),decide_eq_false (show ¬ r=h by lia)];rfl
   ·rw [if_neg h1]
    by_cases h3:2*h<2*r
    ·rw [if_pos h3,decide_eq_true (show h<r by lia)];rfl
    ·rw [if_neg h3,decide_eq_false (show ¬ h<r by lia),decide_eq_true (show r=h by lia)]
     by_cases h4:q%2=1
     ·rw [decide_eq_true h4,if_pos (by rfl),h4]
     ·rw [decide_eq_false h4,if_neg (by decide)];lia
  ·rfl
  ·cases s <;> rfl
  ·cases s <;> rfl
theorem Vh6 (c:Nat):Yo0 (1*2^c)=c+1:=by
 rw [Yz0 (by decide),show Yo0 1=1 from rfl];lia
inductive Ux3 (vs:List V) (H:Hp) (Q:VK) (_:XK):Prop |mk (s:Bool) (m:Nat) (c:Int) (mode:Nat) (_:vs=[iv (sN s),iv m,.int c,iv mode]) (_:mode<4) (_:Yo0 m≤20000) (_:-20000≤c) (_:c≤20000) (_:Q (iv (Yq0 mode s m c)) H)
theorem Jr1:Zj0 ["sign","mantissa","count","mode","kept","rest"] ["sign","mantissa","count","mode"] (Zh0 (top 93)):=by decide +kernel
theorem Xx3 {f:Addr}{fd:FuncData} (F:Fun K "shortened" "shortened" (top 93) f fd) (g:FG P w K mg base "goes_up" 1 ["sign","kept","rest","half","mode"] spUp):FnW P w K mg base 2 f fd ["sign","mantissa","count","mode"] Ux3:=by
 exists Jr1,(by rintro vs H Q E ⟨s,m,c,mode,rfl,_⟩;rfl)
 obtain ⟨sg,m,c,mode,rfl,hm,hb,hc1,hc2,q⟩:=h
 have nd:=Jr1.nd
 refine ⟨_,Zd0 (Yb0 (Zt0 Jq3 (pv 2) Zg0 (Zv0 _)) (Ze0 (Zk0 (Zl0 Vr1 (pv 1) (Xc1 Jg0 (pv 2))))) Zq0)
  (Zd0 (Zp0 (i:=4) nd rfl (Or.inl rfl) (Zl0 Xf0 (pv 1) (pv 2)))
  (Zd0 (Zp0 (i:=5) nd rfl (Or.inl rfl) (Zl0 Xe0 (pv 1) (Zl0 Vr1 (pv 4) (pv 2))))
  (Zd0 (Yb0 (PW.pt (Uk1 (Zt0 Vd5 (pv 5) Zg0 (Zv0 _)) (Xa1 (Zs0 (Zb0 g hr Zf0 (Za0 (pv 0) (Za0 (pv 4) (Za0 (pv 5) (Za0 (Zl0 Vr1 Zg0 (Zl0 Xe0 (pv 2) Zg0)) (Za0 (pv 3) Zc0)))))) (fun _=>rfl))))) (Ze0 (Zk0 (Zl0 Yy0 (pv 4) Zg0))) Zq0)
  (Ze0 (Zk0 (pv 4)))))),?_⟩
 refine ⟨_,rfl,_,_,rfl,rfl,_,rfl,?_⟩
 unfold Yq0 at q
 refine Xb0 (fun h=>?_) (fun h=>?_)
 ·have h':c≤0:=of_decide_eq_true h
  rw [if_pos h'] at q
  refine ⟨_,rfl,_,rfl,_,rfl,_,_,rfl,rfl,⟨by lia,by rw [Ua0];lia⟩,?_⟩
  dsimp only
  have e:(m:Int)*2^(-c).toNat=((m*2^(-c).toNat:Nat):Int):=by rw [Int.natCast_mul,Int.natCast_pow];rfl
  rw [e];exact q
 ·have h':¬ c≤0:=fun z=>h (decide_eq_true z)
  rw [if_neg h'] at q
  obtain ⟨k,rfl⟩:∃ k:Nat,c=(k:Int):=⟨c.toNat,by lia⟩
  rw [Int.toNat_natCast,Zf6 hm (by lia)] at q
  have bq:Yo0 (m/2^k)≤20000:=by rw [Ug0];lia
  refine ⟨_,rfl,_,rfl,_,_,rfl,rfl,(by lia:(0:Int)≤(k:Int)),?_⟩
  dsimp only
  rw [Int.toNat_natCast,Jr0]
  refine ⟨_,rfl,_,rfl,_,rfl,_,_,rfl,rfl,⟨by lia,by rw [Ua0];lia⟩,_,_,rfl,rfl,?_⟩
  have e:(m:Int)-((m/2^k:Nat):Int)*2^((k:Int)).toNat=((m%2^k:Nat):Int):=by
   have e1:((m/2^k:Nat):Int)*2^((k:Int)).toNat=((m/2^k*2^k:Nat):Int):=by rw [Int.toNat_natCast,Int.natCast_mul,Int.natCast_pow];rfl
   have e2:=Nat.div_add_mod m (2^k)
   rw [Nat.mul_comm] at e2
   rw [e1]
   lia
  dsimp only
  rw [e]
  simp only [Zq1,Xw2,Ui3]
  refine Jm2 (a:=!decide (m%2^k=0)) (b:=upB mode sg (m/2^k) (m%2^k) (2^(k-1))) (fun Q' q'=>⟨_,rfl,rfl,_,rfl,?_⟩) (fun Q' q'=>?_) ?_
  ·rw [show (V.int 0)=V.int ((0:Nat):Int) from rfl,Yj0];exact q'
  ·refine ⟨_,rfl,_,rfl,_,rfl,_,rfl,_,_,rfl,rfl,_,_,rfl,rfl,⟨by lia,?_⟩,_,rfl,?_⟩
   ·show ((Builtin.Int.intBits 1:Nat):Int)+((k:Int)-1)≤2^27
    have:Builtin.Int.intBits 1=1:=rfl
    rw [this];lia
   ·refine ⟨sg,m/2^k,m%2^k,2^(k-1),mode,?_,_,rfl,q'⟩
    have e3:(1:Int)*2^((k:Int)-1).toNat=((2^(k-1):Nat):Int):=by
     rw [Int.one_mul,show ((k:Int)-1).toNat=k-1 by lia,Int.natCast_pow];rfl
    rw [e3]
    rfl
  ·refine Xb0 (fun hz=>?_) (fun hz=>?_)
   ·rw [if_pos hz] at q
    exact ⟨_,rfl,_,_,rfl,rfl,q⟩
   ·rw [if_neg hz] at q
    exact ⟨_,rfl,q⟩
inductive Uz3 (vs:List V) (H:Hp) (Q:VK) (_:XK):Prop |mk (m:Nat) (c:Int) (_:vs=[iv m,.int c]) (_:Yo0 m≤20000) (_:-20000≤c) (_:c≤20000) (_:Q (.bl (Jd0 m c)) H)
theorem Vv4:Zj0 ["mantissa","count"] ["mantissa","count"] (Zh0 (top 94)):=by decide +kernel
theorem Uw4 {f:Addr}{fd:FuncData} (F:Fun K "is_shortened_exactly" "is_shortened_exactly" (top 94) f fd):FnW P w K mg base 1 f fd ["mantissa","count"] Uz3:=by
 exists Vv4,(by rintro vs H Q E ⟨m,c,rfl,_⟩;rfl)
 obtain ⟨m,c,rfl,hb,hc1,hc2,q⟩:=h
 refine ⟨_,Ze0 (Zk0 (Xt7 (Xy0 Jq3 (pv 1) Zg0 (Zv0 _)) (Uv2 (Xy0 Xj0 (Zl0 Vr1 (Zl0 Xf0 (pv 0) (pv 1)) (pv 1)) (pv 0) (Zv0 _))))),?_⟩
 refine ⟨_,rfl,_,_,rfl,rfl,_,rfl,?_⟩
 unfold Jd0 at q
 refine Xb0 (fun h=>?_) (fun h=>?_)
 ·have h':c≤0:=of_decide_eq_true h
  rw [decide_eq_true h'] at q
  exact q
 ·have h':¬ c≤0:=fun z=>h (decide_eq_true z)
  rw [decide_eq_false h'] at q
  obtain ⟨k,rfl⟩:∃ k:Nat,c=(k:Int):=⟨c.toNat,by lia⟩
  have bq:Yo0 (m/2^k)≤20000:=by rw [Ug0];lia
  refine ⟨_,rfl,_,rfl,_,_,rfl,rfl,(by lia:(0:Int)≤(k:Int)),_,rfl,Xh7 rfl rfl ?_⟩
  rw [Int.toNat_natCast,Jr0]
  refine ⟨⟨by lia,by rw [Ua0];lia⟩,_,rfl,rfl,?_⟩
  have e1:((m/2^k:Nat):Int)*2^k=((m/2^k*2^k:Nat):Int):=by rw [Int.natCast_mul,Int.natCast_pow];rfl
  rw [e1,Yj0]
  have e2:decide (m/2^k*2^k=m)=decide (m%2^k=0):=by
   have e2:=Nat.div_add_mod m (2^k)
   rw [Nat.mul_comm] at e2
   by_cases z:m%2^k=0
   ·rw [decide_eq_true z,decide_eq_true (by lia)]
   ·rw [decide_eq_false z,decide_eq_false (by lia)]
  rw [e2]
  exact q
def Js5 (p L inf:Nat):Prop:=(p=53∧L=1074∧inf=Kg22.INF)∨(p=24∧L=149∧inf=Vb0)
theorem Js5.big {p L inf:Nat} (h:Js5 p L inf):24≤p∧p≤53∧149≤L∧L≤1074∧0<inf∧inf<2^63:=by
 rcases h with ⟨rfl,rfl,rfl⟩ | ⟨rfl,rfl,rfl⟩
 ·exact ⟨by decide,by decide,by decide,by decide,by decide,by decide⟩
 ·exact ⟨by decide,by decide,by decide,by decide,by decide,by decide⟩
inductive Ud6 (K:PySem.W.Frag) (vs:List V) (H:Hp) (Q:VK) (_:XK):Prop |mk (a:Addr) (p L inf:Nat) (s:Bool) (mode:Nat) (_:vs=[.ref a,iv (sN s),iv mode]) (_:SqT K H a [iv p,iv L,iv inf]) (_:0<inf) (_:Q (iv (Yo2 inf mode s)) H)
theorem Yl7:Zj0 ["form","sign","mode"] ["form","sign","mode"] (Zh0 (top 95)):=by decide +kernel
theorem Vr7 {f:Addr}{fd:FuncData} (F:Fun K "past_greatest" "past_greatest" (top 95) f fd) (T6:Ze2 mg):FnW P w K mg base 1 f fd ["form","sign","mode"] (Ud6 K):=by
 exists Yl7,(by rintro vs H Q E ⟨a,p,L,inf,s,mode,rfl,_⟩;rfl)
 obtain ⟨a,p,L,inf,sg,mode,rfl,hS,hi,q⟩:=h
 refine ⟨_,Zd0 (Yb0 (PW.pt (Yz1 (Zt0 Xj0 (pv 2) (Zo0 T6.near) (Zv0 _)) (Yz1 (PW.pt (Uk1 (Zt0 Xj0 (pv 2) (Zo0 T6.up) (Zv0 _)) (Xa1 (Zt0 Xj0 (pv 1) Zg0 (Zv0 _))))) (Zi1 (PW.pt (Uk1 (Zt0 Xj0 (pv 2) (Zo0 T6.down) (Zv0 _)) (Xa1 (Zt0 Xj0 (pv 1) Zg0 (Zv0 _))))))))) (Ze0 (Zk0 (Xi0 Jl0 (pv 0) Zg0 (fun _ _=>rfl)))) Zq0)
  (Ze0 (Zk0 (Zl0 Xe0 (Xi0 Jl0 (pv 0) Zg0 (fun _ _=>rfl)) Zg0))),?_⟩
 simp only [Zq1,Xw2,Ui3]
 refine Uh3 (a:=decide (mode=0)) (b:=(decide (mode=2) && decide (sN sg=0)) || (decide (mode=3) && decide (sN sg=1))) (fun Q' q'=>⟨_,rfl,rfl,_,rfl,?_⟩) (fun Q' q'=>?_) ?_
 ·rw [show (V.int 0)=V.int ((0:Nat):Int) from rfl,Yj0];exact q'
 ·refine Uh3 (a:=decide (mode=2) && decide (sN sg=0)) (b:=decide (mode=3) && decide (sN sg=1)) (fun Q' q'=>?_) (fun Q' q'=>?_) q'
  ·refine Jm2 (a:=decide (mode=2)) (b:=decide (sN sg=0)) (fun Q' q'=>⟨_,rfl,rfl,_,rfl,?_⟩) (fun Q' q'=>⟨_,rfl,rfl,_,rfl,?_⟩) q'
   ·rw [show (V.int 2)=V.int ((2:Nat):Int) from rfl,Yj0];exact q'
   ·rw [show (V.int 0)=V.int ((0:Nat):Int) from rfl,Yj0];exact q'
  ·refine Jm2 (a:=decide (mode=3)) (b:=decide (sN sg=1)) (fun Q' q'=>⟨_,rfl,rfl,_,rfl,?_⟩) (fun Q' q'=>⟨_,rfl,rfl,_,rfl,?_⟩) q'
   ·rw [show (V.int 3)=V.int ((3:Nat):Int) from rfl,Yj0];exact q'
   ·rw [show (V.int 1)=V.int ((1:Nat):Int) from rfl,Yj0];exact q'
 ·have eb:(decide (mode=0) || ((decide (mode=2) && decide (sN sg=0)) || (decide (mode=3) && decide (sN sg=1))))=decide (mode=0∨(mode=2∧sg=false)∨(mode=3∧sg=true)):=by
   cases sg <;> simp
  rw [eb]
  unfold Yo2 at q
  refine Xb0 (fun hz=>?_) (fun hz=>?_)
  ·rw [if_pos (of_decide_eq_true hz)] at q
   exact ⟨_,rfl,a,_,_,_,rfl,rfl,hS,rfl,q⟩
  ·rw [if_neg (fun z=>hz (decide_eq_true z))] at q
   refine ⟨_,rfl,a,_,_,_,rfl,rfl,hS,rfl,_,_,rfl,rfl,?_⟩
   dsimp only
   rw [show (inf:Int)-1=((inf-1:Nat):Int) by lia]
   exact q
theorem Je7 (a b:Int):(if b > a then b else a)=max a b:=by
 by_cases h:b > a
 ·rw [if_pos h];lia
 ·rw [if_neg h];lia
theorem Jq0 {p L inf mode:Nat}{s:Bool}{m:Nat}{ex:Int}:(Yx0 p L inf mode s m ex).1≤inf:=by
 unfold Yx0
 split
 ·exact Nat.zero_le _
 ·split
  ·show Yo2 inf mode s≤inf
   unfold Yo2
   split
   ·exact Nat.le_refl _
   ·exact Nat.sub_le _ _
  ·show _≤inf
   dsimp only
   lia
theorem Vp1 {p L inf mode:Nat}{s:Bool}{m:Nat}{ex:Int}:(Yx0 p L inf mode s m ex).2<256:=by
 unfold Yx0
 split
 ·show 0<256;decide
 ·split
  ·show 9<256;decide
  ·show (if Jd0 m _=true then 0 else if _ then 5 else 1)<256
   split
   ·decide
   ·split <;> decide
inductive Xa3 (K:PySem.W.Frag) (vs:List V) (H:Hp) (Q:VK) (_:XK):Prop |mk (a:Addr) (p L inf:Nat) (s:Bool) (m:Nat) (ex:Int) (mode:Nat) (_:vs=[.ref a,iv (sN s),iv m,.int ex,iv mode]) (_:SqT K H a [iv p,iv L,iv inf]) (_:Js5 p L inf) (_:mode<4) (_:Yo0 m≤9000) (_:-9000≤ex) (_:ex≤9000) (_:∀ t,H t=none→Q (.ref t) (upd H t (.tup [iv (Yx0 p L inf mode s m ex).1,iv (Yx0 p L inf mode s m ex).2])))
theorem Ur2:Zj0 ["form","sign","mantissa","exponent","mode","size","least","length","count","kept","bits"] ["form","sign","mantissa","exponent","mode"] (Zh0 (top 96)):=by decide +kernel
theorem Uo4 {f:Addr}{fd:FuncData} (F:Fun K "rounded" "rounded" (top 96) f fd) (T6:Ze2 mg) (gs:FG P w K mg base "shortened" 2 ["sign","mantissa","count","mode"] Ux3) (ge:FG P w K mg base "is_shortened_exactly" 1 ["mantissa","count"] Uz3)
  (gp:FG P w K mg base "past_greatest" 1 ["form","sign","mode"] (Ud6 K)):FnW P w K mg base 3 f fd ["form","sign","mantissa","exponent","mode"] (Xa3 K):=by
 exists Ur2,(by rintro vs H Q E ⟨a,p,L,inf,s,m,ex,mode,rfl,_⟩;rfl)
 obtain ⟨a,p,L,inf,sg,m,ex,mode,rfl,hS,hF,hm,hb,he1,he2,q⟩:=h
 have nd:=Ur2.nd
 obtain ⟨p1,p2,L1,L2',i1,i2⟩:=hF.big
 refine ⟨_,Zd0 (Yb0 (Zt0 Xj0 (pv 2) Zg0 (Zv0 _)) (Ze0 (Zk0 (Um1 (Za0 Zg0 (Za0 Zg0 Zc0))))) Zq0)
  (Zd0 (Zp0 (i:=5) nd rfl (Or.inl rfl) (Xi0 Jl0 (pv 0) Zg0 (fun _ _=>rfl)))
  (Zd0 (Zp0 (i:=6) nd rfl (Or.inl rfl) (Xc1 Jg0 (Xi0 Jl0 (pv 0) Zg0 (fun _ _=>rfl))))
  (Zd0 (Zp0 (i:=7) nd rfl (Or.inl rfl) (Xu3 PySem.F.plainAttrs_int PySem.F.slot_int_bit_length PySem.F.type_int_bit_length Vz5 (pv 2)))
  (Zd0 (Zp0 (i:=8) nd rfl (Or.inl rfl) (Yl0 (Uu1 rfl) (by rfl) T6.max boot_max (Za0 (Zl0 Xe0 (pv 7) (pv 5)) (Za0 (Zl0 Xe0 (pv 6) (pv 3)) Zc0))))
  (Zd0 (Zp0 (i:=9) nd rfl (Or.inl rfl) (Zb0 gs hr Zf0 (Za0 (pv 1) (Za0 (pv 2) (Za0 (pv 8) (Za0 (pv 4) Zc0))))))
  (Zd0 (Zp0 (i:=10) nd rfl (Or.inl rfl) (Zl0 Yy0 (pv 9) (Zl0 Vy0 (Zl0 Xe0 (Zl0 Yy0 (pv 3) (pv 8)) (pv 6)) (Zl0 Xe0 (pv 5) Zg0))))
  (Zd0 (Yb0 (Zt0 Zh3 (pv 10) (Xi0 Jl0 (pv 0) Zg0 (fun _ _=>rfl)) (Zv0 _)) (Ze0 (Zk0 (Um1 (Za0 (Zb0 gp hr Zf0 (Za0 (pv 0) (Za0 (pv 1) (Za0 (pv 4) Zc0)))) (Za0 (Zl0 Yd1 (Zo0 T6.over) (Zo0 T6.inexact)) Zc0))))) Zq0)
  (Zd0 (Yb0 (Zs0 (Zb0 ge hr Zf0 (Za0 (pv 2) (Za0 (pv 8) Zc0))) (fun _=>rfl)) (Ze0 (Zk0 (Um1 (Za0 (pv 10) (Za0 Zg0 Zc0))))) Zq0)
  (Zd0 (Yb0 (Zt0 Ye1 (Zl0 Yy0 (pv 7) (pv 3)) (Zl0 Yy0 (pv 6) (pv 5)) (Zv0 _)) (Ze0 (Zk0 (Um1 (Za0 (pv 10) (Za0 (Zl0 Yd1 (Zo0 T6.inexact) (Zo0 T6.under)) Zc0))))) Zq0)
  (Ze0 (Zk0 (Um1 (Za0 (pv 10) (Za0 (Zo0 T6.inexact) Zc0)))))))))))))),?_⟩
 have two:([iv 0,iv 0]:List V).length≤sizeLine:=by show 2≤sizeLine;decide
 refine ⟨_,rfl,rfl,_,rfl,?_⟩
 rw [show (V.int 0)=V.int ((0:Nat):Int) from rfl,Yj0]
 unfold Yx0 at q
 refine Xb0 (fun h=>?_) (fun h=>?_)
 ·rw [if_pos (of_decide_eq_true h)] at q
  exact ⟨two,fun t ht=>q t ht⟩
 ·have m0:m≠0:=fun z=>h (decide_eq_true z)
  rw [if_neg m0] at q
  refine ⟨_,rfl,a,_,_,_,rfl,rfl,hS,rfl,?_⟩
  refine ⟨_,rfl,a,_,_,_,rfl,rfl,hS,rfl,_,rfl,?_⟩
  refine ⟨_,rfl,rfl,_,rfl,rfl,?_⟩
  rw [Ua0]
  refine ⟨_,rfl,_,rfl,_,_,rfl,rfl,_,rfl,_,rfl,_,_,rfl,rfl,_,_,rfl,?_⟩
  dsimp only
  rw [Je7]
  have ec:max ((Yo0 m:Int)-(p:Int)) (-(L:Int)-ex)=Yr0 p L m ex:=rfl
  rw [ec]
  have c1:-20000≤Yr0 p L m ex:=by unfold Yr0;lia
  have c2:Yr0 p L m ex≤20000:=by unfold Yr0;lia
  have c3:0≤ex+Yr0 p L m ex+(L:Int):=by unfold Yr0;lia
  generalize Yr0 p L m ex=c at *
  refine ⟨_,rfl,_,rfl,_,rfl,_,rfl,sg,m,c,mode,rfl,hm,by lia,c1,c2,?_⟩
  refine ⟨_,rfl,_,rfl,_,rfl,_,_,rfl,rfl,_,rfl,_,_,rfl,rfl,_,rfl,_,_,rfl,rfl,_,_,rfl,rfl,⟨by lia,by lia,by lia⟩,_,_,rfl,rfl,?_⟩
  have eb:((Yq0 mode sg m c:Nat):Int)+(ex+c - -(L:Int))*2^((p:Int)-1).toNat=((Yq0 mode sg m c+(ex+c+(L:Int)).toNat*2^(p-1):Nat):Int):=by
   rw [show ((p:Int)-1).toNat=p-1 by lia,show ex+c - -(L:Int)=(((ex+c+(L:Int)).toNat:Nat):Int) by lia,Int.natCast_add,Int.natCast_mul,Int.natCast_pow];rfl
  dsimp only
  rw [eb]
  generalize hB:Yq0 mode sg m c+(ex+c+(L:Int)).toNat*2^(p-1)=B at *
  refine ⟨_,rfl,_,rfl,a,_,_,_,rfl,rfl,hS,rfl,_,_,rfl,rfl,_,rfl,?_⟩
  refine Xb0 (fun h=>?_) (fun h=>?_)
  ·have h':inf≤B:=by have:=of_decide_eq_true h;lia
   rw [if_pos h'] at q
   exact ⟨_,rfl,_,rfl,_,rfl,a,p,L,inf,sg,mode,rfl,hS,i1,_,_,rfl,rfl,(by show 2≤sizeLine;decide),fun t ht=>q t ht⟩
  ·have h':¬ inf≤B:=fun z=>h (decide_eq_true (by lia))
   rw [if_neg h'] at q
   refine ⟨_,rfl,_,rfl,m,c,rfl,by lia,c1,c2,_,rfl,?_⟩
   refine Xb0 (fun h=>?_) (fun h=>?_)
   ·rw [if_pos h] at q
    exact ⟨_,rfl,(by show 2≤sizeLine;decide),fun t ht=>q t ht⟩
   ·rw [if_neg h] at q
    refine ⟨_,rfl,_,rfl,_,_,rfl,rfl,_,rfl,_,rfl,_,_,rfl,rfl,_,_,rfl,rfl,_,rfl,?_⟩
    refine Xb0 (fun h=>?_) (fun h=>?_)
    ·have h':(Yo0 m:Int)+ex<(p:Int)-(L:Int):=by have:=of_decide_eq_true h;lia
     rw [if_pos h'] at q
     exact ⟨_,rfl,_,_,rfl,rfl,(by show 2≤sizeLine;decide),fun t ht=>q t ht⟩
    ·have h':¬ (Yo0 m:Int)+ex<(p:Int)-(L:Int):=fun z=>h (decide_eq_true (by lia))
     rw [if_neg h'] at q
     exact ⟨_,rfl,(by show 2≤sizeLine;decide),fun t ht=>q t ht⟩
theorem Rep.own_some {C:Addr}{H:Hp}{d:Ad}{m:KM}{b:Nat} (R:Rep C H d m b):∀ a∈d.own,∃ u,H a=some u:=fun a ha=>by
 unfold Ad.own at ha
 simp at ha
 rcases ha with rfl | rfl | rfl | rfl | rfl | rfl | rfl
 ·exact ⟨_,R.obj⟩
 ·exact ⟨_,R.dxo⟩
 ·obtain ⟨_,h,_⟩:=R.mem;exact ⟨_,h⟩
 ·exact ⟨_,R.loc⟩
 ·obtain ⟨_,h,_⟩:=R.wid;exact ⟨_,h⟩
 ·obtain ⟨_,h,_⟩:=R.spc;exact ⟨_,h⟩
 ·exact ⟨_,R.psh⟩
theorem Rep.same {C:Addr}{H H':Hp}{d:Ad}{m:KM}{b:Nat} (R:Rep C H d m b) (s:Jf0 H H'):Rep C H' d m b where
 obj:=s _ _ R.obj
 dxo:=s _ _ R.dxo
 mem:=let ⟨k,h,q⟩:=R.mem;⟨k,s _ _ h,q⟩
 loc:=s _ _ R.loc
 wid:=let ⟨k,h,q⟩:=R.wid;⟨k,s _ _ h,q⟩
 spc:=let ⟨k,h,q⟩:=R.spc;⟨k,s _ _ h,q⟩
 psh:=s _ _ R.psh
 nd:=R.nd
 wf:=R.wf
 bh:=R.bh
theorem Yi0 {o:List Addr}{H H':Hp} (s:Jf0 H H'):Vf0 o o H H':=fun a u h n=>⟨s a u h,n⟩
theorem Zz0 {H:Hp}{t:Addr}{u:HO} (h:H t=none):Jf0 H (upd H t u):=fun b o e=>by rw [Zn0 (Ys0 e h)];exact e
theorem Rep.fresh {C:Addr}{H:Hp}{d:Ad}{m:KM}{b:Nat} (R:Rep C H d m b) {t:Addr} (h:H t=none):t ∉ d.own:=fun z=>by
 obtain ⟨u,e⟩:=R.own_some t z
 rw [h] at e;cases e
structure Txt7 (K:PySem.W.Frag) (mg:Str→Option Value) (aD aS:Addr):Prop where
 dbl:mg "DOUBLE" = some (.ref aD)
 sgl:mg "SINGLE" = some (.ref aS)
 sd:∀ H,SqT K H aD [iv 53,iv 1074,iv Kg22.INF]
 ss:∀ H,SqT K H aS [iv 24,iv 149,iv Vb0]
variable (P w K mg base) in abbrev gRounded:=FG P w K mg base "rounded" 3 ["form","sign","mantissa","exponent","mode"] (Xa3 K)
variable (P w K mg base) in abbrev gWithSign:=FG P w K mg base "with_sign" 1 ["sign","bits"] Vx6
inductive Uf6 (C:Addr) (vs:List V) (H:Hp) (Q:VK) (_:XK):Prop |mk (d:Ad) (m:KM) (b:Nat) (s:Bool) (mt:Nat) (ex:Int) (mode:Nat) (_:vs=[.ref d.M,iv (sN s),iv mt,.int ex,iv mode]) (_:Rep C H d m b) (_:mode<4) (_:Yo0 mt≤9000) (_:-9000≤ex) (_:ex≤9000) (_:Ub0 C H d (KF m (Xk0 mode s mt ex).2) b (Q (iv (Xk0 mode s mt ex).1)))
theorem Xc5:Zj0 ["machine","sign","mantissa","exponent","mode","pair"] ["machine","sign","mantissa","exponent","mode"] (Zh0 (top 104)):=by decide +kernel
theorem Vw7 {f C aD aS:Addr}{fd:FuncData} (F:Fun K "made" "made" (top 104) f fd) (T:Txt K mg C) (T7:Txt7 K mg aD aS) (gr:gRounded P w K mg base) (gA:gFlags P w K mg base C) (gw:gWithSign P w K mg base):FnW P w K mg base 4 f fd ["machine","sign","mantissa","exponent","mode"] (Uf6 C):=by
 exists Xc5,(by rintro vs H Q E ⟨d,m,b,s,mt,ex,mode,rfl,_⟩;rfl)
 obtain ⟨d,m,b,sg,mt,ex,mode,rfl,R,hm,hb,h1,h2,q⟩:=h
 have nd:=Xc5.nd
 refine ⟨_,Zd0 (Zp0 (i:=5) nd rfl (Or.inl rfl) (Zb0 gr hr Zf0 (Za0 (Za1 (v:=.ref aD) rfl T7.dbl rfl) (Za0 (pv 1) (Za0 (pv 2) (Za0 (pv 3) (Za0 (pv 4) Zc0)))))))
  (Zd0 (Zx0 (Zu0 (pv 0) T.cl gA hr Zf0 (Za0 (Xi0 Jl0 (pv 5) Zg0 (fun _ _=>rfl)) Zc0)))
  (Ze0 (Zk0 (Zb0 gw hr Zf0 (Za0 (pv 1) (Za0 (Xi0 Jl0 (pv 5) Zg0 (fun _ _=>rfl)) Zc0)))))),?_⟩
 refine ⟨_,rfl,_,rfl,_,rfl,_,rfl,aD,53,1074,Kg22.INF,sg,mt,ex,mode,rfl,T7.sd H,.inl ⟨rfl,rfl,rfl⟩,hm,hb,h1,h2,fun t ht=>?_⟩
 have sm:=Zz0 (u:=.tup [iv (Yx0 53 1074 Kg22.INF mode sg mt ex).1,iv (Yx0 53 1074 Kg22.INF mode sg mt ex).2]) ht
 have R1:=R.same sm
 refine ⟨_,rfl,d.M,d.dx,_,rfl,R1.obj,rfl,_,rfl,t,_,_,_,rfl,rfl,SqT.of Zm0,rfl,d,m,b,_,rfl,R1,Vp1,fun H1 d1 e1 R1' k1=>?_⟩
 have ht1:=(k1 t _ Zm0 (R.fresh ht)).1
 refine ⟨_,rfl,_,rfl,t,_,_,_,rfl,rfl,SqT.of ht1,rfl,sg,_,rfl,Nat.lt_of_le_of_lt Jq0 (by decide),?_⟩
 exact q H1 d1 e1 R1' ((Yi0 sm).trans k1)
theorem Yi2:Zj0 ["y","z"] ["y","z"] (Zh0 (top 100)):=by decide +kernel
inductive spB2 (g:Nat→Nat→V) (vs:List V) (H:Hp) (Q:VK) (_:XK):Prop |mk (y z:Nat) (_:vs=[iv y,iv z]) (_:y<2^64) (_:z<2^64) (_:Q (g y z) H)
variable (P w K mg base) in abbrev gNan:=gB P w K mg base "is_no_number" 2 fun b=>.bl (KW b)
theorem Yw2 {f:Addr}{fd:FuncData} (F:Fun K "is_unordered" "is_unordered" (top 100) f fd) (g:gNan P w K mg base):FnW P w K mg base 3 f fd ["y","z"] (spB2 fun y z=>.bl (KW y || KW z)):=by
 exists Yi2,(by rintro vs H Q E ⟨y,z,rfl,_⟩;rfl)
 obtain ⟨y,z,rfl,hy,hz,q⟩:=h
 refine ⟨_,Ze0 (Zk0 (Xt7 (Zb0 g hr Zf0 (Za0 (pv 0) Zc0)) (Uv2 (Zb0 g hr Zf0 (Za0 (pv 1) Zc0))))),?_⟩
 exact v_or (a:=KW y) (b:=KW z) (fun Q' q'=>⟨_,rfl,y,rfl,hy,q'⟩) (fun Q' q'=>⟨_,rfl,z,rfl,hz,q'⟩) q
theorem Zf2:Zj0 ["word"] ["word"] (Zh0 (top 101)):=by decide +kernel
def Um6 (b:Nat):Bool:=KW b && !(KR b).testBit 51
theorem bit51 (b:Nat):decide (V.int (Builtin.bitAnd (b:Int) 2251799813685248)=V.int 0) = !(KR b).testBit 51:=by
 have e1:Builtin.bitAnd (b:Int) 2251799813685248=((b&&&2^51:Nat):Int):=Xm0 b (2^51)
 have e2:(KR b).testBit 51=b.testBit 51:=by
  unfold KR Kg22.SIGN
  rw [Nat.testBit_mod_two_pow];rfl
 rw [e1,e2,show (V.int 0)=V.int ((0:Nat):Int) from rfl,Yj0]
 have e3:b&&&2^51=(b/2^51%2)*2^51:=by
  have:=Zr2 b 1 51
  simpa using this
 rw [e3,Nat.testBit_eq_decide_div_mod_eq]
 by_cases h:b/2^51%2=1
 ·rw [h];rfl
 ·have:b/2^51%2=0:=by lia
  rw [this];rfl
theorem Zj2 {f:Addr}{fd:FuncData} (F:Fun K "is_signalling" "is_signalling" (top 101) f fd) (T6:Ze2 mg) (g:gNan P w K mg base):FnW P w K mg base 3 f fd ["word"] (spB fun b=>.bl (Um6 b)):=by
 exists Zf2,Ya1
 obtain ⟨b,rfl,hb,q⟩:=h
 refine ⟨_,Ze0 (Zk0 (Xz5 (Zb0 g hr Zf0 (Za0 (pv 0) Zc0)) (Uv2 (Xy0 Xj0 (Zl0 Yf0 (pv 0) (Zo0 T6.quiet)) Zg0 (Zv0 _))))),?_⟩
 refine v_and (a:=KW b) (b:=!(KR b).testBit 51) (fun Q' q'=>⟨_,rfl,b,rfl,hb,q'⟩) (fun Q' q'=>⟨_,rfl,_,_,rfl,rfl,rfl,?_⟩) q
 show Q' (.bl (decide (V.int (Builtin.bitAnd (b:Int) 2251799813685248)=V.int 0))) H
 rw [bit51]
 exact q'
def Uh0 (h:Nat→Nat→Nat→KJ):Op:=fun m y z=>(KF m (h (KZ m) y z).2,(h (KZ m) y z).1)
def Ur1 (y z:Nat):KJ:=(Kg22.NAN,if Um6 y || Um6 z then 16 else 0)
theorem Yg2:Zj0 ["machine","y","z"] ["machine","y","z"] (Zh0 (top 102)):=by decide +kernel
theorem Yv2 {f C:Addr}{fd:FuncData} (F:Fun K "no_number_of" "no_number_of" (top 102) f fd) (T:Txt K mg C) (T6:Ze2 mg) (g:gB P w K mg base "is_signalling" 3 fun b=>.bl (Um6 b)) (gA:gFlags P w K mg base C):FnW P w K mg base 4 f fd ["machine","y","z"] (Ja0 C (Uh0 fun _ y z=>Ur1 y z)):=by
 exists Yg2,Zy0
 obtain ⟨d,m,b,y,z,rfl,R,hy,hz,q⟩:=h
 refine ⟨_,Zd0 (Yb0 (PW.pt (Yz1 (Zs0 (Zb0 g hr Zf0 (Za0 (pv 1) Zc0)) (fun _=>rfl)) (Zi1 (Zs0 (Zb0 g hr Zf0 (Za0 (pv 2) Zc0)) (fun _=>rfl))))) (Ze0 (Zx0 (Zu0 (pv 0) T.cl gA hr Zf0 (Za0 (Zo0 T6.invalid) Zc0)))) Zq0)
  (Ze0 (Zk0 (Zo0 T6.nan))),?_⟩
 simp only [Zq1,Xw2,Ui3]
 refine Uh3 (a:=Um6 y) (b:=Um6 z) (fun Q' q'=>⟨_,rfl,y,rfl,hy,_,rfl,q'⟩) (fun Q' q'=>⟨_,rfl,z,rfl,hz,_,rfl,q'⟩) ?_
 unfold Uh0 Ur1 at q
 dsimp only at q
 refine Xb0 (fun hc=>?_) (fun hc=>?_)
 ·rw [if_pos hc] at q
  refine ⟨_,rfl,d.M,d.dx,_,rfl,R.obj,rfl,d,m,b,16,rfl,R,by decide,fun H1 d1 e1 R1 k1=>?_⟩
  exact q H1 d1 e1 R1 k1
 ·rw [if_neg hc,Yt0] at q
  exact q.here R
inductive Xc3 (C:Addr) (vs:List V) (H:Hp) (Q:VK) (_:XK):Prop |mk (d:Ad) (m:KM) (b:Nat) (_:vs=[.ref d.M]) (_:Rep C H d m b) (_:Ub0 C H d (KF m 16) b (Q (iv Kg22.NAN)))
theorem Vt4:Zj0 ["machine"] ["machine"] (Zh0 (top 103)):=by decide +kernel
theorem Uu4 {f C:Addr}{fd:FuncData} (F:Fun K "invalid" "invalid" (top 103) f fd) (T:Txt K mg C) (T6:Ze2 mg) (gA:gFlags P w K mg base C):FnW P w K mg base 2 f fd ["machine"] (Xc3 C):=by
 exists Vt4,(by rintro vs H Q E ⟨d,m,b,rfl,_⟩;rfl)
 obtain ⟨d,m,b,rfl,R,q⟩:=h
 refine ⟨_,Zd0 (Zx0 (Zu0 (pv 0) T.cl gA hr Zf0 (Za0 (Zo0 T6.invalid) Zc0))) (Ze0 (Zk0 (Zo0 T6.nan))),?_⟩
 exact ⟨_,rfl,d.M,d.dx,_,rfl,R.obj,rfl,d,m,b,16,rfl,R,by decide,fun H1 d1 e1 R1 k1=>q H1 d1 e1 R1 k1⟩
variable (P w K mg base) in abbrev gSgn:=gB P w K mg base "sign_of" 1 fun b=>iv (sN (KA b))
theorem Zz4 (s:Bool):((((sN s:Nat):Int)) != 0)=s:=by cases s <;> rfl
theorem Yk7:Zj0 ["word"] ["word"] (Zh0 (top 105)):=by decide +kernel
theorem Vp7 {f:Addr}{fd:FuncData} (F:Fun K "rank" "rank" (top 105) f fd) (gs:gSgn P w K mg base) (gm:gB P w K mg base "magnitude" 1 fun b=>iv (KR b)):FnW P w K mg base 2 f fd ["word"] (spB fun b=>.int (Yo4 b)):=by
 exists Yk7,Ya1
 obtain ⟨b,rfl,hb,q⟩:=h
 refine ⟨_,Zd0 (Yb0 (Zs0 (Zb0 gs hr Zf0 (Za0 (pv 0) Zc0)) (fun _=>rfl)) (Ze0 (Zk0 (Xc1 Jg0 (Zb0 gm hr Zf0 (Za0 (pv 0) Zc0))))) Zq0) (Ze0 (Zk0 (Zb0 gm hr Zf0 (Za0 (pv 0) Zc0)))),?_⟩
 refine ⟨_,rfl,b,rfl,hb,_,rfl,?_⟩
 show if ((((sN (KA b):Nat):Int)) != 0)=true then _ else _
 rw [Zz4]
 unfold Yo4 at q
 refine Xb0 (fun hc=>?_) (fun hc=>?_)
 ·rw [if_pos hc] at q
  exact ⟨_,rfl,b,rfl,hb,_,rfl,q⟩
 ·rw [if_neg hc] at q
  exact ⟨_,rfl,b,rfl,hb,q⟩
variable (P w K mg base) in abbrev gRank:=gB P w K mg base "rank" 2 fun b=>.int (Yo4 b)
variable (P w K mg base) in abbrev gUn:=FG P w K mg base "is_unordered" 3 ["y","z"] (spB2 fun y z=>.bl (KW y || KW z))
variable (P w K mg base) in abbrev gCmp:=FG P w K mg base "compared" 1 ["first","second"] Xp1
def Zz3 (y z:Nat):KJ:=match Kg22.compare_ y z with
 | some c=>(KH c,0)
 | none=>(0,16)
theorem Xd2 {y z:Nat} (h:(KW y || KW z)=true):KW y=true∨KW z=true:=by
 rw [Bool.or_eq_true] at h;exact h
theorem Xe2 {y z:Nat} (h:¬ (KW y || KW z)=true):KW y=false∧KW z=false:=by
 cases e:KW y <;> cases e2:KW z <;> simp_all
theorem Yy7:Zj0 ["machine","y","z"] ["machine","y","z"] (Zh0 (top 106)):=by decide +kernel
theorem Um7 {f C:Addr}{fd:FuncData} (F:Fun K "fcmp" "fcmp" (top 106) f fd) (T:Txt K mg C) (T6:Ze2 mg) (gu:gUn P w K mg base) (gA:gFlags P w K mg base C) (gc:gCmp P w K mg base) (gr:gRank P w K mg base):FnW P w K mg base 4 f fd ["machine","y","z"] (Ja0 C (Uh0 fun _ y z=>Zz3 y z)):=by
 exists Yy7,Zy0
 obtain ⟨d,m,b,y,z,rfl,R,hy,hz,q⟩:=h
 refine ⟨_,Zd0 (Yb0 (Zs0 (Zb0 gu hr Zf0 (Za0 (pv 1) (Za0 (pv 2) Zc0))) (fun _=>rfl)) (Zd0 (Zx0 (Zu0 (pv 0) T.cl gA hr Zf0 (Za0 (Zo0 T6.invalid) Zc0))) (Ze0 (Zk0 Zg0))) Zq0)
  (Ze0 (Zk0 (Zb0 gc hr Zf0 (Za0 (Zb0 gr hr Zf0 (Za0 (pv 1) Zc0)) (Za0 (Zb0 gr hr Zf0 (Za0 (pv 2) Zc0)) Zc0))))),?_⟩
 unfold Uh0 Zz3 at q
 dsimp only at q
 refine ⟨_,rfl,_,rfl,y,z,rfl,hy,hz,_,rfl,?_⟩
 refine Xb0 (fun hc=>?_) (fun hc=>?_)
 ·rw [Xg1 (Xd2 hc)] at q
  exact ⟨_,rfl,d.M,d.dx,_,rfl,R.obj,rfl,d,m,b,16,rfl,R,by decide,fun H1 d1 e1 R1 k1=>q H1 d1 e1 R1 k1⟩
 ·obtain ⟨n1,n2⟩:=Xe2 hc
  rw [Jn1 n1 n2] at q
  dsimp only at q
  rw [Yt0] at q
  exact ⟨_,rfl,y,rfl,hy,_,rfl,z,rfl,hz,_,_,rfl,q.here R⟩
theorem sc_fun:Zj0 ["machine","y","z"] ["machine","y","z"] (Zh0 (top 107)):=by decide +kernel
theorem ok_fun {f C:Addr}{fd:FuncData} (F:Fun K "fun" "fun" (top 107) f fd) (gu:gUn P w K mg base):FnW P w K mg base 4 f fd ["machine","y","z"] (Ja0 C (Ye0 fun y z=>if Kg22.compare_ y z=none then 1 else 0)):=by
 exists sc_fun,Zy0
 obtain ⟨d,m,b,y,z,rfl,R,hy,hz,q⟩:=h
 refine ⟨_,Ze0 (Zk0 (Xx0 (Zs0 (Zb0 gu hr Zf0 (Za0 (pv 1) (Za0 (pv 2) Zc0))) (fun _=>rfl)) Zg0 Zg0)),?_⟩
 unfold Ye0 at q
 dsimp only at q
 have q:=q.here R
 refine ⟨_,rfl,_,rfl,y,z,rfl,hy,hz,_,rfl,?_⟩
 refine Xb0 (fun hc=>?_) (fun hc=>?_)
 ·rw [if_pos (Xg1 (Xd2 hc))] at q
  exact q
 ·obtain ⟨n1,n2⟩:=Xe2 hc
  rw [if_neg (by rw [Jn1 n1 n2];intro z;cases z)] at q
  exact q
theorem Yx7:Zj0 ["machine","y","z"] ["machine","y","z"] (Zh0 (top 108)):=by decide +kernel
theorem Uk7 {f C:Addr}{fd:FuncData} (F:Fun K "feql" "feql" (top 108) f fd) (gu:gUn P w K mg base) (gr:gRank P w K mg base):FnW P w K mg base 4 f fd ["machine","y","z"] (Ja0 C (Ye0 fun y z=>if Kg22.compare_ y z=some 0 then 1 else 0)):=by
 exists Yx7,Zy0
 obtain ⟨d,m,b,y,z,rfl,R,hy,hz,q⟩:=h
 refine ⟨_,Zd0 (Yb0 (Zs0 (Zb0 gu hr Zf0 (Za0 (pv 1) (Za0 (pv 2) Zc0))) (fun _=>rfl)) (Ze0 (Zk0 Zg0)) Zq0)
  (Ze0 (Zk0 (Xx0 (Zt0 Xj0 (Zb0 gr hr Zf0 (Za0 (pv 1) Zc0)) (Zb0 gr hr Zf0 (Za0 (pv 2) Zc0)) (Zv0 _)) Zg0 Zg0))),?_⟩
 unfold Ye0 at q
 dsimp only at q
 have q:=q.here R
 refine ⟨_,rfl,_,rfl,y,z,rfl,hy,hz,_,rfl,?_⟩
 refine Xb0 (fun hc=>?_) (fun hc=>?_)
 ·rw [Xg1 (Xd2 hc),if_neg (by intro z;cases z)] at q
  exact q
 ·obtain ⟨n1,n2⟩:=Xe2 hc
  rw [Jn1 n1 n2] at q
  refine ⟨_,rfl,y,rfl,hy,_,rfl,z,rfl,hz,rfl,_,rfl,?_⟩
  rw [Xn4]
  refine Xb0 (fun hd=>?_) (fun hd=>?_)
  ·have hd':Yo4 y=Yo4 z:=of_decide_eq_true hd
   rw [if_neg (show ¬ Yo4 y<Yo4 z by lia),if_pos hd',if_pos rfl] at q
   exact q
  ·have hd':¬ Yo4 y=Yo4 z:=fun e=>hd (decide_eq_true e)
   rw [if_neg hd'] at q
   rw [if_neg (by split <;> (intro e;injection e with e;lia))] at q
   exact q
theorem sN_eq (a b:Bool):decide (sN a=sN b)=decide (a=b):=by cases a <;> cases b <;> rfl
theorem Yg1 (m:KM):KZ m<4:=Nat.mod_lt _ (by decide)
theorem Ub5 (a b:Int):(if b<a then b else a)=min a b:=by
 by_cases h:b<a
 ·rw [if_pos h];lia
 ·rw [if_neg h];lia
theorem Xl4 (y z:Nat):min (Xu0 y) (Xu0 z)=((min (Vz0 y) (Vz0 z):Nat):Int)-1074:=by unfold Xu0;lia
theorem Xs2 (b e:Nat):Yo0 (Yd0 b e)≤2100:=by
 unfold Yd0
 have h1:=Vj0 b
 have h2:=Xl2 b
 by_cases h0:mant b=0
 ·rw [h0,Nat.zero_mul];exact Nat.zero_le _
 ·rw [Yz0 h0]
  have:=Zr0.mp h1
  lia
theorem Xf3 (b e:Nat):Yd0 b e<2^2100:=Zr0.mpr (Xs2 b e)
theorem Xy1 (b e:Nat):(Yk0 b e).natAbs=Yd0 b e:=by
 unfold Yk0
 split
 ·rw [Int.natAbs_neg,Int.natAbs_natCast]
 ·rw [Int.natAbs_natCast]
theorem Zl6 (y z e:Nat):Yo0 (Yk0 y e+Yk0 z e).natAbs≤9000:=by
 have h1:=Xf3 y e
 have h2:=Xf3 z e
 have h3:(Yk0 y e+Yk0 z e).natAbs≤Yd0 y e+Yd0 z e:=by
  have:=Int.natAbs_add_le (Yk0 y e) (Yk0 z e)
  rw [Xy1,Xy1] at this
  exact this
 have h4:(Yk0 y e+Yk0 z e).natAbs<2^2101:=by
  rw [Nat.pow_succ]
  generalize 2^2100=X at *
  lia
 exact Nat.le_trans (Zr0.mp h4) (by decide)
theorem Xk1 (t:Int):(if t<0 then -t else t)=((t.natAbs:Nat):Int):=by split <;> lia
variable (P w K mg base) in abbrev gMant:=gB P w K mg base "mantissa_of" 2 fun b=>iv (mant b)
variable (P w K mg base) in abbrev gExp:=gB P w K mg base "exponent_of" 2 fun b=>.int (Xu0 b)
variable (P w K mg base) in abbrev gInf:=gB P w K mg base "is_infinite" 2 fun b=>.bl (KO b)
variable (P w K mg base) in abbrev gZero:=gB P w K mg base "is_zero" 2 fun b=>.bl (decide (KR b=0))
variable (P w K mg base) in abbrev gRnd (C:Addr):=MG P w K mg base C "rounding" 1 ["self"] (Uj2 C)
variable (P w K mg base) in abbrev gMade (C:Addr):=FG P w K mg base "made" 4 ["machine","sign","mantissa","exponent","mode"] (Uf6 C)
inductive Yd4 (vs:List V) (H:Hp) (Q:VK) (_:XK):Prop |mk (b e:Nat) (_:vs=[iv b,.int ((e:Int)-1074)]) (_:b<2^64) (_:e≤Vz0 b) (_:Q (.int (Yk0 b e)) H)
theorem Xh3:Zj0 ["word","exponent","size"] ["word","exponent"] (Zh0 (top 109)):=by decide +kernel
theorem Vk5 {f:Addr}{fd:FuncData} (F:Fun K "scaled" "scaled" (top 109) f fd) (gm:gMant P w K mg base) (ge:gExp P w K mg base) (gs:gSgn P w K mg base):FnW P w K mg base 3 f fd ["word","exponent"] Yd4:=by
 exists Xh3,(by rintro vs H Q E ⟨b,e,rfl,_⟩;rfl)
 obtain ⟨b,e,rfl,hb,he,q⟩:=h
 refine ⟨_,Zd0 (Zp0 (i:=2) Xh3.nd rfl (Or.inl rfl) (Zl0 Vr1 (Zb0 gm hr Zf0 (Za0 (pv 0) Zc0)) (Zl0 Xe0 (Zb0 ge hr Zf0 (Za0 (pv 0) Zc0)) (pv 1))))
  (Ze0 (Zk0 (Xx0 (Zs0 (Zb0 gs hr Zf0 (Za0 (pv 0) Zc0)) (fun _=>rfl)) (Xc1 Jg0 (pv 2)) (pv 2)))),?_⟩
 have h1:=Xl2 b
 have h2:=Zr0.mp (Vj0 b)
 refine ⟨_,rfl,b,rfl,hb,_,rfl,b,rfl,hb,_,rfl,_,_,rfl,rfl,Xh7 rfl rfl ?_⟩
 have ej:Xu0 b-((e:Int)-1074)=((Vz0 b-e:Nat):Int):=by unfold Xu0;lia
 rw [ej]
 refine ⟨⟨by lia,by rw [Ua0];lia⟩,?_⟩
 have es:((mant b:Nat):Int)*2^(((Vz0 b-e:Nat):Int)).toNat=((Yd0 b e:Nat):Int):=by
  unfold Yd0;rw [Int.toNat_natCast,Int.natCast_mul,Int.natCast_pow];rfl
 rw [es]
 refine ⟨_,rfl,b,rfl,hb,_,rfl,?_⟩
 show if ((((sN (KA b):Nat):Int)) != 0)=true then _ else _
 rw [Zz4]
 unfold Yk0 at q
 refine Xb0 (fun hc=>?_) (fun hc=>?_)
 ·rw [if_pos hc] at q
  exact ⟨_,rfl,_,rfl,q⟩
 ·rw [if_neg hc] at q
  exact ⟨_,rfl,q⟩
variable (P w K mg base) in abbrev gScaled:=FG P w K mg base "scaled" 3 ["word","exponent"] Yd4
def Jy4:Op:=fun m y z=>(m,if KA y=KA z then y else if KZ m=3 then 2^63 else 0)
theorem Jc3:Zj0 ["machine","y","z"] ["machine","y","z"] (Zh0 (top 110)):=by decide +kernel
theorem Jt3 {f C:Addr}{fd:FuncData} (F:Fun K "sum_that_is_zero" "sum_that_is_zero" (top 110) f fd) (T:Txt K mg C) (T6:Ze2 mg) (gs:gSgn P w K mg base) (gr:gRnd P w K mg base C):FnW P w K mg base 2 f fd ["machine","y","z"] (Ja0 C Jy4):=by
 exists Jc3,Zy0
 obtain ⟨d,m,b,y,z,rfl,R,hy,hz,q⟩:=h
 refine ⟨_,Zd0 (Yb0 (Zt0 Xj0 (Zb0 gs hr Zf0 (Za0 (pv 1) Zc0)) (Zb0 gs hr Zf0 (Za0 (pv 2) Zc0)) (Zv0 _)) (Ze0 (Zk0 (pv 1))) Zq0)
  (Ze0 (Zk0 (Xx0 (Zt0 Xj0 (Up0 (pv 0) T.cl gr hr Zf0) (Zo0 T6.down) (Zv0 _)) (Zo0 T6.sign) Zg0))),?_⟩
 have q:=q.here R
 unfold Jy4 at q
 dsimp only at q
 refine ⟨_,rfl,y,rfl,hy,_,rfl,z,rfl,hz,rfl,_,rfl,?_⟩
 rw [Yj0,sN_eq]
 refine Xb0 (fun hc=>?_) (fun hc=>?_)
 ·rw [if_pos (of_decide_eq_true hc)] at q
  exact ⟨_,rfl,q⟩
 ·rw [if_neg (fun e=>hc (decide_eq_true e))] at q
  refine ⟨_,rfl,d.M,d.dx,_,rfl,R.obj,rfl,d,m,b,rfl,R,rfl,_,rfl,?_⟩
  rw [show (V.int 3)=V.int ((3:Nat):Int) from rfl,Yj0]
  refine Xb0 (fun hd=>?_) (fun hd=>?_)
  ·rw [if_pos (of_decide_eq_true hd)] at q
   exact q
  ·rw [if_neg (fun e=>hd (decide_eq_true e))] at q
   exact q
def Zm5 (mode a b:Nat):KJ:=Kg22.ofInt mode (if Kg22.units a=0∧Kg22.units b=0∧KA a=KA b then KA a else mode == 3) (Kg22.value a+Kg22.value b)
theorem Uh1:Zj0 ["machine","y","z","exponent","total"] ["machine","y","z"] (Zh0 (top 111)):=by decide +kernel
theorem Jx4 {y:Nat} (hy:y<2^64) (h:KR y=0):y=Kg22.withSign (KA y) 0:=by
 unfold KR Kg22.SIGN at h
 unfold Kg22.withSign KA Kg22.SIGN
 by_cases z:2^63≤y
 ·rw [decide_eq_true z,if_pos rfl];lia
 ·rw [decide_eq_false z,if_neg (by decide)];lia
theorem Um3 {mode y z e:Nat} (hy:y<2^64) (h1:e≤Vz0 y) (h2:e≤Vz0 z) (h:Yk0 y e+Yk0 z e=0) :
  (if KA y=KA z then y else if mode=3 then 2^63 else 0)=Kg22.withSign (if Kg22.units y=0∧Kg22.units z=0∧KA y=KA z then KA y else mode == 3) 0:=by
 by_cases hn:KA y=KA z
 ·have both:Yd0 y e=0∧Yd0 z e=0:=by
   unfold Yk0 at h
   rw [← hn] at h
   by_cases hs:KA y=true
   ·rw [if_pos hs,if_pos hs] at h;lia
   ·rw [if_neg hs,if_neg hs] at h;lia
  have u1:Kg22.units y=0:=by rw [Vg0 h1,both.1,Nat.zero_mul]
  have u2:Kg22.units z=0:=by rw [Vg0 h2,both.2,Nat.zero_mul]
  rw [if_pos hn,if_pos ⟨u1,u2,hn⟩]
  exact Jx4 hy (Ja1.mp u1)
 ·have hn':¬ (Kg22.units y=0∧Kg22.units z=0∧KA y=KA z):=fun e=>hn e.2.2
  rw [if_neg hn,if_neg hn']
  by_cases hm:mode=3
  ·rw [if_pos hm,hm];rfl
  ·rw [if_neg hm,show (mode == 3)=false from beq_eq_false_iff_ne.mpr hm];rfl
theorem Zo3 {f C:Addr}{fd:FuncData} (F:Fun K "finite_sum" "finite_sum" (top 111) f fd) (T:Txt K mg C) (T6:Ze2 mg) (ge:gExp P w K mg base) (gs:gScaled P w K mg base) (gz:FG P w K mg base "sum_that_is_zero" 2 ["machine","y","z"] (Ja0 C Jy4)) (gr:gRnd P w K mg base C) (gm:gMade P w K mg base C) :
  FnW P w K mg base 5 f fd ["machine","y","z"] (Ja0 C (Uh0 Zm5)):=by
 exists Uh1,Zy0
 obtain ⟨d,m,b,y,z,rfl,R,hy,hz,q⟩:=h
 have nd:=Uh1.nd
 refine ⟨_,Zd0 (Zp0 (i:=3) nd rfl (Or.inl rfl) (Yl0 (Zc1 rfl) (by rfl) T6.min boot_min (Za0 (Zb0 ge hr Zf0 (Za0 (pv 1) Zc0)) (Za0 (Zb0 ge hr Zf0 (Za0 (pv 2) Zc0)) Zc0))))
  (Zd0 (Zp0 (i:=4) nd rfl (Or.inl rfl) (Zl0 Yy0 (Zb0 gs hr Zf0 (Za0 (pv 1) (Za0 (pv 3) Zc0))) (Zb0 gs hr Zf0 (Za0 (pv 2) (Za0 (pv 3) Zc0)))))
  (Zd0 (Yb0 (Zt0 Xj0 (pv 4) Zg0 (Zv0 _)) (Ze0 (Zk0 (Zb0 gz hr Zf0 (Za0 (pv 0) (Za0 (pv 1) (Za0 (pv 2) Zc0)))))) Zq0)
  (Ze0 (Zk0 (Zb0 gm hr Zf0 (Za0 (pv 0) (Za0 (Xx0 (Zt0 Ye1 (pv 4) Zg0 (Zv0 _)) Zg0 Zg0) (Za0 (Yl0 Uv1 (by rfl) T6.abs boot_abs (Za0 (pv 4) Zc0)) (Za0 (pv 3) (Za0 (Up0 (pv 0) T.cl gr hr Zf0) Zc0)))))))))),?_⟩
 refine ⟨_,rfl,y,rfl,hy,_,rfl,z,rfl,hz,_,_,rfl,?_⟩
 rw [Ub5,Xl4]
 have e1:min (Vz0 y) (Vz0 z)≤Vz0 y:=Nat.min_le_left _ _
 have e2:min (Vz0 y) (Vz0 z)≤Vz0 z:=Nat.min_le_right _ _
 have e3:=Xl2 y
 unfold Uh0 Zm5 at q
 rw [sum_eq _ _ e1 e2] at q
 generalize min (Vz0 y) (Vz0 z)=e at *
 refine ⟨_,rfl,_,rfl,y,e,rfl,hy,e1,_,rfl,_,rfl,z,e,rfl,hz,e2,_,_,rfl,rfl,?_⟩
 refine ⟨_,rfl,rfl,_,rfl,?_⟩
 rw [Xn4]
 refine Xb0 (fun hc=>?_) (fun hc=>?_)
 ·have hc':Yk0 y e+Yk0 z e=0:=of_decide_eq_true hc
  rw [if_pos hc'] at q
  dsimp only at q
  rw [Yt0,← Um3 hy e1 e2 hc'] at q
  exact ⟨_,rfl,_,rfl,_,rfl,d,m,b,y,z,rfl,R,hy,hz,q⟩
 ·have hc':¬ Yk0 y e+Yk0 z e=0:=fun x=>hc (decide_eq_true x)
  rw [if_neg hc'] at q
  have sb:=Zl6 y z e
  refine ⟨_,rfl,_,rfl,_,_,rfl,rfl,_,rfl,?_⟩
  refine Xb0 (fun hd=>?_) (fun hd=>?_)
  ·have hd':Yk0 y e+Yk0 z e<0:=of_decide_eq_true hd
   rw [decide_eq_true hd'] at q
   refine ⟨_,rfl,_,rfl,?_⟩
   rw [Xk1]
   exact ⟨_,rfl,_,rfl,d.M,d.dx,_,rfl,R.obj,rfl,d,m,b,rfl,R,d,m,b,true,(Yk0 y e+Yk0 z e).natAbs,(e:Int)-1074,KZ m,rfl,R,Yg1 m,sb,by lia,by lia,q⟩
  ·have hd':¬ Yk0 y e+Yk0 z e<0:=fun x=>hd (decide_eq_true x)
   rw [decide_eq_false hd'] at q
   refine ⟨_,rfl,_,rfl,?_⟩
   rw [Xk1]
   exact ⟨_,rfl,_,rfl,d.M,d.dx,_,rfl,R.obj,rfl,d,m,b,rfl,R,d,m,b,false,(Yk0 y e+Yk0 z e).natAbs,(e:Int)-1074,KZ m,rfl,R,Yg1 m,sb,by lia,by lia,q⟩
theorem Yf1 {a b:Nat}{o:KJ} (h:KW a=true∨KW b=true):Kg22.nans a b o=Ur1 a b:=by
 unfold Kg22.nans Ur1 Um6
 rw [if_pos h]
theorem Xc2 {a b:Nat}{o:KJ} (h:KW a=false∧KW b=false):Kg22.nans a b o=o:=by
 unfold Kg22.nans
 rw [if_neg (by rw [h.1,h.2];decide)]
theorem Zw3 {b:Nat} (h:KO b=true):KR b=Kg22.INF:=beq_iff_eq.mp h
theorem Ud2 {b:Nat} (h:b<2^64):b=Kg22.withSign (KA b) (KR b):=by
 unfold Kg22.withSign KA KR Kg22.SIGN
 by_cases z:2^63≤b
 ·rw [decide_eq_true z,if_pos rfl];lia
 ·rw [decide_eq_false z,if_neg (by decide)];lia
theorem Jf6 {y z:Nat} (hy:y<2^64) (hz:z<2^64) (h1:KO y=true) (h2:KO z=true):y=z↔KA y=KA z:=by
 constructor
 ·intro e;rw [e]
 ·intro e
  rw [Ud2 hy,Ud2 hz,Zw3 h1,Zw3 h2,e]
theorem Vx3 {b:Nat} (h1:KW b=false) (h2:KO b=false):Ym3 b:=by
 unfold Ym3
 have a1:¬ Kg22.INF<KR b:=of_decide_eq_false h1
 have a2:KR b≠Kg22.INF:=beq_eq_false_iff_ne.mp h2
 lia
theorem Jm0 {b:Bool} (h:¬ b=true):b=false:=by cases b;rfl;exact absurd rfl h
theorem Ja5 {b:Nat} (h:b<2^64):Kg22.flip b<2^64:=by
 unfold Kg22.flip KA Kg22.SIGN
 by_cases z:2^63≤b
 ·rw [decide_eq_true z,if_pos rfl];lia
 ·rw [decide_eq_false z,if_neg (by decide)];lia
theorem Vs3 {b:Nat} (h:b<2^64):KR (Kg22.flip b)=KR b:=by
 unfold Kg22.flip KA KR Kg22.SIGN
 by_cases z:2^63≤b
 ·rw [decide_eq_true z,if_pos rfl];exact (Nat.mod_eq_sub_mod z).symm
 ·rw [decide_eq_false z,if_neg (by decide)];exact Nat.add_mod_right _ _
theorem Xj4 {b:Nat} (h:b<2^64):KW (Kg22.flip b)=KW b:=by unfold KW;rw [Vs3 h]
theorem Vu6 {mode a b:Nat} (h:b<2^64):Kg22.sub mode a b=Kg22.add mode a (Kg22.flip b):=by
 unfold Kg22.sub
 by_cases n:KW b=true
 ·rw [if_pos n]
  unfold Kg22.add
  rw [Yf1 (.inr n),Yf1 (.inr (by rw [Xj4 h];exact n))]
  unfold Ur1 Um6
  rw [Xj4 h,Vs3 h]
 ·rw [if_neg n]
theorem Xx6 {z:Nat} (h:z<2^64):z^^^2^63=Kg22.flip z:=by
 have e:=Zs2 z (2^63)
 have e1:z&&&2^63=(z/2^63%2)*2^63:=by
  have:=Zr2 z 1 63
  simpa using this
 rw [e1] at e
 unfold Kg22.flip KA Kg22.SIGN
 by_cases q:2^63≤z
 ·rw [decide_eq_true q,if_pos rfl]
  have:z/2^63%2=1:=by lia
  rw [this] at e
  lia
 ·rw [decide_eq_false q,if_neg (by decide)]
  have:z/2^63%2=0:=by lia
  rw [this] at e
  lia
theorem Vo6 (a b:Bool):Builtin.bitXor ((sN a:Nat):Int) ((sN b:Nat):Int)=((sN (a != b):Nat):Int):=by cases a <;> cases b <;> rfl
variable (P w K mg base) in abbrev gNo (C:Addr):=FG P w K mg base "no_number_of" 4 ["machine","y","z"] (Ja0 C (Uh0 fun _ y z=>Ur1 y z))
variable (P w K mg base) in abbrev gInv (C:Addr):=FG P w K mg base "invalid" 2 ["machine"] (Xc3 C)
theorem Yz7:Zj0 ["machine","y","z"] ["machine","y","z"] (Zh0 (top 112)):=by decide +kernel
theorem Un7 {f C:Addr}{fd:FuncData} (F:Fun K "fadd" "fadd" (top 112) f fd) (gu:gUn P w K mg base) (gn:gNo P w K mg base C) (gi:gInf P w K mg base) (gv:gInv P w K mg base C) (gs:FG P w K mg base "finite_sum" 5 ["machine","y","z"] (Ja0 C (Uh0 Zm5))) :
  FnW P w K mg base 6 f fd ["machine","y","z"] (Ja0 C (Uh0 Kg22.add)):=by
 exists Yz7,Zy0
 obtain ⟨d,m,b,y,z,rfl,R,hy,hz,q⟩:=h
 refine ⟨_,Zd0 (Yb0 (Zs0 (Zb0 gu hr Zf0 (Za0 (pv 1) (Za0 (pv 2) Zc0))) (fun _=>rfl)) (Ze0 (Zk0 (Zb0 gn hr Zf0 (Za0 (pv 0) (Za0 (pv 1) (Za0 (pv 2) Zc0)))))) Zq0)
  (Zd0 (Yb0 (PW.pt (Uk1 (Zs0 (Zb0 gi hr Zf0 (Za0 (pv 1) Zc0)) (fun _=>rfl)) (Uk1 (Zs0 (Zb0 gi hr Zf0 (Za0 (pv 2) Zc0)) (fun _=>rfl)) (Xa1 (Zt0 Vd5 (pv 1) (pv 2) (Zv0 _)))))) (Ze0 (Zk0 (Zb0 gv hr Zf0 (Za0 (pv 0) Zc0)))) Zq0)
  (Zd0 (Yb0 (Zs0 (Zb0 gi hr Zf0 (Za0 (pv 1) Zc0)) (fun _=>rfl)) (Ze0 (Zk0 (pv 1))) Zq0)
  (Zd0 (Yb0 (Zs0 (Zb0 gi hr Zf0 (Za0 (pv 2) Zc0)) (fun _=>rfl)) (Ze0 (Zk0 (pv 2))) Zq0)
  (Ze0 (Zk0 (Zb0 gs hr Zf0 (Za0 (pv 0) (Za0 (pv 1) (Za0 (pv 2) Zc0))))))))),?_⟩
 unfold Uh0 Kg22.add at q
 refine ⟨_,rfl,_,rfl,y,z,rfl,hy,hz,_,rfl,?_⟩
 refine Xb0 (fun hc=>?_) (fun hc=>?_)
 ·rw [Yf1 (Xd2 hc)] at q
  exact ⟨_,rfl,_,rfl,_,rfl,d,m,b,y,z,rfl,R,hy,hz,q⟩
 ·have nn:=Xe2 hc
  rw [Xc2 nn] at q
  simp only [Uc1,Zq1,Xw2,Ui3]
  refine Jm2 (a:=KO y) (b:=KO z && !decide (y=z)) (fun Q' q'=>⟨_,rfl,y,rfl,hy,_,rfl,q'⟩) (fun Q' q'=>?_) ?_
  ·refine Jm2 (a:=KO z) (b:=!decide (y=z)) (fun Q' q'=>⟨_,rfl,z,rfl,hz,_,rfl,q'⟩) (fun Q' q'=>⟨_,rfl,_,rfl,rfl,_,rfl,?_⟩) q'
   rw [Yj0];exact q'
  ·by_cases i1:KO y=true
   ·by_cases i2:KO z=true
    ·rw [if_pos ⟨i1,i2⟩] at q
     rw [i1,i2]
     by_cases e:y=z
     ·rw [if_pos ((Jf6 hy hz i1 i2).mp e)] at q
      dsimp only at q
      rw [Yt0] at q
      rw [decide_eq_true e]
      refine ⟨_,rfl,y,rfl,hy,_,rfl,?_⟩
      refine Xb0 (fun _=>⟨_,rfl,q.here R⟩) (fun n=>absurd i1 n)
     ·rw [if_neg (fun x=>e ((Jf6 hy hz i1 i2).mpr x))] at q
      rw [decide_eq_false e]
      exact ⟨_,rfl,d,m,b,rfl,R,q⟩
    ·rw [if_neg (fun x=>i2 x.2),if_pos i1] at q
     dsimp only at q
     rw [Yt0] at q
     rw [i1,Jm0 i2]
     refine ⟨_,rfl,y,rfl,hy,_,rfl,?_⟩
     refine Xb0 (fun _=>⟨_,rfl,q.here R⟩) (fun n=>absurd i1 n)
   ·rw [if_neg (fun x=>i1 x.1),if_neg i1] at q
    rw [Jm0 i1]
    refine ⟨_,rfl,y,rfl,hy,_,rfl,?_⟩
    refine Xb0 (fun x=>absurd x i1) (fun _=>?_)
    refine ⟨_,rfl,z,rfl,hz,_,rfl,?_⟩
    refine Xb0 (fun i2=>?_) (fun i2=>?_)
    ·rw [if_pos i2] at q
     dsimp only at q
     rw [Yt0] at q
     exact ⟨_,rfl,q.here R⟩
    ·rw [if_neg i2] at q
     exact ⟨_,rfl,_,rfl,_,rfl,d,m,b,y,z,rfl,R,hy,hz,q⟩
theorem Yt7:Zj0 ["machine","y","z"] ["machine","y","z"] (Zh0 (top 113)):=by decide +kernel
theorem Ud7 {f C:Addr}{fd:FuncData} (F:Fun K "fsub" "fsub" (top 113) f fd) (T6:Ze2 mg) (ga:FG P w K mg base "fadd" 6 ["machine","y","z"] (Ja0 C (Uh0 Kg22.add))):FnW P w K mg base 7 f fd ["machine","y","z"] (Ja0 C (Uh0 Kg22.sub)):=by
 exists Yt7,Zy0
 obtain ⟨d,m,b,y,z,rfl,R,hy,hz,q⟩:=h
 refine ⟨_,Ze0 (Zk0 (Zb0 ga hr Zf0 (Za0 (pv 0) (Za0 (pv 1) (Za0 (Zl0 Zt1 (pv 2) (Zo0 T6.sign)) Zc0))))),?_⟩
 unfold Uh0 at q
 dsimp only at q
 rw [Vu6 hz] at q
 refine ⟨_,rfl,_,rfl,_,rfl,_,_,rfl,rfl,d,m,b,y,Kg22.flip z,?_,R,hy,Ja5 hz,q⟩
 have e:Builtin.bitXor (z:Int) 9223372036854775808=((Kg22.flip z:Nat):Int):=by
  have e9:(9223372036854775808:Int)=((2^63:Nat):Int):=by decide
  rw [← Xx6 hz,e9,Zw1]
 show [V.ref d.M,iv y,V.int (Builtin.bitXor (z:Int) 9223372036854775808)]=_
 rw [e]
theorem Xf5:Zj0 ["machine","y","z","sign","exponent"] ["machine","y","z"] (Zh0 (top 114)):=by decide +kernel
theorem Zl1 (b:Nat):-1074≤Xu0 b∧Xu0 b≤973:=by have:=Xl2 b;unfold Xu0;lia
theorem Ym1:Kg22.INF<2^63:=by decide
theorem Uf7 {f C:Addr}{fd:FuncData} (F:Fun K "fmul" "fmul" (top 114) f fd) (T:Txt K mg C) (T6:Ze2 mg) (gu:gUn P w K mg base) (gn:gNo P w K mg base C) (gs:gSgn P w K mg base) (gi:gInf P w K mg base) (gz:gZero P w K mg base) (gv:gInv P w K mg base C) (gw:gWithSign P w K mg base) (ge:gExp P w K mg base) (gm:gMant P w K mg base)
  (gr:gRnd P w K mg base C) (gd:gMade P w K mg base C):FnW P w K mg base 5 f fd ["machine","y","z"] (Ja0 C (Uh0 Kg22.mul)):=by
 exists Xf5,Zy0
 obtain ⟨d,m,b,y,z,rfl,R,hy,hz,q⟩:=h
 have nd:=Xf5.nd
 refine ⟨_,Zd0 (Yb0 (Zs0 (Zb0 gu hr Zf0 (Za0 (pv 1) (Za0 (pv 2) Zc0))) (fun _=>rfl)) (Ze0 (Zk0 (Zb0 gn hr Zf0 (Za0 (pv 0) (Za0 (pv 1) (Za0 (pv 2) Zc0)))))) Zq0)
  (Zd0 (Zp0 (i:=3) nd rfl (Or.inl rfl) (Zl0 Zt1 (Zb0 gs hr Zf0 (Za0 (pv 1) Zc0)) (Zb0 gs hr Zf0 (Za0 (pv 2) Zc0))))
  (Zd0 (Yb0 (PW.pt (Yz1 (Zs0 (Zb0 gi hr Zf0 (Za0 (pv 1) Zc0)) (fun _=>rfl)) (Zi1 (Zs0 (Zb0 gi hr Zf0 (Za0 (pv 2) Zc0)) (fun _=>rfl)))))
   (Zd0 (Yb0 (PW.pt (Yz1 (Zs0 (Zb0 gz hr Zf0 (Za0 (pv 1) Zc0)) (fun _=>rfl)) (Zi1 (Zs0 (Zb0 gz hr Zf0 (Za0 (pv 2) Zc0)) (fun _=>rfl))))) (Ze0 (Zk0 (Zb0 gv hr Zf0 (Za0 (pv 0) Zc0)))) Zq0)
    (Ze0 (Zk0 (Zb0 gw hr Zf0 (Za0 (pv 3) (Za0 (Zo0 T6.inf) Zc0)))))) Zq0)
  (Zd0 (Zp0 (i:=4) nd rfl (Or.inl rfl) (Zl0 Yy0 (Zb0 ge hr Zf0 (Za0 (pv 1) Zc0)) (Zb0 ge hr Zf0 (Za0 (pv 2) Zc0))))
  (Ze0 (Zk0 (Zb0 gd hr Zf0 (Za0 (pv 0) (Za0 (pv 3) (Za0 (Zl0 Vq0 (Zb0 gm hr Zf0 (Za0 (pv 1) Zc0)) (Zb0 gm hr Zf0 (Za0 (pv 2) Zc0))) (Za0 (pv 4) (Za0 (Up0 (pv 0) T.cl gr hr Zf0) Zc0))))))))))),?_⟩
 unfold Uh0 Kg22.mul at q
 refine ⟨_,rfl,_,rfl,y,z,rfl,hy,hz,_,rfl,?_⟩
 refine Xb0 (fun hc=>?_) (fun hc=>?_)
 ·rw [Yf1 (Xd2 hc)] at q
  exact ⟨_,rfl,_,rfl,_,rfl,d,m,b,y,z,rfl,R,hy,hz,q⟩
 ·have nn:=Xe2 hc
  rw [Xc2 nn] at q
  dsimp only at q
  refine ⟨_,rfl,y,rfl,hy,_,rfl,z,rfl,hz,_,_,rfl,rfl,?_⟩
  dsimp only
  rw [Vo6]
  generalize (KA y != KA z)=sg at *
  simp only [Uc1,Zq1,Xw2,Ui3]
  refine Uh3 (a:=KO y) (b:=KO z) (fun Q' q'=>⟨_,rfl,y,rfl,hy,_,rfl,q'⟩) (fun Q' q'=>⟨_,rfl,z,rfl,hz,_,rfl,q'⟩) ?_
  refine Xb0 (fun hi=>?_) (fun hi=>?_)
  ·rw [if_pos (show KO y=true∨KO z=true by rw [Bool.or_eq_true] at hi;exact hi)] at q
   refine Uh3 (a:=decide (KR y=0)) (b:=decide (KR z=0)) (fun Q' q'=>⟨_,rfl,y,rfl,hy,_,rfl,q'⟩) (fun Q' q'=>⟨_,rfl,z,rfl,hz,_,rfl,q'⟩) ?_
   refine Xb0 (fun hz0=>?_) (fun hz0=>?_)
   ·rw [if_pos (show KR y=0∨KR z=0 by rw [Bool.or_eq_true] at hz0;exact hz0.imp of_decide_eq_true of_decide_eq_true)] at q
    exact ⟨_,rfl,d,m,b,rfl,R,q⟩
   ·rw [if_neg (show ¬ (KR y=0∨KR z=0) from fun x=>hz0 (by rw [Bool.or_eq_true];exact x.imp decide_eq_true decide_eq_true))] at q
    dsimp only at q
    rw [Yt0] at q
    exact ⟨_,rfl,sg,Kg22.INF,rfl,Ym1,q.here R⟩
  ·rw [if_neg (show ¬ (KO y=true∨KO z=true) from fun x=>hi (by rw [Bool.or_eq_true];exact x))] at q
   have e0:(if KR y=0∨KR z=0 then (Kg22.withSign sg 0,0) else Kg22.rounded (KZ m) sg (Kg22.units y*Kg22.units z) Kg22.ONE)=Xk0 (KZ m) sg (mant y*mant z) (Xu0 y+Xu0 z):=by
    by_cases z0:KR y=0∨KR z=0
    ·rw [if_pos z0]
     have:mant y*mant z=0:=by
      rcases z0 with x | x
      ·rw [Vi0.mpr x,Nat.zero_mul]
      ·rw [Vi0.mpr x,Nat.mul_zero]
     rw [this,Us1]
    ·rw [if_neg z0,mul_eq]
   rw [e0] at q
   clear e0
   have l1:=Vj0 y
   have l2:=Vj0 z
   have r1:=Zl1 y
   have r2:=Zl1 z
   refine ⟨_,rfl,y,rfl,hy,_,rfl,z,rfl,hz,_,_,rfl,rfl,?_⟩
   refine ⟨_,rfl,_,rfl,_,rfl,y,rfl,hy,_,rfl,z,rfl,hz,_,_,rfl,rfl,.inl ⟨by lia,by lia⟩,?_⟩
   dsimp only
   rw [← Int.natCast_mul]
   have hb:Yo0 (mant y*mant z)≤9000:=by
    have:mant y*mant z<2^106:=by
     calc mant y*mant z<2^53*2^53:=Nat.mul_lt_mul'' l1 l2
      _=2^106:=by decide
    exact Nat.le_trans (Zr0.mp this) (by decide)
   have x1:-9000≤Xu0 y+Xu0 z:=by lia
   have x2:Xu0 y+Xu0 z≤9000:=by lia
   refine ⟨_,rfl,_,rfl,d.M,d.dx,_,rfl,R.obj,rfl,d,m,b,rfl,R,d,m,b,sg,mant y*mant z,Xu0 y+Xu0 z,KZ m,rfl,R,Yg1 m,hb,x1,x2,?_⟩
   exact q
theorem Ju2 (q r:Nat) (h:r<2):Builtin.bitOr ((q:Int)*2^(1:Int).toNat) (r:Int)=((2*q+r:Nat):Int):=by
 have e1:(q:Int)*2^(1:Int).toNat=((q*2^1:Nat):Int):=by norm_cast
 rw [e1,Yv0,Nat.or_comm,Za2 (show r<2^1 from h)]
 lia
def Zd3 (y z:Nat):Nat:=2*(mant y*2^128/mant z)+if mant y*2^128%mant z=0 then 0 else 1
theorem Xp3 (y z:Nat):Yo0 (mant y*2^128/mant z)≤181:=by
 have h:mant y*2^128<2^181:=by
  have:=Vj0 y
  calc mant y*2^128<2^53*2^128:=Nat.mul_lt_mul_of_pos_right this (Nat.two_pow_pos 128)
   _=2^181:=by decide
 exact Zr0.mp (Nat.lt_of_le_of_lt (Nat.div_le_self _ _) h)
theorem Ue4 (y z:Nat):Yo0 (Zd3 y z)≤9000:=by
 have h:=Zr0.mpr (Xp3 y z)
 have h2:Zd3 y z<2^183:=by
  unfold Zd3
  have:(if mant y*2^128%mant z=0 then 0 else 1)≤1:=by split <;> lia
  rw [show (2:Nat)^183=4*2^181 by decide]
  generalize (2:Nat)^181=X at *
  lia
 exact Nat.le_trans (Zr0.mp h2) (by decide)
inductive Vz6 (C:Addr) (vs:List V) (H:Hp) (Q:VK) (_:XK):Prop |mk (d:Ad) (m:KM) (b:Nat) (s:Bool) (y z:Nat) (_:vs=[.ref d.M,iv (sN s),iv y,iv z]) (_:Rep C H d m b) (_:y<2^64) (_:z<2^64) (_:KR z≠0) (_:Ub0 C H d (KF m (Xk0 (KZ m) s (Zd3 y z) (Xu0 y-Xu0 z-129)).2) b (Q (iv (Xk0 (KZ m) s (Zd3 y z) (Xu0 y-Xu0 z-129)).1)))
theorem Zh1:Zj0 ["machine","sign","y","z","dividend","divisor","rest","exponent"] ["machine","sign","y","z"] (Zh0 (top 115)):=by decide +kernel
theorem Uo1 {f C:Addr}{fd:FuncData} (F:Fun K "finite_quotient" "finite_quotient" (top 115) f fd) (T:Txt K mg C) (gm:gMant P w K mg base) (ge:gExp P w K mg base) (gr:gRnd P w K mg base C) (gd:gMade P w K mg base C):FnW P w K mg base 5 f fd ["machine","sign","y","z"] (Vz6 C):=by
 exists Zh1,(by rintro vs H Q E ⟨d,m,b,s,y,z,rfl,_⟩;rfl)
 obtain ⟨d,m,b,sg,y,z,rfl,R,hy,hz,hz0,q⟩:=h
 have nd:=Zh1.nd
 refine ⟨_,Zd0 (Zp0 (i:=4) nd rfl (Or.inl rfl) (Zl0 Vy0 (Zb0 gm hr Zf0 (Za0 (pv 2) Zc0)) Zg0))
  (Zd0 (Zp0 (i:=5) nd rfl (Or.inl rfl) (Zb0 gm hr Zf0 (Za0 (pv 3) Zc0)))
  (Zd0 (Zp0 (i:=6) nd rfl (Or.inl rfl) (Xx0 (Zt0 Xj0 (Zl0 Xv3 (pv 4) (pv 5)) Zg0 (Zv0 _)) Zg0 Zg0))
  (Zd0 (Zp0 (i:=7) nd rfl (Or.inl rfl) (Zl0 Xe0 (Zl0 Xe0 (Zb0 ge hr Zf0 (Za0 (pv 2) Zc0)) (Zb0 ge hr Zf0 (Za0 (pv 3) Zc0))) Zg0))
  (Ze0 (Zk0 (Zb0 gd hr Zf0 (Za0 (pv 0) (Za0 (pv 1) (Za0 (Zl0 Yd1 (Zl0 Vr1 (Zl0 Xv1 (pv 4) (pv 5)) Zg0) (pv 6)) (Za0 (pv 7) (Za0 (Up0 (pv 0) T.cl gr hr Zf0) Zc0))))))))))),?_⟩
 have l1:=Vj0 y
 have l2:=Vj0 z
 have r1:=Zl1 y
 have r2:=Zl1 z
 have mz:0<mant z:=Nat.pos_of_ne_zero (fun e=>hz0 (Vi0.mp e))
 have qb:=Xp3 y z
 have qn:=Ue4 y z
 refine ⟨_,rfl,y,rfl,hy,_,_,rfl,rfl,⟨by decide,by decide,by lia⟩,?_⟩
 have eD:((mant y:Nat):Int)*2^(128:Int).toNat=((mant y*2^128:Nat):Int):=by norm_cast
 dsimp only
 rw [eD]
 unfold Zd3 at q qn
 generalize mant y*2^128=D at *
 refine ⟨_,rfl,z,rfl,hz,?_⟩
 refine ⟨_,rfl,_,rfl,_,_,rfl,rfl,(by lia:(0:Int)<((mant z:Nat):Int)),rfl,_,rfl,?_⟩
 have em:decide (V.int ((D:Int)%((mant z:Nat):Int))=V.int 0)=decide (D%mant z=0):=Yj0 (D%mant z) 0
 show if decide (V.int ((D:Int)%((mant z:Nat):Int))=V.int 0)=true then _ else _
 rw [em]
 have lg:((mant z:Nat):Int).natAbs.log2<9000:=Uf5 (by lia) (by lia)
 have ed:Int.fdiv (D:Int) ((mant z:Nat):Int)=((D/mant z:Nat):Int):=by rw [Int.fdiv_eq_ediv_of_nonneg _ (by lia)];rfl
 have bq:((Builtin.Int.intBits ((D/mant z:Nat):Int):Nat):Int)+1≤2^27:=by rw [Ua0];lia
 refine Xb0 (fun hc=>?_) (fun hc=>?_)
 ·rw [if_pos (of_decide_eq_true hc)] at q qn
  refine ⟨_,rfl,y,rfl,hy,_,rfl,z,rfl,hz,_,_,rfl,rfl,_,_,rfl,rfl,?_⟩
  refine ⟨_,rfl,_,rfl,_,rfl,_,rfl,_,_,rfl,rfl,⟨by lia,lg⟩,Xh7 rfl rfl ?_⟩
  rw [ed]
  refine ⟨⟨by decide,bq⟩,_,rfl,_,_,rfl,rfl,?_⟩
  dsimp only
  rw [show (0:Int)=((0:Nat):Int) from rfl,Ju2 _ 0 (by decide)]
  exact ⟨_,rfl,_,rfl,d.M,d.dx,_,rfl,R.obj,rfl,d,m,b,rfl,R,d,m,b,sg,_,_,KZ m,rfl,R,Yg1 m,qn,by lia,by lia,q⟩
 ·rw [if_neg (fun e=>hc (decide_eq_true e))] at q qn
  refine ⟨_,rfl,y,rfl,hy,_,rfl,z,rfl,hz,_,_,rfl,rfl,_,_,rfl,rfl,?_⟩
  refine ⟨_,rfl,_,rfl,_,rfl,_,rfl,_,_,rfl,rfl,⟨by lia,lg⟩,Xh7 rfl rfl ?_⟩
  rw [ed]
  refine ⟨⟨by decide,bq⟩,_,rfl,_,_,rfl,rfl,?_⟩
  have e1:Builtin.bitOr (((D/mant z:Nat):Int)*2^(1:Int).toNat) 1=((2*(D/mant z)+1:Nat):Int):=Ju2 _ 1 (by decide)
  dsimp only
  rw [e1]
  exact ⟨_,rfl,_,rfl,d.M,d.dx,_,rfl,R.obj,rfl,d,m,b,rfl,R,d,m,b,sg,_,_,KZ m,rfl,R,Yg1 m,qn,by lia,by lia,q⟩
theorem Xj5:Zj0 ["machine","y","z","sign"] ["machine","y","z"] (Zh0 (top 116)):=by decide +kernel
theorem Je6 {b:Nat} (h:KO b=true):KR b≠0:=by rw [Zw3 h];decide
theorem Jm6 {a b:Prop} [Decidable a] [Decidable b] (h:(decide a || decide b)=true):a∨b:=by
 rw [Bool.or_eq_true] at h;exact h.imp of_decide_eq_true of_decide_eq_true
theorem Ul7 {f C:Addr}{fd:FuncData} (F:Fun K "fdiv" "fdiv" (top 116) f fd) (T:Txt K mg C) (T6:Ze2 mg) (gu:gUn P w K mg base) (gn:gNo P w K mg base C) (gs:gSgn P w K mg base) (gi:gInf P w K mg base) (gz:gZero P w K mg base) (gv:gInv P w K mg base C) (gw:gWithSign P w K mg base) (gA:gFlags P w K mg base C)
  (gq:FG P w K mg base "finite_quotient" 5 ["machine","sign","y","z"] (Vz6 C)):FnW P w K mg base 6 f fd ["machine","y","z"] (Ja0 C (Uh0 Kg22.div)):=by
 exists Xj5,Zy0
 obtain ⟨d,m,b,y,z,rfl,R,hy,hz,q⟩:=h
 have nd:=Xj5.nd
 refine ⟨_,Zd0 (Yb0 (Zs0 (Zb0 gu hr Zf0 (Za0 (pv 1) (Za0 (pv 2) Zc0))) (fun _=>rfl)) (Ze0 (Zk0 (Zb0 gn hr Zf0 (Za0 (pv 0) (Za0 (pv 1) (Za0 (pv 2) Zc0)))))) Zq0)
  (Zd0 (Zp0 (i:=3) nd rfl (Or.inl rfl) (Zl0 Zt1 (Zb0 gs hr Zf0 (Za0 (pv 1) Zc0)) (Zb0 gs hr Zf0 (Za0 (pv 2) Zc0))))
  (Zd0 (Yb0 (PW.pt (Yz1 (PW.pt (Uk1 (Zs0 (Zb0 gz hr Zf0 (Za0 (pv 1) Zc0)) (fun _=>rfl)) (Xa1 (Zs0 (Zb0 gz hr Zf0 (Za0 (pv 2) Zc0)) (fun _=>rfl))))) (Zi1 (PW.pt (Uk1 (Zs0 (Zb0 gi hr Zf0 (Za0 (pv 1) Zc0)) (fun _=>rfl)) (Xa1 (Zs0 (Zb0 gi hr Zf0 (Za0 (pv 2) Zc0)) (fun _=>rfl))))))))
   (Ze0 (Zk0 (Zb0 gv hr Zf0 (Za0 (pv 0) Zc0)))) Zq0)
  (Zd0 (Yb0 (Zs0 (Zb0 gi hr Zf0 (Za0 (pv 1) Zc0)) (fun _=>rfl)) (Ze0 (Zk0 (Zb0 gw hr Zf0 (Za0 (pv 3) (Za0 (Zo0 T6.inf) Zc0))))) Zq0)
  (Zd0 (Yb0 (Zs0 (Zb0 gz hr Zf0 (Za0 (pv 2) Zc0)) (fun _=>rfl)) (Zd0 (Zx0 (Zu0 (pv 0) T.cl gA hr Zf0 (Za0 (Zo0 T6.dz) Zc0))) (Ze0 (Zk0 (Zb0 gw hr Zf0 (Za0 (pv 3) (Za0 (Zo0 T6.inf) Zc0)))))) Zq0)
  (Zd0 (Yb0 (Zs0 (Zb0 gi hr Zf0 (Za0 (pv 2) Zc0)) (fun _=>rfl)) (Ze0 (Zk0 (Zb0 gw hr Zf0 (Za0 (pv 3) (Za0 Zg0 Zc0))))) Zq0)
  (Ze0 (Zk0 (Zb0 gq hr Zf0 (Za0 (pv 0) (Za0 (pv 3) (Za0 (pv 1) (Za0 (pv 2) Zc0)))))))))))),?_⟩
 unfold Uh0 Kg22.div at q
 refine ⟨_,rfl,_,rfl,y,z,rfl,hy,hz,_,rfl,?_⟩
 refine Xb0 (fun hc=>?_) (fun hc=>?_)
 ·rw [Yf1 (Xd2 hc)] at q
  exact ⟨_,rfl,_,rfl,_,rfl,d,m,b,y,z,rfl,R,hy,hz,q⟩
 ·have nn:=Xe2 hc
  rw [Xc2 nn] at q
  dsimp only at q
  refine ⟨_,rfl,y,rfl,hy,_,rfl,z,rfl,hz,_,_,rfl,rfl,?_⟩
  dsimp only
  rw [Vo6]
  generalize (KA y != KA z)=sg at *
  simp only [Uc1,Zq1,Xw2,Ui3]
  refine Uh3 (a:=decide (KR y=0) && decide (KR z=0)) (b:=KO y && KO z) (fun Q' q'=>?_) (fun Q' q'=>?_) ?_
  ·exact Jm2 (a:=decide (KR y=0)) (b:=decide (KR z=0)) (fun Q' q'=>⟨_,rfl,y,rfl,hy,_,rfl,q'⟩) (fun Q' q'=>⟨_,rfl,z,rfl,hz,_,rfl,q'⟩) q'
  ·exact Jm2 (a:=KO y) (b:=KO z) (fun Q' q'=>⟨_,rfl,y,rfl,hy,_,rfl,q'⟩) (fun Q' q'=>⟨_,rfl,z,rfl,hz,_,rfl,q'⟩) q'
  ·by_cases i1:KO y=true
   ·have ny:KR y≠0:=Je6 i1
    rw [if_pos i1] at q
    rw [decide_eq_false ny,i1]
    by_cases i2:KO z=true
    ·rw [if_pos i2] at q
     rw [i2]
     exact ⟨_,rfl,d,m,b,rfl,R,q⟩
    ·rw [if_neg i2] at q
     dsimp only at q
     rw [Yt0] at q
     rw [Jm0 i2]
     refine ⟨_,rfl,y,rfl,hy,_,rfl,?_⟩
     refine Xb0 (fun _=>⟨_,rfl,sg,Kg22.INF,rfl,Ym1,q.here R⟩) (fun n=>absurd i1 n)
   ·rw [if_neg i1] at q
    rw [Jm0 i1]
    by_cases i2:KO z=true
    ·have nz:=Je6 i2
     rw [if_pos i2] at q
     dsimp only at q
     rw [Yt0] at q
     rw [decide_eq_false nz,Bool.and_false]
     refine ⟨_,rfl,y,rfl,hy,_,rfl,?_⟩
     refine Xb0 (fun x=>absurd x i1) (fun _=>?_)
     refine ⟨_,rfl,z,rfl,hz,_,rfl,?_⟩
     refine Xb0 (fun x=>absurd (of_decide_eq_true x) nz) (fun _=>?_)
     refine ⟨_,rfl,z,rfl,hz,_,rfl,?_⟩
     refine Xb0 (fun _=>⟨_,rfl,sg,0,rfl,by decide,q.here R⟩) (fun n=>absurd i2 n)
    ·rw [if_neg i2] at q
     by_cases z0:KR z=0
     ·rw [if_pos z0] at q
      by_cases y0:KR y=0
      ·rw [if_pos y0] at q
       rw [decide_eq_true z0,decide_eq_true y0]
       exact ⟨_,rfl,d,m,b,rfl,R,q⟩
      ·rw [if_neg y0] at q
       rw [decide_eq_false y0]
       refine ⟨_,rfl,y,rfl,hy,_,rfl,?_⟩
       refine Xb0 (fun x=>absurd x i1) (fun _=>?_)
       refine ⟨_,rfl,z,rfl,hz,_,rfl,?_⟩
       refine Xb0 (fun _=>?_) (fun n=>absurd (decide_eq_true z0) n)
       refine ⟨_,rfl,d.M,d.dx,_,rfl,R.obj,rfl,d,m,b,2,rfl,R,by decide,fun H1 d1 e1 R1 k1=>?_⟩
       exact ⟨_,rfl,sg,Kg22.INF,rfl,Ym1,q H1 d1 e1 R1 k1⟩
     ·rw [if_neg z0] at q
      rw [decide_eq_false z0,Bool.and_false]
      refine ⟨_,rfl,y,rfl,hy,_,rfl,?_⟩
      refine Xb0 (fun x=>absurd x i1) (fun _=>?_)
      refine ⟨_,rfl,z,rfl,hz,_,rfl,?_⟩
      refine Xb0 (fun x=>absurd (of_decide_eq_true x) z0) (fun _=>?_)
      refine ⟨_,rfl,z,rfl,hz,_,rfl,?_⟩
      refine Xb0 (fun x=>absurd x i2) (fun _=>?_)
      have e0:(if KR y=0 then (Kg22.withSign sg 0,0) else Kg22.rounded (KZ m) sg (Kg22.units y*Kg22.ONE) (Kg22.units z))=Xk0 (KZ m) sg (Zd3 y z) (Xu0 y-Xu0 z-129):=by
       by_cases y0:KR y=0
       ·rw [if_pos y0]
        have:Zd3 y z=0:=by unfold Zd3;rw [Vi0.mpr y0];simp
        rw [this,Us1]
       ·rw [if_neg y0,div_eq _ _ y0 z0];rfl
      rw [e0] at q
      exact ⟨_,rfl,_,rfl,_,rfl,_,rfl,d,m,b,sg,y,z,rfl,R,hy,hz,z0,q⟩
def Xs5 (a b:Nat):KJ :=
  let q:=Kg22.whole 0 false (Kg22.units a) (Kg22.units b)
  let z:Int:=(Kg22.units a:Int)-(q*Kg22.units b:Nat)
  let z:=if KA a=true then -z else z
  Kg22.ofInt 0 (KA a) z
def upR (D r x:Nat):Bool:=decide (2*r > D) || (decide (2*r=D) && decide (x/D%2=1))
theorem rem_is (mode:Nat) {a b e:Nat} (ha:e≤Vz0 a) (hb:e≤Vz0 b) (hab:e=Vz0 a∨e=Vz0 b) (h0:KR b≠0) (fb:Ym3 b) :
  Xs5 a b=Xk0 mode (if upR (Yd0 b e) (Yd0 a e%Yd0 b e) (Yd0 a e)=true then !KA a else KA a) (if upR (Yd0 b e) (Yd0 a e%Yd0 b e) (Yd0 a e)=true then Yd0 b e-Yd0 a e%Yd0 b e else Yd0 a e%Yd0 b e) ((e:Int)-1074):=rem_eq mode ha hb hab h0 fb
theorem Vl4 {b e:Nat} (h0:KR b≠0):0<Yd0 b e:=by
 unfold Yd0
 exact Nat.mul_pos (Nat.pos_of_ne_zero (fun z=>h0 (Vi0.mp z))) (Nat.two_pow_pos _)
theorem Xm6 {n:Nat} (h:Yo0 n≤2100):((n:Int)).natAbs.log2<9000:=by
 rw [Int.natAbs_natCast]
 unfold Yo0 at h
 split at h
 ·rename_i h0;rw [h0];decide
 ·lia
theorem Vc7 (s:Bool):(1:Int)-((sN s:Nat):Int)=((sN (!s):Nat):Int):=by cases s <;> rfl
inductive spOpC (C:Addr) (c:Nat→Nat→Prop) (g:Op) (vs:List V) (H:Hp) (Q:VK) (_:XK):Prop |mk (d:Ad) (m:KM) (b y z:Nat) (_:vs=[.ref d.M,iv y,iv z]) (_:Rep C H d m b) (_:y<2^64) (_:z<2^64) (_:c y z) (_:Ub0 C H d (g m y z).1 b (Q (iv (g m y z).2)))
theorem Vf1:Zj0 ["machine","y","z","exponent","divisor","dividend","rest","odd","sign"] ["machine","y","z"] (Zh0 (top 117)):=by decide +kernel
theorem Vs2 {f C:Addr}{fd:FuncData} (F:Fun K "finite_rest" "finite_rest" (top 117) f fd) (T:Txt K mg C) (T6:Ze2 mg) (ge:gExp P w K mg base) (gc:gScaled P w K mg base) (gs:gSgn P w K mg base) (gr:gRnd P w K mg base C) (gd:gMade P w K mg base C) :
  FnW P w K mg base 5 f fd ["machine","y","z"] (spOpC C (fun _ z=>KR z≠0∧Ym3 z) (Uh0 fun _ y z=>Xs5 y z)):=by
 exists Vf1,(by rintro vs H Q E ⟨d,m,b,y,z,rfl,_⟩;rfl)
 obtain ⟨d,m,b,y,z,rfl,R,hy,hz,⟨z0,fz⟩,q⟩:=h
 have nd:=Vf1.nd
 refine ⟨_,Zd0 (Zp0 (i:=3) nd rfl (Or.inl rfl) (Yl0 (Zc1 rfl) (by rfl) T6.min boot_min (Za0 (Zb0 ge hr Zf0 (Za0 (pv 1) Zc0)) (Za0 (Zb0 ge hr Zf0 (Za0 (pv 2) Zc0)) Zc0))))
  (Zd0 (Zp0 (i:=4) nd rfl (Or.inl rfl) (Yl0 Uv1 (by rfl) T6.abs boot_abs (Za0 (Zb0 gc hr Zf0 (Za0 (pv 2) (Za0 (pv 3) Zc0))) Zc0)))
  (Zd0 (Zp0 (i:=5) nd rfl (Or.inl rfl) (Yl0 Uv1 (by rfl) T6.abs boot_abs (Za0 (Zb0 gc hr Zf0 (Za0 (pv 1) (Za0 (pv 3) Zc0))) Zc0)))
  (Zd0 (Zp0 (i:=6) nd rfl (Or.inl rfl) (Zl0 Xv3 (pv 5) (pv 4)))
  (Zd0 (Zp0 (i:=7) nd rfl (Or.inl rfl) (Xy0 Xj0 (Zl0 Xv3 (Zl0 Xv1 (pv 5) (pv 4)) Zg0) Zg0 (Zv0 _)))
  (Zd0 (Zp0 (i:=8) nd rfl (Or.inl rfl) (Zb0 gs hr Zf0 (Za0 (pv 1) Zc0)))
  (Zd0 (Yb0 (PW.pt (Yz1 (Zt0 Vg2 (Zl0 Vq0 Zg0 (pv 6)) (pv 4) (Zv0 _)) (Zi1 (PW.pt (Uk1 (Zt0 Xj0 (Zl0 Vq0 Zg0 (pv 6)) (pv 4) (Zv0 _)) (Xa1 (Zs0 (pv 7) (fun _=>rfl))))))))
   (Zd0 (Zp0 (i:=6) nd rfl (Or.inl rfl) (Zl0 Xe0 (pv 4) (pv 6))) (Ze0 (Zp0 (i:=8) nd rfl (Or.inl rfl) (Zl0 Xe0 Zg0 (pv 8))))) Zq0)
  (Ze0 (Zk0 (Zb0 gd hr Zf0 (Za0 (pv 0) (Za0 (pv 8) (Za0 (pv 6) (Za0 (pv 3) (Za0 (Up0 (pv 0) T.cl gr hr Zf0) Zc0)))))))))))))),?_⟩
 refine ⟨_,rfl,y,rfl,hy,_,rfl,z,rfl,hz,_,_,rfl,?_⟩
 rw [Ub5,Xl4]
 have e1:min (Vz0 y) (Vz0 z)≤Vz0 y:=Nat.min_le_left _ _
 have e2:min (Vz0 y) (Vz0 z)≤Vz0 z:=Nat.min_le_right _ _
 have e4:min (Vz0 y) (Vz0 z)=Vz0 y∨min (Vz0 y) (Vz0 z)=Vz0 z:=by lia
 have e3:=Xl2 y
 unfold Uh0 at q
 dsimp only at q
 rw [rem_is (KZ m) e1 e2 e4 z0 fz] at q
 generalize min (Vz0 y) (Vz0 z)=e at *
 have hD:=Vl4 (e:=e) z0
 have bD:=Xs2 z e
 have lD:=Xm6 bD
 refine ⟨_,rfl,_,rfl,z,e,rfl,hz,e2,_,rfl,?_⟩
 rw [Xk1,Xy1]
 refine ⟨_,rfl,_,rfl,y,e,rfl,hy,e1,_,rfl,?_⟩
 rw [Xk1,Xy1]
 generalize Yd0 z e=D at *
 generalize Yd0 y e=x at *
 refine ⟨_,rfl,_,rfl,_,_,rfl,rfl,(by lia:(0:Int)<(D:Int)),?_⟩
 refine ⟨_,rfl,_,rfl,_,_,rfl,rfl,⟨by lia,lD⟩,_,_,rfl,rfl,(by decide:(0:Int)<2),rfl,?_⟩
 have eo:decide (V.int (Int.fdiv (x:Int) (D:Int)%2)=V.int 1)=decide (x/D%2=1):=by
  have:Int.fdiv (x:Int) (D:Int)%2=((x/D%2:Nat):Int):=by rw [Int.fdiv_eq_ediv_of_nonneg _ (by lia)];rfl
  rw [this];exact Yj0 (x/D%2) 1
 have er:((x:Int)%(D:Int))=((x%D:Nat):Int):=rfl
 rw [eo]
 refine ⟨_,rfl,y,rfl,hy,?_⟩
 have hr2:x%D<D:=Nat.mod_lt _ hD
 have bb:∀ k,k≤D→Yo0 k≤9000:=fun k hk=>Nat.le_trans (Uw1 hk) (by lia)
 have em2:(2:Int)*((x:Int)%(D:Int))=((2*(x%D):Nat):Int):=by rw [er];lia
 simp only [Uc1,Zq1,Xw2,Ui3]
 refine Uh3 (a:=decide (2*(x%D) > D)) (b:=decide (2*(x%D)=D) && decide (x/D%2=1)) (fun Q' q'=>⟨_,rfl,_,_,rfl,rfl,.inl ⟨by decide,by decide⟩,_,rfl,_,_,rfl,rfl,_,rfl,?_⟩) (fun Q' q'=>?_) ?_
 ·have:decide ((D:Int)<2*((x:Int)%(D:Int)))=decide (2*(x%D) > D):=by rw [em2];exact Uu5 (2*(x%D)) D
  rw [this];exact q'
 ·refine Jm2 (a:=decide (2*(x%D)=D)) (b:=decide (x/D%2=1)) (fun Q' q'=>⟨_,rfl,_,_,rfl,rfl,.inl ⟨by decide,by decide⟩,_,rfl,rfl,_,rfl,?_⟩) (fun Q' q'=>⟨_,rfl,_,rfl,q'⟩) q'
  have:decide (V.int (2*((x:Int)%(D:Int)))=V.int (D:Int))=decide (2*(x%D)=D):=by rw [em2];exact Yj0 (2*(x%D)) D
  rw [this];exact q'
 ·have x1:-9000≤(e:Int)-1074:=by lia
  have x2:(e:Int)-1074≤9000:=by lia
  unfold upR at q
  refine Xb0 (fun hc=>?_) (fun hc=>?_)
  ·rw [if_pos hc,if_pos hc] at q
   refine ⟨_,rfl,_,rfl,_,_,rfl,rfl,?_⟩
   have es:(D:Int)-((x:Int)%(D:Int))=((D-x%D:Nat):Int):=by rw [er];lia
   dsimp only
   rw [es]
   refine ⟨_,rfl,_,_,rfl,rfl,?_⟩
   dsimp only
   rw [Vc7]
   exact ⟨_,rfl,_,rfl,_,rfl,_,rfl,_,rfl,d.M,d.dx,_,rfl,R.obj,rfl,d,m,b,rfl,R,d,m,b,!KA y,D-x%D,(e:Int)-1074,KZ m,rfl,R,Yg1 m,bb _ (by lia),x1,x2,q⟩
  ·rw [if_neg hc,if_neg hc] at q
   exact ⟨_,rfl,_,rfl,_,rfl,_,rfl,_,rfl,d.M,d.dx,_,rfl,R.obj,rfl,d,m,b,rfl,R,d,m,b,KA y,x%D,(e:Int)-1074,KZ m,rfl,R,Yg1 m,bb _ (by lia),x1,x2,q⟩
theorem Yu7:Zj0 ["machine","y","z"] ["machine","y","z"] (Zh0 (top 118)):=by decide +kernel
theorem Ue7 {f C:Addr}{fd:FuncData} (F:Fun K "frem" "frem" (top 118) f fd) (gu:gUn P w K mg base) (gn:gNo P w K mg base C) (gi:gInf P w K mg base) (gz:gZero P w K mg base) (gv:gInv P w K mg base C)
  (gs:FG P w K mg base "finite_rest" 5 ["machine","y","z"] (spOpC C (fun _ z=>KR z≠0∧Ym3 z) (Uh0 fun _ y z=>Xs5 y z))):FnW P w K mg base 6 f fd ["machine","y","z"] (Ja0 C (Uh0 fun _ y z=>Kg22.rem y z)):=by
 exists Yu7,Zy0
 obtain ⟨d,m,b,y,z,rfl,R,hy,hz,q⟩:=h
 refine ⟨_,Zd0 (Yb0 (Zs0 (Zb0 gu hr Zf0 (Za0 (pv 1) (Za0 (pv 2) Zc0))) (fun _=>rfl)) (Ze0 (Zk0 (Zb0 gn hr Zf0 (Za0 (pv 0) (Za0 (pv 1) (Za0 (pv 2) Zc0)))))) Zq0)
  (Zd0 (Yb0 (PW.pt (Yz1 (Zs0 (Zb0 gi hr Zf0 (Za0 (pv 1) Zc0)) (fun _=>rfl)) (Zi1 (Zs0 (Zb0 gz hr Zf0 (Za0 (pv 2) Zc0)) (fun _=>rfl))))) (Ze0 (Zk0 (Zb0 gv hr Zf0 (Za0 (pv 0) Zc0)))) Zq0)
  (Zd0 (Yb0 (Zs0 (Zb0 gi hr Zf0 (Za0 (pv 2) Zc0)) (fun _=>rfl)) (Ze0 (Zk0 (pv 1))) Zq0)
  (Ze0 (Zk0 (Zb0 gs hr Zf0 (Za0 (pv 0) (Za0 (pv 1) (Za0 (pv 2) Zc0)))))))),?_⟩
 unfold Uh0 at q
 dsimp only at q
 unfold Kg22.rem at q
 refine ⟨_,rfl,_,rfl,y,z,rfl,hy,hz,_,rfl,?_⟩
 refine Xb0 (fun hc=>?_) (fun hc=>?_)
 ·rw [Yf1 (Xd2 hc)] at q
  exact ⟨_,rfl,_,rfl,_,rfl,d,m,b,y,z,rfl,R,hy,hz,q⟩
 ·have nn:=Xe2 hc
  rw [Xc2 nn] at q
  simp only [Uc1,Zq1,Xw2,Ui3]
  refine Uh3 (a:=KO y) (b:=decide (KR z=0)) (fun Q' q'=>⟨_,rfl,y,rfl,hy,_,rfl,q'⟩) (fun Q' q'=>⟨_,rfl,z,rfl,hz,_,rfl,q'⟩) ?_
  refine Xb0 (fun hi=>?_) (fun hi=>?_)
  ·rw [if_pos (show KO y=true∨KR z=0 by rw [Bool.or_eq_true] at hi;exact hi.imp id of_decide_eq_true)] at q
   exact ⟨_,rfl,d,m,b,rfl,R,q⟩
  ·have hi':¬ (KO y=true∨KR z=0):=fun x=>hi (by rw [Bool.or_eq_true];exact x.imp id decide_eq_true)
   rw [if_neg hi'] at q
   refine ⟨_,rfl,z,rfl,hz,_,rfl,?_⟩
   refine Xb0 (fun i2=>?_) (fun i2=>?_)
   ·rw [if_pos i2] at q
    dsimp only at q
    rw [Yt0] at q
    exact ⟨_,rfl,q.here R⟩
   ·rw [if_neg i2] at q
    exact ⟨_,rfl,_,rfl,_,rfl,d,m,b,y,z,rfl,R,hy,hz,⟨fun x=>hi' (.inr x),Vx3 nn.2 (Jm0 i2)⟩,q⟩
theorem Vl1 {m:KM}{n:Nat} (hl:KI m m.pc 4=.ok n) (h1:1≤opW n) (h2:opW n<8):KG m=(Kg22.floatOp { m with pc:=(m.pc+4)%2^64 } (opW n) (xW n) (yW n) (zW n)).bind fun r=>.ok (r,0):=by
 unfold KG
 rw [hl]
 have h1':1≤n/2^24:=h1
 have h2':n/2^24<8:=h2
 show (if n/2^24=0 then _ else _)=_
 rw [if_neg (by lia),if_pos (by lia)]
 show (Kg22.floatOp { m with pc:=(m.pc+4)%2^64 } (opW n) (xW n) (yW n) (zW n)).bind (fun r=>Except.ok (r,0))=_
 rfl
theorem Yr1 {m:KM}{n:Nat} (hl:KI m m.pc 4=.ok n) (h1:16≤opW n) (h2:opW n<24):KG m=(Kg22.floatOp { m with pc:=(m.pc+4)%2^64 } (opW n) (xW n) (yW n) (zW n)).bind fun r=>.ok (r,0):=by
 unfold KG
 rw [hl]
 have h1':16≤n/2^24:=h1
 have h2':n/2^24<24:=h2
 show (if n/2^24=0 then _ else _)=_
 rw [if_neg (by lia),if_neg (by lia),if_neg (by lia),if_pos (by lia)]
 show (Kg22.floatOp { m with pc:=(m.pc+4)%2^64 } (opW n) (xW n) (yW n) (zW n)).bind (fun r=>Except.ok (r,0))=_
 rfl
theorem Yf5 {m:KM}{n:Nat} (hl:KI m m.pc 4=.ok n) (h1:8≤opW n) (h2:opW n<16):KG m=(Kg22.flotOp { m with pc:=(m.pc+4)%2^64 } (opW n) (xW n) (yW n) (zW n)).bind fun r=>.ok (r,0):=by
 unfold KG
 rw [hl]
 have h1':8≤n/2^24:=h1
 have h2':n/2^24<16:=h2
 show (if n/2^24=0 then _ else _)=_
 rw [if_neg (by lia),if_neg (by lia),if_pos (by lia)]
 show (Kg22.flotOp { m with pc:=(m.pc+4)%2^64 } (opW n) (xW n) (yW n) (zW n)).bind (fun r=>Except.ok (r,0))=_
 rfl
theorem Vw1 (m:KM) (p k:Nat) (o:KJ):Kg22.give { m with pc:=p } k o={ KL (KF m o.2) k o.1 with pc:=p }:=by
 unfold Kg22.give
 rw [Un0,show KF { m with pc:=p } o.2={ KF m o.2 with pc:=p } from rfl,Ut0]
theorem Jw0 {s:Bool}{r:Nat} (h:r<2^63):Kg22.withSign s r<2^64:=by
 unfold Kg22.withSign Kg22.SIGN
 split <;> lia
theorem rnd_le {p inf mode:Nat}{s:Bool}{n d:Nat}:(rnd p inf mode s n d).1≤inf:=by
 unfold rnd
 dsimp only
 generalize (if n/d<2^p then 0 else Nat.log2 (n/d)-(p-1))=e
 generalize e*2^(p-1)+Kg22.whole mode s n (d*2^e)=r
 by_cases h:inf≤r
 ·rw [if_pos h]
  dsimp only
  split
  ·exact Nat.le_refl _
  ·exact Nat.sub_le _ _
 ·rw [if_neg h]
  dsimp only
  lia
theorem Xq1 (mode:Nat) (s:Bool) (n d:Nat):(Kg22.rounded mode s n d).1<2^64:=by
 rw [Jy0]
 exact Jw0 (Nat.lt_of_le_of_lt rnd_le Ym1)
theorem Xa4 (mode:Nat) (zero:Bool) (z:Int):(Kg22.ofInt mode zero z).1<2^64:=by
 unfold Kg22.ofInt
 split
 ·exact Jw0 (by decide)
 ·exact Xq1 _ _ _ _
theorem Uq1:Kg22.NAN<2^64:=by decide
theorem Zt3 {a b:Nat}{o:KJ} (h:o.1<2^64):(Kg22.nans a b o).1<2^64:=by
 unfold Kg22.nans
 split
 ·exact Uq1
 ·exact h
theorem Jq5 {mode a b:Nat} (ha:a<2^64) (hb:b<2^64):(Kg22.add mode a b).1<2^64:=by
 unfold Kg22.add
 apply Zt3
 split
 ·split
  ·exact ha
  ·exact Uq1
 ·split
  ·exact ha
  ·split
   ·exact hb
   ·exact Xa4 _ _ _
theorem Ja7 {mode a b:Nat}:(Kg22.mul mode a b).1<2^64:=by
 unfold Kg22.mul
 apply Zt3
 dsimp only
 split
 ·split
  ·exact Uq1
  ·exact Jw0 Ym1
 ·split
  ·exact Jw0 (by decide)
  ·exact Xq1 _ _ _ _
theorem Jz7 {mode a b:Nat}:(Kg22.div mode a b).1<2^64:=by
 unfold Kg22.div
 apply Zt3
 dsimp only
 split
 ·split
  ·exact Uq1
  ·exact Jw0 Ym1
 ·split
  ·exact Jw0 (by decide)
  ·split
   ·split
    ·exact Uq1
    ·exact Jw0 Ym1
   ·split
    ·exact Jw0 (by decide)
    ·exact Xq1 _ _ _ _
theorem Xg7 {a b:Nat} (ha:a<2^64):(Kg22.rem a b).1<2^64:=by
 unfold Kg22.rem
 apply Zt3
 split
 ·exact Uq1
 ·split
  ·exact ha
  ·exact Xa4 _ _ _
def Yk3 (o:Nat) (g:Op):Prop:=∀ (m:KM) (n:Nat),WF m→KI m m.pc 4=.ok n→opW n=o →
 KG m=.ok ({ KL (g m (KS m (yW n)) (KS m (zW n))).1 (xW n) (g m (KS m (yW n)) (KS m (zW n))).2 with pc:=(m.pc+4)%2^64 },0)∧(g m (KS m (yW n)) (KS m (zW n))).2<2^64∧(g m (KS m (yW n)) (KS m (zW n))).1.pc=m.pc
theorem sf_cmp:Yk3 1 (Uh0 fun _ y z=>Zz3 y z):=fun m n wf hl ho=>by
 have st:=Vl1 hl (by lia) (by lia)
 rw [ho] at st
 rw [st]
 unfold Uh0 Zz3
 dsimp only
 show (Except.ok (match Kg22.compare_ (KS m (yW n)) (KS m (zW n)) with | some c=>KL { m with pc:=(m.pc+4)%2^64 } (xW n) (KH c) | none=>Kg22.give { m with pc:=(m.pc+4)%2^64 } (xW n) (0,16),0):KD (KM×Nat))=_∧_
 cases Kg22.compare_ (KS m (yW n)) (KS m (zW n)) with
 | none =>
  dsimp only
  rw [Vw1]
  exact ⟨rfl,(by decide:0<2^64),rfl⟩
 | some c =>
  dsimp only
  rw [Yt0,Ut0]
  exact ⟨rfl,Uj0 _,rfl⟩
theorem sf_fun:Yk3 2 (Ye0 fun y z=>if Kg22.compare_ y z=none then 1 else 0):=fun m n wf hl ho=>by
 have st:=Vl1 hl (by lia) (by lia)
 rw [ho] at st
 rw [st]
 refine ⟨?_,by unfold Ye0;dsimp only;split <;> decide,rfl⟩
 show Except.ok (KL { m with pc:=(m.pc+4)%2^64 } (xW n) _,0)=_
 rw [Ut0]
 rfl
theorem sf_eql:Yk3 3 (Ye0 fun y z=>if Kg22.compare_ y z=some 0 then 1 else 0):=fun m n wf hl ho=>by
 have st:=Vl1 hl (by lia) (by lia)
 rw [ho] at st
 rw [st]
 refine ⟨?_,by unfold Ye0;dsimp only;split <;> decide,rfl⟩
 show Except.ok (KL { m with pc:=(m.pc+4)%2^64 } (xW n) _,0)=_
 rw [Ut0]
 rfl
theorem sf_add:Yk3 4 (Uh0 Kg22.add):=fun m n wf hl ho=>by
 have st:=Vl1 hl (by lia) (by lia)
 rw [ho] at st
 rw [st]
 refine ⟨?_,Jq5 (Vl0 wf _) (Vl0 wf _),rfl⟩
 show Except.ok (Kg22.give { m with pc:=(m.pc+4)%2^64 } (xW n) _,0)=_
 rw [Vw1]
 rfl
theorem sf_sub:Yk3 6 (Uh0 Kg22.sub):=fun m n wf hl ho=>by
 have st:=Vl1 hl (by lia) (by lia)
 rw [ho] at st
 rw [st]
 refine ⟨?_,?_,rfl⟩
 ·show Except.ok (Kg22.give { m with pc:=(m.pc+4)%2^64 } (xW n) _,0)=_
  rw [Vw1]
  rfl
 ·unfold Uh0
  dsimp only
  rw [Vu6 (Vl0 wf _)]
  exact Jq5 (Vl0 wf _) (Ja5 (Vl0 wf _))
theorem sf_mul:Yk3 16 (Uh0 Kg22.mul):=fun m n wf hl ho=>by
 have st:=Yr1 hl (by lia) (by lia)
 rw [ho] at st
 rw [st]
 refine ⟨?_,Ja7,rfl⟩
 show Except.ok (Kg22.give { m with pc:=(m.pc+4)%2^64 } (xW n) _,0)=_
 rw [Vw1]
 rfl
theorem sf_div:Yk3 20 (Uh0 Kg22.div):=fun m n wf hl ho=>by
 have st:=Yr1 hl (by lia) (by lia)
 rw [ho] at st
 rw [st]
 refine ⟨?_,Jz7,rfl⟩
 show Except.ok (Kg22.give { m with pc:=(m.pc+4)%2^64 } (xW n) _,0)=_
 rw [Vw1]
 rfl
theorem sf_rem:Yk3 22 (Uh0 fun _ y z=>Kg22.rem y z):=fun m n wf hl ho=>by
 have st:=Yr1 hl (by lia) (by lia)
 rw [ho] at st
 rw [st]
 refine ⟨?_,Xg7 (Vl0 wf _),rfl⟩
 show Except.ok (Kg22.give { m with pc:=(m.pc+4)%2^64 } (xW n) _,0)=_
 rw [Vw1]
 rfl
variable (P w K mg base) in def OpF (C aD:Addr) (o:Nat):Prop :=
 ∃ (f:Addr) (ps:List Str) (g:Op),Jz5 K aD (o:Int)=some (.ref f)∧VG P w K mg base f 7 ps (Ja0 C g)∧Yk3 o g
def fops (o:Nat):Prop:=o=1∨o=2∨o=3∨o=4∨o=6∨o=16∨o=20∨o=22
theorem Yv1:Zj0 ["machine","word","work"] ["machine","word"] (Zh0 (top 120)):=by decide +kernel
theorem Yt2 {f C aD:Addr}{fd:FuncData}{fc:Nat→Addr} (F:Fun K "run_floating" "run_floating" (top 120) f fd) (T:Txt K mg C) (hm:mg "WORKS_floating" = some (.ref aD)) (go:gOp P w K mg base) (gf:gFirst P w K mg base C) (gV:gVal P w K mg base C) (gz:gZ P w K mg base) (gg:gGive P w K mg base C) (gx:gX P w K mg base)
  (ops:∀ o,fops o→OpF P w K mg base C aD o):FnW P w K mg base 8 f fd ["machine","word"] (Xc0 C fc fops):=by
 exists Yv1,Ya0
 obtain ⟨d,m,n,rfl,R,hn,hl,ho,q,_⟩:=h
 have nd:=Yv1.nd
 refine ⟨_,Zd0 (Zp0 (i:=2) nd rfl (Or.inl rfl) (Jf1 hm (Zb0 go hr Zf0 (Za0 (pv 1) Zc0))))
  (Ze0 (Zx0 (Zu0 (pv 0) T.cl gg hr Zf0 (Za0 (Zb0 gx hr Zf0 (Za0 (pv 1) Zc0)) (Za0 (Zj1 (CX:=CXW P w) (k:=7) (i:=2) rfl (Or.inl rfl) hr Zf0 (Za0 (pv 0) (Za0 (Zb0 gf hr Zf0 (Za0 (pv 0) (Za0 (pv 1) Zc0)))
   (Za0 (Zu0 (pv 0) T.cl gV hr Zf0 (Za0 (Zb0 gz hr Zf0 (Za0 (pv 1) Zc0)) Zc0)) Zc0)))) Zc0))))),?_⟩
 obtain ⟨fw,ps,g,kg,⟨kp,fdw,bw,Fw⟩,sb⟩:=ops (opW n) ho
 obtain ⟨s1,s2,s3⟩:=sb m n R.wf hl rfl
 refine ⟨_,rfl,n,rfl,hn,_,fw,rfl,kg,?_⟩
 refine ⟨_,rfl,d.M,d.dx,_,rfl,R.obj,rfl,_,rfl,n,rfl,hn,fw,fdw,ps,_,rfl,kp,Fw,bw,_,rfl,_,rfl,_,rfl,d,m,_,n,rfl,R,hn,_,rfl,d.M,d.dx,_,rfl,R.obj,rfl,_,rfl,n,rfl,hn,d,m,_,zW n,rfl,R,Nat.mod_lt _ (by decide),d,m,_,_,_,rfl,R,Vl0 R.wf _,Vl0 R.wf _,fun H1 d1 e1 R1 k1=>?_⟩
 exact ⟨d1,_,_,xW n,_,(by rw [e1];rfl),R1,Vv0 n,s2,(q _ s1 _ _ rfl ((Jb0 _ _ _).trans s3)).of e1 k1⟩
def Xf2 (m:KM) (n:Nat):Nat:=if yW n=0 then KZ m else yW n%4
theorem Xd4 (m:KM) (n:Nat):Xf2 m n<4:=by
 unfold Xf2;split
 ·exact Yg1 m
 ·exact Nat.mod_lt _ (by decide)
theorem Jk3 (m:KM) (a b:Nat):KF (KF m a) b=KF m (a|||b):=by
 unfold KF KU
 congr 1
 funext j
 by_cases h:j=Kg22.rA
 ·rw [if_pos h,if_pos h]
  show (if Kg22.rA=Kg22.rA then m.special Kg22.rA|||a else m.special Kg22.rA)|||b=_
  rw [if_pos rfl,Nat.or_assoc]
 ·rw [if_neg h,if_neg h]
  show (if j=Kg22.rA then m.special Kg22.rA|||a else m.special j)=_
  rw [if_neg h]
theorem Vj4 {mode:Nat}{s:Bool}{m:Nat}{c:Int} (hm:Yo0 m≤53) (hc:-1000≤c):Yo0 (Yq0 mode s m c)≤9000:=by
 unfold Yq0
 split
 ·by_cases m0:m=0
  ·rw [m0,Nat.zero_mul];exact Nat.zero_le _
  ·rw [Yz0 m0];lia
 ·have h1:=Ji2 mode s m (2^c.toNat)
  have h2:=Nat.div_le_self m (2^c.toNat)
  have h3:=Zr0.mpr hm
  have h4:Kg22.whole mode s m (2^c.toNat)<2^54:=by lia
  exact Nat.le_trans (Zr0.mp h4) (by decide)
inductive Ym5 (C c2:Addr) (vs:List V) (H:Hp) (Q:VK) (E:XK):Prop |mk (d:Ad) (m:KM) (b n:Nat) (_:vs=[.ref d.M,iv n]) (_:Rep C H d m b) (_:n<2^32) (_:yW n≤4→Q (iv (Xf2 m n)) H) (_:4<yW n→E (.ref c2) none H)
theorem Us2:Zj0 ["machine","word","choice"] ["machine","word"] (Zh0 (top 122)):=by decide +kernel
theorem Us4 {f C c2:Addr}{fd:FuncData} (F:Fun K "mode_of" "mode_of" (top 122) f fd) (T:Txt K mg C) (T6:Ze2 mg) (x2:ExC K c2) (m2:mg "NoInstruction" = some (.ref c2)) (gy:gY P w K mg base) (gr:gRnd P w K mg base C):FnW P w K mg base 2 f fd ["machine","word"] (Ym5 C c2):=by
 exists Us2,(by rintro vs H Q E ⟨d,m,b,n,rfl,_⟩;rfl)
 obtain ⟨d,m,b,n,rfl,R,hn,q1,q2⟩:=h
 refine ⟨_,Zd0 (Zp0 (i:=2) Us2.nd rfl (Or.inl rfl) (Zb0 gy hr Zf0 (Za0 (pv 1) Zc0)))
  (Zd0 (Yb0 (Zt0 Vg2 (pv 2) Zg0 (Zv0 _)) (Ze0 (Uy0 x2 rfl m2)) Zq0)
  (Zd0 (Yb0 (Zt0 Xj0 (pv 2) Zg0 (Zv0 _)) (Ze0 (Zk0 (Up0 (pv 0) T.cl gr hr Zf0))) Zq0)
  (Zd0 (Yb0 (Zt0 Xj0 (pv 2) Zg0 (Zv0 _)) (Ze0 (Zk0 (Zo0 T6.near))) Zq0)
  (Ze0 (Zk0 (pv 2)))))),?_⟩
 refine ⟨_,rfl,n,rfl,hn,_,rfl,_,_,rfl,rfl,_,rfl,?_⟩
 refine Xb0 (fun hc=>?_) (fun hc=>?_)
 ·have hc':4<yW n:=by have:=of_decide_eq_true hc;lia
  exact q2 hc'
 ·have hc':¬ 4<yW n:=fun z=>hc (decide_eq_true (by lia))
  have q:=q1 (by lia)
  unfold Xf2 at q
  refine ⟨_,rfl,rfl,_,rfl,?_⟩
  rw [show (V.int 0)=V.int ((0:Nat):Int) from rfl,Yj0]
  refine Xb0 (fun hd=>?_) (fun hd=>?_)
  ·rw [if_pos (of_decide_eq_true hd)] at q
   exact ⟨_,rfl,d.M,d.dx,_,rfl,R.obj,rfl,d,m,b,rfl,R,q⟩
  ·have hd':¬ yW n=0:=fun z=>hd (decide_eq_true z)
   rw [if_neg hd'] at q
   refine ⟨_,rfl,rfl,_,rfl,?_⟩
   rw [show (V.int 4)=V.int ((4:Nat):Int) from rfl,Yj0]
   refine Xb0 (fun he=>?_) (fun he=>?_)
   ·have he':yW n=4:=of_decide_eq_true he
    rw [he'] at q
    exact q
   ·have he':¬ yW n=4:=fun z=>he (decide_eq_true z)
    rw [Nat.mod_eq_of_lt (by lia)] at q
    exact ⟨_,rfl,q⟩
inductive Jw5 (C:Addr) (h:Nat→Nat→KJ) (vs:List V) (H:Hp) (Q:VK) (_:XK):Prop |mk (d:Ad) (m:KM) (b z mode:Nat) (_:vs=[.ref d.M,iv z,iv mode]) (_:Rep C H d m b) (_:z<2^64) (_:mode<4) (_:Ub0 C H d (KF m (h mode z).2) b (Q (iv (h mode z).1)))
theorem Zf1 {C:Addr}{h:Nat→Nat→KJ}:∀ vs H Q E,Jw5 C h vs H Q E→vs.length=3:=by rintro vs H Q E ⟨d,m,b,z,mode,rfl,_⟩;rfl
def inx (z:Nat):Nat:=if Jd0 (mant z) (-(Xu0 z))=true then 0 else 1
inductive spWM (C:Addr) (vs:List V) (H:Hp) (Q:VK) (_:XK):Prop |mk (d:Ad) (m:KM) (b z mode:Nat) (_:vs=[.ref d.M,iv z,iv mode]) (_:Rep C H d m b) (_:z<2^64) (_:mode<4) (_:Ub0 C H d (KF m (inx z)) b (Q (iv (Yq0 mode (KA z) (mant z) (-(Xu0 z))))))
theorem Zg1:Zj0 ["machine","word","mode","mantissa","count"] ["machine","word","mode"] (Zh0 (top 123)):=by decide +kernel
theorem Un1 {f C:Addr}{fd:FuncData} (F:Fun K "whole_magnitude" "whole_magnitude" (top 123) f fd) (T:Txt K mg C) (T6:Ze2 mg) (gm:gMant P w K mg base) (ge:gExp P w K mg base) (gx:FG P w K mg base "is_shortened_exactly" 1 ["mantissa","count"] Uz3) (gA:gFlags P w K mg base C) (gs:FG P w K mg base "shortened" 2 ["sign","mantissa","count","mode"] Ux3)
  (gn:gSgn P w K mg base):FnW P w K mg base 3 f fd ["machine","word","mode"] (spWM C):=by
 exists Zg1,(by rintro vs H Q E ⟨d,m,b,z,mode,rfl,_⟩;rfl)
 obtain ⟨d,m,b,z,mode,rfl,R,hz,hm,q⟩:=h
 have nd:=Zg1.nd
 refine ⟨_,Zd0 (Zp0 (i:=3) nd rfl (Or.inl rfl) (Zb0 gm hr Zf0 (Za0 (pv 1) Zc0)))
  (Zd0 (Zp0 (i:=4) nd rfl (Or.inl rfl) (Xc1 Jg0 (Zb0 ge hr Zf0 (Za0 (pv 1) Zc0))))
  (Zd0 (Yb0 (Ul1 (Zs0 (Zb0 gx hr Zf0 (Za0 (pv 3) (Za0 (pv 4) Zc0))) (fun _=>rfl))) (Ze0 (Zx0 (Zu0 (pv 0) T.cl gA hr Zf0 (Za0 (Zo0 T6.inexact) Zc0)))) Zq0)
  (Ze0 (Zk0 (Zb0 gs hr Zf0 (Za0 (Zb0 gn hr Zf0 (Za0 (pv 1) Zc0)) (Za0 (pv 3) (Za0 (pv 4) (Za0 (pv 2) Zc0))))))))),?_⟩
 have hb:=Zr0.mp (Vj0 z)
 have he:=Zl1 z
 refine ⟨_,rfl,z,rfl,hz,_,rfl,z,rfl,hz,_,rfl,?_⟩
 refine ⟨_,rfl,_,rfl,mant z,-(Xu0 z),rfl,by lia,by lia,by lia,_,rfl,?_⟩
 unfold inx at q
 by_cases hx:Jd0 (mant z) (-(Xu0 z))=true
 ·rw [if_pos hx,Yt0] at q
  rw [hx]
  exact ⟨_,rfl,z,rfl,hz,_,rfl,_,rfl,_,rfl,KA z,mant z,-(Xu0 z),mode,rfl,hm,by lia,by lia,by lia,q.here R⟩
 ·rw [if_neg hx] at q
  rw [Jm0 hx]
  refine ⟨_,rfl,d.M,d.dx,_,rfl,R.obj,rfl,d,m,b,1,rfl,R,by decide,fun H1 d1 e1 R1 k1=>?_⟩
  exact ⟨_,rfl,z,rfl,hz,_,rfl,_,rfl,_,rfl,KA z,mant z,-(Xu0 z),mode,rfl,hm,by lia,by lia,by lia,q H1 d1 e1 R1 k1⟩
def Ue2 (mode z:Nat):Int:=if KA z=true then -(Yq0 mode (KA z) (mant z) (-(Xu0 z)):Int) else (Yq0 mode (KA z) (mant z) (-(Xu0 z)):Int)
inductive spWV (C:Addr) (vs:List V) (H:Hp) (Q:VK) (_:XK):Prop |mk (d:Ad) (m:KM) (b z mode:Nat) (_:vs=[.ref d.M,iv z,iv mode]) (_:Rep C H d m b) (_:z<2^64) (_:mode<4) (_:Ub0 C H d (KF m (inx z)) b (Q (.int (Ue2 mode z))))
theorem Va1:Zj0 ["machine","word","mode","size"] ["machine","word","mode"] (Zh0 (top 124)):=by decide +kernel
theorem Vh2 {f C:Addr}{fd:FuncData} (F:Fun K "whole_value" "whole_value" (top 124) f fd) (gw:FG P w K mg base "whole_magnitude" 3 ["machine","word","mode"] (spWM C)) (gn:gSgn P w K mg base):FnW P w K mg base 4 f fd ["machine","word","mode"] (spWV C):=by
 exists Va1,(by rintro vs H Q E ⟨d,m,b,z,mode,rfl,_⟩;rfl)
 obtain ⟨d,m,b,z,mode,rfl,R,hz,hm,q⟩:=h
 refine ⟨_,Zd0 (Zp0 (i:=3) Va1.nd rfl (Or.inl rfl) (Zb0 gw hr Zf0 (Za0 (pv 0) (Za0 (pv 1) (Za0 (pv 2) Zc0)))))
  (Ze0 (Zk0 (Xx0 (Zs0 (Zb0 gn hr Zf0 (Za0 (pv 1) Zc0)) (fun _=>rfl)) (Xc1 Jg0 (pv 3)) (pv 3)))),?_⟩
 refine ⟨_,rfl,_,rfl,_,rfl,d,m,b,z,mode,rfl,R,hz,hm,fun H1 d1 e1 R1 k1=>?_⟩
 have q:=q H1 d1 e1 R1 k1
 refine ⟨_,rfl,z,rfl,hz,_,rfl,?_⟩
 show if ((((sN (KA z):Nat):Int)) != 0)=true then _ else _
 rw [Zz4]
 unfold Ue2 at q
 refine Xb0 (fun hc=>?_) (fun hc=>?_)
 ·rw [if_pos hc] at q
  exact ⟨_,rfl,_,rfl,q⟩
 ·rw [if_neg hc] at q
  exact ⟨_,rfl,q⟩
variable (P w K mg base) in abbrev gWV (C:Addr):=FG P w K mg base "whole_value" 4 ["machine","word","mode"] (spWV C)
theorem Zo4 {mode z:Nat}{sg:Bool} (h:¬ (KO z || KW z)=true):Kg22.fix mode z sg=(KH (Ue2 mode z),inx z+if sg=true∧(Ue2 mode z < -(2:Int)^63∨2^63≤Ue2 mode z) then 32 else 0):=by
 have h':¬ (KW z=true∨KO z=true):=fun x=>h (by rw [Bool.or_eq_true];exact x.symm)
 unfold Kg22.fix
 rw [if_neg h',Vv3]
 have e1:(if Kg22.units z%Kg22.ONE=0 then 0 else 1)=inx z:=by
  unfold inx
  rw [← Vw3]
  by_cases q:Kg22.units z%Kg22.ONE=0
  ·rw [if_pos q,if_pos (decide_eq_true q)]
  ·rw [if_neg q,if_neg (by rw [decide_eq_false q];decide)]
 dsimp only
 rw [e1]
 rfl
theorem Zn4 {mode z:Nat}{sg:Bool} (h:(KO z || KW z)=true):Kg22.fix mode z sg=(z,16):=by
 unfold Kg22.fix
 rw [Bool.or_eq_true] at h
 rw [if_pos h.symm]
theorem Yv7:Zj0 ["machine","z","mode"] ["machine","z","mode"] (Zh0 (top 125)):=by decide +kernel
theorem Uh7 {f C:Addr}{fd:FuncData} (F:Fun K "fixu" "fixu" (top 125) f fd) (T:Txt K mg C) (T2:Zx1 mg) (T6:Ze2 mg) (gi:gInf P w K mg base) (gn:gNan P w K mg base) (gA:gFlags P w K mg base C) (gv:gWV P w K mg base C):FnW P w K mg base 5 f fd ["machine","z","mode"] (Jw5 C fun mode z=>Kg22.fix mode z false):=by
 exists Yv7,Zf1
 obtain ⟨d,m,b,z,mode,rfl,R,hz,hm,q⟩:=h
 refine ⟨_,Zd0 (Yb0 (PW.pt (Yz1 (Zs0 (Zb0 gi hr Zf0 (Za0 (pv 1) Zc0)) (fun _=>rfl)) (Zi1 (Zs0 (Zb0 gn hr Zf0 (Za0 (pv 1) Zc0)) (fun _=>rfl))))) (Zd0 (Zx0 (Zu0 (pv 0) T.cl gA hr Zf0 (Za0 (Zo0 T6.invalid) Zc0))) (Ze0 (Zk0 (pv 1)))) Zq0)
  (Ze0 (Zk0 (Zl0 Yf0 (Zb0 gv hr Zf0 (Za0 (pv 0) (Za0 (pv 1) (Za0 (pv 2) Zc0)))) (Zo0 T2.mask)))),?_⟩
 simp only [Uc1,Zq1,Xw2,Ui3]
 refine Uh3 (a:=KO z) (b:=KW z) (fun Q' q'=>⟨_,rfl,z,rfl,hz,_,rfl,q'⟩) (fun Q' q'=>⟨_,rfl,z,rfl,hz,_,rfl,q'⟩) ?_
 refine Xb0 (fun hc=>?_) (fun hc=>?_)
 ·rw [Zn4 hc] at q
  exact ⟨_,rfl,d.M,d.dx,_,rfl,R.obj,rfl,d,m,b,16,rfl,R,by decide,fun H1 d1 e1 R1 k1=>⟨_,rfl,q H1 d1 e1 R1 k1⟩⟩
 ·rw [Zo4 hc] at q
  dsimp only at q
  rw [if_neg (fun x=>absurd x.1 (by decide)),Nat.add_zero] at q
  refine ⟨_,rfl,_,rfl,_,rfl,d,m,b,z,mode,rfl,R,hz,hm,fun H1 d1 e1 R1 k1=>?_⟩
  refine ⟨_,_,rfl,rfl,?_⟩
  dsimp only
  rw [Yc0,← Jc0]
  exact q H1 d1 e1 R1 k1
theorem Uq6:Zj0 ["machine","z","mode","value"] ["machine","z","mode"] (Zh0 (top 126)):=by decide +kernel
theorem inx_or (z:Nat):inx z|||32=inx z+32:=by unfold inx;split <;> rfl
theorem ok_fix {f C:Addr}{fd:FuncData} (F:Fun K "fix" "fix" (top 126) f fd) (T:Txt K mg C) (T2:Zx1 mg) (T6:Ze2 mg) (gi:gInf P w K mg base) (gn:gNan P w K mg base) (gA:gFlags P w K mg base C) (gv:gWV P w K mg base C) (gF:gFits P w K mg base):FnW P w K mg base 5 f fd ["machine","z","mode"] (Jw5 C fun mode z=>Kg22.fix mode z true):=by
 exists Uq6,Zf1
 obtain ⟨d,m,b,z,mode,rfl,R,hz,hm,q⟩:=h
 refine ⟨_,Zd0 (Yb0 (PW.pt (Yz1 (Zs0 (Zb0 gi hr Zf0 (Za0 (pv 1) Zc0)) (fun _=>rfl)) (Zi1 (Zs0 (Zb0 gn hr Zf0 (Za0 (pv 1) Zc0)) (fun _=>rfl))))) (Zd0 (Zx0 (Zu0 (pv 0) T.cl gA hr Zf0 (Za0 (Zo0 T6.invalid) Zc0))) (Ze0 (Zk0 (pv 1)))) Zq0)
  (Zd0 (Zp0 (i:=3) Uq6.nd rfl (Or.inl rfl) (Zb0 gv hr Zf0 (Za0 (pv 0) (Za0 (pv 1) (Za0 (pv 2) Zc0)))))
  (Zd0 (Yb0 (Ul1 (Zs0 (Zb0 gF hr Zf0 (Za0 (pv 3) (Za0 Zg0 Zc0))) (fun _=>rfl))) (Ze0 (Zx0 (Zu0 (pv 0) T.cl gA hr Zf0 (Za0 (Zo0 T6.fixo) Zc0)))) Zq0)
  (Ze0 (Zk0 (Zl0 Yf0 (pv 3) (Zo0 T2.mask)))))),?_⟩
 simp only [Uc1,Zq1,Xw2,Ui3]
 refine Uh3 (a:=KO z) (b:=KW z) (fun Q' q'=>⟨_,rfl,z,rfl,hz,_,rfl,q'⟩) (fun Q' q'=>⟨_,rfl,z,rfl,hz,_,rfl,q'⟩) ?_
 refine Xb0 (fun hc=>?_) (fun hc=>?_)
 ·rw [Zn4 hc] at q
  exact ⟨_,rfl,d.M,d.dx,_,rfl,R.obj,rfl,d,m,b,16,rfl,R,by decide,fun H1 d1 e1 R1 k1=>⟨_,rfl,q H1 d1 e1 R1 k1⟩⟩
 ·rw [Zo4 hc] at q
  dsimp only at q
  refine ⟨_,rfl,_,rfl,_,rfl,d,m,b,z,mode,rfl,R,hz,hm,fun H1 d1 e1 R1 k1=>?_⟩
  generalize Ue2 mode z=v at *
  refine ⟨_,rfl,v,64,rfl,by decide,by decide,_,rfl,?_⟩
  rw [Jj6]
  by_cases ho:v < -(2:Int)^63∨2^63≤v
  ·rw [if_pos ⟨rfl,ho⟩] at q
   rw [decide_eq_true ho]
   refine ⟨_,rfl,d1.M,d1.dx,_,(by rw [e1]),R1.obj,rfl,d1,_,b,32,(by rw [e1];rfl),R1,by decide,fun H2 d2 e2 R2 k2=>?_⟩
   refine ⟨_,rfl,_,_,rfl,rfl,?_⟩
   dsimp only
   rw [Yc0,← Jc0]
   rw [Jk3,inx_or] at R2
   exact q H2 d2 (e2.trans e1) R2 (k1.trans k2)
  ·rw [if_neg (fun x=>ho x.2),Nat.add_zero] at q
   rw [decide_eq_false ho]
   refine ⟨_,rfl,_,_,rfl,rfl,?_⟩
   dsimp only
   rw [Yc0,← Jc0]
   exact q H1 d1 e1 R1 k1
theorem Vg6 (k:Nat):Yo0 (2^k)=k+1:=by
 have:=Vh6 k
 rw [Nat.one_mul] at this
 exact this
theorem Vk3 {n:Nat} (h:Yo0 n≤9000):((n:Int)).natAbs.log2<9000:=by
 rw [Int.natAbs_natCast]
 unfold Yo0 at h
 split at h
 ·rename_i h0;rw [h0];decide
 ·lia
theorem mul_ok {a b:Nat} (ha:Yo0 a≤9000) (hb:Yo0 b≤9000):IntMulOk (a:Int) (b:Int):=by
 unfold IntMulOk
 rw [Ua0,Ua0]
 intro h
 rw [Bool.and_eq_true] at h
 have h2:=h.2
 unfold Builtin.Int.intTooBig at h2
 have h3:((Yo0 a:Int)+(Yo0 b:Int)) > bitsLine:=of_decide_eq_true h2
 have h4:(bitsLine:Int) ≥ 20000:=by decide
 lia
def nw (n r:Nat):Nat:=(r+n/r)/2
inductive Vy6 (vs:List V) (H:Hp) (Q:VK) (_:XK):Prop |mk (n:Nat) (_:vs=[iv n]) (_:0<n) (_:Yo0 n≤1000) (_:∀ R,R*R≤n→n<(R+1)*(R+1)→Q (iv R) H)
theorem Ue1:Zj0 ["number","root","better"] ["number"] (Zh0 (top 127)):=by decide +kernel
theorem Zj3 {f:Addr}{fd:FuncData} (F:Fun K "whole_root" "whole_root" (top 127) f fd):FnW P w K mg base 1 f fd ["number"] Vy6:=by
 exists Ue1,(by rintro vs H Q E ⟨n,rfl,_⟩;rfl)
 obtain ⟨n,rfl,hn,hb,q⟩:=h
 have nd:=Ue1.nd
 refine ⟨_,Zd0 (Zp0 (i:=1) nd rfl (Or.inl rfl) (Zl0 Vy0 Zg0 (Zl0 Yy0 (Zl0 Zi3 (Xu3 PySem.F.plainAttrs_int PySem.F.slot_int_bit_length PySem.F.type_int_bit_length Vz5 (pv 0)) Zg0) Zg0)))
  (Zd0 (Zp0 (i:=2) nd rfl (Or.inl rfl) (Zl0 Zi3 (Zl0 Yy0 (pv 1) (Zl0 Xv1 (pv 0) (pv 1))) Zg0))
  (Zd0 (Xr1 PassesOwn.leaving (Zt0 Ye1 (pv 2) (pv 1) (Zv0 _)) (Zd0 (Zp0 (i:=1) nd rfl (Or.inl rfl) (pv 2)) (Ze0 (Zp0 (i:=2) nd rfl (Or.inl rfl) (Zl0 Zi3 (Zl0 Yy0 (pv 1) (Zl0 Xv1 (pv 0) (pv 1))) Zg0)))))
  (Ze0 (Zk0 (pv 1))))),?_⟩
 refine ⟨_,rfl,rfl,_,rfl,rfl,_,_,rfl,rfl,⟨by decide,by decide⟩,_,_,rfl,rfl,Xh7 rfl rfl ?_⟩
 rw [Ua0]
 have eb:((Yo0 n:Nat):Int)/2+1=((Yo0 n/2+1:Nat):Int):=by lia
 rw [eb]
 refine ⟨⟨by lia,by lia,by decide⟩,?_⟩
 have e2:(1:Int)*2^(((Yo0 n/2+1:Nat):Int)).toNat=((2^(Yo0 n/2+1):Nat):Int):=by rw [Int.one_mul,Int.toNat_natCast,Int.natCast_pow];rfl
 rw [e2]
 have r0p:0<2^(Yo0 n/2+1):=Nat.two_pow_pos _
 have r0b:Yo0 (2^(Yo0 n/2+1))≤9000:=by rw [Vg6];lia
 have r0s:n<(2^(Yo0 n/2+1)+1)*(2^(Yo0 n/2+1)+1):=by
  have h1:=Jp1 n
  have h2:2^Yo0 n≤2^(Yo0 n/2+1)*2^(Yo0 n/2+1):=by rw [← Nat.pow_add];exact Nat.pow_le_pow_right (by decide) (by lia)
  have h3:2^(Yo0 n/2+1)*2^(Yo0 n/2+1)≤(2^(Yo0 n/2+1)+1)*(2^(Yo0 n/2+1)+1):=Nat.mul_le_mul (by lia) (by lia)
  lia
 generalize 2^(Yo0 n/2+1)=r0 at *
 have stp:∀ r:Nat,0<r→((r:Int)+Int.fdiv (n:Int) (r:Int))/2=((nw n r:Nat):Int):=fun r hr=>by
  have:Int.fdiv (n:Int) (r:Int)=((n/r:Nat):Int):=by rw [Int.fdiv_eq_ediv_of_nonneg _ (by lia)];rfl
  rw [this];unfold nw;lia
 refine ⟨_,rfl,_,rfl,_,rfl,_,_,rfl,rfl,⟨by lia,Vk3 r0b⟩,_,_,rfl,rfl,_,_,rfl,rfl,⟨by decide,by decide⟩,?_⟩
 dsimp only
 rw [stp r0 r0p]
 simp only [Zq1,Xw2,tAsg,tC]
 refine Xm1 (fun σ H'=>∃ r:Nat,σ=[some (iv n),some (iv r),some (iv (nw n r))]∧H'=H∧0<r∧Yo0 r≤9000∧n<(r+1)*(r+1)) (fun σ _=>match σ with | [_,some (.int r),_]=>r.toNat | _=>0)
  ⟨r0,rfl,rfl,r0p,r0b,r0s⟩ ?_ ?_
 ·rintro σ H' ⟨r,rfl,rfl,rp,rb,rs⟩
  refine ⟨_,rfl,_,rfl,_,_,rfl,rfl,_,rfl,?_⟩
  refine Xb0 (fun hc=>?_) (fun hc=>?_)
  ·have hc':nw n r<r:=by have:=of_decide_eq_true (show decide (((nw n r:Nat):Int)<(r:Int))=true from hc);lia
   have np:0<nw n r:=by
    unfold nw at hc' ⊢
    by_cases r1:r=1
    ·rw [r1,Nat.div_one] at hc' ⊢;lia
    ·generalize n/r=t at *
     lia
   have nb:Yo0 (nw n r)≤9000:=Nat.le_trans (Uw1 (Nat.le_of_lt hc')) rb
   have ns:n<(nw n r+1)*(nw n r+1):=newton rp
   refine ⟨_,rfl,_,rfl,_,rfl,_,rfl,_,_,rfl,rfl,⟨by lia,Vk3 nb⟩,_,_,rfl,rfl,_,_,rfl,rfl,⟨by decide,by decide⟩,?_⟩
   dsimp only
   rw [stp _ np]
   refine ⟨⟨nw n r,rfl,rfl,np,nb,ns⟩,?_⟩
   show (((nw n r:Nat):Int)).toNat<((r:Nat):Int).toNat
   rw [Int.toNat_natCast,Int.toNat_natCast]
   exact hc'
  ·have hc':¬ nw n r<r:=fun z=>hc (show decide (((nw n r:Nat):Int)<(r:Int))=true from decide_eq_true (by lia))
   refine ⟨_,rfl,q r ?_ rs⟩
   unfold nw at hc'
   have h1:r≤n/r:=by lia
   exact (Nat.le_div_iff_mul_le rp).mp h1
 ·rintro σ H' Q1 Q2 hm ⟨x,e1,y,e2,i,j,e3,e4,k,e5,hq⟩
  exact ⟨x,e1,y,e2,i,j,e3,e4,k,e5,hm _ _ hq⟩
def Zo1 (mode z:Nat):KJ :=
  let n:=Kg22.units z*Kg22.ONE*2^200
  let r:=Kg22.root n
  Kg22.rounded mode false (2*r+if r*r=n then 0 else 1) (2*2^100)
inductive spFR (C:Addr) (vs:List V) (H:Hp) (Q:VK) (_:XK):Prop |mk (d:Ad) (m:KM) (b z mode:Nat) (_:vs=[.ref d.M,iv z,iv mode]) (_:Rep C H d m b) (_:z<2^64) (_:mode<4) (_:Ym3 z) (_:KR z≠0) (_:Ub0 C H d (KF m (Zo1 mode z).2) b (Q (iv (Zo1 mode z).1)))
theorem Ve1:Zj0 ["machine","z","mode","odd","mantissa","root","rest","exponent"] ["machine","z","mode"] (Zh0 (top 128)):=by decide +kernel
theorem Vr2 {f C:Addr}{fd:FuncData} (F:Fun K "finite_root" "finite_root" (top 128) f fd) (gm:gMant P w K mg base) (ge:gExp P w K mg base) (gr:FG P w K mg base "whole_root" 1 ["number"] Vy6) (gd:gMade P w K mg base C):FnW P w K mg base 5 f fd ["machine","z","mode"] (spFR C):=by
 exists Ve1,(by rintro vs H Q E ⟨d,m,b,z,mode,rfl,_⟩;rfl)
 obtain ⟨d,m,b,z,mode,rfl,R,hz,hm,fz,z0,q⟩:=h
 have nd:=Ve1.nd
 refine ⟨_,Zd0 (Zp0 (i:=3) nd rfl (Or.inl rfl) (Zl0 Xv3 (Zb0 ge hr Zf0 (Za0 (pv 1) Zc0)) Zg0))
  (Zd0 (Zp0 (i:=4) nd rfl (Or.inl rfl) (Zl0 Vy0 (Zb0 gm hr Zf0 (Za0 (pv 1) Zc0)) (Zl0 Yy0 Zg0 (pv 3))))
  (Zd0 (Zp0 (i:=5) nd rfl (Or.inl rfl) (Zb0 gr hr Zf0 (Za0 (pv 4) Zc0)))
  (Zd0 (Zp0 (i:=6) nd rfl (Or.inl rfl) (Xx0 (Zt0 Xj0 (Zl0 Xz7 (pv 5) (pv 5)) (pv 4) (Zv0 _)) Zg0 Zg0))
  (Zd0 (Zp0 (i:=7) nd rfl (Or.inl rfl) (Zl0 Xe0 (Zl0 Zi3 (Zl0 Xe0 (Zl0 Xe0 (Zb0 ge hr Zf0 (Za0 (pv 1) Zc0)) Zg0) (pv 3)) Zg0) Zg0))
  (Ze0 (Zk0 (Zb0 gd hr Zf0 (Za0 (pv 0) (Za0 Zg0 (Za0 (Zl0 Yd1 (Zl0 Vr1 (pv 5) Zg0) (pv 6)) (Za0 (pv 7) (Za0 (pv 2) Zc0)))))))))))),?_⟩
 have l1:=Vj0 z
 have r1:=Zl1 z
 have mz:0<mant z:=Nat.pos_of_ne_zero (fun e=>z0 (Vi0.mp e))
 obtain ⟨od,eo,ho⟩:∃ od:Nat,Xu0 z%2=(od:Int)∧od<2:=⟨(Xu0 z%2).toNat,by lia,by lia⟩
 refine ⟨_,rfl,z,rfl,hz,_,_,rfl,rfl,(by decide:(0:Int)<2),?_⟩
 dsimp only
 rw [eo]
 refine ⟨_,rfl,z,rfl,hz,_,rfl,_,_,rfl,rfl,_,_,rfl,rfl,⟨by lia,by lia,by lia⟩,?_⟩
 have eM:((mant z:Nat):Int)*2^((128:Int)+(od:Int)).toNat=((mant z*2^(128+od):Nat):Int):=by
  rw [show ((128:Int)+(od:Int)).toNat=128+od by lia,Int.natCast_mul,Int.natCast_pow];rfl
 dsimp only
 rw [eM]
 have Mb:Yo0 (mant z*2^(128+od))≤1000:=by
  rw [Yz0 (by lia)]
  have:=Zr0.mp l1
  lia
 have Mp:0<mant z*2^(128+od):=Nat.mul_pos mz (Nat.two_pow_pos _)
 refine ⟨_,rfl,_,rfl,Mp,Mb,fun Rt h1 h2=>?_⟩
 have key:=Zx7 mode (R:=Rt) (odd:=od) fz z0 ho (by lia) h1 h2
 have key2:Zo1 mode z=Xk0 mode false (2*Rt+if Rt*Rt=mant z*2^(128+od) then 0 else 1) ((Xu0 z-128-od)/2-1):=key
 rw [key2] at q
 have Rb:Yo0 Rt≤1000:=by
  have:Rt≤Rt*Rt∨Rt=0:=by
   by_cases h:Rt=0
   ·exact .inr h
   ·exact .inl (Nat.le_mul_of_pos_right _ (Nat.pos_of_ne_zero h))
  rcases this with h | h
  ·exact Nat.le_trans (Uw1 (Nat.le_trans h h1)) Mb
  ·rw [h];exact Nat.zero_le _
 generalize mant z*2^(128+od)=M at *
 have n1:Yo0 (2*Rt+1)≤9000:=by
  have:=Zr0.mpr Rb
  have h3:2*Rt+1<2^1001:=by
   rw [Nat.pow_succ]
   generalize 2^1000=X at *
   lia
  exact Nat.le_trans (Zr0.mp h3) (by decide)
 have n0:Yo0 (2*Rt+0)≤9000:=Nat.le_trans (Uw1 (by lia)) n1
 have bR:((Builtin.Int.intBits (Rt:Int):Nat):Int)+1≤2^27:=by rw [Ua0];lia
 have x1:-9000≤(Xu0 z-128-(od:Int))/2-1:=by lia
 have x2:(Xu0 z-128-(od:Int))/2-1≤9000:=by lia
 have em:decide (V.int ((Rt:Int)*(Rt:Int))=V.int (M:Int))=decide (Rt*Rt=M):=by rw [← Int.natCast_mul];exact Yj0 (Rt*Rt) M
 refine ⟨_,rfl,_,rfl,_,_,rfl,rfl,mul_ok (by lia) (by lia),_,rfl,rfl,_,rfl,?_⟩
 show if decide (V.int ((Rt:Int)*(Rt:Int))=V.int (M:Int))=true then _ else _
 rw [em]
 refine Xb0 (fun hc=>?_) (fun hc=>?_)
 ·rw [if_pos (of_decide_eq_true hc)] at q
  refine ⟨_,rfl,z,rfl,hz,_,_,rfl,rfl,_,rfl,_,_,rfl,rfl,_,_,rfl,rfl,⟨by decide,by decide⟩,_,_,rfl,rfl,?_⟩
  refine ⟨_,rfl,_,rfl,_,_,rfl,rfl,⟨by decide,bR⟩,_,rfl,_,_,rfl,rfl,?_⟩
  dsimp only
  rw [show (0:Int)=((0:Nat):Int) from rfl,Ju2 _ 0 (by decide)]
  exact ⟨_,rfl,_,rfl,d,m,b,false,_,_,mode,rfl,R,hm,n0,x1,x2,q⟩
 ·rw [if_neg (fun e=>hc (decide_eq_true e))] at q
  refine ⟨_,rfl,z,rfl,hz,_,_,rfl,rfl,_,rfl,_,_,rfl,rfl,_,_,rfl,rfl,⟨by decide,by decide⟩,_,_,rfl,rfl,?_⟩
  refine ⟨_,rfl,_,rfl,_,_,rfl,rfl,⟨by decide,bR⟩,_,rfl,_,_,rfl,rfl,?_⟩
  have e1:Builtin.bitOr ((Rt:Int)*2^(1:Int).toNat) 1=((2*Rt+1:Nat):Int):=Ju2 _ 1 (by decide)
  dsimp only
  rw [e1]
  exact ⟨_,rfl,_,rfl,d,m,b,false,_,_,mode,rfl,R,hm,n1,x1,x2,q⟩
inductive spFRg (C:Addr) (g:Nat→Nat→KJ) (vs:List V) (H:Hp) (Q:VK) (_:XK):Prop |mk (d:Ad) (m:KM) (b z mode:Nat) (_:vs=[.ref d.M,iv z,iv mode]) (_:Rep C H d m b) (_:z<2^64) (_:mode<4) (_:Ym3 z) (_:KR z≠0) (_:Ub0 C H d (KF m (g mode z).2) b (Q (iv (g mode z).1)))
def Zw2 (g:Nat→Nat→KJ) (mode z:Nat):KJ:=if KW z=true then Ur1 z z else if KR z=0 then (z,0) else if KA z=true then (Kg22.NAN,16) else if KO z=true then (z,0) else g mode z
def Zl4 (g:Nat→Nat→KJ) (mode z:Nat):KJ:=if KW z=true then Ur1 z z else if KO z=true then (z,0) else g mode z
theorem Xc4 (z:Nat) (o:KJ):Kg22.nans z z o=if KW z=true then Ur1 z z else o:=by
 by_cases h:KW z=true
 ·rw [if_pos h,Yf1 (.inl h)]
 ·rw [if_neg h,Xc2 ⟨Jm0 h,Jm0 h⟩]
def Xj2 (mode a:Nat):KJ :=
  let q:=Kg22.whole mode (KA a) (Kg22.units a) Kg22.ONE
  ((Kg22.rounded 0 (KA a) (q*Kg22.ONE) 1).1,if Kg22.units a%Kg22.ONE=0 then 0 else 1)
theorem Zy7 (mode z:Nat):Kg22.sqrt mode z=Zw2 Zo1 mode z:=by
 unfold Kg22.sqrt Zw2
 rw [Xc4]
 unfold Zo1
 rfl
theorem int_by (mode z:Nat):Kg22.int_ mode z=Zl4 Xj2 mode z:=by
 unfold Kg22.int_ Zl4
 rw [Xc4]
 unfold Xj2
 rfl
theorem Ur5 {mode z:Nat} (fz:Ym3 z):Xj2 mode z=((Xk0 mode (KA z) (Yq0 mode (KA z) (mant z) (-(Xu0 z))) 0).1,inx z):=by
 obtain ⟨i1,i2⟩:=Jd6 mode (KA z) fz
 unfold Xj2
 dsimp only
 rw [i1]
 unfold inx
 rw [← Vw3]
 by_cases q:Kg22.units z%Kg22.ONE=0
 ·rw [if_pos q,if_pos (decide_eq_true q)]
 ·rw [if_neg q,if_neg (by rw [decide_eq_false q];decide)]
theorem Uy5 (mode:Nat) (v:Int):Kg22.flot mode v=Xk0 mode (decide (v<0)) v.natAbs 0:=Js7 mode v
theorem Yd6:Zj0 ["machine","z","mode"] ["machine","z","mode"] (Zh0 (top 129)):=by decide +kernel
theorem Xb6 {f C:Addr}{fd:FuncData}{g:Nat→Nat→KJ} (F:Fun K "fsqrt" "fsqrt" (top 129) f fd) (gn:gNan P w K mg base) (go:gNo P w K mg base C) (gz:gZero P w K mg base) (gs:gSgn P w K mg base) (gv:gInv P w K mg base C) (gi:gInf P w K mg base) (gr:FG P w K mg base "finite_root" 5 ["machine","z","mode"] (spFRg C g)) :
  FnW P w K mg base 6 f fd ["machine","z","mode"] (Jw5 C (Zw2 g)):=by
 exists Yd6,Zf1
 obtain ⟨d,m,b,z,mode,rfl,R,hz,hm,q⟩:=h
 refine ⟨_,Zd0 (Yb0 (Zs0 (Zb0 gn hr Zf0 (Za0 (pv 1) Zc0)) (fun _=>rfl)) (Ze0 (Zk0 (Zb0 go hr Zf0 (Za0 (pv 0) (Za0 (pv 1) (Za0 (pv 1) Zc0)))))) Zq0)
  (Zd0 (Yb0 (Zs0 (Zb0 gz hr Zf0 (Za0 (pv 1) Zc0)) (fun _=>rfl)) (Ze0 (Zk0 (pv 1))) Zq0)
  (Zd0 (Yb0 (Zs0 (Zb0 gs hr Zf0 (Za0 (pv 1) Zc0)) (fun _=>rfl)) (Ze0 (Zk0 (Zb0 gv hr Zf0 (Za0 (pv 0) Zc0)))) Zq0)
  (Zd0 (Yb0 (Zs0 (Zb0 gi hr Zf0 (Za0 (pv 1) Zc0)) (fun _=>rfl)) (Ze0 (Zk0 (pv 1))) Zq0)
  (Ze0 (Zk0 (Zb0 gr hr Zf0 (Za0 (pv 0) (Za0 (pv 1) (Za0 (pv 2) Zc0))))))))),?_⟩
 unfold Zw2 at q
 refine ⟨_,rfl,z,rfl,hz,_,rfl,?_⟩
 refine Xb0 (fun hc=>?_) (fun hc=>?_)
 ·rw [if_pos hc] at q
  exact ⟨_,rfl,_,rfl,_,rfl,d,m,b,z,z,rfl,R,hz,hz,q⟩
 ·have hc':=Jm0 hc
  rw [if_neg hc] at q
  refine ⟨_,rfl,z,rfl,hz,_,rfl,?_⟩
  refine Xb0 (fun h0=>?_) (fun h0=>?_)
  ·rw [if_pos (of_decide_eq_true h0)] at q
   dsimp only at q
   rw [Yt0] at q
   exact ⟨_,rfl,q.here R⟩
  ·have h0':¬ KR z=0:=fun x=>h0 (decide_eq_true x)
   rw [if_neg h0'] at q
   refine ⟨_,rfl,z,rfl,hz,_,rfl,?_⟩
   show if ((((sN (KA z):Nat):Int)) != 0)=true then _ else _
   rw [Zz4]
   refine Xb0 (fun h1=>?_) (fun h1=>?_)
   ·rw [if_pos h1] at q
    exact ⟨_,rfl,d,m,b,rfl,R,q⟩
   ·rw [if_neg h1] at q
    refine ⟨_,rfl,z,rfl,hz,_,rfl,?_⟩
    refine Xb0 (fun h2=>?_) (fun h2=>?_)
    ·rw [if_pos h2] at q
     dsimp only at q
     rw [Yt0] at q
     exact ⟨_,rfl,q.here R⟩
    ·rw [if_neg h2] at q
     exact ⟨_,rfl,_,rfl,_,rfl,d,m,b,z,mode,rfl,R,hz,hm,Vx3 hc' (Jm0 h2),h0',q⟩
theorem Yw7:Zj0 ["machine","z","mode"] ["machine","z","mode"] (Zh0 (top 130)):=by decide +kernel
theorem Uj7 {f C:Addr}{fd:FuncData}{g:Nat→Nat→KJ} (hg:∀ mode z,Ym3 z→g mode z=((Xk0 mode (KA z) (Yq0 mode (KA z) (mant z) (-(Xu0 z))) 0).1,inx z)∧(Xk0 mode (KA z) (Yq0 mode (KA z) (mant z) (-(Xu0 z))) 0).2=0)
  (F:Fun K "fint" "fint" (top 130) f fd) (gn:gNan P w K mg base) (go:gNo P w K mg base C) (gs:gSgn P w K mg base) (gi:gInf P w K mg base) (gw:FG P w K mg base "whole_magnitude" 3 ["machine","word","mode"] (spWM C)) (gd:gMade P w K mg base C) :
  FnW P w K mg base 5 f fd ["machine","z","mode"] (Jw5 C (Zl4 g)):=by
 exists Yw7,Zf1
 obtain ⟨d,m,b,z,mode,rfl,R,hz,hm,q⟩:=h
 refine ⟨_,Zd0 (Yb0 (Zs0 (Zb0 gn hr Zf0 (Za0 (pv 1) Zc0)) (fun _=>rfl)) (Ze0 (Zk0 (Zb0 go hr Zf0 (Za0 (pv 0) (Za0 (pv 1) (Za0 (pv 1) Zc0)))))) Zq0)
  (Zd0 (Yb0 (Zs0 (Zb0 gi hr Zf0 (Za0 (pv 1) Zc0)) (fun _=>rfl)) (Ze0 (Zk0 (pv 1))) Zq0)
  (Ze0 (Zk0 (Zb0 gd hr Zf0 (Za0 (pv 0) (Za0 (Zb0 gs hr Zf0 (Za0 (pv 1) Zc0)) (Za0 (Zb0 gw hr Zf0 (Za0 (pv 0) (Za0 (pv 1) (Za0 (pv 2) Zc0)))) (Za0 Zg0 (Za0 (pv 2) Zc0))))))))),?_⟩
 unfold Zl4 at q
 refine ⟨_,rfl,z,rfl,hz,_,rfl,?_⟩
 refine Xb0 (fun hc=>?_) (fun hc=>?_)
 ·rw [if_pos hc] at q
  exact ⟨_,rfl,_,rfl,_,rfl,d,m,b,z,z,rfl,R,hz,hz,q⟩
 ·have hc':=Jm0 hc
  rw [if_neg hc] at q
  refine ⟨_,rfl,z,rfl,hz,_,rfl,?_⟩
  refine Xb0 (fun h2=>?_) (fun h2=>?_)
  ·rw [if_pos h2] at q
   dsimp only at q
   rw [Yt0] at q
   exact ⟨_,rfl,q.here R⟩
  ·rw [if_neg h2] at q
   obtain ⟨i1,i2⟩:=hg mode z (Vx3 hc' (Jm0 h2))
   rw [i1] at q
   have sb:Yo0 (Yq0 mode (KA z) (mant z) (-(Xu0 z)))≤9000:=Vj4 (Zr0.mp (Vj0 z)) (by have:=Zl1 z;lia)
   refine ⟨_,rfl,_,rfl,z,rfl,hz,_,rfl,_,rfl,_,rfl,d,m,b,z,mode,rfl,R,hz,hm,fun H1 d1 e1 R1 k1=>?_⟩
   refine ⟨_,rfl,d1,_,b,KA z,Yq0 mode (KA z) (mant z) (-(Xu0 z)),0,mode,(by rw [e1];rfl),R1,hm,sb,by decide,by decide,?_⟩
   rw [i2,Yt0]
   exact q.of e1 k1
theorem Xg5:Zj0 ["machine","z","mode","value"] ["machine","z","mode"] (Zh0 (top 131)):=by decide +kernel
theorem Jb1 {n:Nat} (h:n≤2^64):Yo0 n≤9000:=Nat.le_trans (Zr0.mp (show n<2^65 by lia)) (by decide)
def Uz5 (mode:Nat) (v:Int):KJ:=Xk0 mode (decide (v<0)) v.natAbs 0
theorem Ug7 {f C:Addr}{fd:FuncData} (F:Fun K "flot" "flot" (top 131) f fd) (T6:Ze2 mg) (gS:gSigned P w K mg base) (gd:gMade P w K mg base C):FnW P w K mg base 5 f fd ["machine","z","mode"] (Jw5 C fun mode z=>Uz5 mode (KN 64 z)):=by
 exists Xg5,Zf1
 obtain ⟨d,m,b,z,mode,rfl,R,hz,hm,q⟩:=h
 refine ⟨_,Zd0 (Zp0 (i:=3) Xg5.nd rfl (Or.inl rfl) (Zb0 gS hr Zf0 (Za0 (pv 1) Zc0)))
  (Ze0 (Zk0 (Zb0 gd hr Zf0 (Za0 (pv 0) (Za0 (Xx0 (Zt0 Ye1 (pv 3) Zg0 (Zv0 _)) Zg0 Zg0) (Za0 (Yl0 Uv1 (by rfl) T6.abs boot_abs (Za0 (pv 3) Zc0)) (Za0 Zg0 (Za0 (pv 2) Zc0)))))))),?_⟩
 have sr:=Ud0 hz
 unfold Uz5 at q
 have sb:Yo0 (KN 64 z).natAbs≤9000:=Jb1 (by lia)
 refine ⟨_,rfl,z,rfl,hz,_,rfl,_,rfl,_,_,rfl,rfl,_,rfl,?_⟩
 refine Xb0 (fun hd=>?_) (fun hd=>?_)
 ·have hd':KN 64 z<0:=of_decide_eq_true hd
  rw [decide_eq_true hd'] at q
  refine ⟨_,rfl,_,rfl,?_⟩
  rw [Xk1]
  exact ⟨_,rfl,d,m,b,true,(KN 64 z).natAbs,0,mode,rfl,R,hm,sb,by decide,by decide,q⟩
 ·have hd':¬ KN 64 z<0:=fun x=>hd (decide_eq_true x)
  rw [decide_eq_false hd'] at q
  refine ⟨_,rfl,_,rfl,?_⟩
  rw [Xk1]
  exact ⟨_,rfl,d,m,b,false,(KN 64 z).natAbs,0,mode,rfl,R,hm,sb,by decide,by decide,q⟩
theorem Ye6:Zj0 ["machine","z","mode"] ["machine","z","mode"] (Zh0 (top 132)):=by decide +kernel
theorem Xc6 {f C:Addr}{fd:FuncData} (F:Fun K "flotu" "flotu" (top 132) f fd) (gd:gMade P w K mg base C):FnW P w K mg base 5 f fd ["machine","z","mode"] (Jw5 C fun mode z=>Xk0 mode false z 0):=by
 exists Ye6,Zf1
 obtain ⟨d,m,b,z,mode,rfl,R,hz,hm,q⟩:=h
 refine ⟨_,Ze0 (Zk0 (Zb0 gd hr Zf0 (Za0 (pv 0) (Za0 Zg0 (Za0 (pv 1) (Za0 Zg0 (Za0 (pv 2) Zc0))))))),?_⟩
 exact ⟨_,rfl,_,rfl,_,rfl,d,m,b,false,z,0,mode,rfl,R,hm,Jb1 (by lia),by decide,by decide,q⟩
inductive Vv6 (vs:List V) (H:Hp) (Q:VK) (_:XK):Prop |mk (x:Nat) (_:vs=[iv x]) (_:x<2^32) (_:∀ H',Jf0 H H'→Q (iv (Kg22.longer x)) H')
theorem Un2:Zj0 ["single","sign","field","fraction","mantissa","made"] ["single"] (Zh0 (top 97)):=by decide +kernel
theorem sign31 {x:Nat} (h:x<2^32):x/2^31=sN (decide (2^31≤x)):=by
 unfold sN
 by_cases z:2^31≤x
 ·rw [decide_eq_true z,if_pos rfl];lia
 ·rw [decide_eq_false z,if_neg (by decide)];lia
theorem Uh4 {f aD aS:Addr}{fd:FuncData} (F:Fun K "widened" "widened" (top 97) f fd) (T6:Ze2 mg) (T7:Txt7 K mg aD aS) (gw:gWithSign P w K mg base) (gr:gRounded P w K mg base):FnW P w K mg base 4 f fd ["single"] Vv6:=by
 exists Un2,(by rintro vs H Q E ⟨x,rfl,_⟩;rfl)
 obtain ⟨x,rfl,hx,q⟩:=h
 have nd:=Un2.nd
 refine ⟨_,Zd0 (Zp0 (i:=1) nd rfl (Or.inl rfl) (Zl0 Xf0 (pv 0) Zg0))
  (Zd0 (Zp0 (i:=2) nd rfl (Or.inl rfl) (Zl0 Yf0 (Zl0 Xf0 (pv 0) Zg0) Zg0))
  (Zd0 (Zp0 (i:=3) nd rfl (Or.inl rfl) (Zl0 Yf0 (pv 0) Zg0))
  (Zd0 (Yb0 (Zt0 Xj0 (pv 2) Zg0 (Zv0 _)) (Ze0 (Zk0 (Zb0 gw hr Zf0 (Za0 (pv 1) (Za0 (Zl0 Yd1 (Zo0 T6.inf) (Zl0 Vy0 (pv 3) Zg0)) Zc0))))) Zq0)
  (Zd0 (Zp0 (i:=4) nd rfl (Or.inl rfl) (Xx0 (Zt0 Xj0 (pv 2) Zg0 (Zv0 _)) (pv 3) (Zl0 Yd1 (pv 3) Zg0)))
  (Zd0 (Zp0 (i:=5) nd rfl (Or.inl rfl) (Zb0 gr hr Zf0 (Za0 (Za1 (v:=.ref aD) rfl T7.dbl rfl) (Za0 (pv 1) (Za0 (pv 4) (Za0 (Zl0 Xe0 (Yl0 (Uu1 rfl) (by rfl) T6.max boot_max (Za0 (pv 2) (Za0 Zg0 Zc0))) Zg0) (Za0 (Zo0 T6.near) Zc0)))))))
  (Ze0 (Zk0 (Zb0 gw hr Zf0 (Za0 (pv 1) (Za0 (Xi0 Jl0 (pv 5) Zg0 (fun _ _=>rfl)) Zc0)))))))))),?_⟩
 refine ⟨_,rfl,_,_,rfl,rfl,(by decide:(0:Int)≤31),?_⟩
 dsimp only
 rw [Uc0 x (k:=31) rfl,sign31 hx]
 refine ⟨_,rfl,_,_,rfl,rfl,(by decide:(0:Int)≤23),_,_,rfl,rfl,?_⟩
 have ef:Builtin.bitAnd ((x:Int)/2^(23:Int).toNat) 255=((x/2^23%256:Nat):Int):=by rw [Uc0 x (k:=23) rfl,bitAnd_m8];rfl
 dsimp only
 rw [ef]
 refine ⟨_,rfl,_,_,rfl,rfl,?_⟩
 have ea:Builtin.bitAnd (x:Int) 8388607=((x%2^23:Nat):Int):=Vd0 x 23
 dsimp only
 rw [ea]
 have q1:∀ H',Jf0 H H'→Q (iv (Kg22.withSign (decide (2^31≤x)) (if x/2^23%256=255 then Kg22.INF+x%2^23*2^29 else (Yx0 53 1074 Kg22.INF 0 (decide (2^31≤x)) (Jk0 x) ((max (x/2^23%256) 1:Nat)-150)).1))) H':=fun H' hs=>by
  have:=q H' hs
  rw [Zb1 x (decide (2^31≤x))] at this
  exact this
 clear q
 have hfr:x%2^23<2^23:=Nat.mod_lt _ (by decide)
 have hfl:x/2^23%256<256:=Nat.mod_lt _ (by decide)
 unfold Jk0 at q1
 generalize x/2^23%256=fi at *
 generalize x%2^23=fr at *
 generalize decide (2^31≤x)=sg at *
 refine ⟨_,rfl,rfl,_,rfl,?_⟩
 rw [show (V.int 255)=V.int ((255:Nat):Int) from rfl,Yj0]
 refine Xb0 (fun hc=>?_) (fun hc=>?_)
 ·rw [if_pos (of_decide_eq_true hc)] at q1
  refine ⟨_,rfl,_,rfl,_,_,rfl,rfl,⟨by decide,by decide,by lia⟩,_,_,rfl,rfl,sg,Kg22.INF+fr*2^29,?_,?_,q1 H (Jf0.refl H)⟩
  ·have e2:Builtin.bitOr 9218868437227405312 ((fr:Int)*2^(29:Int).toNat)=((Kg22.INF+fr*2^29:Nat):Int):=by
    have e3:(fr:Int)*2^(29:Int).toNat=((fr*2^29:Nat):Int):=by norm_cast
    have e4:(9218868437227405312:Int)=((2047*2^52:Nat):Int):=by decide
    rw [e3,e4,Yv0,Nat.or_comm,Za2 (by lia),Xv2]
    lia
   show [iv (sN sg),V.int (Builtin.bitOr 9218868437227405312 ((fr:Int)*2^(29:Int).toNat))]=_
   rw [e2]
  ·rw [Xv2];lia
 ·rw [if_neg (fun z=>hc (decide_eq_true z))] at q1
  have fin:∀ mt:Nat,mt<2^24→mt=(if fi=0 then fr else 2^23+fr)→∀ t,H t=none→Q (iv (Kg22.withSign sg (Yx0 53 1074 Kg22.INF 0 sg mt ((max fi 1:Nat)-150)).1)) (upd H t (.tup [iv (Yx0 53 1074 Kg22.INF 0 sg mt ((max fi 1:Nat)-150)).1,iv (Yx0 53 1074 Kg22.INF 0 sg mt ((max fi 1:Nat)-150)).2])):=fun mt _ e t ht=>by
   rw [e];exact q1 _ (Zz0 ht)
  have mb:∀ mt:Nat,mt<2^24→Yo0 mt≤9000:=fun mt h=>Nat.le_trans (Zr0.mp h) (by decide)
  refine ⟨_,rfl,rfl,_,rfl,?_⟩
  rw [show (V.int 0)=V.int ((0:Nat):Int) from rfl,Yj0]
  refine Xb0 (fun hd=>?_) (fun hd=>?_)
  ·have hd':fi=0:=of_decide_eq_true hd
   refine ⟨_,rfl,?_⟩
   refine ⟨_,rfl,_,rfl,_,rfl,_,_,rfl,_,_,rfl,rfl,?_⟩
   dsimp only
   rw [show (1:Int)=((1:Nat):Int) from rfl,Zi4]
   refine ⟨aD,53,1074,Kg22.INF,sg,fr,_,0,rfl,T7.sd H,.inl ⟨rfl,rfl,rfl⟩,by decide,mb fr (by lia),by lia,by lia,fun t ht=>?_⟩
   exact ⟨_,rfl,_,rfl,t,_,_,_,rfl,rfl,SqT.of Zm0,rfl,sg,_,rfl,Nat.lt_of_le_of_lt Jq0 Ym1,fin fr (by lia) (by rw [if_pos hd']) t ht⟩
  ·have hd':¬ fi=0:=fun z=>hd (decide_eq_true z)
   refine ⟨_,rfl,_,_,rfl,rfl,?_⟩
   have e5:Builtin.bitOr (fr:Int) 8388608=((2^23+fr:Nat):Int):=by
    have e6:(8388608:Int)=((1*2^23:Nat):Int):=by decide
    rw [e6,Yv0,Za2 hfr];lia
   dsimp only
   rw [e5]
   refine ⟨_,rfl,_,rfl,_,rfl,_,_,rfl,_,_,rfl,rfl,?_⟩
   dsimp only
   rw [show (1:Int)=((1:Nat):Int) from rfl,Zi4]
   refine ⟨aD,53,1074,Kg22.INF,sg,2^23+fr,_,0,rfl,T7.sd H,.inl ⟨rfl,rfl,rfl⟩,by decide,mb _ (by lia),by lia,by lia,fun t ht=>?_⟩
   exact ⟨_,rfl,_,rfl,t,_,_,_,rfl,rfl,SqT.of Zm0,rfl,sg,_,rfl,Nat.lt_of_le_of_lt Jq0 Ym1,fin _ (by lia) (by rw [if_neg hd']) t ht⟩
theorem Uw2 {x:Nat} (h:x<2^31):Kg22.longer x<2^63:=by
 rw [Zb1 x false,decide_eq_false (by lia)]
 unfold Kg22.withSign
 rw [if_neg (by decide)]
 split
 ·have:x%2^23<2^23:=Nat.mod_lt _ (by decide)
  rw [Xv2];lia
 ·exact Nat.lt_of_le_of_lt Jq0 Ym1
theorem Zx4 (X:Nat):Kg22.withSign false X=X:=by unfold Kg22.withSign;rw [if_neg (by decide)]
theorem Zk4 {r:Nat} (s:Bool) (h:r<2^31):Kg22.longer ((if s=true then 2^31 else 0)+r)=Kg22.withSign s (Kg22.longer r):=by
 cases s
 ·rw [if_neg (by decide),Nat.zero_add,Zx4]
 ·rw [if_pos rfl,Zb1 (2^31+r) false,Zb1 r false,decide_eq_true (by lia),decide_eq_false (by lia)]
  have e1:(2^31+r)/2^23%256=r/2^23%256:=by (omega)
  have e2:(2^31+r)%2^23=r%2^23:=by lia
  unfold Jk0
  rw [e1,e2,Zx4]
def Jx0 (mode:Nat) (s:Bool) (n:Nat):KJ:=(Kg22.withSign s (Kg22.longer (Yx0 24 149 Vb0 mode s n 0).1),(Yx0 24 149 Vb0 mode s n 0).2)
theorem Zx3:Vb0<2^31:=by decide
theorem Yi4 (md:Nat) {v:Int} (hv:v.natAbs≤2^64):(Kg22.longer (Kg22.narrow md v),if Kg22.value (Kg22.longer (Kg22.narrow md v))=v*(Kg22.ONE:Int) then 0 else 1)=Jx0 md (decide (v<0)) v.natAbs:=by
 obtain ⟨h1,h2,h3,h4⟩:=Vx5 md hv
 rw [h4]
 unfold Jx0
 rw [← Zk4 _ h2,h1]
 by_cases h:v<0
 ·rw [if_pos h,decide_eq_true h,if_pos rfl]
 ·rw [if_neg h,decide_eq_false h,if_neg (by decide)]
variable (P w K mg base) in abbrev gWide:=FG P w K mg base "widened" 4 ["single"] Vv6
inductive spMS (C:Addr) (vs:List V) (H:Hp) (Q:VK) (_:XK):Prop |mk (d:Ad) (m:KM) (b:Nat) (s:Bool) (n mode:Nat) (_:vs=[.ref d.M,iv (sN s),iv n,iv mode]) (_:Rep C H d m b) (_:n≤2^64) (_:mode<4) (_:Ub0 C H d (KF m (Jx0 mode s n).2) b (Q (iv (Jx0 mode s n).1)))
theorem Ug1:Zj0 ["machine","sign","size","mode","pair"] ["machine","sign","size","mode"] (Zh0 (top 133)):=by decide +kernel
theorem Zn3 {f C aD aS:Addr}{fd:FuncData} (F:Fun K "made_short" "made_short" (top 133) f fd) (T:Txt K mg C) (T7:Txt7 K mg aD aS) (gr:gRounded P w K mg base) (gA:gFlags P w K mg base C) (gw:gWithSign P w K mg base) (gl:gWide P w K mg base):FnW P w K mg base 5 f fd ["machine","sign","size","mode"] (spMS C):=by
 exists Ug1,(by rintro vs H Q E ⟨d,m,b,s,n,mode,rfl,_⟩;rfl)
 obtain ⟨d,m,b,sg,n,mode,rfl,R,hb,hm,q⟩:=h
 have nd:=Ug1.nd
 refine ⟨_,Zd0 (Zp0 (i:=4) nd rfl (Or.inl rfl) (Zb0 gr hr Zf0 (Za0 (Za1 (v:=.ref aS) rfl T7.sgl rfl) (Za0 (pv 1) (Za0 (pv 2) (Za0 Zg0 (Za0 (pv 3) Zc0)))))))
  (Zd0 (Zx0 (Zu0 (pv 0) T.cl gA hr Zf0 (Za0 (Xi0 Jl0 (pv 4) Zg0 (fun _ _=>rfl)) Zc0)))
  (Ze0 (Zk0 (Zb0 gw hr Zf0 (Za0 (pv 1) (Za0 (Zb0 gl hr Zf0 (Za0 (Xi0 Jl0 (pv 4) Zg0 (fun _ _=>rfl)) Zc0)) Zc0)))))),?_⟩
 refine ⟨_,rfl,_,rfl,_,rfl,aS,24,149,Vb0,sg,n,0,mode,rfl,T7.ss H,.inr ⟨rfl,rfl,rfl⟩,hm,Jb1 hb,by decide,by decide,fun t ht=>?_⟩
 unfold Jx0 at q
 have rl:(Yx0 24 149 Vb0 mode sg n 0).1≤Vb0:=Jq0
 have rf:(Yx0 24 149 Vb0 mode sg n 0).2<256:=Vp1
 generalize Yx0 24 149 Vb0 mode sg n 0=r at *
 have hlt:=Zx3
 have sm:=Zz0 (u:=.tup [iv r.1,iv r.2]) ht
 have R1:=R.same sm
 refine ⟨_,rfl,d.M,d.dx,_,rfl,R1.obj,rfl,_,rfl,t,_,_,_,rfl,rfl,SqT.of Zm0,rfl,d,m,b,_,rfl,R1,rf,fun H1 d1 e1 R1' k1=>?_⟩
 have ht1:=(k1 t _ Zm0 (R.fresh ht)).1
 refine ⟨_,rfl,_,rfl,t,_,_,_,rfl,rfl,SqT.of ht1,rfl,r.1,rfl,by lia,fun H2 s2=>?_⟩
 refine ⟨sg,_,rfl,Uw2 (by lia),?_⟩
 exact q H2 d1 e1 (R1'.same s2) (((Yi0 sm).trans k1).trans (Yi0 s2))
variable (P w K mg base) in abbrev gMS (C:Addr):=FG P w K mg base "made_short" 5 ["machine","sign","size","mode"] (spMS C)
theorem Yk4:Zj0 ["machine","z","mode","value"] ["machine","z","mode"] (Zh0 (top 134)):=by decide +kernel
theorem Yv6 {f C:Addr}{fd:FuncData} (F:Fun K "sflot" "sflot" (top 134) f fd) (T6:Ze2 mg) (gS:gSigned P w K mg base) (gd:gMS P w K mg base C):FnW P w K mg base 6 f fd ["machine","z","mode"] (Jw5 C fun mode z=>Jx0 mode (decide (KN 64 z<0)) (KN 64 z).natAbs):=by
 exists Yk4,Zf1
 obtain ⟨d,m,b,z,mode,rfl,R,hz,hm,q⟩:=h
 refine ⟨_,Zd0 (Zp0 (i:=3) Yk4.nd rfl (Or.inl rfl) (Zb0 gS hr Zf0 (Za0 (pv 1) Zc0)))
  (Ze0 (Zk0 (Zb0 gd hr Zf0 (Za0 (pv 0) (Za0 (Xx0 (Zt0 Ye1 (pv 3) Zg0 (Zv0 _)) Zg0 Zg0) (Za0 (Yl0 Uv1 (by rfl) T6.abs boot_abs (Za0 (pv 3) Zc0)) (Za0 (pv 2) Zc0))))))),?_⟩
 have sr:=Ud0 hz
 have sb:(KN 64 z).natAbs≤2^64:=by lia
 refine ⟨_,rfl,z,rfl,hz,_,rfl,_,rfl,_,_,rfl,rfl,_,rfl,?_⟩
 refine Xb0 (fun hd=>?_) (fun hd=>?_)
 ·have hd':KN 64 z<0:=of_decide_eq_true hd
  rw [decide_eq_true hd'] at q
  refine ⟨_,rfl,_,rfl,?_⟩
  rw [Xk1]
  exact ⟨_,rfl,d,m,b,true,(KN 64 z).natAbs,mode,rfl,R,sb,hm,q⟩
 ·have hd':¬ KN 64 z<0:=fun x=>hd (decide_eq_true x)
  rw [decide_eq_false hd'] at q
  refine ⟨_,rfl,_,rfl,?_⟩
  rw [Xk1]
  exact ⟨_,rfl,d,m,b,false,(KN 64 z).natAbs,mode,rfl,R,sb,hm,q⟩
theorem Yw5:Zj0 ["machine","z","mode"] ["machine","z","mode"] (Zh0 (top 135)):=by decide +kernel
theorem Vj5 {f C:Addr}{fd:FuncData} (F:Fun K "sflotu" "sflotu" (top 135) f fd) (gd:gMS P w K mg base C):FnW P w K mg base 6 f fd ["machine","z","mode"] (Jw5 C fun mode z=>Jx0 mode false z):=by
 exists Yw5,Zf1
 obtain ⟨d,m,b,z,mode,rfl,R,hz,hm,q⟩:=h
 refine ⟨_,Ze0 (Zk0 (Zb0 gd hr Zf0 (Za0 (pv 0) (Za0 Zg0 (Za0 (pv 1) (Za0 (pv 2) Zc0)))))),?_⟩
 exact ⟨_,rfl,_,rfl,_,rfl,d,m,b,false,z,mode,rfl,R,by lia,hm,q⟩
def Un3 (m:KM) (n:Nat) (o:KJ):Prop:=(4<yW n→KG m=.error 2)∧(yW n≤4→KG m=.ok ({ KL (KF m o.2) (xW n) o.1 with pc:=(m.pc+4)%2^64 },0))∧o.1<2^64
def Jv4 (o:Nat) (h:Nat→Nat→KJ):Prop:=∀ (m:KM) (n:Nat),WF m→KI m m.pc 4=.ok n→opW n=o→Un3 m n (h (Xf2 m n) (KS m (zW n)))
def Jw4 (o:Nat) (h:Nat→Nat→KJ):Prop:=∀ (m:KM) (n:Nat),WF m→KI m m.pc 4=.ok n→evW n=o→Un3 m n (h (Xf2 m n) (zvW m n))
variable (P w K mg base) in def OpX (C aD:Addr) (st:Nat→(Nat→Nat→KJ)→Prop) (o:Nat):Prop :=
 ∃ (f:Addr) (ps:List Str) (h:Nat→Nat→KJ),Jz5 K aD (o:Int)=some (.ref f)∧VG P w K mg base f 6 ps (Jw5 C h)∧st o h
def xops (o:Nat):Prop:=o=5∨o=7∨o=21∨o=23
theorem Uq2:Zj0 ["machine","word","work","mode"] ["machine","word"] (Zh0 (top 138)):=by decide +kernel
theorem Un4 {f C aD:Addr}{fd:FuncData}{fc:Nat→Addr} (F:Fun K "run_fix" "run_fix" (top 138) f fd) (T:Txt K mg C) (hm:mg "FIXES" = some (.ref aD)) (go:gOp P w K mg base) (gm:FG P w K mg base "mode_of" 2 ["machine","word"] (Ym5 C (fc 2))) (gV:gVal P w K mg base C) (gz:gZ P w K mg base) (gg:gGive P w K mg base C) (gx:gX P w K mg base)
  (ops:∀ o,xops o→OpX P w K mg base C aD Jv4 o):FnW P w K mg base 7 f fd ["machine","word"] (Xc0 C fc xops):=by
 exists Uq2,Ya0
 obtain ⟨d,m,n,rfl,R,hn,hl,ho,q,qe'⟩:=h
 have qe:∀ e,KG m=.error e→E (.ref (fc e)) none H:=fun e he=>qe' e he H (Jf0.refl H)
 have nd:=Uq2.nd
 refine ⟨_,Zd0 (Zp0 (i:=2) nd rfl (Or.inl rfl) (Jf1 hm (Zb0 go hr Zf0 (Za0 (pv 1) Zc0))))
  (Zd0 (Zp0 (i:=3) nd rfl (Or.inl rfl) (Zb0 gm hr (Zs1 (E1:=E) (fun _ _ x=>x)) (Za0 (pv 0) (Za0 (pv 1) Zc0))))
  (Ze0 (Zx0 (Zu0 (pv 0) T.cl gg hr Zf0 (Za0 (Zb0 gx hr Zf0 (Za0 (pv 1) Zc0)) (Za0 (Zj1 (CX:=CXW P w) (k:=6) (i:=2) rfl (Or.inl rfl) hr Zf0 (Za0 (pv 0) (Za0 (Zu0 (pv 0) T.cl gV hr Zf0 (Za0 (Zb0 gz hr Zf0 (Za0 (pv 1) Zc0)) Zc0)) (Za0 (pv 3) Zc0)))) Zc0)))))),?_⟩
 obtain ⟨fw,ps,g,kg,⟨kp,fdw,bw,Fw⟩,sb⟩:=ops (opW n) ho
 obtain ⟨s1,s2,s3⟩:=sb m n R.wf hl rfl
 refine ⟨_,rfl,n,rfl,hn,_,fw,rfl,kg,?_⟩
 refine ⟨_,rfl,_,rfl,d,m,_,n,rfl,R,hn,fun y4=>?_,fun y4=>qe 2 (s1 y4)⟩
 refine ⟨_,rfl,d.M,d.dx,_,rfl,R.obj,rfl,_,rfl,n,rfl,hn,fw,fdw,ps,_,rfl,kp,Fw,bw,_,rfl,_,rfl,d.M,d.dx,_,rfl,R.obj,rfl,_,rfl,n,rfl,hn,d,m,_,zW n,rfl,R,Nat.mod_lt _ (by decide),_,rfl,d,m,_,_,_,rfl,R,Vl0 R.wf _,Xd4 m n,fun H1 d1 e1 R1 k1=>?_⟩
 exact ⟨d1,_,_,xW n,_,(by rw [e1];rfl),R1,Vv0 n,s3,(q _ (s2 y4) _ _ rfl (Jb0 _ _ _)).of e1 k1⟩
def lops (o:Nat):Prop:=8≤o∧o<16
theorem Jw1:Zj0 ["machine","word","work","mode"] ["machine","word"] (Zh0 (top 139)):=by decide +kernel
theorem Vc3 {f C aD:Addr}{fd:FuncData}{fc:Nat→Addr} (F:Fun K "run_float" "run_float" (top 139) f fd) (T:Txt K mg C) (hm:mg "FLOATS" = some (.ref aD)) (ge:gEven P w K mg base) (gm:FG P w K mg base "mode_of" 2 ["machine","word"] (Ym5 C (fc 2))) (gs:gSecond P w K mg base C) (gg:gGive P w K mg base C) (gx:gX P w K mg base)
  (ops:∀ o,(o=8∨o=10∨o=12∨o=14)→OpX P w K mg base C aD Jw4 o):FnW P w K mg base 7 f fd ["machine","word"] (Xc0 C fc lops):=by
 exists Jw1,Ya0
 obtain ⟨d,m,n,rfl,R,hn,hl,ho,q,qe'⟩:=h
 have qe:∀ e,KG m=.error e→E (.ref (fc e)) none H:=fun e he=>qe' e he H (Jf0.refl H)
 have nd:=Jw1.nd
 refine ⟨_,Zd0 (Zp0 (i:=2) nd rfl (Or.inl rfl) (Jf1 hm (Zb0 ge hr Zf0 (Za0 (pv 1) Zc0))))
  (Zd0 (Zp0 (i:=3) nd rfl (Or.inl rfl) (Zb0 gm hr (Zs1 (E1:=E) (fun _ _ x=>x)) (Za0 (pv 0) (Za0 (pv 1) Zc0))))
  (Ze0 (Zx0 (Zu0 (pv 0) T.cl gg hr Zf0 (Za0 (Zb0 gx hr Zf0 (Za0 (pv 1) Zc0)) (Za0 (Zj1 (CX:=CXW P w) (k:=6) (i:=2) rfl (Or.inl rfl) hr Zf0 (Za0 (pv 0) (Za0 (Zb0 gs hr Zf0 (Za0 (pv 0) (Za0 (pv 1) Zc0))) (Za0 (pv 3) Zc0)))) Zc0)))))),?_⟩
 have ho':8≤opW n∧opW n<16:=ho
 have eE:evW n=opW n-opW n%2:=rfl
 obtain ⟨fw,ps,g,kg,⟨kp,fdw,bw,Fw⟩,sb⟩:=ops (evW n) (by lia)
 obtain ⟨s1,s2,s3⟩:=sb m n R.wf hl rfl
 refine ⟨_,rfl,n,rfl,hn,_,fw,rfl,kg,?_⟩
 refine ⟨_,rfl,_,rfl,d,m,_,n,rfl,R,hn,fun y4=>?_,fun y4=>qe 2 (s1 y4)⟩
 refine ⟨_,rfl,d.M,d.dx,_,rfl,R.obj,rfl,_,rfl,n,rfl,hn,fw,fdw,ps,_,rfl,kp,Fw,bw,_,rfl,_,rfl,_,rfl,d,m,_,n,rfl,R,hn,_,rfl,d,m,_,_,_,rfl,R,Xz1 R.wf n,Xd4 m n,fun H1 d1 e1 R1 k1=>?_⟩
 exact ⟨d1,_,_,xW n,_,(by rw [e1];rfl),R1,Vv0 n,s3,(q _ (s2 y4) _ _ rfl (Jb0 _ _ _)).of e1 k1⟩
theorem Vt3 {o:KJ}{m:KM}{n:Nat} (h:KG m=(if 4<yW n then (Except.error 2:KD KM) else .ok (Kg22.give { m with pc:=(m.pc+4)%2^64 } (xW n) o)).bind fun r=>.ok (r,0)) (hlt:o.1<2^64):Un3 m n o:=by
 refine ⟨fun y=>?_,fun y=>?_,hlt⟩
 ·rw [h,if_pos y];rfl
 ·rw [h,if_neg (by omega),Vw1];rfl
theorem Ji6 {mode z:Nat}{sg:Bool} (hz:z<2^64):(Kg22.fix mode z sg).1<2^64:=by
 by_cases h:(KO z || KW z)=true
 ·rw [Zn4 h];exact hz
 ·rw [Zo4 h];exact Uj0 _
theorem Zw7 {mode z:Nat} (hz:z<2^64):(Zw2 Zo1 mode z).1<2^64:=by
 unfold Zw2
 split
 ·exact Uq1
 ·split
  ·exact hz
  ·split
   ·exact Uq1
   ·split
    ·exact hz
    ·unfold Zo1;exact Xq1 _ _ _ _
theorem Zj4 {mode:Nat}{s:Bool}{mt:Nat}{ex:Int}:(Xk0 mode s mt ex).1<2^64:=by
 unfold Xk0
 exact Jw0 (Nat.lt_of_le_of_lt Jq0 Ym1)
theorem int_lt {mode z:Nat} (hz:z<2^64):(Zl4 Xj2 mode z).1<2^64:=by
 unfold Zl4
 by_cases h1:KW z=true
 ·rw [if_pos h1];exact Uq1
 ·rw [if_neg h1]
  by_cases h2:KO z=true
  ·rw [if_pos h2];exact hz
  ·rw [if_neg h2,Ur5 (Vx3 (Jm0 h1) (Jm0 h2))]
   exact Zj4
theorem sx_fix:Jv4 5 (fun mode z=>Kg22.fix mode z true):=fun m n wf hl ho=>by
 have st:=Vl1 hl (by omega) (by omega)
 rw [ho] at st
 exact Vt3 st (Ji6 (Vl0 wf _))
theorem Zs7:Jv4 7 (fun mode z=>Kg22.fix mode z false):=fun m n wf hl ho=>by
 have st:=Vl1 hl (by omega) (by omega)
 rw [ho] at st
 exact Vt3 st (Ji6 (Vl0 wf _))
theorem Zr7:Jv4 21 (Zw2 Zo1):=fun m n wf hl ho=>by
 have st:=Yr1 hl (by omega) (by omega)
 rw [ho] at st
 have st2:KG m=(if 4<yW n then (Except.error 2:KD KM) else .ok (Kg22.give { m with pc:=(m.pc+4)%2^64 } (xW n) (Kg22.sqrt (Xf2 m n) (KS m (zW n))))).bind fun r=>.ok (r,0):=st
 rw [Zy7] at st2
 exact Vt3 st2 (Zw7 (Vl0 wf _))
theorem sx_int:Jv4 23 (Zl4 Xj2):=fun m n wf hl ho=>by
 have st:=Yr1 hl (by omega) (by omega)
 rw [ho] at st
 have st2:KG m=(if 4<yW n then (Except.error 2:KD KM) else .ok (Kg22.give { m with pc:=(m.pc+4)%2^64 } (xW n) (Kg22.int_ (Xf2 m n) (KS m (zW n))))).bind fun r=>.ok (r,0):=st
 rw [int_by] at st2
 exact Vt3 st2 (int_lt (Vl0 wf _))
theorem Yh4 {mode:Nat}{s:Bool}{n:Nat}:(Jx0 mode s n).1<2^64:=by
 unfold Jx0
 have h:(Yx0 24 149 Vb0 mode s n 0).1≤Vb0:=Jq0
 exact Jw0 (Uw2 (Nat.lt_of_le_of_lt h Zx3))
def flV (o b:Nat):Int:=if o/2%2=1 then (b:Int) else KN 64 b
theorem Yz3 {m:KM}{n:Nat} (hl:KI m m.pc 4=.ok n) (h1:8≤opW n) (h2:opW n<12) :
  KG m=(if 4<yW n then (Except.error 2:KD KM) else .ok (Kg22.give { m with pc:=(m.pc+4)%2^64 } (xW n) (Kg22.flot (Xf2 m n) (flV (opW n) (zvW m n))))).bind fun r=>.ok (r,0):=by
 rw [Yf5 hl h1 (by omega)]
 congr 1
 unfold Kg22.flotOp
 by_cases y:4<yW n
 ·rw [if_pos y,if_pos y]
 ·rw [if_neg y,if_neg y]
  dsimp only
  rw [if_pos h2]
  rfl
theorem Uh2 {m:KM}{n:Nat} (hl:KI m m.pc 4=.ok n) (h1:12≤opW n) (h2:opW n<16) :
  KG m=(if 4<yW n then (Except.error 2:KD KM) else .ok (Kg22.give { m with pc:=(m.pc+4)%2^64 } (xW n) (Kg22.longer (Kg22.narrow (Xf2 m n) (flV (opW n) (zvW m n))),if Kg22.value (Kg22.longer (Kg22.narrow (Xf2 m n) (flV (opW n) (zvW m n))))=flV (opW n) (zvW m n)*(Kg22.ONE:Int) then 0 else 1))).bind fun r=>.ok (r,0):=by
 rw [Yf5 hl (by omega) h2]
 congr 1
 unfold Kg22.flotOp
 by_cases y:4<yW n
 ·rw [if_pos y,if_pos y]
 ·rw [if_neg y,if_neg y]
  dsimp only
  rw [if_neg (show ¬ opW n<12 by omega)]
  rfl
theorem Zz7:Jw4 8 (fun mode z=>Uz5 mode (KN 64 z)):=fun m n wf hl ho=>by
 have eE:evW n=opW n-opW n%2:=rfl
 have st:=Yz3 hl (by omega) (by omega)
 have e:flV (opW n) (zvW m n)=KN 64 (zvW m n):=if_neg (by omega)
 rw [e,Uy5] at st
 exact Vt3 st Zj4
theorem Zv6:Jw4 10 (fun mode z=>Xk0 mode false z 0):=fun m n wf hl ho=>by
 have eE:evW n=opW n-opW n%2:=rfl
 have st:=Yz3 hl (by omega) (by omega)
 have e:flV (opW n) (zvW m n)=((zvW m n:Nat):Int):=if_pos (by omega)
 rw [e,Uy5,decide_eq_false (by omega),Int.natAbs_natCast] at st
 exact Vt3 st Zj4
theorem Zu6:Jw4 12 (fun mode z=>Jx0 mode (decide (KN 64 z<0)) (KN 64 z).natAbs):=fun m n wf hl ho=>by
 have eE:evW n=opW n-opW n%2:=rfl
 have st:=Uh2 hl (by omega) (by omega)
 have e:flV (opW n) (zvW m n)=KN 64 (zvW m n):=if_neg (by omega)
 have sr:=Ud0 (Xz1 wf n)
 rw [e,Yi4 _ (by omega)] at st
 exact Vt3 st Yh4
theorem Yp5:Jw4 14 (fun mode z=>Jx0 mode false z):=fun m n wf hl ho=>by
 have eE:evW n=opW n-opW n%2:=rfl
 have st:=Uh2 hl (by omega) (by omega)
 have e:flV (opW n) (zvW m n)=((zvW m n:Nat):Int):=if_pos (by omega)
 have hz:=Xz1 wf n
 rw [e,Yi4 _ (by rw [Int.natAbs_natCast];omega),decide_eq_false (by omega),Int.natAbs_natCast] at st
 exact Vt3 st Yh4
def szW (n:Nat):Nat:=2^(opW n/4%4)
theorem Yw3 (n:Nat):Sz (szW n):=by
 unfold szW Sz
 rcases (show opW n/4%4=0∨opW n/4%4=1∨opW n/4%4=2∨opW n/4%4=3 by lia) with h | h | h | h <;> rw [h] <;> decide
theorem Vm4:Zj0 ["word"] ["word"] (Zh0 (top 159)):=by decide +kernel
theorem Ui4 {f:Addr}{fd:FuncData} (F:Fun K "size_of" "size_of" (top 159) f fd) (go:gOp P w K mg base):FnW P w K mg base 2 f fd ["word"] (spW fun n=>iv (szW n)):=by
 exists Vm4,Ys1
 obtain ⟨n,rfl,hn,q⟩:=h
 refine ⟨_,Ze0 (Zk0 (Zl0 Vy0 Zg0 (Zl0 Yf0 (Zl0 Xf0 (Zb0 go hr Zf0 (Za0 (pv 0) Zc0)) Zg0) Zg0))),?_⟩
 refine ⟨_,rfl,n,rfl,hn,_,_,rfl,rfl,(by decide:(0:Int)≤2),_,_,rfl,rfl,Xh7 rfl rfl ?_⟩
 have e:Builtin.bitAnd (((opW n:Nat):Int)/2^(2:Int).toNat) 3=((opW n/4%4:Nat):Int):=by rw [Uc0 (opW n) (k:=2) rfl,bitAnd_m2];rfl
 rw [e]
 refine ⟨⟨by lia,by lia,by decide⟩,?_⟩
 have e2:(1:Int)*2^(((opW n/4%4:Nat):Int)).toNat=((szW n:Nat):Int):=by
  unfold szW;rw [Int.one_mul,Int.toNat_natCast,Int.natCast_pow];rfl
 rw [e2];exact q
theorem Va2:Zj0 ["word"] ["word"] (Zh0 (top 160)):=by decide +kernel
theorem and2 (n:Nat):n&&&2=(n/2%2)*2:=by
 have:=Zr2 n 1 1
 simpa using this
theorem Vo2 {f:Addr}{fd:FuncData} (F:Fun K "is_unsigned" "is_unsigned" (top 160) f fd) (go:gOp P w K mg base):FnW P w K mg base 2 f fd ["word"] (spW fun n=>.bl (decide (opW n/2%2=1))):=by
 exists Va2,Ys1
 obtain ⟨n,rfl,hn,q⟩:=h
 refine ⟨_,Ze0 (Zk0 (Xy0 Xj0 (Zl0 Yf0 (Zb0 go hr Zf0 (Za0 (pv 0) Zc0)) Zg0) Zg0 (Zv0 _))),?_⟩
 refine ⟨_,rfl,n,rfl,hn,_,_,rfl,rfl,rfl,?_⟩
 have e:decide (V.int (Builtin.bitAnd ((opW n:Nat):Int) 2)=V.int 2)=decide (opW n/2%2=1):=by
  have e1:Builtin.bitAnd ((opW n:Nat):Int) 2=((opW n/2%2*2:Nat):Int):=by
   rw [show (2:Int)=((2:Nat):Int) from rfl,Xm0,and2]
  rw [e1]
  have e2:=Yj0 (opW n/2%2*2) 2
  rw [show (V.int 2)=V.int ((2:Nat):Int) from rfl,e2]
  by_cases h:opW n/2%2=1
  ·rw [decide_eq_true h,decide_eq_true (by lia)]
  ·rw [decide_eq_false h,decide_eq_false (by lia)]
 show Q (.bl (decide (V.int (Builtin.bitAnd ((opW n:Nat):Int) 2)=V.int 2))) H
 rw [e];exact q
variable (P w K mg base) in abbrev gSize:=FG P w K mg base "size_of" 2 ["word"] (spW fun n=>iv (szW n))
variable (P w K mg base) in abbrev gUns:=FG P w K mg base "is_unsigned" 2 ["word"] (spW fun n=>.bl (decide (opW n/2%2=1)))
variable (P w K mg base) in abbrev gLoad (C c1:Addr):=MG P w K mg base C "load" 1 ["self","place","size"] (Ug6 C c1)
variable (P w K mg base) in abbrev gStore (C c1:Addr):=MG P w K mg base C "store" 1 ["self","place","size","value"] (Yk5 C c1)
theorem Jk1 {m:KM}{a s:Nat} (ha:a<2^64) (hs:Sz s):KI m a s=.error 1∨∃ v,KI m a s=.ok v∧v<2^(8*s):=by
 rw [Ug5 m ha hs]
 by_cases h:1048576≤a
 ·rw [if_pos h];exact .inl rfl
 ·rw [if_neg h];exact .inr ⟨_,rfl,Nat.mod_lt _ (Nat.two_pow_pos _)⟩
theorem Zz1 {m:KM}{a s x:Nat} (ha:a<2^64) (hs:Sz s):KY m a s x=.error 1∨KY m a s x=.ok (stored m a s x):=by
 rw [Jp2 m x ha hs]
 by_cases h:1048576≤a
 ·rw [if_pos h];exact .inl rfl
 ·rw [if_neg h];exact .inr rfl
theorem Ux0 (m:KM) (p a s x:Nat):KY { m with pc:=p } a s x=(KY m a s x).map fun r=>{ r with pc:=p }:=by
 unfold KY
 by_cases h:Kg22.SIZE≤a%Kg22.W
 ·rw [if_pos h,if_pos h];rfl
 ·rw [if_neg h,if_neg h];rfl
theorem c_sz (o:Nat):o/2%8/2=o/4%4:=by lia
theorem c_un (o:Nat):o/2%8%2=o/2%2:=by lia
def ldV (n v:Nat):Nat:=if opW n/2%2=0 then KH (KN (8*szW n) v) else v
theorem Yb5 {m:KM}{n:Nat} (hl:KI m m.pc 4=.ok n) (h1:128≤opW n) (h2:opW n<144):KG m=(KI m (Vo0 m n) (szW n)).bind fun v=>.ok (KL { m with pc:=(m.pc+4)%2^64 } (xW n) (ldV n v),0):=by
 unfold KG
 rw [hl]
 have h1':128≤n/2^24:=h1
 have h2':n/2^24<144:=h2
 show (if n/2^24=0 then _ else _)=_
 iterate 11 refine (if_neg (by first | exact nl h1' | exact nq h1')).trans ?_
 rw [if_pos (by lia)]
 show ((KI m ((KS m (yW n)+(if (opW n%2 == 1)=true then n%256 else KS m (n%256)))%2^64) (2^(opW n/2%8/2))).bind fun v=>(Except.ok (KL { m with pc:=(m.pc+4)%2^64 } (xW n) (if opW n/2%8%2=0 then KH (KN (8*2^(opW n/2%8/2)) v) else v),0):KD (KM×Nat)))=_
 rw [Xo0,c_sz,c_un];rfl
theorem Va4 {m:KM}{n:Nat} (hl:KI m m.pc 4=.ok n) (h1:160≤opW n) (h2:opW n<176):KG m=(KY { m with pc:=(m.pc+4)%2^64 } (Vo0 m n) (szW n) (KS m (xW n))).bind fun r=>.ok (if opW n/2%2=0∧KH (KN (8*szW n) (KS m (xW n)))≠KS m (xW n) then KF r 64 else r,0):=by
 unfold KG
 rw [hl]
 have h1':160≤n/2^24:=h1
 have h2':n/2^24<176:=h2
 show (if n/2^24=0 then _ else _)=_
 iterate 19 refine (if_neg (by first | exact nl h1' | exact nq h1')).trans ?_
 rw [if_pos (by lia)]
 show ((KY { m with pc:=(m.pc+4)%2^64 } ((KS m (yW n)+(if (opW n%2 == 1)=true then n%256 else KS m (n%256)))%2^64) (2^(opW n/2%8/2)) (KS m (xW n))).bind fun r=>(Except.ok (if opW n/2%8%2=0∧KH (KN (8*2^(opW n/2%8/2)) (KS m (xW n)))≠KS m (xW n) then KF r 64 else r,0):KD (KM×Nat)))=_
 rw [Xo0,c_sz,c_un];rfl
theorem Ul3 (n:Nat):8*szW n=8∨8*szW n=16∨8*szW n=32∨8*szW n=64:=by
 have:=Yw3 n
 unfold Sz at this
 lia
theorem sz_pow (n:Nat):2^(8*szW n)≤2^64:=Nat.pow_le_pow_right (by decide) (by have:=Ul3 n;lia)
theorem ldV_lt {n v:Nat} (hv:v<2^(8*szW n)):ldV n v<2^64:=by
 unfold ldV
 split
 ·exact Uj0 _
 ·exact Nat.lt_of_lt_of_le hv (sz_pow n)
theorem Yd2:Zj0 ["machine","word","size","part"] ["machine","word"] (Zh0 (top 161)):=by decide +kernel
theorem Ju3 {f C:Addr}{fd:FuncData}{fc:Nat→Addr} (F:Fun K "run_load" "run_load" (top 161) f fd) (T:Txt K mg C) (T2:Zx1 mg) (gz:gSize P w K mg base) (gL:gLoad P w K mg base C (fc 1)) (ga:gAddr P w K mg base C) (gu:gUns P w K mg base) (gs:FG P w K mg base "signed_part" 1 ["part","bits"] Yu1)
  (gg:gGive P w K mg base C) (gx:gX P w K mg base):FnW P w K mg base 4 f fd ["machine","word"] (Xc0 C fc fun o=>128≤o∧o<144):=by
 exists Yd2,Ya0
 obtain ⟨d,m,n,rfl,R,hn,hl,ho,q,qe'⟩:=h
 have qe:∀ e,KG m=.error e→E (.ref (fc e)) none H:=fun e he=>qe' e he H (Jf0.refl H)
 have nd:=Yd2.nd
 refine ⟨_,Zd0 (Zp0 (i:=2) nd rfl (Or.inl rfl) (Zb0 gz hr Zf0 (Za0 (pv 1) Zc0)))
  (Zd0 (Zp0 (i:=3) nd rfl (Or.inl rfl) (Zu0 (pv 0) T.cl gL hr (Zs1 (E1:=E) (fun _ _ x=>x)) (Za0 (Zb0 ga hr Zf0 (Za0 (pv 0) (Za0 (pv 1) Zc0))) (Za0 (pv 2) Zc0))))
  (Zd0 (Yb0 (Ul1 (Zs0 (Zb0 gu hr Zf0 (Za0 (pv 1) Zc0)) (fun _=>rfl))) (Ze0 (Zp0 (i:=3) nd rfl (Or.inl rfl) (Zl0 Yf0 (Zb0 gs hr Zf0 (Za0 (pv 3) (Za0 (Zl0 Vq0 Zg0 (pv 2)) Zc0))) (Zo0 T2.mask)))) Zq0)
  (Ze0 (Zx0 (Zu0 (pv 0) T.cl gg hr Zf0 (Za0 (Zb0 gx hr Zf0 (Za0 (pv 1) Zc0)) (Za0 (pv 3) Zc0))))))),?_⟩
 rw [Yb5 hl ho.1 ho.2] at q qe
 refine ⟨_,rfl,n,rfl,hn,?_⟩
 refine ⟨_,rfl,d.M,d.dx,_,rfl,R.obj,rfl,_,rfl,_,rfl,d,m,_,n,rfl,R,hn,_,rfl,d,m,_,Vo0 m n,szW n,rfl,R,Xn0 m n,Yw3 n,fun v hv=>?_,fun he=>qe 1 (by rw [he];rfl)⟩
 have hlt:v<2^(8*szW n):=by
  rcases Jk1 (m:=m) (Xn0 m n) (Yw3 n) with h | ⟨v',h,h'⟩
  ·rw [h] at hv;cases hv
  ·rw [h] at hv;cases hv;exact h'
 have q1:=q (KL { m with pc:=(m.pc+4)%2^64 } (xW n) (ldV n v)) (by rw [hv];rfl) (KL m (xW n) (ldV n v)) _ (Ut0 m _ _ _).symm (Jb0 m _ _)
 have hl2:=ldV_lt hlt
 refine ⟨_,rfl,n,rfl,hn,_,rfl,?_⟩
 unfold ldV at q1 hl2
 by_cases hu:opW n/2%2=1
 ·rw [if_neg (by lia)] at q1 hl2
  rw [decide_eq_true hu]
  exact ⟨_,rfl,d.M,d.dx,_,rfl,R.obj,rfl,_,rfl,n,rfl,hn,_,rfl,d,m,_,xW n,v,rfl,R,Vv0 n,hl2,q1⟩
 ·rw [if_pos (by lia)] at q1 hl2
  rw [decide_eq_false hu]
  refine ⟨_,rfl,_,rfl,_,_,rfl,rfl,.inl ⟨by decide,by decide⟩,v,8*szW n,?_,Ul3 n,hlt,_,_,rfl,rfl,?_⟩
  ·show [iv v,V.int (8*((szW n:Nat):Int))]=[iv v,V.int ((8*szW n:Nat):Int)]
   rw [Int.natCast_mul];rfl
  ·dsimp only
   rw [Yc0,← Jc0]
   exact ⟨_,rfl,d.M,d.dx,_,rfl,R.obj,rfl,_,rfl,n,rfl,hn,_,rfl,d,m,_,xW n,_,rfl,R,Vv0 n,hl2,q1⟩
theorem Yc5 {m:KM}{n:Nat} (hl:KI m m.pc 4=.ok n) (h1:144≤opW n) (h2:opW n<146):KG m=(KI m (Vo0 m n) 4).bind fun v=>.ok (KL { m with pc:=(m.pc+4)%2^64 } (xW n) (Kg22.longer v),0):=by
 unfold KG
 rw [hl]
 have h1':144≤n/2^24:=h1
 have h2':n/2^24<146:=h2
 show (if n/2^24=0 then _ else _)=_
 iterate 12 refine (if_neg (by first | exact nl h1' | exact nq h1')).trans ?_
 rw [if_pos (by lia)]
 show ((KI m ((KS m (yW n)+(if (opW n%2 == 1)=true then n%256 else KS m (n%256)))%2^64) 4).bind fun v=>(Except.ok (KL { m with pc:=(m.pc+4)%2^64 } (xW n) (Kg22.longer v),0):KD (KM×Nat)))=_
 rw [Xo0];rfl
theorem Yd5 {m:KM}{n:Nat} (hl:KI m m.pc 4=.ok n) (h1:146≤opW n) (h2:opW n<148):KG m=(KI m (Vo0 m n) 4).bind fun v=>.ok (KL { m with pc:=(m.pc+4)%2^64 } (xW n) (v*2^32),0):=by
 unfold KG
 rw [hl]
 have h1':146≤n/2^24:=h1
 have h2':n/2^24<148:=h2
 show (if n/2^24=0 then _ else _)=_
 iterate 13 refine (if_neg (by first | exact nl h1' | exact nq h1')).trans ?_
 rw [if_pos (by lia)]
 show ((KI m ((KS m (yW n)+(if (opW n%2 == 1)=true then n%256 else KS m (n%256)))%2^64) 4).bind fun v=>(Except.ok (KL { m with pc:=(m.pc+4)%2^64 } (xW n) (v*2^32),0):KD (KM×Nat)))=_
 rw [Xo0];rfl
theorem Vc4 {m:KM}{n:Nat} (hl:KI m m.pc 4=.ok n) (h1:150≤opW n) (h2:opW n<152):KG m=(KI m (Vo0 m n) 8).bind fun v=>.ok (KL { m with pc:=(m.pc+4)%2^64 } (xW n) (v),0):=by
 unfold KG
 rw [hl]
 have h1':150≤n/2^24:=h1
 have h2':n/2^24<152:=h2
 show (if n/2^24=0 then _ else _)=_
 iterate 15 refine (if_neg (by first | exact nl h1' | exact nq h1')).trans ?_
 rw [if_pos (by lia)]
 show ((KI m ((KS m (yW n)+(if (opW n%2 == 1)=true then n%256 else KS m (n%256)))%2^64) 8).bind fun v=>(Except.ok (KL { m with pc:=(m.pc+4)%2^64 } (xW n) (v),0):KD (KM×Nat)))=_
 rw [Xo0];rfl
theorem Zr5 {m:KM}{n:Nat} (hl:KI m m.pc 4=.ok n) (h1:178≤opW n) (h2:opW n<180):KG m=(KY { m with pc:=(m.pc+4)%2^64 } (Vo0 m n) 4 (KS m (xW n)/2^32)).bind fun r=>.ok (r,0):=by
 unfold KG
 rw [hl]
 have h1':178≤n/2^24:=h1
 have h2':n/2^24<180:=h2
 show (if n/2^24=0 then _ else _)=_
 iterate 21 refine (if_neg (by first | exact nl h1' | exact nq h1')).trans ?_
 rw [if_pos (by lia)]
 show ((KY { m with pc:=(m.pc+4)%2^64 } ((KS m (yW n)+(if (opW n%2 == 1)=true then n%256 else KS m (n%256)))%2^64) 4 (KS m (xW n)/2^32)).bind fun r=>(Except.ok (r,0):KD (KM×Nat)))=_
 rw [Xo0];rfl
theorem Zs5 {m:KM}{n:Nat} (hl:KI m m.pc 4=.ok n) (h1:180≤opW n) (h2:opW n<182):KG m=(KY { m with pc:=(m.pc+4)%2^64 } (Vo0 m n) 8 (xW n)).bind fun r=>.ok (r,0):=by
 unfold KG
 rw [hl]
 have h1':180≤n/2^24:=h1
 have h2':n/2^24<182:=h2
 show (if n/2^24=0 then _ else _)=_
 iterate 22 refine (if_neg (by first | exact nl h1' | exact nq h1')).trans ?_
 rw [if_pos (by lia)]
 show ((KY { m with pc:=(m.pc+4)%2^64 } ((KS m (yW n)+(if (opW n%2 == 1)=true then n%256 else KS m (n%256)))%2^64) 8 (xW n)).bind fun r=>(Except.ok (r,0):KD (KM×Nat)))=_
 rw [Xo0];rfl
theorem Xz4 {m:KM}{n:Nat} (hl:KI m m.pc 4=.ok n) (h1:182≤opW n) (h2:opW n<184):KG m=(KY { m with pc:=(m.pc+4)%2^64 } (Vo0 m n) 8 (KS m (xW n))).bind fun r=>.ok (r,0):=by
 unfold KG
 rw [hl]
 have h1':182≤n/2^24:=h1
 have h2':n/2^24<184:=h2
 show (if n/2^24=0 then _ else _)=_
 iterate 23 refine (if_neg (by first | exact nl h1' | exact nq h1')).trans ?_
 rw [if_pos (by lia)]
 show ((KY { m with pc:=(m.pc+4)%2^64 } ((KS m (yW n)+(if (opW n%2 == 1)=true then n%256 else KS m (n%256)))%2^64) 8 (KS m (xW n))).bind fun r=>(Except.ok (r,0):KD (KM×Nat)))=_
 rw [Xo0];rfl
theorem Jb5 {b v:Nat} (hb:b=8∨b=16∨b=32∨b=64) (hv:v<2^64):decide (-(2^(b-1):Int)≤KN 64 v∧KN 64 v<2^(b-1))=decide (KH (KN b v)=v):=by
 have hw:=Jc0 (KN b v)
 have hl:=Uj0 (KN b v)
 have hs:KN 64 v=if v<2^(64-1) then (v:Int) else (v:Int)-2^64:=Jv0 hv
 have ht:KN b v=if v%2^b<2^(b-1) then ((v%2^b:Nat):Int) else ((v%2^b:Nat):Int)-2^b:=rfl
 have key:(-(2^(b-1):Int)≤KN 64 v∧KN 64 v<2^(b-1))↔KH (KN b v)=v:=by
  generalize KH (KN b v)=X at *
  generalize KN b v=t at *
  generalize KN 64 v=u at *
  rcases hb with rfl | rfl | rfl | rfl <;> (split at hs <;> split at ht <;> lia)
 by_cases h:KH (KN b v)=v
 ·rw [decide_eq_true h,decide_eq_true (key.mpr h)]
 ·rw [decide_eq_false h,decide_eq_false (fun z=>h (key.mp z))]
theorem sz4:Sz 4:=.inr (.inr (.inl rfl))
theorem sz8:Sz 8:=.inr (.inr (.inr rfl))
theorem Ui5 {C:Addr}{H:Hp}{d:Ad}{m:KM}{n s:Nat}{F:Nat→Nat}{fc:Nat→Addr}{Q:VK}{E:XK} (hs:Sz s)
  (q:∀ r,(KI m (Vo0 m n) s).bind (fun v=>(.ok (KL { m with pc:=(m.pc+4)%2^64 } (xW n) (F v),0):KD (KM×Nat)))=.ok (r,0)→∀ (m':KM) (b':Nat),{ m' with pc:=b' }=r→m'.pc=m.pc→Ub0 C H d m' b' (Q .non)) :
  ∀ v,KI m (Vo0 m n) s=.ok v→v<2^(8*s)∧Ub0 C H d (KL m (xW n) (F v)) ((m.pc+4)%2^64) (Q .non):=fun v hv=>by
 refine ⟨?_,q _ (by rw [hv];rfl) (KL m (xW n) (F v)) _ (Ut0 m _ _ _).symm (Jb0 m _ _)⟩
 rcases Jk1 (m:=m) (Xn0 m n) hs with h | ⟨v',h,h'⟩
 ·rw [h] at hv;cases hv
 ·rw [h] at hv;cases hv;exact h'
theorem Yp7:sc2 164:=by decide +kernel
theorem Vz7 {f C:Addr}{fd:FuncData}{fc:Nat→Addr} (F:Fun K "ldht" "ldht" (top 164) f fd) (T:Txt K mg C) (gL:gLoad P w K mg base C (fc 1)) (ga:gAddr P w K mg base C) (gg:gGive P w K mg base C) (gx:gX P w K mg base):FnW P w K mg base 4 f fd ["machine","word"] (Xc0 C fc fun o=>146≤o∧o<148):=by
 exists Yp7,Ya0
 obtain ⟨d,m,n,rfl,R,hn,hl,ho,q,qe'⟩:=h
 have qe:∀ e,KG m=.error e→E (.ref (fc e)) none H:=fun e he=>qe' e he H (Jf0.refl H)
 refine ⟨_,Ze0 (Zx0 (Zu0 (pv 0) T.cl gg hr Zf0 (Za0 (Zb0 gx hr Zf0 (Za0 (pv 1) Zc0)) (Za0 (Zl0 Vy0 (Zu0 (pv 0) T.cl gL hr (Zs1 (E1:=E) (fun _ _ x=>x)) (Za0 (Zb0 ga hr Zf0 (Za0 (pv 0) (Za0 (pv 1) Zc0))) (Za0 Zg0 Zc0))) Zg0) Zc0)))),?_⟩
 rw [Yd5 hl ho.1 ho.2] at q qe
 refine ⟨_,rfl,d.M,d.dx,_,rfl,R.obj,rfl,_,rfl,n,rfl,hn,_,rfl,d.M,d.dx,_,rfl,R.obj,rfl,_,rfl,_,rfl,d,m,_,n,rfl,R,hn,d,m,_,Vo0 m n,4,rfl,R,Xn0 m n,sz4,fun v hv=>?_,fun he=>qe 1 (by rw [he];rfl)⟩
 obtain ⟨h1,h2⟩:=Ui5 (F:=fun v=>v*2^32) (fc:=fc) (E:=E) sz4 q v hv
 refine ⟨_,_,rfl,rfl,⟨by decide,by decide,by lia⟩,?_⟩
 have e:(v:Int)*2^(32:Int).toNat=((v*2^32:Nat):Int):=by norm_cast
 dsimp only
 rw [e]
 exact ⟨d,m,_,xW n,v*2^32,rfl,R,Vv0 n,by lia,h2⟩
theorem Ya6:sc2 166:=by decide +kernel
theorem Yx6 {f C:Addr}{fd:FuncData}{fc:Nat→Addr} (F:Fun K "ldunc" "ldunc" (top 166) f fd) (T:Txt K mg C) (gL:gLoad P w K mg base C (fc 1)) (ga:gAddr P w K mg base C) (gg:gGive P w K mg base C) (gx:gX P w K mg base):FnW P w K mg base 4 f fd ["machine","word"] (Xc0 C fc fun o=>150≤o∧o<152):=by
 exists Ya6,Ya0
 obtain ⟨d,m,n,rfl,R,hn,hl,ho,q,qe'⟩:=h
 have qe:∀ e,KG m=.error e→E (.ref (fc e)) none H:=fun e he=>qe' e he H (Jf0.refl H)
 refine ⟨_,Ze0 (Zx0 (Zu0 (pv 0) T.cl gg hr Zf0 (Za0 (Zb0 gx hr Zf0 (Za0 (pv 1) Zc0)) (Za0 (Zu0 (pv 0) T.cl gL hr (Zs1 (E1:=E) (fun _ _ x=>x)) (Za0 (Zb0 ga hr Zf0 (Za0 (pv 0) (Za0 (pv 1) Zc0))) (Za0 Zg0 Zc0))) Zc0)))),?_⟩
 rw [Vc4 hl ho.1 ho.2] at q qe
 refine ⟨_,rfl,d.M,d.dx,_,rfl,R.obj,rfl,_,rfl,n,rfl,hn,_,rfl,d.M,d.dx,_,rfl,R.obj,rfl,_,rfl,_,rfl,d,m,_,n,rfl,R,hn,d,m,_,Vo0 m n,8,rfl,R,Xn0 m n,sz8,fun v hv=>?_,fun he=>qe 1 (by rw [he];rfl)⟩
 obtain ⟨h1,h2⟩:=Ui5 (F:=fun v=>v) (fc:=fc) (E:=E) sz8 q v hv
 exact ⟨d,m,_,xW n,v,rfl,R,Vv0 n,h1,h2⟩
theorem Yo7:sc2 163:=by decide +kernel
theorem Ue5 {x:Nat}:Kg22.longer x<2^64:=by
 rw [Zb1 x false]
 apply Jw0
 split
 ·have:x%2^23<2^23:=Nat.mod_lt _ (by decide)
  rw [Xv2];lia
 ·exact Nat.lt_of_le_of_lt Jq0 Ym1
theorem Vy7 {f C:Addr}{fd:FuncData}{fc:Nat→Addr} (F:Fun K "ldsf" "ldsf" (top 163) f fd) (T:Txt K mg C) (gL:gLoad P w K mg base C (fc 1)) (ga:gAddr P w K mg base C) (gw:gWide P w K mg base) (gg:gGive P w K mg base C) (gx:gX P w K mg base):FnW P w K mg base 5 f fd ["machine","word"] (Xc0 C fc fun o=>144≤o∧o<146):=by
 exists Yo7,Ya0
 obtain ⟨d,m,n,rfl,R,hn,hl,ho,q,qe'⟩:=h
 have qe:∀ e,KG m=.error e→E (.ref (fc e)) none H:=fun e he=>qe' e he H (Jf0.refl H)
 refine ⟨_,Ze0 (Zx0 (Zu0 (pv 0) T.cl gg hr Zf0 (Za0 (Zb0 gx hr Zf0 (Za0 (pv 1) Zc0)) (Za0 (Zb0 gw hr Zf0 (Za0 (Zu0 (pv 0) T.cl gL hr (Zs1 (E1:=E) (fun _ _ x=>x)) (Za0 (Zb0 ga hr Zf0 (Za0 (pv 0) (Za0 (pv 1) Zc0))) (Za0 Zg0 Zc0))) Zc0)) Zc0)))),?_⟩
 rw [Yc5 hl ho.1 ho.2] at q qe
 refine ⟨_,rfl,d.M,d.dx,_,rfl,R.obj,rfl,_,rfl,n,rfl,hn,_,rfl,d.M,d.dx,_,rfl,R.obj,rfl,_,rfl,_,rfl,d,m,_,n,rfl,R,hn,d,m,_,Vo0 m n,4,rfl,R,Xn0 m n,sz4,fun v hv=>?_,fun he=>qe 1 (by rw [he];rfl)⟩
 obtain ⟨h1,h2⟩:=Ui5 (F:=Kg22.longer) (fc:=fc) (E:=E) sz4 q v hv
 refine ⟨v,rfl,by lia,fun H' hs=>?_⟩
 exact ⟨d,m,_,xW n,Kg22.longer v,rfl,R.same hs,Vv0 n,Ue5,h2.of rfl (Yi0 hs)⟩
theorem Yh5 {C:Addr}{H:Hp}{d:Ad}{m:KM}{n s x:Nat}{Q:VK}
  (q:∀ r,(KY { m with pc:=(m.pc+4)%2^64 } (Vo0 m n) s x).bind (fun r=>(.ok (r,0):KD (KM×Nat)))=.ok (r,0)→∀ (m':KM) (b':Nat),{ m' with pc:=b' }=r→m'.pc=m.pc→Ub0 C H d m' b' (Q .non)) (hs:Sz s) :
  ∀ m',KY m (Vo0 m n) s x=.ok m'→Ub0 C H d m' ((m.pc+4)%2^64) (Q .non):=fun m' hv=>by
 refine q { m' with pc:=(m.pc+4)%2^64 } (by rw [Ux0,hv];rfl) m' _ rfl ?_
 rcases Zz1 (m:=m) (x:=x) (Xn0 m n) hs with h | h
 ·rw [h] at hv;cases hv
 ·rw [h] at hv;cases hv;rfl
theorem Yi7:sc2 168:=by decide +kernel
theorem Vm7 {f C:Addr}{fd:FuncData}{fc:Nat→Addr} (F:Fun K "stht" "stht" (top 168) f fd) (T:Txt K mg C) (gT:gStore P w K mg base C (fc 1)) (ga:gAddr P w K mg base C) (gV:gVal P w K mg base C) (gx:gX P w K mg base):FnW P w K mg base 4 f fd ["machine","word"] (Xc0 C fc fun o=>178≤o∧o<180):=by
 exists Yi7,Ya0
 obtain ⟨d,m,n,rfl,R,hn,hl,ho,q,qe'⟩:=h
 have qe:∀ e,KG m=.error e→E (.ref (fc e)) none H:=fun e he=>qe' e he H (Jf0.refl H)
 refine ⟨_,Ze0 (Zx0 (Zu0 (pv 0) T.cl gT hr (Zs1 (E1:=E) (fun _ _ x=>x)) (Za0 (Zb0 ga hr Zf0 (Za0 (pv 0) (Za0 (pv 1) Zc0))) (Za0 Zg0 (Za0 (Zl0 Xf0 (Zu0 (pv 0) T.cl gV hr Zf0 (Za0 (Zb0 gx hr Zf0 (Za0 (pv 1) Zc0)) Zc0)) Zg0) Zc0))))),?_⟩
 rw [Zr5 hl ho.1 ho.2] at q qe
 refine ⟨_,rfl,d.M,d.dx,_,rfl,R.obj,rfl,_,rfl,_,rfl,d,m,_,n,rfl,R,hn,_,rfl,d.M,d.dx,_,rfl,R.obj,rfl,_,rfl,n,rfl,hn,d,m,_,xW n,rfl,R,Vv0 n,_,_,rfl,rfl,(by decide:(0:Int)≤32),?_⟩
 dsimp only
 rw [Uc0 (KS m (xW n)) (k:=32) rfl]
 exact ⟨d,m,_,Vo0 m n,4,_,rfl,R,Xn0 m n,sz4,Yh5 q sz4,fun he=>qe 1 (by rw [Ux0,he];rfl)⟩
theorem Yj7:sc2 169:=by decide +kernel
theorem Vn7 {f C:Addr}{fd:FuncData}{fc:Nat→Addr} (F:Fun K "stco" "stco" (top 169) f fd) (T:Txt K mg C) (gT:gStore P w K mg base C (fc 1)) (ga:gAddr P w K mg base C) (gx:gX P w K mg base):FnW P w K mg base 4 f fd ["machine","word"] (Xc0 C fc fun o=>180≤o∧o<182):=by
 exists Yj7,Ya0
 obtain ⟨d,m,n,rfl,R,hn,hl,ho,q,qe'⟩:=h
 have qe:∀ e,KG m=.error e→E (.ref (fc e)) none H:=fun e he=>qe' e he H (Jf0.refl H)
 refine ⟨_,Ze0 (Zx0 (Zu0 (pv 0) T.cl gT hr (Zs1 (E1:=E) (fun _ _ x=>x)) (Za0 (Zb0 ga hr Zf0 (Za0 (pv 0) (Za0 (pv 1) Zc0))) (Za0 Zg0 (Za0 (Zb0 gx hr Zf0 (Za0 (pv 1) Zc0)) Zc0))))),?_⟩
 rw [Zs5 hl ho.1 ho.2] at q qe
 exact ⟨_,rfl,d.M,d.dx,_,rfl,R.obj,rfl,_,rfl,_,rfl,d,m,_,n,rfl,R,hn,_,rfl,n,rfl,hn,d,m,_,Vo0 m n,8,_,rfl,R,Xn0 m n,sz8,Yh5 q sz8,fun he=>qe 1 (by rw [Ux0,he];rfl)⟩
theorem Zy6:sc2 170:=by decide +kernel
theorem Yt6 {f C:Addr}{fd:FuncData}{fc:Nat→Addr} (F:Fun K "stunc" "stunc" (top 170) f fd) (T:Txt K mg C) (gT:gStore P w K mg base C (fc 1)) (ga:gAddr P w K mg base C) (gV:gVal P w K mg base C) (gx:gX P w K mg base):FnW P w K mg base 4 f fd ["machine","word"] (Xc0 C fc fun o=>182≤o∧o<184):=by
 exists Zy6,Ya0
 obtain ⟨d,m,n,rfl,R,hn,hl,ho,q,qe'⟩:=h
 have qe:∀ e,KG m=.error e→E (.ref (fc e)) none H:=fun e he=>qe' e he H (Jf0.refl H)
 refine ⟨_,Ze0 (Zx0 (Zu0 (pv 0) T.cl gT hr (Zs1 (E1:=E) (fun _ _ x=>x)) (Za0 (Zb0 ga hr Zf0 (Za0 (pv 0) (Za0 (pv 1) Zc0))) (Za0 Zg0 (Za0 (Zu0 (pv 0) T.cl gV hr Zf0 (Za0 (Zb0 gx hr Zf0 (Za0 (pv 1) Zc0)) Zc0)) Zc0))))),?_⟩
 rw [Xz4 hl ho.1 ho.2] at q qe
 exact ⟨_,rfl,d.M,d.dx,_,rfl,R.obj,rfl,_,rfl,_,rfl,d,m,_,n,rfl,R,hn,_,rfl,d.M,d.dx,_,rfl,R.obj,rfl,_,rfl,n,rfl,hn,d,m,_,xW n,rfl,R,Vv0 n,d,m,_,Vo0 m n,8,_,rfl,R,Xn0 m n,sz8,Yh5 q sz8,fun he=>qe 1 (by rw [Ux0,he];rfl)⟩
theorem Vd4 {m:KM}{n:Nat} (hl:KI m m.pc 4=.ok n) (h1:148≤opW n) (h2:opW n<150):KG m=((KI m (Vo0 m n) 8).bind fun v=>if v=m.special 23 then (KY { m with pc:=(m.pc+4)%2^64 } (Vo0 m n) 8 (KS m (xW n))).bind fun r=>(Except.ok (KL r (xW n) 1,0):KD (KM×Nat)) else (Except.ok (KL (KU { m with pc:=(m.pc+4)%2^64 } 23 v) (xW n) 0,0):KD (KM×Nat))):=by
 unfold KG
 rw [hl]
 have h1':148≤n/2^24:=h1
 have h2':n/2^24<150:=h2
 show (if n/2^24=0 then _ else _)=_
 iterate 14 refine (if_neg (by first | exact nl h1' | exact nq h1')).trans ?_
 rw [if_pos (by lia)]
 show ((KI m ((KS m (yW n)+(if (opW n%2 == 1)=true then n%256 else KS m (n%256)))%2^64) 8).bind fun v=>if v=m.special 23 then (KY { m with pc:=(m.pc+4)%2^64 } ((KS m (yW n)+(if (opW n%2 == 1)=true then n%256 else KS m (n%256)))%2^64) 8 (KS m (xW n))).bind fun r=>(Except.ok (KL r (xW n) 1,0):KD (KM×Nat)) else (Except.ok (KL (KU { m with pc:=(m.pc+4)%2^64 } 23 v) (xW n) 0,0):KD (KM×Nat)))=_
 rw [Xo0];rfl
theorem Jt1:Zj0 ["machine","word","size","value"] ["machine","word"] (Zh0 (top 162)):=by decide +kernel
theorem Xz3 {f C:Addr}{fd:FuncData}{fc:Nat→Addr} (F:Fun K "run_store" "run_store" (top 162) f fd) (T:Txt K mg C) (T3:Zb6 mg) (gz:gSize P w K mg base) (gT:gStore P w K mg base C (fc 1)) (ga:gAddr P w K mg base C) (gV:gVal P w K mg base C) (gx:gX P w K mg base) (gu:gUns P w K mg base) (gS:gSigned P w K mg base)
  (gF:gFits P w K mg base) (gA:gFlags P w K mg base C):FnW P w K mg base 4 f fd ["machine","word"] (Xc0 C fc fun o=>160≤o∧o<176):=by
 exists Jt1,Ya0
 obtain ⟨d,m,n,rfl,R,hn,hl,ho,q,qe'⟩:=h
 have qe:∀ e,KG m=.error e→E (.ref (fc e)) none H:=fun e he=>qe' e he H (Jf0.refl H)
 have nd:=Jt1.nd
 refine ⟨_,Zd0 (Zp0 (i:=2) nd rfl (Or.inl rfl) (Zb0 gz hr Zf0 (Za0 (pv 1) Zc0)))
  (Zd0 (Zp0 (i:=3) nd rfl (Or.inl rfl) (Zu0 (pv 0) T.cl gV hr Zf0 (Za0 (Zb0 gx hr Zf0 (Za0 (pv 1) Zc0)) Zc0)))
  (Zd0 (Zx0 (Zu0 (pv 0) T.cl gT hr (Zs1 (E1:=E) (fun _ _ x=>x)) (Za0 (Zb0 ga hr Zf0 (Za0 (pv 0) (Za0 (pv 1) Zc0))) (Za0 (pv 2) (Za0 (pv 3) Zc0)))))
  (Ze0 (Yb0 (PW.pt (Uk1 (Ul1 (Zs0 (Zb0 gu hr Zf0 (Za0 (pv 1) Zc0)) (fun _=>rfl))) (Xa1 (Ul1 (Zs0 (Zb0 gF hr Zf0 (Za0 (Zb0 gS hr Zf0 (Za0 (pv 3) Zc0)) (Za0 (Zl0 Vq0 Zg0 (pv 2)) Zc0))) (fun _=>rfl))))))
   (Ze0 (Zx0 (Zu0 (pv 0) T.cl gA hr Zf0 (Za0 (Zo0 T3.wo) Zc0)))) Zq0)))),?_⟩
 rw [Va4 hl ho.1 ho.2] at q qe
 have hv:=Vl0 R.wf (xW n)
 have sb:=Ul3 n
 refine ⟨_,rfl,n,rfl,hn,?_⟩
 refine ⟨_,rfl,d.M,d.dx,_,rfl,R.obj,rfl,_,rfl,n,rfl,hn,d,m,_,xW n,rfl,R,Vv0 n,?_⟩
 refine ⟨_,rfl,d.M,d.dx,_,rfl,R.obj,rfl,_,rfl,_,rfl,d,m,_,n,rfl,R,hn,_,rfl,_,rfl,d,m,_,Vo0 m n,szW n,KS m (xW n),rfl,R,Xn0 m n,Yw3 n,fun m' hm'=>?_,fun he=>qe 1 (by rw [Ux0,he];rfl)⟩
 have q1:=q _ (by rw [Ux0,hm'];rfl)
 have hpc:m'.pc=m.pc:=by
  rcases Zz1 (m:=m) (x:=KS m (xW n)) (Xn0 m n) (Yw3 n) with h | h
  ·rw [h] at hm';cases hm'
  ·rw [h] at hm';cases hm';rfl
 intro H1 d1 e1 R1 k1
 simp only [Uc1,Zq1,Xw2,Ui3]
 refine Jm2 (a:=!decide (opW n/2%2=1)) (b:=!decide (KH (KN (8*szW n) (KS m (xW n)))=KS m (xW n))) (fun Q' q'=>⟨_,rfl,n,rfl,hn,_,rfl,q'⟩) (fun Q' q'=>?_) ?_
 ·refine ⟨_,rfl,_,rfl,hv,_,rfl,_,_,rfl,rfl,.inl ⟨by decide,by decide⟩,KN 64 (KS m (xW n)),8*szW n,?_,by lia,by lia,_,rfl,?_⟩
  ·show [V.int (KN 64 (KS m (xW n))),V.int (8*((szW n:Nat):Int))]=[V.int (KN 64 (KS m (xW n))),V.int ((8*szW n:Nat):Int)]
   rw [Int.natCast_mul];rfl
  ·rw [Jb5 sb hv];exact q'
 ·by_cases hc:opW n/2%2=0∧KH (KN (8*szW n) (KS m (xW n)))≠KS m (xW n)
  ·dsimp only at q1
   rw [if_pos hc] at q1
   rw [decide_eq_false (show ¬ opW n/2%2=1 by lia),decide_eq_false hc.2]
   refine ⟨_,rfl,d1.M,d1.dx,_,(by rw [e1]),R1.obj,rfl,d1,m',_,64,(by rw [e1];rfl),R1,by decide,?_⟩
   exact (q1 (KF m' 64) _ rfl hpc).of e1 k1
  ·dsimp only at q1
   rw [if_neg hc] at q1
   have hb:(!decide (opW n/2%2=1) && !decide (KH (KN (8*szW n) (KS m (xW n)))=KS m (xW n)))=false:=by
    by_cases h1:opW n/2%2=1
    ·rw [decide_eq_true h1];rfl
    ·have h2:KH (KN (8*szW n) (KS m (xW n)))=KS m (xW n):=by
      apply Classical.byContradiction
      intro z;exact hc ⟨by lia,z⟩
     rw [decide_eq_true h2,Bool.not_true,Bool.and_false]
   rw [hb]
   exact q1 m' _ rfl hpc H1 d1 e1 R1 k1
structure Txt8 (mg:Str→Option Value):Prop where
 rp:∃ t,mg "RP" = some (.int 23 t)
theorem Ym4:Zj0 ["machine","word","place","found"] ["machine","word"] (Zh0 (top 165)):=by decide +kernel
theorem Xd6 {f C:Addr}{fd:FuncData}{fc:Nat→Addr} (F:Fun K "cswap" "cswap" (top 165) f fd) (T:Txt K mg C) (T8:Txt8 mg) (gL:gLoad P w K mg base C (fc 1)) (gT:gStore P w K mg base C (fc 1)) (ga:gAddr P w K mg base C) (gV:gVal P w K mg base C) (gg:gGive P w K mg base C) (gx:gX P w K mg base):FnW P w K mg base 4 f fd ["machine","word"] (Xc0 C fc fun o=>148≤o∧o<150):=by
 exists Ym4,Ya0
 obtain ⟨d,m,n,rfl,R,hn,hl,ho,q,qe'⟩:=h
 have qe:∀ e,KG m=.error e→E (.ref (fc e)) none H:=fun e he=>qe' e he H (Jf0.refl H)
 have nd:=Ym4.nd
 refine ⟨_,Zd0 (Zp0 (i:=2) nd rfl (Or.inl rfl) (Zb0 ga hr Zf0 (Za0 (pv 0) (Za0 (pv 1) Zc0))))
  (Zd0 (Zp0 (i:=3) nd rfl (Or.inl rfl) (Zu0 (pv 0) T.cl gL hr (Zs1 (E1:=E) (fun _ _ x=>x)) (Za0 (pv 2) (Za0 Zg0 Zc0))))
  (Ze0 (Yb0 (Zt0 Xj0 (pv 3) (Xi0 Ym0 (Yh0 (pv 0) rfl) (Zo0 T8.rp) (fun _ _=>rfl)) (Zv0 _))
   (Zd0 (Zx0 (Zu0 (pv 0) T.cl gT hr (Zs1 (E1:=E) (fun _ _ x=>x)) (Za0 (pv 2) (Za0 Zg0 (Za0 (Zu0 (pv 0) T.cl gV hr Zf0 (Za0 (Zb0 gx hr Zf0 (Za0 (pv 1) Zc0)) Zc0)) Zc0)))))
    (Ze0 (Zx0 (Zu0 (pv 0) T.cl gg hr Zf0 (Za0 (Zb0 gx hr Zf0 (Za0 (pv 1) Zc0)) (Za0 Zg0 Zc0))))))
   (Zd0 (Ji0 (pv 3) (Jj0 (Yh0 (pv 0) rfl) (Zo0 T8.rp) Xs0)) (Ze0 (Zx0 (Zu0 (pv 0) T.cl gg hr Zf0 (Za0 (Zb0 gx hr Zf0 (Za0 (pv 1) Zc0)) (Za0 Zg0 Zc0))))))))),?_⟩
 rw [Vd4 hl ho.1 ho.2] at q qe
 obtain ⟨ss,hS,lS,gS⟩:=R.spc
 refine ⟨_,rfl,_,rfl,d,m,_,n,rfl,R,hn,?_⟩
 refine ⟨_,rfl,d.M,d.dx,_,rfl,R.obj,rfl,_,rfl,d,m,_,Vo0 m n,8,rfl,R,Xn0 m n,sz8,fun v hv=>?_,fun he=>qe 1 (by rw [he];rfl)⟩
 have hlt:v<2^64:=by
  rcases Jk1 (m:=m) (Xn0 m n) sz8 with h | ⟨v',h,h'⟩
  ·rw [h] at hv;cases hv
  ·rw [h] at hv;cases hv;exact h'
 rw [hv] at q qe
 refine ⟨_,rfl,_,rfl,d.M,C,d.dx,_,_,rfl,R.obj,T.cl,T.nSpc,rfl,d.aS,_,_,_,rfl,rfl,SqL.of hS,Zd1 (gS 23 (by decide)),rfl,_,rfl,?_⟩
 rw [Yj0]
 refine Xb0 (fun hc=>?_) (fun hc=>?_)
 ·have hc':v=m.special 23:=of_decide_eq_true hc
  refine ⟨_,rfl,d.M,d.dx,_,rfl,R.obj,rfl,_,rfl,_,rfl,d.M,d.dx,_,rfl,R.obj,rfl,_,rfl,n,rfl,hn,d,m,_,xW n,rfl,R,Vv0 n,d,m,_,Vo0 m n,8,_,rfl,R,Xn0 m n,sz8,fun m' hm'=>?_,fun he=>qe 1 ?_⟩
  ·intro H1 d1 e1 R1 k1
   have hpc:m'.pc=m.pc:=by
    rcases Zz1 (m:=m) (x:=KS m (xW n)) (Xn0 m n) sz8 with h | h
    ·rw [h] at hm';cases hm'
    ·rw [h] at hm';cases hm';rfl
   refine ⟨_,rfl,d1.M,d1.dx,_,(by rw [e1]),R1.obj,rfl,_,rfl,n,rfl,hn,d1,m',_,xW n,1,(by rw [e1];rfl),R1,Vv0 n,by decide,?_⟩
   refine (q (KL { m' with pc:=(m.pc+4)%2^64 } (xW n) 1) ?_ (KL m' (xW n) 1) _ (Ut0 m' _ _ _).symm ((Jb0 m' _ _).trans hpc)).of e1 k1
   show (if v=m.special 23 then _ else _)=_
   rw [if_pos hc',Ux0,hm'];rfl
  ·show (if v=m.special 23 then _ else _)=_
   rw [if_pos hc',Ux0,he];rfl
 ·have hc':¬ v=m.special 23:=fun z=>hc (decide_eq_true z)
  refine ⟨_,rfl,_,rfl,d.M,C,d.dx,_,_,rfl,R.obj,T.cl,T.nSpc,rfl,d.aS,_,_,23,rfl,rfl,hS,Vt0 (n:=(List.map iv ss).length) (j:=23) (by rw [List.length_map,lS];decide),?_⟩
  have R':=R.setSpc (k:=23) (x:=v) (by decide) hS lS gS (Jj2 R.wf hlt (by decide) (by decide)) (by decide)
  rw [← Jh0] at R'
  refine ⟨_,rfl,d.M,d.dx,_,rfl,R'.obj,rfl,_,rfl,n,rfl,hn,d,KU m 23 v,_,xW n,0,rfl,R',Vv0 n,by decide,?_⟩
  refine (q (KL (KU { m with pc:=(m.pc+4)%2^64 } 23 v) (xW n) 0) ?_ (KL (KU m 23 v) (xW n) 0) _ ?_ (Jb0 _ _ _)).of rfl (Vf0.upd (by simp [Ad.own]))
  ·show (if v=m.special 23 then _ else _)=_
   rw [if_neg hc']
  ·rw [← Ut0];rfl
variable (P w K mg base) in def OpE (C aD:Addr) (fc:Nat→Addr) (o:Nat):Prop :=
 ∃ (f:Addr) (ps:List Str),Jz5 K aD (o:Int)=some (.ref f)∧VG P w K mg base f 6 ps (Xc0 C fc fun op=>op-op%2=o)
def oops (o:Nat):Prop:=(144≤o∧o<152)∨(176≤o∧o<184)
theorem Jv1:Zj0 ["machine","word","work"] ["machine","word"] (Zh0 (top 172)):=by decide +kernel
theorem Vb3 {f C aD:Addr}{fd:FuncData}{fc:Nat→Addr} (F:Fun K "run_other_storage" "run_other_storage" (top 172) f fd) (hm:mg "WORKS_storage" = some (.ref aD)) (ge:gEven P w K mg base) (ops:∀ o,oops o→o%2=0→OpE P w K mg base C aD fc o):FnW P w K mg base 7 f fd ["machine","word"] (Xc0 C fc oops):=by
 exists Jv1,Ya0
 obtain ⟨d,m,n,rfl,R,hn,hl,ho,q,qe'⟩:=h
 have qe:∀ e,KG m=.error e→E (.ref (fc e)) none H:=fun e he=>qe' e he H (Jf0.refl H)
 refine ⟨_,Zd0 (Zp0 (i:=2) Jv1.nd rfl (Or.inl rfl) (Jf1 hm (Zb0 ge hr Zf0 (Za0 (pv 1) Zc0))))
  (Ze0 (Zx0 (Zj1 (CX:=CXW P w) (k:=6) (i:=2) rfl (Or.inl rfl) hr (Zs1 (E1:=E) (fun _ _ x=>x)) (Za0 (pv 0) (Za0 (pv 1) Zc0))))),?_⟩
 have ho':(144≤opW n∧opW n<152)∨(176≤opW n∧opW n<184):=ho
 have eE:evW n=opW n-opW n%2:=rfl
 obtain ⟨fw,ps,kg,kp,fdw,bw,Fw⟩:=ops (evW n) (show (144≤evW n∧evW n<152)∨(176≤evW n∧evW n<184) by lia) (by lia)
 refine ⟨_,rfl,n,rfl,hn,_,fw,rfl,kg,?_⟩
 exact ⟨fw,fdw,ps,_,rfl,kp,Fw,bw,_,rfl,_,rfl,d,m,n,rfl,R,hn,hl,rfl,q,qe'⟩
theorem or31 {s:Bool}{r:Nat} (h:r<2^31):(sN s*2^31)|||r=if s=true then 2^31+r else r:=by
 rw [Nat.or_comm,Za2 h]
 cases s
 ·rw [if_neg (by decide)];unfold sN;rw [if_neg (by decide)];lia
 ·rw [if_pos rfl];unfold sN;rw [if_pos rfl];lia
theorem Uy7 (b:Nat):(2143289344:Nat)|||(b/2^29%2^23)=0x7F800000+2^22+KR b/2^29%2^22:=by
 have e1:b/2^29%2^23=b/2^29%2^22+b/2^51%2*2^22:=by (omega)
 have e2:(2143289344:Nat)=0+511*2^22:=by decide
 have e3:KR b/2^29%2^22=b/2^29%2^22:=by unfold KR Kg22.SIGN;(omega)
 have lo:b/2^29%2^22<2^22:=Nat.mod_lt _ (by decide)
 have p:=Ys4 (xor:=false) (r:=0) (r':=b/2^29%2^22) (v:=511) (v':=b/2^51%2) (s:=22) (by decide) lo
 have pf:∀ x y:Nat,Xt1 false x y=x|||y:=fun x y=>by unfold Xt1;rw [if_neg (by decide)]
 rw [pf,pf,pf] at p
 rw [e3,e1,e2,p]
 have h511:(511:Nat)|||(b/2^51%2)=511:=by
  rcases (show b/2^51%2=0∨b/2^51%2=1 by lia) with h | h <;> rw [h] <;> decide
 rw [h511,Nat.zero_or]
 lia
theorem tru51 (b:Nat):(Builtin.bitAnd (b:Int) 2251799813685248 != 0)=(KR b).testBit 51:=by
 have h:=bit51 b
 rw [Xn4] at h
 cases hb:(KR b).testBit 51
 ·rw [hb] at h
  have:=of_decide_eq_true h
  rw [this];rfl
 ·rw [hb] at h
  have:=of_decide_eq_false h
  exact bne_iff_ne.mpr this
inductive Yf4 (g:Nat→Nat→KJ) (vs:List V) (H:Hp) (Q:VK) (_:XK):Prop |mk (b mode:Nat) (_:vs=[iv b,iv mode]) (_:b<2^64) (_:mode<4) (_:∀ H' t,Jf0 H H'→H t=none→H' t=some (.tup [iv (g mode b).1,iv (g mode b).2])→Q (.ref t) H')
def Vw0 (mode b:Nat):KJ:=if KW b=true then (if KA b=true then 2^31+(0x7F800000+2^22+KR b/2^29%2^22) else 0x7F800000+2^22+KR b/2^29%2^22,if (KR b).testBit 51=true then 0 else 16)
 else if KO b=true then (if KA b=true then 2^31+0x7F800000 else 0x7F800000,0)
 else (if KA b=true then 2^31+(Yx0 24 149 Vb0 mode (KA b) (mant b) (Xu0 b)).1 else (Yx0 24 149 Vb0 mode (KA b) (mant b) (Xu0 b)).1,(Yx0 24 149 Vb0 mode (KA b) (mant b) (Xu0 b)).2)
theorem Yh2:Zj0 ["word","mode","sign","flags","made"] ["word","mode"] (Zh0 (top 98)):=by decide +kernel
theorem Jy3 {f aD aS:Addr}{fd:FuncData} (F:Fun K "narrowed" "narrowed" (top 98) f fd) (T6:Ze2 mg) (T7:Txt7 K mg aD aS) (gs:gSgn P w K mg base) (gn:gNan P w K mg base) (gi:gInf P w K mg base) (gr:gRounded P w K mg base) (gm:gMant P w K mg base) (ge:gExp P w K mg base):FnW P w K mg base 4 f fd ["word","mode"] (Yf4 Vw0):=by
 exists Yh2,(by rintro vs H Q E ⟨b,mode,rfl,_⟩;rfl)
 obtain ⟨b,mode,rfl,hb,hm,q⟩:=h
 have nd:=Yh2.nd
 refine ⟨_,Zd0 (Zp0 (i:=2) nd rfl (Or.inl rfl) (Zl0 Vy0 (Zb0 gs hr Zf0 (Za0 (pv 0) Zc0)) Zg0))
  (Zd0 (Yb0 (Zs0 (Zb0 gn hr Zf0 (Za0 (pv 0) Zc0)) (fun _=>rfl))
   (Zd0 (Zp0 (i:=3) nd rfl (Or.inl rfl) (Xx0 (Zs0 (Zl0 Yf0 (pv 0) (Zo0 T6.quiet)) (fun _=>rfl)) Zg0 (Zo0 T6.invalid)))
    (Ze0 (Zk0 (Um1 (Za0 (Zl0 Yd1 (Zl0 Yd1 (pv 2) Zg0) (Zl0 Yf0 (Zl0 Xf0 (pv 0) Zg0) Zg0)) (Za0 (pv 3) Zc0)))))) Zq0)
  (Zd0 (Yb0 (Zs0 (Zb0 gi hr Zf0 (Za0 (pv 0) Zc0)) (fun _=>rfl)) (Ze0 (Zk0 (Um1 (Za0 (Zl0 Yd1 (pv 2) Zg0) (Za0 Zg0 Zc0))))) Zq0)
  (Zd0 (Zp0 (i:=4) nd rfl (Or.inl rfl) (Zb0 gr hr Zf0 (Za0 (Za1 (v:=.ref aS) rfl T7.sgl rfl) (Za0 (Zb0 gs hr Zf0 (Za0 (pv 0) Zc0)) (Za0 (Zb0 gm hr Zf0 (Za0 (pv 0) Zc0)) (Za0 (Zb0 ge hr Zf0 (Za0 (pv 0) Zc0)) (Za0 (pv 1) Zc0)))))))
  (Ze0 (Zk0 (Um1 (Za0 (Zl0 Yd1 (pv 2) (Xi0 Jl0 (pv 4) Zg0 (fun _ _=>rfl))) (Za0 (Xi0 Jl0 (pv 4) Zg0 (fun _ _=>rfl)) Zc0)))))))),?_⟩
 refine ⟨_,rfl,b,rfl,hb,_,_,rfl,rfl,⟨by decide,by decide,by cases KA b <;> decide⟩,?_⟩
 have es:((sN (KA b):Nat):Int)*2^(31:Int).toNat=((sN (KA b)*2^31:Nat):Int):=by norm_cast
 dsimp only
 rw [es]
 unfold Vw0 at q
 refine ⟨_,rfl,b,rfl,hb,_,rfl,?_⟩
 refine Xb0 (fun hc=>?_) (fun hc=>?_)
 ·rw [if_pos hc] at q
  dsimp only at q
  have e1:Builtin.bitOr (Builtin.bitOr ((sN (KA b)*2^31:Nat):Int) 2143289344) (Builtin.bitAnd ((b:Int)/2^(29:Int).toNat) 8388607)=((if KA b=true then 2^31+(0x7F800000+2^22+KR b/2^29%2^22) else 0x7F800000+2^22+KR b/2^29%2^22:Nat):Int):=by
   have a1:Builtin.bitAnd ((b:Int)/2^(29:Int).toNat) 8388607=((b/2^29%2^23:Nat):Int):=by
    rw [Uc0 b (k:=29) rfl];exact Vd0 (b/2^29) 23
   rw [a1,show (2143289344:Int)=((2143289344:Nat):Int) from rfl,Yv0,Yv0,Nat.or_assoc,Uy7,or31 (by have:=Nat.mod_lt (KR b/2^29) (show 0<2^22 by decide);lia)]
  refine ⟨_,rfl,_,_,rfl,rfl,_,rfl,?_⟩
  show if (Builtin.bitAnd (b:Int) 2251799813685248 != 0)=true then _ else _
  rw [tru51]
  refine Xb0 (fun hq=>?_) (fun hq=>?_)
  ·rw [if_pos hq] at q
   refine ⟨_,rfl,_,_,rfl,rfl,_,rfl,_,_,rfl,rfl,(by decide:(0:Int)≤29),_,_,rfl,rfl,_,_,rfl,rfl,?_⟩
   dsimp only
   rw [e1]
   exact ⟨_,rfl,(by show 2≤sizeLine;decide),fun t ht=>q _ t (Zz0 ht) ht Zm0⟩
  ·rw [if_neg hq] at q
   refine ⟨_,rfl,_,_,rfl,rfl,_,rfl,_,_,rfl,rfl,(by decide:(0:Int)≤29),_,_,rfl,rfl,_,_,rfl,rfl,?_⟩
   dsimp only
   rw [e1]
   exact ⟨_,rfl,(by show 2≤sizeLine;decide),fun t ht=>q _ t (Zz0 ht) ht Zm0⟩
 ·rw [if_neg hc] at q
  refine ⟨_,rfl,b,rfl,hb,_,rfl,?_⟩
  refine Xb0 (fun hi=>?_) (fun hi=>?_)
  ·rw [if_pos hi] at q
   dsimp only at q
   refine ⟨_,rfl,_,_,rfl,rfl,?_⟩
   have e2:Builtin.bitOr ((sN (KA b)*2^31:Nat):Int) 2139095040=((if KA b=true then 2^31+0x7F800000 else 0x7F800000:Nat):Int):=by
    rw [show (2139095040:Int)=((2139095040:Nat):Int) from rfl,Yv0,or31 (by decide)]
   dsimp only
   rw [e2]
   exact ⟨(by show 2≤sizeLine;decide),fun t ht=>q _ t (Zz0 ht) ht Zm0⟩
  ·rw [if_neg hi] at q
   dsimp only at q
   have r1:=Zl1 b
   have b1:=Zr0.mp (Vj0 b)
   refine ⟨_,rfl,b,rfl,hb,_,rfl,b,rfl,hb,_,rfl,b,rfl,hb,_,rfl,aS,24,149,Vb0,KA b,mant b,Xu0 b,mode,rfl,T7.ss H,.inr ⟨rfl,rfl,rfl⟩,hm,by lia,by lia,by lia,fun t ht=>?_⟩
   have rl:(Yx0 24 149 Vb0 mode (KA b) (mant b) (Xu0 b)).1≤Vb0:=Jq0
   generalize Yx0 24 149 Vb0 mode (KA b) (mant b) (Xu0 b)=r at *
   have hlt:=Zx3
   refine ⟨_,rfl,_,rfl,t,_,_,_,rfl,rfl,SqT.of Zm0,rfl,_,_,rfl,rfl,?_⟩
   dsimp only
   rw [Yv0,or31 (by lia)]
   refine ⟨_,rfl,t,_,_,_,rfl,rfl,SqT.of Zm0,rfl,(by show 2≤sizeLine;decide),fun t2 ht2=>?_⟩
   exact q _ t2 ((Zz0 ht).trans (Zz0 ht2)) ((Zz0 ht).free ht2) Zm0
theorem Vi4 (mode b:Nat):Kg22.shorter mode b=Vw0 mode b:=by
 by_cases h1:KW b=true
 ·unfold Kg22.shorter Vw0
  dsimp only
  rw [if_pos h1,if_pos h1]
 ·by_cases h2:KO b=true
  ·unfold Kg22.shorter Vw0
   dsimp only
   rw [if_neg h1,if_pos h2,if_neg h1,if_pos h2]
  ·rw [Vh4 mode b (Vx3 (Jm0 h1) (Jm0 h2))]
   unfold Vw0
   rw [if_neg h1,if_neg h2]
theorem Zq5 {m:KM}{n:Nat} (hl:KI m m.pc 4=.ok n) (h1:176≤opW n) (h2:opW n<178):KG m=((KY { m with pc:=(m.pc+4)%2^64 } (Vo0 m n) 4 (Kg22.shorter (KZ m) (KS m (xW n))).1).bind fun r=>(Except.ok (KF r (Kg22.shorter (KZ m) (KS m (xW n))).2,0):KD (KM×Nat))):=by
 unfold KG
 rw [hl]
 have h1':176≤n/2^24:=h1
 have h2':n/2^24<178:=h2
 show (if n/2^24=0 then _ else _)=_
 iterate 20 refine (if_neg (by first | exact nl h1' | exact nq h1')).trans ?_
 rw [if_pos (by lia)]
 show ((KY { m with pc:=(m.pc+4)%2^64 } ((KS m (yW n)+(if (opW n%2 == 1)=true then n%256 else KS m (n%256)))%2^64) 4 (Kg22.shorter (KZ m) (KS m (xW n))).1).bind fun r=>(Except.ok (KF r (Kg22.shorter (KZ m) (KS m (xW n))).2,0):KD (KM×Nat)))=_
 rw [Xo0];rfl
theorem Jt2 (mode b:Nat):(Vw0 mode b).2<256:=by
 unfold Vw0
 by_cases h1:KW b=true
 ·rw [if_pos h1]
  dsimp only
  split <;> decide
 ·rw [if_neg h1]
  by_cases h2:KO b=true
  ·rw [if_pos h2];dsimp only;decide
  ·rw [if_neg h2];exact Vp1
theorem Yt5:Zj0 ["machine","word","pair"] ["machine","word"] (Zh0 (top 167)):=by decide +kernel
theorem Vl7 {f C:Addr}{fd:FuncData}{fc:Nat→Addr} (F:Fun K "stsf" "stsf" (top 167) f fd) (T:Txt K mg C) (gN:FG P w K mg base "narrowed" 4 ["word","mode"] (Yf4 Vw0)) (gT:gStore P w K mg base C (fc 1)) (ga:gAddr P w K mg base C) (gV:gVal P w K mg base C) (gx:gX P w K mg base) (gr:gRnd P w K mg base C) (gA:gFlags P w K mg base C) :
  FnW P w K mg base 5 f fd ["machine","word"] (Xc0 C fc fun o=>176≤o∧o<178):=by
 exists Yt5,Ya0
 obtain ⟨d,m,n,rfl,R,hn,hl,ho,q,qe'⟩:=h
 have qe:∀ e,KG m=.error e→E (.ref (fc e)) none H:=fun e he=>qe' e he H (Jf0.refl H)
 have nd:=Yt5.nd
 refine ⟨_,Zd0 (Zp0 (i:=2) nd rfl (Or.inl rfl) (Zb0 gN hr Zf0 (Za0 (Zu0 (pv 0) T.cl gV hr Zf0 (Za0 (Zb0 gx hr Zf0 (Za0 (pv 1) Zc0)) Zc0)) (Za0 (Up0 (pv 0) T.cl gr hr Zf0) Zc0))))
  (Zd0 (Zx0 (Zu0 (pv 0) T.cl gT hr (Zs1 (E1:=E) (fun _ _ x=>x)) (Za0 (Zb0 ga hr Zf0 (Za0 (pv 0) (Za0 (pv 1) Zc0))) (Za0 Zg0 (Za0 (Xi0 Jl0 (pv 2) Zg0 (fun _ _=>rfl)) Zc0)))))
  (Ze0 (Zx0 (Zu0 (pv 0) T.cl gA hr Zf0 (Za0 (Xi0 Jl0 (pv 2) Zg0 (fun _ _=>rfl)) Zc0))))),?_⟩
 rw [Zq5 hl ho.1 ho.2,Vi4] at q qe'
 clear qe
 refine ⟨_,rfl,d.M,d.dx,_,rfl,R.obj,rfl,_,rfl,n,rfl,hn,d,m,_,xW n,rfl,R,Vv0 n,_,rfl,d.M,d.dx,_,rfl,R.obj,rfl,d,m,_,rfl,R,KS m (xW n),KZ m,rfl,Vl0 R.wf _,Yg1 m,fun H' t hs ht ht'=>?_⟩
 have fl:=Jt2 (KZ m) (KS m (xW n))
 generalize Vw0 (KZ m) (KS m (xW n))=r at *
 have R':=R.same hs
 refine ⟨_,rfl,d.M,d.dx,_,rfl,R'.obj,rfl,_,rfl,_,rfl,d,m,_,n,rfl,R',hn,_,rfl,t,_,_,_,rfl,rfl,SqT.of ht',rfl,d,m,_,Vo0 m n,4,r.1,rfl,R',Xn0 m n,sz4,fun m' hm'=>?_,fun he=>?_⟩
 ·intro H1 d1 e1 R1 k1
  have hpc:m'.pc=m.pc:=by
   rcases Zz1 (m:=m) (x:=r.1) (Xn0 m n) sz4 with h | h
   ·rw [h] at hm';cases hm'
   ·rw [h] at hm';cases hm';rfl
  have ht1:=(k1 t _ ht' (R.fresh ht)).1
  refine ⟨_,rfl,d1.M,d1.dx,_,(by rw [e1]),R1.obj,rfl,_,rfl,t,_,_,_,rfl,rfl,SqT.of ht1,rfl,d1,m',_,r.2,(by rw [e1];rfl),R1,fl,?_⟩
  exact (q (KF { m' with pc:=(m.pc+4)%2^64 } r.2) (by rw [Ux0,hm'];rfl) (KF m' r.2) _ rfl hpc).of e1 ((Yi0 hs).trans k1)
 ·exact qe' 1 (by rw [Ux0,he];rfl) H' hs
theorem Ya5 {m:KM}{n:Nat} (hl:KI m m.pc 4=.ok n) (h1:152≤opW n) (h2:opW n<154):KG m=.error 2:=by
 unfold KG
 rw [hl]
 have h1':152≤n/2^24:=h1
 have h2':n/2^24<154:=h2
 show (if n/2^24=0 then _ else _)=_
 iterate 16 refine (if_neg (by first | exact nl h1' | exact nq h1')).trans ?_
 rw [if_pos (by lia)]
theorem Zz5 {m:KM}{n:Nat} (hl:KI m m.pc 4=.ok n) (h1:249≤opW n) (h2:opW n<252):KG m=.error 2:=by
 unfold KG
 rw [hl]
 have h1':249≤n/2^24:=h1
 have h2':n/2^24<252:=h2
 show (if n/2^24=0 then _ else _)=_
 iterate 33 refine (if_neg (by first | exact nl h1' | exact nq h1')).trans ?_
 rw [if_pos (by lia)]
theorem Zy5 {m:KM}{n:Nat} (hl:KI m m.pc 4=.ok n) (h1:255≤opW n) (h2:opW n<256):KG m=.error 2:=by
 unfold KG
 rw [hl]
 have h1':255≤n/2^24:=h1
 have h2':n/2^24<256:=h2
 show (if n/2^24=0 then _ else _)=_
 iterate 35 refine (if_neg (by first | exact nl h1' | exact nq h1')).trans ?_
 rw [if_neg (by lia)]
def mops (o:Nat):Prop:=o=17∨o=18∨o=19∨(152≤o∧o<154)∨(249≤o∧o<252)∨(255≤o∧o<256)
theorem Zq6 {m:KM}{n:Nat} (hl:KI m m.pc 4=.ok n) (h:mops (opW n)):KG m=.error 2:=by
 rcases h with h | h | h | h | h | h
 ·have st:=Yr1 hl (by lia) (by lia)
  rw [h] at st
  exact st
 ·have st:=Yr1 hl (by lia) (by lia)
  rw [h] at st
  exact st
 ·have st:=Yr1 hl (by lia) (by lia)
  rw [h] at st
  exact st
 ·exact Ya5 hl h.1 h.2
 ·exact Zz5 hl h.1 h.2
 ·exact Zy5 hl h.1 h.2
theorem Xz2:sc2 198:=by decide +kernel
theorem Vk2 {f C:Addr}{fd:FuncData}{fc:Nat→Addr} (F:Fun K "run_missing" "run_missing" (top 198) f fd) (x2:ExC K (fc 2)) (m2:mg "NoInstruction" = some (.ref (fc 2))):FnW P w K mg base 1 f fd ["machine","word"] (Xc0 C fc mops):=by
 exists Xz2,Ya0
 obtain ⟨d,m,n,rfl,R,hn,hl,ho,q,qe'⟩:=h
 refine ⟨_,Ze0 (Uy0 x2 rfl m2),?_⟩
 exact qe' 2 (Zq6 hl ho) H (Jf0.refl H)
structure Txt9 (mg:Str→Option Value):Prop where
 rxx:∃ t,mg "RXX" = some (.int 29 t)
inductive Vw6 (C:Addr) (vs:List V) (H:Hp) (Q:VK) (_:XK):Prop |mk (d:Ad) (m:KM) (b n:Nat) (_:vs=[.ref d.M,iv n]) (_:Rep C H d m b) (_:n<2^32) (_:Ub0 C H d { KU m 29 n with pc:=b } b (Q (iv (if n=0 then 1 else 2))))
theorem Yf7:sc2 201:=by decide +kernel
theorem Vi7 {f C:Addr}{fd:FuncData} (F:Fun K "trap" "trap" (top 201) f fd) (T:Txt K mg C) (T9:Txt9 mg):FnW P w K mg base 1 f fd ["machine","word"] (Vw6 C):=by
 exists Yf7,(by rintro vs H Q E ⟨d,m,b,n,rfl,_⟩;rfl)
 obtain ⟨d,m,b,n,rfl,R,hn,q⟩:=h
 refine ⟨_,Zd0 (Ji0 (pv 1) (Jj0 (Yh0 (pv 0) rfl) (Zo0 T9.rxx) Xs0)) (Zd0 (Ue0 (pv 0) (Yh0 (pv 0) rfl) rfl) (Ze0 (Zk0 (Xx0 (Zt0 Xj0 (pv 1) Zg0 (Zv0 _)) Zg0 Zg0)))),?_⟩
 obtain ⟨ss,hS,lS,gS⟩:=R.spc
 refine ⟨_,rfl,_,rfl,d.M,C,d.dx,_,_,rfl,R.obj,T.cl,T.nSpc,rfl,d.aS,_,_,29,rfl,rfl,hS,Vt0 (n:=(List.map iv ss).length) (j:=29) (by rw [List.length_map,lS];decide),?_⟩
 have R':=R.setSpc (k:=29) (x:=n) (by decide) hS lS gS (Jj2 R.wf (by lia) (by decide) (by decide)) (by decide)
 rw [← Jh0] at R'
 refine ⟨_,rfl,d.M,C,d.dx,_,_,rfl,R'.obj,T.cl,T.nBeh,rfl,_,rfl,d.M,C,d.dx,_,rfl,R'.obj,T.cl,T.nPla,(by show 7<1000;decide),?_⟩
 have R2:=R'.setObj (pc':=b) (b':=b) (R'.wf.setPc R.bh) R.bh
 have fin:=q _ d rfl R2 ((Vf0.upd (by simp [Ad.own])).trans (Vf0.upd (by simp [Ad.own])))
 refine ⟨_,rfl,rfl,_,rfl,?_⟩
 rw [show (V.int 0)=V.int ((0:Nat):Int) from rfl,Yj0]
 refine Xb0 (fun hc=>?_) (fun hc=>?_)
 ·rw [if_pos (of_decide_eq_true hc)] at fin
  exact fin
 ·rw [if_neg (fun z=>hc (decide_eq_true z))] at fin
  exact fin
structure Jr5 (mg:Str→Option Value):Prop where
 plain:∃ t,mg "HOW_MANY_PLAIN" = some (.int 256 t)
 spec:∃ t,mg "HOW_MANY_SPECIAL" = some (.int 32 t)
 most:∃ t,mg "MOST_BYTES" = some (.int 65536 t)
abbrev Jt5:=KM→List Int→KM×List Int
inductive Uk2 (C:Addr) (ok:List Int→Prop) (g:Jt5) (vs:List V) (H:Hp) (Q:VK) (_:XK):Prop |mk (d:Ad) (m:KM) (b:Nat) (c:Addr) (as:List Int) (_:vs=[.ref d.M,.ref c]) (_:Rep C H d m b) (_:H c=some (.lst (as.map V.int))) (_:c ∉ d.own) (_:ok as) (_:∀ (H':Hp) (d':Ad) (b':Nat) (p:Addr),d'.M=d.M→Rep C H' d' (g m as).1 b'→Vf0 d.own d'.own H H'→H' p=some (.lst ((g m as).2.map V.int))→p ∉ d'.own→H p=none→Q (.ref p) H')
theorem Xo1 {C:Addr}{ok:List Int→Prop}{g:Jt5}:∀ vs H Q E,Uk2 C ok g vs H Q E→vs.length=2:=by rintro vs H Q E ⟨d,m,b,c,as,rfl,_⟩;rfl
theorem Rep.mine {C:Addr}{H:Hp}{d:Ad}{m:KM}{b:Nat} (R:Rep C H d m b) {p:Addr}{u:HO} (h:H p=none):Rep C (upd H p u) d m b:=R.same (Zz0 h)
inductive Jr2 (vs:List V) (H:Hp) (Q:VK) (_:XK):Prop |mk (z:Int) (c:Nat) (_:vs=[.int z,iv c]) (_:Q (.bl (decide (0≤z∧z<c))) H)
theorem Je3:Zj0 ["number","count"] ["number","count"] (Zh0 (top 217)):=by decide +kernel
theorem Jz3 {f:Addr}{fd:FuncData} (F:Fun K "is_there" "is_there" (top 217) f fd):FnW P w K mg base 1 f fd ["number","count"] Jr2:=by
 exists Je3,(by rintro vs H Q E ⟨z,c,rfl,_⟩;rfl)
 obtain ⟨z,c,rfl,q⟩:=h
 refine ⟨_,Ze0 (Zk0 (Yw4 Jq3 Ye1 Zg0 (pv 0) (pv 1))),?_⟩
 refine ⟨_,rfl,_,_,rfl,rfl,_,rfl,?_⟩
 by_cases ha:(0:Int)≤z
 ·rw [if_pos (decide_eq_true ha)]
  refine ⟨_,rfl,_,_,rfl,rfl,?_⟩
  dsimp only
  simp only [ha,true_and] at q
  exact q
 ·rw [if_neg (by rw [decide_eq_false ha];decide)]
  rw [decide_eq_false (fun x=>ha x.1)] at q
  exact q
def Zb3 (a:Int) (n:Int):Int:=if n<0∨65536<n then -8 else if 1048576<a+n then -1 else 0
inductive Zy2 (vs:List V) (H:Hp) (Q:VK) (_:XK):Prop |mk (a n:Int) (_:vs=[.int a,.int n]) (_:Q (.int (Zb3 a n)) H)
theorem Vq4:Zj0 ["place","count"] ["place","count"] (Zh0 (top 210)):=by decide +kernel
theorem Uq4 {f:Addr}{fd:FuncData} (F:Fun K "refusal" "refusal" (top 210) f fd) (T2:Zx1 mg) (T10:Jr5 mg):FnW P w K mg base 1 f fd ["place","count"] Zy2:=by
 exists Vq4,(by rintro vs H Q E ⟨a,n,rfl,_⟩;rfl)
 obtain ⟨a,n,rfl,q⟩:=h
 refine ⟨_,Zd0 (Yb0 (PW.pt (Yz1 (Zt0 Ye1 (pv 1) Zg0 (Zv0 _)) (Zi1 (Zt0 Vg2 (pv 1) (Zo0 T10.most) (Zv0 _))))) (Ze0 (Zk0 (Xc1 Jg0 Zg0))) Zq0)
  (Zd0 (Yb0 (Zt0 Vg2 (Zl0 Yy0 (pv 0) (pv 1)) (Zo0 T2.size) (Zv0 _)) (Ze0 (Zk0 (Xc1 Jg0 Zg0))) Zq0) (Ze0 (Zk0 Zg0))),?_⟩
 simp only [Uc1,Zq1,Xw2,Ui3]
 unfold Zb3 at q
 refine Uh3 (a:=decide (n<0)) (b:=decide (65536<n)) (fun Q' q'=>⟨_,rfl,_,_,rfl,rfl,_,rfl,q'⟩) (fun Q' q'=>⟨_,rfl,_,_,rfl,rfl,_,rfl,q'⟩) ?_
 refine Xb0 (fun hc=>?_) (fun hc=>?_)
 ·rw [if_pos (Jm6 hc)] at q
  exact ⟨_,rfl,q⟩
 ·rw [if_neg (fun x=>hc (by rw [Bool.or_eq_true];exact x.imp decide_eq_true decide_eq_true))] at q
  refine ⟨_,rfl,_,rfl,_,_,rfl,rfl,_,_,rfl,rfl,_,rfl,?_⟩
  refine Xb0 (fun hd=>?_) (fun hd=>?_)
  ·rw [if_pos (of_decide_eq_true hd)] at q
   exact ⟨_,rfl,q⟩
  ·rw [if_neg (fun x=>hd (decide_eq_true x))] at q
   exact q
def scD (i:Nat):Prop:=Zj0 ["machine","call"] ["machine","call"] (Zh0 (top i))
instance {i:Nat}:Decidable (scD i):=inferInstanceAs (Decidable (Zj0 _ _ _))
theorem Yk2:scD 216:=by decide +kernel
theorem Yz2 {f C:Addr}{fd:FuncData} (F:Fun K "answer_place" "answer_place" (top 216) f fd) (T:Txt K mg C):FnW P w K mg base 1 f fd ["machine","call"] (Uk2 C (fun _=>True) fun m _=>(m,[0,(m.pc:Int)])):=by
 exists Yk2,Xo1
 obtain ⟨d,m,b,c,as,rfl,R,hc,nc,_,q⟩:=h
 refine ⟨_,Ze0 (Zk0 (Vc0 (Za0 Zg0 (Za0 (Yh0 (pv 0) rfl) Zc0)))),?_⟩
 refine ⟨_,rfl,d.M,C,d.dx,_,_,rfl,R.obj,T.cl,T.nPla,rfl,(by show 2≤sizeLine;decide),fun p hp=>?_⟩
 exact q _ d b p rfl (R.mine hp) (Yi0 (Zz0 hp)) Zm0 (R.fresh hp) hp
theorem Xv0 {as:List Int}{j:Nat}{n:Int} (h:as[j]? = some n):atI (as.map V.int) (j:Int)=some (V.int n):=Xt2 (by rw [List.getElem?_map,h];rfl)
theorem Za3:scD 218:=by decide +kernel
def Ux5:Jt5:=fun m as=>(m,if as.getD 1 0<0∨255<as.getD 1 0 then [-8] else [0,(KS m (as.getD 1 0).toNat:Int)])
theorem Zr3 {f C:Addr}{fd:FuncData} (F:Fun K "answer_get" "answer_get" (top 218) f fd) (T:Txt K mg C) (T10:Jr5 mg) (gt:FG P w K mg base "is_there" 1 ["number","count"] Jr2) (gV:gVal P w K mg base C):FnW P w K mg base 2 f fd ["machine","call"] (Uk2 C (fun as=>as.length=2) Ux5):=by
 exists Za3,Xo1
 obtain ⟨d,m,b,c,as,rfl,R,hc,nc,hl,q⟩:=h
 refine ⟨_,Zd0 (Yb0 (Ul1 (Zs0 (Zb0 gt hr Zf0 (Za0 (Xi0 Ym0 (pv 1) Zg0 (fun _ _=>rfl)) (Za0 (Zo0 T10.plain) Zc0))) (fun _=>rfl))) (Ze0 (Zk0 (Vc0 (Za0 (Xc1 Jg0 Zg0) Zc0)))) Zq0)
  (Ze0 (Zk0 (Vc0 (Za0 Zg0 (Za0 (Zu0 (pv 0) T.cl gV hr Zf0 (Za0 (Xi0 Ym0 (pv 1) Zg0 (fun _ _=>rfl)) Zc0)) Zc0))))),?_⟩
 have h1:as[1]? = some (as.getD 1 0):=by rw [List.getD_eq_getElem?_getD,List.getElem?_eq_getElem (by lia)];rfl
 unfold Ux5 at q
 dsimp only at q
 generalize as.getD 1 0=k at *
 refine ⟨_,rfl,c,_,_,_,rfl,rfl,SqL.of hc,Xv0 h1,k,256,rfl,_,rfl,?_⟩
 by_cases hk:0≤k∧k<((256:Nat):Int)
 ·rw [decide_eq_true hk]
  rw [if_neg (by lia)] at q
  refine ⟨_,rfl,d.M,d.dx,_,rfl,R.obj,rfl,_,rfl,c,_,_,_,rfl,rfl,SqL.of hc,Xv0 h1,d,m,b,k.toNat,?_,R,by lia,(by show 2≤sizeLine;decide),fun p hp=>?_⟩
  ·show [V.ref d.M,V.int k]=[V.ref d.M,V.int ((k.toNat:Nat):Int)]
   rw [show ((k.toNat:Nat):Int)=k by lia]
  ·exact q _ d b p rfl (R.mine hp) (Yi0 (Zz0 hp)) Zm0 (R.fresh hp) hp
 ·rw [decide_eq_false hk]
  rw [if_pos (by lia)] at q
  refine ⟨_,rfl,(by show 1≤sizeLine;decide),fun p hp=>?_⟩
  exact q _ d b p rfl (R.mine hp) (Yi0 (Zz0 hp)) Zm0 (R.fresh hp) hp
def Zx2:Jt5:=fun m as=>(m,if as.getD 1 0<0∨31<as.getD 1 0 then [-8] else [0,(Kg22.special_ m (as.getD 1 0).toNat:Int)])
theorem Je1:scD 220:=by decide +kernel
theorem Jh1 {f C:Addr}{fd:FuncData} (F:Fun K "answer_special" "answer_special" (top 220) f fd) (T:Txt K mg C) (T10:Jr5 mg) (gt:FG P w K mg base "is_there" 1 ["number","count"] Jr2) (gs:MG P w K mg base C "special_of" 1 ["self","number"] (Vm1 C)):FnW P w K mg base 2 f fd ["machine","call"] (Uk2 C (fun as=>as.length=2) Zx2):=by
 exists Je1,Xo1
 obtain ⟨d,m,b,c,as,rfl,R,hc,nc,hl,q⟩:=h
 refine ⟨_,Zd0 (Yb0 (Ul1 (Zs0 (Zb0 gt hr Zf0 (Za0 (Xi0 Ym0 (pv 1) Zg0 (fun _ _=>rfl)) (Za0 (Zo0 T10.spec) Zc0))) (fun _=>rfl))) (Ze0 (Zk0 (Vc0 (Za0 (Xc1 Jg0 Zg0) Zc0)))) Zq0)
  (Ze0 (Zk0 (Vc0 (Za0 Zg0 (Za0 (Zu0 (pv 0) T.cl gs hr Zf0 (Za0 (Xi0 Ym0 (pv 1) Zg0 (fun _ _=>rfl)) Zc0)) Zc0))))),?_⟩
 have h1:as[1]? = some (as.getD 1 0):=by rw [List.getD_eq_getElem?_getD,List.getElem?_eq_getElem (by lia)];rfl
 unfold Zx2 at q
 dsimp only at q
 generalize as.getD 1 0=k at *
 refine ⟨_,rfl,c,_,_,_,rfl,rfl,SqL.of hc,Xv0 h1,k,32,rfl,_,rfl,?_⟩
 by_cases hk:0≤k∧k<((32:Nat):Int)
 ·rw [decide_eq_true hk]
  rw [if_neg (by lia)] at q
  refine ⟨_,rfl,d.M,d.dx,_,rfl,R.obj,rfl,_,rfl,c,_,_,_,rfl,rfl,SqL.of hc,Xv0 h1,d,m,b,k.toNat,?_,R,by lia,(by show 2≤sizeLine;decide),fun p hp=>?_⟩
  ·show [V.ref d.M,V.int k]=[V.ref d.M,V.int ((k.toNat:Nat):Int)]
   rw [show ((k.toNat:Nat):Int)=k by lia]
  ·exact q _ d b p rfl (R.mine hp) (Yi0 (Zz0 hp)) Zm0 (R.fresh hp) hp
 ·rw [decide_eq_false hk]
  rw [if_pos (by lia)] at q
  refine ⟨_,rfl,(by show 1≤sizeLine;decide),fun p hp=>?_⟩
  exact q _ d b p rfl (R.mine hp) (Yi0 (Zz0 hp)) Zm0 (R.fresh hp) hp
theorem Um0 {H:Hp}{a p:Addr}{u:HO} (h:upd H a u p=none):H p=none:=by
 by_cases e:p=a
 ·subst e;rw [Zm0] at h;cases h
 ·rw [Zn0 e] at h;exact h
def Yq5:Jt5:=fun m as=>if as.getD 1 0<0∨255<as.getD 1 0 then (m,[-8]) else (KL m (as.getD 1 0).toNat (as.getD 2 0).toNat,[0])
def Jg6:Jt5:=fun m as=>({ m with pc:=(as.getD 1 0).toNat },[0])
theorem Xk3:scD 214:=by decide +kernel
theorem Ve3 {f C:Addr}{fd:FuncData} (F:Fun K "answer_go" "answer_go" (top 214) f fd) (T:Txt K mg C):FnW P w K mg base 1 f fd ["machine","call"] (Uk2 C (fun as=>as.length=2∧0≤as.getD 1 0∧as.getD 1 0<2^64) Jg6):=by
 exists Xk3,Xo1
 obtain ⟨d,m,b,c,as,rfl,R,hc,nc,⟨hl,k0,k1⟩,q⟩:=h
 refine ⟨_,Zd0 (Ue0 (pv 0) (Xi0 Ym0 (pv 1) Zg0 (fun _ _=>rfl)) rfl) (Ze0 (Zk0 (Vc0 (Za0 Zg0 Zc0)))),?_⟩
 have h1:as[1]? = some (as.getD 1 0):=by rw [List.getD_eq_getElem?_getD,List.getElem?_eq_getElem (by lia)];rfl
 unfold Jg6 at q
 dsimp only at q
 generalize as.getD 1 0=k at *
 obtain ⟨a,rfl⟩:∃ a:Nat,k=(a:Int):=⟨k.toNat,by lia⟩
 rw [Int.toNat_natCast] at q
 refine ⟨_,rfl,c,_,_,_,rfl,rfl,SqL.of hc,Xv0 h1,_,rfl,d.M,C,d.dx,_,rfl,R.obj,T.cl,T.nPla,(by show 7<1000;decide),?_⟩
 have R2:=R.setObj (pc':=a) (b':=b) (R.wf.setPc (by lia)) R.bh
 refine ⟨(by show 1≤sizeLine;decide),fun p hp=>?_⟩
 have hp0:H p=none:=Um0 hp
 exact q _ d b p rfl (R2.mine hp) ((Vf0.upd (by simp [Ad.own])).trans (Yi0 (Zz0 hp))) Zm0 (R2.fresh hp) hp0
inductive Ju0 (C:Addr) (ok:List Int→Prop) (g:Jt5) (vs:List V) (H:Hp) (Q:VK) (_:XK):Prop |mk (d:Ad) (m:KM) (b:Nat) (c:Addr) (as:List Int) (_:vs=[.ref d.M,.ref c]) (_:Rep C H d m b) (_:H c=some (.lst (as.map V.int))) (_:c ∉ d.own) (_:ok as) (_:∀ (H1 H':Hp) (d':Ad) (b':Nat) (p:Addr),d'.M=d.M→Rep C H' d' (g m as).1 b'→Vf0 d.own d'.own H H'→H' p=some (.lst ((g m as).2.map V.int))→p ∉ d'.own→Vf0 d.own d'.own H H1→H1 p=none→Q (.ref p) H')
theorem Jt0 {C:Addr}{ok:List Int→Prop}{g:Jt5}:∀ vs H Q E,Ju0 C ok g vs H Q E→vs.length=2:=by rintro vs H Q E ⟨d,m,b,c,as,rfl,_⟩;rfl
theorem Zp2 {f C:Addr}{fd:FuncData}{k:Nat}{ok:List Int→Prop}{g:Jt5} (F:FnW P w K mg base k f fd ["machine","call"] (Uk2 C ok g)):FnW P w K mg base k f fd ["machine","call"] (Ju0 C ok g) :=
 F.imp fun vs H Q E ⟨d,m,b,c,as,e,R,hc,nc,ho,q⟩=>⟨d,m,b,c,as,e,R,hc,nc,ho,fun H' d' b' p e1 R1 k1 hp np h0=>q H H' d' b' p e1 R1 k1 hp np (fun a u ha hn=>⟨ha,(k1 a u ha hn).2⟩) h0⟩
theorem Jy2:scD 219:=by decide +kernel
theorem Zp3 {f C:Addr}{fd:FuncData} (F:Fun K "answer_set" "answer_set" (top 219) f fd) (T:Txt K mg C) (T10:Jr5 mg) (gt:FG P w K mg base "is_there" 1 ["number","count"] Jr2) (gg:gGive P w K mg base C) :
  FnW P w K mg base 3 f fd ["machine","call"] (Ju0 C (fun as=>as.length=3∧0≤as.getD 2 0∧as.getD 2 0<2^64) Yq5):=by
 exists Jy2,Jt0
 obtain ⟨d,m,b,c,as,rfl,R,hc,nc,⟨hl,x0,x1⟩,q⟩:=h
 refine ⟨_,Zd0 (Yb0 (Ul1 (Zs0 (Zb0 gt hr Zf0 (Za0 (Xi0 Ym0 (pv 1) Zg0 (fun _ _=>rfl)) (Za0 (Zo0 T10.plain) Zc0))) (fun _=>rfl))) (Ze0 (Zk0 (Vc0 (Za0 (Xc1 Jg0 Zg0) Zc0)))) Zq0)
  (Zd0 (Zx0 (Zu0 (pv 0) T.cl gg hr Zf0 (Za0 (Xi0 Ym0 (pv 1) Zg0 (fun _ _=>rfl)) (Za0 (Xi0 Ym0 (pv 1) Zg0 (fun _ _=>rfl)) Zc0))))
  (Ze0 (Zk0 (Vc0 (Za0 Zg0 Zc0))))),?_⟩
 have h1:as[1]? = some (as.getD 1 0):=by rw [List.getD_eq_getElem?_getD,List.getElem?_eq_getElem (by lia)];rfl
 have h2:as[2]? = some (as.getD 2 0):=by rw [List.getD_eq_getElem?_getD,List.getElem?_eq_getElem (by lia)];rfl
 unfold Yq5 at q
 generalize as.getD 1 0=k at *
 generalize as.getD 2 0=x at *
 obtain ⟨xn,rfl⟩:∃ xn:Nat,x=(xn:Int):=⟨x.toNat,by lia⟩
 rw [Int.toNat_natCast] at q
 refine ⟨_,rfl,c,_,_,_,rfl,rfl,SqL.of hc,Xv0 h1,k,256,rfl,_,rfl,?_⟩
 by_cases hk:0≤k∧k<((256:Nat):Int)
 ·rw [decide_eq_true hk]
  rw [if_neg (by lia)] at q
  refine ⟨_,rfl,d.M,d.dx,_,rfl,R.obj,rfl,_,rfl,c,_,_,_,rfl,rfl,SqL.of hc,Xv0 h1,_,rfl,c,_,_,_,rfl,rfl,SqL.of hc,Xv0 h2,d,m,b,k.toNat,xn,?_,R,by lia,by lia,fun H1 d1 e1 R1 k1=>?_⟩
  ·show [V.ref d.M,V.int k,V.int (xn:Int)]=[V.ref d.M,V.int ((k.toNat:Nat):Int),V.int (xn:Int)]
   rw [show ((k.toNat:Nat):Int)=k by lia]
  ·refine ⟨(by show 1≤sizeLine;decide),fun p hp=>?_⟩
   exact q H1 _ d1 b p e1 (R1.mine hp) (k1.trans (Yi0 (Zz0 hp))) Zm0 (R1.fresh hp) k1 hp
 ·rw [decide_eq_false hk]
  rw [if_pos (by lia)] at q
  refine ⟨_,rfl,(by show 1≤sizeLine;decide),fun p hp=>?_⟩
  exact q H _ d b p rfl (R.mine hp) (Yi0 (Zz0 hp)) Zm0 (R.fresh hp) (Vf0.refl _ _) hp
theorem Yl2:scD 211:=by decide +kernel
theorem Xa2 {f C:Addr}{fd:FuncData} (F:Fun K "answer_begin" "answer_begin" (top 211) f fd) (T:Txt K mg C) (gb:MG P w K mg base C "begin" 1 ["self"] (Ja3 C)):FnW P w K mg base 2 f fd ["machine","call"] (Ju0 C (fun _=>True) fun _ _=>(Kg22.init,[0])):=by
 exists Yl2,Jt0
 obtain ⟨d,m,b,c,as,rfl,R,hc,nc,_,q⟩:=h
 refine ⟨_,Zd0 (Zx0 (Up0 (pv 0) T.cl gb hr Zf0)) (Ze0 (Zk0 (Vc0 (Za0 Zg0 Zc0)))),?_⟩
 refine ⟨_,rfl,d.M,d.dx,_,rfl,R.obj,rfl,d.M,d.dx,_,rfl,R.obj,R.dxo,.inr ⟨_,_,_,_,_,_,_,rfl⟩,fun H1 d1 e1 R1 k1=>?_⟩
 have kk:Vf0 d.own d1.own H H1:=fun a u ha hn=>k1 a u ha (fun z=>hn (by unfold Ad.own;simp at z ⊢;rcases z with z | z;exact .inl z;exact .inr (.inl z)))
 refine ⟨(by show 1≤sizeLine;decide),fun p hp=>?_⟩
 exact q H1 _ d1 0 p e1 (R1.mine hp) (kk.trans (Yi0 (Zz0 hp))) Zm0 (R1.fresh hp) kk hp
def Jh7:List Nat:=[1,3,3,2,2,1,2,3,2]
def Xp6 (k:Nat) (n:Int):Int:=(Jh7.getD k 0:Int)+if k=1 then n else 0
structure Txt11 (K:PySem.W.Frag) (mg:Str→Option Value) (aN:Addr):Prop where
 write:∃ t,mg "WRITE" = some (.int 1 t)
 len:mg "LENGTHS" = some (.ref aN)
 sn:∀ H,SqT K H aN (Jh7.map iv)
inductive spLen (K:PySem.W.Frag) (vs:List V) (H:Hp) (Q:VK) (_:XK):Prop |mk (c:Addr) (as:List Int) (i k:Nat) (n:Int) (_:vs=[.ref c,iv i]) (_:SqL K H c (as.map V.int)) (_:as[i]? = some (k:Int)) (_:k<9) (_:k=1→as[i+2]? = some n) (_:Q (.int (Xp6 k n)) H)
theorem Vh1:Zj0 ["calls","start","length"] ["calls","start"] (Zh0 (top 222)):=by decide +kernel
theorem Vv2 {f aN:Addr}{fd:FuncData} (F:Fun K "call_length" "call_length" (top 222) f fd) (T11:Txt11 K mg aN):FnW P w K mg base 1 f fd ["calls","start"] (spLen K):=by
 exists Vh1,(by rintro vs H Q E ⟨c,as,i,k,n,rfl,_⟩;rfl)
 obtain ⟨c,as,i,k,n,rfl,hS,hi,hk,hn,q⟩:=h
 refine ⟨_,Zd0 (Zp0 (i:=2) Vh1.nd rfl (Or.inl rfl) (Xi0 Jl0 (Za1 (v:=.ref aN) rfl T11.len rfl) (Xi0 Ym0 (pv 0) (pv 1) (fun _ _=>rfl)) (fun _ _=>rfl)))
  (Zd0 (Yb0 (Zt0 Xj0 (Xi0 Ym0 (pv 0) (pv 1) (fun _ _=>rfl)) (Zo0 T11.write) (Zv0 _)) (Ze0 (Zk0 (Zl0 Yy0 (pv 2) (Xi0 Ym0 (pv 0) (Zl0 Yy0 (pv 1) Zg0) (fun _ _=>rfl))))) Zq0)
  (Ze0 (Zk0 (pv 2)))),?_⟩
 have hl:Jh7[k]? = some (Jh7.getD k 0):=by rw [List.getD_eq_getElem?_getD,List.getElem?_eq_getElem (show k<Jh7.length from hk)];rfl
 refine ⟨_,rfl,_,rfl,c,_,_,_,rfl,rfl,hS,Xv0 hi,aN,_,_,_,rfl,rfl,T11.sn H,Zd1 hl,?_⟩
 refine ⟨_,rfl,_,rfl,c,_,_,_,rfl,rfl,hS,Xv0 hi,rfl,_,rfl,?_⟩
 rw [show (V.int 1)=V.int ((1:Nat):Int) from rfl,Yj0]
 unfold Xp6 at q
 refine Xb0 (fun hc=>?_) (fun hc=>?_)
 ·have hc':k=1:=of_decide_eq_true hc
  rw [if_pos hc'] at q
  refine ⟨_,rfl,_,rfl,_,rfl,_,_,rfl,rfl,c,_,_,_,rfl,rfl,hS,Xv0 (j:=i+2) (hn hc'),_,_,rfl,rfl,q⟩
 ·rw [if_neg (fun z=>hc (decide_eq_true z)),Int.add_zero] at q
  exact ⟨_,rfl,q⟩
def badA (v:Nat):Prop:=2^18≤v∨v/256%256≠0
inductive Ub6 (C c3:Addr) (vs:List V) (H:Hp) (Q:VK) (E:XK):Prop |mk (d:Ad) (m:KM) (b v:Nat) (_:vs=[.ref d.M,iv v]) (_:Rep C H d m b) (_:v<2^64) (_:¬ badA v→Ub0 C H d (KU m 21 v) b (Q .non)) (_:badA v→E (.ref c3) none H)
theorem Jd1:Zj0 ["machine","value"] ["machine","value"] (Zh0 (top 156)):=by decide +kernel
theorem Zh5 (a:Nat):((a:Int) != 0)=decide (a≠0):=by
 by_cases h:a=0
 ·rw [h];rfl
 ·rw [decide_eq_true h];exact bne_iff_ne.mpr (by lia)
theorem Jg1 {f C c3:Addr}{fd:FuncData} (F:Fun K "put_arithmetic" "put_arithmetic" (top 156) f fd) (T:Txt K mg C) (T2:Zx1 mg) (x3:ExC K c3) (m3:mg "NotAllowed" = some (.ref c3)):FnW P w K mg base 1 f fd ["machine","value"] (Ub6 C c3):=by
 exists Jd1,(by rintro vs H Q E ⟨d,m,b,v,rfl,_⟩;rfl)
 obtain ⟨d,m,b,v,rfl,R,hv,q1,q2⟩:=h
 refine ⟨_,Zd0 (Yb0 (PW.pt (Yz1 (Zs0 (Zl0 Xf0 (pv 1) Zg0) (fun _=>rfl)) (Zi1 (Zs0 (Zl0 Yf0 (Zl0 Xf0 (pv 1) Zg0) Zg0) (fun _=>rfl))))) (Ze0 (Uy0 x3 rfl m3)) Zq0)
  (Ze0 (Ji0 (pv 1) (Jj0 (Yh0 (pv 0) rfl) (Zo0 T2.ra) Xs0))),?_⟩
 simp only [Uc1,Zq1,Xw2,Ui3]
 refine Uh3 (a:=decide (v/2^18≠0)) (b:=decide (v/256%256≠0)) (fun Q' q'=>⟨_,rfl,_,_,rfl,rfl,(by decide:(0:Int)≤18),_,rfl,?_⟩) (fun Q' q'=>⟨_,rfl,_,_,rfl,rfl,(by decide:(0:Int)≤8),_,_,rfl,rfl,_,rfl,?_⟩) ?_
 ·show Q' (((v:Int)/2^(18:Int).toNat) != 0) H
  rw [Uc0 v (k:=18) rfl,Zh5];exact q'
 ·show Q' (Builtin.bitAnd ((v:Int)/2^(8:Int).toNat) 255 != 0) H
  have e:Builtin.bitAnd ((v:Int)/2^(8:Int).toNat) 255=((v/256%256:Nat):Int):=by rw [Uc0 v (k:=8) rfl,bitAnd_m8];rfl
  rw [e,Zh5];exact q'
 ·refine Xb0 (fun hc=>?_) (fun hc=>?_)
  ·refine q2 ?_
   rcases Jm6 hc with h | h
   ·exact .inl (by lia)
   ·exact .inr h
  ·have nb:¬ badA v:=fun z=>hc (by
    rw [Bool.or_eq_true]
    rcases z with z | z
    ·exact .inl (decide_eq_true (by lia))
    ·exact .inr (decide_eq_true z))
   have q:=q1 nb
   have hlt:v<2^18:=by
    apply Nat.lt_of_not_le
    intro z;exact nb (.inl z)
   obtain ⟨ss,hS,lS,gS⟩:=R.spc
   refine ⟨_,rfl,_,rfl,d.M,C,d.dx,_,_,rfl,R.obj,T.cl,T.nSpc,rfl,d.aS,_,_,21,rfl,rfl,hS,Vt0 (n:=(List.map iv ss).length) (j:=21) (by rw [List.length_map,lS];decide),?_⟩
   have R':=R.setSpc (k:=21) (x:=v) (by decide) hS lS gS (R.wf.setSp hv (by decide) (fun _=>hlt)) (by decide)
   rw [← Jh0] at R'
   exact q _ d rfl R' (Vf0.upd (by simp [Ad.own]))
theorem Zq2 (xs:List V) (c:Nat):Jq4 xs none (some (c:Int))=xs.take c:=by
 unfold Jq4
 rw [HT.sIx_none,HT.sIx_nat,List.drop_zero,Nat.sub_zero]
 rw [List.take_eq_take_iff]
 lia
theorem Vc6 (xs:List V) (c:Nat):Jq4 xs (some (c:Int)) none=xs.drop c:=by
 unfold Jq4
 rw [HT.sIx_none,HT.sIx_nat]
 by_cases h:c≤xs.length
 ·rw [Nat.min_eq_left h]
  exact List.take_of_length_le (by rw [List.length_drop];lia)
 ·rw [Nat.min_eq_right (by lia),Nat.sub_self,List.take_zero]
  exact (List.drop_eq_nil_of_le (by lia)).symm
theorem Za8 (xs:List V) (i L:Nat) (h:i+L≤xs.length):Jq4 xs (some (i:Int)) (some ((i:Int)+(L:Int)))=(xs.drop i).take L:=by
 unfold Jq4
 rw [show ((i:Int)+(L:Int))=((i+L:Nat):Int) by lia,HT.sIx_nat,HT.sIx_nat,Nat.min_eq_left h,Nat.min_eq_left (show i≤xs.length by lia),Nat.add_sub_cancel_left]
theorem psImp {X:Cx}{st:Stmt}{t t':TS} (h:PS X st t) (hi:∀ D σ H,t' D σ H→t D σ H):PS X st t':=fun pins s σ H D I q=>h pins s σ H D I (hi D σ H q)
def tTo (σ0:L2.St) (H0:Hp) (σ1:L2.St):TS:=fun D σ H=>σ=σ0∧H=H0∧D.nx σ1 H0
structure Shp (C:Addr) (H:Hp) (d:Ad) (m:KM) (b:Nat):Prop where
 obj:H d.M=some (.ins C d.dx (mf d.aM d.aL d.aW d.aS d.aP m.pc b))
 dxo:H d.dx=some (.own d.M)
 mem:∃ kvs,H d.aM=some (.dK kvs)∧Yl3 kvs m.mem
 loc:H d.aL=some (.lst (m.locals.map iv))
 wid:∃ ws:List Nat,H d.aW=some (.lst (ws.map iv))∧ws.length=256∧∀ j,m.special 19≤j→j<256→ws[j]? = some (m.globals j)
 spc:∃ ss:List Nat,H d.aS=some (.lst (ss.map iv))∧ss.length=32∧∀ j,j<32→ss[j]? = some (m.special j)
 psh:H d.aP=some (.lst (m.pushed.reverse.map iv))
 nd:d.own.Nodup
namespace Shp
variable {C:Addr}{H:Hp}{d:Ad}{m:KM}{b:Nat}
theorem ne (S:Shp C H d m b):(d.M≠d.dx∧d.M≠d.aM∧d.M≠d.aL∧d.M≠d.aW∧d.M≠d.aS∧d.M≠d.aP)∧(d.dx≠d.aM∧d.dx≠d.aL∧d.dx≠d.aW∧d.dx≠d.aS∧d.dx≠d.aP)∧(d.aM≠d.aL∧d.aM≠d.aW∧d.aM≠d.aS∧d.aM≠d.aP)∧(d.aL≠d.aW∧d.aL≠d.aS∧d.aL≠d.aP)∧(d.aW≠d.aS∧d.aW≠d.aP)∧d.aS≠d.aP:=by
 have:=S.nd
 simp [Ad.own] at this
 exact ⟨this.1,this.2.1,this.2.2.1,this.2.2.2.1,this.2.2.2.2.1,this.2.2.2.2.2⟩
theorem rep (S:Shp C H d m b) (wf:WF m) (bh:b<2^64):Rep C H d m b :=
 ⟨S.obj,S.dxo,S.mem,S.loc,S.wid,S.spc,S.psh,by obtain ⟨_,_,_,h1,h2,h3⟩:=S.ne;simp;exact ⟨⟨h1.1,h1.2.1,h1.2.2⟩,⟨h2.1,h2.2⟩,h3⟩,wf,bh⟩
theorem setLoc (S:Shp C H d m b) (ls:List Nat):Shp C (upd H d.aL (.lst (ls.map iv))) d { m with locals:=ls } b:=by
 obtain ⟨⟨a1,a2,a3,a4,a5,a6⟩,⟨b1,b2,b3,b4,b5⟩,⟨c1,c2,c3,c4⟩,⟨e1,e2,e3⟩,⟨f1,f2⟩,g1⟩:=S.ne
 exact ⟨by rw [Zn0 a3];exact S.obj,by rw [Zn0 b2];exact S.dxo,by rw [Zn0 c1];exact S.mem,Zm0,by rw [Zn0 e1.symm];exact S.wid,by rw [Zn0 e2.symm];exact S.spc,by rw [Zn0 e3.symm];exact S.psh,S.nd⟩
theorem setPsh (S:Shp C H d m b) (ps:List Nat):Shp C (upd H d.aP (.lst (ps.reverse.map iv))) d { m with pushed:=ps } b:=by
 obtain ⟨⟨a1,a2,a3,a4,a5,a6⟩,⟨b1,b2,b3,b4,b5⟩,⟨c1,c2,c3,c4⟩,⟨e1,e2,e3⟩,⟨f1,f2⟩,g1⟩:=S.ne
 exact ⟨by rw [Zn0 a6];exact S.obj,by rw [Zn0 b5];exact S.dxo,by rw [Zn0 c4];exact S.mem,by rw [Zn0 e3];exact S.loc,by rw [Zn0 f2];exact S.wid,by rw [Zn0 g1];exact S.spc,Zm0,S.nd⟩
theorem newLoc (S:Shp C H d m b) {p:Addr}{ls:List Nat} (hp:p ∉ d.own) (h:H p=some (.lst (ls.map iv))) :
  Shp C (upd H d.M (.ins C d.dx (mf d.aM p d.aW d.aS d.aP m.pc b))) { d with aL:=p } { m with locals:=ls } b:=by
 obtain ⟨⟨a1,a2,a3,a4,a5,a6⟩,⟨b1,b2,b3,b4,b5⟩,⟨c1,c2,c3,c4⟩,⟨e1,e2,e3⟩,⟨f1,f2⟩,g1⟩:=S.ne
 simp [Ad.own] at hp
 obtain ⟨p1,p2,p3,p4,p5,p6,p7⟩:=hp
 refine ⟨Zm0,by rw [Zn0 a1.symm];exact S.dxo,by rw [Zn0 a2.symm];exact S.mem,by rw [Zn0 p1];exact h,by rw [Zn0 a4.symm];exact S.wid,by rw [Zn0 a5.symm];exact S.spc,by rw [Zn0 a6.symm];exact S.psh,?_⟩
 simp [Ad.own]
 exact ⟨⟨a1,a2,fun z=>p1 z.symm,a4,a5,a6⟩,⟨b1,fun z=>p2 z.symm,b3,b4,b5⟩,⟨fun z=>p3 z.symm,c2,c3,c4⟩,⟨p5,p6,p7⟩,⟨f1,f2⟩,g1⟩
theorem setBeh (S:Shp C H d m b) (b':Nat):Shp C (upd H d.M (.ins C d.dx (mf d.aM d.aL d.aW d.aS d.aP m.pc b'))) d m b':=by
 obtain ⟨⟨a1,a2,a3,a4,a5,a6⟩,_⟩:=S.ne
 exact ⟨Zm0,by rw [Zn0 a1.symm];exact S.dxo,by rw [Zn0 a2.symm];exact S.mem,by rw [Zn0 a3.symm];exact S.loc,by rw [Zn0 a4.symm];exact S.wid,by rw [Zn0 a5.symm];exact S.spc,by rw [Zn0 a6.symm];exact S.psh,S.nd⟩
theorem setSpc (S:Shp C H d m b) {k x:Nat}{ss:List Nat} (hs:H d.aS=some (.lst (ss.map iv))) (ls:ss.length=32) (gs:∀ j,j<32→ss[j]? = some (m.special j)) (hk:k<32) (hg:k=19→m.special 19≤x) :
  Shp C (upd H d.aS (.lst ((ss.set k x).map iv))) d (KU m k x) b:=by
 obtain ⟨⟨a1,a2,a3,a4,a5,a6⟩,⟨b1,b2,b3,b4,b5⟩,⟨c1,c2,c3,c4⟩,⟨e1,e2,e3⟩,⟨f1,f2⟩,g1⟩:=S.ne
 refine ⟨by rw [Zn0 a5];exact S.obj,by rw [Zn0 b4];exact S.dxo,by rw [Zn0 c3];exact S.mem,by rw [Zn0 e2];exact S.loc,?_,?_,by rw [Zn0 g1.symm];exact S.psh,S.nd⟩
 ·rw [Zn0 f1]
  obtain ⟨ws,h1,h2,h3⟩:=S.wid
  refine ⟨ws,h1,h2,fun j hj=>h3 j ?_⟩
  have hj':(if 19=k then x else m.special 19)≤j:=hj
  by_cases e:19=k
  ·rw [if_pos e] at hj';have:=hg e.symm;lia
  ·rw [if_neg e] at hj';exact hj'
 ·refine ⟨ss.set k x,Zm0,by rw [List.length_set];exact ls,fun j hj=>?_⟩
  show _=some (if j=k then x else m.special j)
  by_cases e:j=k
  ·subst e;rw [if_pos rfl,List.getElem?_set_self (by lia)]
  ·rw [if_neg e,List.getElem?_set_ne (fun z=>e z.symm)];exact gs j hj
theorem own_some (S:Shp C H d m b):∀ a∈d.own,∃ u,H a=some u:=fun a ha=>by
 simp [Ad.own] at ha
 rcases ha with rfl | rfl | rfl | rfl | rfl | rfl | rfl
 ·exact ⟨_,S.obj⟩
 ·exact ⟨_,S.dxo⟩
 ·obtain ⟨k,h,_⟩:=S.mem;exact ⟨_,h⟩
 ·exact ⟨_,S.loc⟩
 ·obtain ⟨k,h,_⟩:=S.wid;exact ⟨_,h⟩
 ·obtain ⟨k,h,_⟩:=S.spc;exact ⟨_,h⟩
 ·exact ⟨_,S.psh⟩
theorem fresh (S:Shp C H d m b) {p:Addr} (h:H p=none):p ∉ d.own:=fun z=>by
 obtain ⟨u,e⟩:=S.own_some p z
 rw [h] at e;cases e
theorem same {H':Hp} (S:Shp C H d m b) (s:Jf0 H H'):Shp C H' d m b:=by
 obtain ⟨k1,h1,g1⟩:=S.mem
 obtain ⟨k2,h2,g2⟩:=S.wid
 obtain ⟨k3,h3,g3⟩:=S.spc
 exact ⟨s _ _ S.obj,s _ _ S.dxo,⟨k1,s _ _ h1,g1⟩,s _ _ S.loc,⟨k2,s _ _ h2,g2⟩,⟨k3,s _ _ h3,g3⟩,s _ _ S.psh,S.nd⟩
end Shp
theorem Rep.shp {C:Addr}{H:Hp}{d:Ad}{m:KM}{b:Nat} (R:Rep C H d m b):Shp C H d m b :=
 ⟨R.obj,R.dxo,R.mem,R.loc,R.wid,R.spc,R.psh,by
  simp [Ad.own]
  exact ⟨⟨R.ne_Md,R.ne_MM,R.ne_ML,R.ne_MW,R.ne_MS,R.ne_MP⟩,⟨R.ne_dM,R.ne_dL,R.ne_dW,R.ne_dS,R.ne_dP⟩,⟨R.ne_KL,R.ne_KW,R.ne_KS,R.ne_KP⟩,⟨R.ne_LW,R.ne_LS,R.ne_LP⟩,⟨R.ne_WS,R.ne_WP⟩,R.ne_SP⟩⟩
theorem Vf0.moved {H H':Hp}{d:Ad}{p:Addr} (k:∀ a,a ∉ d.own→a≠p→H a≠none→H' a=H a) (hp:H p=none):Vf0 d.own ({ d with aL:=p }:Ad).own H H':=fun a u e n=>by
 have hne:a≠p:=fun z=>by rw [z,hp] at e;cases e
 refine ⟨by rw [k a n hne (by rw [e];simp)];exact e,fun z=>?_⟩
 simp [Ad.own] at n z
 rcases z with z | z | z | z | z | z | z
 ·exact n.1 z
 ·exact n.2.1 z
 ·exact n.2.2.1 z
 ·exact hne z
 ·exact n.2.2.2.2.1 z
 ·exact n.2.2.2.2.2.1 z
 ·exact n.2.2.2.2.2.2 z
def Yc1 (m:KM) (n:Nat):Nat:=if m.special 19≤xW n then m.locals.length else xW n
def Zf3 (m:KM) (x:Nat):KM:={ m with pushed:=x :: (((Uq0 m.locals (x+1)).take x).reverse++m.pushed),locals:=(Uq0 m.locals (x+1)).drop (x+1) }
theorem Xu5 (m:KM) (n:Nat):Kg22.pushes m (xW n)=if 65536<m.pushed.length+Yc1 m n+1 then .error 5 else .ok (Zf3 m (Yc1 m n)):=rfl
theorem Yy3 {m:KM}{n a:Nat}{f:KM→KD (KM×Nat)} (hf:f=fun r=>.ok ({ KU r 4 ((m.pc+4)%2^64) with pc:=a },0)) :
  (Kg22.pushes { m with pc:=(m.pc+4)%2^64 } (xW n)).bind f=if 65536<m.pushed.length+Yc1 m n+1 then .error 5 else .ok ({ KU (Zf3 m (Yc1 m n)) 4 ((m.pc+4)%2^64) with pc:=a },0):=by
 subst hf
 rw [Xu5]
 show (if 65536<m.pushed.length+Yc1 m n+1 then Except.error 5 else Except.ok (Zf3 { m with pc:=(m.pc+4)%2^64 } (Yc1 m n))).bind _=_
 by_cases h:65536<m.pushed.length+Yc1 m n+1
 ·rw [if_pos h,if_pos h];rfl
 ·rw [if_neg h,if_neg h];rfl
theorem Ut3 {m:KM}{n:Nat} (hl:KI m m.pc 4=.ok n) (h1:190≤opW n) (h2:opW n<192):KG m=if 65536<m.pushed.length+Yc1 m n+1 then .error 5 else .ok ({ KU (Zf3 m (Yc1 m n)) 4 ((m.pc+4)%2^64) with pc:=Vo0 m n },0):=by
 unfold KG
 rw [hl]
 have h1':190≤n/2^24:=h1
 have h2':n/2^24<192:=h2
 show (if n/2^24=0 then _ else _)=_
 iterate 25 refine (if_neg (by first | exact nl h1' | exact nq h1')).trans ?_
 rw [if_pos (by lia)]
 show (Kg22.pushes { m with pc:=(m.pc+4)%2^64 } (xW n)).bind (fun r=>(Except.ok ({ KU r 4 ((m.pc+4)%2^64) with pc:=(KS m (yW n)+(if (opW n%2 == 1)=true then n%256 else KS m (n%256)))%2^64 },0):KD (KM×Nat)))=_
 rw [Xo0];exact Yy3 rfl
theorem Vb4 {m:KM}{n:Nat} (hl:KI m m.pc 4=.ok n) (h1:242≤opW n) (h2:opW n<244):KG m=if 65536<m.pushed.length+Yc1 m n+1 then .error 5 else .ok ({ KU (Zf3 m (Yc1 m n)) 4 ((m.pc+4)%2^64) with pc:=Vt1 m.pc n },0):=by
 unfold KG
 rw [hl]
 have h1':242≤n/2^24:=h1
 have h2':n/2^24<244:=h2
 show (if n/2^24=0 then _ else _)=_
 iterate 29 refine (if_neg (by first | exact nl h1' | exact nq h1')).trans ?_
 rw [if_pos (by lia)]
 show (Kg22.pushes { m with pc:=(m.pc+4)%2^64 } (xW n)).bind (fun r=>(Except.ok ({ KU r 4 ((m.pc+4)%2^64) with pc:=(m.pc+4*(256*(n/256%256)+n%256)+if (opW n%2 == 1)=true then Kg22.W-4*65536 else 0)%Kg22.W },0):KD (KM×Nat)))=_
 rw [Jz4,Xo0];exact Yy3 rfl
theorem Yq1 {m:KM}{n:Nat} (hl:KI m m.pc 4=.ok n) (h1:246≤opW n) (h2:opW n<248):KG m=if yW n≠0 then .error 3 else (Kg22.step.put { m with pc:=(m.pc+4)%2^64 } (xW n) (zvW m n)).bind fun r=>.ok (r,0):=by
 unfold KG
 rw [hl]
 have h1':246≤n/2^24:=h1
 have h2':n/2^24<248:=h2
 show (if n/2^24=0 then _ else _)=_
 iterate 31 refine (if_neg (by first | exact nl h1' | exact nq h1')).trans ?_
 rw [if_pos (by lia)]
 show (if yW n≠0 then Except.error 3 else (Kg22.step.put { m with pc:=(m.pc+4)%2^64 } (xW n) (if (opW n%2 == 1)=true then n%256 else KS m (n%256))).bind (fun r=>(.ok (r,0):KD (KM×Nat))))=_
 rw [Xo0];rfl
def Zn1 (ls:List Nat) (x:Nat):List Nat:=if x=0 then [] else if ls.length<x then 0 :: ls else ls.getD (x-1) 0 :: ls.take (x-1)
theorem Zc8 (ls:List Nat) (x:Nat):(if (if ls.length<x then ls.length+1 else x)=0 then [] else ls.getD ((if ls.length<x then ls.length+1 else x)-1) 0 :: ls.take ((if ls.length<x then ls.length+1 else x)-1))=Zn1 ls x:=by
 unfold Zn1
 by_cases h:ls.length<x
 ·rw [if_pos h,if_neg (by lia),if_neg (by lia),if_pos h,Nat.add_sub_cancel,List.take_length]
  congr 1
  rw [List.getD_eq_getElem?_getD,List.getElem?_eq_none (Nat.le_refl _)];rfl
 ·rw [if_neg h]
  by_cases h0:x=0
  ·rw [if_pos h0,if_pos h0]
  ·rw [if_neg h0,if_neg h0,if_neg h]
def Ym6 (m:KM) (c:Nat) (r:List Nat) (x:Nat):KM:={ m with pushed:=r.drop c,locals:=((r.take c).reverse++Zn1 m.locals x).take (m.special 19) }
theorem Xq7 (m:KM) (x:Nat):Kg22.pops m x=match m.pushed with | []=>.error 4 | c :: r=>.ok (Ym6 m c r x):=by
 unfold Kg22.pops Ym6
 cases m.pushed with
 | nil=>rfl
 | cons c r =>
  dsimp only
  rw [Zc8];rfl
theorem Zt5 {m:KM}{n:Nat} (hl:KI m m.pc 4=.ok n) (h1:248≤opW n) (h2:opW n<249):KG m=(match m.pushed with | []=>.error 4 | c :: r=>.ok ({ Ym6 m c r (xW n) with pc:=(m.special 4+4*(n%65536))%2^64 },0)):=by
 unfold KG
 rw [hl]
 have h1':248≤n/2^24:=h1
 have h2':n/2^24<249:=h2
 show (if n/2^24=0 then _ else _)=_
 iterate 32 refine (if_neg (by first | exact nl h1' | exact nq h1')).trans ?_
 rw [if_pos (by lia)]
 show (Kg22.pops { m with pc:=(m.pc+4)%2^64 } (xW n)).bind (fun r=>(Except.ok ({ r with pc:=(m.special 4+4*(256*(n/256%256)+n%256))%Kg22.W },0):KD (KM×Nat)))=_
 rw [Jz4,Xq7]
 show (match m.pushed with | []=>Except.error 4 | c :: r=>Except.ok (Ym6 { m with pc:=(m.pc+4)%2^64 } c r (xW n))).bind _=_
 cases m.pushed with
 | nil=>rfl
 | cons c r=>rfl
structure Yj3 (mg:Str→Option Value):Prop where
 most:∃ t,mg "MOST_PUSHED" = some (.int 65536 t)
 rj:∃ t,mg "RJ" = some (.int 4 t)
 min:mg "min" = none
 range:mg "range" = none
inductive Yn5 (C:Addr) (vs:List V) (H:Hp) (Q:VK) (_:XK):Prop |mk (d:Ad) (m:KM) (b c:Nat) (_:vs=[.ref d.M,iv c]) (_:Shp C H d m b) (_:c≤1000) (_:Q .non (upd H d.aL (.lst ((Uq0 m.locals c).map iv))))
theorem Vp6 {H:Hp}{a:Addr}{u:HO} (h:H a=some u):upd H a u=H:=by
 funext x
 by_cases e:x=a
 ·subst e;rw [Zm0,h]
 ·rw [Zn0 e]
theorem Vn2 {f C:Addr}{fd:FuncData} (F:Fun K "make_local" "Machine.make_local" (Xa0 (top 24) 6) f fd) (T:Txt K mg C):FnW P w K mg base 1 f fd ["self","count"] (Yn5 C):=by
 exists Uf1,(by rintro vs H Q E ⟨d,m,b,k,rfl,_⟩;rfl)
 obtain ⟨d,m,b,c,rfl,S,hc,q⟩:=h
 refine ⟨_,Ze0 (Xr1 PassesOwn.leaving (Zt0 Ye1 (Yl0 Yu0 (by rfl) T.len PySem.boot_len (Za0 (Yh0 (pv 0) rfl) Zc0)) (pv 1) (Zv0 _))
  (Ze0 (Zx0 (Jp3 PySem.F.plainAttrs_list PySem.F.slot_list_append PySem.F.type_list_append Xd1 (Yh0 (pv 0) rfl) (Za0 Zg0 Zc0))))),?_⟩
 refine Xm1 (fun σ H'=>∃ ls:List Nat,σ=[some (.ref d.M),some (iv c)]∧H'=upd H d.aL (.lst (ls.map iv))∧Uq0 ls c=Uq0 m.locals c) (fun σ H'=>c-(match H' d.aL with | some (.lst xs)=>xs.length | _=>0))
  ⟨m.locals,rfl,(Vp6 S.loc).symm,rfl⟩ ?_ ?_
 ·rintro σ H' ⟨ls,rfl,rfl,eg⟩
  have S':=S.setLoc ls
  refine ⟨_,rfl,d.M,C,d.dx,_,_,rfl,S'.obj,T.cl,T.nLoc,rfl,d.aL,_,rfl,.inl (SqL.of S'.loc),_,rfl,_,_,rfl,rfl,_,rfl,?_⟩
  refine Xb0 (fun hd=>?_) (fun hd=>?_)
  ·have hl:ls.length<c:=by have:=of_decide_eq_true (show decide (((ls.map iv).length:Int)<(c:Int))=true from hd);rw [List.length_map] at this;lia
   refine ⟨_,rfl,d.M,C,d.dx,_,_,rfl,S'.obj,T.cl,T.nLoc,rfl,.inl ⟨rfl,_,SqL.of S'.loc⟩,d.aL,_,_,rfl,rfl,S'.loc,(by rw [List.length_map];exact Nat.lt_of_lt_of_le hl (Nat.le_trans hc (by decide))),?_⟩
   have e:(ls.map iv++[V.int 0])=(ls++[0]).map iv:=by rw [List.map_append];rfl
   show (∃ ls':List Nat,_∧upd (upd H d.aL (.lst (ls.map iv))) d.aL (.lst (ls.map iv++[V.int 0]))=upd H d.aL (.lst (ls'.map iv))∧_)∧_
   rw [e,Uz1]
   refine ⟨⟨ls++[0],rfl,rfl,by rw [Uz2 hl];exact eg⟩,?_⟩
   rw [Zm0,Zm0]
   show c-(List.map iv (ls++[0])).length<c-(List.map iv ls).length
   rw [List.length_map,List.length_map,List.length_append]
   show c-(ls.length+1)<c-ls.length
   lia
  ·have hl:c≤ls.length:=by
    apply Nat.le_of_not_lt;intro z;exact hd (show decide (((ls.map iv).length:Int)<(c:Int))=true from decide_eq_true (by rw [List.length_map];lia))
   rw [Ja2 hl] at eg
   rw [← eg] at q
   exact q
 ·rintro σ H' Q1 Q2 hm ⟨x,e1,a1,C1,d1,f1,v1,e2,e3,e4,e5,e6,p1,ys,e7,e8,y,e9,i1,j1,e10,e11,bb,e12,hq⟩
  exact ⟨x,e1,a1,C1,d1,f1,v1,e2,e3,e4,e5,e6,p1,ys,e7,e8,y,e9,i1,j1,e10,e11,bb,e12,hm _ _ hq⟩
theorem Yk6 {m:KM} (h:WF m) (n:Nat):Yc1 m n≤300:=by
 unfold Yc1
 split
 ·exact h.len
 ·have:=Vv0 n;lia
theorem Zg6 {m:KM} (h:WF m) {x:Nat} (hx:x≤300) (hf:m.pushed.length+x+1≤65536):WF (Zf3 m x):=by
 have hg:∀ v∈Uq0 m.locals (x+1),v<2^64:=Vq3 h.loc
 have hl:((Uq0 m.locals (x+1)).take x).length=x:=by rw [List.length_take,Xf1];lia
 refine ⟨h.pc,fun v hv=>hg v (List.mem_of_mem_drop hv),h.glo,h.spe,h.mem,h.g1,h.g2,?_,h.ra,?_,?_,?_⟩
 ·show ((Uq0 m.locals (x+1)).drop (x+1)).length≤300
  rw [List.length_drop,Xf1]
  have:=h.len
  lia
 ·intro v hv
  have hv':v∈x :: (((Uq0 m.locals (x+1)).take x).reverse++m.pushed):=hv
  rcases List.mem_cons.mp hv' with z | z
  ·rw [z];exact Nat.lt_of_le_of_lt hx (by decide)
  ·rcases List.mem_append.mp z with z | z
   ·exact hg v (List.mem_of_mem_take (List.mem_reverse.mp z))
   ·exact h.psh v z
 ·exact Stk.cons (by rw [List.length_reverse,hl]) h.stk
 ·show (x :: (((Uq0 m.locals (x+1)).take x).reverse++m.pushed)).length≤65536
  rw [List.length_cons,List.length_append,List.length_reverse,hl]
  lia
inductive Yl5 (C c5:Addr) (vs:List V) (H:Hp) (Q:VK) (E:XK):Prop |mk (d:Ad) (m:KM) (b n:Nat) (_:vs=[.ref d.M,iv n]) (_:Rep C H d m b) (_:n<2^32) (_:m.pushed.length+Yc1 m n+1≤65536→Ub0 C H d (KU (Zf3 m (Yc1 m n)) 4 b) b (Q .non)) (_:65536<m.pushed.length+Yc1 m n+1→E (.ref c5) none H)
theorem Yz5:Zj0 ["machine","word","count"] ["machine","word"] (Zh0 (top 149)):=by decide +kernel
theorem Vq7 {f C c5:Addr}{fd:FuncData} (F:Fun K "push" "push" (top 149) f fd) (T:Txt K mg C) (T12:Yj3 mg) (x5:ExC K c5) (m5:mg "TooMuchPushed" = some (.ref c5)) (gx:gX P w K mg base) (gm:MG P w K mg base C "make_local" 1 ["self","count"] (Yn5 C)):FnW P w K mg base 2 f fd ["machine","word"] (Yl5 C c5):=by
 exists Yz5,(by rintro vs H Q E ⟨d,m,b,n,rfl,_⟩;rfl)
 obtain ⟨d,m,b,n,rfl,R,hn,q1,q2⟩:=h
 have nd:=Yz5.nd
 obtain ⟨ss,hS,lS,gS⟩:=R.spc
 refine ⟨_,Zd0 (Zp0 (i:=2) nd rfl (Or.inl rfl) (Zb0 gx hr Zf0 (Za0 (pv 1) Zc0)))
  (Zd0 (psImp (t':=tTo [some (.ref d.M),some (iv n),some (iv (xW n))] H [some (.ref d.M),some (iv n),some (iv (Yc1 m n))]) (Yb0 (Zt0 Zh3 (pv 2) (Xi0 Ym0 (Yh0 (pv 0) rfl) (Zo0 T.rg) (fun _ _=>rfl)) (Zv0 _)) (Ze0 (Zp0 (i:=2) nd rfl (Or.inl rfl) (Yl0 Yu0 (by rfl) T.len PySem.boot_len (Za0 (Yh0 (pv 0) rfl) Zc0)))) Zq0) ?himp)
  (Zd0 (Yb0 (Zt0 Vg2 (Zl0 Yy0 (Zl0 Yy0 (Yl0 Yu0 (by rfl) T.len PySem.boot_len (Za0 (Yh0 (pv 0) rfl) Zc0)) (pv 2)) Zg0) (Zo0 T12.most) (Zv0 _)) (Ze0 (Uy0 x5 rfl m5)) Zq0)
  (Zd0 (Zx0 (Zu0 (pv 0) T.cl gm hr Zf0 (Za0 (Zl0 Yy0 (pv 2) Zg0) Zc0)))
  (Zd0 (Zx0 (Jp3 PySem.F.plainAttrs_list PySem.F.slot_list_extend PySem.F.type_list_extend Vg3 (Yh0 (pv 0) rfl) (Za0 (Xu1 Jc1 (Yh0 (pv 0) rfl) Yp2 (Vq1 (pv 2))) Zc0)))
  (Zd0 (Zx0 (Jp3 PySem.F.plainAttrs_list PySem.F.slot_list_append PySem.F.type_list_append Xd1 (Yh0 (pv 0) rfl) (Za0 (pv 2) Zc0)))
  (Zd0 (Ue0 (pv 0) (Xu1 Jc1 (Yh0 (pv 0) rfl) (Vq1 (Zl0 Yy0 (pv 2) Zg0)) Yp2) rfl)
  (Ze0 (Ji0 (Yh0 (pv 0) rfl) (Jj0 (Yh0 (pv 0) rfl) (Zo0 T12.rj) Xs0))))))))),?_⟩
 case himp =>
  rintro D σ H1 ⟨rfl,rfl,q⟩
  refine ⟨_,rfl,_,rfl,d.M,C,d.dx,_,_,rfl,R.obj,T.cl,T.nSpc,rfl,d.aS,_,_,_,rfl,rfl,SqL.of hS,Zd1 (gS 19 (by decide)),_,_,rfl,rfl,_,rfl,?_⟩
  unfold Yc1 at q
  refine Xb0 (fun hc=>?_) (fun hc=>?_)
  ·have hc':m.special 19≤xW n:=by have:=of_decide_eq_true hc;lia
   rw [if_pos hc'] at q
   refine ⟨_,rfl,d.M,C,d.dx,_,_,rfl,R.obj,T.cl,T.nLoc,rfl,d.aL,_,rfl,.inl (SqL.of R.loc),?_⟩
   rw [List.length_map]
   exact q
  ·have hc':¬ m.special 19≤xW n:=fun z=>hc (decide_eq_true (by lia))
   rw [if_neg hc'] at q
   exact q
 refine ⟨_,rfl,n,rfl,hn,rfl,rfl,?_⟩
 have hx:=Yk6 R.wf n
 generalize hX:Yc1 m n=x at *
 refine ⟨_,rfl,d.M,C,d.dx,_,_,rfl,R.obj,T.cl,T.nPsh,rfl,d.aP,_,rfl,.inl (SqL.of R.psh),_,rfl,_,_,rfl,rfl,_,_,rfl,rfl,_,_,rfl,rfl,_,rfl,?_⟩
 have hpl:((List.map iv m.pushed.reverse).length:Int)=(m.pushed.length:Int):=by rw [List.length_map,List.length_reverse]
 rw [hpl]
 refine Xb0 (fun hc=>?_) (fun hc=>?_)
 ·exact q2 (by have:=of_decide_eq_true hc;lia)
 ·have hf:m.pushed.length+x+1≤65536:=by
   apply Nat.le_of_not_lt;intro z;exact hc (decide_eq_true (by lia))
  have q:=q1 hf
  have S:=R.shp
  obtain ⟨⟨a1,a2,a3,a4,a5,a6⟩,⟨b1,b2,b3,b4,b5⟩,⟨c1,c2,c3,c4⟩,⟨e1,e2,e3⟩,⟨f1,f2⟩,g1⟩:=S.ne
  have S1:=S.setLoc (Uq0 m.locals (x+1))
  generalize hG:Uq0 m.locals (x+1)=g at *
  have hgl:g.length=max m.locals.length (x+1):=by rw [← hG];exact Xf1 _ _
  refine ⟨_,rfl,d.M,d.dx,_,rfl,R.obj,rfl,_,rfl,_,_,rfl,rfl,d,m,b,x+1,rfl,S,(by lia),?_⟩
  rw [hG]
  refine ⟨_,rfl,d.M,C,d.dx,_,_,rfl,S1.obj,T.cl,T.nPsh,rfl,.inl ⟨rfl,_,SqL.of S1.psh⟩,_,rfl,d.M,C,d.dx,_,_,rfl,S1.obj,T.cl,T.nLoc,rfl,_,rfl,_,rfl,d.aL,_,rfl,SqL.of S1.loc,fun p1 hp1=>?_⟩
  have hp1':p1 ∉ d.own:=S1.fresh hp1
  have S2:=S1.same (Zz0 (u:=.lst (Jq4 (g.map iv) none (some (x:Int)))) hp1)
  rw [Zq2] at S2 ⊢
  refine ⟨d.aP,p1,_,_,rfl,rfl,S2.psh,Zm0,?_,?_⟩
  ·rw [List.length_map,List.length_reverse,List.length_take,List.length_map]
   exact Nat.le_trans (show m.pushed.length+min x g.length≤65536 by lia) (by decide)
  ·have eP:List.map iv m.pushed.reverse++List.take x (List.map iv g)=((g.take x).reverse++m.pushed).reverse.map iv:=by
    rw [List.reverse_append,List.reverse_reverse,List.map_append,List.map_take]
   show Xw2 _ _ _ _ (upd (upd (upd H d.aL (.lst (g.map iv))) p1 (.lst (List.take x (List.map iv g)))) d.aP (.lst (List.map iv m.pushed.reverse++List.take x (List.map iv g))))
   rw [eP]
   have S3:=S2.setPsh ((g.take x).reverse++m.pushed)
   refine ⟨_,rfl,d.M,C,d.dx,_,_,rfl,S3.obj,T.cl,T.nPsh,rfl,.inl ⟨rfl,_,SqL.of S3.psh⟩,_,rfl,d.aP,_,_,rfl,rfl,S3.psh,?_,?_⟩
   ·rw [List.length_map,List.length_reverse,List.length_append,List.length_reverse,List.length_take]
    exact Nat.lt_of_le_of_lt (show min x g.length+m.pushed.length≤65536 by lia) (by decide)
   ·have eP2:((g.take x).reverse++m.pushed).reverse.map iv++[iv x]=(x :: ((g.take x).reverse++m.pushed)).reverse.map iv:=by
     rw [List.reverse_cons,List.map_append];rfl
    rw [eP2,Uz1]
    have S4:=S2.setPsh (x :: ((g.take x).reverse++m.pushed))
    refine ⟨_,rfl,d.M,C,d.dx,_,_,rfl,S4.obj,T.cl,T.nLoc,rfl,_,rfl,_,_,rfl,rfl,_,rfl,d.aL,_,rfl,SqL.of S4.loc,fun p2 hp2=>?_⟩
    have hp2':p2 ∉ d.own:=S4.fresh hp2
    have ec:Jq4 (g.map iv) (some ((x:Int)+1)) none=(g.drop (x+1)).map iv:=by rw [show ((x:Int)+1)=((x+1:Nat):Int) by lia,Vc6,List.map_drop]
    have S5:=S4.same (Zz0 (u:=.lst ((g.drop (x+1)).map iv)) hp2)
    dsimp only
    rw [ec]
    refine ⟨_,rfl,d.M,C,d.dx,_,rfl,S5.obj,T.cl,T.nLoc,(by show 7<1000;decide),?_⟩
    have S6:=S5.newLoc (p:=p2) (ls:=g.drop (x+1)) hp2' Zm0
    obtain ⟨ss6,hS6,lS6,gS6⟩:=S6.spc
    refine ⟨_,rfl,d.M,C,d.dx,_,_,rfl,S6.obj,T.cl,T.nBeh,rfl,_,rfl,d.M,C,d.dx,_,_,rfl,S6.obj,T.cl,T.nSpc,rfl,d.aS,_,_,4,rfl,rfl,hS6,Vt0 (n:=(List.map iv ss6).length) (j:=4) (by rw [List.length_map,lS6];decide),?_⟩
    have S7:=S6.setSpc (k:=4) (x:=b) hS6 lS6 gS6 (by decide) (fun z=>absurd z (by decide))
    rw [← Jh0] at S7
    have wfp:=Zg6 R.wf hx hf
    have hM:Zf3 m x={ m with pushed:=x :: ((g.take x).reverse++m.pushed),locals:=g.drop (x+1) }:=by unfold Zf3;rw [hG]
    rw [hM] at q wfp
    refine q _ { d with aL:=p2 } rfl (S7.rep (Jj2 wfp R.bh (by decide) (by decide)) R.bh) (Vf0.moved (fun a ha hne hH=>?_) ?_)
    ·simp [Ad.own] at ha
     obtain ⟨n1,n2,n3,n4,n5,n6,n7⟩:=ha
     have np1:a≠p1:=fun z=>hH (by rw [z];exact Um0 hp1)
     rw [Zn0 n6,Zn0 n1,Zn0 hne,Zn0 n7,Zn0 np1,Zn0 n4]
    ·exact Um0 (Um0 (Um0 hp2))
theorem Yj1:Zj0 ["machine","word","target"] ["machine","word"] (Zh0 (top 150)):=by decide +kernel
theorem Vb1:Zj0 ["machine","word","target"] ["machine","word"] (Zh0 (top 151)):=by decide +kernel
theorem Xi6 (pc n:Nat):Vt1 pc n<2^64:=Nat.mod_lt _ (by decide)
theorem Zh2 {f C:Addr}{fd:FuncData}{fc:Nat→Addr} (F:Fun K "run_push_jump" "run_push_jump" (top 150) f fd) (T:Txt K mg C) (gn:gNear P w K mg base C) (gp:FG P w K mg base "push" 2 ["machine","word"] (Yl5 C (fc 5))):FnW P w K mg base 3 f fd ["machine","word"] (Xc0 C fc fun o=>242≤o∧o<244):=by
 exists Yj1,Ya0
 obtain ⟨d,m,n,rfl,R,hn,hl,ho,q,qe'⟩:=h
 have qe:∀ e,KG m=.error e→E (.ref (fc e)) none H:=fun e he=>qe' e he H (Jf0.refl H)
 refine ⟨_,Zd0 (Zp0 (i:=2) Yj1.nd rfl (Or.inl rfl) (Zb0 gn hr Zf0 (Za0 (pv 0) (Za0 (pv 1) Zc0))))
  (Zd0 (Zx0 (Zb0 gp hr (Zs1 (E1:=E) fun _ _ z=>z) (Za0 (pv 0) (Za0 (pv 1) Zc0))))
  (Ze0 (Ue0 (pv 0) (pv 2) rfl))),?_⟩
 have st:=Vb4 hl ho.1 ho.2
 refine ⟨_,rfl,_,rfl,d,m,_,n,rfl,R,hn,?_⟩
 refine ⟨_,rfl,_,rfl,d,m,_,n,rfl,R,hn,fun hf H1 d1 e1 R1 k1=>?_,fun hf=>?_⟩
 ·rw [if_neg (by lia)] at st
  refine ⟨_,rfl,_,rfl,d1.M,C,d1.dx,_,(by rw [e1]),R1.obj,T.cl,T.nBeh,(by show 7<1000;decide),?_⟩
  have R2:=R1.setObj (pc':=m.pc) (b':=Vt1 m.pc n) R1.wf (Xi6 _ _)
  exact q _ st _ _ rfl rfl _ d1 e1 R2 (k1.trans (Vf0.upd (by simp [Ad.own])))
 ·rw [if_pos (by lia)] at st
  exact qe 5 st
theorem Vj2 {f C:Addr}{fd:FuncData}{fc:Nat→Addr} (F:Fun K "run_push_go" "run_push_go" (top 151) f fd) (T:Txt K mg C) (ga:gAddr P w K mg base C) (gp:FG P w K mg base "push" 2 ["machine","word"] (Yl5 C (fc 5))):FnW P w K mg base 4 f fd ["machine","word"] (Xc0 C fc fun o=>190≤o∧o<192):=by
 exists Vb1,Ya0
 obtain ⟨d,m,n,rfl,R,hn,hl,ho,q,qe'⟩:=h
 have qe:∀ e,KG m=.error e→E (.ref (fc e)) none H:=fun e he=>qe' e he H (Jf0.refl H)
 refine ⟨_,Zd0 (Zp0 (i:=2) Vb1.nd rfl (Or.inl rfl) (Zb0 ga hr Zf0 (Za0 (pv 0) (Za0 (pv 1) Zc0))))
  (Zd0 (Zx0 (Zb0 gp hr (Zs1 (E1:=E) fun _ _ z=>z) (Za0 (pv 0) (Za0 (pv 1) Zc0))))
  (Ze0 (Ue0 (pv 0) (pv 2) rfl))),?_⟩
 have st:=Ut3 hl ho.1 ho.2
 refine ⟨_,rfl,_,rfl,d,m,_,n,rfl,R,hn,?_⟩
 refine ⟨_,rfl,_,rfl,d,m,_,n,rfl,R,hn,fun hf H1 d1 e1 R1 k1=>?_,fun hf=>?_⟩
 ·rw [if_neg (by lia)] at st
  refine ⟨_,rfl,_,rfl,d1.M,C,d1.dx,_,(by rw [e1]),R1.obj,T.cl,T.nBeh,(by show 7<1000;decide),?_⟩
  have R2:=R1.setObj (pc':=m.pc) (b':=Vo0 m n) R1.wf (Xn0 _ _)
  exact q _ st _ _ rfl rfl _ d1 e1 R2 (k1.trans (Vf0.upd (by simp [Ad.own])))
 ·rw [if_pos (by lia)] at st
  exact qe 5 st
theorem Uj5 {α:Type} (xs:List α) (y:α):(xs++[y])[(xs++[y]).length-1]? = some y:=by
 rw [List.length_append,List.length_singleton,Nat.add_sub_cancel,List.getElem?_append_right (Nat.le_refl _),Nat.sub_self];rfl
theorem Yn4 (c:Nat) (r:List Nat):(c :: r).reverse.map iv=r.reverse.map iv++[iv c]:=by rw [List.reverse_cons,List.map_append];rfl
theorem Jx7 {r:List Nat}{j:Nat} (h:j<r.length):r.drop j=r[j] :: r.drop (j+1):=List.drop_eq_getElem_cons h
inductive Uc6 (vs:List V) (H:Hp) (Q:VK) (_:XK):Prop |mk (aP:Addr) (c:Nat) (r:List Nat) (_:vs=[.ref aP]) (_:H aP=some (.lst ((c :: r).reverse.map iv))) (_:c≤r.length) (_:r.length≤65536) (_:∀ H' p,H p=none→H' aP=some (.lst ((r.drop c).reverse.map iv))→H' p=some (.lst ((r.take c).reverse.map iv))→(∀ a,a≠aP→a≠p→H' a=H a)→Q (.ref p) H')
theorem Yk1:Zj0 ["pushed","count","back"] ["pushed"] (Zh0 (top 152)):=by decide +kernel
theorem Zi2 {f C:Addr}{fd:FuncData} (F:Fun K "pop_registers" "pop_registers" (top 152) f fd) (T:Txt K mg C):FnW P w K mg base 1 f fd ["pushed"] Uc6:=by
 exists Yk1,(by rintro vs H Q E ⟨a,c,r,rfl,_⟩;rfl)
 obtain ⟨aP,c,r,rfl,hP,hc,hr2,q⟩:=h
 have nd:=Yk1.nd
 refine ⟨_,Zd0 (Zp0 (i:=1) nd rfl (Or.inl rfl) (Xu3 PySem.F.plainAttrs_list PySem.F.slot_list_pop PySem.F.type_list_pop Ux6 (pv 0)))
  (Zd0 (Zp0 (i:=2) nd rfl (Or.inl rfl) (Vc0 Zc0))
  (Zd0 (Xr1 PassesOwn.leaving (Zt0 Ye1 (Yl0 Yu0 (by rfl) T.len PySem.boot_len (Za0 (pv 2) Zc0)) (pv 1) (Zv0 _)) (Ze0 (Zx0 (Jp3 PySem.F.plainAttrs_list PySem.F.slot_list_append PySem.F.type_list_append Xd1 (pv 2) (Za0 (Xu3 PySem.F.plainAttrs_list PySem.F.slot_list_pop PySem.F.type_list_pop Ux6 (pv 0)) Zc0)))))
  (Zd0 (Zx0 (Xu3 PySem.F.plainAttrs_list PySem.F.slot_list_reverse PySem.F.type_list_reverse Jg4 (pv 2)))
  (Ze0 (Zk0 (pv 2)))))),?_⟩
 have hP':=hP
 rw [Yn4] at hP'
 refine ⟨_,rfl,.inl ⟨rfl,_,SqL.of hP'⟩,aP,_,_,rfl,rfl,hP',Uj5 _ _,?_⟩
 rw [List.dropLast_concat]
 refine ⟨(by show 0≤sizeLine;decide),fun p hp=>?_⟩
 have hpn:p≠aP:=fun z=>by rw [z,Zm0] at hp;cases hp
 have hp0:H p=none:=Um0 hp
 simp only [Zq1,Xw2,tAsg,tC]
 refine Xm1 (fun σ H'=>∃ j:Nat,j≤c∧σ=[some (.ref aP),some (iv c),some (.ref p)]∧H' aP=some (.lst ((r.drop j).reverse.map iv))∧H' p=some (.lst ((r.take j).map iv))∧∀ a,a≠aP→a≠p→H' a=H a) (fun σ H'=>c-(match H' p with | some (.lst xs)=>xs.length | _=>0))
  ⟨0,Nat.zero_le _,rfl,by rw [Zn0 hpn.symm];exact Zm0,Zm0,fun a h1 h2=>by rw [Zn0 h2,Zn0 h1]⟩ ?_ ?_
 ·rintro σ H' ⟨j,hj,rfl,h1,h2,h3⟩
  refine ⟨_,rfl,p,_,rfl,.inl (SqL.of h2),_,rfl,_,_,rfl,rfl,_,rfl,?_⟩
  have hlen:(List.map iv (r.take j)).length=j:=by rw [List.length_map,List.length_take];lia
  rw [hlen]
  refine Xb0 (fun hd=>?_) (fun hd=>?_)
  ·have hjc:j<c:=by have:=of_decide_eq_true hd;lia
   have hjr:j<r.length:=by lia
   rw [Jx7 hjr,Yn4] at h1
   refine ⟨_,rfl,.inl ⟨rfl,_,SqL.of h2⟩,_,rfl,.inl ⟨rfl,_,SqL.of h1⟩,aP,_,_,rfl,rfl,h1,Uj5 _ _,?_⟩
   rw [List.dropLast_concat]
   refine ⟨p,_,_,rfl,rfl,(by rw [Zn0 hpn];exact h2),(by rw [hlen];exact Nat.lt_of_le_of_lt (show j≤65536 by lia) (by decide)),?_⟩
   have et:(r.take j).map iv++[iv r[j]]=(r.take (j+1)).map iv:=by
    rw [List.take_succ_eq_append_getElem hjr,List.map_append];rfl
   rw [et]
   refine ⟨⟨j+1,hjc,rfl,by rw [Zn0 hpn.symm];exact Zm0,Zm0,fun a n1 n2=>by rw [Zn0 n2,Zn0 n1];exact h3 a n1 n2⟩,?_⟩
   rw [Zm0,h2]
   show c-(List.map iv (r.take (j+1))).length<c-(List.map iv (r.take j)).length
   rw [hlen,List.length_map,List.length_take]
   lia
  ·have hjc:j=c:=by
    apply Nat.le_antisymm hj
    apply Nat.le_of_not_lt;intro z;exact hd (decide_eq_true (by lia))
   subst hjc
   refine ⟨_,rfl,.inl ⟨rfl,_,SqL.of h2⟩,p,_,rfl,rfl,h2,?_⟩
   refine ⟨_,rfl,q _ p hp0 (by rw [Zn0 hpn.symm];exact h1) (by rw [Zm0,← List.map_reverse]) fun a n1 n2=>by rw [Zn0 n2];exact h3 a n1 n2⟩
 ·rintro σ H' Q1 Q2 hm ⟨x,e1,p1,ys,e7,e8,y,e9,i1,j1,e10,e11,bb,e12,hq⟩
  exact ⟨x,e1,p1,ys,e7,e8,y,e9,i1,j1,e10,e11,bb,e12,hm _ _ hq⟩
inductive Xb3 (vs:List V) (H:Hp) (Q:VK) (_:XK):Prop |mk (aL:Addr) (ls:List Nat) (x:Nat) (_:vs=[.ref aL,iv x]) (_:H aL=some (.lst (ls.map iv))) (_:ls.length≤1000) (_:x<256) (_:∀ H' p,Jf0 H H'→H p=none→H' p=some (.lst ((Zn1 ls x).map iv))→Q (.ref p) H')
theorem Vp4:Zj0 ["local","count"] ["local","count"] (Zh0 (top 153)):=by decide +kernel
theorem Up4 {f C:Addr}{fd:FuncData} (F:Fun K "results" "results" (top 153) f fd) (T:Txt K mg C):FnW P w K mg base 1 f fd ["local","count"] Xb3:=by
 exists Vp4,(by rintro vs H Q E ⟨a,c,r,rfl,_⟩;rfl)
 obtain ⟨aL,ls,x,rfl,hL,hl,hx,q⟩:=h
 refine ⟨_,Zd0 (Yb0 (Zt0 Xj0 (pv 1) Zg0 (Zv0 _)) (Ze0 (Zk0 (Vc0 Zc0))) Zq0)
  (Zd0 (Yb0 (Zt0 Vg2 (pv 1) (Yl0 Yu0 (by rfl) T.len PySem.boot_len (Za0 (pv 0) Zc0)) (Zv0 _)) (Ze0 (Zk0 (Zl0 Yx4 (Vc0 (Za0 Zg0 Zc0)) (pv 0)))) Zq0)
  (Ze0 (Zk0 (Zl0 Yx4 (Vc0 (Za0 (Xi0 Ym0 (pv 0) (Zl0 Xe0 (pv 1) Zg0) (fun _ _=>rfl)) Zc0)) (Xu1 Jc1 (pv 0) Yp2 (Vq1 (Zl0 Xe0 (pv 1) Zg0))))))),?_⟩
 refine ⟨_,rfl,rfl,_,rfl,?_⟩
 rw [show (V.int 0)=V.int ((0:Nat):Int) from rfl,Yj0]
 unfold Zn1 at q
 refine Xb0 (fun hc=>?_) (fun hc=>?_)
 ·rw [if_pos (of_decide_eq_true hc)] at q
  exact ⟨(by show 0≤sizeLine;decide),fun p hp=>q _ p (Zz0 hp) hp Zm0⟩
 ·have h0:x≠0:=fun z=>hc (decide_eq_true z)
  rw [if_neg h0] at q
  refine ⟨_,rfl,_,rfl,aL,_,rfl,.inl (SqL.of hL),_,_,rfl,rfl,_,rfl,?_⟩
  rw [List.length_map]
  refine Xb0 (fun hd=>?_) (fun hd=>?_)
  ·have hd':ls.length<x:=by have:=of_decide_eq_true hd;lia
   rw [if_pos hd'] at q
   refine ⟨(by show 1≤sizeLine;decide),fun p1 hp1=>?_⟩
   have hL1:upd H p1 (.lst [V.int 0]) aL=some (.lst (ls.map iv)):=by rw [Zn0 (Ys0 hL hp1)];exact hL
   refine ⟨_,rfl,p1,aL,_,_,rfl,rfl,Zm0,hL1,(by rw [List.length_map];exact Nat.le_trans (show 1+ls.length≤1001 by lia) (by decide)),fun p2 hp2=>?_⟩
   exact q _ p2 ((Zz0 hp1).trans (Zz0 hp2)) (Um0 hp2) Zm0
  ·have hd':¬ ls.length<x:=fun z=>hd (decide_eq_true (by lia))
   rw [if_neg hd'] at q
   have hg:ls[x-1]? = some (ls.getD (x-1) 0):=by rw [List.getD_eq_getElem?_getD,List.getElem?_eq_getElem (by lia)];rfl
   have e1:((x:Int)-1)=((x-1:Nat):Int):=by lia
   refine ⟨_,rfl,_,rfl,_,_,rfl,rfl,aL,_,_,_,rfl,rfl,SqL.of hL,at_of e1 (by rw [List.getElem?_map,hg];rfl),(by show 1≤sizeLine;decide),fun p1 hp1=>?_⟩
   have hL1:upd H p1 (.lst [iv (ls.getD (x-1) 0)]) aL=some (.lst (ls.map iv)):=by rw [Zn0 (Ys0 hL hp1)];exact hL
   refine ⟨_,rfl,_,rfl,_,_,rfl,rfl,_,rfl,aL,_,rfl,SqL.of hL1,fun p2 hp2=>?_⟩
   dsimp only
   rw [e1,Zq2]
   have hp12:p1≠p2:=Ys0 (Zm0 (H:=H) (a:=p1) (o:=.lst [iv (ls.getD (x-1) 0)])) hp2
   refine ⟨p1,p2,_,_,rfl,rfl,(by rw [Zn0 hp12];exact Zm0),Zm0,?_,fun p3 hp3=>?_⟩
   ·rw [List.length_take,List.length_map]
    exact Nat.le_trans (show 1+min (x-1) ls.length≤1001 by lia) (by decide)
   ·refine q _ p3 (((Zz0 hp1).trans (Zz0 hp2)).trans (Zz0 hp3)) (Um0 (Um0 hp3)) ?_
    rw [Zm0,List.map_cons,List.map_take];rfl
theorem Stk.split {c:Nat}{r:List Nat} (h:Stk (c :: r)):c≤r.length∧Stk (r.drop c):=by
 cases h with
 | cons h1 h2 =>
  rename_i r0 t
  subst h1
  refine ⟨by rw [List.length_append];lia,?_⟩
  rw [List.drop_left]
  exact h2
theorem Jm5 {ls:List Nat} (h:∀ v∈ls,v<2^64) (x:Nat):∀ v∈Zn1 ls x,v<2^64:=by
 intro v hv
 unfold Zn1 at hv
 split at hv
 ·cases hv
 ·split at hv
  ·rcases List.mem_cons.mp hv with z | z
   ·rw [z];exact Nat.two_pow_pos 64
   ·exact h v z
  ·rcases List.mem_cons.mp hv with z | z
   ·rename_i h0 h1
    rw [z,List.getD_eq_getElem?_getD,List.getElem?_eq_getElem (by lia)]
    exact h _ (List.getElem_mem _)
   ·exact h v (List.mem_of_mem_take z)
theorem Ju4 (ls:List Nat) (x:Nat):(Zn1 ls x).length≤ls.length+1:=by
 unfold Zn1
 split
 ·exact Nat.zero_le _
 ·split
  ·exact Nat.le_refl _
  ·rw [List.length_cons,List.length_take];lia
theorem Zl7 {m:KM} (h:WF m) {c:Nat}{r:List Nat} (e:m.pushed=c :: r) (x:Nat):WF (Ym6 m c r x):=by
 have st:=h.stk
 rw [e] at st
 have hp:∀ v∈r,v<2^64:=fun v hv=>h.psh v (by rw [e];exact List.mem_cons_of_mem _ hv)
 refine ⟨h.pc,fun v hv=>?_,h.glo,h.spe,h.mem,h.g1,h.g2,?_,h.ra,fun v hv=>hp v (List.mem_of_mem_drop hv),st.split.2,?_⟩
 ·rcases List.mem_append.mp (List.mem_of_mem_take hv) with z | z
  ·exact hp v (List.mem_of_mem_take (List.mem_reverse.mp z))
  ·exact Jm5 h.loc x v z
 ·show (List.take (m.special 19) _).length≤300
  rw [List.length_take]
  have:=h.g2
  lia
 ·show (r.drop c).length≤65536
  have:=h.few
  rw [e,List.length_cons] at this
  rw [List.length_drop];lia
theorem Up2:Zj0 ["machine","word","left"] ["machine","word"] (Zh0 (top 154)):=by decide +kernel
theorem Ul4 {f C:Addr}{fd:FuncData}{fc:Nat→Addr} (F:Fun K "run_pop" "run_pop" (top 154) f fd) (T:Txt K mg C) (T2:Zx1 mg) (T12:Yj3 mg) (x4:ExC K (fc 4)) (m4:mg "NothingPushed" = some (.ref (fc 4))) (gx:gX P w K mg base) (gyz:gYZ P w K mg base)
  (gr:FG P w K mg base "results" 1 ["local","count"] Xb3) (gp:FG P w K mg base "pop_registers" 1 ["pushed"] Uc6):FnW P w K mg base 2 f fd ["machine","word"] (Xc0 C fc fun o=>o=248):=by
 exists Up2,Ya0
 obtain ⟨d,m,n,rfl,R,hn,hl,ho,q,qe'⟩:=h
 have qe:∀ e,KG m=.error e→E (.ref (fc e)) none H:=fun e he=>qe' e he H (Jf0.refl H)
 refine ⟨_,Zd0 (Yb0 (Zt0 Xj0 (Yl0 Yu0 (by rfl) T.len PySem.boot_len (Za0 (Yh0 (pv 0) rfl) Zc0)) Zg0 (Zv0 _)) (Ze0 (Uy0 x4 rfl m4)) Zq0)
  (Zd0 (Zp0 (i:=2) Up2.nd rfl (Or.inl rfl) (Zb0 gr hr Zf0 (Za0 (Yh0 (pv 0) rfl) (Za0 (Zb0 gx hr Zf0 (Za0 (pv 1) Zc0)) Zc0))))
  (Zd0 (Ue0 (pv 0) (Xu1 Jc1 (Zl0 Yx4 (Zb0 gp hr Zf0 (Za0 (Yh0 (pv 0) rfl) Zc0)) (pv 2)) Yp2 (Vq1 (Xi0 Ym0 (Yh0 (pv 0) rfl) (Zo0 T.rg) (fun _ _=>rfl)))) rfl)
  (Ze0 (Ue0 (pv 0) (Zl0 Yf0 (Zl0 Yy0 (Xi0 Ym0 (Yh0 (pv 0) rfl) (Zo0 T12.rj) (fun _ _=>rfl)) (Zl0 Vq0 Zg0 (Zb0 gyz hr Zf0 (Za0 (pv 1) Zc0)))) (Zo0 T2.mask)) rfl)))),?_⟩
 have st:=Zt5 hl (by lia) (by lia)
 refine ⟨_,rfl,d.M,C,d.dx,_,_,rfl,R.obj,T.cl,T.nPsh,rfl,d.aP,_,rfl,.inl (SqL.of R.psh),rfl,_,rfl,?_⟩
 rw [List.length_map,List.length_reverse,show (V.int 0)=V.int ((0:Nat):Int) from rfl,Yj0]
 have hpsh:=R.psh
 have hfew:=R.wf.few
 have hstk:=R.wf.stk
 cases ep:m.pushed with
 | nil =>
  rw [ep] at st
  exact qe 4 st
 | cons c r =>
  rw [ep] at st hpsh hfew hstk
  have hcr:=hstk.split.1
  have hrl:r.length≤65536:=by rw [List.length_cons] at hfew;lia
  rw [decide_eq_false (by rw [List.length_cons];lia)]
  refine ⟨_,rfl,d.M,C,d.dx,_,_,rfl,R.obj,T.cl,T.nLoc,rfl,_,rfl,n,rfl,hn,d.aL,m.locals,xW n,rfl,R.loc,Nat.le_trans R.wf.len (by decide),Vv0 n,fun H1 p1 s1 hp1 e1=>?_⟩
  have S1:=R.shp.same s1
  have hP1:H1 d.aP=some (.lst ((c :: r).reverse.map iv)):=s1 _ _ hpsh
  refine ⟨_,rfl,d.M,C,d.dx,_,_,rfl,S1.obj,T.cl,T.nPsh,rfl,d.aP,c,r,rfl,hP1,hcr,hrl,fun H2 p2 hp2 e2 e3 e4=>?_⟩
  have hs12:Jf0 (upd H1 d.aP (.lst ((r.drop c).reverse.map iv))) H2:=fun b o e=>by
   by_cases z:b=d.aP
   ·subst z;rw [Zm0] at e;rw [← e];exact e2
   ·rw [Zn0 z] at e
    rw [e4 b z (fun y=>by rw [y,hp2] at e;cases e)];exact e
  have S2:=(S1.setPsh (r.drop c)).same hs12
  have np1:p1≠d.aP:=fun z=>by rw [z,hpsh] at hp1;cases hp1
  have e12:H2 p1=some (.lst ((Zn1 m.locals (xW n)).map iv)):=by
   rw [e4 p1 np1 (fun z=>by rw [z,hp2] at e1;cases e1)];exact e1
  refine ⟨_,rfl,p2,p1,_,_,rfl,rfl,e3,e12,?_,fun p3 hp3=>?_⟩
  ·rw [List.length_map,List.length_map,List.length_reverse,List.length_take]
   have:=Ju4 m.locals (xW n)
   have:=R.wf.len
   exact Nat.le_trans (show min c r.length+(Zn1 m.locals (xW n)).length≤70000 by lia) (by decide)
  ·have S3:=S2.same (Zz0 (u:=.lst (List.map iv (r.take c).reverse++List.map iv (Zn1 m.locals (xW n)))) hp3)
   obtain ⟨ss,hS,lS,gS⟩:=S3.spc
   refine ⟨_,rfl,d.M,C,d.dx,_,_,rfl,S3.obj,T.cl,T.nSpc,rfl,d.aS,_,_,_,rfl,rfl,SqL.of hS,Zd1 (gS 19 (by decide)),_,rfl,p3,_,rfl,SqL.of Zm0,fun p4 hp4=>?_⟩
   rw [Zq2]
   have ecat:List.take (m.special 19) (List.map iv (r.take c).reverse++List.map iv (Zn1 m.locals (xW n)))=(Ym6 m c r (xW n)).locals.map iv:=by
    show _=List.map iv (List.take (m.special 19) ((r.take c).reverse++Zn1 m.locals (xW n)))
    rw [← List.map_append,List.map_take]
   dsimp only
   rw [ecat]
   have S4:=S3.same (Zz0 (u:=.lst ((Ym6 m c r (xW n)).locals.map iv)) hp4)
   have hp4o:p4 ∉ d.own:=S3.fresh hp4
   refine ⟨_,rfl,d.M,C,d.dx,_,rfl,S4.obj,T.cl,T.nLoc,(by show 7<1000;decide),?_⟩
   have S5:=S4.newLoc (p:=p4) (ls:=(Ym6 m c r (xW n)).locals) hp4o Zm0
   obtain ⟨ss5,hS5,lS5,gS5⟩:=S5.spc
   refine ⟨_,rfl,d.M,C,d.dx,_,_,rfl,S5.obj,T.cl,T.nSpc,rfl,d.aS,_,_,_,rfl,rfl,SqL.of hS5,Zd1 (gS5 4 (by decide)),_,rfl,n,rfl,hn,_,_,rfl,rfl,.inl ⟨by decide,by decide⟩,_,_,rfl,rfl,_,_,rfl,rfl,_,rfl,d.M,C,d.dx,_,rfl,S5.obj,T.cl,T.nBeh,(by show 7<1000;decide),?_⟩
   have S6:=S5.setBeh ((m.special 4+4*(n%65536))%2^64)
   have eb:Builtin.bitAnd ((m.special 4:Int)+4*((n%65536:Nat):Int)) 18446744073709551615=(((m.special 4+4*(n%65536))%2^64:Nat):Int):=by
    rw [Yc0];lia
   show Q .non (upd _ d.M (.ins C d.dx (Us0 "behind" (.int (Builtin.bitAnd ((m.special 4:Int)+4*((n%65536:Nat):Int)) 18446744073709551615)) _)))
   rw [eb]
   have hH2:∀ a,H2 a=none→H a=none:=fun a ha=>by
    cases ea:H a with
    | none=>rfl
    | some u =>
     have h1:=s1 _ _ ea
     by_cases z:a=d.aP
     ·rw [z,e2] at ha;cases ha
     ·by_cases y:a=p2
      ·rw [y,e3] at ha;cases ha
      ·rw [e4 a z y,h1] at ha;cases ha
   refine q _ st (Ym6 m c r (xW n)) ((m.special 4+4*(n%65536))%2^64) rfl rfl _ { d with aL:=p4 } rfl (S6.rep (Zl7 R.wf ep (xW n)) (Nat.mod_lt _ (by decide))) (Vf0.moved (fun a ha hne hH=>?_) (hH2 p4 (Um0 hp4)))
   simp [Ad.own] at ha
   obtain ⟨n1,n2,n3,n4,n5,n6,n7⟩:=ha
   have n3':a≠p3:=fun z=>hH (hH2 a (by rw [z];exact hp3))
   have n2':a≠p2:=fun z=>by
    cases ea:H a with
    | none=>exact hH ea
    | some u=>rw [z] at ea;rw [s1 _ _ ea] at hp2;cases hp2
   rw [Zn0 n1,Zn0 n1,Zn0 hne,Zn0 n3',e4 a n7 n2']
   cases ea:H a with
   | none=>exact absurd ea hH
   | some u=>exact s1 _ _ ea
def Yp1 (ws:List Nat) (v:Nat):Nat→List Nat
 | 0=>ws
 | i+1=>(Yp1 ws v i).set (v+i) 0
theorem Xl1 (ws:List Nat) (v:Nat):∀ i,(Yp1 ws v i).length=ws.length
 | 0=>rfl
 | i+1=>by show ((Yp1 ws v i).set (v+i) 0).length=_;rw [List.length_set,Xl1 ws v i]
theorem Uc2 (ws:List Nat) (v:Nat):∀ i j,j<ws.length→(Yp1 ws v i)[j]? = if v≤j∧j<v+i then some 0 else ws[j]?
 | 0,j,h=>by rw [if_neg (by lia)];rfl
 | i+1,j,h=>by
  show ((Yp1 ws v i).set (v+i) 0)[j]? = _
  by_cases e:v+i=j
  ·subst e
   rw [List.getElem?_set_self (by rw [Xl1];exact h),if_pos (by lia)]
  ·rw [List.getElem?_set_ne e,Uc2 ws v i j h]
   by_cases hc:v≤j∧j<v+i
   ·rw [if_pos hc,if_pos (by lia)]
   ·rw [if_neg hc,if_neg (by lia)]
def glob (m:KM) (v:Nat):KM:={ KU m 19 v with globals:=fun j=>if j<m.special 19 then 0 else m.globals j }
theorem Shp.setG {C:Addr}{H:Hp}{d:Ad}{m:KM}{b v:Nat}{ws ss:List Nat} (S:Shp C H d m b) (lw:ws.length=256) (gw:∀ j,m.special 19≤j→j<256→ws[j]? = some (m.globals j)) (ls:ss.length=32) (gs:∀ j,j<32→ss[j]? = some (m.special j)) :
  Shp C (upd (upd H d.aW (.lst ((Yp1 ws v (m.special 19-v)).map iv))) d.aS (.lst ((ss.set 19 v).map iv))) d (glob m v) b:=by
 obtain ⟨⟨a1,a2,a3,a4,a5,a6⟩,⟨b1,b2,b3,b4,b5⟩,⟨c1,c2,c3,c4⟩,⟨e1,e2,e3⟩,⟨f1,f2⟩,g1⟩:=S.ne
 refine ⟨by rw [Zn0 a5,Zn0 a4];exact S.obj,by rw [Zn0 b4,Zn0 b3];exact S.dxo,by rw [Zn0 c3,Zn0 c2];exact S.mem,by rw [Zn0 e2,Zn0 e1];exact S.loc,?_,?_,by rw [Zn0 g1.symm,Zn0 f2.symm];exact S.psh,S.nd⟩
 ·refine ⟨Yp1 ws v (m.special 19-v),by rw [Zn0 f1];exact Zm0,by rw [Xl1];exact lw,fun j hj h2=>?_⟩
  have hj':v≤j:=hj
  rw [Uc2 _ _ _ _ (by lia)]
  show _=some (if j<m.special 19 then 0 else m.globals j)
  by_cases hc:j<m.special 19
  ·rw [if_pos hc,if_pos (by lia)]
  ·rw [if_neg hc,if_neg (by lia)];exact gw j (by lia) h2
 ·refine ⟨ss.set 19 v,Zm0,by rw [List.length_set];exact ls,fun j hj=>?_⟩
  show _=some (if j=19 then v else m.special j)
  by_cases e:j=19
  ·subst e;rw [if_pos rfl,List.getElem?_set_self (by lia)]
  ·rw [if_neg e,List.getElem?_set_ne (fun z=>e z.symm)];exact gs j hj
theorem Zn7 {m:KM} (h:WF m) {v:Nat} (h1:32≤v) (h2:v≤255):WF (glob m v) where
 pc:=h.pc
 loc:=h.loc
 glo:=fun j=>by
  show (if j<m.special 19 then 0 else m.globals j)<_
  split
  ·exact Nat.two_pow_pos 64
  ·exact h.glo j
 spe:=fun j=>by
  show (if j=19 then v else m.special j)<_
  split
  ·exact Nat.lt_of_le_of_lt h2 (by decide)
  ·exact h.spe j
 mem:=h.mem
 g1:=h1
 g2:=h2
 len:=h.len
 ra:=h.ra
 psh:=h.psh
 stk:=h.stk
 few:=h.few
def badG (m:KM) (v:Nat):Prop:=v<32∨255<v∨v<m.locals.length
inductive Ua6 (C c3:Addr) (vs:List V) (H:Hp) (Q:VK) (E:XK):Prop |mk (d:Ad) (m:KM) (b v:Nat) (_:vs=[.ref d.M,iv v]) (_:Rep C H d m b) (_:v<2^64) (_:¬ badG m v→Ub0 C H d (glob m v) b (Q .non)) (_:badG m v→E (.ref c3) none H)
theorem Vc1:Zj0 ["machine","first","number"] ["machine","first"] (Zh0 (top 155)):=by decide +kernel
theorem Vl2 {f C c3:Addr}{fd:FuncData} (F:Fun K "put_globals" "put_globals" (top 155) f fd) (T:Txt K mg C) (T12:Yj3 mg) (x3:ExC K c3) (m3:mg "NotAllowed" = some (.ref c3)):FnW P w K mg base 1 f fd ["machine","first"] (Ua6 C c3):=by
 exists Vc1,(by rintro vs H Q E ⟨d,m,b,v,rfl,_⟩;rfl)
 obtain ⟨d,m,b,v,rfl,R,hv,q1,q2⟩:=h
 have nd:=Vc1.nd
 refine ⟨_,Zd0 (Yb0 (PW.pt (Yz1 (Zt0 Ye1 (pv 1) Zg0 (Zv0 _)) (Yz1 (Zt0 Vg2 (pv 1) Zg0 (Zv0 _)) (Zi1 (Zt0 Ye1 (pv 1) (Yl0 Yu0 (by rfl) T.len PySem.boot_len (Za0 (Yh0 (pv 0) rfl) Zc0)) (Zv0 _)))))) (Ze0 (Uy0 x3 rfl m3)) Zq0)
  (Zd0 (Jx1 PassesOwn.leaving rfl (Xs3 rfl T12.range (Za0 (pv 1) (Za0 (Xi0 Ym0 (Yh0 (pv 0) rfl) (Zo0 T.rg) (fun _ _=>rfl)) Zc0))) (Jz0 (i:=2) nd rfl (Or.inl rfl)) (Ze0 (Ji0 Zg0 (Jj0 (Yh0 (pv 0) rfl) (pv 2) Xs0))))
  (Ze0 (Ji0 (pv 1) (Jj0 (Yh0 (pv 0) rfl) (Zo0 T.rg) Xs0)))),?_⟩
 simp only [Uc1,Zq1,Xw2,Ui3]
 refine Uh3 (a:=decide (v<32)) (b:=decide (255<v) || decide (v<m.locals.length)) (fun Q' q'=>⟨_,rfl,_,_,rfl,rfl,_,rfl,?_⟩) (fun Q' q'=>Uh3 (a:=decide (255<v)) (b:=decide (v<m.locals.length)) (fun Q' q'=>⟨_,rfl,_,_,rfl,rfl,_,rfl,?_⟩) (fun Q' q'=>⟨_,rfl,_,rfl,d.M,C,d.dx,_,_,rfl,R.obj,T.cl,T.nLoc,rfl,d.aL,_,rfl,.inl (SqL.of R.loc),_,_,rfl,rfl,_,rfl,?_⟩) q') ?_
 ·rw [show decide ((v:Int)<32)=decide (v<32) from decide_eq_decide.mpr (by lia)];exact q'
 ·rw [show decide ((255:Int)<(v:Int))=decide (255<v) from decide_eq_decide.mpr (by lia)];exact q'
 ·rw [List.length_map,show decide ((v:Int)<(m.locals.length:Int))=decide (v<m.locals.length) from decide_eq_decide.mpr (by lia)];exact q'
 ·refine Xb0 (fun hc=>?_) (fun hc=>?_)
  ·refine q2 ?_
   simp only [Bool.or_eq_true,decide_eq_true_eq] at hc
   exact hc
  ·have nb:¬ badG m v:=fun z=>hc (by simp only [Bool.or_eq_true,decide_eq_true_eq];exact z)
   have q:=q1 nb
   have h32:32≤v∧v≤255:=by
    constructor
    ·apply Nat.le_of_not_lt;intro z;exact nb (.inl z)
    ·apply Nat.le_of_not_lt;intro z;exact nb (.inr (.inl z))
   obtain ⟨ss,hS,lS,gS⟩:=R.spc
   obtain ⟨ws,hW,lW,gW⟩:=R.wid
   have hg2:=R.wf.g2
   have S:=R.shp
   obtain ⟨⟨a1,a2,a3,a4,a5,a6⟩,⟨b1,b2,b3,b4,b5⟩,⟨c1,c2,c3',c4⟩,⟨e1,e2,e3⟩,⟨f1,f2⟩,g1⟩:=S.ne
   refine ⟨_,rfl,_,rfl,d.M,C,d.dx,_,_,rfl,R.obj,T.cl,T.nSpc,rfl,d.aS,_,_,_,rfl,rfl,SqL.of hS,Zd1 (gS 19 (by decide)),_,_,rfl,⟨by lia,by lia,by lia,by lia⟩,?_⟩
   have en:(((m.special 19:Nat):Int)-(v:Int)).toNat=m.special 19-v:=by lia
   rw [en]
   refine Zv1 (n:=m.special 19-v) (fun i σ H'=>∃ x,σ=[some (.ref d.M),some (iv v),x]∧H'=upd H d.aW (.lst ((Yp1 ws v i).map iv))) ⟨none,rfl,(Vp6 hW).symm⟩ ?_ ?_
   ·rintro i σ H' hi ⟨x,rfl,rfl⟩
    have hM:upd H d.aW (.lst ((Yp1 ws v i).map iv)) d.M=some (.ins C d.dx (mf d.aM d.aL d.aW d.aS d.aP m.pc b)):=by rw [Zn0 a4];exact R.obj
    have ei:((v:Int)+(i:Int))=((v+i:Nat):Int):=by lia
    rw [ei]
    refine ⟨_,rfl,d.M,C,d.dx,_,_,rfl,hM,T.cl,T.nWid,rfl,_,rfl,d.aW,_,_,v+i,rfl,rfl,Zm0,Vt0 (by rw [List.length_map,Xl1,lW];lia),?_⟩
    refine ⟨_,rfl,?_⟩
    rw [Uz1,show (V.int 0)=iv 0 from rfl,Jh0];rfl
   ·rintro σ H' ⟨x,rfl,rfl⟩
    have hM:upd H d.aW (.lst ((Yp1 ws v (m.special 19-v)).map iv)) d.M=some (.ins C d.dx (mf d.aM d.aL d.aW d.aS d.aP m.pc b)):=by rw [Zn0 a4];exact R.obj
    have hS':upd H d.aW (.lst ((Yp1 ws v (m.special 19-v)).map iv)) d.aS=some (.lst (ss.map iv)):=by rw [Zn0 f1.symm];exact hS
    refine ⟨_,rfl,_,rfl,d.M,C,d.dx,_,_,rfl,hM,T.cl,T.nSpc,rfl,d.aS,_,_,19,rfl,rfl,hS',Vt0 (n:=(List.map iv ss).length) (j:=19) (by rw [List.length_map,lS];decide),?_⟩
    have S2:=S.setG (v:=v) lW gW lS gS
    rw [← Jh0] at S2
    exact q _ d rfl (S2.rep (Zn7 R.wf h32.1 h32.2) R.bh) ((Vf0.upd (by simp [Ad.own])).trans (Vf0.upd (by simp [Ad.own])))
theorem Us3 {m:KM}{n:Nat} (hl:KI m m.pc 4=.ok n) (h1:246≤opW n) (h2:opW n<248) (h:yW n≠0∨(8≤xW n∧xW n≤18)∨32≤xW n):KG m=.error 3:=by
 rw [Yq1 hl h1 h2]
 by_cases hy:yW n≠0
 ·rw [if_pos hy]
 ·rw [if_neg hy]
  have h':=h.resolve_left hy
  have:Kg22.step.put { m with pc:=(m.pc+4)%2^64 } (xW n) (zvW m n)=.error 3:=by
   unfold Kg22.step.put
   rw [if_neg (by show ¬ xW n=20;lia),if_neg (by show ¬ xW n=19;lia),if_neg (by show ¬ xW n=21;lia),if_pos h']
  rw [this];rfl
theorem Up3 {m:KM}{n:Nat} (hl:KI m m.pc 4=.ok n) (h1:246≤opW n) (h2:opW n<248) (hy:yW n=0) (hx:xW n=20) :
  KG m=.ok ({ m with pc:=(m.pc+4)%2^64,locals:=m.locals.take (min (zvW m n) m.locals.length) },0):=by
 rw [Yq1 hl h1 h2,if_neg (by lia),hx];rfl
theorem Uq3 {m:KM}{n:Nat} (hl:KI m m.pc 4=.ok n) (h1:246≤opW n) (h2:opW n<248) (hy:yW n=0) (hx:xW n=19) :
  (badG m (zvW m n)→KG m=.error 3)∧(¬ badG m (zvW m n)→KG m=.ok ({ glob m (zvW m n) with pc:=(m.pc+4)%2^64 },0)):=by
 rw [Yq1 hl h1 h2,if_neg (by lia),hx]
 show (_→(if zvW m n<32∨255<zvW m n∨zvW m n<m.locals.length then Except.error 3 else _).bind _=_)∧(_→(if zvW m n<32∨255<zvW m n∨zvW m n<m.locals.length then Except.error 3 else _).bind _=_)
 constructor
 ·intro h;rw [if_pos (show zvW m n<32∨255<zvW m n∨zvW m n<m.locals.length from h)];rfl
 ·intro h;rw [if_neg (show ¬ (zvW m n<32∨255<zvW m n∨zvW m n<m.locals.length) from h)];rfl
theorem Ur3 {m:KM}{n:Nat} (hl:KI m m.pc 4=.ok n) (h1:246≤opW n) (h2:opW n<248) (hy:yW n=0) (hx:xW n=21) :
  (badA (zvW m n)→KG m=.error 3)∧(¬ badA (zvW m n)→KG m=.ok ({ KU m 21 (zvW m n) with pc:=(m.pc+4)%2^64 },0)):=by
 rw [Yq1 hl h1 h2,if_neg (by lia),hx]
 show (_→(if 2^18≤zvW m n∨zvW m n/256%256≠0 then Except.error 3 else _).bind _=_)∧(_→(if 2^18≤zvW m n∨zvW m n/256%256≠0 then Except.error 3 else _).bind _=_)
 constructor
 ·intro h;rw [if_pos (show 2^18≤zvW m n∨zvW m n/256%256≠0 from h)];rfl
 ·intro h;rw [if_neg (show ¬ (2^18≤zvW m n∨zvW m n/256%256≠0) from h)];rfl
theorem Uo3 {m:KM}{n:Nat} (hl:KI m m.pc 4=.ok n) (h1:246≤opW n) (h2:opW n<248) (hy:yW n=0) (h19:xW n≠19) (h20:xW n≠20) (h21:xW n≠21) (h:¬ ((8≤xW n∧xW n≤18)∨32≤xW n)) :
  KG m=.ok ({ KU m (xW n) (zvW m n) with pc:=(m.pc+4)%2^64 },0):=by
 rw [Yq1 hl h1 h2,if_neg (by lia)]
 have:Kg22.step.put { m with pc:=(m.pc+4)%2^64 } (xW n) (zvW m n)=.ok { KU m (xW n) (zvW m n) with pc:=(m.pc+4)%2^64 }:=by
  unfold Kg22.step.put
  rw [if_neg (show ¬ xW n=Kg22.rL from h20),if_neg (show ¬ xW n=Kg22.rG from h19),if_neg (show ¬ xW n=Kg22.rA from h21),if_neg h];rfl
 rw [this];rfl
theorem Uo2:Zj0 ["machine","word","number","value"] ["machine","word"] (Zh0 (top 157)):=by decide +kernel
theorem Uk4 {f C:Addr}{fd:FuncData}{fc:Nat→Addr} (F:Fun K "run_put" "run_put" (top 157) f fd) (T:Txt K mg C) (T2:Zx1 mg) (T12:Yj3 mg) (x3:ExC K (fc 3)) (m3:mg "NotAllowed" = some (.ref (fc 3))) (gx:gX P w K mg base) (gy:gY P w K mg base) (gs:gSecond P w K mg base C)
  (gg:FG P w K mg base "put_globals" 1 ["machine","first"] (Ua6 C (fc 3))) (ga:FG P w K mg base "put_arithmetic" 1 ["machine","value"] (Ub6 C (fc 3))):FnW P w K mg base 3 f fd ["machine","word"] (Xc0 C fc fun o=>246≤o∧o<248):=by
 exists Uo2,Ya0
 obtain ⟨d,m,n,rfl,R,hn,hl,ho,q,qe'⟩:=h
 have qe:∀ e,KG m=.error e→E (.ref (fc e)) none H:=fun e he=>qe' e he H (Jf0.refl H)
 have nd:=Uo2.nd
 refine ⟨_,Zd0 (Zp0 (i:=2) nd rfl (Or.inl rfl) (Zb0 gx hr Zf0 (Za0 (pv 1) Zc0)))
  (Zd0 (Zp0 (i:=3) nd rfl (Or.inl rfl) (Zb0 gs hr Zf0 (Za0 (pv 0) (Za0 (pv 1) Zc0))))
  (Zd0 (Yb0 (PW.pt (Yz1 (Zt0 Vd5 (Zb0 gy hr Zf0 (Za0 (pv 1) Zc0)) Zg0 (Zv0 _)) (Yz1 (Yl6 Jq3 Jq3 Zg0 (pv 2) Zg0) (Zi1 (Zt0 Zh3 (pv 2) Zg0 (Zv0 _)))))) (Ze0 (Uy0 x3 rfl m3)) Zq0)
  (Ze0 (Yb0 (Zt0 Xj0 (pv 2) (Zo0 T.rg) (Zv0 _)) (Ze0 (Zx0 (Zb0 gg hr (Zs1 (E1:=E) fun _ _ z=>z) (Za0 (pv 0) (Za0 (pv 3) Zc0)))))
   (Ze0 (Yb0 (Zt0 Xj0 (pv 2) (Zo0 T2.rl) (Zv0 _)) (Ze0 (Ue0 (pv 0) (Xu1 Jc1 (Yh0 (pv 0) rfl) Yp2 (Vq1 (Yl0 (Zc1 rfl) (by rfl) T12.min PyProof.Rows.boot_min (Za0 (pv 3) (Za0 (Yl0 Yu0 (by rfl) T.len PySem.boot_len (Za0 (Yh0 (pv 0) rfl) Zc0)) Zc0))))) rfl))
    (Ze0 (Yb0 (Zt0 Xj0 (pv 2) (Zo0 T2.ra) (Zv0 _)) (Ze0 (Zx0 (Zb0 ga hr (Zs1 (E1:=E) fun _ _ z=>z) (Za0 (pv 0) (Za0 (pv 3) Zc0)))))
     (Ze0 (Ji0 (pv 3) (Jj0 (Yh0 (pv 0) rfl) (pv 2) Xs0))))))))))),?_⟩
 refine ⟨_,rfl,n,rfl,hn,_,rfl,_,rfl,d,m,_,n,rfl,R,hn,?_⟩
 have hv:zvW m n<2^64:=Xz1 R.wf n
 have hx:=Vv0 n
 simp only [Uc1,Zq1,Xw2,Ui3]
 refine Uh3 (a:=decide (yW n≠0)) (b:=decide (8≤xW n∧xW n≤18) || decide (32≤xW n)) (fun Q' q'=>⟨_,rfl,n,rfl,hn,rfl,_,rfl,?_⟩) (fun Q' q'=>Uh3 (a:=decide (8≤xW n∧xW n≤18)) (b:=decide (32≤xW n)) (fun Q' q'=>?_) (fun Q' q'=>⟨_,rfl,_,_,rfl,rfl,_,rfl,?_⟩) q') ?_
 ·rw [show (V.int 0)=V.int ((0:Nat):Int) from rfl,Yj0]
  rw [show (!decide (yW n=0))=decide (yW n≠0) from (decide_not).symm];exact q'
 ·refine ⟨_,rfl,_,_,rfl,rfl,_,rfl,?_⟩
  by_cases h8:8≤xW n
  ·rw [decide_eq_true (show (8:Int)≤((xW n:Nat):Int) by lia)]
   refine ⟨_,_,rfl,rfl,_,rfl,?_⟩
   rw [show decide (((xW n:Nat):Int)≤18)=decide (8≤xW n∧xW n≤18) from decide_eq_decide.mpr (by lia)]
   exact q'
  ·rw [decide_eq_false (show ¬ (8:Int)≤((xW n:Nat):Int) by lia)]
   rw [decide_eq_false (show ¬ (8≤xW n∧xW n≤18) by lia)] at q'
   exact ⟨_,rfl,q'⟩
 ·rw [show decide ((32:Int)≤((xW n:Nat):Int))=decide (32≤xW n) from decide_eq_decide.mpr (by lia)];exact q'
 ·refine Xb0 (fun hc=>?_) (fun hc=>?_)
  ·simp only [Bool.or_eq_true,decide_eq_true_eq] at hc
   exact qe 3 (Us3 hl ho.1 ho.2 hc)
  ·have hc':¬ (yW n≠0∨(8≤xW n∧xW n≤18)∨32≤xW n):=fun z=>hc (by simp only [Bool.or_eq_true,decide_eq_true_eq];exact z)
   have hy:yW n=0:=by
    apply Classical.byContradiction;intro z;exact hc' (.inl z)
   have hr8:¬ ((8≤xW n∧xW n≤18)∨32≤xW n):=fun z=>hc' (.inr z)
   refine ⟨_,rfl,rfl,_,rfl,?_⟩
   rw [show (V.int 19)=V.int ((19:Nat):Int) from rfl,Yj0]
   refine Xb0 (fun h19=>?_) (fun h19=>?_)
   ·have h19':=of_decide_eq_true h19
    have st:=Uq3 hl ho.1 ho.2 hy h19'
    refine ⟨_,rfl,_,rfl,d,m,_,zvW m n,rfl,R,hv,fun hb=>?_,fun hb=>qe 3 (st.1 hb)⟩
    exact q _ (st.2 hb) (glob m (zvW m n)) _ rfl rfl
   ·have h19':xW n≠19:=fun z=>h19 (decide_eq_true z)
    refine ⟨_,rfl,rfl,_,rfl,?_⟩
    rw [show (V.int 20)=V.int ((20:Nat):Int) from rfl,Yj0]
    refine Xb0 (fun h20=>?_) (fun h20=>?_)
    ·have h20':=of_decide_eq_true h20
     have st:=Up3 hl ho.1 ho.2 hy h20'
     refine ⟨_,rfl,d.M,C,d.dx,_,_,rfl,R.obj,T.cl,T.nLoc,rfl,_,rfl,_,rfl,d.M,C,d.dx,_,_,rfl,R.obj,T.cl,T.nLoc,rfl,d.aL,_,rfl,.inl (SqL.of R.loc),_,_,rfl,_,rfl,d.aL,_,rfl,SqL.of R.loc,fun p hp=>?_⟩
     have emin:(if ((List.map iv m.locals).length:Int)<((zvW m n:Nat):Int) then ((List.map iv m.locals).length:Int) else ((zvW m n:Nat):Int))=((min (zvW m n) m.locals.length:Nat):Int):=by
      rw [List.length_map]
      split <;> lia
     rw [emin,Zq2]
     have S:=R.shp
     have S1:=S.same (Zz0 (u:=.lst (List.take (min (zvW m n) m.locals.length) (List.map iv m.locals))) hp)
     refine ⟨_,rfl,d.M,C,d.dx,_,rfl,S1.obj,T.cl,T.nLoc,(by show 7<1000;decide),?_⟩
     have S2:=S1.newLoc (p:=p) (ls:=m.locals.take (min (zvW m n) m.locals.length)) (S.fresh hp) (by rw [List.map_take];exact Zm0)
     refine q _ st { m with locals:=m.locals.take (min (zvW m n) m.locals.length) } _ rfl rfl _ { d with aL:=p } rfl (S2.rep (R.wf.setLoc (fun v hv=>R.wf.loc v (List.mem_of_mem_take hv)) ?_) R.bh) (Vf0.moved (fun a ha hne hH=>?_) hp)
     ·rw [List.length_take]
      have:=R.wf.len
      lia
     ·simp [Ad.own] at ha
      rw [Zn0 ha.1,Zn0 hne]
    ·have h20':xW n≠20:=fun z=>h20 (decide_eq_true z)
     refine ⟨_,rfl,rfl,_,rfl,?_⟩
     rw [show (V.int 21)=V.int ((21:Nat):Int) from rfl,Yj0]
     refine Xb0 (fun h21=>?_) (fun h21=>?_)
     ·have h21':=of_decide_eq_true h21
      have st:=Ur3 hl ho.1 ho.2 hy h21'
      refine ⟨_,rfl,_,rfl,d,m,_,zvW m n,rfl,R,hv,fun hb=>?_,fun hb=>qe 3 (st.1 hb)⟩
      exact q _ (st.2 hb) (KU m 21 (zvW m n)) _ rfl rfl
     ·have h21':xW n≠21:=fun z=>h21 (decide_eq_true z)
      have st:=Uo3 hl ho.1 ho.2 hy h19' h20' h21' hr8
      obtain ⟨ss,hS,lS,gS⟩:=R.spc
      have hx32:xW n<32:=by lia
      refine ⟨_,rfl,_,rfl,d.M,C,d.dx,_,_,rfl,R.obj,T.cl,T.nSpc,rfl,_,rfl,d.aS,_,_,xW n,rfl,rfl,hS,Vt0 (by rw [List.length_map,lS];exact hx32),?_⟩
      have R':=R.setSpc (k:=xW n) (x:=zvW m n) hx32 hS lS gS (Jj2 R.wf hv h19' h21') h19'
      rw [← Jh0] at R'
      exact q _ st (KU m (xW n) (zvW m n)) _ rfl rfl _ d rfl R' (Vf0.upd (by simp [Ad.own]))
abbrev Row:=Int×Int×Nat
noncomputable def Jj3:List Row:=[(1,4,1),(5,5,2),(6,6,1),(7,7,2),(8,15,3),(16,16,1),(20,20,1),(21,21,2),(22,22,1),(23,23,2),(24,63,4),(64,95,5),(96,111,6),(112,127,7),(128,143,8),(144,151,9),(154,157,10),(158,159,11),(160,175,12),(176,183,9),(184,189,10),(190,191,13),(192,223,14),(224,239,15),(240,241,16),(242,243,17),(244,245,18),(246,247,19),(248,248,20),(252,253,10),(254,254,21)]
structure Runs (mg:Str→Option Value) (fa:Nat→Addr):Prop where
 r0:mg "run_missing" = some (.ref (fa 0))
 r1:mg "run_floating" = some (.ref (fa 1))
 r2:mg "run_fix" = some (.ref (fa 2))
 r3:mg "run_float" = some (.ref (fa 3))
 r4:mg "run_whole" = some (.ref (fa 4))
 r5:mg "run_branch" = some (.ref (fa 5))
 r6:mg "run_conditional_set" = some (.ref (fa 6))
 r7:mg "run_zero_or_set" = some (.ref (fa 7))
 r8:mg "run_load" = some (.ref (fa 8))
 r9:mg "run_other_storage" = some (.ref (fa 9))
 r10:mg "run_nothing" = some (.ref (fa 10))
 r11:mg "run_go" = some (.ref (fa 11))
 r12:mg "run_store" = some (.ref (fa 12))
 r13:mg "run_push_go" = some (.ref (fa 13))
 r14:mg "run_bits" = some (.ref (fa 14))
 r15:mg "run_constant" = some (.ref (fa 15))
 r16:mg "run_jump" = some (.ref (fa 16))
 r17:mg "run_push_jump" = some (.ref (fa 17))
 r18:mg "run_target" = some (.ref (fa 18))
 r19:mg "run_put" = some (.ref (fa 19))
 r20:mg "run_pop" = some (.ref (fa 20))
 r21:mg "run_get" = some (.ref (fa 21))
def tRow (fa:Nat→Addr) (r:Row):TE:=tTup (Yv3 (tC (.int r.1)) (Yv3 (tC (.int r.2.1)) (Yv3 (tC (.ref (fa r.2.2))) Jv5)))
def Vs6 (fa:Nat→Addr):List Row→TA
 | []=>Jv5
 | r :: rs=>Yv3 (tRow fa r) (Vs6 fa rs)
@[irreducible] def Jn2 (fa:Nat→Addr) (l:List Row):TA:=Vs6 fa l
theorem Yu3 (fa:Nat→Addr):Jn2 fa []=Jv5:=by unfold Jn2;rfl
theorem Ug2 (fa:Nat→Addr) (r:Row) (rs:List Row):Jn2 fa (r :: rs)=Yv3 (tRow fa r) (Jn2 fa rs):=by unfold Jn2;rfl
inductive Yo1 (fa:Nat→Addr) (H:Hp):List Addr→List Row→Prop
 | nil:Yo1 fa H [] []
 | cons {t:Addr}{r:Row}{ts:List Addr}{rs:List Row}:H t=some (.tup [.int r.1,.int r.2.1,.ref (fa r.2.2)])→Yo1 fa H ts rs→Yo1 fa H (t :: ts) (r :: rs)
theorem Yo1.len {fa:Nat→Addr}{H:Hp}:∀ {ts:List Addr}{rs:List Row},Yo1 fa H ts rs→ts.length=rs.length
 | _,_,.nil=>rfl
 | _,_,.cons _ h=>by rw [List.length_cons,List.length_cons,h.len]
theorem Yo1.same {fa:Nat→Addr}{H H':Hp} (s:Jf0 H H'):∀ {ts:List Addr}{rs:List Row},Yo1 fa H ts rs→Yo1 fa H' ts rs
 | _,_,.nil=>.nil
 | _,_,.cons e h=>.cons (s _ _ e) (h.same s)
theorem Yo1.get {fa:Nat→Addr}{H:Hp}:∀ {ts:List Addr}{rs:List Row}{i:Nat}{t:Addr},Yo1 fa H ts rs→ts[i]? = some t→∃ r,rs[i]? = some r∧H t=some (.tup [.int r.1,.int r.2.1,.ref (fa r.2.2)])
 | _,_,_,_,.nil,h=>by cases h
 | _,_,0,_,.cons e h,q=>by
  have:=Option.some.inj q
  subst this
  exact ⟨_,rfl,e⟩
 | _,_,i+1,_,.cons e h,q=>h.get (i:=i) q
theorem Xo5 {fa:Nat→Addr}:∀ (rows:List Row) (σ:L2.St) (H:Hp) (Q:List V→Hp→Prop),(∀ H' ts,Jf0 H H'→Yo1 fa H' ts rows→Q (ts.map V.ref) H')→Jn2 fa rows σ H Q
 | [],σ,H,Q,h=>by rw [Yu3];exact h H [] (Jf0.refl H) .nil
 | r :: rs,σ,H,Q,h=>by
  rw [Ug2]
  refine ⟨(by show 3≤sizeLine;decide),fun p hp=>?_⟩
  refine Xo5 rs σ _ _ fun H' ts s' ra=>?_
  exact h H' (p :: ts) ((Zz0 hp).trans s') (.cons (s' _ _ Zm0) ra)
section
variable {X:Cx}{E:XK}{x:Str}{k L:Nat}{ps:List Str}{sp:Sp}{p pos:Pos}
theorem Xt3 (g:FG X.prog X.w X.K X.mg X.base x k ps sp) (hr:Ua1 L X.A) (hx:Jn0 (CXW X.prog X.w) X E) (hk:k≤L:=by decide) (hg:Gl X x:=by rfl) (hdb:(x == ("__debug__" : Str))=false:=by decide):PE X (.Call (.Name x p) [] [] pos) (Zl5 sp [] E Jv5):=by
 obtain ⟨f,fd,hm,kp,hb,F⟩:=g
 exact Yp6 F (hr.mono hk) hg hm kp hb .nil hx hdb
end
theorem st_tup {es es':List Expr}{k:Nat}{pos:Pos}{env:Env}:starEach (Expr.Tuple es' k pos :: es) env=(false,eval (Expr.Tuple es' k pos) env) :: starEach es env:=by rfl
theorem Xp0 {X:Cx}{fa:Nat→Addr}{a b:Int}{i j1 j2 k:Nat}{x:Str}{p1 p2 p3 pos:Pos}{es:List Expr}{rs:List Row} (hm:X.mg x=some (.ref (fa i))) (h:PA X es (Jn2 fa rs)) (hg:Gl X x:=by rfl) (hd:(x == ("__debug__" : Str))=false:=by decide) :
  PA X (Expr.Tuple [.Constant (.int a) j1 p1,.Constant (.int b) j2 p2,.Name x p3] k pos :: es) (Jn2 fa ((a,b,i) :: rs)):=by
 rw [Ug2]
 exact Za0 (Um1 (Za0 Zg0 (Za0 Zg0 (Za0 (Za1 (v:=.ref (fa i)) hg hm rfl hd) Zc0)))) h st_tup
@[irreducible] def Xd7:List Expr:=match Vm0 (top 199) with
 | [_,.Return (some (.List es _)) _]=>es
 | [.Return (some (.List es _)) _]=>es
 | _=>[]
inductive Ye4 (fa:Nat→Addr) (vs:List V) (H:Hp) (Q:VK) (_:XK):Prop |mk (_:vs=[]) (_:∀ H' p ts,Jf0 H H'→H p=none→Yo1 fa H' ts Jj3→H' p=some (.lst (ts.map V.ref))→Q (.ref p) H')
theorem Yy5:Zj0 [] [] (Zh0 (top 199)):=by decide +kernel
theorem pa_all {f:Addr}{fa:Nat→Addr}{cdv:Value}{A:Around}{outer:List Env}{s:Shared}{H:Hp}{E:XK} (U:Runs mg fa):PA (Yd3 P w K mg base [] "ranges" (Zh0 (top 199)) f cdv A outer s H E) Xd7 (Jn2 fa Jj3):=by
 unfold Xd7
 refine Xp0 U.r1 ?_
 refine Xp0 U.r2 ?_
 refine Xp0 U.r1 ?_
 refine Xp0 U.r2 ?_
 refine Xp0 U.r3 ?_
 refine Xp0 U.r1 ?_
 refine Xp0 U.r1 ?_
 refine Xp0 U.r2 ?_
 refine Xp0 U.r1 ?_
 refine Xp0 U.r2 ?_
 refine Xp0 U.r4 ?_
 refine Xp0 U.r5 ?_
 refine Xp0 U.r6 ?_
 refine Xp0 U.r7 ?_
 refine Xp0 U.r8 ?_
 refine Xp0 U.r9 ?_
 refine Xp0 U.r10 ?_
 refine Xp0 U.r11 ?_
 refine Xp0 U.r12 ?_
 refine Xp0 U.r9 ?_
 refine Xp0 U.r10 ?_
 refine Xp0 U.r13 ?_
 refine Xp0 U.r14 ?_
 refine Xp0 U.r15 ?_
 refine Xp0 U.r16 ?_
 refine Xp0 U.r17 ?_
 refine Xp0 U.r18 ?_
 refine Xp0 U.r19 ?_
 refine Xp0 U.r20 ?_
 refine Xp0 U.r10 ?_
 refine Xp0 U.r21 ?_
 rw [Yu3];exact Zc0
def Us6:Pos×Pos:=match Vm0 (top 199) with
 | [.Return (some (.List _ p)) q]=>(p,q)
 | _=>(⟨0,0,0,0⟩,⟨0,0,0,0⟩)
theorem Jk5:Vm0 (top 199)=[.Return (some (.List Xd7 Us6.1)) Us6.2]:=by kernel_rfl
theorem Vm5 {f:Addr}{fd:FuncData}{fa:Nat→Addr} (F:Fun K "ranges" "ranges" (top 199) f fd) (U:Runs mg fa):FnW P w K mg base 1 f fd [] (Ye4 fa):=by
 exists Yy5,(by rintro vs H Q E ⟨rfl,_⟩;rfl)
 obtain ⟨rfl,q⟩:=h
 rw [Jk5]
 refine ⟨_,Ze0 (Zk0 (Vc0 (pa_all U))),?_⟩
 have key:=Xo5 (fa:=fa) Jj3 (L2.start [] []) H (fun xs H1=>xs.length≤sizeLine∧∀ p,H1 p=none→Q (.ref p) (upd H1 p (.lst xs))) fun H' ts s' ra=>by
  refine ⟨(by rw [List.length_map,ra.len];show 31≤sizeLine;decide),fun p hp=>?_⟩
  exact q _ p ts (s'.trans (Zz0 hp)) (s'.free hp) (ra.same (Zz0 hp)) Zm0
 exact key
def Vy3 (t:List Nat) (lo:Nat) (i:Nat):Nat→List Nat
 | 0=>t
 | j+1=>(Vy3 t lo i j).set (lo+j) i
theorem Jm1 (t:List Nat) (lo i:Nat):∀ j,(Vy3 t lo i j).length=t.length
 | 0=>rfl
 | j+1=>by show ((Vy3 t lo i j).set (lo+j) i).length=_;rw [List.length_set,Jm1 t lo i j]
def Zq4 (t:List Nat) (r:Row):List Nat:=Vy3 t r.1.toNat r.2.2 (r.2.1+1-r.1).toNat
noncomputable def Zv2 (n:Nat):List Nat:=(Jj3.take n).foldl Zq4 (List.replicate 256 0)
noncomputable def Zp7:List Nat:=Zv2 31
theorem Xy4 {i:Nat}{r:Row} (h:Jj3[i]? = some r):Zv2 (i+1)=Zq4 (Zv2 i) r:=by
 unfold Zv2
 rw [List.take_succ,h,List.foldl_append];rfl
theorem Yt3 (n:Nat):(Zv2 n).length=256:=by
 unfold Zv2
 generalize Jj3.take n=l
 have:∀ (l:List Row) (t:List Nat),(l.foldl Zq4 t).length=t.length:=by
  intro l
  induction l with
  | nil=>intro t;rfl
  | cons r l ih=>intro t;rw [List.foldl_cons,ih];exact Jm1 _ _ _ _
 rw [this,List.length_replicate]
theorem Ud4:∀ r∈Jj3,0≤r.1∧r.1≤r.2.1∧r.2.1<256:=by decide
abbrev fv (fa:Nat→Addr) (i:Nat):V:=.ref (fa i)
theorem rep_fv (fa:Nat→Addr) (n:Nat):(List.replicate n [fv fa 0]).flatten=(List.replicate n 0).map (fv fa):=by
 induction n with
 | zero=>rfl
 | succ n ih=>rw [List.replicate_succ,List.replicate_succ,List.flatten_cons,ih];rfl
theorem set_fv (fa:Nat→Addr) (ws:List Nat) (j x:Nat):(ws.map (fv fa)).set j (fv fa x)=(ws.set j x).map (fv fa):=List.map_set.symm
inductive Yj5 (fa:Nat→Addr) (vs:List V) (H:Hp) (Q:VK) (_:XK):Prop |mk (_:vs=[]) (_:∀ H' p,Jf0 H H'→H p=none→H' p=some (.lst (Zp7.map (fv fa)))→Q (.ref p) H')
theorem Yf2:Zj0 ["table","first","last","work","op"] [] (Zh0 (top 200)):=by decide +kernel
theorem Jx3 {f:Addr}{fd:FuncData}{fa:Nat→Addr} (F:Fun K "op_table" "op_table" (top 200) f fd) (U:Runs mg fa) (T12:Yj3 mg) (gr:FG P w K mg base "ranges" 1 [] (Ye4 fa)):FnW P w K mg base 2 f fd [] (Yj5 fa):=by
 exists Yf2,(by rintro vs H Q E ⟨rfl,_⟩;rfl)
 obtain ⟨rfl,q⟩:=h
 have nd:=Yf2.nd
 refine ⟨_,Zd0 (Zp0 (i:=0) nd rfl (Or.inl rfl) (Zl0 Vc5 (Vc0 (Za0 (Za1 (v:=.ref (fa 0)) rfl U.r0 rfl) Zc0)) Zg0))
  (Zd0 (Jx1 PassesOwn.leaving rfl (Xr7 (Xt3 gr hr Zf0)) (pg_tup rfl (Zg3 (Jz0 (i:=1) nd rfl (Or.inl rfl)) (Zg3 (Jz0 (i:=2) nd rfl (Or.inl rfl)) (Zg3 (Jz0 (i:=3) nd rfl (Or.inl rfl)) Xs7))))
   (Ze0 (Jx1 PassesOwn.leaving rfl (Xs3 rfl T12.range (Za0 (pv 1) (Za0 (Zl0 Yy0 (pv 2) Zg0) Zc0))) (Jz0 (i:=4) nd rfl (Or.inl rfl))
    (Ze0 (Ji0 (pv 3) (Jj0 (pv 0) (pv 4) Xs0))))))
  (Ze0 (Zk0 (pv 0)))),?_⟩
 refine ⟨(by show 1≤sizeLine;decide),fun p0 hp0=>?_⟩
 refine ⟨p0,_,_,rfl,rfl,Zm0,(by decide),(by decide),(by show 1*256≤sizeLine;decide),fun p hp=>?_⟩
 have hp':H p=none:=Um0 hp
 have e0:(List.replicate (256:Int).toNat [V.ref (fa 0)]).flatten=(Zv2 0).map (fv fa):=rep_fv fa 256
 show Xw2 _ _ _ _ (upd (upd H p0 (.lst [V.ref (fa 0)])) p (.lst (List.replicate (256:Int).toNat [V.ref (fa 0)]).flatten))
 rw [e0]
 refine ⟨rfl,fun H1 pr ts s1 hpr ra e1=>?_⟩
 have hnp:pr≠p:=fun z=>by rw [z,Zm0] at hpr;cases hpr
 have hs0:Jf0 H (upd (upd H p0 (.lst [V.ref (fa 0)])) p (.lst ((Zv2 0).map (fv fa)))):=(Zz0 hp0).trans (Zz0 hp)
 have h1p:H1 p=some (.lst ((Zv2 0).map (fv fa))):=s1 _ _ Zm0
 have hts:ts.length=31:=ra.len
 refine ⟨pr,rfl,⟨_,SqL.of e1⟩,?_⟩
 refine Xw6 (xs:=ts.map V.ref) (fun i σ H'=>∃ x1 x2 x3 x4,σ=[some (.ref p),x1,x2,x3,x4]∧H' p=some (.lst ((Zv2 i).map (fv fa)))∧∀ a,a≠p→H' a=H1 a) ⟨none,none,none,none,rfl,h1p,fun _ _=>rfl⟩ ?_ ?_ ?_
 ·rintro i σ H' _ ⟨x1,x2,x3,x4,rfl,_,h2⟩
  exact SqL.of (by rw [h2 pr hnp];exact e1)
 ·rintro i x σ H' hx ⟨x1,x2,x3,x4,rfl,h1,h2⟩
  rw [List.getElem?_map] at hx
  cases et:ts[i]? with
  | none=>rw [et] at hx;cases hx
  | some t =>
   rw [et] at hx
   obtain rfl:V.ref t=x:=Option.some.inj hx
   obtain ⟨r,hr1,hr2⟩:=ra.get et
   have hb:=Ud4 r (List.mem_of_getElem? hr1)
   have ht:t≠p:=fun z=>by rw [z,h1p] at hr2;cases hr2
   refine ⟨t,_,rfl,SqT.of (by rw [h2 t ht];exact hr2),rfl,_,_,rfl,_,_,rfl,_,_,rfl,rfl,?_⟩
   refine ⟨_,rfl,_,rfl,_,_,rfl,rfl,_,_,rfl,⟨by lia,by lia,by lia,by lia⟩,?_⟩
   refine Zv1 (n:=(r.2.1+1-r.1).toNat) (fun j σ H''=>∃ y,σ=[some (.ref p),some (.int r.1),some (.int r.2.1),some (.ref (fa r.2.2)),y]∧H'' p=some (.lst ((Vy3 (Zv2 i) r.1.toNat r.2.2 j).map (fv fa)))∧∀ a,a≠p→H'' a=H1 a) ⟨x4,rfl,h1,h2⟩ ?_ ?_
   ·rintro j σ H'' hj ⟨y,rfl,g1,g2⟩
    have ej:r.1+(j:Int)=((r.1.toNat+j:Nat):Int):=by lia
    refine ⟨_,rfl,_,rfl,_,rfl,p,_,_,r.1.toNat+j,rfl,rfl,g1,?_,?_⟩
    ·show ixN _ (r.1+(j:Int))=_
     rw [ej]
     exact Vt0 (by rw [List.length_map,Jm1,Yt3];lia)
    ·refine ⟨_,rfl,?_,fun a ha=>by rw [Zn0 ha];exact g2 a ha⟩
     rw [Zm0,show (V.ref (fa r.2.2))=fv fa r.2.2 from rfl,set_fv];rfl
   ·rintro σ H'' ⟨y,rfl,g1,g2⟩
    refine ⟨_,_,_,_,rfl,?_,g2⟩
    rw [Xy4 hr1];exact g1
 ·rintro σ H' ⟨x1,x2,x3,x4,rfl,h1,h2⟩
  refine ⟨_,rfl,?_⟩
  rw [List.length_map,hts] at h1
  refine q H' p (fun b o e=>?_) hp' h1
  have hbp:b≠p:=fun z=>by rw [z,hp'] at e;cases e
  rw [h2 b hbp]
  exact s1 _ _ (hs0 b o e)
def Ug4 (i:Nat) (o:Nat):Prop:=match i with
 | 0=>mops o
 | 1=>fops o
 | 2=>xops o
 | 3=>lops o
 | 4=>24≤o∧o<64
 | 5=>64≤o∧o<96
 | 6=>96≤o∧o<112
 | 7=>112≤o∧o<128
 | 8=>128≤o∧o<144
 | 9=>oops o
 | 10=>(154≤o∧o<158)∨(184≤o∧o<190)∨(252≤o∧o<254)
 | 11=>158≤o∧o<160
 | 12=>160≤o∧o<176
 | 13=>190≤o∧o<192
 | 14=>192≤o∧o<224
 | 15=>224≤o∧o<240
 | 16=>240≤o∧o<242
 | 17=>242≤o∧o<244
 | 18=>244≤o∧o<246
 | 19=>246≤o∧o<248
 | 20=>o=248
 | 21=>254≤o∧o<255
 | _=>False
instance (i o:Nat):Decidable (Ug4 i o):=by
 unfold Ug4
 split <;> first | infer_instance | (unfold mops;infer_instance) | (unfold fops;infer_instance) | (unfold xops;infer_instance) | (unfold lops;infer_instance) | (unfold oops;infer_instance)
theorem Zk5:∀ o,o<256→o≠0→Ug4 (Zp7.getD o 0) o∧Zp7.getD o 0<22:=by decide +kernel
theorem tbl_ok {o:Nat} (h:o<256) (h0:o≠0):∃ i,Zp7[o]? = some i∧i<22∧Ug4 i o:=by
 have hl:Zp7.length=256:=Yt3 31
 refine ⟨Zp7.getD o 0,?_,(Zk5 o h h0).2,(Zk5 o h h0).1⟩
 rw [List.getD_eq_getElem?_getD,List.getElem?_eq_getElem (by lia)];rfl
theorem Jg7 {m:KM}{a n w:Nat} (h:KI m a n=.ok w):w<2^(8*n):=by
 unfold KI at h
 split at h
 ·cases h
 ·cases h
  exact Nat.mod_lt _ (Nat.two_pow_pos _)
theorem Uu3 {m:KM} (h:KI m m.pc 4=.error 1):KG m=.error 1:=by
 unfold KG
 rw [h];rfl
theorem Zp5 {m:KM}{n:Nat} (hl:KI m m.pc 4=.ok n) (h:opW n=0):KG m=.ok ({ KU m 29 n with pc:=(m.pc+4)%2^64 },if n=0 then 1 else 2):=by
 unfold KG
 rw [hl]
 have h':n/2^24=0:=h
 show (if n/2^24=0 then _ else _)=_
 rw [if_pos h'];rfl
theorem Xm5 {m:KM}{k e:Nat} (h:KG m=.error e):KC (k+1) m=(m,-(e:Int)):=by
 show (match KG m with | .error f=>(m,-(f:Int)) | .ok (n,0)=>KC k n | .ok (n,s)=>(n,(s:Nat)))=_
 rw [h]
theorem run_on {m r:KM}{k:Nat} (h:KG m=.ok (r,0)):KC (k+1) m=KC k r:=by
 show (match KG m with | .error f=>(m,-(f:Int)) | .ok (n,0)=>KC k n | .ok (n,s)=>(n,(s:Nat)))=_
 rw [h];rfl
theorem Yg6 {m r:KM}{k s:Nat} (h:KG m=.ok (r,s)) (hs:s≠0):KC (k+1) m=(r,(s:Int)):=by
 show (match KG m with | .error f=>(m,-(f:Int)) | .ok (n,0)=>KC k n | .ok (n,s)=>(n,(s:Nat)))=_
 rw [h]
 cases s with
 | zero=>exact absurd rfl hs
 | succ s=>rfl
variable (P w K mg base) in def Works (C:Addr) (fc fa:Nat→Addr):Prop :=
 ∀ i,i<22→∃ fd,PySem.W.keepIn K (.ref (fa i))=true∧Ui0 K fd ["machine","word"] []∧Vu0 P w K mg base (CXW P w) 8 (fa i) fd ["machine","word"] (Xc0 C fc (Ug4 i))
inductive Uw3 (C:Addr) (fc:Nat→Addr) (vs:List V) (H:Hp) (Q:VK) (E:XK):Prop |mk (d:Ad) (m:KM) (b k:Nat) (_:vs=[.ref d.M,iv k]) (_:Rep C H d m b) (_:k≤100000) (_:∀ (H':Hp) (d':Ad) (b':Nat),d'.M=d.M→Rep C H' d' (KC k m).1 b'→Vf0 d.own d'.own H H'→Q (.int (KC k m).2) H') (_:∀ (e:Nat) (H':Hp) (d':Ad) (b':Nat),d'.M=d.M→Rep C H' d' (KC k m).1 b'→Vf0 d.own d'.own H H'→1≤e→e≤5→(KC k m).2 = -(e:Int)→E (.ref (fc e)) none H')
theorem Ju1:Zj0 ["machine","steps","table","step","word","op","work"] ["machine","steps"] (Zh0 (top 202)):=by decide +kernel
theorem Zk1 {o o':List Addr}{H H1 H':Hp} (s:Jf0 H H1) (k:Vf0 o o' H1 H'):Vf0 o o' H H':=fun a u e n=>k a u (s a u e) n
theorem Va3 {f C:Addr}{fd:FuncData}{fc fa:Nat→Addr} (F:Fun K "run_steps" "run_steps" (top 202) f fd) (T:Txt K mg C) (T12:Yj3 mg) (gt:FG P w K mg base "op_table" 2 [] (Yj5 fa)) (gL:gLoad P w K mg base C (fc 1)) (gGo:MG P w K mg base C "go_on" 1 ["self"] (Uj6 C))
  (gTr:FG P w K mg base "trap" 1 ["machine","word"] (Vw6 C)) (W:Works P w K mg base C fc fa):FnW P w K mg base 9 f fd ["machine","steps"] (Uw3 C fc):=by
 exists Ju1,(by rintro vs H Q E ⟨d,m,b,k,rfl,_⟩;rfl)
 obtain ⟨d,m,b,k,rfl,R,hk,q1,q2⟩:=h
 have nd:=Ju1.nd
 refine ⟨_,Zd0 (Zp0 (i:=2) nd rfl (Or.inl rfl) (Xt3 gt hr Zf0))
  (Zd0 (Jx1 PassesOwn.leaving rfl (Xb1 rfl T12.range (Za0 (pv 1) Zc0)) (Jz0 (i:=3) nd rfl (Or.inl rfl))
   (Zd0 (Zp0 (i:=4) nd rfl (Or.inl rfl) (Zu0 (pv 0) T.cl gL hr (Zs1 (E1:=E) fun _ _ z=>z) (Za0 (Yh0 (pv 0) rfl) (Za0 Zg0 Zc0))))
   (Zd0 (Zx0 (Up0 (pv 0) T.cl gGo hr Zf0))
   (Zd0 (Zp0 (i:=5) nd rfl (Or.inl rfl) (Zl0 Xf0 (pv 4) Zg0))
   (Zd0 (Yb0 (Zt0 Xj0 (pv 5) Zg0 (Zv0 _)) (Ze0 (Zk0 (Zb0 gTr hr Zf0 (Za0 (pv 0) (Za0 (pv 4) Zc0))))) Zq0)
   (Zd0 (Zp0 (i:=6) nd rfl (Or.inl rfl) (Xi0 Ym0 (pv 2) (pv 5) (fun _ _=>rfl)))
   (Zd0 (Zx0 (Zj1 (i:=6) rfl (Or.inl rfl) hr (Zs1 (E1:=E) fun _ _ z=>z) (Za0 (pv 0) (Za0 (pv 4) Zc0))))
   (Ze0 (Ue0 (pv 0) (Yh0 (pv 0) rfl) rfl)))))))))
  (Ze0 (Zk0 Zg0))),?_⟩
 refine ⟨rfl,fun H1 p s1 hp e1=>?_⟩
 have hpo:p ∉ d.own:=R.fresh hp
 have R1:=R.same s1
 refine ⟨_,rfl,(k:Int),rfl,(by lia),(by lia),?_⟩
 rw [Int.toNat_natCast]
 refine Zv1 (lo:=0) (n:=k) (fun i σ H'=>∃ (d':Ad) (m':KM) (b':Nat) (x3 x4 x5 x6:Option V),σ=[some (.ref d.M),some (iv k),some (.ref p),x3,x4,x5,x6]∧d'.M=d.M∧Rep C H' d' m' b'∧Vf0 d.own d'.own H1 H'∧KC (k-i) m'=KC k m)
  ⟨d,m,b,none,none,none,none,rfl,rfl,R1,Vf0.refl _ _,rfl⟩ ?_ ?_
 ·rintro i σ H' hi ⟨d',m',b',x3,x4,x5,x6,rfl,eM,R',kp,er⟩
  obtain ⟨j,hj⟩:∃ j,k-i=j+1:=⟨k-i-1,by lia⟩
  have hj':k-(i+1)=j:=by lia
  rw [hj] at er
  have fault:∀ e,KG m'=.error e→∀ H2,Jf0 H' H2→E (.ref (fc e)) none H2:=fun e he H2 s2=>by
   have h5:=Yb4 m' e he
   rw [Xm5 he] at er
   refine q2 e H2 d' b' eM ?_ (Zk1 s1 (kp.trans (Yi0 s2))) h5.1 h5.2 (by rw [← er])
   rw [← er]
   exact R'.same s2
  refine ⟨_,rfl,d'.M,d'.dx,_,(by rw [eM]),R'.obj,rfl,_,rfl,d'.M,C,d'.dx,_,_,(by rw [eM]),R'.obj,T.cl,T.nPla,rfl,d',m',b',m'.pc,4,(by rw [eM];rfl),R',R'.wf.pc,(by unfold Sz;lia),fun v hv=>?_,fun he=>fault 1 (Uu3 he) H' (Jf0.refl _)⟩
  have hv32:v<2^32:=Jg7 hv
  refine ⟨_,rfl,d'.M,d'.dx,_,(by rw [eM]),R'.obj,rfl,d',m',b',(by rw [eM];rfl),R',fun H2 d2 e2 R2 k2=>?_⟩
  refine ⟨_,rfl,_,_,rfl,rfl,(by decide:(0:Int)≤24),?_⟩
  have eop:((v:Int)/2^(24:Int).toNat)=((opW v:Nat):Int):=Uc0 v rfl
  dsimp only
  rw [eop]
  refine ⟨_,rfl,rfl,_,rfl,?_⟩
  rw [show (V.int 0)=V.int ((0:Nat):Int) from rfl,Yj0]
  have e2M:d2.M=d.M:=e2.trans eM
  refine Xb0 (fun hc=>?_) (fun hc=>?_)
  ·have st:=Zp5 hv (of_decide_eq_true hc)
   rw [Yg6 st (by split <;> decide)] at er
   refine ⟨_,rfl,_,rfl,d2,m',_,v,(by rw [e2M];rfl),R2,hv32,fun H3 d3 e3 R3 k3=>?_⟩
   have fin:=q1 H3 d3 _ (e3.trans e2M) (by rw [← er];exact R3) (Zk1 s1 (kp.trans (k2.trans k3)))
   rw [← er] at fin
   exact fin
  ·have hop0:opW v≠0:=fun z=>hc (decide_eq_true z)
   have hop:opW v<256:=by
    show v/2^24<256
    lia
   obtain ⟨t,ht1,ht2,ht3⟩:=tbl_ok hop hop0
   obtain ⟨fd,kpi,hb,Fo⟩:=W t ht2
   have hpt:H2 p=some (.lst (Zp7.map (fv fa))):=((kp.trans k2) p _ e1 hpo).1
   refine ⟨_,rfl,_,rfl,p,_,_,_,rfl,rfl,SqL.of hpt,Xt2 (by rw [List.getElem?_map,ht1];rfl),?_⟩
   refine ⟨fa t,fd,_,_,rfl,kpi,Fo,hb,_,rfl,_,rfl,d2,m',v,(by rw [e2M]),R2,hv32,hv,ht3,fun r hr' m'' b'' em ep H3 d3 e3 R3 k3=>?_,fun e he H3 s3=>?_⟩
   ·have e3M:d3.M=d.M:=e3.trans e2M
    refine ⟨_,rfl,d3.M,C,d3.dx,_,_,(by rw [e3M]),R3.obj,T.cl,T.nBeh,rfl,_,rfl,d3.M,C,d3.dx,_,(by rw [e3M]),R3.obj,T.cl,T.nPla,(by show 7<1000;decide),?_⟩
    have R4:=R3.setObj (pc':=b'') (b':=b'') (R3.wf.setPc R3.bh) R3.bh
    rw [em] at R4
    refine ⟨d3,r,b'',_,_,_,_,rfl,e3M,R4,(kp.trans (k2.trans k3)).trans (Vf0.upd (by simp [Ad.own])),?_⟩
    rw [hj',← er,run_on hr']
   ·have h5:=Yb4 m' e he
    rw [Xm5 he] at er
    refine q2 e H3 d2 ((m'.pc+4)%2^64) e2M ?_ (Zk1 s1 (kp.trans (k2.trans (Yi0 s3)))) h5.1 h5.2 (by rw [← er])
    rw [← er]
    exact R2.same s3
 ·rintro σ H' ⟨d',m',b',x3,x4,x5,x6,rfl,eM,R',kp,er⟩
  rw [Nat.sub_self] at er
  have er':(m',(0:Int))=KC k m:=er
  have fin:=q1 H' d' b' eM (by rw [← er'];exact R') (Zk1 s1 kp)
  rw [← er'] at fin
  exact fin
structure Jv6 (K:PySem.W.Frag) (mg:Str→Option Value) (fc:Nat→Addr):Prop where
 m1:mg "PastMemory" = some (.ref (fc 1))
 m2:mg "NoInstruction" = some (.ref (fc 2))
 m3:mg "NotAllowed" = some (.ref (fc 3))
 m4:mg "NothingPushed" = some (.ref (fc 4))
 m5:mg "TooMuchPushed" = some (.ref (fc 5))
 x1:ExC K (fc 1)
 x2:ExC K (fc 2)
 x3:ExC K (fc 3)
 x4:ExC K (fc 4)
 x5:ExC K (fc 5)
 nd:[fc 1,fc 2,fc 3,fc 4,fc 5].Nodup
 ex:∀ C∈[fc 1,fc 2,fc 3,fc 4,fc 5],∀ C'∈[fc 1,fc 2,fc 3,fc 4,fc 5],PySem.W.exmOne K (.ref C) (.ref C')=some (C == C')
inductive spRun (C:Addr) (vs:List V) (H:Hp) (Q:VK) (_:XK):Prop |mk (d:Ad) (m:KM) (b:Nat) (z:Int) (_:vs=[.ref d.M,.int z]) (_:Rep C H d m b) (_:z≤100000) (_:z<0→Q (.int (-8)) H) (_:0≤z→∀ (H':Hp) (d':Ad) (b':Nat),d'.M=d.M→Rep C H' d' (KC z.toNat m).1 b'→Vf0 d.own d'.own H H'→Q (.int (KC z.toNat m).2) H')
theorem sc_run:Zj0 ["machine","steps"] ["machine","steps"] (Zh0 (top 203)):=by decide +kernel
def Xk4 (fc:Nat→Addr):List (Addr×Int):=[(fc 1,1),(fc 2,2),(fc 3,3),(fc 4,4),(fc 5,5)]
theorem Xz6 {fc:Nat→Addr} (nd:[fc 1,fc 2,fc 3,fc 4,fc 5].Nodup) {e:Nat} (h1:1≤e) (h2:e≤5):(fc e,(e:Int))∈Xk4 fc∧(Xk4 fc).lookup (fc e)=some (e:Int):=by
 simp at nd
 obtain ⟨⟨n12,n13,n14,n15⟩,⟨n23,n24,n25⟩,⟨n34,n35⟩,n45⟩:=nd
 have b:∀ {x y:Addr},x≠y→(x == y)=false:=fun h=>beq_eq_false_iff_ne.mpr h
 have hh:e=1∨e=2∨e=3∨e=4∨e=5:=by lia
 unfold Xk4
 rcases hh with rfl | rfl | rfl | rfl | rfl
 ·exact ⟨by simp,by rw [List.lookup_cons,beq_self_eq_true];rfl⟩
 ·exact ⟨by simp,by rw [List.lookup_cons,b (fun z=>n12 z.symm),List.lookup_cons,beq_self_eq_true];rfl⟩
 ·exact ⟨by simp,by rw [List.lookup_cons,b (fun z=>n13 z.symm),List.lookup_cons,b (fun z=>n23 z.symm),List.lookup_cons,beq_self_eq_true];rfl⟩
 ·exact ⟨by simp,by rw [List.lookup_cons,b (fun z=>n14 z.symm),List.lookup_cons,b (fun z=>n24 z.symm),List.lookup_cons,b (fun z=>n34 z.symm),List.lookup_cons,beq_self_eq_true];rfl⟩
 ·exact ⟨by simp,by rw [List.lookup_cons,b (fun z=>n15 z.symm),List.lookup_cons,b (fun z=>n25 z.symm),List.lookup_cons,b (fun z=>n35 z.symm),List.lookup_cons,b (fun z=>n45 z.symm),List.lookup_cons,beq_self_eq_true];rfl⟩
theorem ok_run {f C:Addr}{fd:FuncData}{fc:Nat→Addr} (F:Fun K "run" "run" (top 203) f fd) (X5:Jv6 K mg fc) (gs:FG P w K mg base "run_steps" 9 ["machine","steps"] (Uw3 C fc)):FnW P w K mg base 10 f fd ["machine","steps"] (spRun C):=by
 exists sc_run,(by rintro vs H Q E ⟨d,m,b,k,rfl,_⟩;rfl)
 obtain ⟨d,m,b,z,rfl,R,hz,q1,q2⟩:=h
 refine ⟨_,Zd0 (Yb0 (Zt0 Ye1 (pv 1) Zg0 (Zv0 _)) (Ze0 (Zk0 (Xc1 Jg0 Zg0))) Zq0)
  (Ze0 (Xl7 (l:=Xk4 fc) (te:=fun E1=>Zl5 (Uw3 C fc) [] E1 (Yv3 (tVar 0) (Yv3 (tVar 1) Jv5))) (.cons rfl X5.m1 rfl (.cons rfl X5.m2 rfl (.cons rfl X5.m3 rfl (.cons rfl X5.m4 rfl (.cons rfl X5.m5 rfl .nil))))) X5.ex rfl rfl
   (fun pn' E' E1 hp=>Zb0 gs hr hp (Za0 (pv 0) (Za0 (pv 1) Zc0))))),?_⟩
 refine ⟨_,rfl,_,_,rfl,rfl,_,rfl,?_⟩
 refine Xb0 (fun hc=>?_) (fun hc=>?_)
 ·exact ⟨_,rfl,q1 (of_decide_eq_true hc)⟩
 ·have hz0:0≤z:=by
   apply Int.not_lt.mp;intro y;exact hc (decide_eq_true y)
  have q:=q2 hz0
  obtain ⟨k,rfl⟩:∃ k:Nat,z=(k:Int):=⟨z.toNat,by lia⟩
  rw [Int.toNat_natCast] at q
  refine ⟨_,rfl,_,rfl,d,m,b,k,rfl,R,by lia,q,fun e H' d' b' eM R' kp h1 h5 er=>?_⟩
  have hf:=Xz6 X5.nd h1 h5
  refine ⟨fc e,(e:Int),rfl,hf.1,hf.2,?_⟩
  rw [← er]
  exact q H' d' b' eM R' kp
theorem Jz2:scD 215:=by decide +kernel
def Xn5:Jt5:=fun m as=>if as.getD 1 0<0 then (m,[-8]) else ((KC (as.getD 1 0).toNat m).1,[(KC (as.getD 1 0).toNat m).2])
theorem Zq3 {f C:Addr}{fd:FuncData} (F:Fun K "answer_run" "answer_run" (top 215) f fd) (gr:FG P w K mg base "run" 10 ["machine","steps"] (spRun C)):FnW P w K mg base 11 f fd ["machine","call"] (Ju0 C (fun as=>as.length=2∧as.getD 1 0≤100000) Xn5):=by
 exists Jz2,Jt0
 obtain ⟨d,m,b,c,as,rfl,R,hc,nc,⟨hl,hk⟩,q⟩:=h
 refine ⟨_,Ze0 (Zk0 (Vc0 (Za0 (Zb0 gr hr Zf0 (Za0 (pv 0) (Za0 (Xi0 Ym0 (pv 1) Zg0 (fun _ _=>rfl)) Zc0))) Zc0))),?_⟩
 have h1:as[1]? = some (as.getD 1 0):=by rw [List.getD_eq_getElem?_getD,List.getElem?_eq_getElem (by lia)];rfl
 unfold Xn5 at q
 generalize as.getD 1 0=z at *
 refine ⟨_,rfl,_,rfl,c,_,_,_,rfl,rfl,SqL.of hc,Xv0 h1,d,m,b,z,rfl,R,hk,fun hz=>?_,fun hz H1 d1 b1 e1 R1 k1=>?_⟩
 ·rw [if_pos hz] at q
  refine ⟨(by show 1≤sizeLine;decide),fun p hp=>?_⟩
  exact q H _ d b p rfl (R.mine hp) (Yi0 (Zz0 hp)) Zm0 (R.fresh hp) (Vf0.refl _ _) hp
 ·rw [if_neg (by lia)] at q
  refine ⟨(by show 1≤sizeLine;decide),fun p hp=>?_⟩
  exact q H1 _ d1 b1 p e1 (R1.mine hp) (k1.trans (Yi0 (Zz0 hp))) Zm0 (R1.fresh hp) k1 hp
theorem Xk2 {as:List Int}{j:Nat} (h:j<as.length):as[j]? = some (as.getD j 0):=by rw [List.getD_eq_getElem?_getD,List.getElem?_eq_getElem h];rfl
theorem Ut6 (a n:Int):Zb3 a n=Xx2 a n:=rfl
theorem Xt5 {a n:Int} (h:¬ Xx2 a n<0):0≤n∧n≤65536∧a+n≤1048576:=by
 unfold Xx2 at h
 by_cases h1:n<0∨65536<n
 ·rw [if_pos h1] at h;exact absurd (by decide) h
 ·rw [if_neg h1] at h
  by_cases h2:1048576<a+n
  ·rw [if_pos h2] at h;exact absurd (by decide) h
  ·lia
theorem Za5 {m m':KM}{a c:Nat}{r:List Nat} (h:KY m a 1 c=.ok m'):Kg22.writes m a (c :: r)=Kg22.writes m' (a+1) r:=by
 show (match KY m a 1 c with | .ok n=>Kg22.writes n (a+1) r | .error _=>m)=_
 rw [h]
theorem Yx1:Zj0 ["machine","call","place","refused","offset"] ["machine","call"] (Zh0 (top 212)):=by decide +kernel
theorem Yy2 {f C c1:Addr}{fd:FuncData} (F:Fun K "answer_write" "answer_write" (top 212) f fd) (T:Txt K mg C) (T12:Yj3 mg) (gr:FG P w K mg base "refusal" 1 ["place","count"] Zy2) (gS:gStore P w K mg base C c1) :
  FnW P w K mg base 2 f fd ["machine","call"] (Ju0 C (okD 1) (dut 1)):=by
 exists Yx1,Jt0
 obtain ⟨d,m,b,c,as,rfl,R,hc,nc,ho,q⟩:=h
 have ho':(as.length:Int)=3+as.getD 2 0∧0≤as.getD 2 0∧as.getD 2 0≤15000∧0≤as.getD 1 0∧as.getD 1 0<2^64∧∀ v∈as.drop 3,0≤v∧v<256:=ho
 obtain ⟨hl,n0,n1,a0,a1,hb⟩:=ho'
 have nd:=Yx1.nd
 refine ⟨_,Zd0 (Zp0 (i:=2) nd rfl (Or.inl rfl) (Xi0 Ym0 (pv 1) Zg0 (fun _ _=>rfl)))
  (Zd0 (Zp0 (i:=3) nd rfl (Or.inl rfl) (Zb0 gr hr Zf0 (Za0 (pv 2) (Za0 (Xi0 Ym0 (pv 1) Zg0 (fun _ _=>rfl)) Zc0))))
  (Zd0 (Yb0 (Zt0 Ye1 (pv 3) Zg0 (Zv0 _)) (Ze0 (Zk0 (Vc0 (Za0 (pv 3) Zc0)))) Zq0)
  (Zd0 (Jx1 PassesOwn.leaving rfl (Xb1 rfl T12.range (Za0 (Xi0 Ym0 (pv 1) Zg0 (fun _ _=>rfl)) Zc0)) (Jz0 (i:=4) nd rfl (Or.inl rfl))
   (Ze0 (Zx0 (Zu0 (pv 0) T.cl gS hr Zf0 (Za0 (Zl0 Yy0 (pv 2) (pv 4)) (Za0 Zg0 (Za0 (Xi0 Ym0 (pv 1) (Zl0 Yy0 Zg0 (pv 4)) (fun _ _=>rfl)) Zc0)))))))
  (Ze0 (Zk0 (Vc0 (Za0 Zg0 Zc0))))))),?_⟩
 have h1:as[1]? = some (as.getD 1 0):=Xk2 (by lia)
 have h2:as[2]? = some (as.getD 2 0):=Xk2 (by lia)
 have q':∀ (H1 H':Hp) (d':Ad) (b':Nat) (p:Addr),d'.M=d.M→Rep C H' d' (if Xx2 (as.getD 1 0) (as.getD 2 0)<0 then (m,[Xx2 (as.getD 1 0) (as.getD 2 0)]) else (Kg22.writes m (as.getD 1 0).toNat ((as.drop 3).map Int.toNat),[0])).1 b'→Vf0 d.own d'.own H H'→H' p=some (.lst ((if Xx2 (as.getD 1 0) (as.getD 2 0)<0 then (m,[Xx2 (as.getD 1 0) (as.getD 2 0)]) else (Kg22.writes m (as.getD 1 0).toNat ((as.drop 3).map Int.toNat),[0])).2.map V.int))→p ∉ d'.own→Vf0 d.own d'.own H H1→H1 p=none→Q (.ref p) H':=q
 generalize as.getD 1 0=a at *
 generalize as.getD 2 0=n at *
 refine ⟨_,rfl,c,_,_,_,rfl,rfl,SqL.of hc,Xv0 h1,?_⟩
 refine ⟨_,rfl,_,rfl,c,_,_,_,rfl,rfl,SqL.of hc,Xv0 h2,a,n,rfl,?_⟩
 rw [Ut6]
 refine ⟨_,rfl,_,_,rfl,rfl,_,rfl,?_⟩
 refine Xb0 (fun hd=>?_) (fun hd=>?_)
 ·rw [if_pos (of_decide_eq_true hd)] at q'
  refine ⟨_,rfl,(by show 1≤sizeLine;decide),fun p hp=>?_⟩
  exact q' H _ d b p rfl (R.mine hp) (Yi0 (Zz0 hp)) Zm0 (R.fresh hp) (Vf0.refl _ _) hp
 ·have hd':¬ Xx2 a n<0:=fun z=>hd (decide_eq_true z)
  rw [if_neg hd'] at q'
  obtain ⟨_,_,hsz⟩:=Xt5 hd'
  obtain ⟨aN,rfl⟩:∃ aN:Nat,a=(aN:Int):=⟨a.toNat,by lia⟩
  obtain ⟨nN,rfl⟩:∃ nN:Nat,n=(nN:Int):=⟨n.toNat,by lia⟩
  rw [Int.toNat_natCast] at q'
  have hlen:as.length=3+nN:=by lia
  refine ⟨_,rfl,c,_,_,_,rfl,rfl,SqL.of hc,Xv0 h2,(nN:Int),rfl,by lia,by lia,?_⟩
  rw [Int.toNat_natCast]
  refine Zv1 (lo:=0) (n:=nN) (fun i σ H'=>∃ (d':Ad) (m':KM) (x4:Option V),σ=[some (.ref d.M),some (.ref c),some (.int (aN:Int)),some (.int (Xx2 (aN:Int) (nN:Int))),x4]∧d'.M=d.M∧Rep C H' d' m' b∧Vf0 d.own d'.own H H'∧Kg22.writes m' (aN+i) (((as.drop 3).map Int.toNat).drop i)=Kg22.writes m aN ((as.drop 3).map Int.toNat))
   ⟨d,m,none,rfl,rfl,R,Vf0.refl _ _,rfl⟩ ?_ ?_
  ·rintro i σ H' hi ⟨d',m',x4,rfl,eM,R',kp,ew⟩
   have hc':H' c=some (.lst (as.map V.int)):=(kp c _ hc nc).1
   have h3:as[3+i]? = some (as.getD (3+i) 0):=Xk2 (by lia)
   have hmem:as.getD (3+i) 0∈as.drop 3:=by
    rw [List.getD_eq_getElem?_getD,List.getElem?_eq_getElem (by lia)]
    show as[3+i]∈_
    rw [List.mem_iff_getElem]
    exact ⟨i,by rw [List.length_drop];lia,by rw [List.getElem_drop]⟩
   have hv:=hb _ hmem
   obtain ⟨v,ev⟩:∃ v:Nat,as.getD (3+i) 0=(v:Int):=⟨(as.getD (3+i) 0).toNat,by lia⟩
   have hlm:i<((as.drop 3).map Int.toNat).length:=by rw [List.length_map,List.length_drop];lia
   have edrop:((as.drop 3).map Int.toNat).drop i=v :: ((as.drop 3).map Int.toNat).drop (i+1):=by
    rw [List.drop_eq_getElem_cons hlm]
    congr 1
    rw [List.getElem_map,List.getElem_drop]
    have:as[3+i]=(v:Int):=by
     rw [← ev,List.getD_eq_getElem?_getD,List.getElem?_eq_getElem (by lia)];rfl
    rw [this,Int.toNat_natCast]
   have st:KY m' (aN+i) 1 v=.ok (stored m' (aN+i) 1 v):=by
    rw [Jp2 m' v (by lia) (by unfold Sz;lia),if_neg (by lia)]
   rw [edrop,Za5 st] at ew
   have ei:(aN:Int)+(0+(i:Int))=((aN+i:Nat):Int):=by lia
   have e3:(3:Int)+(0+(i:Int))=((3+i:Nat):Int):=by lia
   rw [ev] at h3
   refine ⟨_,rfl,d'.M,d'.dx,_,(by rw [eM]),R'.obj,rfl,_,rfl,_,rfl,_,_,rfl,rfl,_,rfl,_,rfl,_,_,rfl,rfl,c,_,_,_,rfl,rfl,SqL.of hc',at_of e3 (by rw [List.getElem?_map,h3];rfl),d',m',b,aN+i,1,v,?_,R',by lia,(by unfold Sz;lia),fun m'' hm''=>?_,fun he=>?_⟩
   ·rw [eM]
    show [V.ref d.M,V.int ((aN:Int)+(0+(i:Int))),V.int 1,V.int (v:Int)]=[V.ref d.M,iv (aN+i),iv 1,iv v]
    rw [ei];rfl
   ·rw [st] at hm''
    cases hm''
    intro H2 d2 e2 R2 k2
    exact ⟨d2,_,_,rfl,e2.trans eM,R2,kp.trans k2,by rw [← Nat.add_assoc] at *;exact ew⟩
   ·rw [st] at he;cases he
  ·rintro σ H' ⟨d',m',x4,rfl,eM,R',kp,ew⟩
   have hnil:((as.drop 3).map Int.toNat).drop nN=[]:=List.drop_eq_nil_of_le (by rw [List.length_map,List.length_drop];lia)
   rw [hnil] at ew
   have ew':m'=Kg22.writes m aN ((as.drop 3).map Int.toNat):=ew
   subst ew'
   refine ⟨(by show 1≤sizeLine;decide),fun p hp=>?_⟩
   exact q' H' _ d' b p eM (R'.mine hp) (kp.trans (Yi0 (Zz0 hp))) Zm0 (R'.fresh hp) kp hp
theorem load1 (m:KM) {a:Nat} (h:a<1048576):KI m a 1=.ok (m.mem (a/8)/256^(7-a%8)%256):=by
 unfold KI
 have e:a%Kg22.W=a:=Nat.mod_eq_of_lt (Nat.lt_trans h (by decide))
 have hs:Kg22.SIZE=1048576:=by decide
 rw [e,if_neg (by lia)]
 show Except.ok (m.mem (a/1*1/8)/2^(64-8*1-8*(a/1*1%8))%2^(8*1))=_
 rw [Nat.div_one,Nat.mul_one]
 have e2:(64-8*1-8*(a%8))=8*(7-a%8):=by lia
 rw [e2,Nat.pow_mul]
theorem Vi1:Zj0 ["machine","call","place","refused","offset"] ["machine","call"] (Zh0 (top 213)):=by decide +kernel
theorem Vf6:Vn6 ["machine","call","place","refused","offset"] (Zh0 (top 213)) { kind:=.function,names:=[(".0",.local),("offset",.local),("machine",.free),("place",.free)],isGenerator:=false,isCoroutine:=false } [("offset",4)]:=⟨rfl,by decide +kernel,by decide +kernel,by decide +kernel,by decide +kernel⟩
def Vz2 (m:KM) (a n:Nat):List Int:=(List.range n).map fun (i:Nat)=>((m.mem ((a+i)/8)/256^(7-(a+i)%8)%256:Nat):Int)
theorem Js4 (m:KM) (a n:Nat):Vz2 m a (n+1)=Vz2 m a n++[((m.mem ((a+n)/8)/256^(7-(a+n)%8)%256:Nat):Int)]:=by
 unfold Vz2
 rw [List.range_succ,List.map_append];rfl
theorem Vw2 {f C c1:Addr}{fd:FuncData} (F:Fun K "answer_read" "answer_read" (top 213) f fd) (T:Txt K mg C) (T12:Yj3 mg) (gr:FG P w K mg base "refusal" 1 ["place","count"] Zy2) (gL:gLoad P w K mg base C c1) :
  FnW P w K mg base 2 f fd ["machine","call"] (Ju0 C (okD 2) (dut 2)):=by
 exists Vi1,Jt0
 obtain ⟨d,m,b,c,as,rfl,R,hc,nc,ho,q⟩:=h
 have ho':as.length=3∧0≤as.getD 1 0∧as.getD 1 0<2^64 ∧ -(2^31)≤as.getD 2 0∧as.getD 2 0<2^31:=ho
 obtain ⟨hl,a0,a1,n0,n1⟩:=ho'
 have nd:=Vi1.nd
 refine ⟨_,Zd0 (Zp0 (i:=2) nd rfl (by first | exact Or.inl rfl | exact Or.inr rfl) (Xi0 Ym0 (pv 1) Zg0 (fun _ _=>rfl)))
  (Zd0 (Zp0 (i:=3) nd rfl (Or.inl rfl) (Zb0 gr hr Zf0 (Za0 (pv 2) (Za0 (Xi0 Ym0 (pv 1) Zg0 (fun _ _=>rfl)) Zc0))))
  (Zd0 (Yb0 (Zt0 Ye1 (pv 3) Zg0 (Zv0 _)) (Ze0 (Zk0 (Vc0 (Za0 (pv 3) Zc0)))) Zq0)
  (Ze0 (Zk0 (Zl0 Yx4 (Vc0 (Za0 (Xi0 Ym0 (pv 1) Zg0 (fun _ _=>rfl)) Zc0))
   (pe_lc (own:=[("offset",4)]) rfl nd (Xb1 rfl T12.range (Za0 (Xi0 Ym0 (pv 1) Zg0 (fun _ _=>rfl)) Zc0)) Vf6
    (fun s H C cl fp=>Jz0 (i:=4) nd rfl (Or.inl rfl)) (fun _ _ _ _ _=>Xk7) (fun s H C cl fp=>Zu0 (pv 0) T.cl gL hr Zf0 (Za0 (Zl0 Yy0 (pv 2) (pv 4)) (Za0 Zg0 Zc0))))))))),?_⟩
 have h1:as[1]? = some (as.getD 1 0):=Xk2 (by lia)
 have h2:as[2]? = some (as.getD 2 0):=Xk2 (by lia)
 have q':∀ (H1 H':Hp) (d':Ad) (b':Nat) (p:Addr),d'.M=d.M→Rep C H' d' m b'→Vf0 d.own d'.own H H'→H' p=some (.lst ((if Xx2 (as.getD 1 0) (as.getD 2 0)<0 then [Xx2 (as.getD 1 0) (as.getD 2 0)] else as.getD 2 0 :: Vz2 m (as.getD 1 0).toNat (as.getD 2 0).toNat).map V.int))→p ∉ d'.own→Vf0 d.own d'.own H H1→H1 p=none→Q (.ref p) H':=q
 generalize as.getD 1 0=a at *
 generalize as.getD 2 0=n at *
 refine ⟨_,rfl,c,_,_,_,rfl,rfl,SqL.of hc,Xv0 h1,?_⟩
 refine ⟨_,rfl,_,rfl,c,_,_,_,rfl,rfl,SqL.of hc,Xv0 h2,a,n,rfl,?_⟩
 rw [Ut6]
 refine ⟨_,rfl,_,_,rfl,rfl,_,rfl,?_⟩
 refine Xb0 (fun hd=>?_) (fun hd=>?_)
 ·rw [if_pos (of_decide_eq_true hd)] at q'
  refine ⟨_,rfl,(by show 1≤sizeLine;decide),fun p hp=>?_⟩
  exact q' H _ d b p rfl (R.mine hp) (Yi0 (Zz0 hp)) Zm0 (R.fresh hp) (Vf0.refl _ _) hp
 ·have hd':¬ Xx2 a n<0:=fun z=>hd (decide_eq_true z)
  rw [if_neg hd'] at q'
  obtain ⟨hn0,hn1,hsz⟩:=Xt5 hd'
  obtain ⟨aN,rfl⟩:∃ aN:Nat,a=(aN:Int):=⟨a.toNat,by lia⟩
  obtain ⟨nN,rfl⟩:∃ nN:Nat,n=(nN:Int):=⟨n.toNat,by lia⟩
  rw [Int.toNat_natCast,Int.toNat_natCast] at q'
  refine ⟨_,rfl,c,_,_,_,rfl,rfl,SqL.of hc,Xv0 h2,(by show 1≤sizeLine;decide),fun p1 hp1=>?_⟩
  have R1:=R.mine (u:=.lst [V.int (nN:Int)]) hp1
  have hc1:upd H p1 (.lst [V.int (nN:Int)]) c=some (.lst (as.map V.int)):=by rw [Zn0 (Ys0 hc hp1)];exact hc
  refine ⟨_,rfl,c,_,_,_,rfl,rfl,SqL.of hc1,Xv0 h2,(nN:Int),rfl,by lia,by lia,fun D hD=>?_⟩
  rw [Int.toNat_natCast]
  have hpD:p1≠D:=fun z=>by rw [z,Zm0] at hD;cases hD
  refine Xr6 (lo:=0) (n:=nN) (fun i H'=>H'=upd (upd H p1 (.lst [V.int (nN:Int)])) D (.lst ((Vz2 m aN i).map V.int))) rfl ?_ ?_
  ·rintro i H' hi rfl
   have R2:=R1.mine (u:=.lst ((Vz2 m aN i).map V.int)) hD
   have ei:(aN:Int)+(0+(i:Int))=((aN+i:Nat):Int):=by lia
   refine ⟨rfl,?_⟩
   refine ⟨_,rfl,d.M,d.dx,_,rfl,R2.obj,rfl,_,rfl,_,rfl,_,_,rfl,rfl,d,m,b,aN+i,1,?_,R2,by lia,(by unfold Sz;lia),fun v hv=>?_,fun he=>?_⟩
   ·show [V.ref d.M,V.int ((aN:Int)+(0+(i:Int))),V.int 1]=[V.ref d.M,iv (aN+i),iv 1]
    rw [ei];rfl
   ·rw [load1 m (by lia)] at hv
    cases hv
    refine ⟨_,Zm0,?_,?_⟩
    ·rw [List.length_map]
     unfold Vz2
     rw [List.length_map,List.length_range]
     exact Nat.lt_of_le_of_lt (show i≤65536 by lia) (by decide)
    ·rw [Uz1,Js4,List.map_append];rfl
   ·rw [load1 m (by lia)] at he;cases he
  ·rintro H' rfl
   have R2:=R1.mine (u:=.lst ((Vz2 m aN nN).map V.int)) hD
   refine ⟨p1,D,_,_,rfl,rfl,(by rw [Zn0 hpD];exact Zm0),Zm0,?_,fun p hp=>?_⟩
   ·rw [List.length_map]
    unfold Vz2
    rw [List.length_map,List.length_range]
    exact Nat.le_trans (show 1+nN≤65537 by lia) (by decide)
   ·have sm:Jf0 H (upd (upd H p1 (.lst [V.int (nN:Int)])) D (.lst ((Vz2 m aN nN).map V.int))):=(Zz0 hp1).trans (Zz0 hD)
    exact q' _ _ d b p rfl (R2.mine hp) (Yi0 (sm.trans (Zz0 hp))) Zm0 (R2.fresh hp) (Yi0 sm) hp
theorem Xo6 {k:Nat}{n:Int} (h:k=1→0≤n):Xp6 k n=((Zl2 k n:Nat):Int):=by
 unfold Xp6 Zl2
 have e:Jh7.getD k 0=lensN.getD k 0:=rfl
 rw [e]
 by_cases hk:k=1
 ·rw [if_pos hk,if_pos hk];have:=h hk;omega
 ·rw [if_neg hk,if_neg hk];rfl
theorem Rep.other {C:Addr}{H:Hp}{d:Ad}{m:KM}{b:Nat} (R:Rep C H d m b) {p:Addr}{u:HO} (h:p ∉ d.own):Rep C (upd H p u) d m b:=by
 simp [Ad.own] at h
 obtain ⟨p1,p2,p3,p4,p5,p6,p7⟩:=h
 exact ⟨by rw [Zn0 (fun z=>p1 z.symm)];exact R.obj,by rw [Zn0 (fun z=>p2 z.symm)];exact R.dxo,by rw [Zn0 (fun z=>p3 z.symm)];exact R.mem,by rw [Zn0 (fun z=>p4 z.symm)];exact R.loc,by rw [Zn0 (fun z=>p5 z.symm)];exact R.wid,by rw [Zn0 (fun z=>p6 z.symm)];exact R.spc,by rw [Zn0 (fun z=>p7 z.symm)];exact R.psh,R.nd,R.wf,R.bh⟩
structure Txt13 (K:PySem.W.Frag) (mg:Str→Option Value) (aD:Addr) (da:Nat→Addr):Prop where
 dut:mg "DUTIES" = some (.ref aD)
 sd:∀ H,SqT K H aD ((List.range 9).map fun k=>V.ref (da k))
variable (P w K mg base) in def Duties (C:Addr) (da:Nat→Addr):Prop :=
 ∀ k,k<9→∃ fd,PySem.W.keepIn K (.ref (da k))=true∧Ui0 K fd ["machine","call"] []∧Vu0 P w K mg base (CXW P w) 11 (da k) fd ["machine","call"] (Ju0 C (okD k) (dut k))
inductive Zz2 (K:PySem.W.Frag) (vs:List V) (H:Hp) (Q:VK) (_:XK):Prop |mk (a:Addr) (l:List Int) (_:vs=[.ref a]) (_:SqL K H a (l.map V.int)) (_:l.length≤16000) (_:PyKg22.answers_asked l=true) (_:∀ (H':Hp) (p:Addr),H' p=some (.lst ((PyKg22.answers l).map V.int))→Q (.ref p) H')
theorem Ut2:Zj0 ["calls","machine","given","start","length","duty","answer"] ["calls"] (Zh0 (top 223)):=by decide +kernel
theorem Jd4 {f C fI aD:Addr}{fd fdI:FuncData}{da:Nat→Addr} (F:Fun K "answers" "answers" (top 223) f fd) (T:Txt K mg C) (M:Mk K C fI) (GI:FnW P w K mg base 2 fI fdI ["self"] (Ui6 C)) (bI:Ui0 K fdI ["self"] []) (gl:FG P w K mg base "call_length" 1 ["calls","start"] (spLen K))
  (T13:Txt13 K mg aD da) (W:Duties P w K mg base C da):FnW P w K mg base 12 f fd ["calls"] (Zz2 K):=by
 exists Ut2,(by rintro vs H Q E ⟨a,l,rfl,_⟩;rfl)
 obtain ⟨a,l,rfl,hS,hl,hask,q⟩:=h
 have nd:=Ut2.nd
 refine ⟨_,Zd0 (Zp0 (i:=1) nd rfl (Or.inl rfl) (Yn6 M GI (hr.mono (by decide)) rfl T.mgC bI .nil Zf0))
  (Zd0 (Zp0 (i:=2) nd rfl (Or.inl rfl) (Vc0 Zc0))
  (Zd0 (Zp0 (i:=3) nd rfl (Or.inl rfl) Zg0)
  (Zd0 (Xr1 PassesOwn.leaving (Zt0 Ye1 (pv 3) (Yl0 Yu0 (by rfl) T.len PySem.boot_len (Za0 (pv 0) Zc0)) (Zv0 _))
   (Zd0 (Zp0 (i:=4) nd rfl (Or.inl rfl) (Zb0 gl hr Zf0 (Za0 (pv 0) (Za0 (pv 3) Zc0))))
   (Zd0 (Zp0 (i:=5) nd rfl (Or.inl rfl) (Xi0 Jl0 (Za1 (v:=.ref aD) rfl T13.dut rfl) (Xi0 Ym0 (pv 0) (pv 3) (fun _ _=>rfl)) (fun _ _=>rfl)))
   (Zd0 (Zp0 (i:=6) nd rfl (Or.inl rfl) (Zj1 (CX:=CXW P w) (i:=5) rfl (Or.inl rfl) hr Zf0 (Za0 (pv 1) (Za0 (Xu1 Jc1 (pv 0) (Vq1 (pv 3)) (Vq1 (Zl0 Yy0 (pv 3) (pv 4)))) Zc0))))
   (Zd0 (Zx0 (Jp3 PySem.F.plainAttrs_list PySem.F.slot_list_append PySem.F.type_list_append Xd1 (pv 2) (Za0 (Yl0 Yu0 (by rfl) T.len PySem.boot_len (Za0 (pv 6) Zc0)) Zc0)))
   (Zd0 (Zx0 (Jp3 PySem.F.plainAttrs_list PySem.F.slot_list_extend PySem.F.type_list_extend Vg3 (pv 2) (Za0 (pv 6) Zc0)))
   (Ze0 (Jy1 (i:=3) nd rfl (Or.inl rfl) (pv 4) Jc6))))))))
  (Ze0 (Zk0 (pv 2)))))),?_⟩
 intro x dx hx hdx hne
 have hx0:upd H dx (.own x) x=none:=by rw [Zn0 (fun z=>hne z.symm)];exact hx
 refine ⟨x,dx,rfl,Zm0,(by rw [Zn0 hne];exact Zm0),fun H1 d1 e1 R1 k1=>⟨rfl,?_⟩⟩
 have K1:Vf0 [] d1.own H H1:=fun b u hb _=>by
  have n1:b≠x:=Ys0 hb hx
  have n2:b≠dx:=Ys0 hb hdx
  exact k1 b u (by rw [Zn0 n1,Zn0 n2];exact hb) (by simp;exact ⟨n1,n2⟩)
 refine ⟨(by show 0≤sizeLine;decide),fun g hg=>?_⟩
 have hgo:g ∉ d1.own:=R1.fresh hg
 have hgH:H g=none:=by
  cases e:H g with
  | none=>rfl
  | some u=>rw [(K1 g u e (by simp)).1] at hg;cases hg
 simp only [Zq1,Xw2,tAsg,tC]
 refine Xm1 (fun σ H'=>∃ (d':Ad) (m':KM) (b' i:Nat) (gs:List Int) (x4 x5 x6:Option V),σ=[some (.ref a),some (.ref x),some (.ref g),some (iv i),x4,x5,x6]∧d'.M=x∧Rep C H' d' m' b'∧Vf0 [] d'.own H H'∧H' g=some (.lst (gs.map V.int))∧g ∉ d'.own∧i≤l.length∧Todo l i m' gs)
  (fun (σ:L2.St) (H':Hp)=>l.length-(match σ[3]? with | some (some (V.int i))=>i.toNat | _=>0))
  ⟨d1,Kg22.init,0,0,[],none,none,none,rfl,e1,R1.mine hg,K1.trans (Yi0 (Zz0 hg)),Zm0,hgo,Nat.zero_le _,Xw4 hask⟩ ?_ ?_
 ·rintro σ H' ⟨d',m',b',i,gs,x4,x5,x6,rfl,eM,R',kp,hg',ngo,hi,td⟩
  have sm:Jf0 H H':=fun b u hb=>(kp b u hb (by simp)).1
  have hS':=sm.seq hS
  refine ⟨_,rfl,_,rfl,a,_,rfl,.inl hS',_,_,rfl,rfl,_,rfl,?_⟩
  rw [List.length_map]
  refine Xb0 (fun hc=>?_) (fun hc=>?_)
  ·have hil:i<l.length:=by have:=of_decide_eq_true hc;omega
   obtain ⟨k,n,hk,hk0,hk2,hL,hok,td'⟩:=Zi5 td hil
   obtain ⟨fd',kpi,hb,Fo⟩:=W k hk
   refine ⟨_,rfl,_,rfl,a,l,i,k,n,rfl,hS',hk0,hk,fun z=>(hk2 z).1,?_⟩
   rw [Xo6 (fun z=>(hk2 z).2)]
   refine ⟨_,rfl,_,rfl,a,_,_,_,rfl,rfl,hS',Xv0 hk0,aD,_,_,_,rfl,rfl,T13.sd H',Xt2 (by rw [List.getElem?_map,List.getElem?_range hk];rfl),?_⟩
   refine ⟨da k,fd',_,_,rfl,kpi,Fo,hb,_,rfl,_,rfl,_,rfl,_,rfl,_,rfl,_,rfl,_,_,rfl,rfl,_,rfl,a,_,rfl,hS',fun c hc'=>?_⟩
   have ec:Jq4 (l.map V.int) (some (i:Int)) (some ((i:Int)+((Zl2 k n:Nat):Int)))=((l.drop i).take (Zl2 k n)).map V.int:=by rw [Za8 _ _ _ (by rw [List.length_map];exact hL),List.map_take,List.map_drop]
   dsimp only
   rw [ec]
   generalize has:List.take (Zl2 k n) (List.drop i l)=as at *
   have nco:c ∉ d'.own:=R'.fresh hc'
   have Rc:=R'.mine (u:=.lst (as.map V.int)) hc'
   have kpc:Vf0 [] d'.own H (upd H' c (.lst (as.map V.int))):=kp.trans (Yi0 (Zz0 hc'))
   have hgc:upd H' c (.lst (as.map V.int)) g=some (.lst (gs.map V.int)):=by rw [Zn0 (Ys0 hg' hc')];exact hg'
   refine ⟨d',m',b',c,as,(by rw [eM]),Rc,Zm0,nco,hok,fun H2 H3 d3 b3 p e3 R3 k3 hp3 np3 k2 hp2=>?_⟩
   have hpg:p≠g:=fun z=>by
    have:=(k2 g _ hgc ngo).1
    rw [← z,hp2] at this;cases this
   have hg3:=k3 g _ hgc ngo
   have e3M:d3.M=x:=e3.trans eM
   have short:(gs++(((dut k m' as).2.length:Int) :: (dut k m' as).2)).length≤1000100:=Xx4 hask td'
   rw [List.length_append,List.length_cons] at short
   refine ⟨_,rfl,.inl ⟨rfl,_,SqL.of hg3.1⟩,_,rfl,p,_,rfl,.inl (SqL.of hp3),g,_,_,rfl,rfl,hg3.1,(by rw [List.length_map];exact Nat.lt_of_le_of_lt (show gs.length≤1000100 by omega) (by decide)),?_⟩
   have eg:gs.map V.int++[V.int (((dut k m' as).2.map V.int).length:Int)]=(gs++[((dut k m' as).2.length:Int)]).map V.int:=by
    rw [List.map_append,List.length_map];rfl
   rw [eg]
   have hp4:upd H3 g (.lst ((gs++[((dut k m' as).2.length:Int)]).map V.int)) p=some (.lst ((dut k m' as).2.map V.int)):=by rw [Zn0 hpg];exact hp3
   refine ⟨_,rfl,.inl ⟨rfl,_,SqL.of Zm0⟩,_,rfl,g,p,_,_,rfl,rfl,Zm0,hp4,?_,?_⟩
   ·rw [List.length_map,List.length_map,List.length_append,List.length_singleton]
    exact Nat.le_trans (show gs.length+1+(dut k m' as).2.length≤1000100 by omega) (by decide)
   ·rw [Uz1]
    refine ⟨_,rfl,_,rfl,_,_,rfl,rfl,?_⟩
    have eg2:(gs++[((dut k m' as).2.length:Int)]).map V.int++(dut k m' as).2.map V.int=(gs++(((dut k m' as).2.length:Int) :: (dut k m' as).2)).map V.int:=by
     rw [← List.map_append,List.append_assoc];rfl
    have ei:(i:Int)+((Zl2 k n:Nat):Int)=((i+Zl2 k n:Nat):Int):=by omega
    have R4:Rep C (upd H3 g (.lst ((gs++(((dut k m' as).2.length:Int) :: (dut k m' as).2)).map V.int))) d3 (dut k m' as).1 b3:=by
     refine R3.other hg3.2
    have k4:Vf0 [] d3.own H (upd H3 g (.lst ((gs++(((dut k m' as).2.length:Int) :: (dut k m' as).2)).map V.int))):=fun b u hb' hn=>by
     have z:=(kpc.trans k3) b u hb' hn
     exact ⟨by rw [Zn0 (Ys0 hb' hgH)];exact z.1,z.2⟩
    refine ⟨⟨d3,(dut k m' as).1,b3,i+Zl2 k n,gs++(((dut k m' as).2.length:Int) :: (dut k m' as).2),some (V.int ((Zl2 k n:Nat):Int)),some (V.ref (da k)),some (V.ref p),?_,e3M,?_,?_,?_,hg3.2,hL,td'⟩,?_⟩
    ·show [some (V.ref a),some (V.ref x),some (V.ref g),some (V.int ((i:Int)+((Zl2 k n:Nat):Int))),_,_,_]=_
     rw [ei]
    ·rw [eg2];exact R4
    ·rw [eg2];exact k4
    ·rw [eg2];exact Zm0
    ·show l.length-((i:Int)+((Zl2 k n:Nat):Int)).toNat<l.length-((i:Nat):Int).toNat
     have:=Xq6 hk n
     omega
  ·have hil:l.length≤i:=by
    apply Nat.le_of_not_lt;intro z;exact hc (decide_eq_true (by omega))
   have eg:=Zj5 td hil
   subst eg
   exact ⟨_,rfl,q H' g hg'⟩
 ·rintro σ H' Q1 Q2 hm ⟨x,e1,y,e9,p1,ys,e7,e8,i1,j1,e10,e11,bb,e12,hq⟩
  exact ⟨x,e1,y,e9,p1,ys,e7,e8,i1,j1,e10,e11,bb,e12,hm _ _ hq⟩
def fnAt (K:PySem.W.Frag) (f:Addr):Option FuncData:=match K.lookup f with
 | some ⟨_,_,.func fd,_⟩=>some fd
 | _=>none
def isNone:Value→Bool
 | .none=>true
 | _=>false
def Uw6 (K:PySem.W.Frag) (f:Addr) (x qual:Str):Bool:=match fnAt K f with
 | some fd=>fd.name == x && (fd.qualname == qual && (fd.globals == mainGlobals && (fd.closure.isEmpty && (isNone fd.defaults && (fd.builtins == builtinsNs && PySem.W.codeIn K fd.code qual)))))
 | none=>false
def Jn5 (K:PySem.W.Frag) (f:Addr):Option (Arguments×FuncBody×Scope):=(fnAt K f).map fun fd=>(fd.params,fd.body,fd.scope)
theorem Jh6 {K:PySem.W.Frag}{f:Addr}{x qual:Str}{st:Stmt} (h:Uw6 K f x qual=true) (a:Jn5 K f=some (Uw0 st,.stmts (Vm0 st),Zh0 st)):∃ fd,Fun K x qual st f fd:=by
 unfold Uw6 at h
 unfold Jn5 at a
 cases e:fnAt K f with
 | none=>rw [e] at h;cases h
 | some fd =>
  rw [e] at h a
  have a':(fd.params,fd.body,fd.scope)=(Uw0 st,FuncBody.stmts (Vm0 st),Zh0 st):=Option.some.inj a
  injection a' with a1 a2
  injection a2 with a2 a3
  simp only [Bool.and_eq_true,beq_iff_eq] at h
  obtain ⟨h1,h2,h3,h4,h5,h6,h7⟩:=h
  obtain ⟨n,q,ps,bd,sc,gl,cl,df,kd,doc,pm,an,cd,ct,bl⟩:=fd
  dsimp only at h1 h2 h3 h4 h5 h6 h7 a1 a2 a3
  have h4':cl=[]:=List.isEmpty_iff.mp h4
  have h5':df=.none:=by
   unfold isNone at h5
   split at h5
   ·rfl
   ·cases h5
  subst h1 h2 h3 h6 h4' h5' a1 a2 a3
  unfold fnAt at e
  split at e
  ·rename_i oc od fd sl q
   cases e
   exact ⟨_,⟨oc,od,kd,doc,pm,an,cd,ct,sl,rfl,q,h7⟩,by unfold PySem.W.keepIn;dsimp only;rw [q]⟩
  ·cases e
def adr (K:PySem.W.Frag) (x:Str):Addr:=match PySem.W.nsIn K mainGlobals x with
 | some (some (.ref f))=>f
 | _=>0
def Vn3 (K:PySem.W.Frag) (x:Str):Bool:=match PySem.W.nsIn K mainGlobals x with
 | some (some (.ref _))=>true
 | _=>false
theorem Js6 {K:PySem.W.Frag}{x:Str} (h:Vn3 K x=true):PySem.W.nsIn K mainGlobals x=some (some (.ref (adr K x))):=by
 unfold Vn3 at h
 unfold adr
 split at h
 ·rename_i f e;rw [e]
 ·cases h
def Jn7 (K:PySem.W.Frag) (x:Str) (n:Int):Bool:=match PySem.W.nsIn K mainGlobals x with
 | some (some (.int i _))=>i == n
 | _=>false
theorem int_is {K:PySem.W.Frag}{x:Str}{n:Int} (h:Jn7 K x n=true):∃ t,PySem.W.nsIn K mainGlobals x=some (some (.int n t)):=by
 unfold Jn7 at h
 split at h
 ·rename_i i t e;rw [e,← beq_iff_eq.mp h];exact ⟨t,rfl⟩
 ·cases h
def Vt5 (K:PySem.W.Frag) (x:Str):Bool:=match PySem.W.nsIn K mainGlobals x with
 | some none=>true
 | _=>false
theorem Uv7 {K:PySem.W.Frag}{x:Str} (h:Vt5 K x=true):PySem.W.nsIn K mainGlobals x=some none:=by
 unfold Vt5 at h
 split at h
 ·rename_i e;exact e
 ·cases h
def Jy5 (K:PySem.W.Frag) (C:Addr) (x:Str):Addr:=match PySem.W.findIn K (.ref C) x with
 | some (some (.ref f))=>f
 | _=>0
def Uo5 (K:PySem.W.Frag) (C:Addr) (x:Str):Bool:=match PySem.W.findIn K (.ref C) x with
 | some (some (.ref f))=>PySem.W.isFn K (.ref f)
 | _=>false
theorem Jc7 {K:PySem.W.Frag}{C:Addr}{x:Str} (h:Uo5 K C x=true) (k:PySem.W.keepIn K (.ref (Jy5 K C x))=true):Vm6 K C x (Jy5 K C x):=by
 have e:PySem.W.findIn K (.ref C) x=some (some (.ref (Jy5 K C x)))∧PySem.W.isFn K (.ref (Jy5 K C x))=true:=by
  unfold Uo5 at h
  unfold Jy5
  split at h
  ·rename_i f e;rw [e];exact ⟨rfl,h⟩
  ·cases h
 exact ⟨e.1,e.2,k⟩
def Vv5 (K:PySem.W.Frag) (C:Addr) (x:Str):Bool:=match PySem.W.findIn K (.ref C) x with
 | some none=>true
 | _=>false
theorem Vu5 {K:PySem.W.Frag}{C:Addr}{x:Str} (h:Vv5 K C x=true):Jo0 K C x:=by
 unfold Vv5 at h
 unfold Jo0
 split at h
 ·rename_i e;exact e
 ·cases h
def wkIs (K:PySem.W.Frag) (d:Str) (o:Int) (x:Str):Bool:=match Jz5 K (adr K d) o with
 | some (.ref f)=>f == adr K x
 | _=>false
theorem wk_is {K:PySem.W.Frag}{d x:Str}{o:Int} (h:wkIs K d o x=true):Jz5 K (adr K d) o=some (.ref (adr K x)):=by
 unfold wkIs at h
 split at h
 ·rename_i f e;rw [e,beq_iff_eq.mp h]
 ·cases h
def exIs (K:PySem.W.Frag) (x y:Str):Bool:=match PySem.W.exmOne K (.ref (adr K x)) (.ref (adr K y)) with
 | some b=>b == (adr K x == adr K y)
 | none=>false
theorem ex_is {K:PySem.W.Frag}{x y:Str} (h:exIs K x y=true):PySem.W.exmOne K (.ref (adr K x)) (.ref (adr K y))=some (adr K x == adr K y):=by
 unfold exIs at h
 split at h
 ·rename_i b e;rw [e,beq_iff_eq.mp h]
 ·cases h
def Zo7 (K:PySem.W.Frag) (a:Addr):Option (List V):=match K.lookup a with
 | some ⟨.type c,_,.seq its _,_⟩=>if c = "tuple" ∧ its.toList.length≤1000 then its.toList.mapM absV else none
 | _=>none
theorem Zh8 {u:Value}{x:V} (h:absV u=some x):Vp0 x u:=by
 cases u with
 | none=>cases h;rfl
 | bool b=>cases h;rfl
 | int i t=>cases h;exact ⟨t,rfl⟩
 | str i t=>cases h;exact ⟨t,rfl⟩
 | bytes i t=>cases h;exact ⟨t,rfl⟩
 | float i t=>cases h;exact ⟨t,rfl⟩
 | ref a=>cases h;rfl
 | type n=>cases h;rfl
 | _=>cases h
theorem Xs4:∀ {us:List Value}{xs:List V},us.mapM absV=some xs→Xw0 xs us
 | [],xs,h=>by
  obtain rfl:[]=xs:=Option.some.inj h
  exact .nil
 | u :: us,xs,h=>by
  rw [List.mapM_cons] at h
  cases e:absV u with
  | none=>rw [e] at h;cases h
  | some x =>
   rw [e] at h
   cases e2:us.mapM absV with
   | none=>rw [e2] at h;cases h
   | some ys =>
    rw [e2] at h
    obtain rfl:x :: ys=xs:=Option.some.inj h
    exact .cons (Zh8 e) (Xs4 e2)
theorem Yq3 {K:PySem.W.Frag}{a:Addr}{xs:List V} (h:Zo7 K a=some xs):∀ H,SqT K H a xs:=by
 intro H
 unfold Zo7 at h
 split at h
 ·rename_i c dd its n sl e
  split at h
  ·rename_i hc
   obtain ⟨rfl,hl⟩:=hc
   exact .inr ⟨_,its,n,e,rfl,rfl,Nat.le_trans (show its.size≤1000 from hl) (by decide),Xs4 h⟩
  ·cases h
 ·cases h
theorem Zw0 {x:Str}{f:Addr}{fd:FuncData}{st:Stmt}{k:Nat}{ps:List Str}{sp:Sp} (m:mg x=some (.ref f)) (F:Fun K x x st f fd) (b:Ui0 K fd ps []) (o:FnW P w K mg base k f fd ps sp):FG P w K mg base x k ps sp:=⟨f,fd,m,F.kp,b,o⟩
theorem Yl1 {C:Addr}{x q:Str}{f:Addr}{fd:FuncData}{st:Stmt}{k:Nat}{ps:List Str}{sp:Sp} (m:Vm6 K C x f) (F:Fun K x q st f fd) (b:Ui0 K fd ps []) (o:FnW P w K mg base k f fd ps sp):MG P w K mg base C x k ps sp:=⟨f,fd,m,b,o⟩
theorem Xh0 {x:Str}{f:Addr}{fd:FuncData}{st:Stmt}{k:Nat}{ps:List Str}{sp:Sp} (F:Fun K x x st f fd) (b:Ui0 K fd ps []) (o:FnW P w K mg base k f fd ps sp):VG P w K mg base f k ps sp:=⟨F.kp,fd,b,o⟩
def sL {α:Type} (l:List (String×α)):List (Str×α):=l.map fun p=>(Str.ofString p.1,p.2)
def sL3 (l:List (String×Int×String)):List (Str×Int×Str):=l.map fun p=>(Str.ofString p.1,p.2.1,Str.ofString p.2.2)
noncomputable def Za6:List (Str×Nat):=sL [("x_of",28),("signed_part",8),("signed",9),("fits",10),("compared",11),("op_of",26),("even_op",27),("y_of",29),("z_of",30),("yz_of",31),("is_odd",32),("first_value",33),("second_value",34),("address",35),("near_target",36),("fitted",174),("mul",175),("add",179),("sub",181),("addu_of_two",183),("addu_of_four",184),("addu_of_eight",185),("addu_of_sixteen",186),("addu",180),("subu",182),("compare",187),("compare_unsigned",188),("neg",189),("mulu",176),("div",177),("divu",178),("sl",190),("slu",191),("sr",192),("sru",193),("bit_or",40),("bit_orn",41),("bit_nor",42),("bit_xor",43),("bit_and",44),("bit_andn",45),("bit_nand",46),("bit_nxor",47),("mux",53),("sadd",54),("differences",48),("bdif",49),("wdif",50),("tdif",51),("odif",52),("far_target",37),("is_so",61),("holds",62),("run_branch",63),("run_conditional_set",64),("run_zero_or_set",65),("run_jump",143),("run_target",144),("run_nothing",146),("run_go",141),("run_get",145),("run_constant",142),("spread",55),("mor",56),("mxor",57),("run_bits",59),("run_whole",196),("sign_of",84),("magnitude",85),("is_no_number",86),("is_infinite",87),("is_zero",88),("with_sign",89),("mantissa_of",90),("exponent_of",91),("goes_up",92),("shortened",93),("is_shortened_exactly",94),("past_greatest",95),("rounded",96),("made",104),("is_unordered",100),("is_signalling",101),("no_number_of",102),("invalid",103),("rank",105),("fcmp",106),("fun",107),("feql",108),("scaled",109),("sum_that_is_zero",110),("finite_sum",111),("fadd",112),("fsub",113),("fmul",114),("finite_quotient",115),("fdiv",116),("finite_rest",117),("frem",118),("run_floating",120),("mode_of",122),("whole_magnitude",123),("whole_value",124),("fixu",125),("fix",126),("whole_root",127),("finite_root",128),("fsqrt",129),("fint",130),("flot",131),("flotu",132),("widened",97),("made_short",133),("sflot",134),("sflotu",135),("run_fix",138),("run_float",139),("size_of",159),("is_unsigned",160),("run_load",161),("ldht",164),("ldunc",166),("ldsf",163),("stht",168),("stco",169),("stunc",170),("run_store",162),("cswap",165),("narrowed",98),("stsf",167),("run_other_storage",172),("run_missing",198),("trap",201),("is_there",217),("refusal",210),("answer_place",216),("answer_get",218),("answer_special",220),("answer_go",214),("answer_set",219),("answer_begin",211),("call_length",222),("put_arithmetic",156),("push",149),("run_push_jump",150),("run_push_go",151),("pop_registers",152),("results",153),("run_pop",154),("put_globals",155),("run_put",157),("ranges",199),("op_table",200),("run_steps",202),("run",203),("answer_run",215),("answer_write",212),("answer_read",213),("answers",223)]
noncomputable def Xk6:List (Str×Str×Nat):=[("value_of","Machine.value_of",4),("make_local","Machine.make_local",6),("give","Machine.give",5),("special_of","Machine.special_of",7),("add_flags","Machine.add_flags",8),("rounding","Machine.rounding",9),("go_on","Machine.go_on",10),("load","Machine.load",2),("store","Machine.store",3),("begin","Machine.begin",1),("__init__","Machine.__init__",0)]
noncomputable def refL:List Str:=["Machine","PastMemory","NoInstruction","NotAllowed","NothingPushed","TooMuchPushed","WORKS_bits","WORKS_floating","FIXES","FLOATS","WORKS_storage","WORKS_whole","NEGATIONS","LENGTHS","DUTIES","DOUBLE","SINGLE"]
noncomputable def intL:List (Str×Int):=sL [("MASK",18446744073709551615),("MEMORY_SIZE",1048576),("RD",1),("RH",3),("RJ",4),("RM",5),("RR",6),("RG",19),("RL",20),("RA",21),("RP",23),("RXX",29),("LOW_BITS",72340172838076673),("INEXACT",1),("DIVIDED_BY_ZERO",2),("UNDERFLOW",4),("OVERFLOW",8),("INVALID",16),("FIX_OVERFLOW",32),("WHOLE_OVERFLOW",64),("DIVIDE_CHECK",128),("SIGN",9223372036854775808),("INFINITY",9218868437227405312),("NO_NUMBER",9221120237041090560),("QUIET",2251799813685248),("NEAREST",0),("UP",2),("DOWN",3),("MOST_PUSHED",65536),("WRITE",1),("MOST_BYTES",65536),("HOW_MANY_PLAIN",256),("HOW_MANY_SPECIAL",32)]
noncomputable def noneL:List Str:=["len","range","min","max","abs"]
noncomputable def Jq6:List Str:=["memory","local","wide","special","pushed","place","behind"]
noncomputable def Jv7:List Str:=["PastMemory","NoInstruction","NotAllowed","NothingPushed","TooMuchPushed"]
noncomputable def wkL:List (Str×Int×Str):=sL3 [("WORKS_bits",192,"bit_or"),("WORKS_bits",194,"bit_orn"),("WORKS_bits",196,"bit_nor"),("WORKS_bits",198,"bit_xor"),("WORKS_bits",200,"bit_and"),("WORKS_bits",202,"bit_andn"),("WORKS_bits",204,"bit_nand"),("WORKS_bits",206,"bit_nxor"),("WORKS_bits",208,"bdif"),("WORKS_bits",210,"wdif"),("WORKS_bits",212,"tdif"),("WORKS_bits",214,"odif"),("WORKS_bits",216,"mux"),("WORKS_bits",218,"sadd"),("WORKS_bits",220,"mor"),("WORKS_bits",222,"mxor"),("WORKS_floating",1,"fcmp"),("WORKS_floating",2,"fun"),("WORKS_floating",3,"feql"),("WORKS_floating",4,"fadd"),("WORKS_floating",6,"fsub"),("WORKS_floating",16,"fmul"),("WORKS_floating",20,"fdiv"),("WORKS_floating",22,"frem"),("FIXES",5,"fix"),("FIXES",7,"fixu"),("FIXES",21,"fsqrt"),("FIXES",23,"fint"),("FLOATS",8,"flot"),("FLOATS",10,"flotu"),("FLOATS",12,"sflot"),("FLOATS",14,"sflotu"),("WORKS_storage",144,"ldsf"),("WORKS_storage",146,"ldht"),("WORKS_storage",148,"cswap"),("WORKS_storage",150,"ldunc"),("WORKS_storage",176,"stsf"),("WORKS_storage",178,"stht"),("WORKS_storage",180,"stco"),("WORKS_storage",182,"stunc"),("WORKS_whole",24,"mul"),("WORKS_whole",26,"mulu"),("WORKS_whole",28,"div"),("WORKS_whole",30,"divu"),("WORKS_whole",32,"add"),("WORKS_whole",34,"addu"),("WORKS_whole",36,"sub"),("WORKS_whole",38,"subu"),("WORKS_whole",40,"addu_of_two"),("WORKS_whole",42,"addu_of_four"),("WORKS_whole",44,"addu_of_eight"),("WORKS_whole",46,"addu_of_sixteen"),("WORKS_whole",48,"compare"),("WORKS_whole",50,"compare_unsigned"),("WORKS_whole",52,"neg"),("WORKS_whole",54,"subu"),("WORKS_whole",56,"sl"),("WORKS_whole",58,"slu"),("WORKS_whole",60,"sr"),("WORKS_whole",62,"sru")]
noncomputable def runL:List Str:=["run_missing","run_floating","run_fix","run_float","run_whole","run_branch","run_conditional_set","run_zero_or_set","run_load","run_other_storage","run_nothing","run_go","run_store","run_push_go","run_bits","run_constant","run_jump","run_push_jump","run_target","run_put","run_pop","run_get"]
noncomputable def dutL:List Str:=["answer_begin","answer_write","answer_read","answer_go","answer_run","answer_place","answer_get","answer_set","answer_special"]
structure Raw (K:PySem.W.Frag):Prop where
 c1:(Za6.take 40).all (fun p=>Vn3 K p.1 && Uw6 K (adr K p.1) p.1 p.1)=true
 c1b:((Za6.drop 40).take 40).all (fun p=>Vn3 K p.1 && Uw6 K (adr K p.1) p.1 p.1)=true
 c1c:((Za6.drop 80).take 40).all (fun p=>Vn3 K p.1 && Uw6 K (adr K p.1) p.1 p.1)=true
 c1d:(Za6.drop 120).all (fun p=>Vn3 K p.1 && Uw6 K (adr K p.1) p.1 p.1)=true
 c2:Xk6.all (fun p=>Uo5 K (adr K "Machine") p.1 && Uw6 K (Jy5 K (adr K "Machine") p.1) p.1 p.2.1)=true
 c3:refL.all (Vn3 K)=true
 c4:intL.all (fun p=>Jn7 K p.1 p.2)=true
 c5:noneL.all (Vt5 K)=true
 c6:Jq6.all (Vv5 K (adr K "Machine"))=true
 c7:Jv7.all (fun x=>PySem.W.excIn K (adr K x) bmE "Exception.__new__")=true
 c8:Jv7.all (fun x=>Jv7.all (fun y=>exIs K x y))=true
 c9:(wkL.take 30).all (fun p=>wkIs K p.1 p.2.1 p.2.2)=true
 c9b:(wkL.drop 30).all (fun p=>wkIs K p.1 p.2.1 p.2.2)=true
 c10:PySem.W.plainGet K (adr K "Machine") Str.empty=true
 c11:PySem.W.hasDictIn K (adr K "Machine")=true
 c12:PySem.W.plainOver K (adr K "Machine")=true
 c13:PySem.W.makesIn K (adr K "Machine")=true
 c14:PySem.W.keepIn K (.ref (adr K "Machine"))=true
 c15:decide ([adr K "PastMemory",adr K "NoInstruction",adr K "NotAllowed",adr K "NothingPushed",adr K "TooMuchPushed"].Nodup)=true
 asts:(Za6.take 80).map (fun p=>Jn5 K (adr K p.1))=(Za6.take 80).map (fun p=>some (Uw0 (top p.2),FuncBody.stmts (Vm0 (top p.2)),Zh0 (top p.2)))
 astsb:(Za6.drop 80).map (fun p=>Jn5 K (adr K p.1))=(Za6.drop 80).map (fun p=>some (Uw0 (top p.2),FuncBody.stmts (Vm0 (top p.2)),Zh0 (top p.2)))
 masts:Xk6.map (fun p=>Jn5 K (Jy5 K (adr K "Machine") p.1))=Xk6.map (fun p=>some (Uw0 (Xa0 (top 24) p.2.2),FuncBody.stmts (Vm0 (Xa0 (top 24) p.2.2)),Zh0 (Xa0 (top 24) p.2.2)))
 sa:PySem.W.findIn K (.ref (adr K "Machine")) "__setattr__" = some (some (.builtin "object.__setattr__"))
 tDbl:Zo7 K (adr K "DOUBLE")=some [iv 53,iv 1074,iv Kg22.INF]
 tSgl:Zo7 K (adr K "SINGLE")=some [iv 24,iv 149,iv Vb0]
 tNeg:Zo7 K (adr K "NEGATIONS")=some [.int 52,.int 54]
 tLen:Zo7 K (adr K "LENGTHS")=some (Jh7.map iv)
 tDut:Zo7 K (adr K "DUTIES")=some (dutL.map fun x=>.ref (adr K x))
theorem Zd2 {α:Type}{l:List α}{f:α→Bool} (h:l.all f=true) {i:Nat}{x:α} (e:l[i]? = some x):f x=true:=List.all_eq_true.mp h x (List.mem_of_getElem? e)
theorem Ja6 {α β:Type}{l:List α}{f g:α→β} (h:l.map f=l.map g) {i:Nat}{x:α} (e:l[i]? = some x):f x=g x:=by
 have:=congrArg (·[i]?) h
 simp only [List.getElem?_map,e] at this
 exact Option.some.inj this
section
variable {K:PySem.W.Frag}
theorem Ux1 {α:Type}{f:α→Bool} (n:Nat) {l:List α} (h1:(l.take n).all f=true) (h2:(l.drop n).all f=true):l.all f=true:=by
 rw [← List.take_append_drop n l,List.all_append,h1,h2];rfl
theorem Uc5 {α β:Type}{f g:α→β} (n:Nat) {l:List α} (h1:(l.take n).map f=(l.take n).map g) (h2:(l.drop n).map f=(l.drop n).map g):l.map f=l.map g:=by
 rw [← List.take_append_drop n l,List.map_append,List.map_append,h1,h2]
theorem Raw.e1 (R:Raw K):Za6.all (fun p=>Vn3 K p.1 && Uw6 K (adr K p.1) p.1 p.1)=true :=
 Ux1 40 R.c1 (Ux1 40 R.c1b (by rw [List.drop_drop];exact Ux1 40 R.c1c (by rw [List.drop_drop];exact R.c1d)))
variable {h:Heap}{mg:Str→Option Value}
theorem Zi0 (R:Raw K) (X:K.In h) (G:h.Ns mainGlobals mg) (i:Nat) (x:Str) (n:Nat) (e:Za6[i]? = some (x,n)):∃ fd,mg x=some (.ref (adr K x))∧Fun K x x (top n) (adr K x) fd:=by
 have z:=Zd2 R.e1 e
 simp only [Bool.and_eq_true] at z
 obtain ⟨fd,F⟩:=Jh6 (st:=top n) z.2 (Ja6 (Uc5 80 R.asts R.astsb) e)
 exact ⟨fd,PySem.W.mg_of X G (Js6 z.1),F⟩
theorem Uo0 (R:Raw K) (i:Nat) (x q:Str) (n:Nat) (e:Xk6[i]? = some (x,q,n)):∃ fd,Vm6 K (adr K "Machine") x (Jy5 K (adr K "Machine") x)∧Fun K x q (Xa0 (top 24) n) (Jy5 K (adr K "Machine") x) fd:=by
 have z:=Zd2 R.c2 e
 simp only [Bool.and_eq_true] at z
 obtain ⟨fd,F⟩:=Jh6 (st:=Xa0 (top 24) n) z.2 (Ja6 R.masts e)
 exact ⟨fd,Jc7 z.1 F.kp,F⟩
theorem Vh0 (R:Raw K) (X:K.In h) (G:h.Ns mainGlobals mg) (i:Nat) (x:Str) (e:refL[i]? = some x):mg x=some (.ref (adr K x)):=PySem.W.mg_of X G (Js6 (Zd2 R.c3 e))
theorem Yp0 (R:Raw K) (X:K.In h) (G:h.Ns mainGlobals mg) (i:Nat) (x:Str) (n:Int) (e:intL[i]? = some (x,n)):∃ t,mg x=some (.int n t):=let ⟨t,z⟩:=int_is (Zd2 R.c4 e);⟨t,PySem.W.mg_of X G z⟩
theorem Jp0 (R:Raw K) (X:K.In h) (G:h.Ns mainGlobals mg) (i:Nat) (x:Str) (e:noneL[i]? = some x):mg x=none:=PySem.W.mg_none_of X G (Uv7 (Zd2 R.c5 e))
theorem Yb1 (R:Raw K) (i:Nat) (x:Str) (e:Jq6[i]? = some x):Jo0 K (adr K "Machine") x:=Vu5 (Zd2 R.c6 e)
theorem Yn2 (R:Raw K) (i:Nat) (x:Str) (e:Jv7[i]? = some x):ExC K (adr K x):=⟨Zd2 R.c7 e⟩
theorem Yg0 (R:Raw K) (i:Nat) (d:Str) (o:Int) (x:Str) (e:wkL[i]? = some (d,o,x)):Jz5 K (adr K d) o=some (.ref (adr K x)):=wk_is (Zd2 (Ux1 30 R.c9 R.c9b) e)
end
def Ur0 (K:PySem.W.Frag) (e:Nat):Addr:=adr K (match e with | 1 => "PastMemory" | 2 => "NoInstruction" | 3 => "NotAllowed" | 4 => "NothingPushed" | _ => "TooMuchPushed")
abbrev mC (K:PySem.W.Frag):Addr:=adr K "Machine"
noncomputable def Ju7 (K:PySem.W.Frag) (i:Nat):Addr:=adr K (runL.getD i "run_missing")
noncomputable def daOf (K:PySem.W.Frag) (i:Nat):Addr:=adr K (dutL.getD i "answer_begin")
theorem Vu0.sub {j k:Nat}{f:Addr}{fd:FuncData}{ps:List Str}{sp sp':Sp} (F:FnW P w K mg base j f fd ps sp) (h:j≤k) (hi:∀ vs H Q E,sp' vs H Q E→sp vs H Q E):FnW P w K mg base k f fd ps sp':=(F.imp hi).mono h
theorem Zm1 {C:Addr}{fc:Nat→Addr}{o1 o2:Nat→Prop} (h:∀ o,o2 o→o1 o):∀ vs H Q E,Xc0 C fc o2 vs H Q E→Xc0 C fc o1 vs H Q E:=fun vs H Q E ⟨d,m,n,e,R,hn,hl,ho,q,p⟩=>⟨d,m,n,e,R,hn,hl,h _ ho,q,p⟩
theorem Yh1 {C:Addr}{o1 o2:List Int→Prop}{g:Jt5} (h:∀ as,o2 as→o1 as):∀ vs H Q E,Ju0 C o2 g vs H Q E→Ju0 C o1 g vs H Q E:=fun vs H Q E ⟨d,m,b,c,as,e,R,hc,nc,ho,q⟩=>⟨d,m,b,c,as,e,R,hc,nc,h _ ho,q⟩
theorem bd0 {x qual:Str}{st:Stmt}{f:Addr}{fd:FuncData} (F:Fun K x qual st f fd) (h:∀ (kV doc pm:Value) (an:Option Addr) (cdv ct:Value),bindArgs (PySem.W.fnOf x qual (Uw0 st) (Vm0 st) (Zh0 st) .none kV doc pm an cdv ct) ⟨[],[]⟩=pure []:=by intros;rfl):Ui0 K fd [] []:=F.binds (ps:=[]) fun a b c d e g us hl=>match us,hl with | [],_=>h a b c d e g
theorem bd1 {x qual:Str}{st:Stmt}{f:Addr}{fd:FuncData}{p1:Str} (F:Fun K x qual st f fd) (h:∀ (kV doc pm:Value) (an:Option Addr) (cdv ct:Value) (u1:Value),bindArgs (PySem.W.fnOf x qual (Uw0 st) (Vm0 st) (Zh0 st) .none kV doc pm an cdv ct) ⟨[u1],[]⟩=pure [(p1,u1)]:=by intros;rfl):Ui0 K fd [p1] []:=F.binds (ps:=[p1]) fun a b c d e g us hl=>match us,hl with | [_],_=>h a b c d e g _
theorem bd2 {x qual:Str}{st:Stmt}{f:Addr}{fd:FuncData}{p1 p2:Str} (F:Fun K x qual st f fd) (h:∀ (kV doc pm:Value) (an:Option Addr) (cdv ct:Value) (u1 u2:Value),bindArgs (PySem.W.fnOf x qual (Uw0 st) (Vm0 st) (Zh0 st) .none kV doc pm an cdv ct) ⟨[u1,u2],[]⟩=pure [(p1,u1),(p2,u2)]:=by intros;rfl):Ui0 K fd [p1,p2] []:=F.binds (ps:=[p1,p2]) fun a b c d e g us hl=>match us,hl with | [_,_],_=>h a b c d e g _ _
theorem bd3 {x qual:Str}{st:Stmt}{f:Addr}{fd:FuncData}{p1 p2 p3:Str} (F:Fun K x qual st f fd) (h:∀ (kV doc pm:Value) (an:Option Addr) (cdv ct:Value) (u1 u2 u3:Value),bindArgs (PySem.W.fnOf x qual (Uw0 st) (Vm0 st) (Zh0 st) .none kV doc pm an cdv ct) ⟨[u1,u2,u3],[]⟩=pure [(p1,u1),(p2,u2),(p3,u3)]:=by intros;rfl):Ui0 K fd [p1,p2,p3] []:=F.binds (ps:=[p1,p2,p3]) fun a b c d e g us hl=>match us,hl with | [_,_,_],_=>h a b c d e g _ _ _
theorem bd4 {x qual:Str}{st:Stmt}{f:Addr}{fd:FuncData}{p1 p2 p3 p4:Str} (F:Fun K x qual st f fd) (h:∀ (kV doc pm:Value) (an:Option Addr) (cdv ct:Value) (u1 u2 u3 u4:Value),bindArgs (PySem.W.fnOf x qual (Uw0 st) (Vm0 st) (Zh0 st) .none kV doc pm an cdv ct) ⟨[u1,u2,u3,u4],[]⟩=pure [(p1,u1),(p2,u2),(p3,u3),(p4,u4)]:=by intros;rfl):Ui0 K fd [p1,p2,p3,p4] []:=F.binds (ps:=[p1,p2,p3,p4]) fun a b c d e g us hl=>match us,hl with | [_,_,_,_],_=>h a b c d e g _ _ _ _
theorem bd5 {x qual:Str}{st:Stmt}{f:Addr}{fd:FuncData}{p1 p2 p3 p4 p5:Str} (F:Fun K x qual st f fd) (h:∀ (kV doc pm:Value) (an:Option Addr) (cdv ct:Value) (u1 u2 u3 u4 u5:Value),bindArgs (PySem.W.fnOf x qual (Uw0 st) (Vm0 st) (Zh0 st) .none kV doc pm an cdv ct) ⟨[u1,u2,u3,u4,u5],[]⟩=pure [(p1,u1),(p2,u2),(p3,u3),(p4,u4),(p5,u5)]:=by intros;rfl):Ui0 K fd [p1,p2,p3,p4,p5] []:=F.binds (ps:=[p1,p2,p3,p4,p5]) fun a b c d e g us hl=>match us,hl with | [_,_,_,_,_],_=>h a b c d e g _ _ _ _ _
local macro_rules
 | `(‹_›)=>`(by with_reducible assumption)
theorem allm {p:Nat→Prop}{l:List Nat}{o:Nat} (m:o∈l) (t:∀ o,o∈l→p o):p o:=t o m
theorem Ve0 {p:Nat→Prop}{a:Nat}{l:List Nat} (h:p a) (t:∀ o,o∈l→p o):∀ o,o∈a :: l→p o:=fun o m=>(List.mem_cons.mp m).elim (fun e=>e ▸ h) (t o)
theorem all0 {p:Nat→Prop}:∀ o,o∈([]:List Nat)→p o:=nofun
variable (P w K mg base) in def AllOk:Prop:=∃ fd,Fun K "answers" "answers" (top 223) (adr K "answers") fd∧FnW P w K mg base 12 (adr K "answers") fd ["calls"] (Zz2 K)
theorem Jr6 {h:Heap} (R:Raw K) (X:K.In h) (G:h.Ns mainGlobals mg):AllOk P w K mg base:=by
 have T:Txt K mg (adr K "Machine"):=⟨⟨R.c10,R.c11,R.c12,R.sa⟩,Yb1 R 0 "memory" rfl,Yb1 R 1 "local" rfl,Yb1 R 2 "wide" rfl,Yb1 R 3 "special" rfl,Yb1 R 4 "pushed" rfl,Yb1 R 5 "place" rfl,Yb1 R 6 "behind" rfl,Vh0 R X G 0 "Machine" rfl,Yp0 R X G 7 "RG" 19 rfl,Jp0 R X G 0 "len" rfl⟩
 have T2:Zx1 mg:=⟨Yp0 R X G 8 "RL" 20 rfl,Yp0 R X G 9 "RA" 21 rfl,Yp0 R X G 0 "MASK" 18446744073709551615 rfl,Yp0 R X G 1 "MEMORY_SIZE" 1048576 rfl⟩
 have T3:Zb6 mg:=⟨Yp0 R X G 19 "WHOLE_OVERFLOW" 64 rfl,Yp0 R X G 20 "DIVIDE_CHECK" 128 rfl,Yp0 R X G 3 "RH" 3 rfl,Yp0 R X G 6 "RR" 6 rfl,Yp0 R X G 2 "RD" 1 rfl,Jp0 R X G 2 "min" rfl⟩
 have T4:Txt4 mg:=⟨Yp0 R X G 5 "RM" 5 rfl,Jp0 R X G 1 "range" rfl,Jp0 R X G 3 "max" rfl⟩
 have T5:Txt5 mg:=⟨Yp0 R X G 12 "LOW_BITS" 72340172838076673 rfl⟩
 have T6:Ze2 mg:=⟨Yp0 R X G 21 "SIGN" 9223372036854775808 rfl,Yp0 R X G 22 "INFINITY" 9218868437227405312 rfl,Yp0 R X G 23 "NO_NUMBER" 9221120237041090560 rfl,Yp0 R X G 24 "QUIET" 2251799813685248 rfl,Yp0 R X G 25 "NEAREST" 0 rfl,Yp0 R X G 26 "UP" 2 rfl,Yp0 R X G 27 "DOWN" 3 rfl,Yp0 R X G 13 "INEXACT" 1 rfl,Yp0 R X G 14 "DIVIDED_BY_ZERO" 2 rfl,Yp0 R X G 15 "UNDERFLOW" 4 rfl,Yp0 R X G 16 "OVERFLOW" 8 rfl,Yp0 R X G 17 "INVALID" 16 rfl,Yp0 R X G 18 "FIX_OVERFLOW" 32 rfl,Jp0 R X G 3 "max" rfl,Jp0 R X G 2 "min" rfl,Jp0 R X G 4 "abs" rfl⟩
 have T7:Txt7 K mg (adr K "DOUBLE") (adr K "SINGLE"):=⟨Vh0 R X G 15 "DOUBLE" rfl,Vh0 R X G 16 "SINGLE" rfl,Yq3 R.tDbl,Yq3 R.tSgl⟩
 have T8:Txt8 mg:=⟨Yp0 R X G 10 "RP" 23 rfl⟩
 have T9:Txt9 mg:=⟨Yp0 R X G 11 "RXX" 29 rfl⟩
 have T10:Jr5 mg:=⟨Yp0 R X G 31 "HOW_MANY_PLAIN" 256 rfl,Yp0 R X G 32 "HOW_MANY_SPECIAL" 32 rfl,Yp0 R X G 30 "MOST_BYTES" 65536 rfl⟩
 have T11:Txt11 K mg (adr K "LENGTHS"):=⟨Yp0 R X G 29 "WRITE" 1 rfl,Vh0 R X G 13 "LENGTHS" rfl,Yq3 R.tLen⟩
 have T12:Yj3 mg:=⟨Yp0 R X G 28 "MOST_PUSHED" 65536 rfl,Yp0 R X G 4 "RJ" 4 rfl,Jp0 R X G 2 "min" rfl,Jp0 R X G 1 "range" rfl⟩
 have T13:Txt13 K mg (adr K "DUTIES") (daOf K):=⟨Vh0 R X G 14 "DUTIES" rfl,Yq3 R.tDut⟩
 have w1:mg "PastMemory" = some (.ref (Ur0 K 1)):=Vh0 R X G 1 "PastMemory" rfl
 have x1:ExC K (Ur0 K 1):=Yn2 R 0 "PastMemory" rfl
 have w2:mg "NoInstruction" = some (.ref (Ur0 K 2)):=Vh0 R X G 2 "NoInstruction" rfl
 have x2:ExC K (Ur0 K 2):=Yn2 R 1 "NoInstruction" rfl
 have w3:mg "NotAllowed" = some (.ref (Ur0 K 3)):=Vh0 R X G 3 "NotAllowed" rfl
 have x3:ExC K (Ur0 K 3):=Yn2 R 2 "NotAllowed" rfl
 have w4:mg "NothingPushed" = some (.ref (Ur0 K 4)):=Vh0 R X G 4 "NothingPushed" rfl
 have x4:ExC K (Ur0 K 4):=Yn2 R 3 "NothingPushed" rfl
 have w5:mg "TooMuchPushed" = some (.ref (Ur0 K 5)):=Vh0 R X G 5 "TooMuchPushed" rfl
 have x5:ExC K (Ur0 K 5):=Yn2 R 4 "TooMuchPushed" rfl
 have hWORKS_bits:=Vh0 R X G 6 "WORKS_bits" rfl
 have hWORKS_floating:=Vh0 R X G 7 "WORKS_floating" rfl
 have hFIXES:=Vh0 R X G 8 "FIXES" rfl
 have hFLOATS:=Vh0 R X G 9 "FLOATS" rfl
 have hWORKS_storage:=Vh0 R X G 10 "WORKS_storage" rfl
 have hWORKS_whole:=Vh0 R X G 11 "WORKS_whole" rfl
 have hNEG:=Vh0 R X G 12 "NEGATIONS" rfl
 have sNEG:=Yq3 R.tNeg
 obtain ⟨dz0,mz0,Fz0⟩:=Uo0 R 0 "value_of" "Machine.value_of" 4 rfl
 have oz0:FnW P w K mg base 1 _ _ _ _:=Js3 (C:=mC K) Fz0 ‹_›
 have gz0:=Yl1 mz0 Fz0 (bd2 Fz0) oz0
 obtain ⟨dz1,mz1,Fz1⟩:=Uo0 R 1 "make_local" "Machine.make_local" 6 rfl
 have oz1:FnW P w K mg base 1 _ _ _ _:=Zm3 (C:=mC K) Fz1 ‹_›
 have gz1:=Yl1 mz1 Fz1 (bd2 Fz1) oz1
 obtain ⟨dz2,mz2,Fz2⟩:=Uo0 R 2 "give" "Machine.give" 5 rfl
 have bz1:=bd2 Fz1
 have oz2:FnW P w K mg base 2 _ _ _ _:=Uc7 (C:=mC K) Fz2 ‹_› ‹_› ‹_› ‹_›
 have gz2:=Yl1 mz2 Fz2 (bd3 Fz2) oz2
 obtain ⟨dz3,mz3,Fz3⟩:=Uo0 R 3 "special_of" "Machine.special_of" 7 rfl
 have oz3:FnW P w K mg base 1 _ _ _ _:=Zk3 (C:=mC K) Fz3 ‹_› ‹_›
 have gz3:=Yl1 mz3 Fz3 (bd2 Fz3) oz3
 obtain ⟨dz4,mz4,Fz4⟩:=Uo0 R 4 "add_flags" "Machine.add_flags" 8 rfl
 have oz4:FnW P w K mg base 1 _ _ _ _:=Vf3 (C:=mC K) Fz4 ‹_› ‹_›
 have gz4:=Yl1 mz4 Fz4 (bd2 Fz4) oz4
 obtain ⟨dz5,mz5,Fz5⟩:=Uo0 R 5 "rounding" "Machine.rounding" 9 rfl
 have oz5:FnW P w K mg base 1 _ _ _ _:=Jw3 (C:=mC K) Fz5 ‹_› ‹_›
 have gz5:=Yl1 mz5 Fz5 (bd1 Fz5) oz5
 obtain ⟨dz6,mz6,Fz6⟩:=Uo0 R 6 "go_on" "Machine.go_on" 10 rfl
 have oz6:FnW P w K mg base 1 _ _ _ _:=Xa6 (C:=mC K) Fz6 ‹_› ‹_›
 have gz6:=Yl1 mz6 Fz6 (bd1 Fz6) oz6
 obtain ⟨dz7,mz7,Fz7⟩:=Uo0 R 7 "load" "Machine.load" 2 rfl
 have oz7:FnW P w K mg base 1 _ _ _ _:=Vx7 (C:=mC K) (c1:=Ur0 K 1) Fz7 ‹_› ‹_› ‹_› ‹_›
 have gz7:=Yl1 mz7 Fz7 (bd3 Fz7) oz7
 obtain ⟨dz8,mz8,Fz8⟩:=Uo0 R 8 "store" "Machine.store" 3 rfl
 have oz8:FnW P w K mg base 1 _ _ _ _:=Yu6 (C:=mC K) (c1:=Ur0 K 1) Fz8 ‹_› ‹_› ‹_› ‹_›
 have gz8:=Yl1 mz8 Fz8 (bd4 Fz8) oz8
 obtain ⟨dz9,mz9,Fz9⟩:=Uo0 R 9 "begin" "Machine.begin" 1 rfl
 have oz9:FnW P w K mg base 1 _ _ _ _:=Xe6 (C:=mC K) Fz9 ‹_›
 have gz9:=Yl1 mz9 Fz9 (bd1 Fz9) oz9
 obtain ⟨dz10,mz10,Fz10⟩:=Uo0 R 10 "__init__" "Machine.__init__" 0 rfl
 have bz9:=bd1 Fz9
 have oz10:FnW P w K mg base 2 _ _ _ _:=Ub7 (C:=mC K) Fz10 ‹_› ‹_› ‹_› ‹_›
 have gz10:=Yl1 mz10 Fz10 (bd1 Fz10) oz10
 obtain ⟨d1,m1,F1⟩:=Zi0 R X G 1 "signed_part" 8 rfl
 have o1:FnW P w K mg base 1 _ _ _ _:=Vi2 F1
 have g1:=Zw0 m1 F1 (bd2 F1) o1
 obtain ⟨d2,m2,F2⟩:=Zi0 R X G 2 "signed" 9 rfl
 have o2:FnW P w K mg base 2 _ _ _ _:=Vi5 F2 ‹_›
 have g2:=Zw0 m2 F2 (bd1 F2) o2
 obtain ⟨d3,m3,F3⟩:=Zi0 R X G 3 "fits" 10 rfl
 have o3:FnW P w K mg base 1 _ _ _ _:=Ui7 F3
 have g3:=Zw0 m3 F3 (bd2 F3) o3
 obtain ⟨d4,m4,F4⟩:=Zi0 R X G 4 "compared" 11 rfl
 have o4:FnW P w K mg base 1 _ _ _ _:=Za4 F4 ‹_›
 have g4:=Zw0 m4 F4 (bd2 F4) o4
 obtain ⟨d5,m5,F5⟩:=Zi0 R X G 5 "op_of" 26 rfl
 have o5:FnW P w K mg base 1 _ _ _ _:=Yw6 F5
 have g5:=Zw0 m5 F5 (bd1 F5) o5
 obtain ⟨d6,m6,F6⟩:=Zi0 R X G 6 "even_op" 27 rfl
 have o6:FnW P w K mg base 1 _ _ _ _:=Ux4 F6
 have g6:=Zw0 m6 F6 (bd1 F6) o6
 obtain ⟨d0,m0,F0⟩:=Zi0 R X G 0 "x_of" 28 rfl
 have o0:FnW P w K mg base 1 _ _ _ _:=Ys6 F0
 have g0:=Zw0 m0 F0 (bd1 F0) o0
 obtain ⟨d7,m7,F7⟩:=Zi0 R X G 7 "y_of" 29 rfl
 have o7:FnW P w K mg base 1 _ _ _ _:=Vf7 F7
 have g7:=Zw0 m7 F7 (bd1 F7) o7
 obtain ⟨d8,m8,F8⟩:=Zi0 R X G 8 "z_of" 30 rfl
 have o8:FnW P w K mg base 1 _ _ _ _:=Ve7 F8
 have g8:=Zw0 m8 F8 (bd1 F8) o8
 obtain ⟨d9,m9,F9⟩:=Zi0 R X G 9 "yz_of" 31 rfl
 have o9:FnW P w K mg base 1 _ _ _ _:=Yr6 F9
 have g9:=Zw0 m9 F9 (bd1 F9) o9
 obtain ⟨d10,m10,F10⟩:=Zi0 R X G 10 "is_odd" 32 rfl
 have o10:FnW P w K mg base 1 _ _ _ _:=Vn5 F10
 have g10:=Zw0 m10 F10 (bd1 F10) o10
 obtain ⟨d11,m11,F11⟩:=Zi0 R X G 11 "first_value" 33 rfl
 have o11:FnW P w K mg base 2 _ _ _ _:=Vq2 (C:=mC K) F11 ‹_› ‹_› ‹_›
 have g11:=Zw0 m11 F11 (bd2 F11) o11
 obtain ⟨d12,m12,F12⟩:=Zi0 R X G 12 "second_value" 34 rfl
 have o12:FnW P w K mg base 2 _ _ _ _:=Ys2 (C:=mC K) F12 ‹_› ‹_› ‹_› ‹_›
 have g12:=Zw0 m12 F12 (bd2 F12) o12
 obtain ⟨d13,m13,F13⟩:=Zi0 R X G 13 "address" 35 rfl
 have o13:FnW P w K mg base 3 _ _ _ _:=Je4 (C:=mC K) F13 ‹_› ‹_› ‹_›
 have g13:=Zw0 m13 F13 (bd2 F13) o13
 obtain ⟨d14,m14,F14⟩:=Zi0 R X G 14 "near_target" 36 rfl
 have o14:FnW P w K mg base 2 _ _ _ _:=Vt7 (C:=mC K) F14 ‹_› ‹_› ‹_› ‹_›
 have g14:=Zw0 m14 F14 (bd2 F14) o14
 obtain ⟨d15,m15,F15⟩:=Zi0 R X G 15 "fitted" 174 rfl
 have o15:FnW P w K mg base 2 _ _ _ _:=Vo5 (C:=mC K) F15 ‹_› ‹_› ‹_› ‹_› ‹_›
 have g15:=Zw0 m15 F15 (bd2 F15) o15
 obtain ⟨d16,m16,F16⟩:=Zi0 R X G 16 "mul" 175 rfl
 have o16:FnW P w K mg base 3 _ _ _ _:=ok_mul (C:=mC K) F16 ‹_› ‹_›
 have g16:=Zw0 m16 F16 (bd3 F16) o16
 obtain ⟨d17,m17,F17⟩:=Zi0 R X G 17 "add" 179 rfl
 have o17:FnW P w K mg base 3 _ _ _ _:=ok_add (C:=mC K) F17 ‹_› ‹_›
 have g17:=Zw0 m17 F17 (bd3 F17) o17
 obtain ⟨d18,m18,F18⟩:=Zi0 R X G 18 "sub" 181 rfl
 have o18:FnW P w K mg base 3 _ _ _ _:=ok_sub (C:=mC K) F18 ‹_› ‹_›
 have g18:=Zw0 m18 F18 (bd3 F18) o18
 obtain ⟨d19,m19,F19⟩:=Zi0 R X G 19 "addu_of_two" 183 rfl
 have o19:FnW P w K mg base 1 _ _ _ _:=Vx2 (C:=mC K) F19 ‹_›
 have g19:=Zw0 m19 F19 (bd3 F19) o19
 obtain ⟨d20,m20,F20⟩:=Zi0 R X G 20 "addu_of_four" 184 rfl
 have o20:FnW P w K mg base 1 _ _ _ _:=Xb2 (C:=mC K) F20 ‹_›
 have g20:=Zw0 m20 F20 (bd3 F20) o20
 obtain ⟨d21,m21,F21⟩:=Zi0 R X G 21 "addu_of_eight" 185 rfl
 have o21:FnW P w K mg base 1 _ _ _ _:=Zk2 (C:=mC K) F21 ‹_›
 have g21:=Zw0 m21 F21 (bd3 F21) o21
 obtain ⟨d22,m22,F22⟩:=Zi0 R X G 22 "addu_of_sixteen" 186 rfl
 have o22:FnW P w K mg base 1 _ _ _ _:=Up1 (C:=mC K) F22 ‹_›
 have g22:=Zw0 m22 F22 (bd3 F22) o22
 obtain ⟨d23,m23,F23⟩:=Zi0 R X G 23 "addu" 180 rfl
 have o23:FnW P w K mg base 1 _ _ _ _:=Ur7 (C:=mC K) F23 ‹_›
 have g23:=Zw0 m23 F23 (bd3 F23) o23
 obtain ⟨d24,m24,F24⟩:=Zi0 R X G 24 "subu" 182 rfl
 have o24:FnW P w K mg base 1 _ _ _ _:=Vk7 (C:=mC K) F24 ‹_›
 have g24:=Zw0 m24 F24 (bd3 F24) o24
 obtain ⟨d25,m25,F25⟩:=Zi0 R X G 25 "compare" 187 rfl
 have o25:FnW P w K mg base 3 _ _ _ _:=Uy4 (C:=mC K) F25 ‹_› ‹_›
 have g25:=Zw0 m25 F25 (bd3 F25) o25
 obtain ⟨d26,m26,F26⟩:=Zi0 R X G 26 "compare_unsigned" 188 rfl
 have o26:FnW P w K mg base 2 _ _ _ _:=Vs1 (C:=mC K) F26 ‹_›
 have g26:=Zw0 m26 F26 (bd3 F26) o26
 obtain ⟨d27,m27,F27⟩:=Zi0 R X G 27 "neg" 189 rfl
 have o27:FnW P w K mg base 3 _ _ _ _:=ok_neg (C:=mC K) F27 ‹_› ‹_›
 have g27:=Zw0 m27 F27 (bd3 F27) o27
 obtain ⟨d28,m28,F28⟩:=Zi0 R X G 28 "mulu" 176 rfl
 have o28:FnW P w K mg base 1 _ _ _ _:=Vv7 (C:=mC K) F28 ‹_› ‹_› ‹_›
 have g28:=Zw0 m28 F28 (bd3 F28) o28
 obtain ⟨d29,m29,F29⟩:=Zi0 R X G 29 "div" 177 rfl
 have o29:FnW P w K mg base 3 _ _ _ _:=ok_div (C:=mC K) F29 ‹_› ‹_› ‹_› ‹_› ‹_› ‹_›
 have g29:=Zw0 m29 F29 (bd3 F29) o29
 obtain ⟨d30,m30,F30⟩:=Zi0 R X G 30 "divu" 178 rfl
 have o30:FnW P w K mg base 1 _ _ _ _:=Uo7 (C:=mC K) F30 ‹_› ‹_›
 have g30:=Zw0 m30 F30 (bd3 F30) o30
 obtain ⟨d31,m31,F31⟩:=Zi0 R X G 31 "sl" 190 rfl
 have o31:FnW P w K mg base 3 _ _ _ _:=ok_sl (C:=mC K) F31 ‹_› ‹_› ‹_›
 have g31:=Zw0 m31 F31 (bd3 F31) o31
 obtain ⟨d32,m32,F32⟩:=Zi0 R X G 32 "slu" 191 rfl
 have o32:FnW P w K mg base 1 _ _ _ _:=ok_slu (C:=mC K) F32 ‹_› ‹_›
 have g32:=Zw0 m32 F32 (bd3 F32) o32
 obtain ⟨d33,m33,F33⟩:=Zi0 R X G 33 "sr" 192 rfl
 have o33:FnW P w K mg base 3 _ _ _ _:=ok_sr (C:=mC K) F33 ‹_› ‹_› ‹_›
 have g33:=Zw0 m33 F33 (bd3 F33) o33
 obtain ⟨d34,m34,F34⟩:=Zi0 R X G 34 "sru" 193 rfl
 have o34:FnW P w K mg base 1 _ _ _ _:=ok_sru (C:=mC K) F34 ‹_›
 have g34:=Zw0 m34 F34 (bd3 F34) o34
 obtain ⟨d35,m35,F35⟩:=Zi0 R X G 35 "bit_or" 40 rfl
 have o35:FnW P w K mg base 1 _ _ _ _:=Vp5 (C:=mC K) F35 ‹_›
 have g35:=Zw0 m35 F35 (bd3 F35) o35
 obtain ⟨d36,m36,F36⟩:=Zi0 R X G 36 "bit_orn" 41 rfl
 have o36:FnW P w K mg base 1 _ _ _ _:=Ja4 (C:=mC K) F36 ‹_›
 have g36:=Zw0 m36 F36 (bd3 F36) o36
 obtain ⟨d37,m37,F37⟩:=Zi0 R X G 37 "bit_nor" 42 rfl
 have o37:FnW P w K mg base 1 _ _ _ _:=Jb4 (C:=mC K) F37 ‹_›
 have g37:=Zw0 m37 F37 (bd3 F37) o37
 obtain ⟨d38,m38,F38⟩:=Zi0 R X G 38 "bit_xor" 43 rfl
 have o38:FnW P w K mg base 1 _ _ _ _:=Uz4 (C:=mC K) F38 ‹_›
 have g38:=Zw0 m38 F38 (bd3 F38) o38
 obtain ⟨d39,m39,F39⟩:=Zi0 R X G 39 "bit_and" 44 rfl
 have o39:FnW P w K mg base 1 _ _ _ _:=Jc4 (C:=mC K) F39 ‹_›
 have g39:=Zw0 m39 F39 (bd3 F39) o39
 obtain ⟨d40,m40,F40⟩:=Zi0 R X G 40 "bit_andn" 45 rfl
 have o40:FnW P w K mg base 1 _ _ _ _:=Zd4 (C:=mC K) F40 ‹_›
 have g40:=Zw0 m40 F40 (bd3 F40) o40
 obtain ⟨d41,m41,F41⟩:=Zi0 R X G 41 "bit_nand" 46 rfl
 have o41:FnW P w K mg base 1 _ _ _ _:=Zc4 (C:=mC K) F41 ‹_›
 have g41:=Zw0 m41 F41 (bd3 F41) o41
 obtain ⟨d42,m42,F42⟩:=Zi0 R X G 42 "bit_nxor" 47 rfl
 have o42:FnW P w K mg base 1 _ _ _ _:=Zb4 (C:=mC K) F42 ‹_›
 have g42:=Zw0 m42 F42 (bd3 F42) o42
 obtain ⟨d43,m43,F43⟩:=Zi0 R X G 43 "mux" 53 rfl
 have o43:FnW P w K mg base 1 _ _ _ _:=ok_mux (C:=mC K) F43 ‹_› ‹_› ‹_›
 have g43:=Zw0 m43 F43 (bd3 F43) o43
 obtain ⟨d44,m44,F44⟩:=Zi0 R X G 44 "sadd" 54 rfl
 have o44:FnW P w K mg base 1 _ _ _ _:=Vo7 (C:=mC K) F44 ‹_›
 have g44:=Zw0 m44 F44 (bd3 F44) o44
 obtain ⟨d45,m45,F45⟩:=Zi0 R X G 45 "differences" 48 rfl
 have o45:FnW P w K mg base 1 _ _ _ _:=Vu2 F45 ‹_›
 have g45:=Zw0 m45 F45 (bd3 F45) o45
 obtain ⟨d46,m46,F46⟩:=Zi0 R X G 46 "bdif" 49 rfl
 have o46:FnW P w K mg base 2 _ _ _ _:=Uq7 (C:=mC K) F46 ‹_›
 have g46:=Zw0 m46 F46 (bd3 F46) o46
 obtain ⟨d47,m47,F47⟩:=Zi0 R X G 47 "wdif" 50 rfl
 have o47:FnW P w K mg base 2 _ _ _ _:=Vh7 (C:=mC K) F47 ‹_›
 have g47:=Zw0 m47 F47 (bd3 F47) o47
 obtain ⟨d48,m48,F48⟩:=Zi0 R X G 48 "tdif" 51 rfl
 have o48:FnW P w K mg base 2 _ _ _ _:=Vj7 (C:=mC K) F48 ‹_›
 have g48:=Zw0 m48 F48 (bd3 F48) o48
 obtain ⟨d49,m49,F49⟩:=Zi0 R X G 49 "odif" 52 rfl
 have o49:FnW P w K mg base 2 _ _ _ _:=Vs7 (C:=mC K) F49 ‹_›
 have g49:=Zw0 m49 F49 (bd3 F49) o49
 obtain ⟨d50,m50,F50⟩:=Zi0 R X G 50 "far_target" 37 rfl
 have o50:FnW P w K mg base 2 _ _ _ _:=ok_far (C:=mC K) F50 ‹_› ‹_› ‹_›
 have g50:=Zw0 m50 F50 (bd2 F50) o50
 obtain ⟨d51,m51,F51⟩:=Zi0 R X G 51 "is_so" 61 rfl
 have o51:FnW P w K mg base 1 _ _ _ _:=Yy6 F51
 have g51:=Zw0 m51 F51 (bd2 F51) o51
 obtain ⟨d52,m52,F52⟩:=Zi0 R X G 52 "holds" 62 rfl
 have o52:FnW P w K mg base 2 _ _ _ _:=Yz6 F52 ‹_› ‹_›
 have g52:=Zw0 m52 F52 (bd2 F52) o52
 obtain ⟨d53,m53,F53⟩:=Zi0 R X G 53 "run_branch" 63 rfl
 have o53:FnW P w K mg base 3 _ _ _ _:=Zl3 (C:=mC K) (fc:=Ur0 K) F53 ‹_› ‹_› ‹_› ‹_› ‹_›
 obtain ⟨d54,m54,F54⟩:=Zi0 R X G 54 "run_conditional_set" 64 rfl
 have o54:FnW P w K mg base 3 _ _ _ _:=Up7 (C:=mC K) (fc:=Ur0 K) F54 ‹_› ‹_› ‹_› ‹_› ‹_› ‹_›
 obtain ⟨d55,m55,F55⟩:=Zi0 R X G 55 "run_zero_or_set" 65 rfl
 have o55:FnW P w K mg base 3 _ _ _ _:=Vd7 (C:=mC K) (fc:=Ur0 K) F55 ‹_› ‹_› ‹_› ‹_› ‹_› ‹_›
 obtain ⟨d56,m56,F56⟩:=Zi0 R X G 56 "run_jump" 143 rfl
 have o56:FnW P w K mg base 3 _ _ _ _:=Ua7 (C:=mC K) (fc:=Ur0 K) F56 ‹_› ‹_›
 obtain ⟨d57,m57,F57⟩:=Zi0 R X G 57 "run_target" 144 rfl
 have o57:FnW P w K mg base 3 _ _ _ _:=Vg5 (C:=mC K) (fc:=Ur0 K) F57 ‹_› ‹_› ‹_› ‹_›
 obtain ⟨d58,m58,F58⟩:=Zi0 R X G 58 "run_nothing" 146 rfl
 have o58:FnW P w K mg base 1 _ _ _ _:=Ur4 (C:=mC K) (fc:=Ur0 K) F58
 obtain ⟨d59,m59,F59⟩:=Zi0 R X G 59 "run_go" 141 rfl
 have o59:FnW P w K mg base 4 _ _ _ _:=Vl5 (C:=mC K) (fc:=Ur0 K) F59 ‹_› ‹_› ‹_› ‹_›
 obtain ⟨d60,m60,F60⟩:=Zi0 R X G 60 "run_get" 145 rfl
 have o60:FnW P w K mg base 3 _ _ _ _:=Um4 (C:=mC K) (fc:=Ur0 K) F60 ‹_› ‹_› ‹_› ‹_› ‹_› ‹_› ‹_› ‹_›
 obtain ⟨d61,m61,F61⟩:=Zi0 R X G 61 "run_constant" 142 rfl
 have o61:FnW P w K mg base 3 _ _ _ _:=Yu2 (C:=mC K) (fc:=Ur0 K) F61 ‹_› ‹_› ‹_› ‹_› ‹_› ‹_› ‹_›
 obtain ⟨d62,m62,F62⟩:=Zi0 R X G 62 "spread" 55 rfl
 have o62:FnW P w K mg base 1 _ _ _ _:=Vh5 F62 ‹_›
 have g62:=Zw0 m62 F62 (bd3 F62) o62
 obtain ⟨d63,m63,F63⟩:=Zi0 R X G 63 "mor" 56 rfl
 have o63:FnW P w K mg base 2 _ _ _ _:=ok_mor (C:=mC K) F63 ‹_› ‹_›
 have g63:=Zw0 m63 F63 (bd3 F63) o63
 obtain ⟨d64,m64,F64⟩:=Zi0 R X G 64 "mxor" 57 rfl
 have o64:FnW P w K mg base 2 _ _ _ _:=Vu7 (C:=mC K) F64 ‹_› ‹_›
 have g64:=Zw0 m64 F64 (bd3 F64) o64
 obtain ⟨d65,m65,F65⟩:=Zi0 R X G 65 "run_bits" 59 rfl
 have ops_run_bits:∀ o,192≤o→o<224→o%2=0→OpAt P w K mg base (adr K "Machine") (adr K "WORKS_bits") o:=fun o h1 h2 h3=>allm ((by decide +kernel:∀ o<224,192≤o→o%2=0→o∈[192,194,196,198,200,202,204,206,208,210,212,214,216,218,220,222]) o h2 h1 h3) <|
  Ve0 ⟨_,_,_,Yg0 R 0 "WORKS_bits" 192 "bit_or" rfl,((Xh0 F35 (bd3 F35) o35).mono (by decide)),Yn0 wk_or (Xd0 _) (by decide) (by decide)⟩ <|
  Ve0 ⟨_,_,_,Yg0 R 1 "WORKS_bits" 194 "bit_orn" rfl,((Xh0 F36 (bd3 F36) o36).mono (by decide)),Yn0 wk_orn (Xd0 _) (by decide) (by decide)⟩ <|
  Ve0 ⟨_,_,_,Yg0 R 2 "WORKS_bits" 196 "bit_nor" rfl,((Xh0 F37 (bd3 F37) o37).mono (by decide)),Yn0 wk_nor (Xd0 _) (by decide) (by decide)⟩ <|
  Ve0 ⟨_,_,_,Yg0 R 3 "WORKS_bits" 198 "bit_xor" rfl,((Xh0 F38 (bd3 F38) o38).mono (by decide)),Yn0 wk_xor (Xd0 _) (by decide) (by decide)⟩ <|
  Ve0 ⟨_,_,_,Yg0 R 4 "WORKS_bits" 200 "bit_and" rfl,((Xh0 F39 (bd3 F39) o39).mono (by decide)),Yn0 wk_and (Xd0 _) (by decide) (by decide)⟩ <|
  Ve0 ⟨_,_,_,Yg0 R 5 "WORKS_bits" 202 "bit_andn" rfl,((Xh0 F40 (bd3 F40) o40).mono (by decide)),Yn0 Zj7 (Xd0 _) (by decide) (by decide)⟩ <|
  Ve0 ⟨_,_,_,Yg0 R 6 "WORKS_bits" 204 "bit_nand" rfl,((Xh0 F41 (bd3 F41) o41).mono (by decide)),Yn0 Zd7 (Xd0 _) (by decide) (by decide)⟩ <|
  Ve0 ⟨_,_,_,Yg0 R 7 "WORKS_bits" 206 "bit_nxor" rfl,((Xh0 F42 (bd3 F42) o42).mono (by decide)),Yn0 Zc7 (Xd0 _) (by decide) (by decide)⟩ <|
  Ve0 ⟨_,_,_,Yg0 R 8 "WORKS_bits" 208 "bdif" rfl,((Xh0 F46 (bd3 F46) o46).mono (by decide)),Yn0 Zi7 (Xd0 _) (by decide) (by decide)⟩ <|
  Ve0 ⟨_,_,_,Yg0 R 9 "WORKS_bits" 210 "wdif" rfl,((Xh0 F47 (bd3 F47) o47).mono (by decide)),Yn0 Jx6 (Xd0 _) (by decide) (by decide)⟩ <|
  Ve0 ⟨_,_,_,Yg0 R 10 "WORKS_bits" 212 "tdif" rfl,((Xh0 F48 (bd3 F48) o48).mono (by decide)),Yn0 Jy6 (Xd0 _) (by decide) (by decide)⟩ <|
  Ve0 ⟨_,_,_,Yg0 R 11 "WORKS_bits" 214 "odif" rfl,((Xh0 F49 (bd3 F49) o49).mono (by decide)),Yn0 Zb7 (Xd0 _) (by decide) (by decide)⟩ <|
  Ve0 ⟨_,_,_,Yg0 R 12 "WORKS_bits" 216 "mux" rfl,((Xh0 F43 (bd3 F43) o43).mono (by decide)),Yn0 wk_mux pc_mux (by decide) (by decide)⟩ <|
  Ve0 ⟨_,_,_,Yg0 R 13 "WORKS_bits" 218 "sadd" rfl,((Xh0 F44 (bd3 F44) o44).mono (by decide)),Yn0 Za7 (Xd0 _) (by decide) (by decide)⟩ <|
  Ve0 ⟨_,_,_,Yg0 R 14 "WORKS_bits" 220 "mor" rfl,((Xh0 F63 (bd3 F63) o63).mono (by decide)),Yn0 wk_mor (Xd0 _) (by decide) (by decide)⟩ <|
  Ve0 ⟨_,_,_,Yg0 R 15 "WORKS_bits" 222 "mxor" rfl,((Xh0 F64 (bd3 F64) o64).mono (by decide)),Yn0 Ze7 (Xd0 _) (by decide) (by decide)⟩ all0
 have o65:FnW P w K mg base 4 _ _ _ _:=Jv3 (C:=mC K) (fc:=Ur0 K) F65 ‹_› ‹_› ‹_› ‹_› ‹_› ‹_› ‹_› ‹_›
 obtain ⟨d66,m66,F66⟩:=Zi0 R X G 66 "run_whole" 196 rfl
 have ops_run_whole:∀ o,24≤o→o<64→o%2=0→OpAt P w K mg base (adr K "Machine") (adr K "WORKS_whole") o:=fun o h1 h2 h3=>allm ((by decide +kernel:∀ o<64,24≤o→o%2=0→o∈[24,26,28,30,32,34,36,38,40,42,44,46,48,50,52,54,56,58,60,62]) o h2 h1 h3) <|
  Ve0 ⟨_,_,_,Yg0 R 40 "WORKS_whole" 24 "mul" rfl,((Xh0 F16 (bd3 F16) o16).mono (by decide)),Yn0 wk_mul (Va5 _) (by decide) (by decide)⟩ <|
  Ve0 ⟨_,_,_,Yg0 R 41 "WORKS_whole" 26 "mulu" rfl,((Xh0 F28 (bd3 F28) o28).mono (by decide)),Yn0 Zf7 Xv7 (by decide) (by decide)⟩ <|
  Ve0 ⟨_,_,_,Yg0 R 42 "WORKS_whole" 28 "div" rfl,((Xh0 F29 (bd3 F29) o29).mono (by decide)),Yn0 wk_div pc_div (by decide) (by decide)⟩ <|
  Ve0 ⟨_,_,_,Yg0 R 43 "WORKS_whole" 30 "divu" rfl,((Xh0 F30 (bd3 F30) o30).mono (by decide)),Yn0 Zg7 Xw7 (by decide) (by decide)⟩ <|
  Ve0 ⟨_,_,_,Yg0 R 44 "WORKS_whole" 32 "add" rfl,((Xh0 F17 (bd3 F17) o17).mono (by decide)),Yn0 wk_add (Va5 _) (by decide) (by decide)⟩ <|
  Ve0 ⟨_,_,_,Yg0 R 45 "WORKS_whole" 34 "addu" rfl,((Xh0 F23 (bd3 F23) o23).mono (by decide)),Yn0 Zk7 (Xd0 _) (by decide) (by decide)⟩ <|
  Ve0 ⟨_,_,_,Yg0 R 46 "WORKS_whole" 36 "sub" rfl,((Xh0 F18 (bd3 F18) o18).mono (by decide)),Yn0 wk_sub (Va5 _) (by decide) (by decide)⟩ <|
  Ve0 ⟨_,_,_,Yg0 R 47 "WORKS_whole" 38 "subu" rfl,((Xh0 F24 (bd3 F24) o24).mono (by decide)),Yn0 Jz6 (Xd0 _) (by decide) (by decide)⟩ <|
  Ve0 ⟨_,_,_,Yg0 R 48 "WORKS_whole" 40 "addu_of_two" rfl,((Xh0 F19 (bd3 F19) o19).mono (by decide)),Yn0 wk_2 (Xd0 _) (by decide) (by decide)⟩ <|
  Ve0 ⟨_,_,_,Yg0 R 49 "WORKS_whole" 42 "addu_of_four" rfl,((Xh0 F20 (bd3 F20) o20).mono (by decide)),Yn0 wk_4 (Xd0 _) (by decide) (by decide)⟩ <|
  Ve0 ⟨_,_,_,Yg0 R 50 "WORKS_whole" 44 "addu_of_eight" rfl,((Xh0 F21 (bd3 F21) o21).mono (by decide)),Yn0 wk_8 (Xd0 _) (by decide) (by decide)⟩ <|
  Ve0 ⟨_,_,_,Yg0 R 51 "WORKS_whole" 46 "addu_of_sixteen" rfl,((Xh0 F22 (bd3 F22) o22).mono (by decide)),Yn0 wk_16 (Xd0 _) (by decide) (by decide)⟩ <|
  Ve0 ⟨_,_,_,Yg0 R 52 "WORKS_whole" 48 "compare" rfl,((Xh0 F25 (bd3 F25) o25).mono (by decide)),Yn0 wk_cmp (Xd0 _) (by decide) (by decide)⟩ <|
  Ve0 ⟨_,_,_,Yg0 R 53 "WORKS_whole" 50 "compare_unsigned" rfl,((Xh0 F26 (bd3 F26) o26).mono (by decide)),Yn0 Zh7 (Xd0 _) (by decide) (by decide)⟩ <|
  Ve0 ⟨_,_,_,Yg0 R 54 "WORKS_whole" 52 "neg" rfl,((Xh0 F27 (bd3 F27) o27).mono (by decide)),st_neg⟩ <|
  Ve0 ⟨_,_,_,Yg0 R 55 "WORKS_whole" 54 "subu" rfl,((Xh0 F24 (bd3 F24) o24).mono (by decide)),Zv7⟩ <|
  Ve0 ⟨_,_,_,Yg0 R 56 "WORKS_whole" 56 "sl" rfl,((Xh0 F31 (bd3 F31) o31).mono (by decide)),Yn0 wk_sl pc_sl (by decide) (by decide)⟩ <|
  Ve0 ⟨_,_,_,Yg0 R 57 "WORKS_whole" 58 "slu" rfl,((Xh0 F32 (bd3 F32) o32).mono (by decide)),Yn0 wk_slu (Xd0 _) (by decide) (by decide)⟩ <|
  Ve0 ⟨_,_,_,Yg0 R 58 "WORKS_whole" 60 "sr" rfl,((Xh0 F33 (bd3 F33) o33).mono (by decide)),Yn0 wk_sr (Xd0 _) (by decide) (by decide)⟩ <|
  Ve0 ⟨_,_,_,Yg0 R 59 "WORKS_whole" 62 "sru" rfl,((Xh0 F34 (bd3 F34) o34).mono (by decide)),Yn0 wk_sru (Xd0 _) (by decide) (by decide)⟩ all0
 have o66:FnW P w K mg base 4 _ _ _ _:=Xy3 (C:=mC K) (fc:=Ur0 K) F66 ‹_› ‹_› ‹_› ‹_› ‹_› ‹_› ‹_› ‹_› ‹_› ‹_› ‹_›
 obtain ⟨d67,m67,F67⟩:=Zi0 R X G 67 "sign_of" 84 rfl
 have o67:FnW P w K mg base 1 _ _ _ _:=Uj4 F67
 have g67:=Zw0 m67 F67 (bd1 F67) o67
 obtain ⟨d68,m68,F68⟩:=Zi0 R X G 68 "magnitude" 85 rfl
 have o68:FnW P w K mg base 1 _ _ _ _:=Vd3 F68 ‹_›
 have g68:=Zw0 m68 F68 (bd1 F68) o68
 obtain ⟨d69,m69,F69⟩:=Zi0 R X G 69 "is_no_number" 86 rfl
 have o69:FnW P w K mg base 2 _ _ _ _:=Yx2 F69 ‹_› ‹_›
 have g69:=Zw0 m69 F69 (bd1 F69) o69
 obtain ⟨d70,m70,F70⟩:=Zi0 R X G 70 "is_infinite" 87 rfl
 have o70:FnW P w K mg base 2 _ _ _ _:=Vp2 F70 ‹_› ‹_›
 have g70:=Zw0 m70 F70 (bd1 F70) o70
 obtain ⟨d71,m71,F71⟩:=Zi0 R X G 71 "is_zero" 88 rfl
 have o71:FnW P w K mg base 2 _ _ _ _:=Ut4 F71 ‹_›
 have g71:=Zw0 m71 F71 (bd1 F71) o71
 obtain ⟨d72,m72,F72⟩:=Zi0 R X G 72 "with_sign" 89 rfl
 have o72:FnW P w K mg base 1 _ _ _ _:=Xw3 F72
 have g72:=Zw0 m72 F72 (bd2 F72) o72
 obtain ⟨d73,m73,F73⟩:=Zi0 R X G 73 "mantissa_of" 90 rfl
 have o73:FnW P w K mg base 2 _ _ _ _:=Vm2 F73 ‹_›
 have g73:=Zw0 m73 F73 (bd1 F73) o73
 obtain ⟨d74,m74,F74⟩:=Zi0 R X G 74 "exponent_of" 91 rfl
 have o74:FnW P w K mg base 2 _ _ _ _:=Vt2 F74 ‹_› ‹_›
 have g74:=Zw0 m74 F74 (bd1 F74) o74
 obtain ⟨d75,m75,F75⟩:=Zi0 R X G 75 "goes_up" 92 rfl
 have o75:FnW P w K mg base 1 _ _ _ _:=Uv4 F75 ‹_›
 have g75:=Zw0 m75 F75 (bd5 F75) o75
 obtain ⟨d76,m76,F76⟩:=Zi0 R X G 76 "shortened" 93 rfl
 have o76:FnW P w K mg base 2 _ _ _ _:=Xx3 F76 ‹_›
 have g76:=Zw0 m76 F76 (bd4 F76) o76
 obtain ⟨d77,m77,F77⟩:=Zi0 R X G 77 "is_shortened_exactly" 94 rfl
 have o77:FnW P w K mg base 1 _ _ _ _:=Uw4 F77
 have g77:=Zw0 m77 F77 (bd2 F77) o77
 obtain ⟨d78,m78,F78⟩:=Zi0 R X G 78 "past_greatest" 95 rfl
 have o78:FnW P w K mg base 1 _ _ _ _:=Vr7 F78 ‹_›
 have g78:=Zw0 m78 F78 (bd3 F78) o78
 obtain ⟨d79,m79,F79⟩:=Zi0 R X G 79 "rounded" 96 rfl
 have o79:FnW P w K mg base 3 _ _ _ _:=Uo4 F79 ‹_› ‹_› ‹_› ‹_›
 have g79:=Zw0 m79 F79 (bd5 F79) o79
 obtain ⟨d80,m80,F80⟩:=Zi0 R X G 80 "made" 104 rfl
 have o80:FnW P w K mg base 4 _ _ _ _:=Vw7 (C:=mC K) F80 ‹_› ‹_› ‹_› ‹_› ‹_›
 have g80:=Zw0 m80 F80 (bd5 F80) o80
 obtain ⟨d81,m81,F81⟩:=Zi0 R X G 81 "is_unordered" 100 rfl
 have o81:FnW P w K mg base 3 _ _ _ _:=Yw2 F81 ‹_›
 have g81:=Zw0 m81 F81 (bd2 F81) o81
 obtain ⟨d82,m82,F82⟩:=Zi0 R X G 82 "is_signalling" 101 rfl
 have o82:FnW P w K mg base 3 _ _ _ _:=Zj2 F82 ‹_› ‹_›
 have g82:=Zw0 m82 F82 (bd1 F82) o82
 obtain ⟨d83,m83,F83⟩:=Zi0 R X G 83 "no_number_of" 102 rfl
 have o83:FnW P w K mg base 4 _ _ _ _:=Yv2 (C:=mC K) F83 ‹_› ‹_› ‹_› ‹_›
 have g83:=Zw0 m83 F83 (bd3 F83) o83
 obtain ⟨d84,m84,F84⟩:=Zi0 R X G 84 "invalid" 103 rfl
 have o84:FnW P w K mg base 2 _ _ _ _:=Uu4 (C:=mC K) F84 ‹_› ‹_› ‹_›
 have g84:=Zw0 m84 F84 (bd1 F84) o84
 obtain ⟨d85,m85,F85⟩:=Zi0 R X G 85 "rank" 105 rfl
 have o85:FnW P w K mg base 2 _ _ _ _:=Vp7 F85 ‹_› ‹_›
 have g85:=Zw0 m85 F85 (bd1 F85) o85
 obtain ⟨d86,m86,F86⟩:=Zi0 R X G 86 "fcmp" 106 rfl
 have o86:FnW P w K mg base 4 _ _ _ _:=Um7 (C:=mC K) F86 ‹_› ‹_› ‹_› ‹_› ‹_› ‹_›
 have g86:=Zw0 m86 F86 (bd3 F86) o86
 obtain ⟨d87,m87,F87⟩:=Zi0 R X G 87 "fun" 107 rfl
 have o87:FnW P w K mg base 4 _ _ _ _:=ok_fun (C:=mC K) F87 ‹_›
 have g87:=Zw0 m87 F87 (bd3 F87) o87
 obtain ⟨d88,m88,F88⟩:=Zi0 R X G 88 "feql" 108 rfl
 have o88:FnW P w K mg base 4 _ _ _ _:=Uk7 (C:=mC K) F88 ‹_› ‹_›
 have g88:=Zw0 m88 F88 (bd3 F88) o88
 obtain ⟨d89,m89,F89⟩:=Zi0 R X G 89 "scaled" 109 rfl
 have o89:FnW P w K mg base 3 _ _ _ _:=Vk5 F89 ‹_› ‹_› ‹_›
 have g89:=Zw0 m89 F89 (bd2 F89) o89
 obtain ⟨d90,m90,F90⟩:=Zi0 R X G 90 "sum_that_is_zero" 110 rfl
 have o90:FnW P w K mg base 2 _ _ _ _:=Jt3 (C:=mC K) F90 ‹_› ‹_› ‹_› ‹_›
 have g90:=Zw0 m90 F90 (bd3 F90) o90
 obtain ⟨d91,m91,F91⟩:=Zi0 R X G 91 "finite_sum" 111 rfl
 have o91:FnW P w K mg base 5 _ _ _ _:=Zo3 (C:=mC K) F91 ‹_› ‹_› ‹_› ‹_› ‹_› ‹_› ‹_›
 have g91:=Zw0 m91 F91 (bd3 F91) o91
 obtain ⟨d92,m92,F92⟩:=Zi0 R X G 92 "fadd" 112 rfl
 have o92:FnW P w K mg base 6 _ _ _ _:=Un7 (C:=mC K) F92 ‹_› ‹_› ‹_› ‹_› ‹_›
 have g92:=Zw0 m92 F92 (bd3 F92) o92
 obtain ⟨d93,m93,F93⟩:=Zi0 R X G 93 "fsub" 113 rfl
 have o93:FnW P w K mg base 7 _ _ _ _:=Ud7 (C:=mC K) F93 ‹_› ‹_›
 have g93:=Zw0 m93 F93 (bd3 F93) o93
 obtain ⟨d94,m94,F94⟩:=Zi0 R X G 94 "fmul" 114 rfl
 have o94:FnW P w K mg base 5 _ _ _ _:=Uf7 (C:=mC K) F94 ‹_› ‹_› ‹_› ‹_› ‹_› ‹_› ‹_› ‹_› ‹_› ‹_› ‹_› ‹_› ‹_›
 have g94:=Zw0 m94 F94 (bd3 F94) o94
 obtain ⟨d95,m95,F95⟩:=Zi0 R X G 95 "finite_quotient" 115 rfl
 have o95:FnW P w K mg base 5 _ _ _ _:=Uo1 (C:=mC K) F95 ‹_› ‹_› ‹_› ‹_› ‹_›
 have g95:=Zw0 m95 F95 (bd4 F95) o95
 obtain ⟨d96,m96,F96⟩:=Zi0 R X G 96 "fdiv" 116 rfl
 have o96:FnW P w K mg base 6 _ _ _ _:=Ul7 (C:=mC K) F96 ‹_› ‹_› ‹_› ‹_› ‹_› ‹_› ‹_› ‹_› ‹_› ‹_› ‹_›
 have g96:=Zw0 m96 F96 (bd3 F96) o96
 obtain ⟨d97,m97,F97⟩:=Zi0 R X G 97 "finite_rest" 117 rfl
 have o97:FnW P w K mg base 5 _ _ _ _:=Vs2 (C:=mC K) F97 ‹_› ‹_› ‹_› ‹_› ‹_› ‹_› ‹_›
 have g97:=Zw0 m97 F97 (bd3 F97) o97
 obtain ⟨d98,m98,F98⟩:=Zi0 R X G 98 "frem" 118 rfl
 have o98:FnW P w K mg base 6 _ _ _ _:=Ue7 (C:=mC K) F98 ‹_› ‹_› ‹_› ‹_› ‹_› ‹_›
 have g98:=Zw0 m98 F98 (bd3 F98) o98
 obtain ⟨d99,m99,F99⟩:=Zi0 R X G 99 "run_floating" 120 rfl
 have ops_run_floating:∀ o,fops o→OpF P w K mg base (adr K "Machine") (adr K "WORKS_floating") o:=by
  intro o hh
  rcases hh with rfl | rfl | rfl | rfl | rfl | rfl | rfl | rfl
  ·exact ⟨_,_,_,Yg0 R 16 "WORKS_floating" 1 "fcmp" rfl,((Xh0 F86 (bd3 F86) o86).mono (by decide)),sf_cmp⟩
  ·exact ⟨_,_,_,Yg0 R 17 "WORKS_floating" 2 "fun" rfl,((Xh0 F87 (bd3 F87) o87).mono (by decide)),sf_fun⟩
  ·exact ⟨_,_,_,Yg0 R 18 "WORKS_floating" 3 "feql" rfl,((Xh0 F88 (bd3 F88) o88).mono (by decide)),sf_eql⟩
  ·exact ⟨_,_,_,Yg0 R 19 "WORKS_floating" 4 "fadd" rfl,((Xh0 F92 (bd3 F92) o92).mono (by decide)),sf_add⟩
  ·exact ⟨_,_,_,Yg0 R 20 "WORKS_floating" 6 "fsub" rfl,((Xh0 F93 (bd3 F93) o93).mono (by decide)),sf_sub⟩
  ·exact ⟨_,_,_,Yg0 R 21 "WORKS_floating" 16 "fmul" rfl,((Xh0 F94 (bd3 F94) o94).mono (by decide)),sf_mul⟩
  ·exact ⟨_,_,_,Yg0 R 22 "WORKS_floating" 20 "fdiv" rfl,((Xh0 F96 (bd3 F96) o96).mono (by decide)),sf_div⟩
  ·exact ⟨_,_,_,Yg0 R 23 "WORKS_floating" 22 "frem" rfl,((Xh0 F98 (bd3 F98) o98).mono (by decide)),sf_rem⟩
 have o99:FnW P w K mg base 8 _ _ _ _:=Yt2 (C:=mC K) (fc:=Ur0 K) F99 ‹_› ‹_› ‹_› ‹_› ‹_› ‹_› ‹_› ‹_› ‹_›
 obtain ⟨d100,m100,F100⟩:=Zi0 R X G 100 "mode_of" 122 rfl
 have o100:FnW P w K mg base 2 _ _ _ _:=Us4 (C:=mC K) (c2:=Ur0 K 2) F100 ‹_› ‹_› ‹_› ‹_› ‹_› ‹_›
 have g100:=Zw0 m100 F100 (bd2 F100) o100
 obtain ⟨d101,m101,F101⟩:=Zi0 R X G 101 "whole_magnitude" 123 rfl
 have o101:FnW P w K mg base 3 _ _ _ _:=Un1 (C:=mC K) F101 ‹_› ‹_› ‹_› ‹_› ‹_› ‹_› ‹_› ‹_›
 have g101:=Zw0 m101 F101 (bd3 F101) o101
 obtain ⟨d102,m102,F102⟩:=Zi0 R X G 102 "whole_value" 124 rfl
 have o102:FnW P w K mg base 4 _ _ _ _:=Vh2 (C:=mC K) F102 ‹_› ‹_›
 have g102:=Zw0 m102 F102 (bd3 F102) o102
 obtain ⟨d103,m103,F103⟩:=Zi0 R X G 103 "fixu" 125 rfl
 have o103:FnW P w K mg base 5 _ _ _ _:=Uh7 (C:=mC K) F103 ‹_› ‹_› ‹_› ‹_› ‹_› ‹_› ‹_›
 have g103:=Zw0 m103 F103 (bd3 F103) o103
 obtain ⟨d104,m104,F104⟩:=Zi0 R X G 104 "fix" 126 rfl
 have o104:FnW P w K mg base 5 _ _ _ _:=ok_fix (C:=mC K) F104 ‹_› ‹_› ‹_› ‹_› ‹_› ‹_› ‹_› ‹_›
 have g104:=Zw0 m104 F104 (bd3 F104) o104
 obtain ⟨d105,m105,F105⟩:=Zi0 R X G 105 "whole_root" 127 rfl
 have o105:FnW P w K mg base 1 _ _ _ _:=Zj3 F105
 have g105:=Zw0 m105 F105 (bd1 F105) o105
 obtain ⟨d106,m106,F106⟩:=Zi0 R X G 106 "finite_root" 128 rfl
 have o106:FnW P w K mg base 5 _ _ _ _:=Vr2 (C:=mC K) F106 ‹_› ‹_› ‹_› ‹_›
 have g106:=Zw0 m106 F106 (bd3 F106) o106
 have g_fr:FG P w K mg base "finite_root" 5 ["machine","z","mode"] (spFRg (adr K "Machine") Zo1):=Zw0 m106 F106 (bd3 F106) (Vu0.sub o106 (Nat.le_refl _) fun _ _ _ _ ⟨a,b,c,d,e,f,g,h,i,j,k,l⟩=>⟨a,b,c,d,e,f,g,h,i,j,k,l⟩)
 obtain ⟨d107,m107,F107⟩:=Zi0 R X G 107 "fsqrt" 129 rfl
 have o107:FnW P w K mg base 6 _ _ _ _:=Xb6 (C:=mC K) (g:=Zo1) F107 ‹_› ‹_› ‹_› ‹_› ‹_› ‹_› ‹_›
 have g107:=Zw0 m107 F107 (bd3 F107) o107
 obtain ⟨d108,m108,F108⟩:=Zi0 R X G 108 "fint" 130 rfl
 have o108:FnW P w K mg base 5 _ _ _ _:=Uj7 (C:=mC K) (g:=Xj2) (fun mode z fz=>⟨Ur5 fz,(Jd6 mode (KA z) fz).2⟩) F108 ‹_› ‹_› ‹_› ‹_› ‹_› ‹_›
 have g108:=Zw0 m108 F108 (bd3 F108) o108
 obtain ⟨d109,m109,F109⟩:=Zi0 R X G 109 "flot" 131 rfl
 have o109:FnW P w K mg base 5 _ _ _ _:=Ug7 (C:=mC K) F109 ‹_› ‹_› ‹_›
 have g109:=Zw0 m109 F109 (bd3 F109) o109
 obtain ⟨d110,m110,F110⟩:=Zi0 R X G 110 "flotu" 132 rfl
 have o110:FnW P w K mg base 5 _ _ _ _:=Xc6 (C:=mC K) F110 ‹_›
 have g110:=Zw0 m110 F110 (bd3 F110) o110
 obtain ⟨d111,m111,F111⟩:=Zi0 R X G 111 "widened" 97 rfl
 have o111:FnW P w K mg base 4 _ _ _ _:=Uh4 F111 ‹_› ‹_› ‹_› ‹_›
 have g111:=Zw0 m111 F111 (bd1 F111) o111
 obtain ⟨d112,m112,F112⟩:=Zi0 R X G 112 "made_short" 133 rfl
 have o112:FnW P w K mg base 5 _ _ _ _:=Zn3 (C:=mC K) F112 ‹_› ‹_› ‹_› ‹_› ‹_› ‹_›
 have g112:=Zw0 m112 F112 (bd4 F112) o112
 obtain ⟨d113,m113,F113⟩:=Zi0 R X G 113 "sflot" 134 rfl
 have o113:FnW P w K mg base 6 _ _ _ _:=Yv6 (C:=mC K) F113 ‹_› ‹_› ‹_›
 have g113:=Zw0 m113 F113 (bd3 F113) o113
 obtain ⟨d114,m114,F114⟩:=Zi0 R X G 114 "sflotu" 135 rfl
 have o114:FnW P w K mg base 6 _ _ _ _:=Vj5 (C:=mC K) F114 ‹_›
 have g114:=Zw0 m114 F114 (bd3 F114) o114
 obtain ⟨d115,m115,F115⟩:=Zi0 R X G 115 "run_fix" 138 rfl
 have ops_run_fix:∀ o,xops o→OpX P w K mg base (adr K "Machine") (adr K "FIXES") Jv4 o:=by
  intro o hh
  rcases hh with rfl | rfl | rfl | rfl
  ·exact ⟨_,_,_,Yg0 R 24 "FIXES" 5 "fix" rfl,((Xh0 F104 (bd3 F104) o104).mono (by decide)),sx_fix⟩
  ·exact ⟨_,_,_,Yg0 R 25 "FIXES" 7 "fixu" rfl,((Xh0 F103 (bd3 F103) o103).mono (by decide)),Zs7⟩
  ·exact ⟨_,_,_,Yg0 R 26 "FIXES" 21 "fsqrt" rfl,((Xh0 F107 (bd3 F107) o107).mono (by decide)),Zr7⟩
  ·exact ⟨_,_,_,Yg0 R 27 "FIXES" 23 "fint" rfl,((Xh0 F108 (bd3 F108) o108).mono (by decide)),sx_int⟩
 have o115:FnW P w K mg base 7 _ _ _ _:=Un4 (C:=mC K) (fc:=Ur0 K) F115 ‹_› ‹_› ‹_› ‹_› ‹_› ‹_› ‹_› ‹_› ‹_›
 obtain ⟨d116,m116,F116⟩:=Zi0 R X G 116 "run_float" 139 rfl
 have ops_run_float:∀ o,(o=8∨o=10∨o=12∨o=14)→OpX P w K mg base (adr K "Machine") (adr K "FLOATS") Jw4 o:=by
  intro o hh
  rcases hh with rfl | rfl | rfl | rfl
  ·exact ⟨_,_,_,Yg0 R 28 "FLOATS" 8 "flot" rfl,((Xh0 F109 (bd3 F109) o109).mono (by decide)),Zz7⟩
  ·exact ⟨_,_,_,Yg0 R 29 "FLOATS" 10 "flotu" rfl,((Xh0 F110 (bd3 F110) o110).mono (by decide)),Zv6⟩
  ·exact ⟨_,_,_,Yg0 R 30 "FLOATS" 12 "sflot" rfl,((Xh0 F113 (bd3 F113) o113).mono (by decide)),Zu6⟩
  ·exact ⟨_,_,_,Yg0 R 31 "FLOATS" 14 "sflotu" rfl,((Xh0 F114 (bd3 F114) o114).mono (by decide)),Yp5⟩
 have o116:FnW P w K mg base 7 _ _ _ _:=Vc3 (C:=mC K) (fc:=Ur0 K) F116 ‹_› ‹_› ‹_› ‹_› ‹_› ‹_› ‹_› ‹_›
 obtain ⟨d117,m117,F117⟩:=Zi0 R X G 117 "size_of" 159 rfl
 have o117:FnW P w K mg base 2 _ _ _ _:=Ui4 F117 ‹_›
 have g117:=Zw0 m117 F117 (bd1 F117) o117
 obtain ⟨d118,m118,F118⟩:=Zi0 R X G 118 "is_unsigned" 160 rfl
 have o118:FnW P w K mg base 2 _ _ _ _:=Vo2 F118 ‹_›
 have g118:=Zw0 m118 F118 (bd1 F118) o118
 obtain ⟨d119,m119,F119⟩:=Zi0 R X G 119 "run_load" 161 rfl
 have o119:FnW P w K mg base 4 _ _ _ _:=Ju3 (C:=mC K) (fc:=Ur0 K) F119 ‹_› ‹_› ‹_› ‹_› ‹_› ‹_› ‹_› ‹_› ‹_›
 obtain ⟨d120,m120,F120⟩:=Zi0 R X G 120 "ldht" 164 rfl
 have o120:FnW P w K mg base 4 _ _ _ _:=Vz7 (C:=mC K) (fc:=Ur0 K) F120 ‹_› ‹_› ‹_› ‹_› ‹_›
 have g120:=Zw0 m120 F120 (bd2 F120) o120
 obtain ⟨d121,m121,F121⟩:=Zi0 R X G 121 "ldunc" 166 rfl
 have o121:FnW P w K mg base 4 _ _ _ _:=Yx6 (C:=mC K) (fc:=Ur0 K) F121 ‹_› ‹_› ‹_› ‹_› ‹_›
 have g121:=Zw0 m121 F121 (bd2 F121) o121
 obtain ⟨d122,m122,F122⟩:=Zi0 R X G 122 "ldsf" 163 rfl
 have o122:FnW P w K mg base 5 _ _ _ _:=Vy7 (C:=mC K) (fc:=Ur0 K) F122 ‹_› ‹_› ‹_› ‹_› ‹_› ‹_›
 have g122:=Zw0 m122 F122 (bd2 F122) o122
 obtain ⟨d123,m123,F123⟩:=Zi0 R X G 123 "stht" 168 rfl
 have o123:FnW P w K mg base 4 _ _ _ _:=Vm7 (C:=mC K) (fc:=Ur0 K) F123 ‹_› ‹_› ‹_› ‹_› ‹_›
 have g123:=Zw0 m123 F123 (bd2 F123) o123
 obtain ⟨d124,m124,F124⟩:=Zi0 R X G 124 "stco" 169 rfl
 have o124:FnW P w K mg base 4 _ _ _ _:=Vn7 (C:=mC K) (fc:=Ur0 K) F124 ‹_› ‹_› ‹_› ‹_›
 have g124:=Zw0 m124 F124 (bd2 F124) o124
 obtain ⟨d125,m125,F125⟩:=Zi0 R X G 125 "stunc" 170 rfl
 have o125:FnW P w K mg base 4 _ _ _ _:=Yt6 (C:=mC K) (fc:=Ur0 K) F125 ‹_› ‹_› ‹_› ‹_› ‹_›
 have g125:=Zw0 m125 F125 (bd2 F125) o125
 obtain ⟨d126,m126,F126⟩:=Zi0 R X G 126 "run_store" 162 rfl
 have o126:FnW P w K mg base 4 _ _ _ _:=Xz3 (C:=mC K) (fc:=Ur0 K) F126 ‹_› ‹_› ‹_› ‹_› ‹_› ‹_› ‹_› ‹_› ‹_› ‹_› ‹_›
 obtain ⟨d127,m127,F127⟩:=Zi0 R X G 127 "cswap" 165 rfl
 have o127:FnW P w K mg base 4 _ _ _ _:=Xd6 (C:=mC K) (fc:=Ur0 K) F127 ‹_› ‹_› ‹_› ‹_› ‹_› ‹_› ‹_› ‹_›
 have g127:=Zw0 m127 F127 (bd2 F127) o127
 obtain ⟨d128,m128,F128⟩:=Zi0 R X G 128 "narrowed" 98 rfl
 have o128:FnW P w K mg base 4 _ _ _ _:=Jy3 F128 ‹_› ‹_› ‹_› ‹_› ‹_› ‹_› ‹_› ‹_›
 have g128:=Zw0 m128 F128 (bd2 F128) o128
 obtain ⟨d129,m129,F129⟩:=Zi0 R X G 129 "stsf" 167 rfl
 have o129:FnW P w K mg base 5 _ _ _ _:=Vl7 (C:=mC K) (fc:=Ur0 K) F129 ‹_› ‹_› ‹_› ‹_› ‹_› ‹_› ‹_› ‹_›
 have g129:=Zw0 m129 F129 (bd2 F129) o129
 obtain ⟨d130,m130,F130⟩:=Zi0 R X G 130 "run_other_storage" 172 rfl
 have ops_run_other_storage:∀ o,oops o→o%2=0→OpE P w K mg base (adr K "Machine") (adr K "WORKS_storage") (Ur0 K) o:=fun o h1 h3=>allm ((by decide +kernel:∀ o<184,(144≤o∧o<152)∨(176≤o∧o<184)→o%2=0→o∈[144,146,148,150,176,178,180,182]) o (h1.elim (fun q=>Nat.lt_trans q.2 (by decide)) (fun q=>q.2)) h1 h3) <|
  Ve0 ⟨_,_,Yg0 R 32 "WORKS_storage" 144 "ldsf" rfl,⟨F122.kp,d122,bd2 F122,Vu0.sub o122 (by decide) (Zm1 fun o ho=>by lia)⟩⟩ <|
  Ve0 ⟨_,_,Yg0 R 33 "WORKS_storage" 146 "ldht" rfl,⟨F120.kp,d120,bd2 F120,Vu0.sub o120 (by decide) (Zm1 fun o ho=>by lia)⟩⟩ <|
  Ve0 ⟨_,_,Yg0 R 34 "WORKS_storage" 148 "cswap" rfl,⟨F127.kp,d127,bd2 F127,Vu0.sub o127 (by decide) (Zm1 fun o ho=>by lia)⟩⟩ <|
  Ve0 ⟨_,_,Yg0 R 35 "WORKS_storage" 150 "ldunc" rfl,⟨F121.kp,d121,bd2 F121,Vu0.sub o121 (by decide) (Zm1 fun o ho=>by lia)⟩⟩ <|
  Ve0 ⟨_,_,Yg0 R 36 "WORKS_storage" 176 "stsf" rfl,⟨F129.kp,d129,bd2 F129,Vu0.sub o129 (by decide) (Zm1 fun o ho=>by lia)⟩⟩ <|
  Ve0 ⟨_,_,Yg0 R 37 "WORKS_storage" 178 "stht" rfl,⟨F123.kp,d123,bd2 F123,Vu0.sub o123 (by decide) (Zm1 fun o ho=>by lia)⟩⟩ <|
  Ve0 ⟨_,_,Yg0 R 38 "WORKS_storage" 180 "stco" rfl,⟨F124.kp,d124,bd2 F124,Vu0.sub o124 (by decide) (Zm1 fun o ho=>by lia)⟩⟩ <|
  Ve0 ⟨_,_,Yg0 R 39 "WORKS_storage" 182 "stunc" rfl,⟨F125.kp,d125,bd2 F125,Vu0.sub o125 (by decide) (Zm1 fun o ho=>by lia)⟩⟩ all0
 have o130:FnW P w K mg base 7 _ _ _ _:=Vb3 (C:=mC K) (fc:=Ur0 K) F130 ‹_› ‹_› ‹_›
 obtain ⟨d131,m131,F131⟩:=Zi0 R X G 131 "run_missing" 198 rfl
 have o131:FnW P w K mg base 1 _ _ _ _:=Vk2 (C:=mC K) (fc:=Ur0 K) F131 ‹_› ‹_›
 obtain ⟨d132,m132,F132⟩:=Zi0 R X G 132 "trap" 201 rfl
 have o132:FnW P w K mg base 1 _ _ _ _:=Vi7 (C:=mC K) F132 ‹_› ‹_›
 have g132:=Zw0 m132 F132 (bd2 F132) o132
 obtain ⟨d133,m133,F133⟩:=Zi0 R X G 133 "is_there" 217 rfl
 have o133:FnW P w K mg base 1 _ _ _ _:=Jz3 F133
 have g133:=Zw0 m133 F133 (bd2 F133) o133
 obtain ⟨d134,m134,F134⟩:=Zi0 R X G 134 "refusal" 210 rfl
 have o134:FnW P w K mg base 1 _ _ _ _:=Uq4 F134 ‹_› ‹_›
 have g134:=Zw0 m134 F134 (bd2 F134) o134
 obtain ⟨d135,m135,F135⟩:=Zi0 R X G 135 "answer_place" 216 rfl
 have o135:FnW P w K mg base 1 _ _ _ _:=Yz2 (C:=mC K) F135 ‹_›
 obtain ⟨d136,m136,F136⟩:=Zi0 R X G 136 "answer_get" 218 rfl
 have o136:FnW P w K mg base 2 _ _ _ _:=Zr3 (C:=mC K) F136 ‹_› ‹_› ‹_› ‹_›
 obtain ⟨d137,m137,F137⟩:=Zi0 R X G 137 "answer_special" 220 rfl
 have o137:FnW P w K mg base 2 _ _ _ _:=Jh1 (C:=mC K) F137 ‹_› ‹_› ‹_› ‹_›
 obtain ⟨d138,m138,F138⟩:=Zi0 R X G 138 "answer_go" 214 rfl
 have o138:FnW P w K mg base 1 _ _ _ _:=Ve3 (C:=mC K) F138 ‹_›
 obtain ⟨d139,m139,F139⟩:=Zi0 R X G 139 "answer_set" 219 rfl
 have o139:FnW P w K mg base 3 _ _ _ _:=Zp3 (C:=mC K) F139 ‹_› ‹_› ‹_› ‹_›
 obtain ⟨d140,m140,F140⟩:=Zi0 R X G 140 "answer_begin" 211 rfl
 have o140:FnW P w K mg base 2 _ _ _ _:=Xa2 (C:=mC K) F140 ‹_› ‹_›
 obtain ⟨d141,m141,F141⟩:=Zi0 R X G 141 "call_length" 222 rfl
 have o141:FnW P w K mg base 1 _ _ _ _:=Vv2 F141 ‹_›
 have g141:=Zw0 m141 F141 (bd2 F141) o141
 obtain ⟨d142,m142,F142⟩:=Zi0 R X G 142 "put_arithmetic" 156 rfl
 have o142:FnW P w K mg base 1 _ _ _ _:=Jg1 (C:=mC K) (c3:=Ur0 K 3) F142 ‹_› ‹_› ‹_› ‹_›
 have g142:=Zw0 m142 F142 (bd2 F142) o142
 have oH:FnW P w K mg base 1 _ _ _ _:=Vn2 (C:=mC K) Fz1 ‹_›
 have gH:=Yl1 mz1 Fz1 (bd2 Fz1) oH
 obtain ⟨d143,m143,F143⟩:=Zi0 R X G 143 "push" 149 rfl
 have o143:FnW P w K mg base 2 _ _ _ _:=Vq7 (C:=mC K) (c5:=Ur0 K 5) F143 ‹_› ‹_› ‹_› ‹_› ‹_› ‹_›
 have g143:=Zw0 m143 F143 (bd2 F143) o143
 obtain ⟨d144,m144,F144⟩:=Zi0 R X G 144 "run_push_jump" 150 rfl
 have o144:FnW P w K mg base 3 _ _ _ _:=Zh2 (C:=mC K) (fc:=Ur0 K) F144 ‹_› ‹_› ‹_›
 obtain ⟨d145,m145,F145⟩:=Zi0 R X G 145 "run_push_go" 151 rfl
 have o145:FnW P w K mg base 4 _ _ _ _:=Vj2 (C:=mC K) (fc:=Ur0 K) F145 ‹_› ‹_› ‹_›
 obtain ⟨d146,m146,F146⟩:=Zi0 R X G 146 "pop_registers" 152 rfl
 have o146:FnW P w K mg base 1 _ _ _ _:=Zi2 (C:=mC K) F146 ‹_›
 have g146:=Zw0 m146 F146 (bd1 F146) o146
 obtain ⟨d147,m147,F147⟩:=Zi0 R X G 147 "results" 153 rfl
 have o147:FnW P w K mg base 1 _ _ _ _:=Up4 (C:=mC K) F147 ‹_›
 have g147:=Zw0 m147 F147 (bd2 F147) o147
 obtain ⟨d148,m148,F148⟩:=Zi0 R X G 148 "run_pop" 154 rfl
 have o148:FnW P w K mg base 2 _ _ _ _:=Ul4 (C:=mC K) (fc:=Ur0 K) F148 ‹_› ‹_› ‹_› ‹_› ‹_› ‹_› ‹_› ‹_› ‹_›
 obtain ⟨d149,m149,F149⟩:=Zi0 R X G 149 "put_globals" 155 rfl
 have o149:FnW P w K mg base 1 _ _ _ _:=Vl2 (C:=mC K) (c3:=Ur0 K 3) F149 ‹_› ‹_› ‹_› ‹_›
 have g149:=Zw0 m149 F149 (bd2 F149) o149
 obtain ⟨d150,m150,F150⟩:=Zi0 R X G 150 "run_put" 157 rfl
 have o150:FnW P w K mg base 3 _ _ _ _:=Uk4 (C:=mC K) (fc:=Ur0 K) F150 ‹_› ‹_› ‹_› ‹_› ‹_› ‹_› ‹_› ‹_› ‹_› ‹_›
 obtain ⟨d151,m151,F151⟩:=Zi0 R X G 151 "ranges" 199 rfl
 have U:Runs mg (Ju7 K):=⟨m131,m99,m115,m116,m66,m53,m54,m55,m119,m130,m58,m59,m126,m145,m65,m61,m56,m144,m57,m150,m148,m60⟩
 have o151:FnW P w K mg base 1 _ _ _ _:=Vm5 (fa:=Ju7 K) F151 ‹_›
 have g151:=Zw0 m151 F151 (bd0 F151) o151
 obtain ⟨d152,m152,F152⟩:=Zi0 R X G 152 "op_table" 200 rfl
 have o152:FnW P w K mg base 2 _ _ _ _:=Jx3 (fa:=Ju7 K) F152 ‹_› ‹_› ‹_›
 have g152:=Zw0 m152 F152 (bd0 F152) o152
 obtain ⟨d153,m153,F153⟩:=Zi0 R X G 153 "run_steps" 202 rfl
 have Wk:Works P w K mg base (adr K "Machine") (Ur0 K) (Ju7 K):=by
  intro i hi
  refine allm (p:=fun i=>∃ fd,PySem.W.keepIn K (.ref (Ju7 K i))=true∧Ui0 K fd ["machine","word"] []∧Vu0 P w K mg base (CXW P w) 8 (Ju7 K i) fd ["machine","word"] (Xc0 (adr K "Machine") (Ur0 K) (Ug4 i))) (o:=i) ((by decide +kernel:∀ i<22,i∈[0,1,2,3,4,5,6,7,8,9,10,11,12,13,14,15,16,17,18,19,20,21]) i hi) ?_
  exact Ve0 ⟨d131,F131.kp,bd2 F131,Vu0.mono o131 (by decide)⟩ <|
  Ve0 ⟨d99,F99.kp,bd2 F99,Vu0.mono o99 (by decide)⟩ <|
  Ve0 ⟨d115,F115.kp,bd2 F115,Vu0.mono o115 (by decide)⟩ <|
  Ve0 ⟨d116,F116.kp,bd2 F116,Vu0.mono o116 (by decide)⟩ <|
  Ve0 ⟨d66,F66.kp,bd2 F66,Vu0.mono o66 (by decide)⟩ <|
  Ve0 ⟨d53,F53.kp,bd2 F53,Vu0.mono o53 (by decide)⟩ <|
  Ve0 ⟨d54,F54.kp,bd2 F54,Vu0.mono o54 (by decide)⟩ <|
  Ve0 ⟨d55,F55.kp,bd2 F55,Vu0.mono o55 (by decide)⟩ <|
  Ve0 ⟨d119,F119.kp,bd2 F119,Vu0.mono o119 (by decide)⟩ <|
  Ve0 ⟨d130,F130.kp,bd2 F130,Vu0.mono o130 (by decide)⟩ <|
  Ve0 ⟨d58,F58.kp,bd2 F58,Vu0.mono o58 (by decide)⟩ <|
  Ve0 ⟨d59,F59.kp,bd2 F59,Vu0.mono o59 (by decide)⟩ <|
  Ve0 ⟨d126,F126.kp,bd2 F126,Vu0.mono o126 (by decide)⟩ <|
  Ve0 ⟨d145,F145.kp,bd2 F145,Vu0.mono o145 (by decide)⟩ <|
  Ve0 ⟨d65,F65.kp,bd2 F65,Vu0.mono o65 (by decide)⟩ <|
  Ve0 ⟨d61,F61.kp,bd2 F61,Vu0.mono o61 (by decide)⟩ <|
  Ve0 ⟨d56,F56.kp,bd2 F56,Vu0.mono o56 (by decide)⟩ <|
  Ve0 ⟨d144,F144.kp,bd2 F144,Vu0.mono o144 (by decide)⟩ <|
  Ve0 ⟨d57,F57.kp,bd2 F57,Vu0.mono o57 (by decide)⟩ <|
  Ve0 ⟨d150,F150.kp,bd2 F150,Vu0.mono o150 (by decide)⟩ <|
  Ve0 ⟨d148,F148.kp,bd2 F148,Vu0.mono o148 (by decide)⟩ <|
  Ve0 ⟨d60,F60.kp,bd2 F60,Vu0.mono o60 (by decide)⟩ all0
 have o153:FnW P w K mg base 9 _ _ _ _:=Va3 (C:=mC K) (fc:=Ur0 K) (fa:=Ju7 K) F153 ‹_› ‹_› ‹_› ‹_› ‹_› ‹_› ‹_›
 have g153:=Zw0 m153 F153 (bd2 F153) o153
 obtain ⟨d154,m154,F154⟩:=Zi0 R X G 154 "run" 203 rfl
 have X5:Jv6 K mg (Ur0 K):=by
  refine ⟨w1,w2,w3,w4,w5,x1,x2,x3,x4,x5,of_decide_eq_true R.c15,?_⟩
  have key:∀ x∈Jv7,∀ y∈Jv7,PySem.W.exmOne K (.ref (adr K x)) (.ref (adr K y))=some (adr K x == adr K y):=fun x hx y hy=>ex_is (List.all_eq_true.mp (List.all_eq_true.mp R.c8 x hx) y hy)
  intro C1 h1 C2 h2
  have e1:[Ur0 K 1,Ur0 K 2,Ur0 K 3,Ur0 K 4,Ur0 K 5]=Jv7.map (adr K):=rfl
  rw [e1] at h1 h2
  obtain ⟨x,hx,rfl⟩:=List.mem_map.mp h1
  obtain ⟨y,hy,rfl⟩:=List.mem_map.mp h2
  exact key x hx y hy
 have o154:FnW P w K mg base 10 _ _ _ _:=ok_run (C:=mC K) (fc:=Ur0 K) F154 ‹_› ‹_›
 have g154:=Zw0 m154 F154 (bd2 F154) o154
 obtain ⟨d155,m155,F155⟩:=Zi0 R X G 155 "answer_run" 215 rfl
 have o155:FnW P w K mg base 11 _ _ _ _:=Zq3 (C:=mC K) F155 ‹_›
 obtain ⟨d156,m156,F156⟩:=Zi0 R X G 156 "answer_write" 212 rfl
 have o156:FnW P w K mg base 2 _ _ _ _:=Yy2 (C:=mC K) (c1:=Ur0 K 1) F156 ‹_› ‹_› ‹_› ‹_›
 obtain ⟨d157,m157,F157⟩:=Zi0 R X G 157 "answer_read" 213 rfl
 have o157:FnW P w K mg base 2 _ _ _ _:=Vw2 (C:=mC K) (c1:=Ur0 K 1) F157 ‹_› ‹_› ‹_› ‹_›
 obtain ⟨d158,m158,F158⟩:=Zi0 R X G 158 "answers" 223 rfl
 have Dt:Duties P w K mg base (adr K "Machine") (daOf K):=by
  intro i hi
  refine allm (p:=fun i=>∃ fd,PySem.W.keepIn K (.ref (daOf K i))=true∧Ui0 K fd ["machine","call"] []∧Vu0 P w K mg base (CXW P w) 11 (daOf K i) fd ["machine","call"] (Ju0 (adr K "Machine") (okD i) (dut i))) (o:=i) ((by decide +kernel:∀ i<9,i∈[0,1,2,3,4,5,6,7,8]) i hi) ?_
  exact Ve0 ⟨d140,F140.kp,bd2 F140,Vu0.sub o140 (by decide) (Yh1 fun _ _=>trivial)⟩ <|
  Ve0 ⟨d156,F156.kp,bd2 F156,Vu0.mono o156 (by decide)⟩ <|
  Ve0 ⟨d157,F157.kp,bd2 F157,Vu0.mono o157 (by decide)⟩ <|
  Ve0 ⟨d138,F138.kp,bd2 F138,Vu0.sub (Zp2 o138) (by decide) (Yh1 fun _ z=>z)⟩ <|
  Ve0 ⟨d155,F155.kp,bd2 F155,Vu0.sub o155 (by decide) (Yh1 fun as z=>⟨z.1,z.2.2⟩)⟩ <|
  Ve0 ⟨d135,F135.kp,bd2 F135,Vu0.sub (Zp2 o135) (by decide) (Yh1 fun _ _=>trivial)⟩ <|
  Ve0 ⟨d136,F136.kp,bd2 F136,Vu0.sub (Zp2 o136) (by decide) (Yh1 fun _ z=>z)⟩ <|
  Ve0 ⟨d139,F139.kp,bd2 F139,Vu0.sub o139 (by decide) (Yh1 fun _ z=>z)⟩ <|
  Ve0 ⟨d137,F137.kp,bd2 F137,Vu0.sub (Zp2 o137) (by decide) (Yh1 fun _ z=>z)⟩ all0
 have Mk0:Mk K (adr K "Machine") (Jy5 K (adr K "Machine") "__init__"):=⟨R.c13,mz10.at_,mz10.fn,R.c14⟩
 have bI:=bd1 Fz10
 have o158:FnW P w K mg base 12 _ _ _ _:=Jd4 (C:=mC K) F158 ‹_› ‹_› ‹_› ‹_› ‹_› ‹_› ‹_›
 exact Exists.intro d158 ⟨F158,o158⟩
end Wr
set_option maxHeartbeats 0
namespace Wr
open PySem PySem.W PySem.Calls PyProof.Rows
abbrev R0:OpenSpec:=PySem.Challenge.rw_wordrunner_s01_answers
def ansDef:Stmt:=PySem.Challenge.pw_wordrunner_s01_answers.main.body.getD 223 (.Pass ⟨0,0,0,0⟩)
def Q0:Program:={ PySem.Challenge.pw_wordrunner_s01_answers with main:={ PySem.Challenge.pw_wordrunner_s01_answers.main with body:=[ansDef] } }
noncomputable def L0:List Str:=[("PastMemory":Str),("NoInstruction":Str),("NotAllowed":Str),("NothingPushed":Str),("TooMuchPushed":Str),("MASK":Str),("signed_part":Str),("signed":Str),("fits":Str),("compared":Str),("MEMORY_SIZE":Str),("RD":Str),("RH":Str),("RJ":Str),("RM":Str),("RR":Str),("RG":Str),("RL":Str),("RA":Str),("RP":Str),("RXX":Str),("Machine":Str),("op_of":Str),("even_op":Str),("x_of":Str),("y_of":Str),("z_of":Str),("yz_of":Str),("is_odd":Str),("first_value":Str),("second_value":Str),("address":Str),("near_target":Str),("far_target":Str),("LOW_BITS":Str),("bit_or":Str),("bit_orn":Str),("bit_nor":Str),("bit_xor":Str),("bit_and":Str),("bit_andn":Str),("bit_nand":Str),("bit_nxor":Str),("differences":Str),("bdif":Str),("wdif":Str),("tdif":Str),("odif":Str),("mux":Str),("sadd":Str),("spread":Str),("mor":Str),("mxor":Str),("WORKS_bits":Str),("run_bits":Str),("is_so":Str),("holds":Str),("run_branch":Str),("run_conditional_set":Str),("run_zero_or_set":Str),("INEXACT":Str),("DIVIDED_BY_ZERO":Str),("UNDERFLOW":Str),("OVERFLOW":Str),("INVALID":Str),("FIX_OVERFLOW":Str),("WHOLE_OVERFLOW":Str),("DIVIDE_CHECK":Str),("DOUBLE":Str),("SINGLE":Str),("SIGN":Str),("INFINITY":Str),("NO_NUMBER":Str),("QUIET":Str),("NEAREST":Str),("UP":Str),("DOWN":Str),("sign_of":Str),("magnitude":Str),("is_no_number":Str),("is_infinite":Str),("is_zero":Str),("with_sign":Str),("mantissa_of":Str),("exponent_of":Str),("goes_up":Str),("shortened":Str),("is_shortened_exactly":Str),("past_greatest":Str),("rounded":Str),("widened":Str),("narrowed":Str),("is_unordered":Str),("is_signalling":Str),("no_number_of":Str),("invalid":Str),("made":Str),("rank":Str),("fcmp":Str),("fun":Str),("feql":Str),("scaled":Str),("sum_that_is_zero":Str),("finite_sum":Str),("fadd":Str),("fsub":Str),("fmul":Str),("finite_quotient":Str),("fdiv":Str),("finite_rest":Str),("frem":Str),("WORKS_floating":Str),("run_floating":Str),("mode_of":Str),("whole_magnitude":Str),("whole_value":Str),("fixu":Str),("fix":Str),("whole_root":Str),("finite_root":Str),("fsqrt":Str),("fint":Str),("flot":Str),("flotu":Str),("made_short":Str),("sflot":Str),("sflotu":Str),("FIXES":Str),("FLOATS":Str),("run_fix":Str),("run_float":Str),("run_go":Str),("run_constant":Str),("run_jump":Str),("run_target":Str),("run_get":Str),("run_nothing":Str),("MOST_PUSHED":Str),("push":Str),("run_push_jump":Str),("run_push_go":Str),("pop_registers":Str),("results":Str),("run_pop":Str),("put_globals":Str),("put_arithmetic":Str),("run_put":Str),("size_of":Str),("is_unsigned":Str),("run_load":Str),("run_store":Str),("ldsf":Str),("ldht":Str),("cswap":Str),("ldunc":Str),("stsf":Str),("stht":Str),("stco":Str),("stunc":Str),("WORKS_storage":Str),("run_other_storage":Str),("fitted":Str),("mul":Str),("mulu":Str),("div":Str),("divu":Str),("add":Str),("addu":Str),("sub":Str),("subu":Str),("addu_of_two":Str),("addu_of_four":Str),("addu_of_eight":Str),("addu_of_sixteen":Str),("compare":Str),("compare_unsigned":Str),("neg":Str),("sl":Str),("slu":Str),("sr":Str),("sru":Str),("WORKS_whole":Str),("NEGATIONS":Str),("run_whole":Str),("run_missing":Str),("ranges":Str),("op_table":Str),("trap":Str),("run_steps":Str),("run":Str),("WRITE":Str),("MOST_BYTES":Str),("HOW_MANY_PLAIN":Str),("HOW_MANY_SPECIAL":Str),("LENGTHS":Str),("refusal":Str),("answer_begin":Str),("answer_write":Str),("answer_read":Str),("answer_go":Str),("answer_run":Str),("answer_place":Str),("is_there":Str),("answer_get":Str),("answer_set":Str),("answer_special":Str),("DUTIES":Str),("call_length":Str)]
def X0:Shared→Bool:=fun s=>recOk [] s
def D0:DefRec:=((defOf Q0 "answers").get (by decide +kernel)).1
theorem d_sre:sreFenced R0.prog.main=true:=by decide +kernel
theorem d_mod:((moduleNames R0.prog.main.body).isEmpty || lookedIntoSs (moduleNames R0.prog.main.body) R0.prog.main.body)=true:=by decide +kernel
theorem d_res:namesResolve R0.prog=true:=by decide +kernel
theorem d_bn:R0.prog.boundNames.all (fun n=>!worldNames.contains n)=true:=by decide +kernel
theorem d_road:noRoadLSs { strict:=!(importedModules R0.prog.main.body).all cThrough.contains,foot:=none,bare:=(["vars","dir","locals"]:List Str).filter (readsOut R0.prog R0.prog.main.body) } R0.prog.main.body=true:=by decide +kernel
theorem d_meet:namesMeet R0.prog R0.prog.main.body (fun _ n=>attrL n)=true:=by decide +kernel
theorem Vz3:(R0.prog.boundNames.contains R0.name && !startupNames.contains R0.name && specDef R0.prog R0.name R0.args.length && R0.args.all Codec.fits && R0.ret.ok)=true:=by decide +kernel
theorem Ua2 {a b:Bool} (h1:a=true) (h2:b=true):(a && b)=true:=by rw [h1,h2];rfl
theorem Ub2 {a b:Bool} (h:(a && b)=true):a=true:=(Bool.and_eq_true_iff.mp h).1
theorem Vk6 {a b:Bool} (h:(a && b)=true):b=true:=(Bool.and_eq_true_iff.mp h).2
theorem d_look:looksOpen R0.prog=true:=Ua2 (Ua2 (Ua2 (Ua2 (Ua2 d_sre d_mod) d_res) d_bn) d_road) d_meet
theorem k1:R0.wellSaid=true :=
 Ua2 (Ua2 (Ua2 (Ua2 (Ua2 d_look (Ub2 (Ub2 (Ub2 (Ub2 Vz3))))) (Vk6 (Ub2 (Ub2 (Ub2 Vz3))))) (Vk6 (Ub2 (Ub2 Vz3)))) (Vk6 (Ub2 Vz3))) (Vk6 Vz3)
noncomputable def need:List Nat:=[2,3,23,24,25,36,37,38,49,50,51,62,63,64,75,76,77,85,86,92,93,99,100,106,107,120,121,127,128,134,135,141,142,148,149,155,156,162,163,169,170,176,177,183,184,190,191,193,194,195,196,204,205,211,212,218,219,225,226,232,233,239,240,246,247,253,254,260,261,267,268,274,275,281,282,288,289,295,296,302,303,309,310,316,317,323,324,330,331,337,338,344,345,351,352,358,359,365,366,372,373,379,380,386,387,393,394,400,401,407,408,409,415,416,422,423,429,430,436,437,443,444,450,451,452,453,459,460,466,467,473,474,480,481,487,488,494,495,501,502,508,509,515,516,522,523,529,530,536,537,543,544,550,551,557,558,564,565,571,572,578,579,585,586,592,593,599,600,606,607,613,614,620,621,627,628,634,635,641,642,648,649,655,656,662,663,669,670,676,677,683,684,690,691,692,698,699,705,706,712,713,719,720,726,727,733,734,740,741,747,748,754,755,761,762,768,769,775,776,782,783,789,790,796,797,798,799,805,806,812,813,819,820,826,827,833,834,840,841,847,848,854,855,861,862,868,869,875,876,882,883,889,890,896,897,903,904,910,911,917,918,924,925,931,932,938,939,945,946,952,953,959,960,966,967,973,974,980,981,987,988,994,995,1001,1002,1003,1009,1010,1016,1017,1023,1024,1030,1031,1037,1038,1044,1045,1051,1052,1058,1059,1065,1066,1072,1073,1079,1080,1086,1087,1093,1094,1100,1101,1107,1108,1114,1115,1121,1122,1128,1129,1135,1136,1142,1143,1149,1150,1151,1153,1159,1160,1166,1167,1173,1174,1180,1181,1187,1188,1194,1195,1201,1202,1203,1209,1210,1216,1217,1223,1224,1228,1229,1235,1236,1242,1243,1249,1250,1256,1257,1263,1264,1270,1271,1277,1278,1279,1285,1286,1292,1293]
noncomputable def ck (i:Nat):List Nat:=(need.drop (62*i)).take 62
def Vf2:Frag→List Nat→Frag
 | (b,o) :: K,a :: l=>match Nat.beq a b with
  | true=>(a,o) :: Vf2 K l
  | false=>Vf2 K (a :: l)
 | _,_=>[]
noncomputable def kc (K:Params→Frag) (P:Params) (i:Nat):Frag:=Vf2 (K P) (ck i)
noncomputable def kf (K:Params→Frag) (P:Params):Frag:=kc K P 0++(kc K P 1++(kc K P 2++(kc K P 3++(kc K P 4++kc K P 5))))
theorem Yr2:∀ (K:Frag) (l:List Nat),(Vf2 K l).map (·.1)=l.take (Vf2 K l).length
 | [],l=>by cases l <;> rfl
 | (b,o) :: K,[]=>rfl
 | (b,o) :: K,a :: l=>by
  unfold Vf2
  cases e:Nat.beq a b with
  | true =>
   show a :: (Vf2 K l).map (·.1)=a :: l.take (Vf2 K l).length
   rw [Yr2 K l]
  | false=>exact Yr2 K (a :: l)
theorem Xs1 {K:Frag}{h:Heap}{l:List Nat} (e:l.map h.get? = (Vf2 K l).map fun p=>some p.2):(Vf2 K l).In h:=by
 refine Frag.in_of ?_ e
 have hl:=congrArg List.length e
 rw [List.length_map,List.length_map] at hl
 rw [Yr2,← hl,List.take_length]
theorem Vo3 {l l':Frag}{h:Heap} (h1:l.In h) (h2:l'.In h):Frag.In (l++l') h:=fun a o e=>by
 rw [List.lookup_append] at e
 cases q:l.lookup a with
 | some x=>rw [q] at e;cases e;exact h1 a _ q
 | none=>rw [q] at e;exact h2 a o e
theorem kf_in {K:Params→Frag}{w:World}{h:Heap}
  (e:((ck 0).map h.get?,(ck 1).map h.get?,(ck 2).map h.get?,(ck 3).map h.get?,(ck 4).map h.get?,(ck 5).map h.get?)=(((kc K w.params 0).map fun p=>some p.2),((kc K w.params 1).map fun p=>some p.2),((kc K w.params 2).map fun p=>some p.2),((kc K w.params 3).map fun p=>some p.2),((kc K w.params 4).map fun p=>some p.2),((kc K w.params 5).map fun p=>some p.2))):InK (kf K) w h:=by
 injection e with e0 e
 injection e with e1 e
 injection e with e2 e
 injection e with e3 e
 injection e with e4 e5
 exact Vo3 (Xs1 e0) (Vo3 (Xs1 e1) (Vo3 (Xs1 e2) (Vo3 (Xs1 e3) (Vo3 (Xs1 e4) (Xs1 e5)))))
theorem my_head {K:Params→Frag}{N:Nat} (left:LeftO R0.prog Q0 L0 X0 (fun s=>((ck 0).map s.heap.get?,(ck 1).map s.heap.get?,(ck 2).map s.heap.get?,(ck 3).map s.heap.get?,(ck 4).map s.heap.get?,(ck 5).map s.heap.get?)) (fun w=>(((kc K w.params 0).map fun p=>some p.2),((kc K w.params 1).map fun p=>some p.2),((kc K w.params 2).map fun p=>some p.2),((kc K w.params 3).map fun p=>some p.2),((kc K w.params 4).map fun p=>some p.2),((kc K w.params 5).map fun p=>some p.2))) N)
  (hw:∃ args,R0.pre args=true∧WData.layableAll args=true) (call:WalkOS Q0 L0 (fun _ _=>True) (InK (kf K)) R0 D0 [] fun f vs=>PySem.call f vs):R0.Holds :=
 holds_os (r:=R0) (q:=Q0) (loose:=L0) (Xt:=X0) (XP:=fun _ _=>True) (YP:=InK (kf K)) (d:=D0) (kwd:=[]) left (fun w s e=>kf_in e) InK.keeps (fun _ _=>trivial) (fun _ _ _ _ _=>trivial) (by kernel_rfl) (by kernel_rfl) (by kernel_rfl) (fun s e=>recFacts_of e) os_shapes k1 (by decide +kernel) ⟨rfl,rfl,rfl,rfl,rfl,by decide +kernel⟩ hw call
theorem wit0:∃ args,R0.pre args=true∧WData.layableAll args=true:=⟨[.list [.int 5]],by decide +kernel,by decide +kernel⟩
theorem walk_all {K:Params→Frag} (raw:∀ P,Raw (kf K P)):WalkOS Q0 L0 (fun _ _=>True) (InK (kf K)) R0 D0 [] fun f vs=>PySem.call f vs:=by
 refine L2.walk_spec (r:=R0) (k:=12) (K:=kf K) (CX:=fun w=>L2.CXW R0.prog w) (ps:=["calls"]) (sp:=fun w=>Zz2 (kf K w.params)) k1 rfl rfl ⟨rfl,by decide,by decide⟩ (fun w h Y=>Y) ?F ?S ?C
 case F =>
  intro w mg fa h Y KX G hmg
  obtain ⟨fd,F,_⟩:=Jr6 (P:=R0.prog) (w:=w) (base:=h) (raw w.params) KX G
  have e:mg "answers" = some (.ref (adr (kf K w.params) "answers")):=by
   obtain ⟨_,m,_⟩:=Zi0 (raw w.params) KX G 158 "answers" 223 rfl
   exact m
  have e2:=hmg.symm.trans e
  cases e2
  refine ⟨fd,?_,fun base KB GB=>?_⟩
  ·obtain ⟨oc,od,kV,doc,pm,an,cdv,ct,osl,rfl,lk,hcd⟩:=F.ex
   exact fun s us hu=>match us,hu with | [_],_=>.of_eq rfl
  ·obtain ⟨fd',F',o⟩:=Jr6 (P:=R0.prog) (w:=w) (base:=base) (raw w.params) KX G
   have:fd'=fd:=by
    obtain ⟨_,_,_,_,_,_,_,_,_,_,lk,_⟩:=F.ex
    obtain ⟨_,_,_,_,_,_,_,_,_,_,lk',_⟩:=F'.ex
    rw [lk] at lk'
    injection lk' with z
    injection z with _ _ z _
    injection z with z
    exact z.symm
   rw [← this]
   exact o
 case S =>
  intro w H xs a hO hwi hask hx
  cases hx with
  | cons h1 h2 =>
   cases h2
   cases h1 with
   | lst hs ha =>
    have e:=L2.ints_dw a.1 _ ha
    subst e
    have q:((Codec.inLen 0 16000 a.1 && a.1.all (Codec.inInt (-2147483648) 18446744073709551615)) && true)=true:=hwi
    rw [Bool.and_eq_true,Bool.and_eq_true] at q
    exact ⟨_,a.1,rfl,hs,(Codec.inNat_iff.mp q.1.1).2,hask,fun H' p hp=>.lst (L2.SqL.of hp) (L2.dw_ints _)⟩
 case C =>
  intro w H s e s' z
  obtain ⟨_,_,_,_,_,_,_,_,_,_,_,_,q⟩:=z
  exact q
end Wr
structure PySem.W.Fast:Prop where (tw10921190415574603561 tw7345664138612140769 tw8273532226337555786 tw13860393128231166364 tw16805794542919743566 tw9077795229266701056 tw11286914830834594225 tw3661435095216769509 tw10094458457455670193 tw7424939904978646611 tw13287861898398507987 tw16784663830240187351 tw9500363374849028583 tw8217686383576224255 tw6364101457797625800 tw1772753110990573186 tw13946701379354793568 tw17501217297397922056 tw13424592670789770495 tw11153621211375995662 tw6981716846385831985 tw9504145132520314191 tw6797224875011256679 tw9369067739192730528 tw9441670562601298049 tw501960607250983528 tw8074981486664452634 tw11454038958145400356 tw15348436177403186683 tw1363738168326788835 tw6719715019027841061 tw668438799003560145 tw15430989989625580633 tw1446644792130885128 tw7094494567296991183 tw1866230855750735721 tw2349956235717309276 tw2821414866907750682 tw8256425879853785169 tw5762859752657186049 tw1305365389636015840 tw14501997913110623761 tw10014247585263103683 tw14437247177491261377 tw14731028284545398689 tw5507774538269483098 tw3091057583102687314 tw8779604163573715877 tw8899782990068953920 tw3508977593073256459 tw16303597505183477645 tw9650387829945322930 tw11583184209858301599 tw10222798193303483233 tw9393700867142218500 tw7978641973867629255 tw6797559869487741291 tw11199878811381226650 tw14380928678620631638 tw16646585285490525744 tw13868616998601278114 tw17949036713377878976 tw14606288588703689667 tw11208941971545831039 tw7939477119796942343 tw10394766152447381548 tw14355612410493293472 tw4610880673293834538 tw11391453691966906633 tw1589014172225513373 tw4869451635341411163 tw18335719343450577173 tw3764796653277006914 tw5714573403707928833 tw15355072791581856356 tw14523394646227672492 tw11725936141432579910 tw18179755707656785088 tw9457149358182899894 tw7533230001161967418 tw17976887048189797351 tw2045440743140533021 tw11062972417381717108 tw8890475541922494324 tw12419585710644513918 tw1912794872836583455 tw18327670223592111879 tw9214739855590890138 tw17295857815905293827 tw6096301496555710994 tw2913228387276419772 tw10542961785764962384 tw3740412225536962065 tw9154412650419491632 tw15546131873815030565 tw4730770692645691642 tw14337681161657512688 tw16396161259196018878 tw6386170637763243822 tw4877655149741553004 tw6492451071874552152 tw7027149288932901027 tw7286212731545117172 tw7062376208697547803 tw17075625370456702454 tw11513338691628218785 tw9778371390040862755 tw3270956234850678805 tw10706203365930420008 tw11552157178563028291 tw11132791294251746036 tw11087972964208492702 tw16103261587741811891 tw6310142720803246439 tw6768587007267676781 tw3868993560876678923 tw13614701752054989838 tw7597128272398787767 tw13474323891199599512 tw6612020084182580419 tw6842134045529478107 tw5098766494802372630 tw7130925735987543932 tw9582503255465282837 tw838305209175371753 tw7756666620593033338 tw12407859675380362430 tw4442375083992774553 tw17770065304532787121 tw1775366362029808552 tw1146023373109783828 tw16188974130975710260 tw9819104759351277687 tw2352905856212008934 tw16282636775802946397 tw3996667827522125147 tw10304150782874897619 tw11671239387595260125 tw17700827127956838014 tw16004269025083779425 tw5831237850834356583 tw7144535287096200798 tw4722603256884756852 tw11361677625681427548 tw2037242947101539447 tw7223791010191407365 tw1328710614388816683 tw954176657349646955 tw434967049144126039 tw7031448059227181673 tw17291726199663853704 tw8878410137735989080 tw16818588473160984303 tw17132915770323286535 tw14513793048075184445 tw6950481929993396843 tw10457401154213238331 tw11330043745706240984 tw9513151335915283753 tw7001869207596574113 tw4492686311470124748 tw7825992675609672935 tw15769335990548952644 tw9263116026601768524 tw10740379921403501138 tw17510549434722946649 tw11204054456256163444 tw136486967903473717 tw9770484479370713135 tw7158882158729241613 tw2391875302296578601 tw9877569319436970061 tw7844429640379628756 tw2461394515200838528 tw3429160155708000963 tw814290554529143007 tw7933205324009080092 tw14785572591561558622 tw9097883499273060819 tw2489813616745808870 tw17178654963882085801 tw6695956453938129482 tw8303801146013460858 tw9385992698492835134 tw10329523977721094108 tw7884751660200524894 tw10321926833963817466 tw11522726878704605621 tw3474964220293199644 tw10628173809959281847 tw917926888609547420 tw17510281570532114701 tw8734049236569199194 tw3537138177429190619 tw16311813531340890193 tw6994130052328946727 tw16990002549634864194 tw17706483114350285593 tw1938370410480476226 tw9998379521911887969 tw3075828823534335502 tw17548065826812691483 tw18372837564802599728 tw13323865902159473468 tw1740816779462721229 tw7057717545890446375 tw6885230285891856261 tw11262831963004050708 tw10643916450746233568 tw28903431234352242 tw12916576059042924492 tw12709569307152614747 tw4633703531418494316 tw6218429403764808127 tw6384994878606386953 tw5749787726259898788 tw17535779808613254007 tw5927909265137754595 tw5225623273913904347 tw12053545859664305402 tw1041296164747885563 tw1449266267932622158 tw8947677823730371787 tw15473667259677775258 tw938034963235720081 tw12015856350505284607 tw8721559680429766224 tw1427418393931157602 tw8925128261695823859 tw16346352999504114514 tw13410915931435812886 tw3820031759309409972 tw13430442587906273131 tw5837758526987459698 tw6031392168870697116 tw15238196340712671334 tw2816981563888705758 tw3580815691331180842 tw13105191326573850024 tw4430469662369388115 tw3027975637115752221 tw296011006710953715 tw12911372176423189515 tw4540212300032891740 tw14245883913398834439 tw496318279043369308 tw869558741501227642 tw1972159445274243412 tw1481024472888464061 tw10282728081975713016 tw11449735844799878839 tw4237031975227650320 tw5556934589006222455 tw11362764380410688182 tw9380388414244858217 tw15453763254265153500 tw9845772175832886532 tw16577566800035501032 tw8046035859123434797 tw7737879755827794419 tw3708377672022006178 tw8549562797601222030 tw3019485996248386381 tw2116370755935337547 tw11349569102186225886 tw9428821234522244187 tw16002389782358059244 tw13457215248520076422 tw15040083418590920212 tw1037934393969452393 tw13821853531374508579 tw624207344317366530 tw8742598265063061528 tw14591010698592282796 tw1071566512542327668 tw12364222369263099166 tw16568209615521657155 tw15704578532226623768 tw8417664910078190116 tw925089708922753326 tw16193686578940625944 tw15185928803059501270 tw16258566314458880464 tw14183971949006922837 tw17273587175073124052 tw15959681477079943412 tw11972698520192778056 tw12603577486421246427 tw10369453282500037328 tw17764342675920072463 tw12140864881442424003 tw5721625565582975337 tw12201057414937632389 tw288503834064668631 tw5096144794246459233 tw3676916173375872794 tw1682890981338983278 tw13841913573864614785 tw46226003450550862 tw16815885018493099000 tw5233338267909751583 tw12358399762027053135 tw10263887962041533570 tw14395843599164028887 tw6689951278604657427 tw11428069110758012581 tw13726603346247552555 tw14003516429768564921 tw1410873820231894837 tw16613581918291837644 tw18371792390731816823 tw3650451332324245391 tw16556056996727980195 tw1212679067640506854 tw1710475635432327274 tw14224921852285620401 tw11557612172962267433 tw8501765866785879227 tw16768381378762504066 tw4936225555834879438 tw5257035368354091180 tw2215667326476842788 tw17347031065075938449 tw11934435887866032624 tw8849387041208916377 tw12672384617905960669 tw17397404158264111314 tw15528389750818658325 tw14075813049635435644 tw2056506976262527494 tw4602900779189359608 tw3338563519971166484 tw15771213466834404265 tw948952600403543084 tw5502841137965864900 tw18290912011729980402 tw15697007834289760838 tw9424017160940542994 tw18334003362639749756 tw16482192383505400419 tw11739784393859088524 tw4474752492571371886 tw11305503015731945598 tw17375517460077762346 tw16562956216919723976 tw6757397607461805217 tw18421642343208967309 tw16148312110986386910 tw12772449333076427388 tw11742004142006763374 tw12957237552977974318 tw964668986311645514 tw18161001598742767008 tw12187948715040135208 tw4644749393731300759 tw17417668963323357896 tw7980828585870136376 tw7919508546982648004 tw5183641389472518891 tw1785685159585353340 tw13209672727620354508 tw8996831589391186296 tw4954502842103575060 tw13742844750120940032 tw15978523827085319719 tw8542077349396274882 tw13228688592957238647 tw8368969061318470168 tw10583751170999438680 tw16655024901582325765 tw17974135740435963015 tw15402200719586108227 tw14355359921997302341 tw5076230607455224472 tw9340090509851018536 tw8142566506080238169 tw4478364283512527332 tw1178308063785379781 tw14760745266456413766 tw15941493710293472817 tw8267724859968132162 tw3750320182984390953 tw7357735002440601691 tw14924603485719942071 tw3454384454037251456 tw1456479468135154323 tw11776141695308790304 tw6043246914076388559 tw17640194838931041396 tw8572524961461947099 tw3255416844870613081 tw9067180279527199362 tw7418251632898925764 tw18262769978089033620 tw6390469054783394176 tw6609313961437041778 tw7557377556958084436 tw3057700140528036220 tw8848401485654649765 tw4281163651572162654 tw5493802698600387271 tw11739231218491893398 tw3928162611417553041 tw9216356616135060032 tw11483720592268643184 tw8279726593883752469 tw6298083666200024462 tw4894502886400647799 tw12435165982762181593 tw9555788386207206857 tw11038062713597891068 tw2461116479675859345 tw14928618827070568118 tw7743295527480173945 tw12238678562649154513 tw3770178476202418766 tw16570823269620464760 tw13268990630909769907 tw16292400296836993329 tw18199696631656618358 tw15685709370449334095 tw13034976848777342657 tw1365725732615554129 tw3086126952523864587 tw1361115615211118132 tw7549779442918416829 tw6473444909645887485 tw6183673420687561427 tw18339670063833566577 tw2952476243996713963 tw16991139706312716190 tw15356053228777355345 tw14325305349721891087 tw13034926386911128599 tw10278101563026087442 tw10077269665184329218 tw18125442522329117742 tw10179704563515809187 tw16947241911403126370 tw18131743250029720254 tw4043935062811586826 tw3319924085624378981 tw1483028654015507960 tw5511687104067806672 tw6514302350412125006 tw4773661764029862852 tw2396243426576110345 tw14606163678010270643 tw15306530073948870101 tw1618171763518315493 tw12124493942686285575 tw11704243206997364204 tw16057345027292520187 tw9551473809864255502 tw7386711586453513597:True)
open PySem PySem.W PyProof.Rows
local macro_rules
  | `(tactic| refine $f:ident (q := $q) (loose := $l) (Xt := $x) (XP := $xp) (Yf := Hook.obs (kHook $k $a $e)) (Ya := $ya) (YP := $yp) (N := $n) $args*) => do
    let hl := Lean.mkIdent `hl
    let hw := Lean.mkIdent `hw
    let hc := Lean.mkIdent `hc
    `(tactic| refine Wr.my_head (K := $k) (N := $n) ?$hl ?$hw ?$hc)
theorem PySem.Challenge.cw_wordrunner_s01_answers_holds : PySem.Challenge.rw_wordrunner_s01_answers.Holds := by
  w_on; k_headS
  (case hw => exact Wr.wit0)
  exact Wr.walk_all (fun P => ⟨by kernel_rfl,by kernel_rfl,by kernel_rfl,by kernel_rfl,by kernel_rfl,by kernel_rfl,by kernel_rfl,by kernel_rfl,by kernel_rfl,by kernel_rfl,by kernel_rfl,by kernel_rfl,by kernel_rfl,by kernel_rfl,by kernel_rfl,by kernel_rfl,by kernel_rfl,by kernel_rfl,by kernel_rfl,by kernel_rfl,by kernel_rfl,by kernel_rfl,by kernel_rfl,by kernel_rfl,by kernel_rfl,by kernel_rfl,by kernel_rfl,by kernel_rfl⟩)
