import PyProof.Rows.All
import Wide.All
import OpenK.AllK
import Wide.FinOn
import Lean
import PyProof.EqAt
import PyProof.EqKinds
import PyProof.TupleCall
import PyProof.NsDelKeeps
import PyProof.RulesAs
import PyProof.SumAny
import PyProof.WalksMore
import PyProof.WalkInts
import PyProof.EnumMake
import KE.KMinKey
import PyProof.Rows.Range3
import PyProof.Rows.SortStr
import PyProof.StrLawsIn
import KE.KIntText
import PyProof.ListRange
import KE.KLam
import PyProof.SetRoads
import PyProof.Rows.SetObj
import PyProof.CollectWalk
import PyProof.DictItems
import PyProof.Rows.TupDisplay
import KE.KDictSum
import PyProof.Rows.SetFrom
import PyProof.DictCompW
import PyProof.ListStr
import PyProof.ZipIter
import OpenK.ZGo
import PySem.Challenge.RW_quadwords_k54_full_desks
set_option Elab.async false
set_option linter.all false
section
set_option maxRecDepth 100000
namespace L2
open PySem PySem.Spec PyProof.Rows
abbrev Key:=Sum Int Str
def keyIs:Key→Value→Bool
 | .inl k,v=>Value.isInt k v
 | .inr x,v=>Value.isStrOf x v
def keyH (w:World):Key→Int
 | .inl k=>hashInt k
 | .inr x=>hashStr w x
theorem keyIs_shape:∀{k:Key}{v:Value},keyIs k v=true→(∃i t,k=Sum.inl i∧v=Value.int i t)∨(∃x t,k=Sum.inr x∧v=Value.str x t)
 | .inl i,v,h=>by
  obtain⟨t,e⟩:=Value.isInt_shape (k:=i) (v:=v) h
  exact .inl ⟨i,t,rfl,e⟩
 | .inr x,v,h=>by
  obtain⟨t,e⟩:=Value.isStrOf_shape (x:=x) (v:=v) h
  exact .inr ⟨x,t,rfl,e⟩
theorem keyIs_int (i:Int) (t:Tok):keyIs (.inl i) (.int i t)=true:=by simp [keyIs,Value.isInt]
theorem keyIs_str (x:Str) (t:Tok):keyIs (.inr x) (.str x t)=true:=by simp [keyIs,Value.isStrOf]
theorem key_ll (a b:Int):decide ((Sum.inl a:Key)=Sum.inl b)=(a == b):=by
 by_cases e:a=b
 ·subst e; simp
 ·have h:¬ (Sum.inl a:Key)=Sum.inl b:=fun q=>e (Sum.inl.inj q)
  rw[decide_eq_false h]
  exact (beq_eq_false_iff_ne.mpr e).symm
theorem key_rr (a b:Str):decide ((Sum.inr a:Key)=Sum.inr b)=decide (a=b):=by
 by_cases e:a=b
 ·subst e; simp
 ·have h:¬ (Sum.inr a:Key)=Sum.inr b:=fun q=>e (Sum.inr.inj q)
  rw[decide_eq_false h,decide_eq_false e]
theorem key_lr (a:Int) (b:Str):decide ((Sum.inl a:Key)=Sum.inr b)=false:=decide_eq_false (fun q=>nomatch q)
theorem key_rl (a:Str) (b:Int):decide ((Sum.inr a:Key)=Sum.inl b)=false:=decide_eq_false (fun q=>nomatch q)
def mixKind (prog:Program) (w:World):PySem.KeyKind prog w Key where
 is:=keyIs
 hash:=keyH w
 inj:=fun v a b ha hb=>by
  rcases keyIs_shape ha with ⟨i,t,rfl,rfl⟩ | ⟨x,t,rfl,rfl⟩
  ·rcases keyIs_shape hb with ⟨j,u,rfl,e⟩ | ⟨y,u,rfl,e⟩
   ·injection e with e1 _; rw[e1]
   ·exact nomatch e
  ·rcases keyIs_shape hb with ⟨j,u,rfl,e⟩ | ⟨y,u,rfl,e⟩
   ·exact nomatch e
   ·injection e with e1 _; rw[e1]
 byValue:=fun k v h=>by
  rcases keyIs_shape h with ⟨i,t,rfl,rfl⟩ | ⟨x,t,rfl,rfl⟩ <;> rfl
 pyHash:=fun hv h=>by
  rcases keyIs_shape hv with ⟨i,t,rfl,rfl⟩ | ⟨x,t,rfl,rfl⟩
  ·exact wpAny_pyHash_int h
  ·exact wpAny_pyHash_str h
 eqBool:=fun hu hv h=>by
  rcases keyIs_shape hu with ⟨i,t,rfl,rfl⟩ | ⟨x,t,rfl,rfl⟩
  ·rcases keyIs_shape hv with ⟨j,u,rfl,rfl⟩ | ⟨y,u,rfl,rfl⟩
   ·rw[key_ll] at h; exact wpAny_eqBool_int h
   ·rw[key_lr] at h; exact SeqAt.EqAt.int_str i t y u _ _ _ _ h
  ·rcases keyIs_shape hv with ⟨j,u,rfl,rfl⟩ | ⟨y,u,rfl,rfl⟩
   ·rw[key_rl] at h; exact SeqAt.EqAt.str_int x t j u _ _ _ _ h
   ·rw[key_rr] at h; exact wpAny_eqBool_str h
 «strs»:=fun k x t v h=>by
  rcases keyIs_shape h with ⟨i,u,rfl,e⟩ | ⟨y,u,rfl,e⟩
  ·exact nomatch e
  ·injection e with e1 _
   subst e1
   cases v <;> rfl
theorem mixKind_is (prog:Program) (w:World) (k:Key) (v:Value):(mixKind prog w).is k v=keyIs k v:=rfl
theorem mixKind_int (prog:Program) (w:World) (i:Int) (t:Tok):(mixKind prog w).is (.inl i) (.int i t)=true:=keyIs_int i t
theorem mixKind_str (prog:Program) (w:World) (x:Str) (t:Tok):(mixKind prog w).is (.inr x) (.str x t)=true:=keyIs_str x t
end L2
namespace L2
open PySem PySem.Spec PyProof.Rows
inductive V where
 | non | bl (b:Bool) | int (i:Int) | str (x:Str) | byt (b:Array UInt8) | flt (b:UInt64) | ref (a:Addr) | ty (n:String)
 deriving DecidableEq
def RelV:V→Value→Prop
 | .non,u=>u=Value.none
 | .bl b,u=>u=Value.bool b
 | .int i,u=>∃t,u=Value.int i t
 | .str x,u=>∃t,u=Value.str x t
 | .byt b,u=>∃t,u=Value.bytes b t
 | .flt b,u=>∃t,u=Value.float b t
 | .ref a,u=>u=Value.ref a
 | .ty n,u=>u=Value.type n
abbrev Vals:List V→List Value→Prop:=Paired RelV
theorem Vals.length {xs:List V}{us:List Value} (r:Vals xs us):xs.length=us.length:=Paired.length r
theorem Vals.get:∀{xs:List V}{us:List Value}{i:Nat}{x:V},Vals xs us→xs[i]?=some x→∃u,us[i]?=some u∧RelV x u
 | _,_,_,_,.nil,e=>by simp at e
 | _,_,0,_,.cons r _,e=>by simp at e; subst e; exact⟨_,rfl,r⟩
 | _,_,i+1,x,.cons _ t,e=>by
  obtain⟨u,h1,h2⟩:=Vals.get (i:=i) (x:=x) t (by simpa using e)
  exact⟨u,by simpa using h1,h2⟩
theorem Vals.set {x:V}{u:Value} (r:RelV x u):∀{xs:List V}{us:List Value} (i:Nat),Vals xs us→Vals (xs.set i x) (us.set i u)
 | _,_,_,.nil=>.nil
 | _,_,0,.cons _ t=>.cons r t
 | _,_,i+1,.cons q t=>.cons q (Vals.set r i t)
theorem Vals.append:∀{xs ys:List V}{us ws:List Value},Vals xs us→Vals ys ws→Vals (xs++ys) (us++ws)
 | _,_,_,_,.nil,s=>s
 | _,_,_,_,.cons r t,s=>.cons r (Vals.append t s)
theorem Vals.take:∀{xs:List V}{us:List Value} (n:Nat),Vals xs us→Vals (xs.take n) (us.take n)
 | _,_,0,_=>.nil
 | _,_,_+1,.nil=>.nil
 | _,_,n+1,.cons r t=>.cons r (Vals.take n t)
theorem Vals.drop:∀{xs:List V}{us:List Value} (n:Nat),Vals xs us→Vals (xs.drop n) (us.drop n)
 | _,_,0,r=>r
 | _,_,_+1,.nil=>.nil
 | _,_,n+1,.cons _ t=>Vals.drop n t
def RelO:Option V→Option Value→Prop
 | some v,some u=>RelV v u
 | none,none=>True
 | _,_=>False
def KV {κ : Type}:List (κ×V)→List (κ×Value)→Prop:=Paired fun (p : κ×V) (q : κ×Value)=>p.1=q.1∧RelV p.2 q.2
def kV:Key→V
 | .inl i=>.int i
 | .inr x=>.str x
inductive HO where
 | lst (xs:List V)
 | tup (xs:List V)
 | dK (kvs:List (Key×V)) | dT (kvs:List (List Key×V))
 | set (S:Int→Bool) (n:Nat)
 | ins (C dx:Addr) (fs:List (Str×V))
 | own (x:Addr)
 | xd (fs:List (Str×V))
 | met (f x:Addr)
 | rng (lo hi:Int)
 | frz (o:Obj) (u:HO)
 | tbl (ps:Array Value)
 | ext (φ : Heap→Prop)
abbrev Hp:=Addr→Option HO
def upd (H:Hp) (a:Addr) (o:HO):Hp:=fun b=>if b=a then some o else H b
theorem upd_same {H:Hp}{a:Addr}{o:HO}:upd H a o a=some o:=by unfold upd; rw[if_pos rfl]
theorem upd_ne {H:Hp}{a b:Addr}{o:HO} (h:b≠a):upd H a o b=H b:=by unfold upd; rw[if_neg h]
theorem ne_of {H:Hp}{a b:Addr}{o u:HO} (h:H a=some o) (h':H b=some u) (d:o≠u):a≠b:=by
 intro e; subst e; rw[h] at h'; exact d (Option.some.inj h')
theorem ne_of_none {H:Hp}{a b:Addr}{o:HO} (h:H a=some o) (h':H b=none):a≠b:=by
 intro e; subst e; rw[h] at h'; cases h'
section
variable (P:Program) (w:World)
def ObjOk (H:Hp) (h:Heap) (a:Addr):HO→Prop
 | .lst xs=>xs.length≤sizeLine∧∃(its:List Value) (n:Nat),Vals xs its∧h.get? a=some { cls:=.type "list",data:=.seq its.toArray n }
 | .tup xs=>xs.length≤sizeLine∧∃its:List Value,Vals xs its∧IsTup h a its.toArray
 | .dK kvs=>kvs.length≤sizeLine∧(a == sysModules)=false∧∃vs,KV kvs vs∧h.DictOf (mixKind P w) a vs
 | .dT kvs=>kvs.length≤sizeLine∧(a == sysModules)=false∧∃xs:List (List Key×Addr×Value),
   Paired (fun (p:List Key×V) (q:List Key×Addr×Value)=>p.1=q.1∧H q.2.1=some (.tup (p.1.map kV))∧RelV p.2 q.2.2) kvs xs ∧
   ∃o es ep,h.get? a=some o∧o.ExactDict∧o.data=.dict es ep∧es.toList=xs.map (entryOfKey (tupleKind (mixKind P w)))∧(xs.map (·.1)).Nodup
 | .set S n=>h.SetOf (intKind P w) a S n
 | .ins C dx fs=>H dx=some (.own a)∧fs.length≤1000∧dx≠a∧h.get? a=some (PySem.W.instObj C dx) ∧
   ∃mA,h.Ns1 dx mA∧(∀f,RelO (fs.lookup f) (mA f))∧PySem.Within mA (fs.map (·.1))
 | .own _=>∃o,h.get? a=some o
 | .xd fs=>∃mA,h.Ns1 a mA∧∀f,RelO (fs.lookup f) (mA f)
 | .rng lo hi=>∃t u v,h.get? a=some { cls:=.type "range",data:=.fields #[.int lo t,.int hi u,.int 1 v] }
 | .frz o u=>h.get? a=some o∧ObjOk H h a u
 | .tbl ps=>h.get? a=some { cls:=.none,data:=.fields ps }
 | .met f x=>h.get? a=some (PySem.W.methodObj (.ref f) (.ref x))
 | .ext φ=>φ h∧(∃o,h.get? a=some o)∧∀h1 h2:Heap,φ h1→(∀o,h1.get? a=some o→h2.get? a=some o)→φ h2
def HOk (H:Hp) (h:Heap):Prop:=∀a o,H a=some o→ObjOk P w H h a o
end
section
variable {P:Program}{w:World}{H H':Hp}{h h':Heap}{a:Addr}{o:HO}
theorem ObjOk.lt (x:ObjOk P w H h a o):a < h.objs.size:=by
 cases o with
 | lst xs=>obtain⟨_,_,_,_,e⟩:=x; exact Heap.lt_size e
 | tup xs=>obtain⟨_,_,_,p⟩:=x; exact p.lt
 | dK kvs=>obtain⟨_,_,_,_,o,_,_,e,_⟩:=x; exact Heap.lt_size e
 | dT kvs=>obtain⟨_,_,_,_,o,_,_,e,_⟩:=x; exact Heap.lt_size e
 | set S n=>obtain⟨o,_,_,_,e,_⟩:=x; exact Heap.lt_size e
 | ins C dx fs=>obtain⟨_,_,_,e,_⟩:=x; exact Heap.lt_size e
 | own y=>obtain⟨_,e⟩:=x; exact Heap.lt_size e
 | xd fs=>obtain⟨_,⟨_,_,_,e,_⟩,_⟩:=x; exact Heap.lt_size e
 | rng lo hi=>obtain⟨_,_,_,e⟩:=x; exact Heap.lt_size e
 | frz ob u=>obtain⟨e,_⟩:=x; exact Heap.lt_size e
 | tbl ps=>exact Heap.lt_size (show h.get? a=some _ from x)
 | met f y=>exact Heap.lt_size (show h.get? a=some _ from x)
 | ext φ=>obtain⟨_,⟨_,e⟩,_⟩:=x; exact Heap.lt_size e
theorem Paired.mapP {α β : Type}{F G : α→β→Prop}:∀{l₁:List α}{l₂:List β},Paired F l₁ l₂→(∀a b,F a b→G a b)→Paired G l₁ l₂
 | _,_,.nil,_=>.nil
 | _,_,.cons r t,f=>.cons (f _ _ r) (Paired.mapP t f)
theorem ObjOk.stay (x:ObjOk P w H h a o) (k:∀b u,(b=a∨H b=some (.own a))→h.get? b=some u→h'.get? b=some u)
  (ho:∀b,H b=some (.own a)→H' b=some (.own a)) (ht:∀b xs,H b=some (.tup xs)→H' b=some (.tup xs)):ObjOk P w H' h' a o:=by
 induction o with
 | lst xs=>obtain⟨z,its,n,r,e⟩:=x; exact⟨z,its,n,r,k _ _ (.inl rfl) e⟩
 | tup xs=>obtain⟨z,its,r,ob,e,c⟩:=x; exact⟨z,its,r,ob,k _ _ (.inl rfl) e,c⟩
 | dK kvs=>obtain⟨z,y,vs,r,ob,es,ep,e,c⟩:=x; exact⟨z,y,vs,r,ob,es,ep,k _ _ (.inl rfl) e,c⟩
 | dT kvs =>
  obtain⟨z,y,xs,r,ob,es,ep,e,c⟩:=x
  exact⟨z,y,xs,Paired.mapP r fun p q z=>⟨z.1,ht _ _ z.2.1,z.2.2⟩,ob,es,ep,k _ _ (.inl rfl) e,c⟩
 | set S n=>obtain⟨ob,es,ep,t,e,c⟩:=x; exact⟨ob,es,ep,t,k _ _ (.inl rfl) e,c⟩
 | ins C dx fs =>
  obtain⟨d,z,ne,e,mA,⟨od,es,ep,e2,c⟩,r⟩:=x
  exact⟨ho _ d,z,ne,k _ _ (.inl rfl) e,mA,⟨od,es,ep,k _ _ (.inr d) e2,c⟩,r⟩
 | own y=>obtain⟨ob,e⟩:=x; exact⟨ob,k _ _ (.inl rfl) e⟩
 | xd fs=>obtain⟨mA,⟨od,es,ep,e,c⟩,r⟩:=x; exact⟨mA,⟨od,es,ep,k _ _ (.inl rfl) e,c⟩,r⟩
 | rng lo hi=>obtain⟨t,u,v,e⟩:=x; exact⟨t,u,v,k _ _ (.inl rfl) e⟩
 | frz ob u ih=>obtain⟨e,q⟩:=x; exact⟨k _ _ (.inl rfl) e,ih q⟩
 | tbl ps =>
  have e:h.get? a=some { cls:=.none,data:=.fields ps }:=x
  show h'.get? a=some { cls:=.none,data:=.fields ps }
  exact k a _ (.inl rfl) e
 | met f y =>
  have e:h.get? a=some (PySem.W.methodObj (.ref f) (.ref y)):=x
  show h'.get? a=some (PySem.W.methodObj (.ref f) (.ref y))
  exact k a _ (.inl rfl) e
 | ext φ=>obtain⟨p,⟨o,e⟩,st⟩:=x; exact⟨st _ _ p fun o q=>k _ _ (.inl rfl) q,⟨o,k _ _ (.inl rfl) e⟩,st⟩
theorem HOk.lt (x:HOk P w H h) (e:H a=some o):a < h.objs.size:=(x a o e).lt
theorem HOk.fresh (x:HOk P w H h) (e:h.objs.size≤a):H a=none:=by
 cases q:H a with
 | none=>rfl
 | some u=>exact absurd (Nat.lt_of_lt_of_le (x.lt q) e) (Nat.lt_irrefl _)
theorem HOk.kept (x:HOk P w H h) (k:∀b u,h.get? b=some u→h'.get? b=some u):HOk P w H h':=fun a o e =>
 (x a o e).stay (fun b u _ q=>k b u q) (fun _ q=>q) fun _ _ q=>q
theorem HOk.laid (x:HOk P w H h) (k:∀b u,h.get? b=some u→h'.get? b=some u) (hp:h.objs.size≤a) (new:ObjOk P w (upd H a o) h' a o):HOk P w (upd H a o) h':=fun b u e=>by
 have hn:=x.fresh hp
 by_cases hb:b=a
 ·subst hb; rw[upd_same] at e; cases e; exact new
 ·rw[upd_ne hb] at e
  exact (x b u e).stay (fun c v _ q=>k c v q) (fun c q=>by rw[upd_ne (ne_of_none q hn)]; exact q) fun c xs q=>by rw[upd_ne (ne_of_none q hn)]; exact q
end
def Rd (H:Hp) (a:Addr) (u:HO):Prop:=H a=some u∨∃o,H a=some (.frz o u)
theorem Rd.ok {P:Program}{w:World}{H:Hp}{h:Heap}{a:Addr}{u:HO} (r:Rd H a u) (x:HOk P w H h):ObjOk P w H h a u:=by
 rcases r with r | ⟨o,r⟩
 ·exact x a u r
 ·obtain⟨_,q⟩:=x a _ r
  exact q
def Mut:Option HO→Prop
 | some (.lst _)=>True
 | some (.dK _)=>True
 | some (.dT _)=>True
 | some (.set _ _)=>True
 | some (.ins _ _ _)=>True
 | some (.ext _)=>True
 | _=>False
section
variable {P:Program}{w:World}{H:Hp}{h h':Heap}{x e:Addr}{o':HO}
theorem HOk.write (ok:HOk P w H h) (mu:Mut (H x)) (he:e=x∨H e=some (.own x)) (k:∀b u,b≠e→h.get? b=some u→h'.get? b=some u) (heo:∃u,h'.get? e=some u)
  (new:ObjOk P w (upd H x o') h' x o'):HOk P w (upd H x o') h':=fun b u q=>by
 have nown:∀c y,H c=some (.own y)→c≠x:=fun c y r z=>by subst z; rw[r] at mu; exact mu
 have ntup:∀c xs,H c=some (.tup xs)→c≠x:=fun c xs r z=>by subst z; rw[r] at mu; exact mu
 by_cases hb:b=x
 ·subst hb; rw[upd_same] at q; cases q; exact new
 ·rw[upd_ne hb] at q
  by_cases hbe:b=e
  ·have q':H b=some (.own x):=by
    rcases he with z | z
    ·exact absurd (hbe.trans z) hb
    ·rw[hbe]; exact z
   rw[q] at q'; cases q'
   obtain⟨v,hv⟩:=heo
   exact⟨v,by rw[hbe]; exact hv⟩
  ·refine (ok b u q).stay (fun c v hc r=>k c v ?_ r) (fun c r=>by rw[upd_ne (nown c b r)]; exact r) fun c xs r=>by rw[upd_ne (ntup c xs r)]; exact r
   rcases hc with rfl | hc
   ·exact hbe
   ·rintro rfl
    rcases he with z | z
    ·exact nown c b hc z
    ·rw[hc] at z; cases z; exact hb rfl
end
structure Un (fs ex:List Addr) (H H':Hp) (h h':Heap):Prop where
 keep:∀b o,h.get? b=some o→H b=none→b ∉ fs→b ∉ ex→h'.get? b=some o
 slot:∀b o,h.get? b=some o→H b=none→b∈fs→b ∉ ex→∃sl,h'.get? b=some { o with slots:=sl }
 free:∀b o,h.get? b=some o→H b=none→b ∉ ex→H' b=none
 there:∀b o,h.get? b=some o→b ∉ ex→∃o',h'.get? b=some o'
 tups:∀b xs,H b=some (.tup xs)→H' b=some (.tup xs)
 frzs:∀b o u,H b=some (.frz o u)→H' b=some (.frz o u)
 tbls:∀b ps,H b=some (.tbl ps)→∃more,H' b=some (.tbl (ps++more))
section
variable {fs fs' ex ex':List Addr}{H H1 H2:Hp}{h h1 h2 h':Heap}{a x e:Addr}{o:HO}
theorem Un.any (u:Un fs ex H H1 h h1) {b:Addr}{ob:Obj} (q:h.get? b=some ob) (n:H b=none) (hx:b ∉ ex):∃sl,h1.get? b=some { ob with slots:=sl }:=by
 by_cases hb:b∈fs
 ·exact u.slot b ob q n hb hx
 ·exact⟨ob.slots,u.keep b ob q n hb hx⟩
theorem Un.kept (k:∀b u,h.get? b=some u→h'.get? b=some u):Un fs ex H H h h' :=
 ⟨fun b ob q _ _ _=>k b ob q,fun b ob q _ _ _=>⟨ob.slots,k b ob q⟩,fun _ _ _ n _=>n,fun b ob q _=>⟨ob,k b ob q⟩,fun _ _ q=>q,fun _ _ _ q=>q,fun _ ps q=>⟨#[],by rw[q]; simp⟩⟩
theorem Un.refl:Un fs ex H H h h:=Un.kept fun _ _ q=>q
theorem Un.laid (k:∀b u,h.get? b=some u→h'.get? b=some u) (hp:h.objs.size≤a) (hn:H a=none):Un fs ex H (upd H a o) h h' where
 keep:=fun b u q _ _ _=>k b u q
 slot:=fun b u q _ _ _=>⟨u.slots,k b u q⟩
 free:=fun b u q n _=>by rw[upd_ne (Nat.ne_of_lt (Nat.lt_of_lt_of_le (Heap.lt_size q) hp))]; exact n
 there:=fun b u q _=>⟨u,k b u q⟩
 tups:=fun b xs q=>by rw[upd_ne (ne_of_none q hn)]; exact q
 frzs:=fun b u xs q=>by rw[upd_ne (ne_of_none q hn)]; exact q
 tbls:=fun b ps q=>⟨#[],by rw[upd_ne (ne_of_none q hn),q]; simp⟩
theorem Un.write (mu:Mut (H x)) (he:e=x∨H e=some (.own x)) (k:∀b u,b≠e→h.get? b=some u→h'.get? b=some u) (heo:∃u,h'.get? e=some u):Un fs ex H (upd H x o) h h':=by
 have hx:∀b,H b=none→b≠x:=fun b n z=>by subst z; rw[n] at mu; exact mu
 have hb:∀b,H b=none→b≠e:=fun b n z=>by
  subst z
  rcases he with r | r
  ·exact hx b n r
  ·rw[n] at r; cases r
 have hm:∀b u,H b=some u→¬ Mut (some u)→b≠x:=fun b u q nm z=>by subst z; rw[q] at mu; exact nm mu
 refine⟨fun b u q n _ _=>k b u (hb b n) q,fun b u q n _ _=>⟨u.slots,k b u (hb b n) q⟩,fun b u q n _=>by rw[upd_ne (hx b n)]; exact n,fun b u q _=>?_,
  fun b xs q=>by rw[upd_ne (hm b _ q fun z=>z)]; exact q,fun b u xs q=>by rw[upd_ne (hm b _ q fun z=>z)]; exact q,fun b ps q=>⟨#[],by rw[upd_ne (hm b _ q fun z=>z),q]; simp⟩⟩
 by_cases hbe:b=e
 ·subst hbe; exact heo
 ·exact⟨u,k b u hbe q⟩
end
def trk (h:Heap) (H:Hp):List Addr:=(List.range h.objs.size).filter fun a=>(H a).isSome
def hidT (h:Heap) (H:Hp):Heap:=PySem.W.hideAll h (trk h H)
theorem hidT_size (h:Heap) (H:Hp):(hidT h H).objs.size=h.objs.size:=PySem.W.hideAll_size _ _
theorem hidT_get {h:Heap}{H:Hp}{b:Addr}{o:Obj} (e:h.get? b=some o) (n:H b=none):(hidT h H).get? b=some o :=
 PySem.W.hideAll_get _ e fun hm=>by
  have q:(H b).isSome=true:=(List.mem_filter.mp hm).2
  rw[n] at q; simp at q
theorem of_hidT {h:Heap}{H:Hp}{b:Addr}{o:Obj} (e:(hidT h H).get? b=some o):h.get? b=some o∧H b=none:=by
 have e':h.get? b=some o:=PySem.W.of_hideAll (trk h H) e
 refine⟨e',?_⟩
 cases q:H b with
 | none=>rfl
 | some x =>
  have hm:b∈trk h H:=List.mem_filter.mpr ⟨List.mem_range.mpr (Heap.lt_size e'),by simp [q]⟩
  have z:(hidT h H).get? b=none:=PySem.W.hideAll_none (trk h H) hm
  rw[z] at e; cases e
def allNews (g h:Heap) (L:Addr):List (Addr×Obj):=(List.range h.objs.size).filterMap fun a=>if a=L∨(g.get? a).isSome=true then none else (h.get? a).map fun o=>(a,o)
def rest (g h:Heap) (L d:Addr):List (Addr×Obj):=(allNews g h L).filter fun p=>decide (p.1≠d)
end L2
namespace L2
open PySem PySem.Spec PyProof.Rows
structure Mod (K:PySem.W.Frag) (mg:Str→Option Value) (base:Heap):Prop where
 kin:K.In base
 glob:base.Ns mainGlobals mg
 blt:∃mb,base.Ns builtinsNs mb∧∀x:Str,x≠"__name__"→mb x=bootBuiltins x
 nolimit:base.NoLimit
structure Cx where
 prog:Program
 w:World
 K:PySem.W.Frag
 mg:Str→Option Value
 base:Heap
 A:Around
 N:List Str
 s₀ : Shared
 H₀ : Hp
 env:Env
 outer:List Env
 stack:List Env
 ex:List Addr
 fn:Str→Bool
 calm:Bool
 pn:List (Addr×Obj)
 xe:Value→Shared→Prop
def frs (l:List Env):List Addr:=l.filterMap (·.frame)
abbrev Cx.fs (X:Cx):List Addr:=frs X.outer
def Vis (sc:Scope) (x:Str):Prop:=sc.names.lookup x=some .local∨sc.names.lookup x=some .cell∨sc.names.lookup x=some .free
def Loc (sc:Scope) (x:Str):Prop:=sc.names.lookup x=some .local∨sc.names.lookup x=some .cell
def Look (env:Env) (h:Heap) (m:Str→Option Value) (x:Str) (u:Value):Prop :=
 (env.kindOf x=some .local∧m x=some u)∨((env.kindOf x=some .cell∨env.kindOf x=some .free)∧∃c,env.cells.lookup x=some c∧h.IsCell c (some u))
structure Cx.Ok (X:Cx):Prop where
 mod:Mod X.K X.mg X.base
 kind:X.env.scope.kind=.function
 glob:X.env.globals=mainGlobals
 blt:X.env.builtins=builtinsNs
 above:X.s₀.heap.objs.size≤X.env.locals
 inj:∀x y c,X.env.cells.lookup x=some c→X.env.cells.lookup y=some c→x=y
 has:∀x,(X.env.kindOf x=some .cell∨X.env.kindOf x=some .free)→∃c,X.env.cells.lookup x=some c
 cab:∀x c,X.fn x=true→X.env.cells.lookup x=some c→X.s₀.heap.objs.size≤c
 hd:X.calm=true→X.A.handled=none
 frames:X.A.frames=some X.stack
 stk:X.stack=X.outer∨(X.stack=X.env::X.outer∧X.env.frame=some X.env.locals)
 exf:∀b∈X.ex,b≠X.env.locals∧∀x c,X.env.cells.lookup x=some c→c≠b
 bs:∀b o,X.base.get? b=some o→X.s₀.heap.get? b=some o∧X.H₀ b=none
 bsz:X.base.objs.size≤X.s₀.heap.objs.size
 noex:∀b o,X.base.get? b=some o→b ∉ X.ex
 exfs:∀b∈X.ex,b ∉ X.fs
 funs:X.s₀.heap.FunFrames X.base X.outer
 frf:∀b∈X.fs,X.H₀ b=none
structure Inv (X:Cx) (pins:List (Addr×Obj)) (σ:List (Option V)) (H:Hp) (s:Shared):Prop where
 ok:X.Ok
 os:s.os=X.s₀.os
 bare:AllBare s.gens
 base:Un X.fs X.ex X.H₀ H X.s₀.heap s.heap
 loc:∃m,s.heap.Ns X.env.locals m∧∀(i:Nat) (x:Str) (v:V),X.N[i]?=some x→σ[i]?=some (some v)→Vis X.env.scope x→∃u,RelV v u∧Look X.env s.heap m x u
 cell:∀x c,X.env.cells.lookup x=some c→∃v,s.heap.IsCell c v
 free:H X.env.locals=none
 freeC:∀x c,X.env.cells.lookup x=some c→H c=none
 pin:∀p∈X.pn++pins,s.heap.get? p.1=some p.2∧H p.1=none∧p.1≠X.env.locals∧p.1 ∉ X.fs∧∀v,p.2.data≠.cell v
 hok:HOk X.prog X.w H s.heap
 len:σ.length=X.N.length
section
variable {X:Cx}{pins:List (Addr×Obj)}{σ:List (Option V)}{H H':Hp}{s:Shared}{h':Heap}
theorem Cx.Ok.nofr (ok:X.Ok) {b:Addr}{o:Obj} (e:X.base.get? b=some o):b ∉ X.fs:=fun hb=>by
 have:=(ok.funs.mem hb).1
 rw[e] at this; cases this
theorem Inv.bs (I:Inv X pins σ H s):∀b o,X.base.get? b=some o→s.heap.get? b=some o∧H b=none:=fun b o e =>
 ⟨I.base.keep b o (I.ok.bs b o e).1 (I.ok.bs b o e).2 (I.ok.nofr e) (I.ok.noex b o e),I.base.free b o (I.ok.bs b o e).1 (I.ok.bs b o e).2 (I.ok.noex b o e)⟩
theorem Inv.bk (I:Inv X pins σ H s):∀b o,X.base.get? b=some o→s.heap.get? b=some o:=fun b o e=>(I.bs b o e).1
theorem Inv.mod (I:Inv X pins σ H s):Mod X.K X.mg X.base:=I.ok.mod
theorem Inv.kIn (I:Inv X pins σ H s):X.K.In s.heap:=I.ok.mod.kin.keeps I.bk
theorem Inv.lt (I:Inv X pins σ H s):X.env.locals < s.heap.objs.size:=let ⟨_,hn,_⟩:=I.loc; hn.lt
theorem Inv.sz (I:Inv X pins σ H s):X.s₀.heap.objs.size≤s.heap.objs.size:=Nat.le_trans I.ok.above (Nat.le_of_lt I.lt)
theorem Inv.nofs (I:Inv X pins σ H s) {a:Addr} (h:s.heap.objs.size≤a):a ∉ X.fs:=fun hb=>by
 obtain⟨_,o,ho,_⟩:=I.ok.funs.mem hb
 exact absurd (Nat.lt_of_lt_of_le (Heap.lt_size ho) (Nat.le_trans I.sz h)) (Nat.lt_irrefl _)
theorem Inv.cne (I:Inv X pins σ H s):∀x c,X.env.cells.lookup x=some c→c≠X.env.locals:=fun x c e z=>by
 obtain⟨v,o,ho,hd⟩:=I.cell x c e
 obtain⟨m,⟨o',es,ep,ho',hd',_⟩,_⟩:=I.loc
 rw[z,ho'] at ho; cases ho; rw[hd'] at hd; cases hd
theorem Inv.funs (I:Inv X pins σ H s):s.heap.FunFrames X.base X.outer:=by
 have all:∀(l:List Env),(∀b∈frs l,b∈X.fs)→X.s₀.heap.FunFrames X.base l→s.heap.FunFrames X.base l:=by
  intro l
  induction l with
  | nil=>intro _ _; trivial
  | cons env r ih =>
   intro hs hl
   obtain⟨hk,⟨L,o,hf,hn,ho,hd⟩,hr⟩:=hl
   have hL:L∈X.fs:=hs L (by unfold frs; rw[List.filterMap_cons,hf]; exact List.mem_cons_self)
   obtain⟨sl,e⟩:=I.base.slot L o ho (I.ok.frf L hL) hL fun z=>I.ok.exfs L z hL
   exact⟨hk,⟨L,_,hf,hn,e,hd⟩,ih (fun b hb=>hs b (by unfold frs; rw[List.filterMap_cons,hf]; exact List.mem_cons_of_mem _ hb)) hr⟩
 exact all X.outer (fun _ hb=>hb) I.ok.funs
theorem Inv.stack (I:Inv X pins σ H s):s.heap.FunFrames X.base X.stack:=by
 rcases I.ok.stk with e | ⟨e,hf⟩
 ·rw[e]; exact I.funs
 ·rw[e]
  obtain⟨m,hn,_⟩:=I.loc
  refine .cons (by rw[I.ok.kind]; decide) hf hn ?_ I.funs
  exact Heap.get?_none_of_le (Nat.le_trans I.ok.bsz I.ok.above)
theorem Inv.stkSub (I:Inv X pins σ H s):∀b∈frs X.stack,b∈X.env.locals::X.fs:=fun b hb=>by
 rcases I.ok.stk with e | ⟨e,hf⟩
 ·rw[e] at hb; exact List.mem_cons_of_mem _ hb
 ·rw[e] at hb
  unfold frs at hb
  rw[List.filterMap_cons,hf] at hb
  exact hb
theorem Inv.stkFree (I:Inv X pins σ H s):∀b∈frs X.stack,H b=none:=fun b hb=>by
 rcases List.mem_cons.mp (I.stkSub b hb) with e | hb
 ·rw[e]; exact I.free
 ·obtain⟨_,o,ho,_⟩:=I.ok.funs.mem hb
  exact I.base.free b o ho (I.ok.frf b hb) fun z=>I.ok.exfs b z hb
theorem Inv.step {g':Array GenState}{t':Nat}{d':Drawn}{ch:List Addr} (I:Inv X pins σ H s)
  (hch:∀b∈ch,(b∈X.ex∨X.s₀.heap.get? b=none)∧b≠X.env.locals∧(∀x c,X.env.cells.lookup x=some c→c≠b)∧∀p∈X.pn++pins,p.1≠b)
  (keep:∀b o,b≠X.env.locals→b ∉ X.fs→b ∉ ch→s.heap.get? b=some o→H b=none→h'.get? b=some o)
  (slot:∀b o,b≠X.env.locals→b∈X.fs→b ∉ ch→s.heap.get? b=some o→H b=none→∃sl,h'.get? b=some { o with slots:=sl }) (free:∀b o,b ∉ ch→s.heap.get? b=some o→H b=none→H' b=none)
  (there:∀b o,b ∉ ch→s.heap.get? b=some o→∃o',h'.get? b=some o')
  (tups:∀b xs,H b=some (.tup xs)→H' b=some (.tup xs)) (frzs:∀b o u,H b=some (.frz o u)→H' b=some (.frz o u)) (tbls:∀b ps,H b=some (.tbl ps)→∃more,H' b=some (.tbl (ps++more)))
  (ns:∀m,s.heap.Ns X.env.locals m→h'.Ns X.env.locals m) (hok:HOk X.prog X.w H' h') (hg:AllBare g') :
  Inv X pins σ H' { s with heap:=h',gens:=g',drawn:=d',toks:=t' }:=by
 have neL:∀b o,X.s₀.heap.get? b=some o→b≠X.env.locals:=fun b o e=>Nat.ne_of_lt (Nat.lt_of_lt_of_le (Heap.lt_size e) I.ok.above)
 have neC:∀b o,X.s₀.heap.get? b=some o→b ∉ X.ex→b ∉ ch:=fun b o e hx hb=>by
  rcases (hch b hb).1 with z | z
  ·exact hx z
  ·rw[z] at e; cases e
 have cellK:∀x c,X.env.cells.lookup x=some c→∀v,s.heap.IsCell c v→h'.IsCell c v:=fun x c e v ⟨o,ho,hd⟩=>by
  have nch:c ∉ ch:=fun z=>(hch c z).2.2.1 x c e rfl
  by_cases hc:c∈X.fs
  ·obtain⟨sl,q⟩:=slot c o (I.cne x c e) hc nch ho (I.freeC x c e)
   exact⟨_,q,hd⟩
  ·exact⟨o,keep c o (I.cne x c e) hc nch ho (I.freeC x c e),hd⟩
 refine⟨I.ok,I.os,hg,⟨fun b o e n hb hx=>?_,fun b o e n hb hx=>?_,fun b o e n hx=>?_,fun b o e hx=>?_,fun b xs e=>tups b xs (I.base.tups b xs e),fun b o xs e=>frzs b o xs (I.base.frzs b o xs e),fun b ps e=>?_⟩,?_,fun x c e=>?_,?_,fun x c e=>?_,fun p hp=>?_,hok,I.len⟩
 ·exact keep b o (neL b o e) hb (neC b o e hx) (I.base.keep b o e n hb hx) (I.base.free b o e n hx)
 ·obtain⟨sl,e1⟩:=I.base.slot b o e n hb hx
  obtain⟨sl',e2⟩:=slot b _ (neL b o e) hb (neC b o e hx) e1 (I.base.free b o e n hx)
  exact⟨sl',e2⟩
 ·obtain⟨o',e1⟩:=I.base.there b o e hx
  exact free b o' (neC b o e hx) e1 (I.base.free b o e n hx)
 ·obtain⟨o',e1⟩:=I.base.there b o e hx
  exact there b o' (neC b o e hx) e1
 ·obtain⟨m1,e1⟩:=I.base.tbls b ps e
  obtain⟨m2,e2⟩:=tbls b _ e1
  exact⟨m1++m2,by rw[e2,Array.append_assoc]⟩
 ·obtain⟨m,hn,hl⟩:=I.loc
  refine⟨m,ns m hn,fun i x v e1 e2 e3=>?_⟩
  obtain⟨u,r,l⟩:=hl i x v e1 e2 e3
  refine⟨u,r,?_⟩
  rcases l with l | ⟨k,c,e,z⟩
  ·exact .inl l
  ·exact .inr ⟨k,c,e,cellK x c e _ z⟩
 ·obtain⟨v,z⟩:=I.cell x c e
  exact⟨v,cellK x c e v z⟩
 ·obtain⟨m,⟨o,_,_,ho,_⟩,_⟩:=I.loc
  exact free _ o (fun z=>(hch _ z).2.1 rfl) ho I.free
 ·obtain⟨v,o,ho,hd⟩:=I.cell x c e
  exact free c o (fun z=>(hch c z).2.2.1 x c e rfl) ho (I.freeC x c e)
 ·obtain⟨e,n,ne,nf,d⟩:=I.pin p hp
  have nch:p.1 ∉ ch:=fun z=>(hch p.1 z).2.2.2 p hp rfl
  exact⟨keep p.1 p.2 ne nf nch e n,free p.1 p.2 nch e n,ne,nf,d⟩
theorem Inv.un {t':Nat} (I:Inv X pins σ H s) (u:Un X.fs [] H H' s.heap h') (hok:HOk X.prog X.w H' h'):Inv X pins σ H' { s with heap:=h',toks:=t' }:=by
 obtain⟨m,⟨o,es,ep,ho,r⟩,_⟩:=id I.loc
 obtain⟨sl,hL⟩:=u.any ho I.free (by simp)
 exact I.step (g':=s.gens) (d':=s.drawn) (ch:=[]) (fun _ z=>nomatch z) (fun b o _ hb _ e n=>u.keep b o e n hb (by simp)) (fun b o _ hb _ e n=>u.slot b o e n hb (by simp)) (fun b o _ e n=>u.free b o e n (by simp)) (fun b o _ e=>u.there b o e (by simp)) u.tups u.frzs u.tbls (fun m' hm=>by
  obtain⟨o',es',ep',ho',r'⟩:=hm
  rw[ho] at ho'; cases ho'
  exact⟨_,es',ep',hL,r'⟩) hok I.bare
theorem Inv.call {g':Array GenState}{t':Nat}{d':Drawn}{ch:List Addr} (I:Inv X pins σ H s) (u:Un (frs X.stack) ch H H' s.heap h') (hok:HOk X.prog X.w H' h') (hg:AllBare g')
  (hch:∀b∈ch,(b∈X.ex∨X.s₀.heap.get? b=none)∧b≠X.env.locals∧(∀x c,X.env.cells.lookup x=some c→c≠b)∧∀p∈X.pn++pins,p.1≠b) :
  Inv X pins σ H' { s with heap:=h',gens:=g',drawn:=d',toks:=t' }:=by
 obtain⟨m,⟨o,es,ep,ho,r⟩,_⟩:=id I.loc
 obtain⟨sl,hL⟩:=u.any ho I.free fun z=>(hch _ z).2.1 rfl
 exact I.step (ch:=ch) hch (fun b o hL hb hc e n=>u.keep b o e n (fun z=>(List.mem_cons.mp (I.stkSub b z)).elim hL hb) hc) (fun b o _ _ hc e n=>u.any e n hc) (fun b o hc e n=>u.free b o e n hc) (fun b o hc e=>u.there b o e hc) u.tups u.frzs u.tbls (fun m' hm=>by
  obtain⟨o',es',ep',ho',r'⟩:=hm
  rw[ho] at ho'; cases ho'
  exact⟨_,es',ep',hL,r'⟩) hok hg
theorem Inv.turned {t':Nat}{it:Addr} (I:Inv X pins σ H s) (k:∀b o,b≠it→s.heap.get? b=some o→h'.get? b=some o) (hn:H it=none) (hL:it≠X.env.locals)
  (h1:it∈X.ex∨X.s₀.heap.get? it=none) (h2:∀x c,X.env.cells.lookup x=some c→c≠it) (h3:∀p∈X.pn++pins,p.1≠it):Inv X pins σ H { s with heap:=h',toks:=t' }:=by
 have nit:∀b u,H b=some u→b≠it:=fun b u e z=>by rw[z,hn] at e; cases e
 refine I.step (g':=s.gens) (d':=s.drawn) (ch:=[it]) (fun b hb=>?_) (fun b o _ _ hc e _=>k b o (fun z=>hc (by simp [z])) e) (fun b o _ _ hc e _=>⟨o.slots,k b o (fun z=>hc (by simp [z])) e⟩) (fun _ _ _ _ n=>n)
  (fun b o hc e=>⟨o,k b o (fun z=>hc (by simp [z])) e⟩) (fun _ _ e=>e) (fun _ _ _ e=>e) (fun b ps e=>⟨#[],by rw[e]; simp⟩) (fun m hm=>?_) (fun b u e=>?_) I.bare
 ·have e:b=it:=by simpa using hb
  subst e
  exact⟨h1,hL,h2,h3⟩
 ·obtain⟨o,es,ep,ho,r⟩:=hm
  exact⟨o,es,ep,k _ o (Ne.symm hL) ho,r⟩
 ·refine (I.hok b u e).stay (fun c v hc q=>k c v ?_ q) (fun _ q=>q) fun _ _ q=>q
  rcases hc with z | z
  ·rw[z]; exact nit b u e
  ·exact nit c _ z
theorem Inv.tok (I:Inv X pins σ H s) (t:Nat):Inv X pins σ H { s with toks:=t }:=I.un (h':=s.heap) (t':=t) Un.refl I.hok
theorem Inv.kept {t':Nat} (I:Inv X pins σ H s) (k:∀b u,s.heap.get? b=some u→h'.get? b=some u):Inv X pins σ H { s with heap:=h',toks:=t' }:=I.un (Un.kept k) (I.hok.kept k)
theorem Inv.laid {a:Addr}{o:HO}{t':Nat} (I:Inv X pins σ H s) (k:∀b u,s.heap.get? b=some u→h'.get? b=some u) (hp:s.heap.objs.size≤a) (new:ObjOk X.prog X.w (upd H a o) h' a o) :
  Inv X pins σ (upd H a o) { s with heap:=h',toks:=t' }:=I.un (Un.laid k hp (I.hok.fresh hp)) (I.hok.laid k hp new)
theorem Inv.write {x e:Addr}{o:HO}{t':Nat} (I:Inv X pins σ H s) (mu:Mut (H x)) (he:e=x∨H e=some (.own x)) (k:∀b u,b≠e→s.heap.get? b=some u→h'.get? b=some u) (heo:∃u,h'.get? e=some u)
  (new:ObjOk X.prog X.w (upd H x o) h' x o):Inv X pins σ (upd H x o) { s with heap:=h',toks:=t' }:=I.un (Un.write mu he k heo) (I.hok.write mu he k heo new)
theorem Inv.pins_of {pins':List (Addr×Obj)} (I:Inv X pins σ H s) (h:∀p∈pins',s.heap.get? p.1=some p.2∧H p.1=none∧p.1≠X.env.locals∧p.1 ∉ X.fs∧∀v,p.2.data≠.cell v):Inv X pins' σ H s :=
 ⟨I.ok,I.os,I.bare,I.base,I.loc,I.cell,I.free,I.freeC,fun p hp=>(List.mem_append.mp hp).elim (fun z=>I.pin p (List.mem_append_left _ z)) (h p),I.hok,I.len⟩
theorem nodup_ix {N:List Str} (hN:N.Nodup) {i j:Nat}{x:Str} (a:N[i]?=some x) (b:N[j]?=some x):i=j:=by
 obtain⟨h1,e1⟩:=List.getElem?_eq_some_iff.mp a
 obtain⟨h2,e2⟩:=List.getElem?_eq_some_iff.mp b
 exact (List.getElem_inj hN).mp (e1.trans e2.symm)
theorem store_ok2 {M:Model}{A:Around}{E:Value→Shared→Prop}{i:Nat}{x:Str}{v:V}{u:Value}{Q:Unit→Shared→Prop} (I:Inv X pins σ H s) (hN:X.N.Nodup) (hi:X.N[i]?=some x) (hx:Loc X.env.scope x) (r:RelV v u)
  (h:∀s',Inv X pins (σ.set i (some v)) H s'→(∃a,Heap.SameBut a s.heap s'.heap∧(a=X.env.locals∨X.env.cells.lookup x=some a))→Q () s') (hf:X.fn x=true∨X.env.scope.names.lookup x=some .local:=by first | exact .inl rfl | exact .inr rfl | assumption):wpAny M A (storeName X.env x u) Q E s:=by
 obtain⟨m,hn,hl⟩:=id I.loc
 have hcls:(X.env.scope.kind == .class || (X.env.scope.kind == .module && X.env.locals != X.env.globals))=false:=by rw[I.ok.kind]; rfl
 have hiσ:i < σ.length:=by rw[I.len]; exact (List.getElem?_eq_some_iff.mp hi).1
 have cne:=I.cne
 have tracked:∀{a:Addr}{h':Heap},(∃o,s.heap.get? a=some o∧H a=none)→Heap.SameBut a s.heap h'→HOk X.prog X.w H h':=fun {a h'} ha hs b ob e=>by
  obtain⟨_,_,hfree⟩:=ha
  refine (I.hok b ob e).stay (fun c w' hc q=>(hs.2 c ?_).trans q) (fun _ q=>q) fun _ _ q=>q
  rintro rfl
  rcases hc with rfl | hc
  ·rw[hfree] at e; cases e
  ·rw[hfree] at hc; cases hc
 rcases hx with hk | hk
 ·refine wpAny_storeName_local hk hn (fun h' hn' hs=>?_) hcls
  obtain⟨oL,_,_,hoL,_⟩:=id hn
  refine h _ ⟨I.ok,I.os,I.bare,⟨fun b o e n hb hx=>?_,fun b o e n hb hx=>?_,I.base.free,fun b o e hx=>?_,I.base.tups,I.base.frzs,I.base.tbls⟩,⟨_,hn',fun j y v' e1 e2 e3=>?_⟩,fun y c e=>?_,I.free,I.freeC,fun p hp=>?_,tracked ⟨oL,hoL,I.free⟩ hs,by simpa using I.len⟩ ⟨_,hs,.inl rfl⟩
  ·exact (hs.2 b (Nat.ne_of_lt (Nat.lt_of_lt_of_le (Heap.lt_size e) I.ok.above))).trans (I.base.keep b o e n hb hx)
  ·obtain⟨sl,e1⟩:=I.base.slot b o e n hb hx
   exact⟨sl,(hs.2 b (Nat.ne_of_lt (Nat.lt_of_lt_of_le (Heap.lt_size e) I.ok.above))).trans e1⟩
  ·obtain⟨o',e1⟩:=I.base.there b o e hx
   exact⟨o',(hs.2 b (Nat.ne_of_lt (Nat.lt_of_lt_of_le (Heap.lt_size e) I.ok.above))).trans e1⟩
  ·by_cases hj:j=i
   ·subst hj
    rw[hi] at e1; cases e1
    rw[List.getElem?_set_self hiσ] at e2
    cases e2
    exact⟨u,r,.inl ⟨hk,by simp⟩⟩
   ·rw[List.getElem?_set_ne (Ne.symm hj)] at e2
    obtain⟨u',r',q⟩:=hl j y v' e1 e2 e3
    refine⟨u',r',?_⟩
    rcases q with ⟨k,e⟩ | ⟨k,c,e,z⟩
    ·refine .inl ⟨k,?_⟩
     have:y≠x:=fun e=>hj (nodup_ix hN e1 (e ▸ hi))
     simp [this,e]
    ·exact .inr ⟨k,c,e,z.sameBut hs (cne y c e)⟩
  ·obtain⟨w',z⟩:=I.cell y c e
   exact⟨w',z.sameBut hs (cne y c e)⟩
  ·obtain⟨e,n,ne,nf,d⟩:=I.pin p hp
   exact⟨(hs.2 p.1 ne).trans e,n,ne,nf,d⟩
 ·have hfn:X.fn x=true:=by
   rcases hf with z | z
   ·exact z
   ·rw[z] at hk; cases hk
  obtain⟨c,hc⟩:=I.ok.has x (.inl hk)
  obtain⟨w',z⟩:=I.cell x c hc
  refine wpAny_storeName_cell I.ok.kind hk hc z (fun h' hc' hs=>?_)
  obtain⟨oc,hoc,hocd⟩:=id z
  refine h { s with heap:=h' } ⟨I.ok,I.os,I.bare,⟨fun b o e n hb hx=>?_,fun b o e n hb hx=>?_,I.base.free,fun b o e hx=>?_,I.base.tups,I.base.frzs,I.base.tbls⟩,⟨m,hn.sameBut hs (Ne.symm (cne x c hc)),fun j y v' e1 e2 e3=>?_⟩,fun y c' e=>?_,I.free,I.freeC,fun p hp=>?_,tracked ⟨oc,hoc,I.freeC x c hc⟩ hs,by simpa using I.len⟩ ⟨c,hs,.inr hc⟩
  ·exact (hs.2 b (Nat.ne_of_lt (Nat.lt_of_lt_of_le (Heap.lt_size e) (I.ok.cab x c hfn hc)))).trans (I.base.keep b o e n hb hx)
  ·obtain⟨sl,e1⟩:=I.base.slot b o e n hb hx
   exact⟨sl,(hs.2 b (Nat.ne_of_lt (Nat.lt_of_lt_of_le (Heap.lt_size e) (I.ok.cab x c hfn hc)))).trans e1⟩
  ·obtain⟨o',e1⟩:=I.base.there b o e hx
   exact⟨o',(hs.2 b (Nat.ne_of_lt (Nat.lt_of_lt_of_le (Heap.lt_size e) (I.ok.cab x c hfn hc)))).trans e1⟩
  ·by_cases hj:j=i
   ·subst hj
    rw[hi] at e1; cases e1
    rw[List.getElem?_set_self hiσ] at e2
    cases e2
    exact⟨u,r,.inr ⟨.inl hk,c,hc,hc'⟩⟩
   ·rw[List.getElem?_set_ne (Ne.symm hj)] at e2
    obtain⟨u',r',q⟩:=hl j y v' e1 e2 e3
    refine⟨u',r',?_⟩
    rcases q with q | ⟨k,c',e,z'⟩
    ·exact .inl q
    ·refine .inr ⟨k,c',e,z'.sameBut hs ?_⟩
     rintro rfl
     exact hj (nodup_ix hN e1 (I.ok.inj _ _ _ e hc ▸ hi))
  ·by_cases hcc:c'=c
   ·subst hcc; exact⟨_,hc'⟩
   ·obtain⟨w2,z2⟩:=I.cell y c' e
    exact⟨w2,z2.sameBut hs hcc⟩
  ·obtain⟨e,n,ne,nf,d⟩:=I.pin p hp
   refine⟨(hs.2 p.1 ?_).trans e,n,ne,nf,d⟩
   intro q
   rw[q,hoc] at e
   have q':oc=p.2:=Option.some.inj e
   exact d w' (by rw[← q']; exact hocd)
theorem store_ok {M:Model}{A:Around}{E:Value→Shared→Prop}{i:Nat}{x:Str}{v:V}{u:Value}{Q:Unit→Shared→Prop} (I:Inv X pins σ H s) (hN:X.N.Nodup) (hi:X.N[i]?=some x) (hx:Loc X.env.scope x) (r:RelV v u)
  (h:∀s',Inv X pins (σ.set i (some v)) H s'→Q () s') (hf:X.fn x=true∨X.env.scope.names.lookup x=some .local:=by first | exact .inl rfl | exact .inr rfl | assumption):wpAny M A (storeName X.env x u) Q E s :=
 store_ok2 I hN hi hx r (fun s' I' _=>h s' I') hf
theorem Inv.call' {s':Shared}{ch:List Addr} (I:Inv X pins σ H s) (ho:s'.os=s.os) (u:Un (frs X.stack) ch H H' s.heap s'.heap) (hok:HOk X.prog X.w H' s'.heap) (hg:AllBare s'.gens)
  (hch:∀b∈ch,(b∈X.ex∨X.s₀.heap.get? b=none)∧b≠X.env.locals∧(∀x c,X.env.cells.lookup x=some c→c≠b)∧∀p∈X.pn++pins,p.1≠b):Inv X pins σ H' s':=by
 obtain⟨h',g',d',t',o'⟩:=s'
 have e:o'=s.os:=ho
 subst e
 exact I.call (g':=g') (t':=t') (d':=d') u hok hg hch
end
abbrev XK:=Value→Option Addr→Hp→Prop
abbrev St:=List (Option V)
abbrev VK:=V→Hp→Prop
abbrev TE:=St→Hp→VK→Prop
abbrev TT:=St→Hp→(Bool→Hp→Prop)→Prop
abbrev TA:=St→Hp→(List V→Hp→Prop)→Prop
structure Ends where
 nx:St→Hp→Prop
 rt:VK
 bk:St→Hp→Prop:=fun _ _=>False
 ct:St→Hp→Prop:=fun _ _=>False
abbrev TS:=Ends→St→Hp→Prop
def EP (X:Cx) (pins:List (Addr×Obj)) (σ:St) (Q:VK) (u:Value) (s':Shared):Prop:=∃v H',Inv X pins σ H' s'∧RelV v u∧Q v H'
def TP (X:Cx) (pins:List (Addr×Obj)) (σ:St) (Q:Bool→Hp→Prop) (b:Bool) (s':Shared):Prop:=∃H',Inv X pins σ H' s'∧Q b H'
def AP (X:Cx) (pins:List (Addr×Obj)) (σ:St) (Q:List V→Hp→Prop) (us:List Value) (s':Shared):Prop:=∃vs H',Inv X pins σ H' s'∧Vals vs us∧Q vs H'
def SP (X:Cx) (pins:List (Addr×Obj)) (D:Ends) (f:Flow) (s':Shared):Prop :=
 match f with
 | .next=>∃σ' H',Inv X pins σ' H' s'∧D.nx σ' H'
 | .brk=>∃σ' H',Inv X pins σ' H' s'∧D.bk σ' H'
 | .cont=>∃σ' H',Inv X pins σ' H' s'∧D.ct σ' H'
 | .ret u=>∃v σ' H',Inv X pins σ' H' s'∧RelV v u∧D.rt v H'
def PE (X:Cx) (e:Expr) (t:TE):Prop :=
 ∀(pins:List (Addr×Obj)) (s:Shared) (σ:St) (H:Hp) (Q:VK),Inv X pins σ H s→t σ H Q→wpAny (model X.prog X.w) X.A (eval e X.env) (EP X pins σ Q) X.xe s
def PT (X:Cx) (e:Expr) (t:TT):Prop :=
 ∀(pins:List (Addr×Obj)) (s:Shared) (σ:St) (H:Hp) (Q:Bool→Hp→Prop),Inv X pins σ H s→t σ H Q→wpAny (model X.prog X.w) X.A (isTrue e X.env (eval e X.env)) (TP X pins σ Q) X.xe s
def PW (X:Cx) (e:Expr) (t:TT):Prop :=
 ∀(whole:Sem Value) (pins:List (Addr×Obj)) (s:Shared) (σ:St) (H:Hp) (Q:Bool→Hp→Prop),Inv X pins σ H s→t σ H Q→wpAny (model X.prog X.w) X.A (isTrue e X.env whole) (TP X pins σ Q) X.xe s
theorem PW.pt {X:Cx}{e:Expr}{t:TT} (h:PW X e t):PT X e t:=h _
def PA (X:Cx) (es:List Expr) (t:TA):Prop :=
 ∀(pos:Pos) (pins:List (Addr×Obj)) (s:Shared) (σ:St) (H:Hp) (Q:List V→Hp→Prop),Inv X pins σ H s→t σ H Q→wpAny (model X.prog X.w) X.A (spliced (backTo pos (starEach es X.env))) (AP X pins σ Q) X.xe s
def PS (X:Cx) (st:Stmt) (t:TS):Prop :=
 ∀(pins:List (Addr×Obj)) (s:Shared) (σ:St) (H:Hp) (D:Ends),Inv X pins σ H s→t D σ H→wpAny (model X.prog X.w) X.A (exec st X.env) (SP X pins D) X.xe s
def PSs (X:Cx) (st:List Stmt) (t:TS):Prop :=
 ∀(pins:List (Addr×Obj)) (s:Shared) (σ:St) (H:Hp) (D:Ends),Inv X pins σ H s→t D σ H→wpAny (model X.prog X.w) X.A (execs st X.env) (SP X pins D) X.xe s
theorem thn {α : Type}{t:Sem α}{Q Q' : α→Shared→Prop}{M:Model}{A:Around}{E:Value→Shared→Prop}{s:Shared} (h:wpAny M A t Q E s) (hQ:∀a s,Q a s→Q' a s):wpAny M A t Q' E s:=wpAny_mono h hQ fun _ _ x=>x
end L2
namespace L2
open PySem PySem.Spec PyProof.Rows
section
variable {X:Cx}
def tVar (i:Nat):TE:=fun σ H Q=>∃v,σ[i]?=some (some v)∧Q v H
def tC (v:V):TE:=fun _ H Q=>Q v H
theorem pe_var {i:Nat}{x:Str}{pos:Pos} (hN:X.N[i]?=some x) (hv:Vis X.env.scope x) (hd:(x == ("__debug__" : Str))=false:=by decide) (hcd:(x == ("__classdict__" : Str))=false:=by decide):PE X (.Name x pos) (tVar i):=by
 intro pins s σ H Q I h
 obtain⟨v,e,h⟩:=h
 obtain⟨m,hn,hl⟩:=I.loc
 obtain⟨u,r,l⟩:=hl i x v hN e hv
 have fin:EP X pins σ Q u s:=⟨v,H,I,r,h⟩
 rcases l with ⟨hk,hm⟩ | ⟨hk,c,hc,hcell⟩
 ·exact wpAny_Name (wpAny_loadName_local I.ok.kind hk hn hm fin) hd
 ·rcases hk with hk | hk
  ·exact wpAny_Name (wpAny_loadName_cell I.ok.kind hk hc hcell fin) hd
  ·exact wpAny_Name (wpAny_loadName_free I.ok.kind hk hc hcell fin hcd) hd
theorem pe_int {i j pos}:PE X (.Constant (.int i) j pos) (tC (.int i)):=fun _ _ _ H _ I h=>wpAny_Constant_int ⟨.int i,H,I.tok _,⟨_,rfl⟩,h⟩
theorem pe_bl {b j pos}:PE X (.Constant (.bool b) j pos) (tC (.bl b)):=fun _ _ _ H _ I h=>Constant_bool ⟨.bl b,H,I,rfl,h⟩
theorem pe_non {j pos}:PE X (.Constant .none j pos) (tC .non):=fun _ _ _ H _ I h=>Constant_none ⟨.non,H,I,rfl,h⟩
theorem pe_str {x j pos}:PE X (.Constant (.str x) j pos) (tC (.str x)):=fun _ _ _ H _ I h=>Calls.Constant_str ⟨.str x,H,I.tok _,⟨_,rfl⟩,h⟩
def Gl (X:Cx) (x:Str):Prop:=X.env.kindOf x=some .globalImplicit
theorem ld_glob {E:Value→Shared→Prop}{pins:List (Addr×Obj)}{s:Shared}{σ:St}{H:Hp}{x:Str}{u:Value}{pos:Pos}{Q:Value→Shared→Prop} (I:Inv X pins σ H s) (hg:Gl X x) (hm:X.mg x=some u) (h:Q u s)
  (hd:(x == ("__debug__" : Str))=false:=by decide):wpAny (model X.prog X.w) X.A (eval (.Name x pos) X.env) Q E s :=
 Calls.Name_function_global I.ok.kind hg (Calls.loadGlobal_global (by rw[I.ok.glob]; exact I.mod.glob.keeps I.bk) hm h) hd
theorem ld_blt {E:Value→Shared→Prop}{pins:List (Addr×Obj)}{s:Shared}{σ:St}{H:Hp}{x:Str}{u:Value}{pos:Pos}{Q:Value→Shared→Prop} (I:Inv X pins σ H s) (hg:Gl X x) (hm:X.mg x=none) (hv:bootBuiltins x=some u) (h:Q u s)
  (hn:x≠"__name__":=by decide) (hd:(x == ("__debug__" : Str))=false:=by decide):wpAny (model X.prog X.w) X.A (eval (.Name x pos) X.env) Q E s:=by
 obtain⟨mb,h1,h2⟩:=I.mod.blt
 exact Calls.Name_function_global I.ok.kind hg (Calls.loadGlobal_builtin (by rw[I.ok.glob]; exact I.mod.glob.keeps I.bk) hm (by rw[I.ok.blt]; exact h1.keeps I.bk) ((h2 x hn).trans hv) h) hd
theorem pe_glob {x:Str}{v:V}{u:Value}{pos:Pos} (hg:Gl X x) (hm:X.mg x=some u) (r:RelV v u) (hd:(x == ("__debug__" : Str))=false:=by decide):PE X (.Name x pos) (tC v) :=
 fun _ _ _ H _ I h=>ld_glob I hg hm ⟨v,H,I,r,h⟩ hd
theorem pe_bltn {x:Str}{v:V}{u:Value}{pos:Pos} (hg:Gl X x) (hm:X.mg x=none) (hv:bootBuiltins x=some u) (r:RelV v u) (hn:x≠"__name__":=by decide) (hd:(x == ("__debug__" : Str))=false:=by decide):PE X (.Name x pos) (tC v) :=
 fun _ _ _ H _ I h=>ld_blt I hg hm hv ⟨v,H,I,r,h⟩ hn hd
variable {a b:Expr}{ta tb:TE}{pos:Pos}
def PC (X:Cx) (op:CmpOp) (a b:Expr) (t:TE):Prop :=
 ∀(pins:List (Addr×Obj)) (s:Shared) (σ:St) (H:Hp) (Q:VK),Inv X pins σ H s→t σ H Q →
  wpAny (model X.prog X.w) X.A (eval a X.env) (fun v s₁=>wpAny (model X.prog X.w) X.A (eval b X.env) (fun u s₂=>wpAny (model X.prog X.w) X.A (compareOp op v u) (EP X pins σ Q) X.xe s₂) X.xe s₁) X.xe s
theorem nobehind (b:Expr) {op:CmpOp} (h:op≠.In) (h2:op≠.NotIn):behindInMarks op b=false:=by
 have e1:(op == CmpOp.In)=false:=by cases op <;> first | rfl | exact absurd rfl h
 have e2:(op == CmpOp.NotIn)=false:=by cases op <;> first | rfl | exact absurd rfl h2
 cases b <;> simp [behindInMarks,e1,e2]
def tB (t:TE):TT:=fun σ H Q=>t σ H fun x H1=>∃c,x=.bl c∧Q c H1
theorem pt_cmp {op:CmpOp}{t:TE} (h:PC X op a b t) (h1:behindInMarks op b=false:=by first | exact nobehind _ (by decide) (by decide) | rfl):PT X (.Compare a [op] [b] pos) (tB t):=by
 intro pins s σ H Q I hw
 refine wpAny_isTrue_Compare1 (thn (h pins s σ H _ I hw) fun v s1 h1=>thn h1 fun u s2 h2=>thn h2 fun c s3 ⟨x,H1,I1,r1,q1⟩=>?_) h1
 obtain⟨d,rfl,q⟩:=q1
 cases r1
 exact wpAny_truthy_bool ⟨H1,I1,q⟩
theorem pt_val {e:Expr}{t:TE} (h:PE X e t) (he:∀whole,isTrue e X.env whole=(do let v ← whole; standAt e.pos; holding [v] (truthy v)):=by intro _; rfl):PT X e (tB t):=by
 intro pins s σ H Q I hw
 refine isTrue_plain (thn (h pins s σ H _ I hw) fun v s1 ⟨x,H1,I1,r1,q1⟩=>?_) (he _)
 obtain⟨d,rfl,q⟩:=q1
 cases r1
 exact wpAny_truthy_bool ⟨H1,I1,q⟩
variable {tA tB':TT}{rest:List Expr}
def tAnd (t u:TT):TT:=fun σ H Q=>t σ H fun c H1=>if c=true then u σ H1 Q else Q false H1
def tOr (t u:TT):TT:=fun σ H Q=>t σ H fun c H1=>if c=true then Q true H1 else u σ H1 Q
def tNot (t:TT):TT:=fun σ H Q=>t σ H fun c H1=>Q (!c) H1
theorem pw_and1 (ha:PT X a tA):PW X (.BoolOp .And [a] pos) tA:=by
 intro wh pins s σ H Q I h
 refine isTrue_and (thn (ha pins s σ H Q I h) fun c s1 e=>?_)
 cases c with
 | true=>exact isTrue_and_nil e
 | false=>exact e
theorem pw_or1 (ha:PT X a tA):PW X (.BoolOp .Or [a] pos) tA:=by
 intro wh pins s σ H Q I h
 refine isTrue_or (thn (ha pins s σ H Q I h) fun c s1 e=>?_)
 cases c with
 | false=>exact isTrue_or_nil e
 | true=>exact e
theorem pw_and (ha:PT X a tA) (hb:PW X (.BoolOp .And (b::rest) pos) tB'):PW X (.BoolOp .And (a::b::rest) pos) (tAnd tA tB'):=by
 intro wh pins s σ H Q I h
 refine isTrue_and (thn (ha pins s σ H _ I h) fun c s1 ⟨H1,I1,q1⟩=>?_)
 cases c with
 | true=>exact hb wh pins s1 σ H1 Q I1 q1
 | false=>exact⟨H1,I1,q1⟩
theorem pw_or (ha:PT X a tA) (hb:PW X (.BoolOp .Or (b::rest) pos) tB'):PW X (.BoolOp .Or (a::b::rest) pos) (tOr tA tB'):=by
 intro wh pins s σ H Q I h
 refine isTrue_or (thn (ha pins s σ H _ I h) fun c s1 ⟨H1,I1,q1⟩=>?_)
 cases c with
 | true=>exact⟨H1,I1,q1⟩
 | false=>exact hb wh pins s1 σ H1 Q I1 q1
theorem pt_not (ha:PT X a tA):PT X (.UnaryOp .Not a pos) (tNot tA):=by
 intro pins s σ H Q I h
 exact isTrue_not (ha pins s σ H (fun c H1=>Q (!c) H1) I h)
def tAndV (ta tb:TE):TE:=fun σ H Q=>ta σ H fun x H1=>∃c,x=.bl c∧if c=true then tb σ H1 Q else Q (.bl false) H1
def tOrV (ta tb:TE):TE:=fun σ H Q=>ta σ H fun x H1=>∃c,x=.bl c∧if c=true then Q (.bl true) H1 else tb σ H1 Q
def tNotV (ta:TE):TE:=fun σ H Q=>ta σ H fun x H1=>∃c,x=.bl c∧Q (.bl (!c)) H1
theorem pe_one {op}{t:TE} (h:PE X a t):PE X (.BoolOp op [a] pos) t:=fun pins s σ H Q I hw=>BoolOp_one (h pins s σ H Q I hw)
theorem pe_and (ha:PE X a ta) (hb:PE X (.BoolOp .And (b::rest) pos) tb):PE X (.BoolOp .And (a::b::rest) pos) (tAndV ta tb):=by
 intro pins s σ H Q I h
 refine BoolOp_and (thn (ha pins s σ H _ I h) fun v s1 ⟨x,H1,I1,r1,q1⟩=>?_)
 obtain⟨c,rfl,q1⟩:=q1
 cases r1
 refine wpAny_truthy_bool ?_
 cases c with
 | true=>exact hb pins s1 σ H1 Q I1 q1
 | false=>exact⟨.bl false,H1,I1,rfl,q1⟩
theorem pe_or (ha:PE X a ta) (hb:PE X (.BoolOp .Or (b::rest) pos) tb):PE X (.BoolOp .Or (a::b::rest) pos) (tOrV ta tb):=by
 intro pins s σ H Q I h
 refine BoolOp_or (thn (ha pins s σ H _ I h) fun v s1 ⟨x,H1,I1,r1,q1⟩=>?_)
 obtain⟨c,rfl,q1⟩:=q1
 cases r1
 refine wpAny_truthy_bool ?_
 cases c with
 | false=>exact hb pins s1 σ H1 Q I1 q1
 | true=>exact⟨.bl true,H1,I1,rfl,q1⟩
theorem pe_not (ha:PE X a ta):PE X (.UnaryOp .Not a pos) (tNotV ta):=by
 intro pins s σ H Q I h
 refine UnaryOp_ (thn (ha pins s σ H _ I h) fun v s1 ⟨x,H1,I1,r1,q1⟩=>?_)
 obtain⟨c,rfl,q1⟩:=q1
 cases r1
 exact not_of (wpAny_truthy_bool ⟨.bl (!c),H1,I1,rfl,q1⟩)
def tIf (t:TT) (ta tb:TE):TE:=fun σ H Q=>t σ H fun c H1=>if c=true then ta σ H1 Q else tb σ H1 Q
theorem pe_ifExp {c:Expr} (hc:PT X c tA) (ha:PE X a ta) (hb:PE X b tb):PE X (.IfExp c a b pos) (tIf tA ta tb):=by
 intro pins s σ H Q I h
 refine wpAny_IfExp (thn (hc pins s σ H _ I h) fun d s1 ⟨H1,I1,q1⟩=>?_)
 cases d with
 | true=>exact ha pins s1 σ H1 Q I1 q1
 | false=>exact hb pins s1 σ H1 Q I1 q1
end
end L2
namespace L2
open PySem PySem.Spec PyProof.Rows
def SqL (K:PySem.W.Frag) (H:Hp) (a:Addr) (xs:List V):Prop :=
 Rd H a (.lst xs) ∨
  ∃(o:Obj) (its:Array Value) (n:Nat),K.lookup a=some o∧o.cls=.type "list"∧o.dict=none∧o.data=.seq its n∧its.size≤sizeLine∧Vals xs its.toList
def SqT (K:PySem.W.Frag) (H:Hp) (a:Addr) (xs:List V):Prop :=
 Rd H a (.tup xs) ∨
  ∃(o:Obj) (its:Array Value) (n:Nat),K.lookup a=some o∧o.cls=.type "tuple"∧o.data=.seq its n∧its.size≤sizeLine∧Vals xs its.toList
def absV:Value→Option V
 | .none=>some .non
 | .bool b=>some (.bl b)
 | .int i _=>some (.int i)
 | .str x _=>some (.str x)
 | .bytes b _=>some (.byt b)
 | .float b _=>some (.flt b)
 | .ref a=>some (.ref a)
 | .type n=>some (.ty n)
 | _=>none
theorem RelV.abs {x:V}{u:Value} (r:RelV x u):absV u=some x:=by
 cases x with
 | non=>cases r; rfl
 | bl _=>cases r; rfl
 | int _=>obtain⟨t,rfl⟩:=r; rfl
 | str _=>obtain⟨t,rfl⟩:=r; rfl
 | byt _=>obtain⟨t,rfl⟩:=r; rfl
 | flt _=>obtain⟨t,rfl⟩:=r; rfl
 | ref _=>cases r; rfl
 | ty _=>cases r; rfl
theorem RelV.inj {x y:V}{u:Value} (r:RelV x u) (q:RelV y u):x=y:=Option.some.inj (r.abs.symm.trans q.abs)
theorem Vals.inj:∀{xs ys:List V}{us:List Value},Vals xs us→Vals ys us→xs=ys
 | _,_,_,.nil,.nil=>rfl
 | _,_,_,.cons r t,.cons r' t'=>by rw[r.inj r',Vals.inj t t']
section
variable {X:Cx}{pins:List (Addr×Obj)}{σ:St}{H:Hp}{s:Shared}{a:Addr}{xs ys:List V}
theorem SqL.of {K:PySem.W.Frag} (h:H a=some (.lst xs)):SqL K H a xs:=.inl (.inl h)
theorem SqT.of {K:PySem.W.Frag} (h:H a=some (.tup xs)):SqT K H a xs:=.inl (.inl h)
theorem Inv.list (I:Inv X pins σ H s) (h:SqL X.K H a xs):∃its:List Value,Vals xs its∧PlainL s.heap a its.toArray∧xs.length≤sizeLine:=by
 rcases h with h | ⟨o,its,n,hk,hc,hd,hs,hz,r⟩
 ·obtain⟨z,its,n,r,e⟩:=h.ok I.hok
  exact⟨its,r,⟨_,n,e,rfl,rfl,rfl⟩,z⟩
 ·refine⟨its.toList,r,⟨o,n,I.kIn a o hk,hc,hd,by simpa using hs⟩,?_⟩
  have e:=r.length
  simp only[Array.length_toList] at e
  omega
theorem Inv.tuple (I:Inv X pins σ H s) (h:SqT X.K H a xs):∃its:List Value,Vals xs its∧IsTup s.heap a its.toArray∧xs.length≤sizeLine:=by
 rcases h with h | ⟨o,its,n,hk,hc,hs,hz,r⟩
 ·obtain⟨z,its,r,p⟩:=h.ok I.hok
  exact⟨its,r,p,z⟩
 ·refine⟨its.toList,r,⟨o,I.kIn a o hk,hc,n,by simpa using hs⟩,?_⟩
  have e:=r.length
  simp only[Array.length_toList] at e
  omega
theorem Inv.list_inj (I:Inv X pins σ H s) (h:SqL X.K H a xs) (h':SqL X.K H a ys):xs=ys:=by
 obtain⟨its,r,⟨o,n,e,_,_,d⟩,_⟩:=I.list h
 obtain⟨its',r',⟨o',n',e',_,_,d'⟩,_⟩:=I.list h'
 rw[e] at e'; cases e'
 rw[d] at d'
 injection d' with d1 _
 have:its=its':=by simpa using congrArg Array.toList d1
 subst this
 exact r.inj r'
theorem Inv.tuple_inj (I:Inv X pins σ H s) (h:SqT X.K H a xs) (h':SqT X.K H a ys):xs=ys:=by
 obtain⟨its,r,⟨o,e,_,n,d⟩,_⟩:=I.tuple h
 obtain⟨its',r',⟨o',e',_,n',d'⟩,_⟩:=I.tuple h'
 rw[e] at e'; cases e'
 rw[d] at d'
 injection d' with d1 _
 have:its=its':=by simpa using congrArg Array.toList d1
 subst this
 exact r.inj r'
end
abbrev Cx.wish (X:Cx) (E:Value→Shared→Prop):Cx:={ X with xe:=E }
abbrev Cx.nox (X:Cx):Cx:=X.wish fun _ _=>False
theorem Cx.Ok.wish {X:Cx} (ok:X.Ok) (E:Value→Shared→Prop):(X.wish E).Ok :=
 ⟨ok.mod,ok.kind,ok.glob,ok.blt,ok.above,ok.inj,ok.has,ok.cab,ok.hd,ok.frames,ok.stk,ok.exf,ok.bs,ok.bsz,ok.noex,ok.exfs,ok.funs,ok.frf⟩
theorem Cx.Ok.unwish {X:Cx}{E:Value→Shared→Prop} (ok:(X.wish E).Ok):X.Ok :=
 ⟨ok.mod,ok.kind,ok.glob,ok.blt,ok.above,ok.inj,ok.has,ok.cab,ok.hd,ok.frames,ok.stk,ok.exf,ok.bs,ok.bsz,ok.noex,ok.exfs,ok.funs,ok.frf⟩
section
variable {X:Cx}{pins:List (Addr×Obj)}{σ:St}{H:Hp}{s:Shared}{E:Value→Shared→Prop}
theorem Inv.wish (I:Inv X pins σ H s) (E:Value→Shared→Prop):Inv (X.wish E) pins σ H s:=⟨I.ok.wish E,I.os,I.bare,I.base,I.loc,I.cell,I.free,I.freeC,I.pin,I.hok,I.len⟩
theorem Inv.unwish (I:Inv (X.wish E) pins σ H s):Inv X pins σ H s:=⟨I.ok.unwish,I.os,I.bare,I.base,I.loc,I.cell,I.free,I.freeC,I.pin,I.hok,I.len⟩
theorem SP.unwish {D:Ends}{f:Flow}{s':Shared} (h:SP (X.wish E) pins D f s'):SP X pins D f s':=by
 cases f with
 | next=>obtain⟨σ',H',I,q⟩:=h; exact⟨σ',H',I.unwish,q⟩
 | brk=>obtain⟨σ',H',I,q⟩:=h; exact⟨σ',H',I.unwish,q⟩
 | cont=>obtain⟨σ',H',I,q⟩:=h; exact⟨σ',H',I.unwish,q⟩
 | ret u=>obtain⟨v,σ',H',I,r,q⟩:=h; exact⟨v,σ',H',I.unwish,r,q⟩
theorem PSs.nox {st:List Stmt}{t:TS} (h:PSs X.nox st t):PSs X st t:=fun pins s σ H D I hw =>
 wpAny_mono (h pins s σ H D (I.wish _) hw) (fun _ _ q=>q.unwish) fun _ _ z=>False.elim z
end
section
variable {X:Cx}{st:Stmt}{rest:List Stmt}{t u:TS}{e:Expr}{te:TE}{pos:Pos}
def tNext:TS:=fun D σ H=>D.nx σ H
def tSeq (t u:TS):TS:=fun D σ H=>t { D with nx:=u D } σ H
theorem pss_nil:PSs X [] tNext:=fun _ _ σ H _ I h=>wpAny_execs_nil ⟨σ,H,I,h⟩
theorem pss_cons (h1:PS X st t) (h2:PSs X rest u):PSs X (st::rest) (tSeq t u):=by
 intro pins s σ H D I h
 refine wpAny_execs_cons (thn (h1 pins s σ H { D with nx:=u D } I h) fun f s1 q=>?_)
 cases f with
 | next =>
  obtain⟨σ',H',I',q⟩:=q
  exact h2 pins s1 σ' H' D I' q
 | ret v=>exact q
 | brk=>exact q
 | cont=>exact q
theorem pss_one (h1:PS X st t):PSs X [st] t:=by
 intro pins s σ H D I h
 refine wpAny_execs_cons (thn (h1 pins s σ H D I h) fun f s1 q=>?_)
 cases f with
 | next=>exact wpAny_execs_nil q
 | ret v=>exact q
 | brk=>exact q
 | cont=>exact q
theorem Inv.quiet {pins:List (Addr×Obj)}{σ:St}{H:Hp}{s:Shared} (I:Inv X pins σ H s):interactive X.env=false:=by simp [interactive,I.ok.kind]
def tDrop (te:TE):TS:=fun D σ H=>te σ H fun _ H1=>D.nx σ H1
theorem ps_expr (he:PE X e te) (hs:swapsWith e none pos.line X.env=pure false:=by rfl):PS X (.Expr e pos) (tDrop te):=by
 intro pins s σ H D I h
 exact wpAny_Expr_any (thn (he pins s σ H _ I h) fun v s1 ⟨x,H1,I1,r1,q1⟩=>⟨σ,H1,I1,q1⟩) I.quiet hs
def tRet (te:TE):TS:=fun D σ H=>te σ H D.rt
theorem ps_ret (he:PE X e te):PS X (.Return (some e) pos) (tRet te):=by
 intro pins s σ H D I h
 exact wpAny_Return_some (thn (he pins s σ H _ I h) fun v s1 ⟨x,H1,I1,r1,q1⟩=>⟨x,σ,H1,I1,r1,q1⟩)
def tIfS (c:TT) (t u:TS):TS:=fun D σ H=>c σ H fun b H1=>if b=true then t D σ H1 else u D σ H1
theorem ps_if {c:Expr}{a b:List Stmt}{tc:TT} (hc:PT X c tc) (ha:PSs X a t) (hb:PSs X b u):PS X (.If c a b pos) (tIfS tc t u):=by
 intro pins s σ H D I h
 refine wpAny_If (thn (hc pins s σ H _ I h) fun d s1 ⟨H1,I1,q1⟩=>?_)
 cases d with
 | true=>exact ha pins s1 σ H1 D I1 q1
 | false=>exact hb pins s1 σ H1 D I1 q1
def tNever:TS:=fun _ _ _=>False
theorem ps_never:PS X st tNever:=fun _ _ _ _ _ _ h=>h.elim
end
abbrev TG:=V→St→Hp→(St→Hp→Prop)→Prop
abbrev TGs:=List V→St→Hp→(St→Hp→Prop)→Prop
def PG (X:Cx) (target:Expr) (t:TG):Prop :=
 ∀(pins:List (Addr×Obj)) (s:Shared) (σ:St) (H:Hp) (v:V) (u:Value) (Q:St→Hp→Prop),Inv X pins σ H s→RelV v u→t v σ H Q →
  wpAny (model X.prog X.w) X.A (assign target X.env u) (fun _ s'=>∃σ' H',Inv X pins σ' H' s'∧Q σ' H') X.xe s
def PGs (X:Cx) (ts:List Expr) (t:TGs):Prop :=
 ∀(pins:List (Addr×Obj)) (s:Shared) (σ:St) (H:Hp) (vs:List V) (us:List Value) (Q:St→Hp→Prop),Inv X pins σ H s→Vals vs us→t vs σ H Q →
  wpAny (model X.prog X.w) X.A (assignInOrder ((assignEach ts X.env).map (·.2)) us) (fun _ s'=>∃σ' H',Inv X pins σ' H' s'∧Q σ' H') X.xe s
abbrev TSet:=V→V→V→Hp→(Hp→Prop)→Prop
def PSet (X:Cx) (t:TSet):Prop :=
 ∀(pins:List (Addr×Obj)) (s:Shared) (σ:St) (H:Hp) (o i v:V) (ov iv u:Value) (Q:Hp→Prop),Inv X pins σ H s→RelV o ov→RelV i iv→RelV v u→t o i v H Q →
  wpAny (model X.prog X.w) X.A (setItem ov iv u) (fun _ s'=>∃H',Inv X pins σ H' s'∧Q H') X.xe s
section
variable {X:Cx}{pos:Pos}
def gName (i:Nat):TG:=fun v σ H Q=>Q (σ.set i (some v)) H
theorem pg_name {i:Nat}{x:Str} (hN:X.N.Nodup) (hi:X.N[i]?=some x) (hx:Loc X.env.scope x) (hf:X.fn x=true∨X.env.scope.names.lookup x=some .local:=by first | exact .inl rfl | exact .inr rfl | assumption):PG X (.Name x pos) (gName i):=by
 intro pins s σ H v u Q I r h
 exact wpAny_assign_Name (store_ok I hN hi hx r (fun s' I'=>⟨_,H,I',h⟩) hf)
def gNil:TGs:=fun vs σ H Q=>vs=[]∧Q σ H
def gCons (t:TG) (u:TGs):TGs:=fun vs σ H Q=>∃v r,vs=v::r∧t v σ H fun σ' H'=>u r σ' H' Q
theorem pgs_nil:PGs X [] gNil:=by
 intro pins s σ H vs us Q I r h
 obtain⟨e,h⟩:=h
 subst e
 cases r
 exact assignInOrder_nil ⟨σ,H,I,h⟩
theorem pgs_cons {e:Expr}{es:List Expr}{t:TG}{u:TGs} (h1:PG X e t) (h2:PGs X es u)
  (hs:(assignEach (e::es) X.env).map (·.2)=assign e X.env::(assignEach es X.env).map (·.2):=by rfl):PGs X (e::es) (gCons t u):=by
 intro pins s σ H vs us Q I r h
 obtain⟨v,vr,e1,h⟩:=h
 subst e1
 cases r with
 | cons r rr =>
  rw[hs]
  refine assignInOrder_cons (thn (h1 pins s σ H _ _ _ I r h) fun _ s1 ⟨σ1,H1,I1,q1⟩=>?_)
  exact h2 pins s1 σ1 H1 _ _ Q I1 rr q1
def gTup (K:PySem.W.Frag) (n:Nat) (t:TGs):TG:=fun v σ H Q=>∃a xs,v=.ref a∧SqT K H a xs∧xs.length=n∧t xs σ H Q
theorem pg_tup {es:List Expr}{k:Nat}{t:TGs}{n:Nat} (hc:X.calm=true) (h:PGs X es t)
  (hn:(assignEach es X.env).length=n:=by rfl) (hst:(assignEach es X.env).findIdx? (·.1)=none:=by rfl):PG X (.Tuple es k pos) (gTup X.K n t):=by
 intro pins s σ H v u Q I r hw
 obtain⟨a,xs,e1,hq,hl,hw⟩:=hw
 subst e1
 cases r
 obtain⟨its,rv,ht,hz⟩:=I.tuple hq
 refine assign_Tuple_tuple (I.ok.hd hc) ht (by simp [hn,← hl,rv.length]) hst fun h' hx=>?_
 have I1:Inv X pins σ H { s with heap:=h' }:=I.kept (t':=s.toks) fun b o e=>hx b o (Nat.ne_of_lt (Heap.lt_size e)) e
 exact h pins _ σ H xs _ Q I1 (by simpa using rv) hw
def gSub (to ti:TE) (t:TSet):TG:=fun v σ H Q=>to σ H fun o H1=>ti σ H1 fun i H2=>t o i v H2 fun H3=>Q σ H3
theorem pg_sub {o i:Expr}{to ti:TE}{t:TSet} (ho:PE X o to) (hi:PE X i ti) (hs:PSet X t)
  (ha:∀v,assign (.Subscript o i pos) X.env v=(do
   let ov ← holding [v] (eval o X.env)
   let iv ← holding [v,ov] (eval i X.env)
   standAt pos
   holding [v,ov,iv] (setItem ov iv v)
   release [v,ov,iv] []):=by intro _; rfl):PG X (.Subscript o i pos) (gSub to ti t):=by
 intro pins s σ H v u Q I r h
 rw[ha]
 refine wpAny_bind (wpAny_holding (thn (ho pins s σ H _ I h) fun ov s1 ⟨x,H1,I1,r1,q1⟩=>?_))
 refine wpAny_bind (wpAny_holding (thn (hi pins s1 σ H1 _ I1 q1) fun iv s2 ⟨y,H2,I2,r2,q2⟩=>?_))
 refine wpAny_bind (wpAny_standAt (wpAny_bind (wpAny_holding (thn (hs pins s2 σ H2 x y v ov iv u _ I2 r1 r2 r q2) fun _ s3 ⟨H3,I3,q3⟩=>?_))))
 exact wpAny_release ⟨σ,H3,I3,q3⟩
def tAsg (te:TE) (g:TG):TS:=fun D σ H=>te σ H fun x H1=>g x σ H1 D.nx
theorem ps_asg {tg e:Expr}{te:TE}{g:TG} (he:PE X e te) (hg:PG X tg g) (hs:swapsWithSole [tg] e pos.line X.env=pure false:=by rfl) (hw:swappedStores [tg] e X.env=pure none:=by rfl)
  (h1:(assignEach [tg] X.env).map (·.2)=[assign tg X.env]:=by rfl):PS X (.Assign [tg] e pos) (tAsg te g):=by
 intro pins s σ H D I h
 refine wpAny_Assign_stores (thn (he pins s σ H _ I h) fun v s1 ⟨x,H1,I1,r1,q1⟩=>?_) hs hw
 rw[h1]
 exact thn (hg pins s1 σ H1 x v _ I1 r1 q1) fun _ s2 q=>q
theorem ps_set {i:Nat}{x:Str}{e:Expr}{te:TE}{pos':Pos} (hN:X.N.Nodup) (hi:X.N[i]?=some x) (hx:Loc X.env.scope x) (he:PE X e te) (hs:swapsWith e (some (.Name x pos')) pos.line X.env=pure false:=by rfl) (hf:X.fn x=true∨X.env.scope.names.lookup x=some .local:=by first | exact .inl rfl | exact .inr rfl | assumption) :
  PS X (.Assign [.Name x pos'] e pos) (tAsg te (gName i)):=by
 intro pins s σ H D I h
 refine wpAny_Assign_Name (thn (he pins s σ H _ I h) fun v s1 ⟨y,H1,I1,r1,q1⟩=>?_) hs
 exact store_ok I1 hN hi hx r1 (fun s2 I2=>⟨_,H1,I2,q1⟩) hf
end
section
variable {X:Cx}{pos:Pos}
def tWhile (c:TT) (tb:TS):TS:=fun D σ H=>∃W:Nat→St→Hp→Prop,(∃m,W m σ H)∧∀m σ H,W m σ H →
 c σ H fun b H1=>if b=true then ∃N:St→Hp→Prop,(∀σ' H',N σ' H'→∃m',m' < m∧W m' σ' H')∧tb { D with nx:=N,ct:=N,bk:=D.nx } σ H1 else D.nx σ H1
theorem ps_while {c:Expr}{body:List Stmt}{tc:TT}{tb:TS} (hp:PassesOwn (model X.prog X.w) X.A X.env X.xe) (hc:PT X c tc) (hb:PSs X body tb):PS X (.While c body [] pos) (tWhile tc tb):=by
 intro pins s σ H D I h
 obtain⟨W,⟨m0,w0⟩,turn⟩:=h
 refine wpAny_While (codeAny_whileLoop (fun n s'=>∃σ' H',Inv X pins σ' H' s'∧W n σ' H') ?_ m0 ⟨σ,H,I,w0⟩)
 rintro n s1 ⟨σ1,H1,I1,w1⟩
 refine wpAny_passesOwn hp (thn (hc pins s1 σ1 H1 _ I1 (turn n σ1 H1 w1)) fun b s2 ⟨H2,I2,q2⟩=>?_)
 cases b with
 | true =>
  obtain⟨N,hN,q2⟩:=q2
  rw[if_pos rfl]
  refine wpAny_passesOwn hp (thn (hb pins s2 σ1 H2 _ I2 q2) fun f s3 q3=>?_)
  cases f with
  | next =>
   obtain⟨σ3,H3,I3,n3⟩:=q3
   obtain⟨m',hm,w3⟩:=hN σ3 H3 n3
   exact⟨m',hm,σ3,H3,I3,w3⟩
  | cont =>
   obtain⟨σ3,H3,I3,n3⟩:=q3
   obtain⟨m',hm,w3⟩:=hN σ3 H3 n3
   exact⟨m',hm,σ3,H3,I3,w3⟩
  | brk=>exact q3
  | ret v=>exact q3
 | false =>
  rw[if_neg Bool.false_ne_true]
  exact wpAny_execs_nil ⟨σ1,H2,I2,q2⟩
end
structure It where
 go:Nat→Hp→Prop
 yld:Nat→Hp→V→Hp→Prop
 stop:Nat→Hp→Prop
def FpOk (X:Cx) (pins:List (Addr×Obj)) (H:Hp) (b:Addr):Prop :=
 H b=none∧b≠X.env.locals∧b ∉ X.fs∧(b∈X.ex∨X.s₀.heap.get? b=none)∧(∀x c,X.env.cells.lookup x=some c→c≠b)∧∀p∈X.pn++pins,p.1≠b
theorem Inv.fpOk {X:Cx}{pins:List (Addr×Obj)}{σ:St}{H H':Hp}{s:Shared}{b:Addr} (I:Inv X pins σ H s) (hb:s.heap.objs.size≤b) (hn:H' b=none):FpOk X pins H' b:=by
 refine⟨hn,Nat.ne_of_gt (Nat.lt_of_lt_of_le I.lt hb),I.nofs hb,.inr (Heap.get?_none_of_le (Nat.le_trans I.sz hb)),fun x c e z=>?_,fun p hp z=>?_⟩
 ·obtain⟨v,q⟩:=I.cell x c e
  exact absurd (Nat.lt_of_lt_of_le q.lt (by rw[z]; exact hb)) (Nat.lt_irrefl _)
 ·exact absurd (Nat.lt_of_lt_of_le (Heap.lt_size (I.pin p hp).1) (by rw[z]; exact hb)) (Nat.lt_irrefl _)
structure Turn (P:Program) (w:World) (K:PySem.W.Frag) (tg:Expr) (J:It) (fp:List Addr) (it:Addr) (tn:Nat→Heap→Prop):Prop where
 mem:it∈fp
 obj:∀i h,tn i h→∀b∈fp,∃o,h.get? b=some o∧∀v,o.data≠.cell v
 keep:∀i h h',tn i h→(∀b∈fp,∀o,h.get? b=some o→h'.get? b=some o)→tn i h'
 item:∀(X:Cx),X.prog=P→X.w=w→X.K=K→X.calm=true→∀(i:Nat) (pins:List (Addr×Obj)) (s:Shared) (σ:St) (H:Hp) (E:Value→Shared→Prop),Inv X pins σ H s→(∀b∈fp,FpOk X pins H b)→tn i s.heap→J.go i H →
  wpAny (model P w) X.A (pyNext (.ref it)) (fun r s1=>∃u,r=some u ∧
   wpAny (model P w) X.A (letOwnedTupleGo tg (.ref it) u) (fun _ s2=>∃x H',Inv X pins σ H' s2∧RelV x u∧J.yld i H x H'∧tn (i+1) s2.heap∧∀b∈fp,H' b=none) E s1) E s
 done:∀(X:Cx),X.prog=P→X.w=w→X.K=K→X.calm=true→∀(i:Nat) (pins:List (Addr×Obj)) (s:Shared) (σ:St) (H:Hp) (E:Value→Shared→Prop),Inv X pins σ H s→(∀b∈fp,FpOk X pins H b)→tn i s.heap→J.stop i H →
  wpAny (model P w) X.A (pyNext (.ref it)) (fun r s1=>r=none∧Inv X pins σ H s1) E s
 self:∀(A:Around) (i:Nat) (s:Shared) (Q:Value→Shared→Prop) (E:Value→Shared→Prop),tn i s.heap→Q (.ref it) s→wpAny (model P w) A (pyIter (.ref it)) Q E s
abbrev TI:=St→Hp→(It→Hp→Prop)→Prop
def PIE (X:Cx) (pins:List (Addr×Obj)) (σ:St) (tg:Expr) (R:It→Hp→Prop) (itv:Value) (s2:Shared):Prop :=
 ∃(it:Addr) (fp:List Addr) (tn:Nat→Heap→Prop) (J:It) (H':Hp),itv=.ref it∧Inv X pins σ H' s2∧Turn X.prog X.w X.K tg J fp it tn∧tn 0 s2.heap∧(∀b∈fp,FpOk X pins H' b)∧R J H'
def PI (X:Cx) (tg iter:Expr) (wi:TI):Prop :=
 ∀(pins:List (Addr×Obj)) (s:Shared) (σ:St) (H:Hp) (R:It→Hp→Prop),Inv X pins σ H s→wi σ H R →
  wpAny (model X.prog X.w) X.A (eval iter X.env) (fun v s1=>wpAny (model X.prog X.w) X.A (pyIter v) (PIE X pins σ tg R) X.xe s1) X.xe s
theorem go_of {M:Model}{A:Around}{E:Value→Shared→Prop}{s:Shared}{tg:Expr}{it:Addr}{u:Value}{o:Obj}{n:String}{vs:Array Value}{Q:Unit→Shared→Prop} (ho:s.heap.get? it=some o) (hc:o.cls=.type n) (hd:o.data=.fields vs)
    (hn : ["enumerate","zip","dict_itemiterator","dict_reverseitemiterator","odict_iterator","itertools.zip_longest","itertools.pairwise"].contains n=false) (hQ:Q () s):wpAny M A (letOwnedTupleGo tg (.ref it) u) Q E s:=by
  unfold letOwnedTupleGo
  cases tg <;> first
    | exact wpAny_pure hQ
    | (cases u <;> first
        | exact wpAny_pure hQ
        | (refine wpAny_bind (wpAny_load ho ?_)
           rw[hc,hd]
           show wpAny M A (if (["enumerate","zip","dict_itemiterator","dict_reverseitemiterator","odict_iterator","itertools.zip_longest","itertools.pairwise"].contains n && vs[0]? == some (rawInt _))=true then _ else _) Q E s
           rw[if_neg (by intro h; rw[hn,Bool.false_and] at h; cases h)]
           exact wpAny_pure hQ))
def Itl (K:PySem.W.Frag) (a:Addr):It :=
 ⟨fun i H=>∃xs x,SqL K H a xs∧xs[i]?=some x,fun i H x H'=>H'=H∧∀xs,SqL K H a xs→xs[i]?=some x,fun i H=>∃xs,SqL K H a xs∧xs.length≤i⟩
def Itt (K:PySem.W.Frag) (a:Addr):It :=
 ⟨fun i H=>∃xs x,SqT K H a xs∧xs[i]?=some x,fun i H x H'=>H'=H∧∀xs,SqT K H a xs→xs[i]?=some x,fun i H=>∃xs,SqT K H a xs∧xs.length≤i⟩
def Itr (lo:Int) (n:Nat):It:=⟨fun i _=>i < n,fun i H x H'=>H'=H∧x=.int (lo+i),fun i _=>n≤i⟩
theorem turn_list {P:Program}{w:World}{K:PySem.W.Frag}{tg:Expr} (a it:Addr):Turn P w K tg (Itl K a) [it] it (fun i h=>h.IsListIter it a i) where
 mem:=by simp
 obj:=fun i h st b hb=>by
  have e:b=it:=by simpa using hb
  subst e
  obtain⟨o,e,c,d⟩:=st
  exact⟨o,e,fun v z=>by rw[d] at z; cases z⟩
 keep:=fun i h h' st k=>st.at fun o e=>k it (by simp) o e
 item:=by
  intro X hP hw hK hc i pins s σ H E I hf st hg
  subst hP hw hK
  obtain⟨xs,x,hq,hx⟩:=hg
  obtain⟨its,rv,p,hz⟩:=I.list hq
  obtain⟨u,hu,ru⟩:=rv.get hx
  obtain⟨f0,f1,f2,f3,f4,f5⟩:=hf it (by simp)
  refine wpAny_pyNext_list_item st p.isList (x:=u) (by simpa using hu) fun h' st' sb=>?_
  have I1:Inv X pins σ H { s with heap:=h' }:=I.turned (t':=s.toks) (fun b o hb e=>(sb.2 b hb).trans e) f0 f1 f3 f4 f5
  obtain⟨o,e,c,d⟩:=id st'
  exact⟨u,rfl,go_of (s:={ s with heap:=h' }) e c d (by decide) ⟨x,H,I1,ru,⟨rfl,fun ys hy=>by rw[I.list_inj hy hq]; exact hx⟩,st',fun b hb=>(hf b hb).1⟩⟩
 done:=by
  intro X hP hw hK hc i pins s σ H E I hf st hg
  subst hP hw hK
  obtain⟨xs,hq,hx⟩:=hg
  obtain⟨its,rv,p,hz⟩:=I.list hq
  obtain⟨f0,f1,f2,f3,f4,f5⟩:=hf it (by simp)
  have hl:=rv.length
  exact wpAny_pyNext_list_end (I.ok.hd hc) st p.isList (by simp; omega) fun h' eb=>⟨rfl,I.turned (t':=s.toks) (fun b o hb e=>eb b o hb e) f0 f1 f3 f4 f5⟩
 self:=fun _ _ _ _ _ st h=>wpAny_pyIter_listiter st h
theorem turn_tuple {P:Program}{w:World}{K:PySem.W.Frag}{tg:Expr} (a it:Addr):Turn P w K tg (Itt K a) [it] it (fun i h=>h.IsTupleIter it a i) where
 mem:=by simp
 obj:=fun i h st b hb=>by
  have e:b=it:=by simpa using hb
  subst e
  obtain⟨o,e,c,d⟩:=st
  exact⟨o,e,fun v z=>by rw[d] at z; cases z⟩
 keep:=fun i h h' st k=>st.at fun o e=>k it (by simp) o e
 item:=by
  intro X hP hw hK hc i pins s σ H E I hf st hg
  subst hP hw hK
  obtain⟨xs,x,hq,hx⟩:=hg
  obtain⟨its,rv,p,hz⟩:=I.tuple hq
  obtain⟨u,hu,ru⟩:=rv.get hx
  obtain⟨f0,f1,f2,f3,f4,f5⟩:=hf it (by simp)
  refine wpAny_pyNext_tuple_item st (show s.heap.IsTuple a its.toArray from p) (x:=u) (by simpa using hu) fun h' st' sb=>?_
  have I1:Inv X pins σ H { s with heap:=h' }:=I.turned (t':=s.toks) (fun b o hb e=>(sb.2 b hb).trans e) f0 f1 f3 f4 f5
  obtain⟨o,e,c,d⟩:=id st'
  exact⟨u,rfl,go_of (s:={ s with heap:=h' }) e c d (by decide) ⟨x,H,I1,ru,⟨rfl,fun ys hy=>by rw[I.tuple_inj hy hq]; exact hx⟩,st',fun b hb=>(hf b hb).1⟩⟩
 done:=by
  intro X hP hw hK hc i pins s σ H E I hf st hg
  subst hP hw hK
  obtain⟨xs,hq,hx⟩:=hg
  obtain⟨its,rv,p,hz⟩:=I.tuple hq
  obtain⟨f0,f1,f2,f3,f4,f5⟩:=hf it (by simp)
  have hl:=rv.length
  exact wpAny_pyNext_tuple_end (I.ok.hd hc) st (show s.heap.IsTuple a its.toArray from p) (by simp; omega) fun h' eb=>⟨rfl,I.turned (t':=s.toks) (fun b o hb e=>eb b o hb e) f0 f1 f3 f4 f5⟩
 self:=fun _ _ _ _ _ st h=>wpAny_pyIter_tupleiter st h
theorem turn_range {P:Program}{w:World}{K:PySem.W.Frag}{tg:Expr} (it:Addr) (lo:Int) (n:Nat):Turn P w K tg (Itr lo n) [it] it (fun i h=>IsRangeIter h it (lo+(i:Nat) * 1) ((n:Int) - (i:Nat)) 1) where
 mem:=by simp
 obj:=fun i h st b hb=>by
  have e:b=it:=by simpa using hb
  subst e
  exact⟨_,st,fun v z=>by
   have z':Data.fields _=Data.cell v:=z
   cases z'⟩
 keep:=fun i h h' st k=>k it (by simp) _ st
 item:=by
  intro X hP hw hK hc i pins s σ H E I hf st hg
  subst hP hw hK
  obtain⟨f0,f1,f2,f3,f4,f5⟩:=hf it (by simp)
  have W:=Walks.range (prog:=X.prog) (w:=X.w) (I.ok.hd hc) it lo 1 n
  refine W.item i s _ _ hg st fun v h' tk hv st' kk=>?_
  obtain⟨t,rfl⟩:=hv
  have I1:Inv X pins σ H { s with heap:=h',toks:=tk }:=I.turned (fun b o hb e=>kk b o (by simpa using hb) e) f0 f1 f3 f4 f5
  refine⟨_,rfl,go_of (s:={ s with heap:=h',toks:=tk }) (n:="range_iterator") st' rfl rfl (by decide) ⟨.int (lo+i),H,I1,⟨t,?_⟩,⟨rfl,rfl⟩,st',fun b hb=>(hf b hb).1⟩⟩
  rw[Int.mul_one]
 done:=by
  intro X hP hw hK hc i pins s σ H E I hf st hg
  subst hP hw hK
  obtain⟨f0,f1,f2,f3,f4,f5⟩:=hf it (by simp)
  exact wpAny_pyNext_range_end (I.ok.hd hc) st (by have:n≤i:=hg; omega) fun h' eb=>⟨rfl,I.turned (t':=s.toks) (fun b o hb e=>eb b o hb e) f0 f1 f3 f4 f5⟩
 self:=fun _ _ _ _ _ st h=>wpAny_pyIter_rangeiter st h
end L2
namespace L2
open PySem PySem.Spec PyProof.Rows
section
variable {X:Cx}{tg:Expr}
def iList (K:PySem.W.Frag) (tl:TE):TI:=fun σ H R=>tl σ H fun x H1=>∃a,x=.ref a∧(∃xs,SqL K H1 a xs)∧R (Itl K a) H1
def iTup (K:PySem.W.Frag) (tl:TE):TI:=fun σ H R=>tl σ H fun x H1=>∃a,x=.ref a∧(∃xs,SqT K H1 a xs)∧R (Itt K a) H1
theorem pi_list {l:Expr}{tl:TE} (hl:PE X l tl):PI X tg l (iList X.K tl):=by
 intro pins s σ H R I h
 refine thn (hl pins s σ H _ I h) fun v s1 ⟨x,H1,I1,r1,q1⟩=>?_
 obtain⟨a,e,⟨xs,hq⟩,q⟩:=q1
 subst e
 cases r1
 obtain⟨its,rv,p,hz⟩:=I1.list hq
 refine wpAny_pyIter_list p.isList ?_
 refine⟨s1.heap.objs.size,[s1.heap.objs.size],_,_,H1,rfl,I1.kept (t':=s1.toks) fun b o e=>Heap.get?_push_of_some _ e,turn_list a _,⟨_,Heap.get?_push_size _ rfl,rfl,rfl⟩,fun b hb=>?_,q⟩
 have e:b=s1.heap.objs.size:=by simpa using hb
 subst e
 exact I1.fpOk (Nat.le_refl _) (I1.hok.fresh (Nat.le_refl _))
theorem pi_tup {l:Expr}{tl:TE} (hl:PE X l tl):PI X tg l (iTup X.K tl):=by
 intro pins s σ H R I h
 refine thn (hl pins s σ H _ I h) fun v s1 ⟨x,H1,I1,r1,q1⟩=>?_
 obtain⟨a,e,⟨xs,hq⟩,q⟩:=q1
 subst e
 cases r1
 obtain⟨its,rv,p,hz⟩:=I1.tuple hq
 refine wpAny_pyIter_tuple (show s1.heap.IsTuple a its.toArray from p) ?_
 refine⟨s1.heap.objs.size,[s1.heap.objs.size],_,_,H1,rfl,I1.kept (t':=s1.toks) fun b o e=>Heap.get?_push_of_some _ e,turn_tuple a _,⟨_,Heap.get?_push_size _ rfl,rfl,rfl⟩,fun b hb=>?_,q⟩
 have e:b=s1.heap.objs.size:=by simpa using hb
 subst e
 exact I1.fpOk (Nat.le_refl _) (I1.hok.fresh (Nat.le_refl _))
theorem range_it {pins:List (Addr×Obj)}{σ:St}{H:Hp}{s:Shared}{R:It→Hp→Prop}{E:Value→Shared→Prop}{lo hi:Int}{t u v:Tok}{tk:Nat} (I:Inv X pins σ H s) (h1 : -(2 ^ 62)≤lo) (h2:lo < 2 ^ 62) (h3 : -(2 ^ 62)≤hi) (h4:hi < 2 ^ 62)
  (q:R (Itr lo (hi - lo).toNat) H):wpAny (model X.prog X.w) X.A (pyIter (.ref s.heap.objs.size)) (PIE X pins σ tg R) E { s with heap:=s.heap.push { cls:=.type "range",data:=.fields #[.int lo t,.int hi u,.int 1 v] },toks:=tk }:=by
 refine wpAny_pyIter_range (IsRange.new ..) (small_one h1 h2 h3 h4) ?_
 have I1:Inv X pins σ H { s with heap:=s.heap.push { cls:=.type "range",data:=.fields #[.int lo t,.int hi u,.int 1 v] },toks:=tk }:=I.kept fun b o e=>Heap.get?_push_of_some _ e
 refine⟨(s.heap.push { cls:=.type "range",data:=.fields #[.int lo t,.int hi u,.int 1 v] }).objs.size,[(s.heap.push { cls:=.type "range",data:=.fields #[.int lo t,.int hi u,.int 1 v] }).objs.size],_,_,H,rfl,
  I1.kept (t':=tk) fun b o e=>Heap.get?_push_of_some _ e,turn_range _ lo (hi - lo).toNat,?_,fun b hb=>?_,q⟩
 ·have e1:lo+((0:Nat):Int) * 1=lo:=by simp
  have e2:(((hi - lo).toNat:Nat):Int) - ((0:Nat):Int)=Builtin.Range.rangeSize lo hi 1:=by rw[rangeSize_one]; split <;> omega
  show IsRangeIter _ _ (lo+((0:Nat):Int) * 1) ((((hi - lo).toNat:Nat):Int) - ((0:Nat):Int)) 1
  rw[e1,e2]
  exact Heap.get?_push_size _ rfl
 ·have e:b=(s.heap.push { cls:=.type "range",data:=.fields #[.int lo t,.int hi u,.int 1 v] }).objs.size:=by simpa using hb
  subst e
  exact I1.fpOk (Nat.le_refl _) (I1.hok.fresh (Nat.le_refl _))
def iRng1 (ta:TA):TI:=fun σ H R=>ta σ H fun vs H1=>∃j:Int,vs=[.int j]∧-(2 ^ 62)≤j∧j < 2 ^ 62∧R (Itr 0 j.toNat) H1
theorem pi_range1 {a:Expr}{ta:TA}{p pos:Pos} (hg:Gl X "range") (hm:X.mg "range"=none) (ha:PA X [a] ta) (hs:starEach [a] X.env=[(false,eval a X.env)]:=by rfl):PI X tg (.Call (.Name "range" p) [a] [] pos) (iRng1 ta):=by
 intro pins s σ H R I h
 refine Call_ (ld_blt I hg hm boot_range (PyProof.Rows.callWith_type1 (thn (ha pos pins s σ H _ I h) fun us s1 ⟨vs,H1,I1,r1,q1⟩=>?_) hs rfl))
 obtain⟨j,e,q1,q2,q⟩:=q1
 subst e
 cases r1 with
 | cons r rr =>
  cases rr
  obtain⟨t,rfl⟩:=r
  exact call_range_1 (range_it I1 (by omega) (by omega) q1 q2 (by simpa using q))
def tFor (wi:TI) (g:TG) (tb:TS):TS:=fun D σ H=>wi σ H fun J H1=>∃W:Nat→Nat→St→Hp→Prop,(∃m,W 0 m σ H1)∧∀i m σ H,W i m σ H →
 (J.stop i H∧D.nx σ H)∨(J.go i H∧∃N:St→Hp→Prop,(∀σ' H',N σ' H'→∃m',m' < m∧W (i+1) m' σ' H')∧∀x H',J.yld i H x H'→g x σ H' fun σ2 H2=>tb { D with nx:=N,ct:=N,bk:=D.nx } σ2 H2)
def pinsAt (fp:List Addr) (h:Heap):List (Addr×Obj):=fp.filterMap fun b=>(h.get? b).map fun o=>(b,o)
theorem mem_pinsAt {fp:List Addr}{h:Heap}{b:Addr}{o:Obj} (hb:b∈fp) (e:h.get? b=some o):(b,o)∈pinsAt fp h:=List.mem_filterMap.mpr ⟨b,hb,by rw[e]; rfl⟩
theorem of_pinsAt {fp:List Addr}{h:Heap}{p:Addr×Obj} (hp:p∈pinsAt fp h):p.1∈fp∧h.get? p.1=some p.2:=by
 obtain⟨b,hb,e⟩:=List.mem_filterMap.mp hp
 cases q:h.get? b with
 | none=>rw[q] at e; cases e
 | some o =>
  rw[q] at e
  have e':(b,o)=p:=Option.some.inj e
  subst e'
  exact⟨hb,q⟩
theorem Inv.pinned {pins:List (Addr×Obj)}{σ:St}{H:Hp}{s:Shared}{fp:List Addr} (I:Inv X pins σ H s) (hf:∀b∈fp,FpOk X pins H b) (ho:∀b∈fp,∃o,s.heap.get? b=some o∧∀v,o.data≠.cell v):Inv X (pins++pinsAt fp s.heap) σ H s :=
 I.pins_of fun p hp=>(List.mem_append.mp hp).elim (fun z=>I.pin p (List.mem_append_right _ z)) fun z=>by
  obtain⟨hb,e⟩:=of_pinsAt z
  obtain⟨f0,f1,f2,_⟩:=hf p.1 hb
  obtain⟨o,e',d⟩:=ho p.1 hb
  rw[e] at e'; cases e'
  exact⟨e,f0,f1,f2,d⟩
theorem Inv.unpinned {pins pl:List (Addr×Obj)}{σ:St}{H:Hp}{s:Shared} (I:Inv X (pins++pl) σ H s):Inv X pins σ H s:=I.pins_of fun p hp=>I.pin p (List.mem_append_right _ (List.mem_append_left _ hp))
theorem ps_for {iter:Expr}{body:List Stmt}{wi:TI}{g:TG}{tb:TS}{pos:Pos} (hp:PassesOwn (model X.prog X.w) X.A X.env X.xe) (hc:X.calm=true) (hi:PI X tg iter wi) (hg:PG X tg g) (hb:PSs X body tb)
  (hs:∀x,foldedSetIterable iter X.env x=pure x:=by intro _; rfl):PS X (.For tg iter body [] pos) (tFor wi g tb):=by
 intro pins s σ H D I h
 refine wpAny_For (thn (hi pins s σ H _ I h) fun v s1 h1=>thn h1 fun itv s2 h2=>?_) hs
 obtain⟨it,fp,tn,J,H2,e,I2,T,st2,f2,W,⟨m0,w0⟩,turn⟩:=h2
 subst e
 have stat:∀{H':Hp},(∀b∈fp,H' b=none)→∀b∈fp,FpOk X pins H' b:=fun hn b hb=>⟨hn b hb,(f2 b hb).2⟩
 refine codeAny_forLoop_any (fun n s'=>∃i σ' H',Inv X pins σ' H' s'∧tn i s'.heap∧(∀b∈fp,H' b=none)∧W i n σ' H') ?_ m0 ⟨0,σ,H2,I2,st2,fun b hb=>(f2 b hb).1,w0⟩
 rintro n s3 ⟨i,σ3,H3,I3,st3,fr3,w3⟩
 rcases turn i n σ3 H3 w3 with ⟨stop,qn⟩ | ⟨go,N,hN,step⟩
 ·refine wpAny_passesOwn hp (thn (T.done X rfl rfl rfl hc i pins s3 σ3 H3 X.xe I3 (stat fr3) st3 stop) fun r s4 ⟨hr,I4⟩=>?_)
  subst hr
  exact wpAny_execs_nil ⟨σ3,H3,I4,qn⟩
 ·refine wpAny_passesOwn hp (thn (T.item X rfl rfl rfl hc i pins s3 σ3 H3 X.xe I3 (stat fr3) st3 go) fun r s4 ⟨u,hr,h4⟩=>?_)
  subst hr
  refine wpAny_passesOwn hp (thn h4 fun _ s5 ⟨x,H5,I5,r5,y5,st5,fr5⟩=>?_)
  have I5':=I5.pinned (stat fr5) (T.obj _ _ st5)
  refine wpAny_passesOwn hp (thn (hg _ s5 σ3 H5 x u _ I5' r5 (step x H5 y5)) fun _ s6 ⟨σ6,H6,I6,q6⟩=>?_)
  refine wpAny_passesOwn hp (thn (hb _ s6 σ6 H6 _ I6 q6) fun f s7 q7=>?_)
  have again:∀{σ7:St}{H7:Hp},Inv X (pins++pinsAt fp s5.heap) σ7 H7 s7→N σ7 H7→∃m,m < n∧∃i σ' H',Inv X pins σ' H' s7∧tn i s7.heap∧(∀b∈fp,H' b=none)∧W i m σ' H':=fun {σ7 H7} I7 n7=>by
   obtain⟨m',hm,w7⟩:=hN σ7 H7 n7
   refine⟨m',hm,i+1,σ7,H7,I7.unpinned,T.keep _ _ _ st5 fun b hb o e=>(I7.pin (b,o) (List.mem_append_right _ (List.mem_append_right _ (mem_pinsAt hb e)))).1,fun b hb=>?_,w7⟩
   obtain⟨o,e,d⟩:=T.obj _ _ st5 b hb
   exact (I7.pin (b,o) (List.mem_append_right _ (List.mem_append_right _ (mem_pinsAt hb e)))).2.1
  cases f with
  | next=>obtain⟨σ7,H7,I7,n7⟩:=q7; exact again I7 n7
  | cont=>obtain⟨σ7,H7,I7,n7⟩:=q7; exact again I7 n7
  | brk=>obtain⟨σ7,H7,I7,q7⟩:=q7; exact⟨σ7,H7,I7.unpinned,q7⟩
  | ret v=>obtain⟨x7,σ7,H7,I7,r7,q7⟩:=q7; exact⟨x7,σ7,H7,I7.unpinned,r7,q7⟩
end
theorem for_tup {K:PySem.W.Frag}{a:Addr}{xs:List V}{g:TG}{tb:TS}{D:Ends}{σ:St}{H:Hp} (Pv:Nat→St→Hp→Prop) (h0:Pv 0 σ H) (hl:∀i σ H,i≤xs.length→Pv i σ H→SqT K H a xs)
  (hs:∀i x σ H,xs[i]?=some x→Pv i σ H→g x σ H fun σ2 H2=>tb { D with nx:=Pv (i+1),ct:=Pv (i+1),bk:=D.nx } σ2 H2) (hd:∀σ H,Pv xs.length σ H→D.nx σ H) :
  ∃W:Nat→Nat→St→Hp→Prop,(∃m,W 0 m σ H)∧∀i m σ H,W i m σ H →
   ((Itt K a).stop i H∧D.nx σ H)∨((Itt K a).go i H∧∃N:St→Hp→Prop,(∀σ' H',N σ' H'→∃m',m' < m∧W (i+1) m' σ' H')∧∀x H',(Itt K a).yld i H x H'→g x σ H' fun σ2 H2=>tb { D with nx:=N,ct:=N,bk:=D.nx } σ2 H2):=by
 refine⟨fun i m σ H=>m=xs.length - i∧i≤xs.length∧Pv i σ H,⟨xs.length,by simp,Nat.zero_le _,h0⟩,?_⟩
 rintro i m σ H ⟨rfl,hi,p⟩
 have q:=hl i σ H hi p
 by_cases hlt:i < xs.length
 ·refine .inr ⟨⟨xs,xs[i],q,by simp [hlt]⟩,Pv (i+1),fun σ' H' p'=>⟨xs.length - (i+1),by omega,rfl,hlt,p'⟩,fun x H' y=>?_⟩
  obtain⟨e,y⟩:=y
  subst e
  exact hs i x σ _ (y xs q) p
 ·have e:i=xs.length:=by omega
  subst e
  exact .inl ⟨⟨xs,q,Nat.le_refl _⟩,hd σ H p⟩
theorem for_range {lo:Int}{n:Nat}{g:TG}{tb:TS}{D:Ends}{σ:St}{H:Hp} (Pv:Nat→St→Hp→Prop) (h0:Pv 0 σ H)
  (hs:∀i σ H,i < n→Pv i σ H→g (.int (lo+i)) σ H fun σ2 H2=>tb { D with nx:=Pv (i+1),ct:=Pv (i+1),bk:=D.nx } σ2 H2) (hd:∀σ H,Pv n σ H→D.nx σ H) :
  ∃W:Nat→Nat→St→Hp→Prop,(∃m,W 0 m σ H)∧∀i m σ H,W i m σ H →
   ((Itr lo n).stop i H∧D.nx σ H)∨((Itr lo n).go i H∧∃N:St→Hp→Prop,(∀σ' H',N σ' H'→∃m',m' < m∧W (i+1) m' σ' H')∧∀x H',(Itr lo n).yld i H x H'→g x σ H' fun σ2 H2=>tb { D with nx:=N,ct:=N,bk:=D.nx } σ2 H2):=by
 refine⟨fun i m σ H=>m=n - i∧i≤n∧Pv i σ H,⟨n,by simp,Nat.zero_le _,h0⟩,?_⟩
 rintro i m σ H ⟨rfl,hi,p⟩
 by_cases hlt:i < n
 ·refine .inr ⟨hlt,Pv (i+1),fun σ' H' p'=>⟨n - (i+1),by omega,rfl,hlt,p'⟩,fun x H' y=>?_⟩
  obtain⟨e,y⟩:=y
  subst e y
  exact hs i σ _ hlt p
 ·have e:i=n:=by omega
  subst e
  exact .inl ⟨Nat.le_refl _,hd σ H p⟩
end L2
namespace L2
open PySem PySem.Spec PyProof.Rows
abbrev R2:=V→V→Hp→VK→Prop
def OpR (X:Cx) (f:Value→Value→Sem Value) (r:R2):Prop :=
 ∀(pins:List (Addr×Obj)) (s:Shared) (σ:St) (H:Hp) (x y:V) (v u:Value) (Q:VK),Inv X pins σ H s→RelV x v→RelV y u→r x y H Q →
  wpAny (model X.prog X.w) X.A (f v u) (EP X pins σ Q) X.xe s
def UnR (X:Cx) (f:Value→Sem Value) (r:V→Hp→VK→Prop):Prop :=
 ∀(pins:List (Addr×Obj)) (s:Shared) (σ:St) (H:Hp) (x:V) (v:Value) (Q:VK),Inv X pins σ H s→RelV x v→r x H Q →
  wpAny (model X.prog X.w) X.A (f v) (EP X pins σ Q) X.xe s
def CallR (X:Cx) (f:Value) (r:List V→Hp→VK→Prop):Prop :=
 ∀(pins:List (Addr×Obj)) (s:Shared) (σ:St) (H:Hp) (xs:List V) (us:List Value) (Q:VK),Inv X pins σ H s→Vals xs us→r xs H Q →
  wpAny (model X.prog X.w) X.A (call f us) (EP X pins σ Q) X.xe s
def TruR (X:Cx) (r:V→Hp→(Bool→Hp→Prop)→Prop):Prop :=
 ∀(pins:List (Addr×Obj)) (s:Shared) (σ:St) (H:Hp) (x:V) (v:Value) (Q:Bool→Hp→Prop),Inv X pins σ H s→RelV x v→r x H Q →
  wpAny (model X.prog X.w) X.A (truthy v) (TP X pins σ Q) X.xe s
def tOp (r:R2) (ta tb:TE):TE:=fun σ H Q=>ta σ H fun x H1=>tb σ H1 fun y H2=>r x y H2 Q
def tUn (r:V→Hp→VK→Prop) (ta:TE):TE:=fun σ H Q=>ta σ H fun x H1=>r x H1 Q
def rI (C:Int→Int→Prop) (g:Int→Int→V):R2:=fun x y H Q=>∃i j,x=.int i∧y=.int j∧C i j∧Q (g i j) H
def rI0 (g:Int→Int→V):R2:=fun x y H Q=>∃i j,x=.int i∧y=.int j∧Q (g i j) H
def rU (g:Int→V):V→Hp→VK→Prop:=fun x H Q=>∃i,x=.int i∧Q (g i) H
section
variable {X:Cx}{a b c:Expr}{ta tb tc:TE}{pos:Pos}
theorem binT (ha:PE X a ta) (hb:PE X b tb) {pins:List (Addr×Obj)}{s:Shared}{σ:St}{H:Hp}{R:V→V→Hp→Prop} (I:Inv X pins σ H s)
  (h:ta σ H fun x H1=>tb σ H1 fun y H2=>R x y H2) {Q:Value→Shared→Prop}{f:Value→Value→Sem Value}
  (hf:∀v u s2 x y H2,Inv X pins σ H2 s2→RelV x v→RelV y u→R x y H2→wpAny (model X.prog X.w) X.A (f v u) Q X.xe s2) :
  wpAny (model X.prog X.w) X.A (eval a X.env) (fun v s₁=>wpAny (model X.prog X.w) X.A (eval b X.env) (fun u s₂=>wpAny (model X.prog X.w) X.A (f v u) Q X.xe s₂) X.xe s₁) X.xe s:=by
 refine thn (ha pins s σ H _ I h) fun v s1 ⟨x,H1,I1,r1,q1⟩=>?_
 refine thn (hb pins s1 σ H1 _ I1 q1) fun u s2 ⟨y,H2,I2,r2,q2⟩=>?_
 exact hf v u s2 x y H2 I2 r1 r2 q2
theorem pe_op {op:Operator}{r:R2} (ho:OpR X (binaryOp op) r) (ha:PE X a ta) (hb:PE X b tb):PE X (.BinOp a op b pos) (tOp r ta tb):=by
 intro pins s σ H Q I h
 exact wpAny_BinOp (binT ha hb I h fun v u s2 x y H2 I2 rx ry q=>ho pins s2 σ H2 x y v u Q I2 rx ry q)
theorem pe_un {op:UnaryOp}{r:V→Hp→VK→Prop} (ho:UnR X (unaryOp op) r) (ha:PE X a ta):PE X (.UnaryOp op a pos) (tUn r ta):=by
 intro pins s σ H Q I h
 exact UnaryOp_ (thn (ha pins s σ H _ I h) fun v s1 ⟨x,H1,I1,r1,q1⟩=>ho pins s1 σ H1 x v Q I1 r1 q1)
theorem opI {f:Value→Value→Sem Value}{C:Int→Int→Prop}{g:Int→Int→Int}
  (rule:∀(i j:Int) (t u:Tok) (s:Shared) (Q:Value→Shared→Prop) (E:Value→Shared→Prop),C i j→Q (.int (g i j) s.toks) { s with toks:=s.toks+1 }→wpAny (model X.prog X.w) X.A (f (.int i t) (.int j u)) Q E s) :
  OpR X f (rI C fun i j=>.int (g i j)):=by
 intro pins s σ H x y v u Q I rx ry h
 obtain⟨i,j,rfl,rfl,hc,q⟩:=h
 obtain⟨t,rfl⟩:=rx
 obtain⟨t',rfl⟩:=ry
 exact rule i j t t' s _ _ hc ⟨.int (g i j),H,I.tok _,⟨_,rfl⟩,q⟩
theorem opI0 {f:Value→Value→Sem Value}{g:Int→Int→Int}
  (rule:∀(i j:Int) (t u:Tok) (s:Shared) (Q:Value→Shared→Prop) (E:Value→Shared→Prop),Q (.int (g i j) s.toks) { s with toks:=s.toks+1 }→wpAny (model X.prog X.w) X.A (f (.int i t) (.int j u)) Q E s) :
  OpR X f (rI0 fun i j=>.int (g i j)):=by
 intro pins s σ H x y v u Q I rx ry h
 obtain⟨i,j,rfl,rfl,q⟩:=h
 obtain⟨t,rfl⟩:=rx
 obtain⟨t',rfl⟩:=ry
 exact rule i j t t' s _ _ ⟨.int (g i j),H,I.tok _,⟨_,rfl⟩,q⟩
theorem opB0 {f:Value→Value→Sem Value}{g:Int→Int→Bool}
  (rule:∀(i j:Int) (t u:Tok) (s:Shared) (Q:Value→Shared→Prop) (E:Value→Shared→Prop),Q (.bool (g i j)) s→wpAny (model X.prog X.w) X.A (f (.int i t) (.int j u)) Q E s) :
  OpR X f (rI0 fun i j=>.bl (g i j)):=by
 intro pins s σ H x y v u Q I rx ry h
 obtain⟨i,j,rfl,rfl,q⟩:=h
 obtain⟨t,rfl⟩:=rx
 obtain⟨t',rfl⟩:=ry
 exact rule i j t t' s _ _ ⟨.bl (g i j),H,I,rfl,q⟩
def CDiv (i j:Int):Prop:=0 < j∧j < 1073741824
def CPow (i j:Int):Prop:=0≤j∧j≤1000000∧i.natAbs < 2 ^ 64
def CMul (i j:Int):Prop:=(-(2 ^ 64) < i∧i < 2 ^ 64)∨(-(2 ^ 64) < j∧j < 2 ^ 64)
theorem CMul.ok {i j:Int} (h:CMul i j):IntMulOk i j:=by
 rcases h with ⟨h1,h2⟩ | ⟨h1,h2⟩
 ·exact .of_left (intBits_le_64 h1 h2)
 ·exact .of_right (intBits_le_64 h1 h2)
theorem op_add:OpR X (binaryOp .Add) (rI0 fun i j=>.int (i+j)):=opI0 fun _ _ _ _ _ _ _ q=>add_int q
theorem op_sub:OpR X (binaryOp .Sub) (rI0 fun i j=>.int (i - j)):=opI0 fun _ _ _ _ _ _ _ q=>sub_int q
theorem op_mul:OpR X (binaryOp .Mult) (rI CMul fun i j=>.int (i * j)):=opI fun _ _ _ _ _ _ _ hc q=>mul_int q hc.ok
theorem op_fdiv:OpR X (binaryOp .FloorDiv) (rI CDiv fun i j=>.int (i / j)):=opI fun i j _ _ _ _ _ hc q=>by
 have h1:(0:Int) < j:=hc.1
 have h2:j < 1073741824:=hc.2
 exact floordiv_int (by omega) (by rw[Int.fdiv_eq_ediv_of_nonneg i (by omega)]; exact q) (.inl (PyProof.noPylong_small (by omega)))
theorem op_mod:OpR X (binaryOp .Mod) (rI (fun _ j=>0 < j) fun i j=>.int (i % j)):=opI fun i j _ _ _ _ _ hc q=>by
 have h1:(0:Int) < j:=hc
 exact mod_int' (by omega) (by rw[Int.fmod_eq_emod_of_nonneg i (by omega)]; exact q)
theorem op_pow:OpR X (binaryOp .Pow) (rI CPow fun i j=>.int (i ^ j.toNat)):=opI fun _ _ _ _ _ _ _ hc q=>pow_int_small hc.1 hc.2.1 hc.2.2 q
theorem unI {f:Value→Sem Value}{g:Int→Int}
  (rule:∀(i:Int) (t:Tok) (s:Shared) (Q:Value→Shared→Prop) (E:Value→Shared→Prop),Q (.int (g i) s.toks) { s with toks:=s.toks+1 }→wpAny (model X.prog X.w) X.A (f (.int i t)) Q E s) :
  UnR X f (rU fun i=>.int (g i)):=by
 intro pins s σ H x v Q I rx h
 obtain⟨i,rfl,q⟩:=h
 obtain⟨t,rfl⟩:=rx
 exact rule i t s _ _ ⟨.int (g i),H,I.tok _,⟨_,rfl⟩,q⟩
theorem un_neg:UnR X (unaryOp .USub) (rU fun i=>.int (-i)):=unI fun _ _ _ _ _ q=>neg_int q
end
def scal:V→V→Bool
 | .non,.non=>true | .non,.int _=>true | .int _,.non=>true | .non,.bl _=>true | .bl _,.non=>true | .non,.str _=>true | .str _,.non=>true
 | .int _,.int _=>true | .bl _,.bl _=>true | .str _,.str _=>true | .byt _,.byt _=>true
 | .int _,.str _=>true | .str _,.int _=>true | .bl _,.str _=>true | .str _,.bl _=>true
 | _,_=>false
def rEq:R2:=fun x y H Q=>scal x y=true∧Q (.bl (decide (x=y))) H
def rNe:R2:=fun x y H Q=>scal x y=true∧Q (.bl (!decide (x=y))) H
theorem dec_int {i j:Int}:decide (V.int i=V.int j)=(i == j):=by
 rw[Bool.eq_iff_iff]
 simp
theorem dec_bl {i j:Bool}:decide (V.bl i=V.bl j)=(i == j):=by
 rw[Bool.eq_iff_iff]
 simp
theorem dec_str {i j:Str}:decide (V.str i=V.str j)=(i == j):=by
 rw[Bool.eq_iff_iff]
 simp
theorem dec_byt {i j:Array UInt8}:decide (V.byt i=V.byt j)=(i.toList == j.toList):=by
 rw[Bool.eq_iff_iff]
 cases i
 cases j
 simp
section
variable {X:Cx}{a b c:Expr}{ta tb tc:TE}{pos:Pos}
theorem fin_bl {pins:List (Addr×Obj)}{σ:St}{H:Hp}{s:Shared}{Q:VK}{k k':Bool} (I:Inv X pins σ H s) (q:Q (.bl k) H) (e:k=k'):EP X pins σ Q (.bool k') s:=by
 subst e
 exact⟨.bl k,H,I,rfl,q⟩
theorem op_eq:OpR X (compareOp .Eq) rEq:=by
 intro pins s σ H x y v u Q I rx ry h
 obtain⟨hs,q⟩:=h
 cases x with
 | non =>
  cases rx
  cases y with
  | non=>cases ry; exact PySem.EqNone.eq_none_none (fin_bl I q (by simp))
  | bl j=>cases ry; exact PySem.EqNone.eq_none_bool (fin_bl I q (by simp))
  | int j=>obtain⟨t',rfl⟩:=ry; exact PySem.EqNone.eq_none_int (fin_bl I q (by simp))
  | str j=>obtain⟨t',rfl⟩:=ry; exact PySem.EqNone.eq_none_str (fin_bl I q (by simp))
  | _=>exact absurd (show false=true from hs) Bool.false_ne_true
 | bl i =>
  cases rx
  cases y with
  | non=>cases ry; exact PySem.EqNone.eq_bool_none (fin_bl I q (by simp))
  | bl j=>cases ry; exact eq_bool (fin_bl I q dec_bl)
  | str j=>obtain⟨t',rfl⟩:=ry; exact PySem.EqMixed.eq_bool_str (fin_bl I q (by simp))
  | _=>exact absurd (show false=true from hs) Bool.false_ne_true
 | int i =>
  obtain⟨t,rfl⟩:=rx
  cases y with
  | non=>cases ry; exact PySem.EqNone.eq_int_none (fin_bl I q (by simp))
  | int j=>obtain⟨t',rfl⟩:=ry; exact eq_int (fin_bl I q dec_int)
  | str j=>obtain⟨t',rfl⟩:=ry; exact PySem.EqMixed.eq_int_str (fin_bl I q (by simp))
  | _=>exact absurd (show false=true from hs) Bool.false_ne_true
 | str i =>
  obtain⟨t,rfl⟩:=rx
  cases y with
  | non=>cases ry; exact PySem.EqNone.eq_str_none (fin_bl I q (by simp))
  | bl j=>cases ry; exact PySem.EqMixed.eq_str_bool (fin_bl I q (by simp))
  | int j=>obtain⟨t',rfl⟩:=ry; exact PySem.EqMixed.eq_str_int (fin_bl I q (by simp))
  | str j=>obtain⟨t',rfl⟩:=ry; exact eq_str (fin_bl I q dec_str)
  | _=>exact absurd (show false=true from hs) Bool.false_ne_true
 | byt i =>
  obtain⟨t,rfl⟩:=rx
  cases y with
  | byt j=>obtain⟨t',rfl⟩:=ry; exact PySem.W.eq_bytes (fin_bl I q dec_byt)
  | _=>exact absurd (show false=true from hs) Bool.false_ne_true
 | _=>cases y <;> exact absurd (show false=true from hs) Bool.false_ne_true
theorem op_ne:OpR X (compareOp .NotEq) rNe:=by
 intro pins s σ H x y v u Q I rx ry h
 obtain⟨hs,q⟩:=h
 cases x with
 | non =>
  cases rx
  cases y with
  | non=>cases ry; exact PySem.EqNone.ne_none_none (fin_bl I q (by simp))
  | bl j=>cases ry; exact PySem.EqNone.ne_none_bool (fin_bl I q (by simp))
  | int j=>obtain⟨t',rfl⟩:=ry; exact PySem.EqNone.ne_none_int (fin_bl I q (by simp))
  | str j=>obtain⟨t',rfl⟩:=ry; exact PySem.EqNone.ne_none_str (fin_bl I q (by simp))
  | _=>exact absurd (show false=true from hs) Bool.false_ne_true
 | bl i =>
  cases rx
  cases y with
  | non=>cases ry; exact PySem.EqNone.ne_bool_none (fin_bl I q (by simp))
  | bl j=>cases ry; exact ne_bool (fin_bl I q (congrArg not dec_bl))
  | str j=>obtain⟨t',rfl⟩:=ry; exact PySem.EqMixed.ne_bool_str (fin_bl I q (by simp))
  | _=>exact absurd (show false=true from hs) Bool.false_ne_true
 | int i =>
  obtain⟨t,rfl⟩:=rx
  cases y with
  | non=>cases ry; exact PySem.EqNone.ne_int_none (fin_bl I q (by simp))
  | int j=>obtain⟨t',rfl⟩:=ry; exact ne_int (fin_bl I q (congrArg not dec_int))
  | str j=>obtain⟨t',rfl⟩:=ry; exact PySem.EqMixed.ne_int_str (fin_bl I q (by simp))
  | _=>exact absurd (show false=true from hs) Bool.false_ne_true
 | str i =>
  obtain⟨t,rfl⟩:=rx
  cases y with
  | non=>cases ry; exact PySem.EqNone.ne_str_none (fin_bl I q (by simp))
  | bl j=>cases ry; exact PySem.EqMixed.ne_str_bool (fin_bl I q (by simp))
  | int j=>obtain⟨t',rfl⟩:=ry; exact PySem.EqMixed.ne_str_int (fin_bl I q (by simp))
  | str j=>obtain⟨t',rfl⟩:=ry; exact ne_str (fin_bl I q (congrArg not dec_str))
  | _=>exact absurd (show false=true from hs) Bool.false_ne_true
 | byt i =>
  obtain⟨t,rfl⟩:=rx
  cases y with
  | byt j=>obtain⟨t',rfl⟩:=ry; exact PySem.W.ne_bytes (fin_bl I q (congrArg not dec_byt))
  | _=>exact absurd (show false=true from hs) Bool.false_ne_true
 | _=>cases y <;> exact absurd (show false=true from hs) Bool.false_ne_true
theorem op_lt:OpR X (compareOp .Lt) (rI0 fun i j=>.bl (decide (i < j))):=opB0 fun _ _ _ _ _ _ _ q=>lt_int q
theorem op_le:OpR X (compareOp .LtE) (rI0 fun i j=>.bl (decide (i≤j))):=opB0 fun _ _ _ _ _ _ _ q=>le_int q
theorem op_gt:OpR X (compareOp .Gt) (rI0 fun i j=>.bl (decide (j < i))):=opB0 fun _ _ _ _ _ _ _ q=>gt_int q
theorem op_ge:OpR X (compareOp .GtE) (rI0 fun i j=>.bl (decide (j≤i))):=opB0 fun _ _ _ _ _ _ _ q=>ge_int q
theorem op_isN:OpR X (compareOp .Is) (fun x y H Q=>y=.non∧Q (.bl (decide (x=.non))) H):=by
 intro pins s σ H x y v u Q I rx ry h
 obtain⟨rfl,q⟩:=h
 cases ry
 refine is_none_gen (fin_bl I q ?_)
 cases x <;> first
  | (cases rx; rfl)
  | (obtain⟨t,rfl⟩:=rx; rfl)
theorem nomark (b:Expr) {op:CmpOp} (h:op≠.In:=by decide) (h2:op≠.NotIn:=by decide):behindInMarks op b=false:=by
 have e1:(op == CmpOp.In)=false:=by cases op <;> first | rfl | exact absurd rfl h
 have e2:(op == CmpOp.NotIn)=false:=by cases op <;> first | rfl | exact absurd rfl h2
 cases b <;> simp [behindInMarks,e1,e2]
theorem pe_cmpR {op:CmpOp}{r:R2} (ho:OpR X (compareOp op) r) (ha:PE X a ta) (hb:PE X b tb) (hm:behindInMarks op b=false):PE X (.Compare a [op] [b] pos) (tOp r ta tb):=by
 intro pins s σ H Q I h
 exact wpAny_Compare1 (binT ha hb I h fun v u s2 x y H2 I2 rx ry q=>ho pins s2 σ H2 x y v u Q I2 rx ry q) hm
def tTest (t:TE):TT:=fun σ H Q=>t σ H fun x H'=>∃k,x=.bl k∧Q k H'
theorem pt_cmpR {op:CmpOp}{r:R2} (ho:OpR X (compareOp op) r) (ha:PE X a ta) (hb:PE X b tb) (hm:behindInMarks op b=false):PT X (.Compare a [op] [b] pos) (tTest (tOp r ta tb)):=by
 intro pins s σ H Q I h
 refine wpAny_isTrue_Compare1 (thn (ha pins s σ H _ I h) fun v s1 ⟨x,H1,I1,r1,q1⟩=>thn (hb pins s1 σ H1 _ I1 q1) fun u s2 ⟨y,H2,I2,r2,q2⟩ =>
  thn (ho pins s2 σ H2 x y v u _ I2 r1 r2 q2) fun c s3 ⟨z,H3,I3,r3,k,e,q3⟩=>?_) hm
 subst e
 cases r3
 exact wpAny_truthy_bool ⟨H3,I3,q3⟩
def tChain (r r':R2) (ta tb tc:TE):TE:=fun σ H Q=>ta σ H fun x H1=>tb σ H1 fun y H2=>r x y H2 fun z H3=>∃k,z=.bl k ∧
 (if k=true then tc σ H3 fun w' H4=>r' y w' H4 Q else Q (.bl false) H3)
theorem pt_chain {op op':CmpOp}{r r':R2} (ho:OpR X (compareOp op) r) (ho':OpR X (compareOp op') r') (ha:PE X a ta) (hb:PE X b tb) (hc:PE X c tc)
  (hm:lastMarks [op,op'] [b,c]=false:=by with_unfolding_all rfl):PT X (.Compare a [op,op'] [b,c] pos) (tTest (tChain r r' ta tb tc)):=by
 intro pins s σ H Q I h
 refine isTrue_chain (thn (ha pins s σ H _ I h) fun v s1 ⟨x,H1,I1,r1,q1⟩=>test_link (thn (hb pins s1 σ H1 _ I1 q1) fun u s2 ⟨y,H2,I2,r2,q2⟩ =>
  thn (ho pins s2 σ H2 x y v u _ I2 r1 r2 q2) fun d s3 ⟨z,H3,I3,r3,k,e,q3⟩=>?_)) hm
 subst e
 cases r3
 refine wpAny_truthy_bool ?_
 cases k with
 | false =>
  obtain⟨k',e',q'⟩:=q3
  cases e'
  exact ite_ff ⟨H3,I3,q'⟩
 | true =>
  refine ite_tt (test_last (thn (hc pins s3 σ H3 _ I3 q3) fun w' s4 ⟨z',H4,I4,r4,q4⟩=>thn (ho' pins s4 σ H4 y z' u w' _ I4 r2 r4 q4) fun d' s5 ⟨z2,H5,I5,r5,k2,e2,q5⟩=>?_))
  subst e2
  cases r5
  exact wpAny_truthy_bool ⟨H5,I5,q5⟩
def TruV (K:PySem.W.Frag) (x:V) (H:Hp) (k:Bool):Prop :=
 match x with
 | .non=>k=false
 | .bl b=>k=b
 | .int i=>k=(i != 0)
 | .str y=>y.length≤sizeLine∧k=((y.length:Int) != 0)
 | .byt y=>y.size≤sizeLine∧k=((y.size:Int) != 0)
 | .ref p=>(∃xs,SqL K H p xs∧k=!xs.isEmpty)∨(∃xs,SqT K H p xs∧k=!xs.isEmpty)∨∃kvs,H p=some (.dK kvs)∧k=!kvs.isEmpty
 | _=>False
theorem isEmpty_kv {κ : Type}{kvs:List (κ×V)}{vs:List (κ×Value)} (r:KV kvs vs):(!vs.isEmpty)=!kvs.isEmpty:=by
 cases r <;> rfl
theorem isEmpty_of {xs:List V}{its:List Value} (r:Vals xs its):(!its.toArray.isEmpty)=!xs.isEmpty:=by
 cases r <;> simp
theorem line63:(sizeLine:Nat) < 2 ^ 63:=by rw[sizeLine_eq]; decide
theorem tru_ok:TruR X (fun x H Q=>∃k,TruV X.K x H k∧Q k H):=by
 intro pins s σ H x v Q I rx h
 obtain⟨k,e,q⟩:=h
 have hl:=line63
 have hs:sizeLine=16777216:=sizeLine_eq
 cases x with
 | non =>
  cases rx
  have e':k=false:=e
  subst e'
  exact truthy_none ⟨H,I,q⟩
 | bl b =>
  cases rx
  have e':k=b:=e
  subst e'
  exact wpAny_truthy_bool ⟨H,I,q⟩
 | int i =>
  obtain⟨t,rfl⟩:=rx
  have e':k=(i != 0):=e
  subst e'
  exact PySem.P.truthy_int ⟨H,I,q⟩
 | str y =>
  obtain⟨t,rfl⟩:=rx
  obtain⟨hy,e'⟩ : y.length≤sizeLine∧k=((y.length:Int) != 0):=e
  subst e'
  exact PySem.P.truthy_str (by omega) ⟨H,I.tok _,q⟩
 | byt y =>
  obtain⟨t,rfl⟩:=rx
  obtain⟨hy,e'⟩ : y.size≤sizeLine∧k=((y.size:Int) != 0):=e
  subst e'
  exact PySem.W.truthy_bytes (by omega) ⟨H,I.tok _,q⟩
 | ref p =>
  cases rx
  have e':(∃xs,SqL X.K H p xs∧k=!xs.isEmpty)∨(∃xs,SqT X.K H p xs∧k=!xs.isEmpty)∨∃kvs,H p=some (.dK kvs)∧k=!kvs.isEmpty:=e
  rcases e' with ⟨xs,hx,e'⟩ | ⟨xs,hx,e'⟩ | ⟨kvs,hx,e'⟩
  ·subst e'
   obtain⟨its,r,pl,hz⟩:=I.list hx
   have hlen:=r.length
   exact wpAny_truthy_list pl.isList (by simp only[List.size_toArray]; omega) ⟨H,I.tok _,by rw[isEmpty_of r]; exact q⟩
  ·subst e'
   obtain⟨its,r,pl,hz⟩:=I.tuple hx
   have hlen:=r.length
   exact truthy_tuple pl (by simp only[List.size_toArray]; omega) ⟨H,I.tok _,by rw[isEmpty_of r]; exact q⟩
  ·subst e'
   obtain⟨hz,hS,vs,r,m⟩ : kvs.length≤sizeLine∧(p == sysModules)=false∧∃vs,KV kvs vs∧s.heap.DictOf (mixKind X.prog X.w) p vs:=I.hok p _ hx
   have hlen:kvs.length=vs.length:=Paired.length r
   exact wpAny_truthy_dict hS m (by omega) ⟨H,I.tok _,by rw[isEmpty_kv r]; exact q⟩
 | _=>exact (show False from e).elim
theorem pt_truth (ha:PE X a ta) (he:∀whole,isTrue a X.env whole=(do let v ← whole; standAt a.pos; holding [v] (truthy v))) :
  PT X a (fun σ H Q=>ta σ H fun x H'=>∃k,TruV X.K x H' k∧Q k H'):=by
 intro pins s σ H Q I h
 exact isTrue_plain (thn (ha pins s σ H _ I h) fun v s1 ⟨x,H1,I1,r1,q1⟩=>tru_ok pins s1 σ H1 x v Q I1 r1 q1) (he _)
theorem op_add_str:OpR X (binaryOp .Add) (fun x y H Q=>∃i j,x=.str i∧y=.str j∧i.length+j.length≤sizeLine∧Q (.str (i++j)) H):=by
 intro pins s σ H x y v u Q I rx ry h
 obtain⟨i,j,rfl,rfl,hz,q⟩:=h
 obtain⟨t,rfl⟩:=rx
 obtain⟨t',rfl⟩:=ry
 exact add_str (fun t' tk=>⟨.str (i++j),H,I.tok _,⟨_,rfl⟩,q⟩) hz
theorem vals1 {x:V}{us:List Value} (r:Vals [x] us):∃u,us=[u]∧RelV x u:=by
 cases r with
 | cons r1 r2=>cases r2; exact⟨_,rfl,r1⟩
theorem vals2 {x y:V}{us:List Value} (r:Vals [x,y] us):∃u w',us=[u,w']∧RelV x u∧RelV y w':=by
 cases r with
 | cons r1 r2 =>
  cases r2 with
  | cons r3 r4=>cases r4; exact⟨_,_,rfl,r1,r3⟩
theorem call_int1:CallR X (.type "int") (fun xs H Q=>(∃i,xs=[.int i]∧Q (.int i) H)∨∃k,xs=[.bl k]∧Q (.int (if k then 1 else 0)) H):=by
 intro pins s σ H xs us Q I r h
 rcases h with ⟨i,rfl,q⟩ | ⟨k,rfl,q⟩
 ·obtain⟨u,rfl,t,rfl⟩:=vals1 r
  exact call_int_int ⟨.int i,H,I,⟨_,rfl⟩,q⟩
 ·obtain⟨u,rfl,r1⟩:=vals1 r
  cases r1
  exact call_int_bool ⟨.int (if k then 1 else 0),H,I.tok _,⟨_,rfl⟩,q⟩
theorem call_str_int:CallR X (.type "str") (fun xs H Q=>∃i,xs=[.int i]∧i.natAbs.log2 < 1920∧Q (.str (toString i)) H):=by
 intro pins s σ H xs us Q I r h
 obtain⟨i,rfl,hz,q⟩:=h
 obtain⟨u,rfl,t,rfl⟩:=vals1 r
 exact PySem.P.str_of_int hz ⟨.str _,H,I.tok _,⟨_,rfl⟩,q⟩
end
end L2
namespace L2
open PySem PySem.Spec PyProof.Rows
structure ObjM (h:Heap) (x dx C:Addr) (mA:Str→Option Value):Prop where
 obj:h.get? x=some (PySem.W.instObj C dx)
 ns:h.Ns1 dx mA
 ne:dx≠x
theorem lookIn_ns {h:Heap}{dx:Addr}{mA:Str→Option Value} (n:h.Ns1 dx mA):∃od,h.get? dx=some od∧∀name,PySem.W.lookIn name od=some (mA name):=by
 obtain⟨o,es,ep,ho,hd,hk,_,hm⟩:=n
 refine⟨o,ho,fun name=>?_⟩
 have e:=hm name
 unfold nsFind findBy at e
 rw[← Array.find?_toList] at e
 unfold PySem.W.lookIn
 rw[hd]
 dsimp only
 split
 ·rename_i y q
  rw[q] at e
  exact congrArg some e
 ·rename_i q
  rw[q] at e
  have a:es.toList.any (·.refKey)=false:=by
   rw[List.any_eq_false]
   intro y hy
   obtain⟨z,t,hkey⟩:=hk y (Array.mem_toList_iff.mp hy)
   simp [DictEntry.refKey,hkey]
  have a':¬ es.toList.any (·.refKey)=true:=by rw[a]; exact Bool.false_ne_true
  rw[if_neg a']
  exact congrArg some e
theorem ObjM.look {h:Heap}{x dx C:Addr}{mA:Str→Option Value} (I:ObjM h x dx C mA):∃od,PySem.W.InstAt h x (PySem.W.instObj C dx) C (some od)∧∀name,PySem.W.lookIn name od=some (mA name) :=
 let ⟨od,ho,hl⟩:=lookIn_ns I.ns
 ⟨od,⟨I.obj,rfl,rfl,ho⟩,hl⟩
section
variable {prog:Program}{w:World}{A:Around}{E:Value→Shared→Prop}{s:Shared}{K:PySem.W.Frag}{x dx C f:Addr}{mA:Str→Option Value}{name:Str}{v:Value}
theorem get_map {expr:Bool}{Q:Value→Shared→Prop} (X:K.In s.heap) (I:ObjM s.heap x dx C mA) (hg:PySem.W.plainGet K C name=true) (hh:PySem.W.hasDictIn K C=true)
  (ha:PySem.W.findIn K (.ref C) name=some none) (hv:mA name=some v) (hv':PySem.W.handedIn v=true) (h:Q v { s with toks:=s.toks+1 }) :
  wpAny (model prog w) A (getAttr (.ref x) name expr) Q E s:=by
 obtain⟨od,J,hl⟩:=I.look
 exact PySem.W.get_value X J (PySem.W.plainGet_of hg).1 (PySem.W.findObj_own hh ha rfl (by rw[hl,hv])) hv' h
theorem get_meth {pl:Sem Bool}{Q:Value×List Value→Shared→Prop} (X:K.In s.heap) (I:ObjM s.heap x dx C mA) (hg:PySem.W.plainGet K C name=true)
  (hf:PySem.W.findIn K (.ref C) name=some (some (.ref f))) (ht:PySem.W.isFn K (.ref f)=true) (hv:mA name=none) (h:Q (.ref f,[.ref x]) s) :
  wpAny (model prog w) A (getMethod (.ref x) name pl) Q E s:=by
 obtain⟨od,J,hl⟩:=I.look
 exact PySem.W.method_fn X J (PySem.W.plainGet_of hg).1 (PySem.W.plainGet_of hg).2 hf (beq_iff_eq.mp ht) (by show (PySem.W.lookIn name od).map (·.isSome)=some false; rw[hl,hv]; rfl) h
theorem set_map {ns:List Str}{Q:Unit→Shared→Prop} (X:K.In s.heap) (I:ObjM s.heap x dx C mA)
  (hs:PySem.W.findIn K (.ref C) "__setattr__"=some (some (.builtin "object.__setattr__"))) (hp:PySem.W.plainOver K C=true) (ht:PySem.W.takerIn K C name=some none) (hh:PySem.W.hasDictIn K C=true)
  (hw:PySem.Within mA ns) (hsz:ns.length≤sizeLine)
  (h:∀h',ObjM h' x dx C (fun y=>if y=name then some v else mA y)→Heap.SameBut dx s.heap h'→Q () { s with heap:=h',toks:=s.toks+2 }) :
  wpAny (model prog w) A (setAttr (.ref x) name v) Q E s:=by
 obtain⟨od,J,hl⟩:=I.look
 refine PySem.W.set_plain X J hs (PySem.W.osa_open (s:={ s with toks:=s.toks+1 }) (r:=none) X J hp ht fun b=>?_)
 obtain⟨cd,hc,hd'⟩:=PySem.W.any_some hh
 have hx:s.heap.get? x=some ⟨.ref C,some dx,.plain,#[]⟩:=I.obj
 refine wpAny_bind (wpAny_pure (wpAny_bind (wpAny_bind (wpAny_loadPart hx (wpAny_bind (PySem.W.Looks.here (s:={ s with toks:=s.toks+1 }) (PySem.W.looks_clsIn X hc) ?_))))))
 rw[hd']
 refine wpAny_pure (a:=some dx) (wpAny_bind (wpAny_pure (wpAny_bind ?_)))
 refine wpAny_nsSet1 (s:={ s with toks:=s.toks+1 }) I.ns fun h' hn2 hs2=>?_
 obtain⟨oD,esD,epD,hoD,hdD,hcD⟩:=hn2.count (PySem.Within.cons name v hw)
 refine wpAny_bind (wpAny_lookBehind hoD (by rw[hdD]; exact pastItsLine_dict (Nat.le_trans hcD (by rw[List.length_cons]; omega))) ?_)
 exact wpAny_pure (h _ ⟨(hs2.2 _ (Ne.symm I.ne)).trans I.obj,hn2,I.ne⟩ hs2)
theorem make_map {R:Result→Shared→Prop}{vs:List Value}{kw:List (Str×Value)} (X:K.In s.heap) (hm:PySem.W.makesIn K C=true)
  (hi:PySem.W.findIn K (.ref C) "__init__"=some (some (.ref f))) (hf:PySem.W.typeIn K (.ref f)=some (.type "function"))
  (h:codeAny (model prog w) (A.under (.builtin "type.__call__" ⟨.ref C::vs,kw⟩)) (.call (.ref f) ⟨.ref (s.heap.objs.size+1)::vs,kw⟩) (PySem.W.InitBack (s.heap.objs.size+1) R)
   { s with heap:=(s.heap.push PySem.W.emptyDict).push (PySem.W.instObj C s.heap.objs.size) }) :
  codeAny (model prog w) A (.call (.ref C) ⟨vs,kw⟩) R s:=by
 obtain⟨hh,g,d,t,os⟩:=s
 exact PySem.W.make_core (PySem.W.makes_of X hm) (PySem.W.looks_findIn X hi) (fun self=>PySem.W.bind_fn X self hf) (.inl rfl) h
end
def putF (f:Str) (v:V):List (Str×V)→List (Str×V)
 | []=>[(f,v)]
 | (g,x)::r=>if g=f then (g,v)::r else (g,x)::putF f v r
theorem lookup_putF (f g:Str) (v:V):∀fs:List (Str×V),(putF f v fs).lookup g=if g=f then some v else fs.lookup g
 | []=>by
  show List.lookup g [(f,v)]=_
  by_cases h:g=f
  ·have hb:(g == f)=true:=beq_iff_eq.mpr h
   simp only[List.lookup,hb,if_pos h]
  ·have hb:(g == f)=false:=beq_eq_false_iff_ne.mpr h
   simp only[List.lookup,hb,if_neg h]
 | (k,x)::r=>by
  have ih:=lookup_putF f g v r
  rw[show putF f v ((k,x)::r)=(if k=f then (k,v)::r else (k,x)::putF f v r) from rfl]
  by_cases hk:k=f
  ·rw[if_pos hk]
   by_cases h:g=k
   ·have hb:(g == k)=true:=beq_iff_eq.mpr h
    simp only[List.lookup,hb,if_pos (h.trans hk)]
   ·have hb:(g == k)=false:=beq_eq_false_iff_ne.mpr h
    simp only[List.lookup,hb,if_neg (fun e:g=f=>h (e.trans hk.symm))]
  ·rw[if_neg hk]
   by_cases h:g=k
   ·have hb:(g == k)=true:=beq_iff_eq.mpr h
    simp only[List.lookup,hb,if_neg (fun e:g=f=>hk (h.symm.trans e))]
   ·have hb:(g == k)=false:=beq_eq_false_iff_ne.mpr h
    simp only[List.lookup,hb]
    exact ih
theorem keys_putF (f:Str) (v:V):∀fs:List (Str×V),f∈(putF f v fs).map (·.1)∧∀g,g∈fs.map (·.1)→g∈(putF f v fs).map (·.1)
 | []=>⟨by simp [putF],fun g h=>by simp at h⟩
 | (k,x)::r=>by
  obtain⟨i1,i2⟩:=keys_putF f v r
  rw[show putF f v ((k,x)::r)=(if k=f then (k,v)::r else (k,x)::putF f v r) from rfl]
  by_cases hk:k=f
  ·rw[if_pos hk]
   subst hk
   exact⟨by simp,fun g h=>by simpa using h⟩
  ·rw[if_neg hk]
   refine⟨?_,fun g h=>?_⟩
   ·rw[List.map_cons]
    exact List.mem_cons_of_mem _ i1
   ·rw[List.map_cons] at h ⊢
    rcases List.mem_cons.mp h with e | e
    ·exact List.mem_cons.mpr (.inl e)
    ·exact List.mem_cons_of_mem _ (i2 g e)
theorem length_putF (f:Str) (v:V):∀fs:List (Str×V),(putF f v fs).length≤fs.length+1
 | []=>by simp [putF]
 | (k,x)::r=>by
  have ih:=length_putF f v r
  rw[show putF f v ((k,x)::r)=(if k=f then (k,v)::r else (k,x)::putF f v r) from rfl]
  by_cases hk:k=f
  ·rw[if_pos hk,List.length_cons,List.length_cons]; omega
  ·rw[if_neg hk,List.length_cons,List.length_cons]; omega
theorem RelO.some_of {v:V}{o:Option Value} (r:RelO (some v) o):∃u,o=some u∧RelV v u:=by
 cases o with
 | none=>exact (show False from r).elim
 | some u=>exact⟨u,rfl,r⟩
theorem RelO.none_of {o:Option Value} (r:RelO none o):o=none:=by
 cases o with
 | none=>rfl
 | some u=>exact (show False from r).elim
theorem handed_of {v:V}{u:Value} (r:RelV v u):PySem.W.handedIn u=true:=by
 cases v with
 | non=>cases (show u=Value.none from r); rfl
 | bl b=>cases (show u=Value.bool b from r); rfl
 | int i=>obtain⟨t,e⟩:=(show ∃t,u=Value.int i t from r); cases e; rfl
 | str x=>obtain⟨t,e⟩:=(show ∃t,u=Value.str x t from r); cases e; rfl
 | byt b=>obtain⟨t,e⟩:=(show ∃t,u=Value.bytes b t from r); cases e; rfl
 | flt b=>obtain⟨t,e⟩:=(show ∃t,u=Value.float b t from r); cases e; rfl
 | ref a=>cases (show u=Value.ref a from r); rfl
 | ty n=>cases (show u=Value.type n from r); rfl
section
variable {P:Program}{w:World}{H H':Hp}{h h':Heap}{a C dx:Addr}{fs fs':List (Str×V)}
theorem ins_get (hok:HOk P w H h) (e:H a=some (.ins C dx fs)):∃mA,ObjM h a dx C mA∧(∀f,RelO (fs.lookup f) (mA f))∧PySem.Within mA (fs.map (·.1))∧fs.length≤1000∧H dx=some (.own a):=by
 obtain⟨d,z,ne,ob,mA,n,r,q⟩:=(show ObjOk P w H h a (.ins C dx fs) from hok a _ e)
 exact⟨mA,⟨ob,n,ne⟩,r,q,z,d⟩
end
structure Cls (K:PySem.W.Frag) (C:Addr):Prop where
 pg:PySem.W.plainGet K C Str.empty=true
 hd:PySem.W.hasDictIn K C=true
 po:PySem.W.plainOver K C=true
 sa:PySem.W.findIn K (.ref C) "__setattr__"=some (some (.builtin "object.__setattr__"))
theorem Cls.get {K:PySem.W.Frag}{C:Addr} (c:Cls K C) (f:Str):PySem.W.plainGet K C f=true:=c.pg
def NoAttr (K:PySem.W.Frag) (C:Addr) (f:Str):Prop:=PySem.W.findIn K (.ref C) f=some none
theorem NoAttr.taker {K:PySem.W.Frag}{C:Addr}{f:Str} (n:NoAttr K C f):PySem.W.takerIn K C f=some none:=by
 unfold PySem.W.takerIn
 rw[show PySem.W.findIn K (.ref C) f=some none from n]
 rfl
structure Con (K:PySem.W.Frag) (C:Addr) (f:Str) (v:V) (u:Value):Prop where
 at_:PySem.W.findIn K (.ref C) f=some (some u)
 rel:RelV v u
 get:PySem.W.specialIn K u "__get__"=some none
 cp:PySem.W.copiedNames.contains f=false
structure Meth (K:PySem.W.Frag) (C:Addr) (m:Str) (f:Addr):Prop where
 at_:PySem.W.findIn K (.ref C) m=some (some (.ref f))
 fn:PySem.W.isFn K (.ref f)=true
 kp:PySem.W.keepIn K (.ref f)=true
section
variable {X:Cx}{pins:List (Addr×Obj)}{σ:St}{H:Hp}{s:Shared}{a C dx:Addr}{fs:List (Str×V)}{f:Str}{v:V}{A:Around}{E:Value→Shared→Prop}
theorem getattr_ok {b:Bool}{Q:Value→Shared→Prop} (I:Inv X pins σ H s) (e:H a=some (.ins C dx fs)) (c:Cls X.K C) (n:NoAttr X.K C f) (l:fs.lookup f=some v)
  (h:∀u s',Inv X pins σ H s'→RelV v u→Q u s'):wpAny (model X.prog X.w) A (getAttr (.ref a) f b) Q E s:=by
 obtain⟨mA,O,r,_,_,_⟩:=ins_get I.hok e
 obtain⟨u,hu,ru⟩:=RelO.some_of (v:=v) (o:=mA f) (by rw[← l]; exact r f)
 exact get_map I.kIn O (c.get f) c.hd n hu (handed_of ru) (h u _ (I.tok _) ru)
theorem getmeth_ok {m:Str}{g:Addr}{pl:Sem Bool}{Q:Value×List Value→Shared→Prop} (I:Inv X pins σ H s) (e:H a=some (.ins C dx fs)) (c:Cls X.K C) (k:Meth X.K C m g) (l:fs.lookup m=none)
  (h:Q (.ref g,[.ref a]) s):wpAny (model X.prog X.w) A (getMethod (.ref a) m pl) Q E s:=by
 obtain⟨mA,O,r,_,_,_⟩:=ins_get I.hok e
 have hn:mA m=none:=RelO.none_of (by rw[← l]; exact r m)
 exact get_meth I.kIn O (c.get m) k.at_ k.fn hn h
theorem setattr_ok {y:V}{u:Value}{Q:Unit→Shared→Prop} (I:Inv X pins σ H s) (e:H a=some (.ins C dx fs)) (c:Cls X.K C) (n:NoAttr X.K C f) (hl:fs.length < 1000) (ry:RelV y u)
  (h:∀s',Inv X pins σ (upd H a (.ins C dx (putF f y fs))) s'→Q () s'):wpAny (model X.prog X.w) A (setAttr (.ref a) f u) Q E s:=by
 obtain⟨mA,O,r,wi,_,ho⟩:=ins_get I.hok e
 have hz:(fs.map (·.1)).length≤sizeLine:=by rw[List.length_map,sizeLine_eq]; omega
 refine set_map I.kIn O c.sa c.po n.taker c.hd wi hz fun h' O' sb=>h _ ?_
 have hd:∃o,h'.get? dx=some o:=let ⟨o,_,_,e',_⟩:=O'.ns; ⟨o,e'⟩
 refine I.write (x:=a) (e:=dx) (by rw[e]; exact True.intro) (.inr ho) (fun b q hb z=>(sb.2 b hb).trans z) hd ?_
 refine⟨by rw[upd_ne O.ne]; exact ho,?_,O.ne,O'.obj,_,O'.ns,fun g=>?_,fun g hg=>?_⟩
 ·have:=length_putF f y fs; omega
 ·show RelO ((putF f y fs).lookup g) (if g=f then some u else mA g)
  rw[lookup_putF]
  by_cases q:g=f
  ·rw[if_pos q,if_pos q]; exact ry
  ·rw[if_neg q,if_neg q]; exact r g
 ·by_cases q:g=f
  ·rw[q]; exact (keys_putF f y fs).1
  ·refine (keys_putF f y fs).2 g (wi g fun z=>hg ?_)
   show (if g=f then some u else mA g)=none
   rw[if_neg q]; exact z
theorem Inv.made (I:Inv X pins σ H s):Inv X pins σ (upd (upd H s.heap.objs.size (.own (s.heap.objs.size+1))) (s.heap.objs.size+1) (.ins C s.heap.objs.size []))
  { s with heap:=(s.heap.push PySem.W.emptyDict).push (PySem.W.instObj C s.heap.objs.size) }:=by
 have e1:(s.heap.push PySem.W.emptyDict).get? s.heap.objs.size=some PySem.W.emptyDict:=Heap.get?_push_size s.heap rfl
 have e2:((s.heap.push PySem.W.emptyDict).push (PySem.W.instObj C s.heap.objs.size)).get? (s.heap.objs.size+1)=some (PySem.W.instObj C s.heap.objs.size):=by
  have:=Heap.get?_push_size (s.heap.push PySem.W.emptyDict) (o:=PySem.W.instObj C s.heap.objs.size) rfl
  rwa [Heap.size_push] at this
 have e3:(s.heap.push PySem.W.emptyDict).Ns s.heap.objs.size (fun _=>none):=⟨PySem.W.emptyDict,#[],_,e1,rfl,(fun e he=>absurd he (by simp)),fun _=>rfl⟩
 have I1:=I.laid (a:=s.heap.objs.size) (o:=.own (s.heap.objs.size+1)) (h':=s.heap.push PySem.W.emptyDict) (t':=s.toks) (fun b u q=>Heap.get?_push_of_some _ q) (Nat.le_refl _) ⟨_,e1⟩
 refine I1.laid (a:=s.heap.objs.size+1) (o:=.ins C s.heap.objs.size []) (t':=s.toks) (fun b u q=>Heap.get?_push_of_some _ q) (Nat.le_of_eq (Heap.size_push _ _)) ?_
 have ne:s.heap.objs.size≠s.heap.objs.size+1:=Nat.ne_of_lt (Nat.lt_succ_self _)
 refine⟨by rw[upd_ne ne,upd_same],Nat.zero_le _,ne,e2,fun _=>none,(Heap.Ns1.of_empty e3).at fun o q=>Heap.get?_push_of_some _ q,fun _=>True.intro,fun y hy=>absurd rfl hy⟩
theorem attr_of {prog:Program}{w:World}{env:Env}{e:Expr}{f:Str}{pos:Pos}{s:Shared}{Q:Value→Shared→Prop} (hb:attributeBase e f env (eval e env)=eval e env)
  (h:wpAny (model prog w) A (eval e env) (fun o s₁=>wpAny (model prog w) A (getAttr o f true) Q E s₁) E s):wpAny (model prog w) A (eval (.Attribute e f pos) env) Q E s :=
 Attribute_any_ h (by rw[arm_eval_Attribute,hb])
end
def tFld (K:PySem.W.Frag) (ta:TE) (f:Str):TE:=fun σ H Q=>ta σ H fun x H1=>∃a C dx fs v,x=.ref a∧H1 a=some (.ins C dx fs)∧Cls K C∧NoAttr K C f∧fs.lookup f=some v∧Q v H1
def sFld (K:PySem.W.Frag) (ta tv:TE) (f:Str):TS:=fun D σ H=>tv σ H fun y H1=>ta σ H1 fun x H2=>∃a C dx fs,x=.ref a∧H2 a=some (.ins C dx fs)∧Cls K C∧NoAttr K C f∧fs.length < 1000 ∧
 D.nx σ (upd H2 a (.ins C dx (putF f y fs)))
section
variable {X:Cx}{o e value:Expr}{f:Str}{pos pos' tpos:Pos}{ta tv:TE}
theorem pe_fld (he:PE X e ta) (hb:attributeBase e f X.env (eval e X.env)=eval e X.env):PE X (.Attribute e f pos) (tFld X.K ta f):=by
 intro pins s σ H Q I h
 refine attr_of hb (thn (he pins s σ H _ I h) fun u s1 ⟨x,H1,I1,rx,a,C,dx,fs,v,ex,ea,c,n,l,q⟩=>?_)
 subst ex
 obtain rfl:u=Value.ref a:=rx
 exact getattr_ok I1 ea c n l fun u' s2 I2 ru=>⟨v,H1,I2,ru,q⟩
theorem ps_fld (ha:PE X o ta) (hv:PE X value tv) (hs:swapsWith value (some (.Attribute o f pos')) pos.line X.env=pure false):PS X (.Assign [.Attribute o f pos'] value pos) (sFld X.K ta tv f):=by
 intro pins s σ H D I h
 refine plainObj_wpAny_Assign_Attribute (thn (hv pins s σ H _ I h) fun u s1 ⟨y,H1,I1,ry,q⟩=>thn (ha pins s1 σ H1 _ I1 q) fun ov s2 ⟨x,H2,I2,rx,a,C,dx,fs,ex,ea,c,n,l,q2⟩=>?_) hs
 subst ex
 obtain rfl:ov=Value.ref a:=rx
 exact setattr_ok I2 ea c n l ry fun s3 I3=>⟨σ,_,I3,q2⟩
end
section
variable {X:Cx}{pins:List (Addr×Obj)}{σ:St}{H:Hp}{s:Shared}{A:Around}{E:Value→Shared→Prop}{Q:Value→Shared→Prop}{c:Value}{b:Bool}
inductive TyOf (K:PySem.W.Frag) (H:Hp):V→Value→Prop where
 | non:TyOf K H .non (.type "NoneType")
 | bl (x:Bool):TyOf K H (.bl x) (.type "bool")
 | int (i:Int):TyOf K H (.int i) (.type "int")
 | str (x:Str):TyOf K H (.str x) (.type "str")
 | flt (x:UInt64):TyOf K H (.flt x) (.type "float")
 | lst {a:Addr}{xs:List V} (e:H a=some (.lst xs)):TyOf K H (.ref a) (.type "list")
 | frz {a:Addr}{o:Obj}{xs:List V} (e:H a=some (.frz o (.lst xs))):TyOf K H (.ref a) (.type "list")
 | tup {a:Addr}{xs:List V} (e:H a=some (.tup xs)):TyOf K H (.ref a) (.type "tuple")
 | dK {a:Addr}{kvs:List (Key×V)} (e:H a=some (.dK kvs)):TyOf K H (.ref a) (.type "dict")
 | dT {a:Addr}{kvs:List (List Key×V)} (e:H a=some (.dT kvs)):TyOf K H (.ref a) (.type "dict")
 | ins {a C dx:Addr}{fs:List (Str×V)} (e:H a=some (.ins C dx fs)) (cl:Cls K C) (ha:PySem.W.findIn K (.ref C) "__class__"=some (some (.builtin "object.__class__")))
   (hn:PySem.W.specialIn K (.builtin "object.__class__") "__get__"=some (some (.builtin "getset_descriptor.__get__"))) (htk:PySem.W.takesIn K (.builtin "object.__class__")=some true)
   (hm:PySem.W.mroIn K C (.type "object")=some true):TyOf K H (.ref a) (.ref C)
theorem isinst_ok {x:V}{u t:Value} (I:Inv X pins σ H s) (rx:RelV x u) (ty:TyOf X.K H x t) (e:PySem.W.kitOne X.K t c=some b) (h:∀tk,Q (.bool b) { s with toks:=tk }) :
  wpAny (model X.prog X.w) A (call (.builtin "isinstance") [u,c]) Q E s:=by
 cases ty with
 | non=>cases (show u=Value.none from rx); exact PySem.W.kia_one PySem.W.kitx_none I.kIn True.intro e (fun z=>nomatch z) h
 | bl y=>cases (show u=Value.bool y from rx); exact PySem.W.kia_one PySem.W.kitx_bool I.kIn True.intro e (fun z=>nomatch z) h
 | int i=>obtain⟨t,q⟩:=(show ∃t,u=Value.int i t from rx); cases q; exact PySem.W.kia_one PySem.W.kitx_int I.kIn True.intro e (fun z=>nomatch z) h
 | str y=>obtain⟨t,q⟩:=(show ∃t,u=Value.str y t from rx); cases q; exact PySem.W.kia_one PySem.W.kitx_str I.kIn True.intro e (fun z=>nomatch z) h
 | flt y=>obtain⟨t,q⟩:=(show ∃t,u=Value.float y t from rx); cases q; exact PySem.W.kia_one PySem.W.kitx_float I.kIn True.intro e (fun z=>nomatch z) h
 | @lst a xs ea =>
  cases (show u=Value.ref a from rx)
  obtain⟨_,_,n,_,h1⟩:=(show ObjOk X.prog X.w H s.heap a (.lst xs) from I.hok a _ ea)
  exact PySem.W.kia_one PySem.W.kitx_list I.kIn ⟨_,h1,rfl⟩ e (fun z=>nomatch z) h
 | @frz a ob xs ea =>
  cases (show u=Value.ref a from rx)
  obtain⟨_,_,_,n,_,h1⟩:=(show ObjOk X.prog X.w H s.heap a (.frz ob (.lst xs)) from I.hok a _ ea)
  exact PySem.W.kia_one PySem.W.kitx_list I.kIn ⟨_,h1,rfl⟩ e (fun z=>nomatch z) h
 | @tup a xs ea =>
  cases (show u=Value.ref a from rx)
  obtain⟨_,_,_,p⟩:=(show ObjOk X.prog X.w H s.heap a (.tup xs) from I.hok a _ ea)
  obtain⟨o,h1,h2,_⟩:=p
  exact PySem.W.kia_one PySem.W.kitx_tuple I.kIn ⟨o,h1,h2⟩ e (fun z=>nomatch z) h
 | @dK a kvs ea =>
  cases (show u=Value.ref a from rx)
  obtain⟨_,_,vs,_,p⟩:=(show ObjOk X.prog X.w H s.heap a (.dK kvs) from I.hok a _ ea)
  obtain⟨o,es,ep,h1,h2,_⟩:=p
  exact PySem.W.kia_one PySem.W.kitx_dict I.kIn ⟨o,h1,h2.1⟩ e (fun z=>nomatch z) h
 | @dT a kvs ea =>
  cases (show u=Value.ref a from rx)
  obtain⟨_,_,xs,_,o,es,ep,h1,h2,_⟩:=(show ObjOk X.prog X.w H s.heap a (.dT kvs) from I.hok a _ ea)
  exact PySem.W.kia_one PySem.W.kitx_dict I.kIn ⟨o,h1,h2.1⟩ e (fun z=>nomatch z) h
 | @ins a C dx fs ea cl ha hn htk hm =>
  cases (show u=Value.ref a from rx)
  obtain⟨mA,O,_⟩:=ins_get I.hok ea
  obtain⟨od,J,_⟩:=O.look
  exact PySem.W.kia_one (PySem.W.kitx_own (cl.get _) cl.hd ha hn htk hm) I.kIn J e (fun z=>nomatch z) h
end
end L2
namespace L2
open PySem PySem.Spec PyProof.Rows
structure Room (k:Nat) (A:Around):Prop where
 hd:A.handled=none
 dp:A.depth+3 * k+5 < recursionLimit
 un:A.units+16 * k+200 < cLine
theorem Room.mono {j k:Nat}{A:Around} (r:Room k A) (h:j≤k):Room j A:=⟨r.hd,by have:=r.dp; omega,by have:=r.un; omega⟩
theorem Room.deeper {k:Nat}{A:Around} (r:Room (k+1) A) (env:Env):Room k (A.deeper env) :=
 ⟨r.hd,by have:=r.dp; show A.depth+1+3 * k+5 < _; omega,by have:=r.un; show A.units+3+16 * k+200 < _; omega⟩
theorem make_depth {A:Around}{C:Addr}{us:List Value}{kw:List (Str×Value)}:(A.under (.builtin "type.__call__" ⟨.ref C::us,kw⟩)).depth=A.depth+1:=by
 first | rfl | simp [Around.under,Code.weight,Code.isCreation,Code.isGuard,Code.isCaller,Code.frames,Code.isFrame,guardIds]
theorem make_units {A:Around}{C:Addr}{us:List Value}{kw:List (Str×Value)}:(A.under (.builtin "type.__call__" ⟨.ref C::us,kw⟩)).units=A.units+1:=by
 first | rfl | simp [Around.under,Code.cUnits,Code.frames,Code.isFrame]
theorem Room.make {k:Nat}{A:Around} (r:Room (k+1) A) (C:Addr) (us:List Value) (kw:List (Str×Value)):Room k (A.under (.builtin "type.__call__" ⟨.ref C::us,kw⟩)) :=
 ⟨r.hd,by have:=r.dp; rw[make_depth]; omega,by have:=r.un; rw[make_units]; omega⟩
theorem Room.depth {k:Nat}{A:Around} (r:Room k A):A.depth < recursionLimit:=by have:=r.dp; omega
theorem Room.units {k:Nat}{A:Around} (r:Room k A):A.units+64 < cLine:=by have:=r.un; omega
def tNil:TA:=fun _ H Q=>Q [] H
def tCons (ta:TE) (tr:TA):TA:=fun σ H Q=>ta σ H fun x H1=>tr σ H1 fun xs H2=>Q (x::xs) H2
section
variable {X:Cx}{e:Expr}{es:List Expr}{te:TE}{t:TA}{pos:Pos}
theorem pa_nil:PA X [] tNil:=fun _ _ _ _ H Q I h=>Calls.spliced_nil ⟨[],H,I,.nil,h⟩
theorem pa_cons (ha:PE X e te) (hr:PA X es t) (hs:starEach (e::es) X.env=(false,eval e X.env)::starEach es X.env:=by rfl):PA X (e::es) (tCons te t):=by
 intro pos pins s σ H Q I h
 rw[hs]
 show wpAny _ _ (spliced ((false,eval e X.env)::backTo pos (starEach es X.env))) _ _ s
 refine Calls.spliced_cons (thn (ha pins s σ H _ I h) fun u s1 ⟨x,H1,I1,r1,q1⟩=>?_)
 exact thn (hr pos pins s1 σ H1 _ I1 q1) fun us s2 ⟨xs,H2,I2,r2,q2⟩=>⟨x::xs,H2,I2,.cons r1 r2,q2⟩
def tTup (t:TA):TE:=fun σ H Q=>t σ H fun xs H1=>xs.length≤sizeLine∧∀p,H1 p=none→Q (.ref p) (upd H1 p (.tup xs))
def tLst (t:TA):TE:=fun σ H Q=>t σ H fun xs H1=>xs.length≤sizeLine∧∀p,H1 p=none→Q (.ref p) (upd H1 p (.lst xs))
theorem pe_tup {x1} (h:PA X es t):PE X (.Tuple es x1 pos) (tTup t):=by
 intro pins s σ H Q I hq
 refine wpAny_Tuple_spliced (thn (h pos pins s σ H _ I hq) fun us s1 ⟨xs,H1,I1,r,z,q⟩=>⟨by rw[← r.length]; exact z,?_⟩)
 have hf:H1 s1.heap.objs.size=none:=I1.hok.fresh (Nat.le_refl _)
 refine⟨.ref s1.heap.objs.size,upd H1 s1.heap.objs.size (.tup xs),I1.laid (t':=s1.toks) (fun b u e=>Heap.get?_push_of_some _ e) (Nat.le_refl _) ?_,rfl,q _ hf⟩
 exact⟨z,us,r,⟨_,Heap.get?_push_size _ rfl,rfl,_,rfl⟩⟩
theorem pe_lst (h:PA X es t):PE X (.List es pos) (tLst t):=by
 intro pins s σ H Q I hq
 refine wpAny_List_spliced (thn (h pos pins s σ H _ I hq) fun us s1 ⟨xs,H1,I1,r,z,q⟩=>⟨by rw[← r.length]; exact z,?_⟩)
 have hf:H1 s1.heap.objs.size=none:=I1.hok.fresh (Nat.le_refl _)
 refine⟨.ref s1.heap.objs.size,upd H1 s1.heap.objs.size (.lst xs),I1.laid (t':=s1.toks) (fun b u e=>Heap.get?_push_of_some _ e) (Nat.le_refl _) ?_,rfl,q _ hf⟩
 exact⟨z,us,0,r,Heap.get?_push_size _ rfl⟩
end
abbrev Sp:=List V→Hp→VK→XK→Prop
abbrev CXT:=List Env→Hp→Shared→XK→Value→Shared→Prop
structure Env0 (P:Program) (w:World) (K:PySem.W.Frag) (mg:Str→Option Value) (base:Heap) (A:Around) (outer:List Env) (s:Shared) (H:Hp):Prop where
 frames:A.frames=some outer
 mod:Mod K mg base
 bs:∀b o,base.get? b=some o→s.heap.get? b=some o∧H b=none
 bsz:base.objs.size≤s.heap.objs.size
 funs:s.heap.FunFrames base outer
 frf:∀b∈frs outer,H b=none
 hok:HOk P w H s.heap
 bare:AllBare s.gens
def CE (outer:List Env) (P:Program) (w:World) (H:Hp) (s:Shared) (Q:VK) (u:Value) (s':Shared):Prop :=
 ∃v H',s'.os=s.os∧AllBare s'.gens∧Un (frs outer) [] H H' s.heap s'.heap∧HOk P w H' s'.heap∧RelV v u∧Q v H'
def CR (CX:CXT) (outer:List Env) (P:Program) (w:World) (H:Hp) (s:Shared) (Q:VK) (E:XK) (r:Result) (s':Shared):Prop :=
 match r with
 | .ok (.ret u)=>CE outer P w H s Q u s'
 | .ok _=>False
 | .error e=>CX outer H s E e s'
structure FnOk (P:Program) (w:World) (K:PySem.W.Frag) (mg:Str→Option Value) (base:Heap) (CX:CXT) (k:Nat) (f:Addr) (fd:FuncData) (ps:List Str) (sp:Sp):Prop where
 len:∀vs H Q E,sp vs H Q E→vs.length=ps.length
 run:∀(A:Around) (outer:List Env) (s:Shared) (H:Hp) (args:Args) (us:List Value) (vs:List V) (Q:VK) (E:XK),Room k A→Env0 P w K mg base A outer s H→BindsTo s fd args (ps.zip us)→Vals vs us→sp vs H Q E →
  codeAny (model P w) A (.call (.ref f) args) (CR CX outer P w H s Q E) s
theorem FnOk.mono {P:Program}{w:World}{K:PySem.W.Frag}{mg:Str→Option Value}{base:Heap}{CX:CXT}{j k:Nat}{f:Addr}{fd:FuncData}{ps:List Str}{sp:Sp} (F:FnOk P w K mg base CX j f fd ps sp) (h:j≤k) :
  FnOk P w K mg base CX k f fd ps sp:=⟨F.len,fun A outer s H args us vs Q E hr=>F.run A outer s H args us vs Q E (hr.mono h)⟩
theorem Env0.make {P:Program}{w:World}{K:PySem.W.Frag}{mg:Str→Option Value}{base:Heap}{A:Around}{outer:List Env}{s:Shared}{H:Hp} (e:Env0 P w K mg base A outer s H) (C:Addr) (us:List Value) (kw:List (Str×Value)) :
  Env0 P w K mg base (A.under (.builtin "type.__call__" ⟨.ref C::us,kw⟩)) outer s H:=⟨by first | exact e.frames | (simpa [Around.under,Code.envs,Code.isFrame,pushEnvs] using e.frames),e.mod,e.bs,e.bsz,e.funs,e.frf,e.hok,e.bare⟩
section
variable {X:Cx}{pins:List (Addr×Obj)}{σ:St}{H:Hp}{s s':Shared}
theorem Inv.env0 (I:Inv X pins σ H s):Env0 X.prog X.w X.K X.mg X.base X.A X.stack s H :=
 ⟨I.ok.frames,I.ok.mod,I.bs,Nat.le_trans I.ok.bsz I.sz,I.stack,I.stkFree,I.hok,I.bare⟩
theorem Inv.after {Q:VK}{u:Value} (I:Inv X pins σ H s) (h:CE X.stack X.prog X.w H s Q u s'):EP X pins σ Q u s':=by
 obtain⟨v,H',os,bare,un,hok,r,q⟩:=h
 obtain⟨hh,g,d,t,os'⟩:=s'
 obtain rfl:os'=s.os:=os
 exact⟨v,H',I.call (h':=hh) (g':=g) (d':=d) (t':=t) (ch:=[]) un hok bare (fun b z=>absurd z (by simp)),r,q⟩
end
def tCall (sp:Sp) (dvs:List V) (E:XK) (t:TA):TE:=fun σ H Q=>t σ H fun vs H1=>sp (vs++dvs) H1 Q E
def tMake (C:Addr) (sp:Sp) (dvs:List V) (E:XK) (t:TA):TE:=fun σ H Q=>t σ H fun vs H1=>∀x dx,H1 x=none→H1 dx=none→dx≠x →
 sp (.ref x::(vs++dvs)) (upd (upd H1 dx (.own x)) x (.ins C dx [])) (fun v H2=>v=.non∧Q (.ref x) H2) E
def Binds (K:PySem.W.Frag) (fd:FuncData) (ps:List Str) (ds:List Value):Prop :=
 ∀(s:Shared) (us:List Value),K.In s.heap→(us++ds).length=ps.length→BindsTo s fd ⟨us,[]⟩ (ps.zip (us++ds))
theorem Binds.all {K:PySem.W.Frag}{fd:FuncData}{ps:List Str} (h:∀us:List Value,us.length=ps.length→bindArgs fd ⟨us,[]⟩=pure (ps.zip us)):Binds K fd ps []:=fun s us _ hl=>by
 rw[List.append_nil] at hl ⊢
 exact .of_eq (h us hl)
def Passes (CX:CXT) (X:Cx) (E:XK):Prop:=∀(pins:List (Addr×Obj)) (σ:St) (H:Hp) (s:Shared) (e:Value) (s':Shared),Inv X pins σ H s→CX X.stack H s E e s'→X.xe e s'
section
variable {X:Cx}{CX:CXT}{k:Nat}{f C:Addr}{fd:FuncData}{ps:List Str}{sp:Sp}{dvs:List V}{ds:List Value}{E:XK}{x m:Str}{p pos apos:Pos}{e o:Expr}{es:List Expr}{ta:TE}{t:TA}
theorem run_fn {pins:List (Addr×Obj)}{σ:St}{H:Hp}{s:Shared}{Q:VK}{us:List Value}{vs:List V} (F:FnOk X.prog X.w X.K X.mg X.base CX k f fd ps sp) (hr:Room k X.A) (hb:Binds X.K fd ps ds) (hd:Vals dvs ds) (hx:Passes CX X E)
  (I:Inv X pins σ H s) (r:Vals vs us) (h:sp (vs++dvs) H Q E):wpAny (model X.prog X.w) X.A (call (.ref f) us) (EP X pins σ Q) X.xe s:=by
 have r2:Vals (vs++dvs) (us++ds):=r.append hd
 have hl:(us++ds).length=ps.length:=by rw[← r2.length]; exact F.len _ _ _ _ h
 refine wpAny_call (codeAny_mono (F.run X.A X.stack s H ⟨us,[]⟩ (us++ds) (vs++dvs) Q E hr I.env0 (hb s us I.kIn hl) r2 h) fun r s' hq=>?_)
 cases r with
 | error e=>exact hx pins σ H s e s' I hq
 | ok fl =>
  cases fl with
  | ret u=>exact I.after hq
  | next=>exact False.elim hq
  | brk=>exact False.elim hq
  | cont=>exact False.elim hq
theorem pe_call (F:FnOk X.prog X.w X.K X.mg X.base CX k f fd ps sp) (hr:Room k X.A) (hg:Gl X x) (hm:X.mg x=some (.ref f)) (hk:PySem.W.keepIn X.K (.ref f)=true) (hb:Binds X.K fd ps ds) (hd:Vals dvs ds) (hx:Passes CX X E)
  (ha:PA X (e::es) t) (hdb:(x == ("__debug__" : Str))=false:=by decide) (he:starEach (e::es) X.env=(false,eval e X.env)::starEach es X.env:=by rfl) (hpl:(backTo pos (starEach es X.env)).any (·.1)=false:=by rfl) :
  PE X (.Call (.Name x p) (e::es) [] pos) (tCall sp dvs E t):=by
 intro pins s σ H Q I h
 refine wpAny_Call_Name_kw (ld_glob I hg hm ?_ hdb)
 refine PySem.W.callWith_K (h₀:=X.base) I.ok.mod.kin hk (thn (ha pos pins s σ H _ I h) fun us s1 ⟨vs,H1,I1,r,q⟩=>⟨I1.kIn,?_⟩) he hpl
 exact run_fn F hr hb hd hx I1 r q
structure Mk (K:PySem.W.Frag) (C f:Addr):Prop where
 makes:PySem.W.makesIn K C=true
 init:PySem.W.findIn K (.ref C) "__init__"=some (some (.ref f))
 fn:PySem.W.isFn K (.ref f)=true
 kp:PySem.W.keepIn K (.ref C)=true
theorem run_make {pins:List (Addr×Obj)}{σ:St}{H:Hp}{s:Shared}{Q:VK}{us:List Value}{vs:List V} (M:Mk X.K C f) (F:FnOk X.prog X.w X.K X.mg X.base CX k f fd ps sp) (hr:Room (k+1) X.A) (hb:Binds X.K fd ps ds) (hd:Vals dvs ds)
  (hx:Passes CX X E) (I:Inv X pins σ H s) (r:Vals vs us)
  (h:∀x dx,H x=none→H dx=none→dx≠x→sp (.ref x::(vs++dvs)) (upd (upd H dx (.own x)) x (.ins C dx [])) (fun v H2=>v=.non∧Q (.ref x) H2) E) :
  wpAny (model X.prog X.w) X.A (call (.ref C) us) (EP X pins σ Q) X.xe s:=by
 have hq:=h (s.heap.objs.size+1) s.heap.objs.size (I.hok.fresh (Nat.le_succ _)) (I.hok.fresh (Nat.le_refl _)) (Nat.ne_of_lt (Nat.lt_succ_self _))
 have I2:=Inv.made (C:=C) I
 have r2:Vals (V.ref (s.heap.objs.size+1)::(vs++dvs)) (Value.ref (s.heap.objs.size+1)::(us++ds)):=.cons rfl (r.append hd)
 have hl:(Value.ref (s.heap.objs.size+1)::us++ds).length=ps.length:=by
  have e:=r2.length
  rw[F.len _ _ _ _ hq] at e
  exact e.symm
 refine wpAny_call (make_map (f:=f) I.kIn M.makes M.init (beq_iff_eq.mp M.fn) (codeAny_mono (F.run _ X.stack _ _ ⟨Value.ref (s.heap.objs.size+1)::us,[]⟩ (Value.ref (s.heap.objs.size+1)::(us++ds)) _ _ E (hr.make C us [])
  (I2.env0.make C us []) (hb _ (Value.ref (s.heap.objs.size+1)::us) I2.kIn hl) r2 hq) fun r s' hq'=>?_))
 cases r with
 | error e=>exact hx pins σ _ _ e s' I2 hq'
 | ok fl =>
  cases fl with
  | ret u =>
   obtain⟨v,H',I3,rv,ev,q3⟩:=I2.after hq'
   subst ev
   exact⟨rv,⟨V.ref (s.heap.objs.size+1),H',I3,rfl,q3⟩⟩
  | next=>exact False.elim hq'
  | brk=>exact False.elim hq'
  | cont=>exact False.elim hq'
theorem pe_make0 (M:Mk X.K C f) (F:FnOk X.prog X.w X.K X.mg X.base CX k f fd ps sp) (hr:Room (k+1) X.A) (hg:Gl X x) (hm:X.mg x=some (.ref C)) (hb:Binds X.K fd ps ds) (hd:Vals dvs ds) (hx:Passes CX X E)
  (hdb:(x == ("__debug__" : Str))=false:=by decide):PE X (.Call (.Name x p) [] [] pos) (tMake C sp dvs E tNil):=by
 intro pins s σ H Q I h
 refine wpAny_Call_Name_kw (ld_glob I hg hm ?_ hdb)
 exact PySem.W.callWith_K0 I.kIn M.kp (run_make (us:=[]) M F hr hb hd hx I .nil h)
end
section
variable {X:Cx}{CX:CXT}{k:Nat}{f C:Addr}{fd:FuncData}{ps ks:List Str}{sp:Sp}{E:XK}{x m:Str}{p pos apos kpos:Pos}{e o:Expr}{es:List Expr}{kws:List Keyword}{te ta:TE}{t tk:TA}{nm:Option Str}
structure KBinds (K:PySem.W.Frag) (fd:FuncData) (ps ks:List Str) (g:List Value→List Value→List Value) (gV:List V→List V→List V):Prop where
 to:∀(s:Shared) (us ws:List Value),K.In s.heap→(g us ws).length=ps.length→BindsTo s fd ⟨us,ks.zip ws⟩ (ps.zip (g us ws))
 rel:∀{vs:List V}{us:List Value}{zs:List V}{ws:List Value},Vals vs us→Vals zs ws→Vals (gV vs zs) (g us ws)
variable {g:List Value→List Value→List Value}{gV:List V→List V→List V}
end
structure FnScope (N P:List Str) (sc:Scope):Prop where
 kind:sc.kind=.function
 co:sc.isCoroutine=false
 gen:sc.isGenerator=false
 nd:N.Nodup
 pre:N.take P.length=P
 par:∀x∈P,sc.names.lookup x=some .local∨sc.names.lookup x=some .cell
 nofree:∀y∈sc.names,y.2≠.free
theorem bindL_out {kindOf:Str→Option NameKind}{x:Str}:∀{binds:List (Str×Value)}{m:Str→Option Value},(∀v,(x,v) ∉ binds)→bindL kindOf binds m x=m x
 | [],_,_=>rfl
 | (n,v)::r,m,h=>by
  unfold bindL
  rw[bindL_out fun w hw=>h w (List.mem_cons_of_mem _ hw)]
  split
  ·have:x≠n:=by rintro rfl; exact h v List.mem_cons_self
   simp [this]
  ·rfl
theorem bindC_out {kindOf:Str→Option NameKind}{x:Str}:∀{binds:List (Str×Value)}{m:Str→Option Value},(∀v,(x,v) ∉ binds)→bindC kindOf binds m x=m x
 | [],_,_=>rfl
 | (n,v)::r,m,h=>by
  unfold bindC
  rw[bindC_out fun w hw=>h w (List.mem_cons_of_mem _ hw)]
  split
  ·rfl
  ·have:x≠n:=by rintro rfl; exact h v List.mem_cons_self
   simp [this]
theorem bindL_get {kindOf:Str→Option NameKind}{x:Str}{v:Value}:∀{P:List Str}{vs:List Value}{i:Nat}{m:Str→Option Value},P.Nodup→P[i]?=some x→vs[i]?=some v→kindOf x=some .local →
  bindL kindOf (P.zip vs) m x=some v
 | [],_,_,_,_,h,_,_=>by simp at h
 | _::_,[],_,_,_,_,h,_=>by simp at h
 | p::P,w::vs,0,m,nd,h1,h2,hk=>by
  simp at h1 h2; subst h1; subst h2
  show bindL kindOf ((p,w)::P.zip vs) m p=_
  unfold bindL
  rw[bindL_out fun v hv=>(List.nodup_cons.mp nd).1 (List.of_mem_zip hv).1,if_pos hk]
  simp
 | p::P,w::vs,i+1,m,nd,h1,h2,hk=>by
  show bindL kindOf ((p,w)::P.zip vs) m x=_
  unfold bindL
  exact bindL_get (i:=i) (List.nodup_cons.mp nd).2 (by simpa using h1) (by simpa using h2) hk
theorem bindC_get {kindOf:Str→Option NameKind}{x:Str}{v:Value}:∀{P:List Str}{vs:List Value}{i:Nat}{m:Str→Option Value},P.Nodup→P[i]?=some x→vs[i]?=some v→kindOf x≠some .local →
  bindC kindOf (P.zip vs) m x=some v
 | [],_,_,_,_,h,_,_=>by simp at h
 | _::_,[],_,_,_,_,h,_=>by simp at h
 | p::P,w::vs,0,m,nd,h1,h2,hk=>by
  simp at h1 h2; subst h1; subst h2
  show bindC kindOf ((p,w)::P.zip vs) m p=_
  unfold bindC
  rw[bindC_out fun v hv=>(List.nodup_cons.mp nd).1 (List.of_mem_zip hv).1,if_neg hk]
  simp
 | p::P,w::vs,i+1,m,nd,h1,h2,hk=>by
  show bindC kindOf ((p,w)::P.zip vs) m x=_
  unfold bindC
  exact bindC_get (i:=i) (List.nodup_cons.mp nd).2 (by simpa using h1) (by simpa using h2) hk
def start (N:List Str) (vs:List V):St:=vs.map some++List.replicate (N.length - vs.length) none
def cxOf (CX:CXT) (P:Program) (w:World) (K:PySem.W.Frag) (mg:Str→Option Value) (base:Heap) (N:List Str) (qual:Str) (scope:Scope) (f:Addr) (cd:Value) (A:Around) (outer:List Env) (s:Shared) (H:Hp) (E:XK):Cx where
 prog:=P
 w:=w
 K:=K
 mg:=mg
 base:=base
 A:=A.deeper (envOfC qual scope s.heap.objs.size f cd)
 N:=N
 s₀:=s
 H₀:=H
 env:=envOfC qual scope s.heap.objs.size f cd
 outer:=outer
 stack:=envOfC qual scope s.heap.objs.size f cd::outer
 ex:=[]
 calm:=A.handled.isNone
 fn:=fun _=>true
 pn:=[]
 xe:=fun e s'=>wpAny (model P w) (A.deeper (envOfC qual scope s.heap.objs.size f cd)) (leaving (envOfC qual scope s.heap.objs.size f cd) e) (fun _ s''=>CX outer H s E e s'') (fun e' s''=>CX outer H s E e' s'') s'
theorem cell_has {sc:Scope}{n:Nat}{x:Str} (h:sc.names.lookup x=some .cell):∃c,(cellsFrom n sc.names []).lookup x=some c:=by
 have q:=PySem.W.cellsFrom_some sc.names n [] (.inl h)
 exact Option.isSome_iff_exists.mp q
theorem inv_start {CX:CXT}{P:Program}{w:World}{K:PySem.W.Frag}{mg:Str→Option Value}{base:Heap}{N ps:List Str}{qual:Str}{scope:Scope}{f:Addr}{cd:Value}{A:Around}{outer:List Env}{s s1:Shared}{H:Hp}{E:XK}{us:List Value}{vs:List V}
  (S:FnScope N ps scope) (e0:Env0 P w K mg base A outer s H) (hl:vs.length=ps.length) (r:Vals vs us)
  (x:InCallC s s.heap.objs.size (bindL (envOfC qual scope s.heap.objs.size f cd).kindOf (ps.zip us) fun _=>none) (cellsFrom (s.heap.objs.size+1) scope.names []) (bindC (envOfC qual scope s.heap.objs.size f cd).kindOf (ps.zip us) fun _=>none) s1) :
  Inv (cxOf CX P w K mg base N qual scope f cd A outer s H E) [] (start N vs) H s1:=by
 have hpl:ps.length≤N.length:=by have:=congrArg List.length S.pre; rw[List.length_take] at this; omega
 obtain⟨h1,tk,rfl,hk⟩:=x.done
 have noA:∀b:Addr,b ∉ (cxOf CX P w K mg base N qual scope f cd A outer s H E).ex:=fun b z=>absurd (show b∈([]:List Addr) from z) (by simp)
 refine⟨⟨e0.mod,S.kind,rfl,rfl,Nat.le_refl _,fun y z c h1 h2=>?_,fun y hy=>?_,fun y c _ h=>?_,fun h=>Option.isNone_iff_eq_none.mp h,Around.frames_deeper e0.frames,.inr ⟨rfl,rfl⟩,fun b z=>absurd z (noA b),e0.bs,e0.bsz,fun b _ _=>noA b,fun b z=>absurd z (noA b),e0.funs,e0.frf⟩,
  rfl,e0.bare,Un.kept hk,⟨_,x.toInCall.ns,fun i y v h1 h2 h3=>?_⟩,fun y c h=>⟨_,x.cell y c h⟩,e0.hok.fresh (Nat.le_refl _),fun y c h=>?_,fun p hp=>absurd (show p∈([]:List (Addr×Obj)) from hp) (by simp),e0.hok.kept hk,?_⟩
 ·exact name_of_addr x.apart (PySem.mem_of_lookup h1) (PySem.mem_of_lookup h2)
 ·have hy:scope.names.lookup y=some .cell∨scope.names.lookup y=some .free:=hy
  rcases hy with hy | hy
  ·exact cell_has hy
  ·exact absurd rfl (S.nofree _ (PySem.mem_of_lookup hy))
 ·exact Nat.le_of_lt (x.above y c (PySem.mem_of_lookup h))
 ·have hi:i < vs.length:=by
   unfold start at h2
   by_cases hi:i < vs.length
   ·exact hi
   ·rw[List.getElem?_append_right (by simpa using hi)] at h2
    rw[List.getElem?_replicate] at h2
    split at h2 <;> cases h2
  have ha:vs[i]?=some v:=by
   unfold start at h2
   rw[List.getElem?_append_left (by simpa using hi),List.getElem?_map] at h2
   cases e:vs[i]? with
   | none=>rw[e] at h2; cases h2
   | some a=>rw[e] at h2; cases h2; rfl
  obtain⟨u,hu,rv⟩:=r.get ha
  have hp:ps[i]?=some y:=by
   rw[← S.pre,List.getElem?_take_of_lt (by omega)]; exact h1
  have ndP:ps.Nodup:=by rw[← S.pre]; exact S.nd.sublist (List.take_sublist _ _)
  refine⟨u,rv,?_⟩
  rcases S.par y (List.mem_of_getElem? hp) with k | k
  ·exact .inl ⟨k,bindL_get ndP hp hu k⟩
  ·obtain⟨c,e⟩:=cell_has (n:=s.heap.objs.size+1) k
   refine .inr ⟨.inl k,c,e,?_⟩
   have q:=x.cell y c e
   rw[bindC_get ndP hp hu (by show scope.names.lookup y≠_; rw[k]; decide)] at q
   exact q
 ·exact e0.hok.fresh (Nat.le_of_lt (x.above y c (PySem.mem_of_lookup h)))
 ·unfold start
  show _=N.length
  rw[List.length_append,List.length_map,List.length_replicate]
  omega
theorem fn_of {CX:CXT}{P:Program}{w:World}{K:PySem.W.Frag}{mg:Str→Option Value}{base:Heap}{k:Nat}{f:Addr}{name qual:Str}{params:Arguments}{body:List Stmt}{scope:Scope}{dV kV doc pm cdv ct oc:Value}{an od:Option Addr}
  {osl:Array (Option Value)}{N ps:List Str}{sp:Sp} (lk:K.lookup f=some ⟨oc,od,.func (PySem.W.fnOf name qual params body scope dV kV doc pm an cdv ct),osl⟩) (hcd:PySem.W.codeIn K cdv qual=true) (S:FnScope N ps scope)
  (len:∀vs H Q E,sp vs H Q E→vs.length=ps.length)
  (hbody:∀(A:Around) (outer:List Env) (s:Shared) (H:Hp) (vs:List V) (Q:VK) (E:XK),Room k (A.deeper (envOfC qual scope s.heap.objs.size f cdv))→sp vs H Q E →
   ∃t,PSs (cxOf CX P w K mg base N qual scope f cdv A outer s H E) body t∧t { nx:=fun _ H'=>Q .non H',rt:=Q } (start N vs) H) :
  FnOk P w K mg base CX (k+1) f (PySem.W.fnOf name qual params body scope dV kV doc pm an cdv ct) ps sp:=by
 refine⟨len,fun A outer s H args us vs Q E hr e0 hb r hsp=>?_⟩
 have hl:=len _ _ _ _ hsp
 have KX:K.In s.heap:=e0.mod.kin.keeps fun b o e=>(e0.bs b o e).1
 have lim:s.heap.NoLimit:=e0.mod.nolimit.keeps fun b o e=>(e0.bs b o e).1
 have hkind:∀y∈ps.zip us,scope.names.lookup y.1=some .local∨(scope.names.lookup y.1=some .cell∧((cellsFrom (s.heap.objs.size+1) scope.names []).lookup y.1).isSome=true):=fun ⟨n,v⟩ hy=>by
  rcases S.par n (List.of_mem_zip hy).1 with q | q
  ·exact .inl q
  ·exact .inr ⟨q,PySem.W.cellsFrom_some _ _ _ (.inl q)⟩
 refine codeAny_call_function hr.depth (KX _ _ lk) rfl S.co S.gen rfl (PySem.W.codeRec_of KX hcd) (hb _ _ _ _ ?_)
 refine wpAny_newFunctionEnv_cells S.kind hkind fun env he s1 x=>?_
 subst he
 refine⟨lim.keeps x.toInCall.keep,codeAny_func ?_⟩
 obtain⟨t,ht,hq⟩:=hbody A outer s H vs Q E (hr.deeper _) hsp
 have I:Inv (cxOf CX P w K mg base N qual scope f cdv A outer s H E) [] (start N vs) H s1:=inv_start S e0 hl r x
 refine wpAny_mono (ht [] s1 (start N vs) H _ I hq) (fun fl s' hs=>?_) fun e s' hs=>hs
 have fin:∀{σ':St}{H':Hp}{v:V}{u:Value},Inv (cxOf CX P w K mg base N qual scope f cdv A outer s H E) [] σ' H' s'→RelV v u→Q v H'→CE outer P w H s Q u s' :=
  fun {σ' H' v u} J rv q=>⟨v,H',J.os,J.bare,J.base,J.hok,rv,q⟩
 cases fl with
 | ret u =>
  obtain⟨v,σ',H',J,rv,q⟩:=hs
  exact fin J rv q
 | next =>
  obtain⟨σ',H',J,q⟩:=hs
  exact fin (v:=V.non) (u:=Value.none) J rfl q
 | brk =>
  obtain⟨_,_,_,q⟩:=hs
  exact False.elim q
 | cont =>
  obtain⟨_,_,_,q⟩:=hs
  exact False.elim q
end L2
namespace L2
open PySem PySem.Spec PyProof.Rows
section
variable {X:Cx}{x:Str}{p pos:Pos}{e:Expr}{es:List Expr}{t:TA}{id T:String}{r:List V→Hp→VK→Prop}
def tCB (r:List V→Hp→VK→Prop) (t:TA):TE:=fun σ H Q=>t σ H fun vs H1=>r vs H1 Q
theorem pe_callB (hc:CallR X (.builtin id) r) (hg:Gl X x) (hm:X.mg x=none) (hv:bootBuiltins x=some (.builtin id)) (ha:PA X (e::es) t) (hn:x≠"__name__":=by decide) (hdb:(x == ("__debug__" : Str))=false:=by decide)
  (he:starEach (e::es) X.env=(false,eval e X.env)::starEach es X.env:=by rfl) (hpl:(backTo pos (starEach es X.env)).any (·.1)=false:=by rfl):PE X (.Call (.Name x p) (e::es) [] pos) (tCB r t):=by
 intro pins s σ H Q I h
 refine wpAny_Call_Name_kw (ld_blt I hg hm hv ?_ hn hdb)
 exact PyProof.Rows.callWith_builtin1 (thn (ha pos pins s σ H _ I h) fun us s1 ⟨vs,H1,I1,r1,q1⟩=>hc pins s1 σ H1 vs us Q I1 r1 q1) he hpl
theorem pe_callTy (hc:CallR X (.type T) r) (hg:Gl X x) (hm:X.mg x=none) (hv:bootBuiltins x=some (.type T)) (ha:PA X (e::es) t) (hn:x≠"__name__":=by decide) (hdb:(x == ("__debug__" : Str))=false:=by decide)
  (he:starEach (e::es) X.env=(false,eval e X.env)::starEach es X.env:=by rfl) (hpl:(backTo pos (starEach es X.env)).any (·.1)=false:=by rfl):PE X (.Call (.Name x p) (e::es) [] pos) (tCB r t):=by
 intro pins s σ H Q I h
 refine wpAny_Call_Name_kw (ld_blt I hg hm hv ?_ hn hdb)
 exact PyProof.Rows.callWith_type1 (thn (ha pos pins s σ H _ I h) fun us s1 ⟨vs,H1,I1,r1,q1⟩=>hc pins s1 σ H1 vs us Q I1 r1 q1) he hpl
end
end L2
namespace HT
open PySem PyProof.Rows
section
open PySem.SeqAt
open PySem.AutoSeq1 (wpAny_loadPart')
open PySem.MeetsSeq PySem.MeetsSeq2 PySem.MeetsSeq3
end
section
variable {prog:Program}{w:World}{A:Around}{E:Value→Shared→Prop}{s:Shared}
def sIx (n d:Nat):Option Int→Nat
 | none=>d
 | some v=>if v < 0 then (v+(n:Int)).toNat else min v.toNat n
theorem sIx_none (n d:Nat):sIx n d none=d:=rfl
theorem sIx_nat (n d k:Nat):sIx n d (some (k:Int))=min k n:=by
 show (if (k:Int) < 0 then ((k:Int)+(n:Int)).toNat else min (k:Int).toNat n)=min k n
 rw[if_neg (by omega),Int.toNat_natCast]
theorem sIx_le (n d:Nat) (hd:d≤n) (o:Option Int):sIx n d o≤n:=by
 cases o with
 | none=>exact hd
 | some v =>
  show (if v < 0 then (v+(n:Int)).toNat else min v.toNat n)≤n
  by_cases hv:v < 0
  ·rw[if_pos hv]; omega
  ·rw[if_neg hv]; exact Nat.min_le_right _ _
end
end HT
namespace L2
open PySem PySem.Spec PyProof.Rows
abbrev TO:=St→Hp→(Option Int→Hp→Prop)→Prop
def PO (X:Cx) (e:Option Expr) (t:TO):Prop :=
 ∀(pins:List (Addr×Obj)) (s:Shared) (σ:St) (H:Hp) (Q:Option Int→Hp→Prop),Inv X pins σ H s→t σ H Q →
  wpAny (model X.prog X.w) X.A (evalPart e X.env) (fun u s'=>∃o H',Inv X pins σ H' s'∧IsPart u o∧Q o H') X.xe s
def tNoPart:TO:=fun _ H Q=>Q none H
def tPart (t:TE):TO:=fun σ H Q=>t σ H fun x H1=>∃i,x=.int i∧Q (some i) H1
section
variable {X:Cx}{e:Expr}{te:TE}{lo hi:Option Expr}{tl th:TO}{pos p2:Pos}
theorem po_none:PO X none tNoPart:=by
 intro pins s σ H Q I h
 rw[evalPart_none]
 exact wpAny_pure ⟨none,H,I,.none,h⟩
theorem po_some (h:PE X e te):PO X (some e) (tPart te):=by
 intro pins s σ H Q I hw
 rw[evalPart_some]
 refine thn (h pins s σ H _ I hw) fun u s1 ⟨x,H1,I1,r1,q1⟩=>?_
 obtain⟨i,rfl,q⟩:=q1
 obtain⟨t,rfl⟩:=r1
 exact⟨some i,H1,I1,.int i t,q⟩
def SlR (X:Cx) (r:V→Option Int→Option Int→Hp→VK→Prop):Prop :=
 ∀(pins:List (Addr×Obj)) (s:Shared) (σ:St) (H:Hp) (x:V) (v vl vu:Value) (lo hi:Option Int) (sl:Addr) (Q:VK),Inv X pins σ H s→RelV x v→s.heap.IsSliceOf sl vl vu .none→IsPart vl lo→IsPart vu hi→r x lo hi H Q →
  ∃T id,typeLookup (.type T) "__getitem__"=pure (some (.builtin id))∧s.TypeIs v T∧wpAny (model X.prog X.w) X.A (getItem v (.ref sl)) (EP X pins σ Q) X.xe s
def tSl (r:V→Option Int→Option Int→Hp→VK→Prop) (te:TE) (tl th:TO):TE:=fun σ H Q=>te σ H fun x H1=>tl σ H1 fun l H2=>th σ H2 fun u H3=>r x l u H3 Q
theorem pe_slice {r:V→Option Int→Option Int→Hp→VK→Prop} (hr:SlR X r) (he:PE X e te) (hl:PO X lo tl) (hu:PO X hi th):PE X (.Subscript e (.Slice lo hi none p2) pos) (tSl r te tl th):=by
 intro pins s σ H Q I h
 refine Subscript_ (thn (he pins s σ H _ I h) fun v s1 ⟨x,H1,I1,r1,q1⟩=>?_)
 refine wpAny_Slice (thn (hl pins s1 σ H1 _ I1 q1) fun vl s2 ⟨l,H2,I2,pl,q2⟩=>thn (hu pins s2 σ H2 _ I2 q2) fun vu s3 ⟨u,H3,I3,pu,q3⟩=>?_)
 rw[evalPart_none]
 refine wpAny_pure ?_
 have I4:Inv X pins σ H3 { s3 with heap:=s3.heap.push { cls:=.type "slice",data:=.fields #[vl,vu,.none] } }:=I3.kept (t':=s3.toks) fun b ob q=>Heap.get?_push_of_some _ q
 obtain⟨T,id,hT,ht,hg⟩:=hr pins { s3 with heap:=s3.heap.push { cls:=.type "slice",data:=.fields #[vl,vu,.none] } } σ H3 x v vl vu l u s3.heap.objs.size Q I4 r1 (Heap.IsSliceOf.new ..) pl pu q3
 show wpAny (model X.prog X.w) X.A (subscriptTail e (.Slice lo hi none p2) v (.ref s3.heap.objs.size)) (EP X pins σ Q) X.xe { s3 with heap:=s3.heap.push { cls:=.type "slice",data:=.fields #[vl,vu,.none] } }
 exact tail_any (ops:=[.ref s3.heap.objs.size,v]) ht hT hg (by with_unfolding_all rfl)
def cutV (xs:List V) (lo hi:Option Int):List V:=(xs.drop (HT.sIx xs.length 0 lo)).take (HT.sIx xs.length xs.length hi - HT.sIx xs.length 0 lo)
theorem cutV_length (xs:List V) (lo hi:Option Int):(cutV xs lo hi).length≤xs.length:=by
 unfold cutV
 rw[List.length_take,List.length_drop]
 omega
end
end L2
namespace L2
open PySem PySem.Spec PyProof.Rows
def ixN (n:Nat) (i:Int):Option Nat:=if 0≤i then (if i < n then some i.toNat else none) else if -(n:Int)≤i then some (i+n).toNat else none
def atI {α : Type} (xs:List α) (i:Int):Option α:=(ixN xs.length i).bind fun j=>xs[j]?
theorem ixN_seq {n:Nat}{i:Int}{j:Nat} (h:ixN n i=some j):seqIndex? i n=some j∧j < n∧-(n:Int)≤i∧i < n:=by
 unfold ixN at h
 by_cases h0:0≤i
 ·rw[if_pos h0] at h
  by_cases h1:i < n
  ·rw[if_pos h1] at h
   have e:i.toNat=j:=Option.some.inj h
   exact⟨by rw[seqIndex_of h0 h1,e],by omega,by omega,h1⟩
  ·rw[if_neg h1] at h; cases h
 ·rw[if_neg h0] at h
  by_cases h1 : -(n:Int)≤i
  ·rw[if_pos h1] at h
   have e:(i+n).toNat=j:=Option.some.inj h
   exact⟨by rw[seqIndex_neg (by omega) h1,e],by omega,h1,by omega⟩
  ·rw[if_neg h1] at h; cases h
theorem atI_get {α : Type}{xs:List α}{i:Int}{v : α} (h:atI xs i=some v):∃j,seqIndex? i xs.length=some j∧xs[j]?=some v∧j < xs.length∧-(xs.length:Int)≤i∧i < xs.length:=by
 unfold atI at h
 cases e:ixN xs.length i with
 | none=>rw[e] at h; cases h
 | some j =>
  rw[e] at h
  obtain⟨h1,h2,h3,h4⟩:=ixN_seq e
  exact⟨j,h1,h,h2,h3,h4⟩
theorem atI_nat {α : Type}{xs:List α}{j:Nat}{v : α} (h:xs[j]?=some v):atI xs (j:Int)=some v:=by
 have hj:j < xs.length:=(List.getElem?_eq_some_iff.mp h).1
 have e:ixN xs.length (j:Int)=some j:=by
  unfold ixN
  rw[if_pos (by omega),if_pos (by omega)]; simp
 unfold atI; rw[e]; exact h
def PlainIx (b:Expr):Prop:=∀o i,subscripted b false o i=operate [o,i] (getItem o i)
def IxR (X:Cx) (r:R2):Prop :=
 ∀(value slice:Expr) (pins:List (Addr×Obj)) (s:Shared) (σ:St) (H:Hp) (x y:V) (v u:Value) (Q:VK),Inv X pins σ H s→RelV x v→RelV y u→r x y H Q →
  subscripted slice false v u=operate [v,u] (getItem v u)→wpAny (model X.prog X.w) X.A (subscriptTail value slice v u) (EP X pins σ Q) X.xe s
def MtR (X:Cx) (id:String) (r:V→List V→Hp→VK→Prop):Prop :=
 ∀(pins:List (Addr×Obj)) (s:Shared) (σ:St) (H:Hp) (x:V) (xs:List V) (v:Value) (us:List Value) (Q:VK),Inv X pins σ H s→RelV x v→Vals xs us→r x xs H Q →
  wpAny (model X.prog X.w) X.A (call (.builtin id) (v::us)) (EP X pins σ Q) X.xe s
section
variable {X:Cx}{a b:Expr}{ta tb:TE}{pos:Pos}
theorem pe_ix {r:R2} (hr:IxR X r) (ha:PE X a ta) (hb:PE X b tb) (hs:PlainIx b):PE X (.Subscript a b pos) (tOp r ta tb):=by
 intro pins s σ H Q I h
 exact Subscript_ (binT ha hb I h fun v u s2 x y H2 I2 rx ry q=>hr a b pins s2 σ H2 x y v u Q I2 rx ry q (hs _ _))
def rIxL (K:PySem.W.Frag):R2:=fun x y H Q=>∃p xs i v,x=.ref p∧y=.int i∧SqL K H p xs∧atI xs i=some v∧Q v H
def rIxT (K:PySem.W.Frag):R2:=fun x y H Q=>∃p xs i v,x=.ref p∧y=.int i∧SqT K H p xs∧atI xs i=some v∧Q v H
def rIxS:R2:=fun x y H Q=>∃z i c,x=.str z∧y=.int i∧z.length≤sizeLine∧atI z.cps.toList i=some c∧Q (.str ⟨#[c]⟩) H
theorem ix_list:IxR X (rIxL X.K):=by
 intro value slice pins s σ H x y v u Q I rx ry h hs
 obtain⟨p,xs,i,z,rfl,rfl,hq,he,q⟩:=h
 cases rx
 obtain⟨t,rfl⟩:=ry
 obtain⟨its,r,pl,hz⟩:=I.list hq
 obtain⟨j,h1,h2,h3,h4,h5⟩:=atI_get he
 obtain⟨w,ew,rw'⟩:=r.get h2
 have hl:=r.length
 have hn:=line63
 have fin:EP X pins σ Q w s:=⟨z,H,I,rw',q⟩
 by_cases h0:0≤i
 ·have hj:i.toNat=j:=by
   rw[seqIndex_of h0 h5] at h1
   exact Option.some.inj h1
  exact item_listR pl.isList h0 (by omega) (by rw[hj]; simpa using ew) fin hs
 ·have hj:(i+(its.toArray.size:Int)).toNat=j:=by
   rw[seqIndex_neg (by omega) h4] at h1
   rw[List.size_toArray,← hl]
   exact Option.some.inj h1
  exact subscriptTail_builtinR (x:=w) pl.isList.typeIs slot_list_getitem.lookup
   (wpAny_getItem_list_neg (Q:=fun r s'=>r=w∧EP X pins σ Q r s') pl.isList (by omega) (by rw[List.size_toArray] <;> omega) (by omega) (by rw[hj]; simpa using ew) ⟨rfl,fin⟩) hs
theorem ix_tup:IxR X (rIxT X.K):=by
 intro value slice pins s σ H x y v u Q I rx ry h hs
 obtain⟨p,xs,i,z,rfl,rfl,hq,he,q⟩:=h
 cases rx
 obtain⟨t,rfl⟩:=ry
 obtain⟨its,r,pl,hz⟩:=I.tuple hq
 obtain⟨j,h1,h2,h3,h4,h5⟩:=atI_get he
 obtain⟨w,ew,rw'⟩:=r.get h2
 have hl:=r.length
 have hn:=line63
 have fin:EP X pins σ Q w s:=⟨z,H,I,rw',q⟩
 exact subscriptTail_builtinR (x:=w) pl.typeIs slot_tuple_getitem.lookup
  (getItem_tuple (j:=j) (Q:=fun r s'=>r=w∧EP X pins σ Q r s') pl (by omega) (by omega) (by rw[List.size_toArray,← hl]; exact h1) (by simpa using ew) ⟨rfl,fin⟩) hs
theorem ix_str:IxR X rIxS:=by
 intro value slice pins s σ H x y v u Q I rx ry h hs
 obtain⟨z,i,c,rfl,rfl,hz,he,q⟩:=h
 obtain⟨t,rfl⟩:=rx
 obtain⟨t',rfl⟩:=ry
 obtain⟨j,h1,h2,h3,h4,h5⟩:=atI_get he
 have hl:z.cps.toList.length=z.length:=by simp [Str.length]
 rw[hl] at h1 h4 h5
 have hn:=line63
 exact tail_any (typeIs_str s z t) slot_str_getitem.lookup (getItem_str (c:=c) (by
  have e1:decide (i < -(2 ^ 63:Int))=false:=decide_eq_false (by omega)
  have e2:decide (i ≥ 2 ^ 63)=false:=decide_eq_false (by omega)
  rw[e1,e2,Bool.or_false]) (by rw[h1]; simpa using h2) ⟨.str ⟨#[c]⟩,H,I.tok _,⟨_,rfl⟩,q⟩) hs
theorem mapSeq_set (its:List Value) (n j:Nat) (u:Value):Obj.mapSeq (·.setIfInBounds j u) { cls:=.type "list",data:=.seq its.toArray n }={ cls:=.type "list",data:=.seq (its.set j u).toArray n }:=by
 simp [Obj.mapSeq]
theorem Inv.lst {pins:List (Addr×Obj)}{σ:St}{H:Hp}{s:Shared}{p:Addr}{xs:List V} (I:Inv X pins σ H s) (h:H p=some (.lst xs)) :
  ∃(its:List Value) (n:Nat),Vals xs its∧s.heap.get? p=some { cls:=.type "list",data:=.seq its.toArray n }∧xs.length≤sizeLine:=by
 obtain⟨z,its,n,r,e⟩:=I.hok p _ h
 exact⟨its,n,r,e,z⟩
theorem Inv.lstUpd {pins:List (Addr×Obj)}{σ:St}{H:Hp}{s:Shared}{p:Addr}{xs ys:List V}{its its':List Value}{n n':Nat}{f:Obj→Obj} (I:Inv X pins σ H s) (h:H p=some (.lst xs))
  (ho:s.heap.get? p=some { cls:=.type "list",data:=.seq its.toArray n }) (hf:f { cls:=.type "list",data:=.seq its.toArray n }={ cls:=.type "list",data:=.seq its'.toArray n' }) (r:Vals ys its') (hz:ys.length≤sizeLine) (t:Nat) :
  Inv X pins σ (upd H p (.lst ys)) { s with heap:=s.heap.update p f,toks:=t }:=by
 have e:(s.heap.update p f).get? p=some { cls:=.type "list",data:=.seq its'.toArray n' }:=by
  rw[Heap.get?_update_self f ho (by rw[hf] <;> rfl),hf]
 refine I.write (x:=p) (e:=p) (by rw[h]; trivial) (.inl rfl) (fun b u hb q=>(Heap.get?_update_other _ _ (Ne.symm hb)).trans q) ⟨_,e⟩ ?_
 exact⟨hz,its',n',r,e⟩
def rSetL:V→V→V→Hp→(Hp→Prop)→Prop:=fun o i v H Q=>∃p xs k j,o=.ref p∧i=.int k∧H p=some (.lst xs)∧ixN xs.length k=some j∧Q (upd H p (.lst (xs.set j v)))
theorem set_list:PSet X rSetL:=by
 intro pins s σ H o i v ov iv u Q I ro ri rv h
 obtain⟨p,xs,k,j,rfl,rfl,hp,hj,q⟩:=h
 cases ro
 obtain⟨t,rfl⟩:=ri
 obtain⟨its,n,r,ho,hz⟩:=I.lst hp
 obtain⟨h1,h2,h3,h4⟩:=ixN_seq hj
 have hl:=r.length
 have hn:=line63
 have I':Inv X pins σ (upd H p (.lst (xs.set j v))) { s with heap:=s.heap.update p (Obj.mapSeq (·.setIfInBounds j u)) } :=
  I.lstUpd hp ho (mapSeq_set its n j u) (r.set rv j) (by rw[List.length_set]; exact hz) s.toks
 by_cases h0:0≤k
 ·have hk:k.toNat=j:=by
   rw[seqIndex_of h0 h4] at h1
   exact Option.some.inj h1
  exact PySem.W.ki_setAt ho h0 (by omega) (by rw[List.size_toArray,← hl]; exact h4) (by rw[hk]; exact⟨_,I',q⟩)
 ·have hk:(k+(its.toArray.size:Int)).toNat=j:=by
   rw[seqIndex_neg (by omega) h3] at h1
   rw[List.size_toArray,← hl]
   exact Option.some.inj h1
  exact PySem.W.ki_setBack ho (by omega) (by rw[List.size_toArray,← hl]; exact h3) (by omega) (by rw[hk]; exact⟨_,I',q⟩)
theorem slice_bounds (lo hi:Option Int) (n:Nat):(sliceBounds lo hi none n).1=((HT.sIx n 0 lo:Nat):Int)∧(sliceBounds lo hi none n).2.1=((HT.sIx n n hi:Nat):Int)∧(sliceBounds lo hi none n).2.2=1:=by
 refine⟨?_,?_,rfl⟩
 ·cases lo with
  | none=>simp [sliceBounds,HT.sIx]
  | some i =>
   simp only[sliceBounds,HT.sIx,Option.getD_none,show (1:Int) > 0 by decide,if_true]
   by_cases h:i < 0
   ·simp only[h,if_true] <;> omega
   ·simp only[h,if_false] <;> omega
 ·cases hi with
  | none=>simp [sliceBounds,HT.sIx]
  | some i =>
   simp only[sliceBounds,HT.sIx,Option.getD_none,show (1:Int) > 0 by decide,if_true]
   by_cases h:i < 0
   ·simp only[h,if_true] <;> omega
   ·simp only[h,if_false] <;> omega
theorem slicePick_cut (its:List Value) (lo hi:Option Int):slicePick its.toArray lo hi none=((its.drop (HT.sIx its.length 0 lo)).take (HT.sIx its.length its.length hi - HT.sIx its.length 0 lo)).toArray:=by
 obtain⟨h1,h2,h3⟩:=slice_bounds lo hi its.toArray.size
 unfold slicePick
 rw[h1,h2,h3]
 simp only[sliceRange_one,pick_run,List.size_toArray] <;> rfl
def rSlL (K:PySem.W.Frag):V→Option Int→Option Int→Hp→VK→Prop:=fun x lo hi H Q=>∃a xs,x=.ref a∧SqL K H a xs∧∀p,H p=none→Q (.ref p) (upd H p (.lst (cutV xs lo hi)))
theorem sl_list:SlR X (rSlL X.K):=by
 intro pins s σ H x v vl vu lo hi sl Q I rx hs pl pu h
 obtain⟨a,xs,rfl,hx,q⟩:=h
 cases rx
 obtain⟨its,r,ht,hz⟩:=I.list hx
 have hlen:=r.length
 refine⟨"list",_,slot_list_getitem.lookup,ht.isList.typeIs,?_⟩
 refine wpAny_getItem_list_slice ht.isList hs pl pu .none (by simp) ?_ (by rw[List.size_toArray] <;> omega)
 rw[slicePick_cut,← hlen]
 refine⟨.ref s.heap.objs.size,_,I.laid (t':=s.toks) (o:=.lst (cutV xs lo hi)) (fun b ob q=>Heap.get?_push_of_some _ q) (Nat.le_refl _) ?_,rfl,q _ (I.hok.fresh (Nat.le_refl _))⟩
 exact⟨Nat.le_trans (cutV_length xs lo hi) hz,_,0,(r.drop (HT.sIx xs.length 0 lo)).take (HT.sIx xs.length xs.length hi - HT.sIx xs.length 0 lo),Heap.get?_push_size _ rfl⟩
def flatV:V→Bool
 | .non=>true
 | .bl _=>true
 | .int _=>true
 | .str _=>true
 | _=>false
def eqV:V→V→Bool
 | .non,.non=>true
 | .bl a,.bl b=>a == b
 | .bl a,.int b=>(if a then 1 else 0) == b
 | .int a,.bl b=>a == (if b then 1 else 0)
 | .int a,.int b=>a == b
 | .str a,.str b=>a == b
 | _,_=>false
theorem eqAt_V {A:Around}{s:Shared}{y x:V}{u v:Value} (ry:RelV y u) (rx:RelV x v) (fy:flatV y=true) (fx:flatV x=true):SeqAt.EqAt A s u v (eqV y x):=by
 cases y with
 | non =>
  cases ry
  cases x with
  | non=>cases rx; exact SeqAt.EqAt.same _
  | bl b=>cases rx; exact SeqAt.EqAt.none_bool b
  | int b=>obtain⟨t,rfl⟩:=rx; exact SeqAt.EqAt.none_int b t
  | str b=>obtain⟨t,rfl⟩:=rx; exact SeqAt.EqAt.none_str b t
  | _=>exact absurd (show false=true from fx) Bool.false_ne_true
 | bl a =>
  cases ry
  cases x with
  | non=>cases rx; exact SeqAt.EqAt.bool_none a
  | bl b=>cases rx; exact SeqAt.EqAt.bool_bool a b
  | int b=>obtain⟨t,rfl⟩:=rx; exact SeqAt.EqAt.bool_int a b t
  | str b=>obtain⟨t,rfl⟩:=rx; exact SeqAt.EqAt.bool_str a b t
  | _=>exact absurd (show false=true from fx) Bool.false_ne_true
 | int a =>
  obtain⟨t',rfl⟩:=ry
  cases x with
  | non=>cases rx; exact SeqAt.EqAt.int_none a t'
  | bl b=>cases rx; exact SeqAt.EqAt.int_bool a t' b
  | int b=>obtain⟨t,rfl⟩:=rx; exact SeqAt.EqAt.int_int a t' b t
  | str b=>obtain⟨t,rfl⟩:=rx; exact SeqAt.EqAt.int_str a t' b t
  | _=>exact absurd (show false=true from fx) Bool.false_ne_true
 | str a =>
  obtain⟨t',rfl⟩:=ry
  cases x with
  | non=>cases rx; exact SeqAt.EqAt.str_none a t'
  | bl b=>cases rx; exact SeqAt.EqAt.str_bool a t' b
  | int b=>obtain⟨t,rfl⟩:=rx; exact SeqAt.EqAt.str_int a t' b t
  | str b=>obtain⟨t,rfl⟩:=rx; exact SeqAt.EqAt.str_str a t' b t
  | _=>exact absurd (show false=true from fx) Bool.false_ne_true
 | _=>exact absurd (show false=true from fy) Bool.false_ne_true
def eqU (x:V) (u:Value):Bool:=match u with
 | .none=>eqV .non x
 | .bool b=>eqV (.bl b) x
 | .int i _=>eqV (.int i) x
 | .str z _=>eqV (.str z) x
 | _=>false
theorem eqU_of {x y:V}{u:Value} (r:RelV y u) (f:flatV y=true):eqU x u=eqV y x:=by
 cases y with
 | non=>cases r; rfl
 | bl b=>cases r; rfl
 | int i=>obtain⟨t,rfl⟩:=r; rfl
 | str z=>obtain⟨t,rfl⟩:=r; rfl
 | _=>exact absurd (show false=true from f) Bool.false_ne_true
theorem any_eqU {x:V}:∀{xs:List V}{us:List Value},Vals xs us→xs.all flatV=true→us.any (eqU x)=xs.any fun y=>eqV y x
 | _,_,.nil,_=>rfl
 | y::xs,u::us,.cons r t,f=>by
  rw[List.all_cons,Bool.and_eq_true] at f
  rw[List.any_cons,List.any_cons,eqU_of r f.1,any_eqU t f.2]
theorem mem_eqAt {A:Around}{s:Shared}{x:V}{v:Value} (rx:RelV x v) (fx:flatV x=true):∀{xs:List V}{us:List Value},Vals xs us→xs.all flatV=true→∀u∈us,SeqAt.EqAt A s u v (eqU x u)
 | _,_,.nil,_=>fun u hu=>by cases hu
 | y::xs,u::us,.cons r t,f=>fun u' hu=>by
  rw[List.all_cons,Bool.and_eq_true] at f
  rcases List.mem_cons.mp hu with rfl | hu
  ·rw[eqU_of r f.1]; exact eqAt_V r rx f.1 fx
  ·exact mem_eqAt rx fx t f.2 u' hu
def inV (x:V) (xs:List V):Bool:=xs.any fun y=>eqV y x
def rIn (K:PySem.W.Frag) (neg:Bool):R2:=fun x y H Q=>∃p xs,y=.ref p∧(SqL K H p xs∨SqT K H p xs)∧flatV x=true∧xs.all flatV=true∧Q (.bl (if neg then !inV x xs else inV x xs)) H
theorem op_in_seq:OpR X (compareOp .In) (rIn X.K false):=by
 intro pins s σ H x y v u Q I rx ry h
 obtain⟨p,xs,rfl,hq,fx,fs,q⟩:=h
 cases ry
 rcases hq with hq | hq
 ·obtain⟨its,r,pl,hz⟩:=I.list hq
  refine SeqAt.in_listAt (eqU x) pl.isList (fun w hw=>mem_eqAt rx fx r fs w (by simpa using hw)) ⟨.bl _,H,I,rfl,?_⟩
  rw[show its.toArray.any (eqU x)=its.any (eqU x) by simp,any_eqU r fs]
  exact q
 ·obtain⟨its,r,pl,hz⟩:=I.tuple hq
  refine SeqAt.in_tupleAt (eqU x) pl (fun w hw=>mem_eqAt rx fx r fs w (by simpa using hw)) ⟨.bl _,H,I,rfl,?_⟩
  rw[show its.toArray.any (eqU x)=its.any (eqU x) by simp,any_eqU r fs]
  exact q
theorem op_notIn_seq:OpR X (compareOp .NotIn) (rIn X.K true):=by
 intro pins s σ H x y v u Q I rx ry h
 obtain⟨p,xs,rfl,hq,fx,fs,q⟩:=h
 cases ry
 rcases hq with hq | hq
 ·obtain⟨its,r,pl,hz⟩:=I.list hq
  refine SeqAt.notIn_listAt (eqU x) pl.isList (fun w hw=>mem_eqAt rx fx r fs w (by simpa using hw)) ⟨.bl _,H,I,rfl,?_⟩
  rw[show its.toArray.any (eqU x)=its.any (eqU x) by simp,any_eqU r fs]
  exact q
 ·obtain⟨its,r,pl,hz⟩:=I.tuple hq
  refine SeqAt.notIn_tupleAt (eqU x) pl (fun w hw=>mem_eqAt rx fx r fs w (by simpa using hw)) ⟨.bl _,H,I,rfl,?_⟩
  rw[show its.toArray.any (eqU x)=its.any (eqU x) by simp,any_eqU r fs]
  exact q
theorem call_len_seq:CallR X (.builtin "len") (fun xs H Q=>∃p ys,xs=[.ref p]∧(SqL X.K H p ys∨SqT X.K H p ys)∧Q (.int ys.length) H):=by
 intro pins s σ H xs us Q I r h
 obtain⟨p,ys,rfl,hq,q⟩:=h
 obtain⟨u,rfl,rx⟩:=vals1 r
 cases rx
 have hn:=line63
 rcases hq with hq | hq
 ·obtain⟨its,r',pl,hz⟩:=I.list hq
  have hlen:=r'.length
  exact Calls.call_len_list pl.isList (by simp only[List.size_toArray] <;> omega) ⟨.int ys.length,H,I.tok _,⟨s.toks+1,by rw[List.size_toArray,hlen]⟩,q⟩
 ·obtain⟨its,r',pl,hz⟩:=I.tuple hq
  have hlen:=r'.length
  exact len_tuple pl (by simp only[List.size_toArray] <;> omega) ⟨.int ys.length,H,I.tok _,⟨s.toks+1,by rw[List.size_toArray,hlen]⟩,q⟩
theorem call_len_str:CallR X (.builtin "len") (fun xs H Q=>∃z,xs=[.str z]∧z.length≤sizeLine∧Q (.int z.length) H):=by
 intro pins s σ H xs us Q I r h
 obtain⟨z,rfl,hz,q⟩:=h
 obtain⟨u,rfl,t,rfl⟩:=vals1 r
 have hn:=line63
 exact len_str (by omega) ⟨.int z.length,H,I.tok _,⟨_,rfl⟩,q⟩
theorem call_tuple_of:CallR X (.type "tuple") (fun xs H Q=>∃p ys,xs=[.ref p]∧((SqL X.K H p ys∧∀l,H l=none→Q (.ref l) (upd H l (.tup ys)))∨(SqT X.K H p ys∧Q (.ref p) H))):=by
 intro pins s σ H xs us Q I r h
 obtain⟨p,ys,rfl,h⟩:=h
 obtain⟨u,rfl,rx⟩:=vals1 r
 cases rx
 rcases h with ⟨hq,q⟩ | ⟨hq,q⟩
 ·obtain⟨its,r',pl,hz⟩:=I.list hq
  have hlen:=r'.length
  refine call_tuple_list pl.isList (fun h' kp=>?_) (by simp only[List.size_toArray] <;> omega)
  have I1:Inv X pins σ H { s with heap:=h' }:=I.kept (t':=s.toks) kp
  have I2:Inv X pins σ (upd H h'.objs.size (.tup ys)) { s with heap:=h'.push { cls:=.type "tuple",data:=.seq its.toArray } } :=
   I1.laid (t':=s.toks) (fun b o e=>Heap.get?_push_of_some _ e) (Nat.le_refl _) (show ObjOk X.prog X.w _ _ _ (.tup ys) from ⟨hz,its,r',IsTup.new _ _⟩)
  exact⟨.ref h'.objs.size,_,I2,rfl,q _ (I1.hok.fresh (Nat.le_refl _))⟩
 ·obtain⟨its,r',pl,hz⟩:=I.tuple hq
  exact call_tuple_same pl ⟨.ref p,H,I,rfl,q⟩
def tyV (K:PySem.W.Frag) (T:String) (x:V) (H:Hp):Prop:=match x with
 | .str _=>T="str"
 | .int _=>T="int"
 | .ref p=>(T="list"∧∃xs,SqL K H p xs)∨(T="tuple"∧∃o,K.lookup p=some o∧o.cls=.type "tuple"∧o.dict=none) ∨
   (T="dict"∧((∃kvs,H p=some (.dK kvs))∨∃kvs,H p=some (.dT kvs)))∨(T="set"∧∃S n,H p=some (.set S n))
 | _=>False
theorem tyV_is {pins:List (Addr×Obj)}{σ:St}{H:Hp}{s:Shared}{T:String}{x:V}{v:Value} (I:Inv X pins σ H s) (r:RelV x v) (ty:tyV X.K T x H) :
  s.TypeIs v T∧∀a,v=.ref a→∃ob,s.heap.get? a=some ob∧ob.dict=none:=by
 cases x with
 | str z =>
  obtain⟨t,rfl⟩:=r
  cases (show T="str" from ty)
  exact⟨typeIs_str s z t,fun _ e=>nomatch e⟩
 | int i =>
  obtain⟨t,rfl⟩:=r
  cases (show T="int" from ty)
  exact⟨typeIs_int s i t,fun _ e=>nomatch e⟩
 | ref p =>
  cases r
  rcases ty with ⟨rfl,xs,hq⟩ | ⟨rfl,o,hk,hc,hd⟩ | ⟨rfl,hk⟩ | ⟨rfl,S,n,hk⟩
  ·obtain⟨its,_,pl,_⟩:=I.list hq
   refine⟨pl.isList.typeIs,fun a e=>?_⟩
   cases e
   obtain⟨o,n,e,c,hd,_⟩:=pl
   exact⟨o,e,hd⟩
  ·refine⟨⟨o,I.kIn p o hk,hc⟩,fun a e=>?_⟩
   cases e
   exact⟨o,I.kIn _ o hk,hd⟩
  ·have z:∃o,s.heap.get? p=some o∧o.ExactDict:=by
    rcases hk with ⟨kvs,hk⟩ | ⟨kvs,hk⟩
    ·obtain⟨_,_,_,_,o,_,_,e,ex,_⟩:=I.hok p _ hk
     exact⟨o,e,ex⟩
    ·obtain⟨_,_,_,_,o,_,_,e,ex,_⟩:=I.hok p _ hk
     exact⟨o,e,ex⟩
   obtain⟨o,e,ex⟩:=z
   refine⟨⟨o,e,ex.1⟩,fun a e2=>?_⟩
   cases e2
   exact⟨o,e,ex.2.1⟩
  ·obtain⟨o,_,_,_,e,ex,_⟩:=I.hok p _ hk
   refine⟨⟨o,e,ex.1⟩,fun a e2=>?_⟩
   cases e2
   exact⟨o,e,ex.2.1⟩
 | _=>exact False.elim ty
def tBM0 (K:PySem.W.Frag) (T:String) (r:V→List V→Hp→VK→Prop) (to:TE):TE:=fun σ H Q=>to σ H fun x H1=>tyV K T x H1∧r x [] H1 Q
def tBM (K:PySem.W.Frag) (T:String) (r:V→List V→Hp→VK→Prop) (to:TE) (t:TA):TE:=fun σ H Q=>to σ H fun x H1=>tyV K T x H1∧t σ H1 fun xs H2=>r x xs H2 Q
variable {o e:Expr}{es:List Expr}{to:TE}{t:TA}{name:Str}{apos cpos:Pos}{T id:String}{r:V→List V→Hp→VK→Prop}
theorem pe_bm0 (pa:PlainAttrs T) (slot:Slot T name id) (hty:typeOf (.builtin id)=pure (.type "method_descriptor")) (hm:MtR X id r) (ho:PE X o to)
  (hbase:attributeBase o name X.env (eval o X.env)=eval o X.env:=by rfl) (hline:(apos.endLine == cpos.line)=true:=by rfl):PE X (.Call (.Attribute o name apos) [] [] cpos) (tBM0 X.K T r to):=by
 intro pins s σ H Q I h
 refine wpAny_Call_method0_late hbase hline (thn (ho pins s σ H _ I h) fun v s1 ⟨x,H1,I1,r1,ty,q1⟩=>?_)
 obtain⟨h1,h2⟩:=tyV_is I1 r1 ty
 exact⟨T,id,pa,slot,hty,h1,h2,Calls.callWith_builtin rfl (PySem.evalArgs_none (hm pins s1 σ H1 x [] v [] Q I1 r1 .nil q1))⟩
theorem pe_bm (pa:PlainAttrs T) (slot:Slot T name id) (hty:typeOf (.builtin id)=pure (.type "method_descriptor")) (hm:MtR X id r) (ho:PE X o to) (ha:PA X (e::es) t)
  (hbase:attributeBase o name X.env (eval o X.env)=eval o X.env:=by rfl)
  (hfew:((backTo cpos (starEach (e::es) X.env)).all (fun x=>!x.1) && (backToKw cpos (keywordEach [] X.env)).all (fun x=>x.1.isSome)
   && decide ((e::es).length+([]:List Keyword).length+(if ([]:List Keyword).isEmpty then 0 else 1) < 30))=true:=by rfl)
  (hline:(apos.endLine == cpos.line)=true:=by rfl) (hs:starEach (e::es) X.env=(false,eval e X.env)::starEach es X.env:=by rfl) (hplain:(backTo cpos (starEach es X.env)).any (·.1)=false:=by rfl) :
  PE X (.Call (.Attribute o name apos) (e::es) [] cpos) (tBM X.K T r to t):=by
 intro pins s σ H Q I h
 refine wpAny_Call_method_late hbase hfew hline rfl (thn (ho pins s σ H _ I h) fun v s1 ⟨x,H1,I1,r1,ty,q1⟩=>?_)
 obtain⟨h1,h2⟩:=tyV_is I1 r1 ty
 refine⟨T,id,pa,slot,hty,h1,h2,?_⟩
 have hA:=ha cpos pins s1 σ H1 _ I1 q1
 rw[hs] at hA ⊢
 refine Calls.callWith_builtin (by show (false || (backTo cpos (starEach es X.env)).any (·.1))=false; rw[hplain] <;> rfl) (Calls.evalArgs_plain ?_)
 exact thn hA fun us s2 ⟨vs,H2,I2,r2,q2⟩=>hm pins s2 σ H2 x vs v us Q I2 r1 r2 q2
end
end L2
namespace L2
open PySem PySem.Spec PyProof.Rows
def MtM (X:Cx) (id:String) (r:V→List V→Hp→VK→Prop):Prop :=
 ∀(pins:List (Addr×Obj)) (s:Shared) (σ:St) (H:Hp) (x:V) (xs:List V) (v:Value) (us:List Value) (Q:VK),Inv X pins σ H s→RelV x v→Vals xs us→r x xs H Q →
  wpAny (model X.prog X.w) X.A (call (.builtin id) (v::us)) (EP X pins σ Q) X.xe s
theorem Vals.one:∀{x:V}{us:List Value},Vals [x] us→∃u,us=[u]∧RelV x u
 | _,_,.cons r .nil=>⟨_,rfl,r⟩
theorem Vals.reverse {xs:List V}{us:List Value} (h:Vals xs us):Vals xs.reverse us.reverse:=by
 induction h with
 | nil=>exact .nil
 | cons r t ih=>rw[List.reverse_cons,List.reverse_cons]; exact Vals.append ih (.cons r .nil)
section
variable {X:Cx}{pins:List (Addr×Obj)}{σ:St}{H:Hp}{s:Shared}{l b:Addr}{xs ys zs:List V}
theorem Inv.lset {its its':List Value}{n:Nat}{f:Array Value→Array Value}{t':Nat} (I:Inv X pins σ H s) (hH:H l=some (.lst xs))
  (e:s.heap.get? l=some { cls:=.type "list",data:=.seq its.toArray n }) (hf:f its.toArray=its'.toArray) (hv:Vals ys its') (hz:ys.length≤sizeLine) :
  Inv X pins σ (upd H l (.lst ys)) { s with heap:=s.heap.update l (Obj.mapSeq f),toks:=t' }:=by
 have q:=PySem.IsL.update e f
 rw[hf] at q
 refine I.write (x:=l) (e:=l) (by rw[hH]; exact trivial) (.inl rfl) (fun b' u hb hu=>(Heap.get?_update_other s.heap (Obj.mapSeq f) (Ne.symm hb)).trans hu) ⟨_,q⟩ ?_
 exact⟨hz,its',_,hv,q⟩
theorem Inv.lnew {its:List Value}{t':Nat} (I:Inv X pins σ H s) (hv:Vals ys its) (hz:ys.length≤sizeLine) :
  Inv X pins σ (upd H s.heap.objs.size (.lst ys)) { s with heap:=s.heap.push { cls:=.type "list",data:=.seq its.toArray },toks:=t' } :=
 I.laid (fun _ _ q=>Heap.get?_push_of_some _ q) (Nat.le_refl _) ⟨hz,its,0,hv,Heap.get?_push_size _ rfl⟩
theorem Inv.fresh (I:Inv X pins σ H s):H s.heap.objs.size=none:=I.hok.fresh (Nat.le_refl _)
theorem Inv.lstM (I:Inv X pins σ H s) (hH:H l=some (.lst xs)):xs.length≤sizeLine∧∃(its:List Value) (n:Nat),Vals xs its∧xs.length=its.length∧s.heap.get? l=some { cls:=.type "list",data:=.seq its.toArray n }:=by
 obtain⟨z,its,n,r,e⟩:=I.hok l _ hH
 exact⟨z,its,n,r,r.length,e⟩
end
section
variable {X:Cx}
def rAppend:V→List V→Hp→VK→Prop:=fun x vs H Q=>∃l xs y,x=.ref l∧vs=[y]∧H l=some (.lst xs)∧xs.length < sizeLine∧Q .non (upd H l (.lst (xs++[y])))
theorem mt_append:MtM X "list.append" rAppend:=by
 intro pins s σ H x vs v us Q I rx rv h
 obtain⟨l,xs,y,rfl,rfl,hH,hz,q⟩:=h
 cases rx
 obtain⟨u,rfl,ru⟩:=rv.one
 obtain⟨z,its,n,r,hl,e⟩:=I.lstM hH
 refine call_meets F.slot_list_append ⟨_,e,rfl⟩ F.entry_list_append (F.args_list_append_2 _ _) (PySem.list_append l its.toArray n u (by rw[List.size_toArray]; omega)) ⟨e,?_⟩
 refine⟨.non,_,I.lset (its':=its++[u]) hH e (by simp) (r.append (.cons ru .nil)) ?_,rfl,q⟩
 rw[List.length_append,List.length_singleton]
 omega
def rCat:R2:=fun x y H Q=>∃l b xs zs,x=.ref l∧y=.ref b∧H l=some (.lst xs)∧H b=some (.lst zs)∧xs.length+zs.length≤sizeLine∧∀p,H p=none→Q (.ref p) (upd H p (.lst (xs++zs)))
theorem op_cat:OpR X (binaryOp .Add) rCat:=by
 intro pins s σ H x y v u Q I rx ry h
 obtain⟨l,b,xs,zs,rfl,rfl,hH,hB,hz,q⟩:=h
 cases rx
 cases ry
 obtain⟨z,its,n,r,hl,e⟩:=I.lstM hH
 obtain⟨z2,its2,n2,r2,hl2,e2⟩:=I.lstM hB
 refine PySem.P.add_list e e2 ?_ (by rw[List.size_toArray,List.size_toArray]; omega)
 have ea:its.toArray++its2.toArray=(its++its2).toArray:=by simp
 rw[ea]
 exact⟨.ref _,_,I.lnew (t':=s.toks) (r.append r2) (by rw[List.length_append]; omega),rfl,q _ I.fresh⟩
end
section
variable {prog:Program}{w:World}{A:Around}{E:Value→Shared→Prop}{s:Shared}
end
section
variable {X:Cx}
end
end L2
namespace Att
open PySem PySem.W PySem.Calls PyProof.Rows
theorem ints_of_wellAll {P:Params}{h:Heap}:∀(ns:List Int) (vs:List Value),WellAll P h vs (ns.map WData.int)→IntsAre vs ns:=by
 intro ns
 induction ns with
 | nil =>
  intro vs w
  rw[List.map_nil] at w
  cases w
  exact .nil
 | cons n ns ih =>
  intro vs w
  rw[List.map_cons] at w
  cases w with
  | cons a b =>
   cases a
   exact .cons _ _ (ih _ b)
theorem script_of {l:OpenLaw}{n:Nat} (hn:l.most=some n) {P:Params}{h:Heap}{args:List WData}{vals:List Value}
  (hpre:l.row.toRowW.claim.pre args=true) (hwl:WellAll P h vals args) :
  ∃a vs ns,vals=[Value.ref a]∧args=[WData.list (ns.map WData.int)]∧h.get? a=some { cls:=.type "list",data:=.seq vs.toArray }∧IntsAre vs ns∧ns.length≤n:=by
 have hsh:WShape.hasAll [] args [.list .int]=true:=(pre_splitW hpre).1
 have hc:l.pre.holds [] { args:=args }=true:=(pre_splitW hpre).2
 obtain⟨d,r,rfl,h1,h2⟩:=hasAllW_cons hsh
 obtain rfl:=hasAllW_nil h2
 obtain⟨xs,rfl,h3⟩:=hasW_list h1
 obtain⟨ns,rfl⟩:=items_int h3
 have hlen:ns.length≤n:=by
  unfold OpenLaw.pre at hc
  have h4:(WTm.not (.lt (.lit (.int (n:Int))) (.len (.arg 0)))).holds [] { args:=[.list (ns.map .int)] }=true:=by
   have h4:=(holds_andW hc).1
   rw[hn] at h4
   exact h4
  have h5:=condW_of h4 (w_not (w_lt w_lit (w_len_list (w_arg rfl))))
  rw[List.length_map] at h5
  refine Nat.le_of_not_lt fun q=>?_
  have q':(n:Int) < ((ns.length:Nat):Int):=by omega
  first
   | (rw[decide_eq_true q'] at h5; exact absurd h5 (by decide))
   | (simp at h5; omega)
 cases hwl with
 | cons w1 w2 =>
  cases w2
  cases w1 with
  | list ho hall=>exact⟨_,_,ns,rfl,rfl,ho,ints_of_wellAll ns _ hall,hlen⟩
theorem post_true (l:OpenLaw) (args:List WData):l.row.toRowW.claim.post args (.bool true) args=true :=
 postW_of (r:=l.row.toRowW) (X:=(true == true))
  (show WShape.has [] (.bool true) .bool=true by first | rfl | decide | simp [WShape.has,WShape.arms,WShape.armsAll])
  (show (WTm.eq .res (.lit (.bool true))).value [] { args:=args,res:=some (.bool true),after:=args }=some (.bool (true == true)) from w_eq_bool (w_res rfl) w_lit) rfl
theorem attach_call {l:OpenLaw}{n:Nat}{q:Program}{loose:List Str}{XP:(Str→Option Value)→Heap→Prop}{YP:World→Heap→Prop}{d:DefRec}
  (hn:l.most=some n) (hdf:d.params.defaults=[])
  (call:∀(w:World) (s₀ s₁:Shared) (mg mb:Str→Option Value) (fa:Addr) (o:Obj) (pm cd doc:Value) (a:Addr) (vs:List Value) (ns:List Int),
   Ground q loose [] XP w s₀ mg mb s₁.heap→YP w s₁.heap →
   s₁.heap.get? fa=some o→o.data=.func (docDef d.name d.params d.body d.scope pm cd doc)→s₁.heap.CodeRec cd d.name→mg d.name=some (.ref fa) →
   s₁.heap.get? a=some { cls:=.type "list",data:=.seq vs.toArray }→IntsAre vs ns→ns.length≤n→s₁.gens=#[] →
   codeAny (model l.prog w) callerA (.call (.ref fa) ⟨[.ref a],[]⟩) (fun r s'=>r=.ok (.ret (.bool true))∧OldK s₁.heap s'.heap∧s'.os=s₁.os∧AllBare s'.gens) s₁) :
  WalkO q loose XP YP l.row.toRowW d [] (fun f vs=>PySem.call f vs):=by
 intro w s₀ s₁ mg mb G Y fa o pm cd doc dV kV ho hd hcd hD hmg hg args vals as hpre hlay hrd hwl hlo
 obtain rfl:dV=.none:=Dflts.none hD hdf
 obtain rfl:kV=.none:=Dflts.noKw hD
 obtain⟨a,vs,ns,rfl,rfl,hobj,hints,hlen⟩:=script_of hn hpre hwl
 refine enter_call (codeAny_mono (call w s₀ s₁ mg mb fa o pm cd doc a vs ns G Y ho (fd_plain hd) hcd hmg hobj hints hlen hg) fun r s' hq=>?_)
 obtain⟨rfl,h2,h3,h4⟩:=hq
 exact⟨.inl ⟨.bool true,.bool true,[],rfl,fun _=>rfl,.bool true,post_true l _,fun _=>⟨List.Pairwise.nil,fun _ hm=>(nomatch hm)⟩⟩,h2,h3,h4⟩
section
variable {prog:Program}{w:World}{A:Around}{E:Value→Shared→Prop}{s:Shared}{K:Frag}
end
end Att
namespace L2
open PySem PySem.Spec PyProof.Rows
theorem vals_ints:∀{vs:List Value}{ns:List Int},IntsAre vs ns→Vals (ns.map V.int) vs
 | _,_,.nil=>.nil
 | _,_,.cons n t h=>.cons ⟨t,rfl⟩ (vals_ints h)
def Only (H:Hp):Prop:=∀b,H b=none∨∃o xs,H b=some (.frz o (.lst xs))
theorem law_call {P:Program}{w:World}{K:PySem.W.Frag}{mg mb:Str→Option Value}{CX:CXT}{k:Nat}{fa a:Addr}{fd:FuncData}{x:Str}{sp:Sp}{s₁:Shared}{vs:List Value}{ns:List Int}
  (KX:K.In s₁.heap) (hns:s₁.heap.Ns mainGlobals mg) (hb:s₁.heap.Ns builtinsNs mb) (hbb:∀x:Str,x≠"__name__"→mb x=bootBuiltins x) (hlim:s₁.heap.NoLimit) (hg:s₁.gens=#[])
  (ha:s₁.heap.get? a=some { cls:=.type "list",data:=.seq vs.toArray }) (hi:IntsAre vs ns) (hl:ns.length≤sizeLine) (hr:Room k callerA)
  (F:∀base:Heap,K.In base→base.Ns mainGlobals mg→FnOk P w K mg base CX k fa fd [x] sp) (hbind:∀(s:Shared) (u:Value),BindsTo s fd ⟨[u],[]⟩ [(x,u)])
  (hsp:∀H:Hp,Only H→SqL K H a (ns.map V.int)→sp [.ref a] H (fun v _=>v=.bl true) fun _ _ _=>False)
  (hCX:∀H e s',CX [] H s₁ (fun _ _ _=>False) e s'→False) :
  codeAny (model P w) callerA (.call (.ref fa) ⟨[.ref a],[]⟩) (fun r s'=>r=.ok (.ret (.bool true))∧OldK s₁.heap s'.heap∧s'.os=s₁.os∧AllBare s'.gens) s₁:=by
 have rv:=vals_ints hi
 have lenV:=hi.length
 have core:∀H:Hp,Only H→SqL K H a (ns.map V.int)→HOk P w H s₁.heap→(∀b,H b≠none→b=a)→(H a≠none→K.lookup a=none) →
   codeAny (model P w) callerA (.call (.ref fa) ⟨[.ref a],[]⟩) (fun r s'=>r=.ok (.ret (.bool true))∧OldK s₁.heap s'.heap∧s'.os=s₁.os∧AllBare s'.gens) s₁:=by
  intro H hO hS hok hA hK
  have base_of:∀{b:Addr}{o:Obj},s₁.heap.get? b=some o→H b=none→(hidT s₁.heap H).get? b=some o:=fun e n=>hidT_get e n
  have noA:∀{b:Addr}{o:Obj}{es:Array DictEntry}{ep:Nat},s₁.heap.get? b=some o→o.data=.dict es ep→H b=none:=fun {b o es ep} e d=>by
   cases q:H b with
   | none=>rfl
   | some u =>
    have e':b=a:=hA b (by rw[q]; simp)
    subst e'
    rw[ha] at e; cases e
    have d':Data.seq vs.toArray _=Data.dict es ep:=d
    cases d'
  have nsK:∀{b:Addr}{m:Str→Option Value},s₁.heap.Ns b m→(hidT s₁.heap H).Ns b m:=fun {b m} ⟨o,es,ep,e,d,r⟩=>⟨o,es,ep,base_of e (noA e d),d,r⟩
  have hKb:K.In (hidT s₁.heap H):=fun b o e=>base_of (KX b o e) (by
   cases q:H b with
   | none=>rfl
   | some u =>
    have e':b=a:=hA b (by rw[q]; simp)
    subst e'
    rw[hK (by rw[q]; simp)] at e; cases e)
  have hM:Mod K mg (hidT s₁.heap H):=⟨hKb,nsK hns,⟨mb,nsK hb,hbb⟩,let ⟨mc,h1,h2⟩:=hlim; ⟨mc,nsK h1,h2⟩⟩
  have e0:Env0 P w K mg (hidT s₁.heap H) callerA [] s₁ H:=⟨rfl,hM,fun b o e=>of_hidT e,Nat.le_of_eq (hidT_size _ _),trivial,fun b hb=>absurd (show b∈([]:List Addr) from hb) (by simp),hok,.of_eq hg⟩
  refine codeAny_mono ((F _ hKb (nsK hns)).run callerA [] s₁ H ⟨[.ref a],[]⟩ [.ref a] [.ref a] _ _ hr e0 (hbind s₁ (.ref a)) (.cons rfl .nil) (hsp H hO hS)) fun r s' h=>?_
  cases r with
  | error e=>exact (hCX H e s' h).elim
  | ok fl =>
   cases fl with
   | next=>exact False.elim h
   | brk=>exact False.elim h
   | cont=>exact False.elim h
   | ret u =>
    obtain⟨v,H',os,bare,un,hok',r',q⟩:=h
    have q':v=.bl true:=q
    subst q'
    obtain rfl:u=Value.bool true:=r'
    refine⟨rfl,OldK.of_keep fun b o e=>?_,os,bare⟩
    cases q:H b with
    | none=>exact un.keep b o e q (by intro z; exact absurd (show b∈([]:List Addr) from z) (by simp)) (by simp)
    | some u =>
     rcases hO b with z | ⟨ob,xs,z⟩
     ·rw[q] at z; cases z
     ·have z2:=un.frzs b ob _ z
      obtain⟨e1,_⟩:=hok b _ z
      obtain⟨e2,_⟩:=hok' b _ z2
      rw[e] at e1; cases e1
      exact e2
 cases hk:K.lookup a with
 | some o =>
  have e:=KX a o hk
  rw[ha] at e
  cases e
  refine core (fun _=>none) (fun _=>.inl rfl) (.inr ⟨_,vs.toArray,_,hk,rfl,rfl,rfl,by rw[List.size_toArray,lenV]; exact hl,by simpa using rv⟩) (fun b u z=>by have z':(none:Option HO)=some u:=z; cases z') (fun b z=>absurd rfl z) fun z=>absurd rfl z
 | none =>
  refine core (fun b=>if b=a then some (.frz { cls:=.type "list",data:=.seq vs.toArray } (.lst (ns.map V.int))) else none) (fun b=>?_) (.inl (.inr ⟨{ cls:=.type "list",data:=.seq vs.toArray },if_pos rfl⟩)) (fun b u z=>?_) (fun b z=>?_) fun _=>hk
  ·by_cases hb:b=a
   ·exact .inr ⟨_,_,if_pos hb⟩
   ·exact .inl (if_neg hb)
  ·by_cases hb:b=a
   ·have z':=(if_pos hb).symm.trans z
    cases z'
    subst hb
    exact⟨ha,by rw[List.length_map]; exact hl,vs,_,rv,ha⟩
   ·have z':=(if_neg hb).symm.trans z
    cases z'
  ·by_cases hb:b=a
   ·exact hb
   ·exact absurd (if_neg hb) z
end L2
namespace L2
open PySem PySem.Spec PyProof.Rows
theorem walk_of {l:PySem.W.OpenLaw}{n k:Nat}{q:Program}{loose:List Str}{XP:(Str→Option Value)→Heap→Prop}{YP:World→Heap→Prop}{d:DefRec}{K:Params→PySem.W.Frag}{CX:World→CXT}{sp:World→Sp}{x:Str}
  (hn:l.most=some n) (hn2:n≤sizeLine) (hdf:d.params.defaults=[]) (hr:Room k callerA)
  (hY:∀(w:World) (h:Heap),YP w h→(K w.params).In h)
  (F:∀(w:World) (mg:Str→Option Value) (fa:Addr) (h:Heap),(K w.params).In h→h.Ns mainGlobals mg→mg d.name=some (.ref fa) →
   ∃fd:FuncData,(∀(s:Shared) (u:Value),BindsTo s fd ⟨[u],[]⟩ [(x,u)]) ∧
    ∀base:Heap,(K w.params).In base→base.Ns mainGlobals mg→FnOk l.prog w (K w.params) mg base (CX w) k fa fd [x] (sp w))
  (hsp:∀(w:World) (H:Hp) (a:Addr) (ns:List Int),ns.length≤n→Only H→SqL (K w.params) H a (ns.map V.int)→sp w [.ref a] H (fun v _=>v=.bl true) fun _ _ _=>False)
  (hCX:∀(w:World) (H:Hp) (s:Shared) (e:Value) (s':Shared),CX w [] H s (fun _ _ _=>False) e s'→False) :
  PySem.W.WalkO q loose XP YP l.row.toRowW d [] (fun f vs=>PySem.call f vs):=by
 refine Att.attach_call hn hdf fun w s₀ s₁ mg mb fa o pm cd doc a vs ns G Y ho hd hcd hmg hobj hints hlen hg=>?_
 have KX:=hY w _ Y
 obtain⟨fd,hb,hF⟩:=F w mg fa _ KX G.T.g hmg
 exact law_call KX G.T.g G.T.b G.T.builtins G.T.nolimit hg hobj hints (Nat.le_trans hlen hn2) hr hF hb (fun H hO hS=>hsp w H a ns hlen hO hS) fun H e s'=>hCX w H s₁ e s'
end L2
namespace L2
open PySem PySem.Spec PyProof.Rows
def defArgs (s:Stmt):Arguments:=match s with
 | .FunctionDef _ a _ _ _ _ _ _ _ _=>a
 | _=>{ posonlyargs:=[],args:=[],vararg:=none,kwonlyargs:=[],kw_defaults:=[],kwarg:=none,defaults:=[] }
def defBody (s:Stmt):List Stmt:=match s with
 | .FunctionDef _ _ b _ _ _ _ _ _ _=>b
 | _=>[]
def defScope (s:Stmt):Scope:=match s with
 | .FunctionDef _ _ _ _ _ _ sc _ _ _=>sc
 | _=>{ kind:=.function,names:=[],isGenerator:=false,isCoroutine:=false }
abbrev CX0:CXT:=fun _ _ _ _ _ _=>False
abbrev E0:XK:=fun _ _ _=>False
theorem pass0 {X:Cx}:Passes CX0 X E0:=fun _ _ _ _ _ _ _ h=>h.elim
structure Fun (K:PySem.W.Frag) (x qual:Str) (st:Stmt) (f:Addr) (fd:FuncData):Prop where
 ex:∃(oc:Value) (od:Option Addr) (kV doc pm:Value) (an:Option Addr) (cdv ct:Value) (osl:Array (Option Value)),
  fd=PySem.W.fnOf x qual (defArgs st) (defBody st) (defScope st) .none kV doc pm an cdv ct∧K.lookup f=some ⟨oc,od,.func fd,osl⟩∧PySem.W.codeIn K cdv qual=true
 kp:PySem.W.keepIn K (.ref f)=true
section
variable {P:Program}{w:World}{K:PySem.W.Frag}{mg:Str→Option Value}{base:Heap}
theorem Fun.ok {x qual:Str}{st:Stmt}{f:Addr}{fd:FuncData}{N ps:List Str}{k:Nat}{sp:Sp} (F:Fun K x qual st f fd) (S:FnScope N ps (defScope st)) (len:∀vs H Q E,sp vs H Q E→vs.length=ps.length)
  (hbody:∀(cdv:Value) (A:Around) (outer:List Env) (s:Shared) (H:Hp) (vs:List V) (Q:VK) (E:XK),Room k (A.deeper (envOfC qual (defScope st) s.heap.objs.size f cdv))→sp vs H Q E →
   ∃t,PSs (cxOf CX0 P w K mg base N qual (defScope st) f cdv A outer s H E).nox (defBody st) t∧t { nx:=fun _ H'=>Q .non H',rt:=Q } (start N vs) H):FnOk P w K mg base CX0 (k+1) f fd ps sp:=by
 obtain⟨oc,od,kV,doc,pm,an,cdv,ct,osl,rfl,lk,hcd⟩:=F.ex
 refine fn_of lk hcd S len fun A outer s H vs Q E hr hsp=>?_
 obtain⟨t,h,q⟩:=hbody cdv A outer s H vs Q E hr hsp
 exact⟨t,h.nox,q⟩
theorem Fun.binds {x qual:Str}{st:Stmt}{f:Addr}{fd:FuncData}{ps:List Str} (F:Fun K x qual st f fd)
  (h:∀(kV doc pm:Value) (an:Option Addr) (cdv ct:Value) (us:List Value),us.length=ps.length→bindArgs (PySem.W.fnOf x qual (defArgs st) (defBody st) (defScope st) .none kV doc pm an cdv ct) ⟨us,[]⟩=pure (ps.zip us)):Binds K fd ps []:=by
 obtain⟨oc,od,kV,doc,pm,an,cdv,ct,osl,rfl,lk,hcd⟩:=F.ex
 exact .all (h kV doc pm an cdv ct)
theorem fun_mk {x qual:Str}{st:Stmt}{f:Addr}{oc:Value}{od an:Option Addr}{osl:Array (Option Value)}{kV doc pm cdv ct:Value} (l:K.lookup f=some ⟨oc,od,.func (PySem.W.fnOf x qual (defArgs st) (defBody st) (defScope st) .none kV doc pm an cdv ct),osl⟩)
  (c:PySem.W.codeIn K cdv qual=true) (k:PySem.W.keepIn K (.ref f)=true):Fun K x qual st f (PySem.W.fnOf x qual (defArgs st) (defBody st) (defScope st) .none kV doc pm an cdv ct):=⟨⟨oc,od,kV,doc,pm,an,cdv,ct,osl,rfl,l,c⟩,k⟩
end
theorem hu_of {A:Around}{k:Nat} (hr:Room k A):A.units+1 < cLine:=Nat.lt_of_le_of_lt (Nat.add_le_add_left (by decide:1≤64) _) hr.units
section
variable {X:Cx}
theorem pv (i:Nat) {x:Str}{pos:Pos} (hN:X.N[i]?=some x:=by rfl) (hv:Vis X.env.scope x:=by first | exact Or.inl rfl | exact Or.inr (Or.inl rfl) | exact Or.inr (Or.inr rfl)) (hd:(x == ("__debug__" : Str))=false:=by decide)
  (hcd:(x == ("__classdict__" : Str))=false:=by decide):PE X (.Name x pos) (tVar i):=pe_var hN hv hd hcd
end
theorem ite2 {c A B:Prop} [Decidable c] (h1:c→A) (h2:¬ c→B):if c then A else B:=by
 by_cases h:c
 ·rw[if_pos h]
  exact h1 h
 ·rw[if_neg h]
  exact h2 h
def Same (H H':Hp):Prop:=∀b o,H b=some o→H' b=some o
theorem Same.refl (H:Hp):Same H H:=fun _ _ h=>h
theorem Same.trans {H H1 H2:Hp} (a:Same H H1) (b:Same H1 H2):Same H H2:=fun c o h=>b c o (a c o h)
theorem Same.free {H H':Hp} (e:Same H H') {l:Addr} (h:H' l=Option.none):H l=Option.none:=by
 cases q:H l with
 | none=>rfl
 | some o =>
  rw[e l o q] at h
  cases h
theorem Same.seq {K:PySem.W.Frag}{H H':Hp}{a:Addr}{xs:List V} (e:Same H H') (h:SqL K H a xs):SqL K H' a xs:=by
 rcases h with (h | ⟨o,h⟩) | h
 ·exact .inl (.inl (e _ _ h))
 ·exact .inl (.inr ⟨o,e _ _ h⟩)
 ·exact .inr h
end L2
end
section
set_option maxRecDepth 100000
namespace L2
open PySem PySem.Spec PyProof.Rows
section
variable {κ : Type} [DecidableEq κ]
def valV (kvs:List (κ×V)) (k : κ):Option V:=(kvs.find? fun kv=>decide (kv.1=k)).map (·.2)
def putK (kvs:List (κ×V)) (k : κ) (v:V):List (κ×V) :=
 if (kvs.any fun kv=>decide (kv.1=k))=true then kvs.map (fun kv=>if kv.1=k then (kv.1,v) else kv) else kvs++[(k,v)]
def dropK (kvs:List (κ×V)) (k : κ):List (κ×V):=kvs.filter fun kv=>decide (kv.1≠k)
theorem valV_pos {p : κ×V}{r:List (κ×V)}{k : κ} (e:p.1=k):valV (p::r) k=some p.2:=by simp [valV,List.find?_cons,e]
theorem valV_neg {p : κ×V}{r:List (κ×V)}{k : κ} (e:¬ p.1=k):valV (p::r) k=valV r k:=by simp [valV,List.find?_cons,e]
theorem valV_any (k : κ):∀kvs:List (κ×V),(kvs.any fun kv=>decide (kv.1=k))=(valV kvs k).isSome
 | []=>rfl
 | p::r=>by
  rw[List.any_cons]
  by_cases e:p.1=k
  ·simp only[valV_pos e,decide_eq_true e,Bool.true_or,Option.isSome_some]
  ·rw[valV_neg e,decide_eq_false e,Bool.false_or]; exact valV_any k r
theorem length_putK (kvs:List (κ×V)) (k : κ) (v:V):(putK kvs k v).length≤kvs.length+1:=by
 unfold putK
 split
 ·rw[List.length_map]; omega
 ·rw[List.length_append,List.length_cons,List.length_nil]; omega
theorem RelO.isSome_eq {o:Option V}{u:Option Value} (r:RelO o u):o.isSome=u.isSome:=by
 cases o with
 | none=>cases u with
  | none=>rfl
  | some _=>exact (show False from r).elim
 | some _=>cases u with
  | none=>exact (show False from r).elim
  | some _=>rfl
theorem KV.val {kvs:List (κ×V)}{vs:List (κ×Value)} (r:KV kvs vs) (k : κ):RelO (valV kvs k) (valueAt vs k):=by
 unfold KV at r
 induction r with
 | nil=>exact True.intro
 | @cons p q ps qs h t ih =>
  obtain⟨h1,h2⟩:=h
  by_cases e:p.1=k
  ·have e':q.1=k:=h1.symm.trans e
   have b:valueAt (q::qs) k=some q.2:=by simp [valueAt,List.find?_cons,e']
   rw[valV_pos e,b]; exact h2
  ·have e':¬ q.1=k:=fun z=>e (h1.trans z)
   have b:valueAt (q::qs) k=valueAt qs k:=by simp [valueAt,List.find?_cons,e']
   rw[valV_neg e,b]; exact ih
theorem KV.any {kvs:List (κ×V)}{vs:List (κ×Value)} (r:KV kvs vs) (k : κ):(kvs.any fun kv=>decide (kv.1=k))=vs.any fun kv=>decide (kv.1=k):=by
 unfold KV at r
 induction r with
 | nil=>rfl
 | cons h t ih=>rw[List.any_cons,List.any_cons,ih,h.1]
theorem KV.repl {kvs:List (κ×V)}{vs:List (κ×Value)} (r:KV kvs vs) (k : κ) {y:V}{u:Value} (ry:RelV y u) :
  KV (kvs.map fun kv=>if kv.1=k then (kv.1,y) else kv) (vs.map fun kv=>if kv.1=k then (kv.1,u) else kv):=by
 unfold KV at r ⊢
 induction r with
 | nil=>exact .nil
 | @cons p q ps qs h t ih =>
  rw[List.map_cons,List.map_cons]
  refine .cons ?_ ih
  obtain⟨h1,h2⟩:=h
  by_cases e:p.1=k
  ·rw[if_pos e,if_pos (h1.symm.trans e)]; exact⟨h1,ry⟩
  ·rw[if_neg e,if_neg (fun z=>e (h1.trans z))]; exact⟨h1,h2⟩
theorem KV.put {kvs:List (κ×V)}{vs:List (κ×Value)} (r:KV kvs vs) (k : κ) {y:V}{u:Value} (ry:RelV y u):KV (putK kvs k y) (stored vs k u):=by
 unfold putK stored
 rw[r.any k]
 by_cases e:(vs.any fun kv=>decide (kv.1=k))=true
 ·rw[if_pos e,if_pos e]; exact r.repl k ry
 ·rw[if_neg e,if_neg e]; exact Paired.snoc r ⟨rfl,ry⟩
theorem KV.drop {kvs:List (κ×V)}{vs:List (κ×Value)} (r:KV kvs vs) (k : κ):KV (dropK kvs k) (without vs k):=by
 unfold KV at r ⊢
 unfold dropK without
 induction r with
 | nil=>exact .nil
 | @cons p q ps qs h t ih =>
  obtain⟨h1,h2⟩:=h
  rw[List.filter_cons,List.filter_cons]
  by_cases e:p.1=k
  ·have a:¬ decide (p.1≠k)=true:=by simp [e]
   have b:¬ decide (q.1≠k)=true:=by simp [h1.symm.trans e]
   rw[if_neg a,if_neg b]; exact ih
  ·have e':¬ q.1=k:=fun z=>e (h1.trans z)
   have a:decide (p.1≠k)=true:=by simp [e]
   have b:decide (q.1≠k)=true:=by simp [e']
   rw[if_pos a,if_pos b]; exact .cons ⟨h1,h2⟩ ih
theorem KV.keys {kvs:List (κ×V)}{vs:List (κ×Value)} (r:KV kvs vs):kvs.map (·.1)=vs.map (·.1):=by
 unfold KV at r
 induction r with
 | nil=>rfl
 | cons h t ih=>rw[List.map_cons,List.map_cons,ih,h.1]
theorem KV.length {kvs:List (κ×V)}{vs:List (κ×Value)} (r:KV kvs vs):kvs.length=vs.length:=Paired.length r
theorem dropK_le (kvs:List (κ×V)) (k : κ):(dropK kvs k).length≤kvs.length:=List.length_filter_le _ _
end
theorem kV_is {P:Program}{w:World}{k:Key}{u:Value} (r:RelV (kV k) u):(mixKind P w).is k u=true:=by
 cases k with
 | inl i=>obtain⟨t,e⟩:=(show ∃t,u=Value.int i t from r); subst e; exact mixKind_int P w i t
 | inr x=>obtain⟨t,e⟩:=(show ∃t,u=Value.str x t from r); subst e; exact mixKind_str P w x t
theorem items_are {P:Program}{w:World}:∀{ks:List Key}{us:List Value},Vals (ks.map kV) us→ItemsAre (mixKind P w) ks us
 | [],_,r=>by rw[List.map_nil] at r; cases r; exact .nil
 | k::ks,_,r=>by
  rw[List.map_cons] at r
  cases r with
  | cons h t=>exact .cons (kV_is h) (items_are t)
abbrev KT (H:Hp):List (List Key×V)→List (List Key×Addr×Value)→Prop:=Paired fun p q=>p.1=q.1∧H q.2.1=some (.tup (p.1.map kV))∧RelV p.2 q.2.2
theorem KT.val {H:Hp}{kvs:List (List Key×V)}{xs:List (List Key×Addr×Value)} (r:KT H kvs xs) (k:List Key):RelO (valV kvs k) ((atKey xs k).map (·.2)):=by
 induction r with
 | nil=>exact True.intro
 | @cons p q ps qs h t ih =>
  obtain⟨h1,_,h2⟩:=h
  by_cases e:p.1=k
  ·have e':q.1=k:=h1.symm.trans e
   have b:atKey (q::qs) k=some q.2:=by simp [atKey,List.find?_cons,e']
   rw[valV_pos e,b]; exact h2
  ·have e':¬ q.1=k:=fun z=>e (h1.trans z)
   have b:atKey (q::qs) k=atKey qs k:=by simp [atKey,List.find?_cons,e']
   rw[valV_neg e,b]; exact ih
theorem KT.repl {H:Hp}{kvs:List (List Key×V)}{xs:List (List Key×Addr×Value)} (r:KT H kvs xs) (k:List Key) {y:V}{u:Value} (ry:RelV y u) :
  KT H (kvs.map fun kv=>if kv.1=k then (kv.1,y) else kv) (xs.map (putAt k u)):=by
 induction r with
 | nil=>exact .nil
 | @cons p q ps qs h t ih =>
  rw[List.map_cons,List.map_cons]
  refine .cons ?_ ih
  obtain⟨h1,h2,h3⟩:=h
  unfold putAt
  by_cases e:p.1=k
  ·rw[if_pos e,if_pos (h1.symm.trans e)]; exact⟨h1,h2,ry⟩
  ·rw[if_neg e,if_neg (fun z=>e (h1.trans z))]; exact⟨h1,h2,h3⟩
theorem KT.put {H:Hp}{kvs:List (List Key×V)}{xs:List (List Key×Addr×Value)} (r:KT H kvs xs) (k:List Key) {b:Addr}{y:V}{u:Value} (hb:H b=some (.tup (k.map kV))) (ry:RelV y u) :
  KT H (putK kvs k y) (storedH xs k b u):=by
 have e:(kvs.any fun kv=>decide (kv.1=k))=(atKey xs k).isSome:=by
  rw[valV_any,(r.val k).isSome_eq,Option.isSome_map]
 unfold putK storedH
 rw[e]
 by_cases q:(atKey xs k).isSome=true
 ·rw[if_pos q,if_pos q]; exact r.repl k ry
 ·rw[if_neg q,if_neg q]; exact Paired.snoc r ⟨rfl,hb,ry⟩
theorem KT.keeps {H H':Hp}{kvs:List (List Key×V)}{xs:List (List Key×Addr×Value)} (r:KT H kvs xs) (ht:∀b ys,H b=some (.tup ys)→H' b=some (.tup ys)):KT H' kvs xs :=
 Paired.mapP r fun _ _ z=>⟨z.1,ht _ _ z.2.1,z.2.2⟩
section
variable {P:Program}{w:World}{H:Hp}{h:Heap}{a:Addr}
theorem rd_of {u:HO} (ok:HOk P w H h) (e:Rd H a u):ObjOk P w H h a u:=e.ok ok
theorem dk_rd {kvs:List (Key×V)} (ok:HOk P w H h) (e:Rd H a (.dK kvs)):kvs.length≤sizeLine∧(a == sysModules)=false∧∃vs,KV kvs vs∧h.DictOf (mixKind P w) a vs :=
 show ObjOk P w H h a (.dK kvs) from rd_of ok e
theorem dk_of {kvs:List (Key×V)} (ok:HOk P w H h) (e:H a=some (.dK kvs)):kvs.length≤sizeLine∧(a == sysModules)=false∧∃vs,KV kvs vs∧h.DictOf (mixKind P w) a vs:=dk_rd ok (.inl e)
theorem key_of {ks:List Key} (ok:HOk P w H h) (e:H a=some (.tup (ks.map kV))):(tupleKind (mixKind P w)).is h ks a:=by
 obtain⟨_,its,r,o,h1,h2,n,h3⟩:=(show ObjOk P w H h a (.tup (ks.map kV)) from ok a _ e)
 exact⟨o,its.toArray,n,h1,h2,h3,by simpa using items_are r⟩
theorem dt_rd {kvs:List (List Key×V)} (ok:HOk P w H h) (e:Rd H a (.dT kvs)):kvs.length≤sizeLine∧(a == sysModules)=false ∧
  ∃xs,KT H kvs xs∧h.DictOfH (tupleKind (mixKind P w)) a xs:=by
 obtain⟨z,y,xs,r,o,es,ep,h1,h2,h3,h4,h5⟩:=(show ObjOk P w H h a (.dT kvs) from rd_of ok e)
 refine⟨z,y,xs,r,o,es,ep,h1,h2,h3,h4,fun x hx=>?_,h5⟩
 have all:∀{l:List (List Key×V)}{m:List (List Key×Addr×Value)},KT H l m→∀x∈m,(tupleKind (mixKind P w)).is h x.1 x.2.1:=by
  intro l m q
  induction q with
  | nil=>intro x hx; exact nomatch hx
  | @cons p q ps qs hq t ih =>
   intro x hx
   rcases List.mem_cons.mp hx with e | hx
   ·subst e
    exact key_of ok (by rw[← hq.1]; exact hq.2.1)
   ·exact ih x hx
 exact all r x hx
theorem dt_of {kvs:List (List Key×V)} (ok:HOk P w H h) (e:H a=some (.dT kvs)):kvs.length≤sizeLine∧(a == sysModules)=false ∧
  ∃xs,KT H kvs xs∧h.DictOfH (tupleKind (mixKind P w)) a xs:=dt_rd ok (.inl e)
end
def DGet (H:Hp) (a:Addr) (y:V) (r:Option V):Prop :=
 (∃kvs k,Rd H a (.dK kvs)∧y=kV k∧r=valV kvs k)∨∃kvs k b,Rd H a (.dT kvs)∧y=.ref b∧H b=some (.tup (k.map kV))∧r=valV kvs k
def DPut (H:Hp) (a:Addr) (y v:V) (H':Hp):Prop :=
 (∃kvs k,H a=some (.dK kvs)∧y=kV k∧kvs.length < sizeLine∧H'=upd H a (.dK (putK kvs k v))) ∨
 ∃kvs k b,H a=some (.dT kvs)∧y=.ref b∧H b=some (.tup (k.map kV))∧kvs.length < sizeLine∧H'=upd H a (.dT (putK kvs k v))
section
variable {X:Cx}{pins:List (Addr×Obj)}{σ:St}{H:Hp}{s:Shared}{a:Addr}{y v:V}{u r:Value}{o:Option V}{A:Around}{E:Value→Shared→Prop}
theorem Inv.big (I:Inv X pins σ H s):sysModules < s.heap.objs.size:=by
 have h:mainGlobals < s.heap.objs.size:=(I.mod.glob.keeps I.bk).lt
 exact Nat.lt_trans (by decide) h
theorem d_getItem {Q:Value→Shared→Prop} (hu:A.units+1 < cLine) (I:Inv X pins σ H s) (g:DGet H a y (some v)) (ry:RelV y u) (h:∀w' s',Inv X pins σ H s'→RelV v w'→Q w' s') :
  wpAny (model X.prog X.w) A (getItem (.ref a) u) Q E s:=by
 rcases g with ⟨kvs,k,e,ey,l⟩ | ⟨kvs,k,b,e,ey,eb,l⟩
 ·subst ey
  obtain⟨z,hd,vs,rel,dd⟩:=dk_rd I.hok e
  obtain⟨w',hw,rw'⟩:=RelO.some_of (v:=v) (o:=valueAt vs k) (by rw[l]; exact rel.val k)
  exact wpAny_getItem_of (kV_is ry) dd.mapOf hw (h w' _ (I.tok _) rw')
 ·subst ey
  cases (show u=Value.ref b from ry)
  obtain⟨z,hd,xs,rel,dd⟩:=dt_rd I.hok e
  obtain⟨w',hw,rw'⟩:=RelO.some_of (v:=v) (o:=(atKey xs k).map (·.2)) (by rw[l]; exact rel.val k)
  obtain⟨p,hp,hp2⟩:=Option.map_eq_some_iff.mp hw
  refine wpAny_getItem_heap (tupleKind_room_in1 hu) (key_of I.hok eb) dd hp ?_
  rw[hp2]
  exact h w' _ (I.tok _) rw'
theorem d_in {Q:Value→Shared→Prop} (hu:A.units+1 < cLine) (I:Inv X pins σ H s) (g:DGet H a y o) (ry:RelV y u) (h:∀s',Inv X pins σ H s'→Q (.bool o.isSome) s') :
  wpAny (model X.prog X.w) A (compareOp .In u (.ref a)) Q E s:=by
 rcases g with ⟨kvs,k,e,ey,l⟩ | ⟨kvs,k,b,e,ey,eb,l⟩
 ·subst ey
  obtain⟨z,hd,vs,rel,dd⟩:=dk_rd I.hok e
  refine wpAny_in_of (kV_is ry) hd dd.mapOf ?_
  rw[← (rel.val k).isSome_eq,← l]
  exact h _ (I.tok _)
 ·subst ey
  cases (show u=Value.ref b from ry)
  obtain⟨z,hd,xs,rel,dd⟩:=dt_rd I.hok e
  refine wpAny_in_heap (tupleKind_room_in1 hu) (key_of I.hok eb) hd dd ?_
  have q:=(rel.val k).isSome_eq
  rw[Option.isSome_map] at q
  rw[← q,← l]
  exact h _ (I.tok _)
theorem d_notIn {Q:Value→Shared→Prop} (hu:A.units+1 < cLine) (I:Inv X pins σ H s) (g:DGet H a y o) (ry:RelV y u) (h:∀s',Inv X pins σ H s'→Q (.bool (!o.isSome)) s') :
  wpAny (model X.prog X.w) A (compareOp .NotIn u (.ref a)) Q E s:=by
 rcases g with ⟨kvs,k,e,ey,l⟩ | ⟨kvs,k,b,e,ey,eb,l⟩
 ·subst ey
  obtain⟨z,hd,vs,rel,dd⟩:=dk_rd I.hok e
  refine wpAny_notIn_of (kV_is ry) hd dd.mapOf ?_
  rw[← (rel.val k).isSome_eq,← l]
  exact h _ (I.tok _)
 ·subst ey
  cases (show u=Value.ref b from ry)
  obtain⟨z,hd,xs,rel,dd⟩:=dt_rd I.hok e
  refine wpAny_notIn_heap (tupleKind_room_in1 hu) (key_of I.hok eb) hd dd ?_
  have q:=(rel.val k).isSome_eq
  rw[Option.isSome_map] at q
  rw[← q,← l]
  exact h _ (I.tok _)
theorem d_write {h':Heap}{t':Nat}{ob:HO} (I:Inv X pins σ H s) (mu:Mut (H a)) (hs:Heap.SameBut a s.heap h') (he:∃q,h'.get? a=some q) (new:ObjOk X.prog X.w (upd H a ob) h' a ob) :
  Inv X pins σ (upd H a ob) { s with heap:=h',toks:=t' } :=
 I.write (x:=a) (e:=a) mu (.inl rfl) (fun b q hb z=>(hs.2 b hb).trans z) he new
theorem dk_new {P:Program}{w:World}{H':Hp}{h':Heap}{kvs:List (Key×V)}{vs:List (Key×Value)} (z:kvs.length≤sizeLine) (hd:(a == sysModules)=false) (rel:KV kvs vs) (dd:h'.DictOf (mixKind P w) a vs) :
  ObjOk P w H' h' a (.dK kvs):=⟨z,hd,vs,rel,dd⟩
theorem d_setItem {H':Hp}{Q:Unit→Shared→Prop} (hu:A.units+1 < cLine) (I:Inv X pins σ H s) (g:DPut H a y v H') (ry:RelV y u) (rv:RelV v r) (h:∀s',Inv X pins σ H' s'→Q () s') :
  wpAny (model X.prog X.w) A (setItem (.ref a) u r) Q E s:=by
 rcases g with ⟨kvs,k,e,ey,l,eH⟩ | ⟨kvs,k,b,e,ey,eb,l,eH⟩
 ·subst ey eH
  obtain⟨z,hd,vs,rel,dd⟩:=dk_of I.hok e
  have hz:vs.length≤sizeLine:=by rw[← rel.length]; exact z
  have hl:(putK kvs k v).length≤sizeLine:=by have:=length_putK kvs k v; omega
  refine wpAny_setItem_pairs (hsz:=hz) (kV_is ry) dd fun h' dd' hs=>h _ ?_
  have he:∃q,h'.get? a=some q:=let ⟨q,_,_,hq,_⟩:=dd'; ⟨q,hq⟩
  exact d_write I (by rw[e]; exact True.intro) hs he (dk_new hl hd (rel.put k rv) dd')
 ·subst ey eH
  cases (show u=Value.ref b from ry)
  obtain⟨z,hd,xs,rel,dd⟩:=dt_of I.hok e
  have hz:xs.length≤sizeLine:=by rw[← Paired.length rel]; exact z
  have hl:(putK kvs k v).length≤sizeLine:=by have:=length_putK kvs k v; omega
  refine wpAny_setItem_heap (hsz:=hz) (tupleKind_room_in1 hu) (key_of I.hok eb) dd fun h' dd' hs=>h _ ?_
  obtain⟨q,es,ep,hq,h2,h3,h4,_,h5⟩:=dd'
  refine d_write I (by rw[e]; exact True.intro) hs ⟨q,hq⟩ ⟨hl,hd,_,(rel.put k eb rv).keeps fun c ys ec=>?_,q,es,ep,hq,h2,h3,h4,h5⟩
  rw[upd_ne (ne_of ec e (fun z=>nomatch z))]
  exact ec
end
section
variable {X:Cx}{pins:List (Addr×Obj)}{σ:St}{H:Hp}{s:Shared}{a:Addr}{kvs:List (Key×V)}{k:Key}{u:Value}{A:Around}{E:Value→Shared→Prop}
theorem d_pop {v:V}{more:List Value}{Q:Value→Shared→Prop} (I:Inv X pins σ H s) (e:H a=some (.dK kvs)) (ry:RelV (kV k) u) (l:valV kvs k=some v) (hm:more=[]∨∃x,more=[x])
  (h:∀w' s',Inv X pins σ (upd H a (.dK (dropK kvs k))) s'→RelV v w'→Q w' s'):wpAny (model X.prog X.w) A (call (.builtin "dict.pop") (.ref a::u::more)) Q E s:=by
 obtain⟨z,hd,vs,rel,dd⟩:=dk_of I.hok e
 obtain⟨w',hw,rw'⟩:=RelO.some_of (v:=v) (o:=valueAt vs k) (by rw[← l]; exact rel.val k)
 have hp:(keyPart u).isSome=true:=by
  cases k with
  | inl i=>obtain⟨t,q⟩:=(show ∃t,u=Value.int i t from ry); subst q; rfl
  | inr x=>obtain⟨t,q⟩:=(show ∃t,u=Value.str x t from ry); subst q; rfl
 have ha:argsOk "dict.pop" ⟨.ref a::u::more,[]⟩:=by
  rcases hm with q | ⟨x,q⟩
  ·subst q; exact PySem.F.args_dict_pop_2 _ _
  ·subst q; exact PySem.F.args_dict_pop_3 _ _ _
 refine call_meetsIn PySem.F.slot_dict_pop dd.typeIs PySem.F.entry_dict_pop ha (meets_dict_pop_there (mixKind X.prog X.w) a (kV_is ry) more hm hp)
  ⟨vs,w',dd,by rw[← rel.length]; exact z,hw,fun h' dd' hs=>h w' _ ?_ rw'⟩
 have he:∃q,h'.get? a=some q:=let ⟨q,_,_,hq,_⟩:=dd'; ⟨q,hq⟩
 exact d_write I (by rw[e]; exact True.intro) hs he (dk_new (Nat.le_trans (dropK_le kvs k) z) hd (rel.drop k) dd')
theorem d_len {Q:Value→Shared→Prop} (I:Inv X pins σ H s) (e:Rd H a (.dK kvs)) (h:∀t s',Inv X pins σ H s'→Q (.int kvs.length t) s'):wpAny (model X.prog X.w) A (call (.builtin "len") [.ref a]) Q E s:=by
 obtain⟨z,hd,vs,rel,dd⟩:=dk_rd I.hok e
 refine call_len_dict hd dd (by rw[← rel.length]; rw[sizeLine_eq] at z; omega) ?_
 rw[← rel.length]
 exact h _ _ (I.tok _)
end
def NoSl (i:Expr):Prop:=∀ov iv,subscripted i false ov iv=operate [ov,iv] (getItem ov iv)
theorem subD_of {prog:Program}{w:World}{A:Around}{E:Value→Shared→Prop}{s:Shared}{env:Env}{value slice:Expr}{pos:Pos}{T id:String}{Q:Value→Shared→Prop}
  (hl:typeLookup (.type T) "__getitem__"=pure (some (.builtin id))) (hs:NoSl slice)
  (h:wpAny (model prog w) A (eval value env) (fun o s₁=>wpAny (model prog w) A (eval slice env) (fun i s₂=>s₂.TypeIs o T∧wpAny (model prog w) A (getItem o i) Q E s₂) E s₁) E s) :
  wpAny (model prog w) A (eval (.Subscript value slice pos) env) Q E s:=by
 refine Subscript_ (wpAny_mono h (fun o s₁ h₁=>wpAny_mono h₁ (fun i s₂ h₂=>?_) fun _ _ x=>x) fun _ _ x=>x)
 obtain⟨hT,h₂⟩:=h₂
 unfold subscriptTail
 refine wpAny_bind ?_
 rw[getitemInPython_of_ne hT.not_modules]
 refine wpAny_bind (wpAny_specialOf hT hl ?_)
 have fin:wpAny (model prog w) A (subscripted slice false o i) (fun r s₃=>wpAny (model prog w) A (letTemporaryGo value o r >>= fun _=>pure r) Q E s₃) E s₂:=by
  rw[hs o i]
  exact wpAny_operating (wpAny_mono h₂ (fun r s₃ h₃=>wpAny_bind (wpAny_letTemporaryGo (wpAny_pure h₃))) fun _ _ x=>x)
 first
  | exact wpAny_pure (wpAny_bind fin)
  | exact wpAny_bind (wpAny_pure (wpAny_bind fin))
  | exact wpAny_bind fin
theorem dict_typeIs {X:Cx}{pins:List (Addr×Obj)}{σ:St}{H:Hp}{s:Shared}{a:Addr}{y:V}{o:Option V} (I:Inv X pins σ H s) (g:DGet H a y o):s.TypeIs (.ref a) "dict":=by
 rcases g with ⟨kvs,k,e,_,_⟩ | ⟨kvs,k,b,e,_,_,_⟩
 ·obtain⟨_,_,vs,_,dd⟩:=dk_rd I.hok e
  exact dd.typeIs
 ·obtain⟨_,_,xs,_,dd⟩:=dt_rd I.hok e
  exact dd.typeIs
def tDGet (td ty:TE):TE:=fun σ H Q=>td σ H fun x H1=>ty σ H1 fun y H2=>∃a v,x=.ref a∧DGet H2 a y (some v)∧Q v H2
def tDNotIn (ty td:TE):TE:=fun σ H Q=>ty σ H fun y H1=>td σ H1 fun x H2=>∃a o,x=.ref a∧DGet H2 a y o∧Q (.bl (!o.isSome)) H2
def sDPut (td ty tv:TE):TS:=fun D σ H=>tv σ H fun v H1=>td σ H1 fun x H2=>ty σ H2 fun y H3=>∃a H4,x=.ref a∧DPut H3 a y v H4∧D.nx σ H4
section
variable {X:Cx}{o i e value:Expr}{pos pos' tpos:Pos}{td ty tv:TE}
theorem pe_dget (hu:X.A.units+1 < cLine) (ho:PE X o td) (hi:PE X i ty) (hs:NoSl i):PE X (.Subscript o i pos) (tDGet td ty):=by
 intro pins s σ H Q I h
 refine subD_of PySem.F.slot_dict_getitem.lookup hs (thn (ho pins s σ H _ I h) fun u s1 ⟨x,H1,I1,rx,q1⟩=>thn (hi pins s1 σ H1 _ I1 q1) fun iv s2 ⟨y,H2,I2,ry,a,v,ex,g,q2⟩=>?_)
 subst ex
 obtain rfl:u=Value.ref a:=rx
 exact⟨dict_typeIs I2 g,d_getItem hu I2 g ry fun w' s3 I3 rw'=>⟨v,H2,I3,rw',q2⟩⟩
theorem pc_dnotin (hu:X.A.units+1 < cLine) (hi:PE X i ty) (ho:PE X o td):PC X .NotIn i o (tDNotIn ty td):=by
 intro pins s σ H Q I h
 refine thn (hi pins s σ H _ I h) fun iv s1 ⟨y,H1,I1,ry,q1⟩=>thn (ho pins s1 σ H1 _ I1 q1) fun u s2 ⟨x,H2,I2,rx,a,ov,ex,g,q2⟩=>?_
 subst ex
 obtain rfl:u=Value.ref a:=rx
 exact d_notIn hu I2 g ry fun s3 I3=>⟨.bl (!ov.isSome),H2,I3,rfl,q2⟩
theorem ps_dput (hu:X.A.units+1 < cLine) (ho:PE X o td) (hi:PE X i ty) (hv:PE X value tv) (hs:swapsWith value (some (.Subscript o i pos')) pos.line X.env=pure false) :
  PS X (.Assign [.Subscript o i pos'] value pos) (sDPut td ty tv):=by
 intro pins s σ H D I h
 refine wpAny_Assign_Subscript (thn (hv pins s σ H _ I h) fun r s1 ⟨v,H1,I1,rv,q1⟩=>thn (ho pins s1 σ H1 _ I1 q1) fun u s2 ⟨x,H2,I2,rx,q2⟩=>thn (hi pins s2 σ H2 _ I2 q2) fun iv s3 ⟨y,H3,I3,ry,a,H4,ex,g,q3⟩=>?_) hs
 subst ex
 obtain rfl:u=Value.ref a:=rx
 exact d_setItem hu I3 g ry rv fun s4 I4=>⟨σ,H4,I4,q3⟩
end
theorem dk_empty {P:Program}{w:World}{H:Hp} (h:Heap) (hb:sysModules < h.objs.size):ObjOk P w H (h.push { cls:=.type "dict",data:=.dict #[] }) h.objs.size (.dK []) :=
 ⟨Nat.zero_le _,beq_eq_false_iff_ne.mpr (Ne.symm (Nat.ne_of_lt hb)),[],.nil,Heap.DictOf.new h⟩
def tDNewK:TE:=fun _ H Q=>∀p,H p=none→Q (.ref p) (upd H p (.dK []))
section
variable {X:Cx}{pos:Pos}
theorem pe_dnewK:PE X (.Dict [] [] pos) tDNewK:=fun pins s σ H Q I h =>
 wpAny_Dict_empty ⟨.ref s.heap.objs.size,_,I.laid (a:=s.heap.objs.size) (o:=.dK []) (t':=s.toks) (fun _ _ q=>Heap.get?_push_of_some _ q) (Nat.le_refl _) (dk_empty s.heap I.big),rfl,h _ (I.hok.fresh (Nat.le_refl _))⟩
end
def tPairs:List (TE×TE)→St→Hp→(List (V×V)→Hp→Prop)→Prop
 | [],_,H,Q=>Q [] H
 | (tk,tv)::r,σ,H,Q=>tk σ H fun x H1=>tv σ H1 fun y H2=>tPairs r σ H2 fun ps H3=>Q ((x,y)::ps) H3
abbrev VV:List (V×V)→List (Value×Value)→Prop:=Paired fun p q=>RelV p.1 q.1∧RelV p.2 q.2
def PPs (X:Cx) (pos:Pos) (keys:List (Option Expr)) (values:List Expr) (trs:List (TE×TE)):Prop :=
 ∀(pins:List (Addr×Obj)) (s:Shared) (σ:St) (H:Hp) (Q:List (V×V)→Hp→Prop),Inv X pins σ H s→tPairs trs σ H Q →
  wpAny (model X.prog X.w) X.A (evalPairs (pairTrees keys values X.env pos)) (fun vs s'=>∃ps H',Inv X pins σ H' s'∧VV ps vs∧Q ps H') X.xe s
theorem pps_nil {X:Cx}{pos:Pos}:PPs X pos [] [] []:=fun pins s σ H Q I h=>pairTrees_nil_walk ⟨[],H,I,.nil,h⟩
theorem pps_cons {X:Cx}{pos:Pos}{k v:Expr}{ks:List (Option Expr)}{vs:List Expr}{tk tv:TE}{trs:List (TE×TE)} (hk:PE X k tk) (hv:PE X v tv) (hr:PPs X pos ks vs trs) :
  PPs X pos (some k::ks) (v::vs) ((tk,tv)::trs):=fun pins s σ H Q I h =>
 pairTrees_cons_walk (thn (hk pins s σ H _ I h) fun u s1 ⟨x,H1,I1,rx,q1⟩=>thn (hv pins s1 σ H1 _ I1 q1) fun w2 s2 ⟨y,H2,I2,ry,q2⟩ =>
  thn (hr pins s2 σ H2 _ I2 q2) fun ws s3 ⟨ps,H3,I3,rel,q3⟩=>⟨(x,y)::ps,H3,I3,.cons ⟨rx,ry⟩ rel,q3⟩)
def mergeK (kvs more:List (Key×V)):List (Key×V):=more.foldl (fun acc kv=>putK acc kv.1 kv.2) kvs
theorem KV.merge:∀{more:List (Key×V)}{rs:List (Key×Value)}{kvs:List (Key×V)}{vs:List (Key×Value)},KV more rs→KV kvs vs→KV (mergeK kvs more) (merged vs rs):=by
 intro more rs kvs vs r
 unfold KV at r
 induction r generalizing kvs vs with
 | nil=>intro q; exact q
 | @cons p q ps qs h t ih =>
  intro r0
  have e:KV (putK kvs p.1 p.2) (stored vs q.1 q.2):=by
   have:=r0.put p.1 h.2
   rw[← h.1]; exact this
  exact ih e
theorem length_mergeK:∀(more kvs:List (Key×V)),(mergeK kvs more).length≤kvs.length+more.length
 | [],kvs=>by show kvs.length≤kvs.length+0; omega
 | p::r,kvs=>by
  have h1:=length_mergeK r (putK kvs p.1 p.2)
  have h2:=length_putK kvs p.1 p.2
  show (mergeK (putK kvs p.1 p.2) r).length≤_
  rw[List.length_cons]; omega
theorem carries_of {P:Program}{w:World}:∀{kvs:List (Key×V)}{ws:List (Value×Value)},VV (kvs.map fun kv=>(kV kv.1,kv.2)) ws→∃rs,Carries (mixKind P w) ws rs∧KV kvs rs
 | [],_,r=>by rw[List.map_nil] at r; cases r; exact⟨[],True.intro,.nil⟩
 | p::kvs,_,r=>by
  rw[List.map_cons] at r
  cases r with
  | @cons a b as bs h t =>
   obtain⟨rs,c,q⟩:=carries_of (P:=P) (w:=w) t
   obtain⟨b1,b2⟩:=b
   exact⟨(p.1,b2)::rs,⟨kV_is h.1,rfl,c⟩,.cons ⟨rfl,h.2⟩ q⟩
def tDisp (trs:List (TE×TE)):TE:=fun σ H Q=>∀p,H p=none→tPairs trs σ (upd H p (.dK [])) fun ps H2=>H2 p=some (.dK [])∧∃kvs:List (Key×V),ps=kvs.map (fun kv=>(kV kv.1,kv.2))∧kvs.length≤15∧Q (.ref p) (upd H2 p (.dK (mergeK [] kvs)))
theorem pe_disp {X:Cx}{pos:Pos}{keys:List (Option Expr)}{values:List Expr}{trs:List (TE×TE)} (h:PPs X pos keys values trs) (hall:keys.all (·.isSome)=true) (hl:keys.length=values.length) (h0:keys≠[])
  (h15:keys.length≤15):PE X (.Dict keys values pos) (tDisp trs):=by
 intro pins s σ H Q I q
 have hn:=I.hok.fresh (Nat.le_refl s.heap.objs.size)
 have I1:=I.laid (a:=s.heap.objs.size) (o:=.dK []) (h':=s.heap.push { cls:=.type "dict",data:=.dict #[] }) (t':=s.toks) (fun _ _ q=>Heap.get?_push_of_some _ q) (Nat.le_refl _) (dk_empty s.heap I.big)
 refine wpAny_Dict_walk (knd:=mixKind X.prog X.w) hall hl h0 h15 (thn (h pins _ σ _ _ I1 (q _ hn)) fun ws s2 ⟨ps,H2,I2,rel,e,kvs,ep,lk,q2⟩=>?_)
 subst ep
 obtain⟨rs,c,rk⟩:=carries_of (P:=X.prog) (w:=X.w) rel
 obtain⟨z,hd,vs0,r0,dd⟩:=dk_of I2.hok e
 cases r0
 refine⟨rs,c,dd,fun h' dd' hs=>⟨.ref s.heap.objs.size,_,?_,rfl,q2⟩⟩
 have hz:(mergeK [] kvs).length≤sizeLine:=by
  have h1:=length_mergeK kvs []
  rw[List.length_nil] at h1
  rw[sizeLine_eq]; omega
 have he:∃q,h'.get? s.heap.objs.size=some q:=let ⟨q,_,_,hq,_⟩:=dd'; ⟨q,hq⟩
 exact d_write I2 (by rw[e]; exact True.intro) hs he (dk_new hz hd (rk.merge .nil) dd')
structure M1 (X:Cx) (o:Expr) (m:Str) (apos:Pos) (e:Expr) (cpos:Pos):Prop where
 base:attributeBase o m X.env (eval o X.env)=eval o X.env
 few:((backTo cpos (starEach [e] X.env)).all (fun x=>!x.1) && (backToKw cpos (keywordEach [] X.env)).all (fun x=>x.1.isSome)
  && decide (([e]:List Expr).length+([]:List Keyword).length+(if ([]:List Keyword).isEmpty then 0 else 1) < 30))=true
 line:(apos.endLine == cpos.line)=true
 trees:backTo cpos (starEach [e] X.env)=[(false,eval e X.env)]
structure M2 (X:Cx) (o:Expr) (m:Str) (apos:Pos) (e f:Expr) (cpos:Pos):Prop where
 base:attributeBase o m X.env (eval o X.env)=eval o X.env
 few:((backTo cpos (starEach [e,f] X.env)).all (fun x=>!x.1) && (backToKw cpos (keywordEach [] X.env)).all (fun x=>x.1.isSome)
  && decide (([e,f]:List Expr).length+([]:List Keyword).length+(if ([]:List Keyword).isEmpty then 0 else 1) < 30))=true
 line:(apos.endLine == cpos.line)=true
 trees:backTo cpos (starEach [e,f] X.env)=[(false,eval e X.env),(false,eval f X.env)]
def IsD (H:Hp) (a:Addr):Prop:=(∃kvs,Rd H a (.dK kvs))∨∃kvs,Rd H a (.dT kvs)
theorem isD_at {X:Cx}{pins:List (Addr×Obj)}{σ:St}{H:Hp}{s:Shared}{a:Addr} (I:Inv X pins σ H s) (d:IsD H a) :
  s.TypeIs (.ref a) "dict"∧(∀b,Value.ref a=.ref b→∃ob,s.heap.get? b=some ob∧ob.dict=none)∧(a == sysModules)=false:=by
 rcases d with ⟨kvs,e⟩ | ⟨kvs,e⟩
 ·obtain⟨_,hd,vs,_,dd⟩:=dk_rd I.hok e
  refine⟨dd.typeIs,fun b q=>?_,hd⟩
  cases q
  obtain⟨ob,_,_,h1,h2,_⟩:=dd
  exact⟨ob,h1,h2.2.1⟩
 ·obtain⟨_,hd,xs,_,dd⟩:=dt_rd I.hok e
  refine⟨dd.typeIs,fun b q=>?_,hd⟩
  cases q
  obtain⟨ob,_,_,h1,h2,_⟩:=dd
  exact⟨ob,h1,h2.2.1⟩
section
variable {X:Cx}{pins:List (Addr×Obj)}{σ:St}{H:Hp}{s:Shared}{a:Addr}{y d:V}{u r:Value}{o:Option V}{A:Around}{E:Value→Shared→Prop}
end
def tDPop1 (td ty:TE):TE:=fun σ H Q=>td σ H fun x H1=>∃a,x=.ref a∧IsD H1 a∧ty σ H1 fun y H2=>∃kvs k v,H2 a=some (.dK kvs)∧y=kV k∧valV kvs k=some v∧Q v (upd H2 a (.dK (dropK kvs k)))
section
variable {X:Cx}{o e f:Expr}{apos cpos:Pos}{td ty tx:TE}
theorem pe_dpop1 (ho:PE X o td) (he:PE X e ty) (m:M1 X o "pop" apos e cpos):PE X (.Call (.Attribute o "pop" apos) [e] [] cpos) (tDPop1 td ty):=by
 intro pins s σ H Q I h
 refine wpAny_Call_method m.base m.few m.line PySem.F.plainAttrs_dict PySem.F.slot_dict_pop PySem.F.type_dict_pop (thn (ho pins s σ H _ I h) fun u s1 ⟨x,H1,I1,rx,a,ex,d,q1⟩=>?_)
 subst ex
 obtain rfl:u=Value.ref a:=rx
 obtain⟨t1,t2,_⟩:=isD_at I1 d
 refine⟨t1,t2,?_⟩
 rw[m.trees]
 refine Calls.callWith_builtin rfl (Calls.evalArgs_plain (Calls.spliced_cons (thn (he pins s1 σ H1 _ I1 q1) fun iv s2 ⟨y,H2,I2,ry,kvs,k,v,ea,ey,l,q2⟩=>Calls.spliced_nil ?_)))
 subst ey
 exact d_pop I2 ea ry l (.inl rfl) fun w' s3 I3 rw'=>⟨v,_,I3,rw',q2⟩
end
section
variable {X:Cx}{pins:List (Addr×Obj)}{σ:St}{H:Hp}{s:Shared}{a:Addr}{kvs:List (Key×V)}{A:Around}{E:Value→Shared→Prop}
end
section
variable {X:Cx}{pins:List (Addr×Obj)}{σ:St}{H:Hp}{s:Shared}{a:Addr}{y:V}{u:Value}{A:Around}{E:Value→Shared→Prop}
end
end L2
namespace L2
open PySem PySem.Spec PyProof.Rows
section
variable {κ : Type} [DecidableEq κ]
theorem dropK_pos {p : κ×V}{r:List (κ×V)}{k : κ} (e:p.1=k):dropK (p::r) k=dropK r k:=by
 unfold dropK
 rw[List.filter_cons,if_neg (by simp [e])]
theorem dropK_neg {p : κ×V}{r:List (κ×V)}{k : κ} (e:¬ p.1=k):dropK (p::r) k=p::dropK r k:=by
 unfold dropK
 rw[List.filter_cons,if_pos (by simp [e])]
end
end L2
end
section
set_option maxRecDepth 100000
set_option maxHeartbeats 1000000
namespace L2
open PySem PySem.Spec PyProof.Rows
def clGo (cells:List (Str×Addr)):List (Str×NameKind)→List (Str×Addr)→List (Str×Addr)
 | [],acc=>acc
 | (n,k)::r,acc=>clGo cells r (if k == .free then (n,(cells.lookup n).getD 0)::acc else acc)
theorem closureFor_eq {scope:Scope}{env:Env} (h:∀y∈scope.names,y.2=.free→∃c,env.cells.lookup y.1=some c):closureFor scope env=pure (clGo env.cells scope.names []):=by
 unfold closureFor
 have key:∀(l:List (Str×NameKind)) (acc:List (Str×Addr)),(∀y∈l,y.2=.free→∃c,env.cells.lookup y.1=some c) →
   (forIn l acc (fun x r=>match x with
    | (name,kind)=>if (kind == NameKind.free)=true then do let a ← cellOf env name; pure (ForInStep.yield ((name,a)::r)) else pure (ForInStep.yield r)):Sem (List (Str×Addr)))=pure (clGo env.cells l acc):=by
  intro l
  induction l with
  | nil=>intro acc _; rfl
  | cons y r ih =>
   intro acc hl
   obtain⟨n,k⟩:=y
   rw[List.forIn_cons]
   have ih':=fun acc=>ih acc fun y hy=>hl y (List.mem_cons_of_mem _ hy)
   by_cases hk:(k == NameKind.free)=true
   ·obtain⟨c,hc⟩:=hl (n,k) List.mem_cons_self (by simpa using hk)
    have e1:cellOf env n=pure c:=by unfold cellOf; have hc':env.cells.lookup n=some c:=hc; rw[hc']
    dsimp only
    rw[if_pos hk,e1]
    simp only[pure_bind]
    rw[ih']
    unfold clGo
    rw[if_pos hk]
    have hc':env.cells.lookup n=some c:=hc
    rw[hc']
    conv=>rhs; unfold clGo
    rfl
   ·dsimp only
    rw[if_neg hk]
    simp only[pure_bind]
    rw[ih']
    conv=>rhs; unfold clGo
    rw[if_neg hk]
 have:=key scope.names [] h
 simp only[bind_pure] at *
 exact this
theorem clGo_look {cells:List (Str×Addr)}:∀{l:List (Str×NameKind)}{acc:List (Str×Addr)}{x:Str}{c:Addr},(∀y∈l,y.2=.free→∃c,cells.lookup y.1=some c)→(∀x c,acc.lookup x=some c→cells.lookup x=some c) →
  (clGo cells l acc).lookup x=some c→cells.lookup x=some c
 | [],_,_,_,_,ha,e=>ha _ _ e
 | (n,k)::r,acc,x,c,h,ha,e=>by
  unfold clGo at e
  refine clGo_look (fun y hy=>h y (List.mem_cons_of_mem _ hy)) ?_ e
  intro x c e
  by_cases hk:(k == NameKind.free)=true
  ·rw[if_pos hk] at e
   obtain⟨c',hc⟩:=h (n,k) List.mem_cons_self (by simpa using hk)
   have hc':cells.lookup n=some c':=hc
   rw[List.lookup_cons] at e
   by_cases hx:(x == n)=true
   ·rw[hx] at e
    have hxn:x=n:=by simpa using hx
    subst hxn
    simp only[hc',Option.getD_some] at e
    rw[hc']; exact e
   ·have hx':(x == n)=false:=by simpa using hx
    rw[hx'] at e
    exact ha _ _ e
  ·rw[if_neg hk] at e
   exact ha _ _ e
theorem clGo_has {cells:List (Str×Addr)}:∀{l:List (Str×NameKind)}{acc:List (Str×Addr)}{x:Str},((x,NameKind.free)∈l∨(acc.lookup x).isSome=true)→((clGo cells l acc).lookup x).isSome=true
 | [],_,_,h=>by
  rcases h with h | h
  ·cases h
  ·exact h
 | (n,k)::r,acc,x,h=>by
  unfold clGo
  refine clGo_has ?_
  rcases h with h | h
  ·rcases List.mem_cons.mp h with e | h
   ·right
    cases e
    simp [List.lookup_cons]
   ·exact .inl h
  ·right
   split
   ·rw[List.lookup_cons]
    split
    ·rfl
    ·exact h
   ·exact h
theorem relabel_free {env:Env}{x:Str}{k:NameKind}:∀{names:List (Str×NameKind)},(∀y∈names,y.2≠.cell) →
  (names.map fun (n,k)=>if (k == NameKind.free && env.scope.kind == .function && env.kindOf n == some .cell) then (n,NameKind.cell) else (n,k)).lookup x=some k→(k=.cell∨k=.free)→(x,NameKind.free)∈names
 | [],_,h,_=>by simp at h
 | (n,k')::r,hc,h,hk=>by
  rw[List.map_cons,List.lookup_cons] at h
  have ih:=@relabel_free env x k r (fun y hy=>hc y (List.mem_cons_of_mem _ hy))
  by_cases c:(k' == NameKind.free && env.scope.kind == .function && env.kindOf n == some .cell)=true
  ·rw[if_pos c] at h
   have hf:k'=.free:=by
    have:=(Bool.and_eq_true _ _ ▸ (Bool.and_eq_true _ _ ▸ c).1).1
    simpa using this
   by_cases hx:(x == n)=true
   ·have:x=n:=by simpa using hx
    subst this; subst hf
    exact List.mem_cons_self
   ·have hx':(x == n)=false:=by simpa using hx
    simp only[hx'] at h
    exact List.mem_cons_of_mem _ (ih h hk)
  ·rw[if_neg c] at h
   by_cases hx:(x == n)=true
   ·simp only[hx] at h
    have:x=n:=by simpa using hx
    subst this
    have hkk:k'=k:=Option.some.inj h
    subst hkk
    rcases hk with hk | hk
    ·exact absurd hk (hc (x,k') List.mem_cons_self)
    ·subst hk; exact List.mem_cons_self
   ·have hx':(x == n)=false:=by simpa using hx
    simp only[hx'] at h
    exact List.mem_cons_of_mem _ (ih h hk)
theorem relabel_vis {env:Env}{x:Str}:∀{names:List (Str×NameKind)},names.lookup x=some .free →
  (names.map fun (n,k)=>if (k == NameKind.free && env.scope.kind == .function && env.kindOf n == some .cell) then (n,NameKind.cell) else (n,k)).lookup x=some .cell ∨
  (names.map fun (n,k)=>if (k == NameKind.free && env.scope.kind == .function && env.kindOf n == some .cell) then (n,NameKind.cell) else (n,k)).lookup x=some .free
 | [],h=>by simp at h
 | (n,k')::r,h=>by
  have ih:=@relabel_vis env x r
  rw[List.lookup_cons] at h
  rw[List.map_cons,List.lookup_cons]
  by_cases hx:(x == n)=true
  ·simp only[hx] at h
   have hk:k'=.free:=Option.some.inj h
   by_cases c:(k' == NameKind.free && env.scope.kind == .function && env.kindOf n == some .cell)=true
   ·rw[if_pos c]; simp only[hx]; exact .inl trivial
   ·rw[if_neg c]; simp only[hx,hk]; exact .inr trivial
  ·have hx':(x == n)=false:=by simpa using hx
   simp only[hx'] at h
   by_cases c:(k' == NameKind.free && env.scope.kind == .function && env.kindOf n == some .cell)=true
   ·rw[if_pos c]; simp only[hx']; exact ih h
   ·rw[if_neg c]; simp only[hx']; exact ih h
def cxComp (X:Cx) (scope:Scope) (C:Addr) (fp:List Addr) (N:List Str) (s:Shared) (H:Hp):Cx :=
 { X with N:=N,s₀:=s,H₀:=H,env:=compEnvC scope (clGo X.env.cells scope.names []) C X.env,outer:=X.stack,stack:=X.stack,ex:=fp,fn:=fun _=>false,xe:=fun _ _=>False }
def pick (js:List Nat) (σ:St):St:=js.map fun j=>(σ[j]?).join
structure CompScope (X:Cx) (scope:Scope) (ts:List Str) (cap:List Str) (js:List Nat):Prop where
 kind:scope.kind=.function
 nocell:∀y∈scope.names,y.2≠.cell
 names:∀y∈scope.names,y.2=.local→scope.names.lookup y.1=some .local
 free:∀y∈scope.names,y.2=.free→X.env.kindOf y.1=some .cell∨X.env.kindOf y.1=some .free
 caps:cap.map some=js.map fun j=>X.N[j]?
 capf:∀y∈cap,scope.names.lookup y=some .free
 nd:(ts++cap).Nodup
theorem mem_of_look {names:List (Str×NameKind)}{y:Str}{k:NameKind} (h:names.lookup y=some k):(y,k)∈names:=PySem.mem_of_lookup h
section
variable {X:Cx}{pins:List (Addr×Obj)}{σ:St}{H:Hp}{s:Shared}{scope:Scope}{ts cap:List Str}{js:List Nat}{fp:List Addr}{C:Addr}
theorem CompScope.cells (CS:CompScope X scope ts cap js) (ok:X.Ok):∀y∈scope.names,y.2=.free→∃c,X.env.cells.lookup y.1=some c:=fun y hy hf=>ok.has _ (CS.free y hy hf)
theorem CompScope.look (CS:CompScope X scope ts cap js) (ok:X.Ok) {x:Str}{c:Addr} (e:(clGo X.env.cells scope.names []).lookup x=some c):X.env.cells.lookup x=some c :=
 clGo_look (CS.cells ok) (fun _ _ z=>by simp at z) e
theorem comp_ok (I:Inv X pins σ H s) (CS:CompScope X scope ts cap js) (hf:∀b∈fp,FpOk X pins H b) (hfl:∀b∈fp,b < s.heap.objs.size) (hC:s.heap.objs.size≤C):(cxComp X scope C fp (ts++cap) s H).Ok where
 mod:=I.ok.mod
 kind:=CS.kind
 glob:=I.ok.glob
 blt:=I.ok.blt
 above:=hC
 inj:=fun x y c h1 h2=>I.ok.inj x y c (CS.look I.ok h1) (CS.look I.ok h2)
 has:=fun x hx=>by
  have:(x,NameKind.free)∈scope.names:=by
   rcases hx with hx | hx
   ·exact relabel_free (env:=X.env) CS.nocell hx (.inl rfl)
   ·exact relabel_free (env:=X.env) CS.nocell hx (.inr rfl)
  exact Option.isSome_iff_exists.mp (clGo_has (.inl this))
 cab:=fun x c h _=>by cases (show false=true from h)
 hd:=I.ok.hd
 frames:=I.ok.frames
 stk:=.inl rfl
 exf:=fun b hb=>⟨Nat.ne_of_lt (Nat.lt_of_lt_of_le (hfl b hb) hC),fun x c e=>(hf b hb).2.2.2.2.1 x c (CS.look I.ok e)⟩
 bs:=I.bs
 bsz:=Nat.le_trans I.ok.bsz I.sz
 noex:=fun b o e hb=>by
  rcases (hf b hb).2.2.2.1 with z | z
  ·exact I.ok.noex b o e z
  ·have q:=(I.ok.bs b o e).1
   rw[z] at q; cases q
 exfs:=fun b hb z=>by
  rcases List.mem_cons.mp (I.stkSub b z) with q | q
  ·exact (hf b hb).2.1 q
  ·exact (hf b hb).2.2.1 q
 funs:=I.stack
 frf:=I.stkFree
theorem comp_inv {s₄:Shared}{m:Str→Option Value}{pins':List (Addr×Obj)} (I:Inv X pins σ H s) (CS:CompScope X scope ts cap js) (hf:∀b∈fp,FpOk X pins H b) (hfl:∀b∈fp,b < s.heap.objs.size) (hC:s.heap.objs.size≤C)
  (old:∀b o,s.heap.get? b=some o→s₄.heap.get? b=some o) (hn:s₄.heap.Ns C m) (hos:s₄.os=s.os) (hb:AllBare s₄.gens)
  (hp:∀p∈pins',s₄.heap.get? p.1=some p.2∧H p.1=none∧p.1≠C∧p.1 ∉ frs X.stack∧∀v,p.2.data≠.cell v) :
  Inv (cxComp X scope C fp (ts++cap) s H) pins' (List.replicate ts.length none++pick js σ) H s₄ where
 ok:=comp_ok I CS hf hfl hC
 os:=hos
 bare:=hb
 base:=Un.kept old
 loc:=⟨m,hn,fun i x v h1 h2 h3=>by
  by_cases hi:i < ts.length
  ·rw[List.getElem?_append_left (by simpa using hi)] at h2
   rw[List.getElem?_replicate] at h2
   split at h2 <;> cases h2
  ·have h1':cap[i - ts.length]?=some x:=by
    have:=h1
    show cap[i - ts.length]?=some x
    rw[show (cxComp X scope C fp (ts++cap) s H).N=ts++cap from rfl,List.getElem?_append_right (by omega)] at this
    exact this
   rw[List.getElem?_append_right (by simpa using hi),List.length_replicate] at h2
   unfold pick at h2
   rw[List.getElem?_map] at h2
   cases hj:js[i - ts.length]? with
   | none=>rw[hj] at h2; cases h2
   | some j =>
    rw[hj] at h2
    have h2':(σ[j]?).join=some v:=Option.some.inj h2
    have hσ:σ[j]?=some (some v):=by
     cases e:σ[j]? with
     | none=>rw[e] at h2'; cases h2'
     | some o=>rw[e] at h2'; rw[show o=some v from h2']
    have hN:X.N[j]?=some x:=by
     have:=congrArg (fun l=>l[i - ts.length]?) CS.caps
     simp only[List.getElem?_map,h1',hj] at this
     exact (Option.some.inj this).symm
    have hfr:=CS.capf x (List.mem_of_getElem? h1')
    have hk:=CS.free _ (mem_of_look hfr) rfl
    obtain⟨m0,hn0,hl⟩:=I.loc
    obtain⟨u,r,l⟩:=hl j x v hN hσ (.inr hk)
    refine⟨u,r,?_⟩
    rcases l with ⟨k,_⟩ | ⟨k,c,e,z⟩
    ·rcases hk with q | q <;> (rw[q] at k; cases k)
    ·obtain⟨c',e'⟩:=Option.isSome_iff_exists.mp (clGo_has (cells:=X.env.cells) (acc:=[]) (.inl (mem_of_look hfr)))
     have e2:=CS.look I.ok e'
     have e3:X.env.cells.lookup x=some c:=e
     rw[e3] at e2
     cases e2
     obtain⟨o,ho,hd⟩:=z
     exact .inr ⟨relabel_vis hfr,c,e',⟨o,old _ _ ho,hd⟩⟩⟩
 cell:=fun x c e=>by
  obtain⟨v,o,ho,hd⟩:=I.cell x c (CS.look I.ok e)
  exact⟨v,o,old _ _ ho,hd⟩
 free:=I.hok.fresh hC
 freeC:=fun x c e=>I.freeC x c (CS.look I.ok e)
 pin:=fun p hp'=>by
  rcases List.mem_append.mp hp' with z | z
  ·obtain⟨e,n,ne,nf,d⟩:=I.pin p (List.mem_append_left _ z)
   refine⟨old _ _ e,n,Nat.ne_of_lt (Nat.lt_of_lt_of_le (Heap.lt_size e) hC),fun q=>?_,d⟩
   rcases List.mem_cons.mp (I.stkSub _ q) with q | q
   ·exact ne q
   ·exact nf q
  ·exact hp p z
 hok:=I.hok.kept old
 len:=by
  show (List.replicate ts.length none++pick js σ).length=(ts++cap).length
  have:=congrArg List.length CS.caps
  simp only[List.length_map] at this
  rw[List.length_append,List.length_append,List.length_replicate,pick,List.length_map,this]
end
end L2
end
section
set_option maxRecDepth 100000
set_option maxHeartbeats 1000000
namespace L2
open PySem PySem.Spec PyProof.Rows
def tTrue:TT:=fun _ H Q=>Q true H
def CompW (J:It) (k:Nat) (js:List Nat) (g:TG) (tc:TT) (te:TE) (σ:St) (H1:Hp) (Q:VK):Prop :=
 ∃W:Nat→Nat→List V→Hp→Prop,(∃m,W 0 m [] H1)∧∀i m ys H,W i m ys H →
  (J.stop i H∧ys.length≤sizeLine∧∀p,H p=none→Q (.ref p) (upd H p (.lst ys))) ∨
  (J.go i H∧ys.length < sizeLine∧∀x H',J.yld i H x H'→g x (List.replicate k none++pick js σ) H' fun σ2 H2=>tc σ2 H2 fun b H3=>if b=true then te σ2 H3 fun y H4=>∃m',m' < m∧W (i+1) m' (ys++[y]) H4 else ∃m',m' < m∧W (i+1) m' ys H3)
def tComp (wi:TI) (k:Nat) (js:List Nat) (g:TG) (tc:TT) (te:TE):TE:=fun σ H Q=>wi σ H fun J H1=>CompW J k js g tc te σ H1 Q
def PTs (X:Cx) (ifs:List Expr) (t:TT):Prop :=
 ∀(pins:List (Addr×Obj)) (s:Shared) (σ:St) (H:Hp) (Q:Bool→Hp→Prop),Inv X pins σ H s→t σ H Q →
  wpAny (model X.prog X.w) X.A (forIn ifs true fun c r=>if r=true then do let ok ← isTrue c X.env (eval c X.env); pure (ForInStep.yield ok) else pure (ForInStep.yield r)) (TP X pins σ Q) X.xe s
theorem pts_nil {X:Cx}:PTs X [] tTrue:=fun _ _ _ H _ I h=>wpAny_tests_nil ⟨H,I,h⟩
theorem pts_one {X:Cx}{c:Expr}{t:TT} (h:PT X c t):PTs X [c] t:=fun pins s σ H Q I hw=>wpAny_tests_one (h pins s σ H Q I hw)
theorem loop_tests {prog:Program}{w:World}{A:Around}{R:Result→Shared→Prop}{s:Shared}{elt target iter:Expr}{ifs:List Expr}{scope:Scope}{pos:Pos}{it acc:Value}{env:Env} (I:Nat→Shared→Prop)
  (turn:∀n s,I n s→wpAny (model prog w) A (pyNext it) (fun r s₁=>match r with
   | none=>R (.ok .next) s₁
   | some v=>wpAny (model prog w) A (letOwnedTupleGo target it v) (fun _ s₁'=>wpAny (model prog w) A (assign target env v) (fun _ s₂ =>
     wpAny (model prog w) A (forIn ifs true fun c r=>if r=true then do let ok ← isTrue c env (eval c env); pure (ForInStep.yield ok) else pure (ForInStep.yield r)) (fun ok s₃ =>
      if ok=true then wpAny (model prog w) A (eval elt env) (fun x s₄ =>
       wpAny (model prog w) A (call (.builtin "list.append") [acc,x]) (fun _ s₅=>∃m,m < n∧I m s₅) (fun _ _=>False) s₄) (fun _ _=>False) s₃
      else ∃m,m < n∧I m s₃) (fun _ _=>False) s₂) (fun _ _=>False) s₁') (fun _ _=>False) s₁) (fun _ _=>False) s)
  (n:Nat) (h:I n s):codeAny (model prog w) A (.compLoop (.ListComp elt [⟨target,iter,ifs,0⟩] scope pos) 0 it acc env) R s:=by
 refine codeAny_loop rfl I (fun n s hI=>?_) n h
 show wpAny _ A ((compTurn (.ListComp elt [⟨target,iter,ifs,0⟩] scope pos) 0 it acc env).onRaise (fun x=>do noteFrame x env; theTreesLotGoes x)) _ _ s
 refine wpAny_noted ?_
 rw[compTurn_list]
 refine wpAny_bind (wpAny_standAt (wpAny_bind (wpAny_mono (turn n s hI) (fun r s₁ h₁=>?_) fun _ _ h'=>h'.elim)))
 cases r with
 | none=>exact wpAny_pure h₁
 | some v =>
  refine wpAny_bind (wpAny_mono h₁ (fun _ s₁' h₁'=>?_) fun _ _ h'=>h'.elim)
  refine wpAny_bind (wpAny_mono h₁' (fun _ s₂ h₂=>wpAny_bind (wpAny_mono h₂ (fun ok s₃ h₃=>?_) fun _ _ h'=>h'.elim)) fun _ _ h'=>h'.elim)
  cases ok with
  | false=>exact wpAny_pure ⟨rfl,h₃⟩
  | true =>
   exact wpAny_bind (wpAny_bind (wpAny_mono h₃ (fun x s₄ h₄=>wpAny_bind (wpAny_mono h₄ (fun _ s₅ h₅=>wpAny_pure (wpAny_pure ⟨rfl,h₅⟩)) fun _ _ h'=>h'.elim)) fun _ _ h'=>h'.elim))
abbrev lstO (its:List Value) (n:Nat):Obj:={ cls:=.type "list",data:=.seq its.toArray n }
section
variable {X:Cx}{pins:List (Addr×Obj)}{σ:St}{H:Hp}{s:Shared}{scope:Scope}{ts cap:List Str}{js:List Nat}{fp:List Addr}{C D:Addr}
theorem comp_back {s':Shared}{σ':St}{H':Hp}{ys:List V}{its:List Value}{n:Nat} (I:Inv X pins σ H s) (hf:∀b∈fp,FpOk X pins H b)
  (hC:s.heap.objs.size≤C) (hD:s.heap.objs.size≤D) (I':Inv (cxComp X scope C fp (ts++cap) s H) [(D,lstO its n)] σ' H' s') (hv:Vals ys its) (hz:ys.length≤sizeLine):Inv X pins σ (upd H' D (.lst ys)) s':=by
 obtain⟨hDg,hDn,hDC,hDs,hDd⟩:=I'.pin (D,lstO its n) (List.mem_append_right _ List.mem_cons_self)
 have nD:∀b o,s.heap.get? b=some o→b≠D:=fun b o e=>Nat.ne_of_lt (Nat.lt_of_lt_of_le (Heap.lt_size e) hD)
 have nDt:∀b o,H b=some o→b≠D:=fun b o e=>Nat.ne_of_lt (Nat.lt_of_lt_of_le (I.hok.lt e) hD)
 have u:=I'.base
 refine I.call' (ch:=fp) I'.os ⟨fun b o e n hb hx=>u.keep b o e n hb hx,fun b o e n hb hx=>u.slot b o e n hb hx,fun b o e n hx=>?_,fun b o e hx=>u.there b o e hx,fun b xs e=>?_,fun b o xs e=>?_,fun b ps e=>?_⟩ ?_ I'.bare fun b hb=>?_
 ·rw[upd_ne (nD b o e)]; exact u.free b o e n hx
 ·rw[upd_ne (nDt b _ e)]; exact u.tups b xs e
 ·rw[upd_ne (nDt b _ e)]; exact u.frzs b o xs e
 ·rw[upd_ne (nDt b _ e)]; exact u.tbls b ps e
 ·intro b o e
  by_cases hb:b=D
  ·subst hb
   rw[upd_same] at e
   cases e
   exact⟨hz,its,n,hv,hDg⟩
  ·rw[upd_ne hb] at e
   refine (I'.hok b o e).stay (fun _ _ _ q=>q) (fun c q=>?_) fun c xs q=>?_
   ·by_cases hc:c=D
    ·subst hc; rw[hDn] at q; cases q
    ·rw[upd_ne hc]; exact q
   ·by_cases hc:c=D
    ·subst hc; rw[hDn] at q; cases q
    ·rw[upd_ne hc]; exact q
 ·obtain⟨f0,f1,f2,f3,f4,f5⟩:=hf b hb
  exact⟨f3,f1,f4,f5⟩
theorem comp_again {pins':List (Addr×Obj)}{σ':St}{H':Hp}{s':Shared} (I:Inv X pins σ H s) (CS:CompScope X scope ts cap js) (hf:∀b∈fp,FpOk X pins H b) (I':Inv (cxComp X scope C fp (ts++cap) s H) pins' σ' H' s') :
  Inv (cxComp X scope C fp (ts++cap) s H) pins' (List.replicate ts.length none++pick js σ) H' s':=by
 refine⟨I'.ok,I'.os,I'.bare,I'.base,?_,I'.cell,I'.free,I'.freeC,I'.pin,I'.hok,?_⟩
 ·obtain⟨m,hn,_⟩:=I'.loc
  refine⟨m,hn,fun i x v h1 h2 h3=>?_⟩
  by_cases hi:i < ts.length
  ·rw[List.getElem?_append_left (by simpa using hi)] at h2
   rw[List.getElem?_replicate] at h2
   split at h2 <;> cases h2
  ·have h1':cap[i - ts.length]?=some x:=by
    have:=h1
    rw[show (cxComp X scope C fp (ts++cap) s H).N=ts++cap from rfl,List.getElem?_append_right (by omega)] at this
    exact this
   rw[List.getElem?_append_right (by simpa using hi),List.length_replicate] at h2
   unfold pick at h2
   rw[List.getElem?_map] at h2
   cases hj:js[i - ts.length]? with
   | none=>rw[hj] at h2; cases h2
   | some j =>
    rw[hj] at h2
    have h2':(σ[j]?).join=some v:=Option.some.inj h2
    have hσ:σ[j]?=some (some v):=by
     cases e:σ[j]? with
     | none=>rw[e] at h2'; cases h2'
     | some o=>rw[e] at h2'; rw[show o=some v from h2']
    have hN:X.N[j]?=some x:=by
     have:=congrArg (fun l=>l[i - ts.length]?) CS.caps
     simp only[List.getElem?_map,h1',hj] at this
     exact (Option.some.inj this).symm
    have hfr:=CS.capf x (List.mem_of_getElem? h1')
    have hk:=CS.free _ (mem_of_look hfr) rfl
    obtain⟨m0,hn0,hl⟩:=I.loc
    obtain⟨u,r,l⟩:=hl j x v hN hσ (.inr hk)
    refine⟨u,r,?_⟩
    rcases l with ⟨k,_⟩ | ⟨k,c,e,z⟩
    ·rcases hk with q | q <;> (rw[q] at k; cases k)
    ·obtain⟨c',e'⟩:=Option.isSome_iff_exists.mp (clGo_has (cells:=X.env.cells) (acc:=[]) (.inl (mem_of_look hfr)))
     have e2:=CS.look I.ok e'
     have e3:X.env.cells.lookup x=some c:=e
     rw[e3] at e2
     cases e2
     obtain⟨o,ho,hd⟩:=z
     have nfp:c ∉ fp:=fun q=>(hf c q).2.2.2.2.1 x c e rfl
     obtain⟨sl,hg⟩:=I'.base.any ho (I.freeC x c e) nfp
     exact .inr ⟨relabel_vis hfr,c,e',⟨_,hg,hd⟩⟩
 ·show (List.replicate ts.length none++pick js σ).length=(ts++cap).length
  have:=congrArg List.length CS.caps
  simp only[List.length_map] at this
  rw[List.length_append,List.length_append,List.length_replicate,pick,List.length_map,this]
structure TurnAt (X:Cx) (tg:Expr) (J:It) (fp:List Addr) (it:Addr) (tn:Nat→Heap→Prop):Prop where
 item:∀(i:Nat) (pins:List (Addr×Obj)) (s:Shared) (σ:St) (H:Hp) (E:Value→Shared→Prop),Inv X pins σ H s→(∀b∈fp,FpOk X pins H b)→tn i s.heap→J.go i H →
  wpAny (model X.prog X.w) X.A (pyNext (.ref it)) (fun r s1=>∃u,r=some u ∧
   wpAny (model X.prog X.w) X.A (letOwnedTupleGo tg (.ref it) u) (fun _ s2=>∃x H',Inv X pins σ H' s2∧RelV x u∧J.yld i H x H'∧tn (i+1) s2.heap∧∀b∈fp,H' b=none) E s1) E s
 done:∀(i:Nat) (pins:List (Addr×Obj)) (s:Shared) (σ:St) (H:Hp) (E:Value→Shared→Prop),Inv X pins σ H s→(∀b∈fp,FpOk X pins H b)→tn i s.heap→J.stop i H →
  wpAny (model X.prog X.w) X.A (pyNext (.ref it)) (fun r s1=>r=none∧Inv X pins σ H s1) E s
structure TurnOk (P:Program) (w:World) (fp:List Addr) (it:Addr) (tn:Nat→Heap→Prop):Prop where
 obj:∀i h,tn i h→∀b∈fp,∃o,h.get? b=some o∧∀v,o.data≠.cell v
 keep:∀i h h',tn i h→(∀b∈fp,∀o,h.get? b=some o→h'.get? b=some o)→tn i h'
 self:∀(A:Around) (i:Nat) (s:Shared) (Q:Value→Shared→Prop) (E:Value→Shared→Prop),tn i s.heap→Q (.ref it) s→wpAny (model P w) A (pyIter (.ref it)) Q E s
theorem comp_blockG {tg elt iter:Expr}{ifs:List Expr}{pos:Pos}{g:TG}{tc:TT}{te:TE}{J:It}{it:Addr}{tn:Nat→Heap→Prop}{W:Nat→Nat→List V→Hp→Prop}{m0:Nat}{E:Value→Shared→Prop}
  {RR:Value→Addr→Result→Shared→Prop}{Fin:List V→Hp→Prop}
  (I:Inv X pins σ H s) (T:TurnOk X.prog X.w fp it tn) (TA:∀C,TurnAt (cxComp X scope C fp (ts++cap) s H) tg J fp it tn) (st:tn 0 s.heap) (hf:∀b∈fp,FpOk X pins H b) (CS:CompScope X scope ts cap js)
  (hg:∀C fp s H,PG (cxComp X scope C fp (ts++cap) s H) tg g) (ht:∀C fp s H,PTs (cxComp X scope C fp (ts++cap) s H) ifs tc) (he:∀C fp s H,PE (cxComp X scope C fp (ts++cap) s H) elt te)
  (w0:W 0 m0 [] H)
  (turn:∀i m ys H,W i m ys H→(J.stop i H∧ys.length≤sizeLine∧Fin ys H)∨(J.go i H∧ys.length < sizeLine∧∀x H',J.yld i H x H'→g x (List.replicate ts.length none++pick js σ) H' fun σ2 H2=>tc σ2 H2 fun b H3 =>
   if b=true then te σ2 H3 fun y H4=>∃m',m' < m∧W (i+1) m' (ys++[y]) H4 else ∃m',m' < m∧W (i+1) m' ys H3))
  (hRR:∀D C s' H' ys m,Inv X pins σ (upd H' D (.lst ys)) s'→s'.heap.Ns C m→s.heap.objs.size≤C→s.heap.objs.size≤D→C≠D→H' C=none→H' D=none→Fin ys H'→RR (.ref D) C (.ok .next) s') :
  wpAny (model X.prog X.w) X.A (newList []) (fun acc s₃=>wpAny (model X.prog X.w) X.A (newFunctionEnv scope X.env.globals (clGo X.env.cells scope.names []) [] X.env.qual none .none (some X.env)) (fun cenv s₄ =>
   codeAny (model X.prog X.w) X.A (.compStart (.ListComp elt [⟨tg,iter,ifs,0⟩] scope pos) 0 (.ref it) acc { cenv with scope:=relabel scope X.env }) (RR acc cenv.locals) s₄) E s₃) E s:=by
 refine wpAny_newObj_type (wpAny_newFunctionEnv CS.nocell (by intro y hy; simp at hy) (fun h₁ hns₁ hsb₁=>?_) CS.kind)
 dsimp only at hns₁ hsb₁ ⊢
 generalize hH2:s.heap.push { cls:=.type "list",dict:=none,data:=.seq ([]:List Value).toArray }=H2 at hns₁ hsb₁ ⊢
 have hCs:H2.objs.size=s.heap.objs.size+1:=by rw[← hH2,Heap.size_push]
 have hDC:s.heap.objs.size≠H2.objs.size:=by rw[hCs]; exact Nat.ne_of_lt (Nat.lt_succ_self _)
 have hCle:s.heap.objs.size≤H2.objs.size:=by rw[hCs]; exact Nat.le_succ _
 have below:∀b,b < s.heap.objs.size→b≠H2.objs.size:=fun b hb=>by rw[hCs]; exact Nat.ne_of_lt (Nat.lt_succ_of_lt hb)
 have old:∀b o,s.heap.get? b=some o→h₁.get? b=some o:=fun b o e=>hsb₁.extBut b o (below b (Heap.lt_size e)) (Heap.get?_push_of_some _ (hH2 ▸ Heap.get?_push_of_some _ e))
 have hacc:h₁.get? s.heap.objs.size=some (lstO [] 0):=hsb₁.extBut _ _ hDC (Heap.get?_push_of_some _ (hH2 ▸ Heap.get?_push_size _ rfl))
 have hfl:∀b∈fp,b < s.heap.objs.size:=fun b hb=>by obtain⟨o,e,_⟩:=T.obj _ _ st b hb; exact Heap.lt_size e
 have st₁:tn 0 h₁:=T.keep _ _ _ st fun b _ o e=>old b o e
 have hDstk:s.heap.objs.size ∉ frs X.stack:=fun z=>by
  obtain⟨_,o,ho,_⟩:=I.stack.mem z
  exact absurd (Heap.lt_size ho) (Nat.lt_irrefl _)
 have I0:Inv (cxComp X scope H2.objs.size fp (ts++cap) s H) [(s.heap.objs.size,lstO [] 0)] (List.replicate ts.length none++pick js σ) H { s with heap:=h₁,toks:=s.toks+([]:List (Str×Value)).length } :=
  comp_inv I CS hf hfl hCle old hns₁ rfl I.bare fun p hp=>by
   have e:p=(s.heap.objs.size,lstO [] 0):=by simpa using hp
   subst e
   exact⟨hacc,I.hok.fresh (Nat.le_refl _),hDC,hDstk,fun v z=>by cases z⟩
 have stat:∀{H':Hp}{ys:List Value}{n:Nat},(∀b∈fp,H' b=none)→∀b∈fp,FpOk (cxComp X scope H2.objs.size fp (ts++cap) s H) [(s.heap.objs.size,lstO ys n)] H' b:=fun {H' ys n} hn b hb=>by
  obtain⟨f0,f1,f2,f3,f4,f5⟩:=hf b hb
  refine⟨hn b hb,below b (hfl b hb),?_,.inl hb,fun x c e=>f4 x c (CS.look I.ok e),fun p hp=>?_⟩
  ·exact (comp_ok I CS hf hfl hCle).exfs b hb
  ·rcases List.mem_append.mp hp with z | z
   ·exact f5 p (List.mem_append_left _ z)
   ·have e:p=(s.heap.objs.size,lstO ys n):=by simpa using z
    subst e
    intro q
    have q':s.heap.objs.size=b:=q
    exact absurd (hfl b hb) (by rw[← q']; exact Nat.lt_irrefl _)
 have loop:∀s₃:Shared,s₃={ s with heap:=h₁,toks:=s.toks+([]:List (Str×Value)).length } →
   codeAny (model X.prog X.w) X.A (.compLoop (.ListComp elt [⟨tg,iter,ifs,0⟩] scope pos) 0 (.ref it) (.ref s.heap.objs.size) (compEnvC scope (clGo X.env.cells scope.names []) H2.objs.size X.env))
    (RR (.ref s.heap.objs.size) H2.objs.size) s₃:=by
  rintro s₃ rfl
  refine loop_tests (fun k s'=>∃i H' ys its n,Inv (cxComp X scope H2.objs.size fp (ts++cap) s H) [(s.heap.objs.size,lstO its n)] (List.replicate ts.length none++pick js σ) H' s'∧Vals ys its∧tn i s'.heap∧(∀b∈fp,H' b=none)∧W i k ys H') ?_ m0
   ⟨0,H,[],[],0,I0,.nil,st₁,fun b hb=>(hf b hb).1,w0⟩
  rintro k s3 ⟨i,H3,ys,its,n,I3,v3,st3,fr3,w3⟩
  rcases turn i k ys H3 w3 with ⟨stop,hz,fin⟩ | ⟨go,hz,step⟩
  ·refine thn ((TA _).done i _ s3 _ H3 _ I3 (stat fr3) st3 stop) fun r s4 ⟨hr,I4⟩=>?_
   subst hr
   obtain⟨m4,hn4,_⟩:=I4.loc
   exact hRR _ _ s4 H3 ys m4 (comp_back I hf hCle (Nat.le_refl _) I4 v3 hz) hn4 hCle (Nat.le_refl _) (Ne.symm hDC) I4.free (I4.pin (s.heap.objs.size,lstO its n) (List.mem_append_right _ List.mem_cons_self)).2.1 fin
  ·refine thn ((TA _).item i _ s3 _ H3 _ I3 (stat fr3) st3 go) fun r s4 ⟨u,hr,h4⟩=>?_
   subst hr
   refine thn h4 fun _ s5 ⟨x,H5,I5,r5,y5,st5,fr5⟩=>?_
   have I5':=I5.pinned (stat fr5) (T.obj _ _ st5)
   refine thn (hg _ _ _ _ _ s5 _ H5 x u _ I5' r5 (step x H5 y5)) fun _ s6 ⟨σ6,H6,I6,q6⟩=>?_
   refine thn (ht _ _ _ _ _ s6 σ6 H6 _ I6 q6) fun ok s7 ⟨H7,I7,q7⟩=>?_
   have pinned:∀{σ':St}{H':Hp}{s':Shared},Inv (cxComp X scope H2.objs.size fp (ts++cap) s H) ([(s.heap.objs.size,lstO its n)]++pinsAt fp s5.heap) σ' H' s'→tn (i+1) s'.heap∧∀b∈fp,H' b=none:=fun {σ' H' s'} J=>by
    refine⟨T.keep _ _ _ st5 fun b hb o e=>(J.pin (b,o) (List.mem_append_right _ (List.mem_append_right _ (mem_pinsAt hb e)))).1,fun b hb=>?_⟩
    obtain⟨o,e,d⟩:=T.obj _ _ st5 b hb
    exact (J.pin (b,o) (List.mem_append_right _ (List.mem_append_right _ (mem_pinsAt hb e)))).2.1
   cases ok with
   | false =>
    rw[if_neg Bool.false_ne_true] at q7 ⊢
    obtain⟨m',hm,w7⟩:=q7
    obtain⟨st7,fr7⟩:=pinned I7
    exact⟨m',hm,i+1,H7,ys,its,n,comp_again I CS hf I7.unpinned,v3,st7,fr7,w7⟩
   | true =>
    rw[if_pos rfl] at q7 ⊢
    refine thn (he _ _ _ _ _ s7 σ6 H7 _ I7 q7) fun yv s8 ⟨y,H8,I8,r8,m',hm,w8⟩=>?_
    obtain⟨st8,fr8⟩:=pinned I8
    have I8':=comp_again I CS hf I8.unpinned
    obtain⟨hDg,hDn,hDC',hDs,hDd⟩:=I8'.pin (s.heap.objs.size,lstO its n) (List.mem_append_right _ List.mem_cons_self)
    have hl:=v3.length
    refine append_at (hsz:=by rw[List.size_toArray]; omega) hDg fun h9 hs9 hD9=>?_
    have tracked:∀b o,b≠s.heap.objs.size→s8.heap.get? b=some o→h9.get? b=some o:=fun b o hb e=>hs9.extBut b o hb e
    have I9:Inv (cxComp X scope H2.objs.size fp (ts++cap) s H) [(s.heap.objs.size,lstO (its++[yv]) (n+1))] (List.replicate ts.length none++pick js σ) H8 { s8 with heap:=h9 }:=by
     have J0:Inv (cxComp X scope H2.objs.size fp (ts++cap) s H) [] (List.replicate ts.length none++pick js σ) H8 s8:=I8'.pins_of (fun p hp=>absurd hp (by simp))
     have J:Inv (cxComp X scope H2.objs.size fp (ts++cap) s H) [] (List.replicate ts.length none++pick js σ) H8 { s8 with heap:=h9,toks:=s8.toks }:=J0.turned (it:=s.heap.objs.size) tracked hDn hDC' (.inr (Heap.get?_none_of_le (Nat.le_refl _))) (fun x c e q=>by
      obtain⟨v,o,ho,_⟩:=I.cell x c (CS.look I.ok e)
      rw[q] at ho
      exact absurd (Heap.lt_size ho) (Nat.lt_irrefl _)) (fun p hp q=>by
       rw[List.append_nil] at hp
       obtain⟨e,_⟩:=I.pin p (List.mem_append_left _ hp)
       rw[q] at e
       exact absurd (Heap.lt_size e) (Nat.lt_irrefl _))
     refine J.pins_of fun p hp=>?_
     have e:p=(s.heap.objs.size,lstO (its++[yv]) (n+1)):=by simpa using hp
     subst e
     refine⟨?_,hDn,hDC',hDs,fun v z=>by cases z⟩
     show h9.get? s.heap.objs.size=_
     rw[hD9]
     simp [lstO,List.push_toArray]
    have st9:tn (i+1) h9:=T.keep _ _ _ st8 fun b hb o e=>tracked b o (Nat.ne_of_lt (hfl b hb)) e
    exact⟨m',hm,i+1,H8,ys++[y],its++[yv],n+1,I9,v3.append (.cons r8 .nil),st9,fr8,w8⟩
 exact codeAny_compStart_list (loop _ rfl) (T.self _ _ _ _ _ st₁ (loop _ rfl))
theorem comp_block {tg elt iter:Expr}{ifs:List Expr}{pos:Pos}{g:TG}{tc:TT}{te:TE}{J:It}{it:Addr}{tn:Nat→Heap→Prop}{W:Nat→Nat→List V→Hp→Prop}{m0:Nat}{E:Value→Shared→Prop}
  {RR:Value→Addr→Result→Shared→Prop}{Fin:List V→Hp→Prop}
  (I:Inv X pins σ H s) (hc:X.calm=true) (T:Turn X.prog X.w X.K tg J fp it tn) (st:tn 0 s.heap) (hf:∀b∈fp,FpOk X pins H b) (CS:CompScope X scope ts cap js)
  (hg:∀C fp s H,PG (cxComp X scope C fp (ts++cap) s H) tg g) (ht:∀C fp s H,PTs (cxComp X scope C fp (ts++cap) s H) ifs tc) (he:∀C fp s H,PE (cxComp X scope C fp (ts++cap) s H) elt te)
  (w0:W 0 m0 [] H)
  (turn:∀i m ys H,W i m ys H→(J.stop i H∧ys.length≤sizeLine∧Fin ys H)∨(J.go i H∧ys.length < sizeLine∧∀x H',J.yld i H x H'→g x (List.replicate ts.length none++pick js σ) H' fun σ2 H2=>tc σ2 H2 fun b H3 =>
   if b=true then te σ2 H3 fun y H4=>∃m',m' < m∧W (i+1) m' (ys++[y]) H4 else ∃m',m' < m∧W (i+1) m' ys H3))
  (hRR:∀D C s' H' ys m,Inv X pins σ (upd H' D (.lst ys)) s'→s'.heap.Ns C m→s.heap.objs.size≤C→s.heap.objs.size≤D→C≠D→H' C=none→H' D=none→Fin ys H'→RR (.ref D) C (.ok .next) s') :
  wpAny (model X.prog X.w) X.A (newList []) (fun acc s₃=>wpAny (model X.prog X.w) X.A (newFunctionEnv scope X.env.globals (clGo X.env.cells scope.names []) [] X.env.qual none .none (some X.env)) (fun cenv s₄ =>
   codeAny (model X.prog X.w) X.A (.compStart (.ListComp elt [⟨tg,iter,ifs,0⟩] scope pos) 0 (.ref it) acc { cenv with scope:=relabel scope X.env }) (RR acc cenv.locals) s₄) E s₃) E s :=
 comp_blockG I ⟨T.obj,T.keep,T.self⟩ (fun C=>⟨T.item (cxComp X scope C fp (ts++cap) s H) rfl rfl rfl hc,T.done (cxComp X scope C fp (ts++cap) s H) rfl rfl rfl hc⟩) st hf CS hg ht he w0 turn hRR
end
end L2
end
section
set_option maxRecDepth 100000
set_option maxHeartbeats 1000000
namespace L2
open PySem PySem.Spec PyProof.Rows
section
variable {X:Cx}{scope:Scope}{ts cap:List Str}{js:List Nat}{tg elt iter:Expr}{ifs:List Expr}{pos:Pos}{wi:TI}{g:TG}{tc:TT}{te:TE}
theorem comp_gone {pins:List (Addr×Obj)}{σ:St}{H:Hp}{s:Shared}{C:Addr}{h':Heap}{n0:Nat} (I:Inv X pins σ H s) (hC0:X.s₀.heap.get? C=none) (hCL:X.env.locals≠C) (hcell:∀x c,X.env.cells.lookup x=some c→c≠C) (hpin:∀p∈X.pn++pins,p.1≠C) (hn:H C=none) (hs:Heap.SameBut C s.heap h'):Inv X pins σ H { s with heap:=h' } :=
 I.turned (t':=s.toks) (fun b o hb e=>hs.extBut b o hb e) hn (Ne.symm hCL) (.inr hC0) hcell hpin
theorem pe_comp (hc:X.calm=true) (CS:CompScope X scope ts cap js) (hi:PI X tg iter wi) (hg:∀C fp s H,PG (cxComp X scope C fp (ts++cap) s H) tg g)
  (ht:∀C fp s H,PTs (cxComp X scope C fp (ts++cap) s H) ifs tc) (he:∀C fp s H,PE (cxComp X scope C fp (ts++cap) s H) elt te)
  (hs:∀x,foldedSetIterable iter X.env x=pure x:=by intro _; rfl):PE X (.ListComp elt [⟨tg,iter,ifs,0⟩] scope pos) (tComp wi ts.length js g tc te):=by
 intro pins s σ H Q I h
 rw[eval_ListComp]
 refine wpAny_comprehension_free (use:=none) rfl hs (closureFor_eq (CS.cells I.ok)) CS.kind CS.names (thn (hi pins s σ H _ I h) fun v s1 h1=>thn h1 fun itv s2 h2=>?_)
 obtain⟨it,fp,tn,J,H2,e,I2,T,st2,f2,W,⟨m0,w0⟩,turn⟩:=h2
 subst e
 refine comp_block (RR:=fun acc C=>compPost (model X.prog X.w) X.A X.xe none (EP X pins σ Q) acc C) I2 hc T st2 f2 CS hg ht he w0 turn ?_
 intro D C s' H' ys m I' hn hC hD hCD hHC hHD fin
 have szL:=I2.lt
 have low:∀b o,s2.heap.get? b=some o→b≠C:=fun b o e=>Nat.ne_of_lt (Nat.lt_of_lt_of_le (Heap.lt_size e) hC)
 refine⟨m,hn,fun h' hs'=>⟨.ref D,_,comp_gone (n0:=0) I' (Heap.get?_none_of_le (Nat.le_trans I2.sz hC)) (Nat.ne_of_lt (Nat.lt_of_lt_of_le szL hC)) (fun x c e=>?_) (fun p hp=>?_) (by rw[upd_ne hCD]; exact hHC) hs',rfl,fin D hHD⟩⟩
 ·obtain⟨v,o,ho,_⟩:=I2.cell x c e
  exact low c o ho
 ·exact low _ _ (I2.pin p hp).1
def tAsgC (te:TE) (i:Nat):TS:=fun D σ H=>te σ H fun x H1=>D.nx (σ.set i (some x)) H1
end
end L2
end
section
set_option maxRecDepth 100000
set_option maxHeartbeats 1000000
namespace L2
open PySem PySem.Spec PyProof.Rows
mutual
inductive DatOf (K:PySem.W.Frag) (H:Hp):V→PyData→Prop
 | non:DatOf K H .non .none
 | bl (b:Bool):DatOf K H (.bl b) (.bool b)
 | int (i:Int):DatOf K H (.int i) (.int i)
 | str (x:Str):DatOf K H (.str x) (.str x)
 | lst {a:Addr}{xs:List V}{ds:List PyData}:SqL K H a xs→DatAll K H xs ds→DatOf K H (.ref a) (.list ds)
 | tup {a:Addr}{xs:List V}{ds:List PyData}:SqT K H a xs→DatAll K H xs ds→DatOf K H (.ref a) (.tuple ds)
inductive DatAll (K:PySem.W.Frag) (H:Hp):List V→List PyData→Prop
 | nil:DatAll K H [] []
 | cons {v:V}{d:PyData}{vs:List V}{ds:List PyData}:DatOf K H v d→DatAll K H vs ds→DatAll K H (v::vs) (d::ds)
end
theorem Same.seqT {K:PySem.W.Frag}{H H':Hp}{a:Addr}{xs:List V} (e:Same H H') (h:SqT K H a xs):SqT K H' a xs:=by
 rcases h with (h | ⟨o,h⟩) | h
 ·exact .inl (.inl (e _ _ h))
 ·exact .inl (.inr ⟨o,e _ _ h⟩)
 ·exact .inr h
theorem same_new {H:Hp}{p:Addr} (h:H p=none) (o:HO):Same H (upd H p o):=fun b u q=>by rw[upd_ne (ne_of_none q h)]; exact q
mutual
theorem DatOf.mono {K:PySem.W.Frag}{H H':Hp} (e:Same H H'):∀{v:V}{d:PyData},DatOf K H v d→DatOf K H' v d
 | _,_,.non=>.non
 | _,_,.bl b=>.bl b
 | _,_,.int i=>.int i
 | _,_,.str x=>.str x
 | _,_,.lst h r=>.lst (e.seq h) (DatAll.mono e r)
 | _,_,.tup h r=>.tup (e.seqT h) (DatAll.mono e r)
theorem DatAll.mono {K:PySem.W.Frag}{H H':Hp} (e:Same H H'):∀{vs:List V}{ds:List PyData},DatAll K H vs ds→DatAll K H' vs ds
 | _,_,.nil=>.nil
 | _,_,.cons h r=>.cons (DatOf.mono e h) (DatAll.mono e r)
end
section
variable {X:Cx}{pins:List (Addr×Obj)}{σ:St}{H:Hp}{s:Shared}
mutual
theorem Inv.reads (I:Inv X pins σ H s):∀{v:V}{d:PyData}{u:Value},DatOf X.K H v d→RelV v u→∃as,Reads s.heap u d as
 | _,_,_,.non,r=>by cases r; exact⟨_,.none⟩
 | _,_,_,.bl b,r=>by cases r; exact⟨_,.bool b⟩
 | _,_,_,.int i,r=>by obtain⟨t,rfl⟩:=r; exact⟨_,.int i t⟩
 | _,_,_,.str x,r=>by obtain⟨t,rfl⟩:=r; exact⟨_,.str x t⟩
 | _,_,_,.lst h q,r=>by
  cases r
  obtain⟨its,rv,⟨o,n,e,c,dd,d⟩,hz⟩:=I.list h
  obtain⟨as,z⟩:=I.readsAll q rv
  exact⟨_,.list e c d (by simpa using z)⟩
 | _,_,_,.tup h q,r=>by
  cases r
  obtain⟨its,rv,⟨o,e,c,n,d⟩,hz⟩:=I.tuple h
  obtain⟨as,z⟩:=I.readsAll q rv
  exact⟨_,.tuple e c d (by simpa using z)⟩
theorem Inv.readsAll (I:Inv X pins σ H s):∀{vs:List V}{ds:List PyData}{us:List Value},DatAll X.K H vs ds→Vals vs us→∃as,ReadsAll s.heap us ds as
 | _,_,_,.nil,.nil=>⟨_,.nil⟩
 | _,_,_,.cons h q,.cons r t=>by
  obtain⟨as,z⟩:=I.reads h r
  obtain⟨bs,y⟩:=I.readsAll q t
  exact⟨_,.cons z y⟩
end
def rEqD (K:PySem.W.Frag) (neg:Bool):R2:=fun x y H Q=>∃d e,DatOf K H x d∧DatOf K H y e∧d.canLay0=true∧e.canLay0=true∧d.depth≤60∧Q (.bl (if neg then !PyData.eqv d e else PyData.eqv d e)) H
theorem op_eqD (hu:X.A.units+64 < cLine):OpR X (compareOp .Eq) (rEqD X.K false):=by
 intro pins s σ H x y v u Q I rx ry h
 obtain⟨d,e,hd,he,c1,c2,hp,q⟩:=h
 obtain⟨as,ra⟩:=I.reads hd rx
 obtain⟨bs,rb⟩:=I.reads he ry
 exact SeqAt.compareEq_reads ra rb c1 c2 (by have:=Nat.min_le_left d.depth e.depth; omega) ⟨.bl _,H,I,rfl,q⟩
theorem op_neD (hu:X.A.units+64 < cLine):OpR X (compareOp .NotEq) (rEqD X.K true):=by
 intro pins s σ H x y v u Q I rx ry h
 obtain⟨d,e,hd,he,c1,c2,hp,q⟩:=h
 obtain⟨as,ra⟩:=I.reads hd rx
 obtain⟨bs,rb⟩:=I.reads he ry
 exact SeqAt.compareNe_reads ra rb c1 c2 (by have:=Nat.min_le_left d.depth e.depth; omega) ⟨.bl _,H,I,rfl,q⟩
end
def CBig (i j:Int):Prop:=Builtin.Int.intBits i≤2 ^ 20∧Builtin.Int.intBits j≤2 ^ 20
theorem op_mulB {X:Cx}:OpR X (binaryOp .Mult) (rI CBig fun i j=>.int (i * j)):=opI fun _ _ _ _ _ _ _ hc q=>mul_int q (IntMulOk.of_bits hc.1 hc.2)
end L2
end
section
set_option maxRecDepth 100000
set_option maxHeartbeats 1000000
namespace L2
open PySem PySem.Spec PyProof.Rows
section
variable {X:Cx}{tg:Expr}
def Nx (n i:Nat) (P:Nat→List V→Hp→Prop) (ys:List V) (H:Hp):Prop:=∃m',m' < n - i∧(m'=n - (i+1)∧i+1≤n∧P (i+1) ys H)
theorem Nx.mk {n i:Nat}{P:Nat→List V→Hp→Prop}{ys:List V}{H:Hp} (hi:i < n) (h:P (i+1) ys H):Nx n i P ys H:=⟨n - (i+1),by omega,rfl,hi,h⟩
theorem comp_by {J:It}{n k:Nat}{js:List Nat}{g:TG}{tc:TT}{te:TE}{σ:St}{H:Hp}{Q:VK} (P:Nat→List V→Hp→Prop) (h0:P 0 [] H) (hz:∀i ys H,i≤n→P i ys H→ys.length≤i) (hn:n≤sizeLine)
  (hgo:∀i ys H,i < n→P i ys H→J.go i H) (hstop:∀ys H,P n ys H→J.stop n H)
  (hs:∀i ys H x H',i < n→P i ys H→J.yld i H x H'→g x (List.replicate k none++pick js σ) H' fun σ2 H2=>tc σ2 H2 fun b H3=>if b=true then te σ2 H3 fun y H4=>Nx n i P (ys++[y]) H4 else Nx n i P ys H3)
  (hd:∀ys H,P n ys H→∀p,H p=none→Q (.ref p) (upd H p (.lst ys))) :
  CompW J k js g tc te σ H Q:=by
 refine⟨fun i m ys H=>m=n - i∧i≤n∧P i ys H,⟨n,by simp,Nat.zero_le _,h0⟩,?_⟩
 rintro i m ys H ⟨rfl,hi,p⟩
 have hy:=hz i ys H hi p
 by_cases hlt:i < n
 ·exact .inr ⟨hgo i ys H hlt p,by omega,fun x H' y=>hs i ys H x H' hlt p y⟩
 ·have e:i=n:=by omega
  subst e
  exact .inl ⟨hstop ys H p,by omega,hd ys H p⟩
theorem compR {lo:Int}{n k:Nat}{js:List Nat}{g:TG}{tc:TT}{te:TE}{σ:St}{H:Hp}{Q:VK} (P:Nat→List V→Hp→Prop) (h0:P 0 [] H) (hz:∀i ys H,i≤n→P i ys H→ys.length≤i) (hn:n≤sizeLine)
  (hs:∀i ys H,i < n→P i ys H→g (.int (lo+i)) (List.replicate k none++pick js σ) H fun σ2 H2=>tc σ2 H2 fun b H3=>if b=true then te σ2 H3 fun y H4=>Nx n i P (ys++[y]) H4 else Nx n i P ys H3)
  (hd:∀ys H,P n ys H→∀p,H p=none→Q (.ref p) (upd H p (.lst ys))) :
  CompW (Itr lo n) k js g tc te σ H Q :=
 comp_by P h0 hz hn (fun _ _ _ h _=>h) (fun _ _ _=>Nat.le_refl _) (fun i ys H x H' hi p y=>by obtain⟨e,y⟩:=y; subst e y; exact hs i ys _ hi p) hd
theorem compL {K:PySem.W.Frag}{a:Addr}{xs:List V}{k:Nat}{js:List Nat}{g:TG}{tc:TT}{te:TE}{σ:St}{H:Hp}{Q:VK} (P:Nat→List V→Hp→Prop) (h0:P 0 [] H) (hz:∀i ys H,i≤xs.length→P i ys H→ys.length≤i) (hn:xs.length≤sizeLine)
  (hl:∀i ys H,i≤xs.length→P i ys H→SqL K H a xs)
  (hs:∀i x ys H,xs[i]?=some x→P i ys H→g x (List.replicate k none++pick js σ) H fun σ2 H2=>tc σ2 H2 fun b H3=>if b=true then te σ2 H3 fun y H4=>Nx xs.length i P (ys++[y]) H4 else Nx xs.length i P ys H3)
  (hd:∀ys H,P xs.length ys H→∀p,H p=none→Q (.ref p) (upd H p (.lst ys))) :
  CompW (Itl K a) k js g tc te σ H Q :=
 comp_by P h0 hz hn (fun i ys H hi p=>⟨xs,xs[i],hl i ys H (Nat.le_of_lt hi) p,by simp [hi]⟩) (fun ys H p=>⟨xs,hl _ ys H (Nat.le_refl _) p,Nat.le_refl _⟩)
  (fun i ys H x H' hi p y=>by obtain⟨e,y⟩:=y; subst e; exact hs i x ys _ (y xs (hl i ys _ (Nat.le_of_lt hi) p)) p) hd
theorem compT {K:PySem.W.Frag}{a:Addr}{xs:List V}{k:Nat}{js:List Nat}{g:TG}{tc:TT}{te:TE}{σ:St}{H:Hp}{Q:VK} (P:Nat→List V→Hp→Prop) (h0:P 0 [] H) (hz:∀i ys H,i≤xs.length→P i ys H→ys.length≤i) (hn:xs.length≤sizeLine)
  (hl:∀i ys H,i≤xs.length→P i ys H→SqT K H a xs)
  (hs:∀i x ys H,xs[i]?=some x→P i ys H→g x (List.replicate k none++pick js σ) H fun σ2 H2=>tc σ2 H2 fun b H3=>if b=true then te σ2 H3 fun y H4=>Nx xs.length i P (ys++[y]) H4 else Nx xs.length i P ys H3)
  (hd:∀ys H,P xs.length ys H→∀p,H p=none→Q (.ref p) (upd H p (.lst ys))) :
  CompW (Itt K a) k js g tc te σ H Q :=
 comp_by P h0 hz hn (fun i ys H hi p=>⟨xs,xs[i],hl i ys H (Nat.le_of_lt hi) p,by simp [hi]⟩) (fun ys H p=>⟨xs,hl _ ys H (Nat.le_refl _) p,Nat.le_refl _⟩)
  (fun i ys H x H' hi p y=>by obtain⟨e,y⟩:=y; subst e; exact hs i x ys _ (y xs (hl i ys _ (Nat.le_of_lt hi) p)) p) hd
theorem boolsOf:∀{bs:List Bool}{us:List Value},Vals (bs.map V.bl) us→us=bs.map Value.bool
 | [],_,.nil=>rfl
 | b::r,_,.cons h t=>by cases h; rw[boolsOf t]; rfl
theorem call_all (hc:X.calm=true):CallR X (.builtin "all") (fun xs H Q=>∃(p:Addr) (bs:List Bool),xs=[.ref p]∧SqL X.K H p (bs.map V.bl)∧Q (.bl (bs.all id)) H):=by
 intro pins s σ H xs us Q I r h
 obtain⟨p,bs,rfl,hq,q⟩:=h
 obtain⟨u,rfl,rx⟩:=vals1 r
 cases rx
 obtain⟨its,rv,pl,hz⟩:=I.list hq
 have hh:X.A.in1.handled=none:=I.ok.hd hc
 have e:=boolsOf rv
 subst e
 have hp:p < s.heap.objs.size:=by obtain⟨o,n,e,_⟩:=pl; exact Heap.lt_size e
 refine call_all_walk (wpAny_pyIter_list pl.isList ⟨s.heap.objs.size,_,_,_,_,_,fun i=>bs.getD i false,rfl,Walks.list hh s.heap.objs.size p (Nat.ne_of_lt hp) _,⟨⟨_,Heap.get?_push_size _ rfl,rfl,rfl⟩,pl.isList.push _⟩,?_,fun h' tk hk=>?_⟩)
 ·intro i v s' Q' E' hv q'
  have hv':(bs.map Value.bool)[i]?=some v:=by simpa using hv
  rw[List.getElem?_map] at hv'
  cases eb:bs[i]? with
  | none=>rw[eb] at hv'; cases hv'
  | some b =>
   rw[eb] at hv'
   cases hv'
   refine wpAny_truthy_bool ?_
   have q2:Q' (bs.getD i false) s':=q'
   rw[List.getD_eq_getElem?_getD,eb] at q2
   exact q2
 ·have e:(List.range (bs.map Value.bool).toArray.size).all (fun i=>bs.getD i false)=bs.all id:=by
   rw[Bool.eq_iff_iff,List.all_eq_true,List.all_eq_true]
   constructor
   ·intro h b hb
    obtain⟨i,hi,rfl⟩:=List.mem_iff_getElem.mp hb
    have:=h i (List.mem_range.mpr (by simpa using hi))
    rw[List.getD_eq_getElem?_getD,List.getElem?_eq_getElem hi] at this
    exact this
   ·intro h i hi
    have hi':i < bs.length:=by simpa using List.mem_range.mp hi
    rw[List.getD_eq_getElem?_getD,List.getElem?_eq_getElem hi']
    exact h _ (List.getElem_mem hi')
  rw[e]
  refine⟨.bl _,H,?_,rfl,q⟩
  have I1:Inv X pins σ H { s with heap:=s.heap.push { cls:=.type "list_iterator",data:=.fields #[.ref p,.int 0 0] },toks:=s.toks }:=I.kept fun b o e=>Heap.get?_push_of_some _ e
  refine I1.turned (it:=s.heap.objs.size) (fun b o hb e=>hk b o (by simpa using hb) e) (I.hok.fresh (Nat.le_refl _)) (Nat.ne_of_gt I.lt) (.inr (Heap.get?_none_of_le I.sz)) (fun x c e z=>?_) fun p hp z=>?_
  ·obtain⟨v,o,ho,_⟩:=I.cell x c e
   rw[z] at ho
   exact absurd (Heap.lt_size ho) (Nat.lt_irrefl _)
  ·have:=(I.pin p hp).1
   rw[z] at this
   exact absurd (Heap.lt_size this) (Nat.lt_irrefl _)
theorem strsOf:∀{zs:List Str}{us:List Value},Vals (zs.map V.str) us→StrsAre us zs
 | [],_,.nil=>.nil
 | z::r,_,.cons h t=>by obtain⟨tk,rfl⟩:=h; exact .cons z tk (strsOf t)
def rJoin (K:PySem.W.Frag):V→List V→Hp→VK→Prop:=fun x vs H Q=>∃(z:Str) (p:Addr) (zs:List Str),x=.str z∧vs=[.ref p]∧SqL K H p (zs.map V.str)∧(zs.map (·.length)).sum+zs.length * z.length≤16777216∧Q (.str (Txt.join z zs)) H
theorem mt_join:MtR X "str.join" (rJoin X.K):=by
 intro pins s σ H x vs v us Q I rx rv h
 obtain⟨z,p,zs,rfl,rfl,hq,hz,q⟩:=h
 obtain⟨t,rfl⟩:=rx
 obtain⟨u,rfl,ru⟩:=rv.one
 cases ru
 obtain⟨its,r',pl,_⟩:=I.list hq
 exact join_list pl.isList (by simpa using strsOf r') hz fun t' k=>⟨.str _,H,I.tok _,⟨_,rfl⟩,q⟩
def clsV:V→Option Value
 | .ty T=>some (.type T)
 | .ref a=>some (.ref a)
 | _=>none
def rIsT (K:PySem.W.Frag):List V→Hp→VK→Prop:=fun xs H Q=>∃x y t c b,xs=[x,y]∧clsV y=some c∧TyOf K H x t∧PySem.W.kitOne K t c=some b∧Q (.bl b) H
theorem call_isT:CallR X (.builtin "isinstance") (rIsT X.K):=by
 intro pins s σ H xs us Q I r h
 obtain⟨x,y,t,c,b,rfl,ec,ty,e,q⟩:=h
 obtain⟨u,u',rfl,rx,ry⟩:=vals2 r
 have:u'=c:=by
  cases y with
  | ref _=>cases ry; exact Option.some.inj ec
  | ty _=>cases ry; exact Option.some.inj ec
  | _=>cases ec
 subst this
 exact isinst_ok I rx ty e fun tk=>⟨.bl b,H,I.tok _,rfl,q⟩
end
end L2
end
section
set_option maxRecDepth 100000
set_option maxHeartbeats 1000000
namespace L2
open PySem PySem.Spec PyProof.Rows
def Kp (F:Addr→Prop) (fs:List Addr) (h h':Heap):Prop :=
 (∀b o,h.get? b=some o→¬ F b→b ∉ fs→h'.get? b=some o)∧(∀b o,h.get? b=some o→¬ F b→∃sl,h'.get? b=some { o with slots:=sl })∧∀b o,h.get? b=some o→∃o',h'.get? b=some o'
theorem Kp.refl {F:Addr→Prop}{fs:List Addr} (h:Heap):Kp F fs h h:=⟨fun _ _ e _ _=>e,fun _ o e _=>⟨o.slots,e⟩,fun _ o e=>⟨o,e⟩⟩
theorem Kp.trans {F:Addr→Prop}{fs:List Addr}{h h1 h2:Heap} (a:Kp F fs h h1) (b:Kp F fs h1 h2):Kp F fs h h2 :=
 ⟨fun c o e n m=>b.1 c o (a.1 c o e n m) n m,fun c o e n=>by
  obtain⟨sl,e1⟩:=a.2.1 c o e n
  obtain⟨sl2,e2⟩:=b.2.1 c _ e1 n
  exact⟨sl2,e2⟩,fun c o e=>by
  obtain⟨o1,e1⟩:=a.2.2 c o e
  exact b.2.2 c o1 e1⟩
structure ExcAt (h:Heap) (x:Addr) (cls:Value) (vs:Array Value):Prop where
 get:∃oe,h.get? x=some oe∧oe.cls=cls∧oe.dict=none∧oe.data=.fields vs
 ctx:vs[2]?=some .none
def Flt (F:Addr→Prop) (h:Heap) (x:Addr) (cls fl:Value):Prop :=
 ∃vs T oT ts,ExcAt h x cls vs∧vs[1]?=some (.ref T)∧T≠x∧h.get? T=some oT∧oT.data=.fields ts∧ts[3]?=some fl∧F x∧F T
def Flt0 (F:Addr→Prop) (h:Heap) (x:Addr) (cls:Value):Prop:=∃vs,ExcAt h x cls vs∧vs[1]?=some .none∧F x
section
variable {M:Model}{A:Around}{E:Value→Shared→Prop}{s:Shared}{F:Addr→Prop}{base:Heap}{env:Env}{outer:List Env}{L x:Addr}{cls:Value}
theorem set_fl {fl:Value}{Q:Unit→Shared→Prop} (t:Flt F s.heap x cls fl) {fs:List Addr} (h:∀h',Kp F fs s.heap h'→Flt F h' x cls .none→Q () { s with heap:=h' }):wpAny M A (setFlight (.ref x) none) Q E s:=by
 obtain⟨vs,T,oT,ts,⟨⟨oe,he,hc,hdd,hd⟩,h2⟩,h1,hTx,hT,hdT,h3,fx,fT⟩:=t
 have z3:3 < ts.size:=(Array.getElem?_eq_some_iff.mp h3).1
 unfold setFlight
 refine wpAny_bind (wpAny_field he hd h1 ?_)
 rw[if_pos (show (Value.ref T != Value.none)=true from by simp)]
 have oth:∀b,b≠T→(s.heap.update T (Obj.mapFields (·.setIfInBounds 3 Value.none))).get? b=s.heap.get? b:=fun b hb=>Heap.get?_update_other _ _ (Ne.symm hb)
 have slf:=Heap.get?_update_self (Obj.mapFields (·.setIfInBounds 3 Value.none)) hT (Obj.isFreed_of_fields (Obj.data_mapFields hdT _))
 refine wpAny_setField hT hdT z3 (h _ ⟨fun b o e n _=>?_,fun b o e n=>⟨o.slots,?_⟩,fun b o e=>?_⟩ ?_)
 ·exact (oth b fun z=>n (z ▸ fT)).trans e
 ·exact (oth b fun z=>n (z ▸ fT)).trans e
 ·by_cases z:b=T
  ·subst z; exact⟨_,slf⟩
  ·exact⟨o,(oth b z).trans e⟩
 ·exact⟨vs,T,_,_,⟨⟨oe,(oth x (Ne.symm hTx)).trans he,hc,hdd,hd⟩,h2⟩,h1,hTx,slf,Obj.data_mapFields hdT _,by simp [z3],fx,fT⟩
theorem note_entry {vs:Array Value}{head:Value}{hn:Bool}{Q:Unit→Shared→Prop} (hfr:A.frames=some (env::outer)) (hl:s.heap.FunFrames base (env::outer)) (hf:env.frame=some L)
  (t:ExcAt s.heap x cls vs) (z1:1 < vs.size) (fx:F x) (hF:∀b,s.heap.objs.size≤b→F b)
  (h:∀h',Kp F (frs (env::outer)) s.heap h'→Flt F h' x cls (rawInt L)→Q () { s with heap:=h' }) :
  wpAny M A (do let a ← frameOf env; let pl ← entryPlaceOf L hn; let b ← EntryCells.newEntry head a .none (rawInt L) .none pl; setField (.ref x) 1 b) Q E s:=by
 obtain⟨⟨oe,he,hc,hdd,hd⟩,h2⟩:=t
 have hx:x ∉ frs (env::outer):=fun hm=>by
  obtain⟨_,o,ho,hnf⟩:=hl.mem hm
  rw[he] at ho; cases ho; exact hnf vs hd
 refine wpAny_bind (wpAny_frameOf_fun hfr hl hf fun g hs=>?_)
 obtain⟨g0,g1,g2⟩:=hs
 refine wpAny_bind (wpAny_entryPlaceOf fun pl hpl=>?_)
 unfold EntryCells.newEntry newFields
 refine wpAny_bind (wpAny_newObj_type ?_ (hpl.sizeOk5 _ _ _ _ _))
 have he1:g.get? x=some oe:=(g1 x hx).trans he
 generalize hob:({ cls:=.type "traceback",dict:=none,data:=.fields ([head,.ref L,.none,rawInt L,.none]++(if pl.isEmpty then List.replicate 6 Value.none else pl)).toArray }:Obj)=ob
 have hobd:ob.data=.fields ([head,.ref L,.none,rawInt L,.none]++(if pl.isEmpty then List.replicate 6 Value.none else pl)).toArray:=by rw[← hob]
 have hobf:ob.isFreed=false:=Obj.isFreed_of_fields hobd
 have he2:(g.push ob).get? x=some oe:=Heap.get?_push_of_some _ he1
 have hTx:g.objs.size≠x:=Nat.ne_of_gt (Heap.lt_size he1)
 have hd3:=Obj.data_mapFields hd (·.setIfInBounds 1 (Value.ref g.objs.size))
 have slf:=Heap.get?_update_self (Obj.mapFields (·.setIfInBounds 1 (Value.ref g.objs.size))) he2 (Obj.isFreed_of_fields hd3)
 have oth:∀b o,b≠x→g.get? b=some o→((g.push ob).update x (Obj.mapFields (·.setIfInBounds 1 (Value.ref g.objs.size)))).get? b=some o:=fun b o hb e=>by
  rw[Heap.get?_update_other _ _ (Ne.symm hb)]
  exact Heap.get?_push_of_some _ e
 refine wpAny_setField he2 hd z1 (h _ ⟨fun b o e n m=>?_,fun b o e n=>?_,fun b o e=>?_⟩ ?_)
 ·exact oth b o (fun z=>n (z ▸ fx)) ((g1 b m).trans e)
 ·obtain⟨sl,q⟩:=g2 b o e
  exact⟨sl,oth b _ (fun z=>n (z ▸ fx)) q⟩
 ·obtain⟨sl,q⟩:=g2 b o e
  by_cases z:b=x
  ·subst z; exact⟨_,slf⟩
  ·exact⟨_,oth b _ z q⟩
 ·refine⟨_,g.objs.size,ob,_,⟨⟨_,slf,by rw[Obj.cls_mapFields]; exact hc,?_,hd3⟩,?_⟩,by simp [z1],hTx,?_,hobd,?_,fx,hF _ (Nat.le_of_eq g0.symm)⟩
  ·obtain⟨c,d,dt,sl⟩:=oe
   cases dt <;> exact hdd
  ·rw[Array.getElem?_setIfInBounds_ne (by decide)]; exact h2
  ·rw[Heap.get?_update_other _ _ (Ne.symm hTx)]
   exact Heap.get?_push_size g (by exact hobf)
  ·simp
theorem note_new {Q:Unit→Shared→Prop} (hfr:A.frames=some (env::outer)) (hl:s.heap.FunFrames base (env::outer)) (hf:env.frame=some L) (t:Flt0 F s.heap x cls) (hF:∀b,s.heap.objs.size≤b→F b)
  (h:∀h',Kp F (frs (env::outer)) s.heap h'→Flt F h' x cls (rawInt L)→Q () { s with heap:=h' }):wpAny M A (noteFrame (.ref x) env) Q E s:=by
 obtain⟨vs,ea,h1,fx⟩:=t
 obtain⟨oe,he,hc,hdd,hd⟩:=ea.get
 unfold noteFrame
 simp only[hf]
 refine wpAny_bind (wpAny_field he hd h1 ?_)
 rw[if_neg (by decide)]
 exact note_entry hfr hl hf ea (Array.getElem?_eq_some_iff.mp h1).1 fx hF h
theorem note_next {Q:Unit→Shared→Prop} (hfr:A.frames=some (env::outer)) (hl:s.heap.FunFrames base (env::outer)) (hf:env.frame=some L) (t:Flt F s.heap x cls .none) (hF:∀b,s.heap.objs.size≤b→F b)
  (h:∀h',Kp F (frs (env::outer)) s.heap h'→Flt F h' x cls (rawInt L)→Q () { s with heap:=h' }):wpAny M A (noteFrame (.ref x) env) Q E s:=by
 obtain⟨vs,T,oT,ts,⟨⟨oe,he,hc,hdd,hd⟩,h2⟩,h1,hTx,hT,hdT,h3,fx,fT⟩:=t
 have z3:3 < ts.size:=(Array.getElem?_eq_some_iff.mp h3).1
 unfold noteFrame
 simp only[hf]
 refine wpAny_bind (wpAny_field he hd h1 ?_)
 rw[if_pos (show (Value.ref T != Value.none)=true from by simp)]
 refine wpAny_bind (wpAny_field hT hdT h3 ?_)
 rw[if_neg (show ¬ ((Value.none == rawInt L)=true) from by simp [rawInt])]
 have oth:∀b,b≠T→(s.heap.update T (Obj.mapFields (·.setIfInBounds 3 Value.none))).get? b=s.heap.get? b:=fun b hb=>Heap.get?_update_other _ _ (Ne.symm hb)
 have slf:=Heap.get?_update_self (Obj.mapFields (·.setIfInBounds 3 Value.none)) hT (Obj.isFreed_of_fields (Obj.data_mapFields hdT _))
 have nrec:∀b o,s.heap.get? b=some o→(∀vs,o.data≠.fields vs)→b≠T:=fun b o e nf z=>by
  rw[z,hT] at e; cases e; exact nf ts hdT
 have k1:Kp F (frs (env::outer)) s.heap (s.heap.update T (Obj.mapFields (·.setIfInBounds 3 Value.none))):=⟨fun b o e n _=>(oth b fun z=>n (z ▸ fT)).trans e,fun b o e n=>⟨o.slots,(oth b fun z=>n (z ▸ fT)).trans e⟩,fun b o e=>by
  by_cases z:b=T
  ·subst z; exact⟨_,slf⟩
  ·exact⟨o,(oth b z).trans e⟩⟩
 refine wpAny_bind (wpAny_setField hT hdT z3 ?_)
 refine note_entry (s:={ s with heap:=s.heap.update T (Obj.mapFields (·.setIfInBounds 3 Value.none)) }) hfr (hl.of_keeps fun b o e nf=>⟨o,(oth b (nrec b o e nf)).trans e,rfl⟩) hf (vs:=vs) ⟨⟨oe,(oth x (Ne.symm hTx)).trans he,hc,hdd,hd⟩,h2⟩ (Array.getElem?_eq_some_iff.mp h1).1 fx (fun b hb=>hF b (by rwa [Heap.size_update] at hb)) ?_
 intro h' k2 t2
 exact h h' (k1.trans k2) t2
end
end L2
end
section
set_option maxRecDepth 100000
set_option maxHeartbeats 1000000
namespace L2
open PySem PySem.Spec PyProof.Rows
section
variable {X:Cx}{pins:List (Addr×Obj)}{σ:St}{H:Hp}{s:Shared}{h':Heap}
theorem Inv.flight {t':Nat} (I:Inv X pins σ H s) (k:Kp (FpOk X pins H) (frs X.stack) s.heap h'):Inv X pins σ H { s with heap:=h',toks:=t' }:=by
 classical
 have nf:∀b o,H b=some o→¬ FpOk X pins H b:=fun b o e f=>by rw[f.1] at e; cases e
 have ns:∀b o,H b=some o→b ∉ frs X.stack:=fun b o e z=>by rw[I.stkFree b z] at e; cases e
 have hch:∀b∈(List.range s.heap.objs.size).filter (fun b=>decide (FpOk X pins H b)),FpOk X pins H b:=fun b hb=>of_decide_eq_true (List.mem_filter.mp hb).2
 have nch:∀b o,s.heap.get? b=some o→b ∉ (List.range s.heap.objs.size).filter (fun b=>decide (FpOk X pins H b))→¬ FpOk X pins H b:=fun b o e n f =>
  n (List.mem_filter.mpr ⟨List.mem_range.mpr (Heap.lt_size e),decide_eq_true f⟩)
 have stk:∀b,b≠X.env.locals→b ∉ X.fs→b ∉ frs X.stack:=fun b h1 h2 z=>(List.mem_cons.mp (I.stkSub b z)).elim h1 h2
 refine I.step (g':=s.gens) (d':=s.drawn) (ch:=(List.range s.heap.objs.size).filter (fun b=>decide (FpOk X pins H b))) (fun b hb=>?_) (fun b o hL hb hc e n=>k.1 b o e (nch b o e hc) (stk b hL hb)) (fun b o hL hb hc e n=>k.2.1 b o e (nch b o e hc))
  (fun b o hc e n=>n) (fun b o hc e=>k.2.2 b o e) (fun _ _ e=>e) (fun _ _ _ e=>e) (fun b ps e=>⟨#[],by rw[e]; simp⟩) (fun m hm=>?_) (fun b o e=>?_) I.bare
 ·obtain⟨f0,f1,f2,f3,f4,f5⟩:=hch b hb
  exact⟨f3,f1,f4,f5⟩
 ·obtain⟨o,es,ep,ho,r⟩:=hm
  obtain⟨sl,q⟩:=k.2.1 _ o ho fun f=>f.2.1 rfl
  exact⟨_,es,ep,q,r⟩
 ·refine (I.hok b o e).stay (fun c u hc q=>?_) (fun _ q=>q) fun _ _ q=>q
  rcases hc with z | z
  ·subst z; exact k.1 _ u q (nf _ o e) (ns _ o e)
  ·exact k.1 c u q (nf c _ z) (ns c _ z)
theorem Inv.fpGone {H':Hp} (I:Inv X pins σ H s) {b:Addr} (hb:s.heap.get? b=none) (hn:H' b=none):FpOk X pins H' b:=by
 refine⟨hn,fun z=>?_,fun z=>?_,?_,fun x c e z=>?_,fun p hp z=>?_⟩
 ·obtain⟨m,⟨o,_,_,ho,_⟩,_⟩:=I.loc
  rw[z,ho] at hb; cases hb
 ·obtain⟨_,o,ho,_⟩:=I.funs.mem z
  rw[ho] at hb; cases hb
 ·by_cases hx:b∈X.ex
  ·exact .inl hx
  ·refine .inr ?_
   cases e:X.s₀.heap.get? b with
   | none=>rfl
   | some o =>
    obtain⟨o',e'⟩:=I.base.there b o e hx
    rw[e'] at hb; cases hb
 ·obtain⟨v,o,ho,_⟩:=I.cell x c e
  rw[z,hb] at ho; cases ho
 ·have:=(I.pin p hp).1
  rw[z,hb] at this; cases this
theorem Inv.fpNew (I:Inv X pins σ H s):∀b,s.heap.objs.size≤b→FpOk X pins H b:=fun b hb=>I.fpOk hb (I.hok.fresh hb)
end
def CXe (P:Program) (w:World):CXT:=fun outer H s E e s'=>∃x cls H',e=.ref x∧s'.os=s.os∧AllBare s'.gens∧Un (frs outer) [] H H' s.heap s'.heap∧HOk P w H' s'.heap ∧
 Flt (fun b=>s.heap.get? b=none∧H' b=none) s'.heap x cls .none∧E cls none H'
def Out (X:Cx) (pins:List (Addr×Obj)) (x:Addr) (cls:Value) (σ:St) (H:Hp) (s:Shared):Prop:=Inv X pins σ H s∧(Flt0 (FpOk X pins H) s.heap x cls∨Flt (FpOk X pins H) s.heap x cls .none)
section
variable {X:Cx}{pins:List (Addr×Obj)}{σ:St}{H:Hp}{s:Shared}
theorem Flt.imp {F G:Addr→Prop}{h:Heap}{x:Addr}{cls fl:Value} (f:∀b,F b→G b) (t:Flt F h x cls fl):Flt G h x cls fl:=by
 obtain⟨vs,T,oT,ts,a,b,c,d,e,g,fx,fT⟩:=t
 exact⟨vs,T,oT,ts,a,b,c,d,e,g,f _ fx,f _ fT⟩
theorem Kp.imp {F G:Addr→Prop}{fs:List Addr}{h h':Heap} (f:∀b,F b→G b) (k:Kp F fs h h'):Kp G fs h h' :=
 ⟨fun b o e n m=>k.1 b o e (fun z=>n (f b z)) m,fun b o e n=>k.2.1 b o e fun z=>n (f b z),k.2.2⟩
theorem Out.of_call {E:XK}{e:Value}{s':Shared} (I:Inv X pins σ H s) (c:CXe X.prog X.w X.stack H s E e s'):∃x cls H',e=.ref x∧E cls none H'∧Out X pins x cls σ H' s':=by
 obtain⟨x,cls,H',rfl,os,bare,un,hok,t,q⟩:=c
 have I':Inv X pins σ H' s':=I.call' (ch:=[]) os un hok bare (fun b z=>absurd z (by simp))
 refine⟨x,cls,H',rfl,q,I',.inr (t.imp fun b ⟨hb,hn⟩=>?_)⟩
 exact I.fpGone hb hn
theorem Out.note {E:Value→Shared→Prop}{x L:Addr}{cls:Value}{Q:Unit→Shared→Prop} (o:Out X pins x cls σ H s) (hst:X.stack=X.env::X.outer) (hf:X.env.frame=some L)
  (h:∀h',Kp (FpOk X pins H) (frs X.stack) s.heap h'→Flt (FpOk X pins H) h' x cls (rawInt L)→Q () { s with heap:=h' }):wpAny (model X.prog X.w) X.A (noteFrame (.ref x) X.env) Q E s:=by
 obtain⟨I,t⟩:=o
 have hfr:X.A.frames=some (X.env::X.outer):=by rw[I.ok.frames,hst]
 have hl:s.heap.FunFrames X.base (X.env::X.outer):=by rw[← hst]; exact I.stack
 rw[hst] at h
 rcases t with t | t
 ·exact note_new hfr hl hf t I.fpNew h
 ·exact note_next hfr hl hf t I.fpNew h
theorem Out.leave {P:Program}{w:World}{K:PySem.W.Frag}{mg:Str→Option Value}{base:Heap}{N:List Str}{qual:Str}{scope:Scope}{f:Addr}{cd:Value}{A:Around}{outer:List Env}{s0:Shared}{H0:Hp}{E:XK}{x:Addr}{cls:Value}
  {EE:Value→Shared→Prop} (o:Out { cxOf (CXe P w) P w K mg base N qual scope f cd A outer s0 H0 E with xe:=EE } pins x cls σ H s) (q:E cls none H):(cxOf (CXe P w) P w K mg base N qual scope f cd A outer s0 H0 E).xe (.ref x) s:=by
 have I:=o.1
 show wpAny (model P w) (A.deeper (envOfC qual scope s0.heap.objs.size f cd)) (leaving (envOfC qual scope s0.heap.objs.size f cd) (.ref x)) _ _ s
 unfold leaving
 refine wpAny_bind ?_
 refine Out.note (X:={ cxOf (CXe P w) P w K mg base N qual scope f cd A outer s0 H0 E with xe:=EE }) (L:=s0.heap.objs.size) o rfl rfl fun h1 k1 t1=>?_
 refine set_fl (s:={ s with heap:=h1 }) (fs:=frs (envOfC qual scope s0.heap.objs.size f cd::outer)) t1 fun h2 k2 t2=>?_
 have I2:Inv { cxOf (CXe P w) P w K mg base N qual scope f cd A outer s0 H0 E with xe:=EE } pins σ H { s with heap:=h2,toks:=s.toks }:=I.flight (k1.trans k2)
 refine⟨x,cls,H,rfl,I2.os,I2.bare,I2.base,I2.hok,t2.imp fun b fb=>⟨?_,fb.1⟩,q⟩
 rcases fb.2.2.2.1 with z | z
 ·exact absurd (show b∈([]:List Addr) from z) (by simp)
 ·exact z
end
end L2
end
section
set_option maxRecDepth 100000
set_option maxHeartbeats 1000000
namespace L2
open PySem PySem.Spec PyProof.Rows
abbrev XS:=Value→St→Hp→Prop
def Xok (X:Cx) (EX:XS):Prop:=∀(pins:List (Addr×Obj)) (σ:St) (H:Hp) (s:Shared) (x:Addr) (cls:Value),Out X pins x cls σ H s→EX cls σ H→X.xe (.ref x) s
theorem xok_def {P:Program}{w:World}{K:PySem.W.Frag}{mg:Str→Option Value}{base:Heap}{N:List Str}{qual:Str}{scope:Scope}{f:Addr}{cd:Value}{A:Around}{outer:List Env}{s0:Shared}{H0:Hp}{E:XK} :
  Xok (cxOf (CXe P w) P w K mg base N qual scope f cd A outer s0 H0 E) (fun cls _ H=>E cls none H):=fun pins σ H s x cls o q =>
 Out.leave (EE:=(cxOf (CXe P w) P w K mg base N qual scope f cd A outer s0 H0 E).xe) o q
theorem exc_cls {K:PySem.W.Frag}{h:Heap}{C:Addr}{bmB:List Value}{newId:String} (X:K.In h) (q:PySem.W.excIn K C bmB newId=true) :
  ∃bm N nm qn bs hdct sn sub ab col dd k0 k1 k2 k3 k5 mN,h.get? C=some (excClassObj nm qn C N bs bm hdct sn sub ab col dd k0 k1 k2 k3 k5 newId)∧h.Ns N mN∧mN "__init__"=none∧OwnTail h bmB bm:=by
 unfold PySem.W.excIn at q
 split at q
 ·rename_i dd cd sl ho
  split at q
  ·rename_i C' bm k0 k1 k2 k3 n k5 hm hs
   simp only[Bool.and_eq_true,beq_iff_eq,Bool.not_eq_true'] at q
   obtain⟨⟨⟨⟨⟨rfl,rfl⟩,hdel⟩,ht⟩,hok⟩,hni⟩:=q
   obtain⟨nm,bs,mro,ns,qn,hd,sn,sub,ab,col,del⟩:=cd
   dsimp only at hm hdel hok hni
   subst hm; subst hdel
   obtain⟨l⟩:=sl
   have hl:l=[k0,k1,k2,k3,some (.builtin n),k5]:=hs
   subst hl
   exact⟨bm,ns,nm,qn,bs,hd,sn,sub,ab,col,dd,k0,k1,k2,k3,k5,_,X _ _ ho,.of_isNs (PySem.W.isNs_of_in X hok),PySem.W.nsMap_none_of_in X hok hni,PySem.W.tail_of_in X ht⟩
  ·cases q
 ·cases q
abbrev bmVE:List Value:=[.type "ValueError",.type "Exception",.type "BaseException",.type "object"]
def tRaise (t:TA) (EX:St→Hp→Prop):TS:=fun D σ H=>t σ H fun vs H1=>vs.length≤sizeLine∧EX σ H1
theorem ps_raise {X:Cx}{x:Str}{C:Addr}{np cpos pos:Pos}{e:Expr}{es:List Expr}{t:TA}{EX:XS} (hc:X.calm=true) (hg:Gl X x) (hm:X.mg x=some (.ref C)) (hK:PySem.W.excIn X.K C bmVE "ValueError.__new__"=true) (ha:PA X (e::es) t) (hx:Xok X EX)
  (hdb:(x == ("__debug__" : Str))=false:=by decide) (he:starEach (e::es) X.env=(false,eval e X.env)::starEach es X.env:=by rfl) (hpl:(backTo cpos (starEach es X.env)).any (·.1)=false:=by rfl) :
  PS X (.Raise (some (.Call (.Name x np) (e::es) [] cpos)) none pos) (tRaise t (EX (.ref C))):=by
 intro pins s σ H D I h
 obtain⟨bm,N,nm,q,bs,hdct,sn,sub,ab,col,dd,k0,k1,k2,k3,k5,mN,hC,hN,hni,T⟩:=exc_cls I.mod.kin hK
 refine wpAny_Raise_call_subT (C:=C) (nm:=nm) (q:=q) (N:=N) (bs:=bs) (bm:=bm) (hdct:=hdct) (sn:=sn) (sub:=sub) (ab:=ab) (col:=col) (dd:=dd) (k0:=k0) (k1:=k1) (k2:=k2) (k3:=k3) (k5:=k5)
  PySem.F.excBase_ValueError (mN:=mN) (T.hasType PySem.F.excBase_ValueError.hasBase) (I.ok.hd hc) (by rw[he]; show (false || (backTo cpos (starEach es X.env)).any (·.1))=false; rw[hpl]; rfl) hni (ld_glob I hg hm ⟨rfl,?_⟩ hdb)
 have hA:=ha cpos pins s σ H _ I h
 rw[he] at hA ⊢
 refine Calls.evalArgs_plain (thn hA fun us s2 ⟨vs,H1,I1,r1,hz,q1⟩=>⟨rfl,by rw[← r1.length]; exact hz,I1.bk _ _ hC,hN.keeps I1.bk,T.keeps I1.bk,fun h' x' hm'=>?_⟩)
 have I2:Inv X pins σ H1 { s2 with heap:=h',toks:=s2.toks }:=I1.kept hm'.keeps
 refine hx pins σ H1 _ x' (.ref C) ⟨I2,.inl ?_⟩ q1
 obtain⟨tt,h1,h2,h3⟩:=hm'.there
 refine⟨_,⟨⟨_,h1,rfl,rfl,rfl⟩,rfl⟩,rfl,I1.fpGone hm'.new ?_⟩
 cases e2:H1 x' with
 | none=>rfl
 | some o =>
  obtain⟨ob,g⟩ : ∃ob,s2.heap.get? x'=some ob:=by
   have z:=(I1.hok x' o e2)
   clear q1
   revert z
   induction o with
   | lst xs=>exact fun ⟨_,its,n,r,e⟩=>⟨_,e⟩
   | tup xs=>exact fun ⟨_,its,r,ob,e,_⟩=>⟨_,e⟩
   | dK kvs=>exact fun ⟨_,_,_,_,ob,_,_,e,_⟩=>⟨_,e⟩
   | dT kvs=>exact fun ⟨_,_,_,_,ob,_,_,e,_⟩=>⟨_,e⟩
   | set S n=>exact fun ⟨ob,_,_,_,e,_⟩=>⟨_,e⟩
   | ins C dx fs=>exact fun ⟨_,_,_,e,_⟩=>⟨_,e⟩
   | own x=>exact fun ⟨ob,e⟩=>⟨_,e⟩
   | xd fs=>exact fun ⟨mA,⟨ob,_,_,e,_⟩,_⟩=>⟨_,e⟩
   | met f x=>exact fun e=>⟨_,e⟩
   | rng lo hi=>exact fun ⟨_,_,_,e⟩=>⟨_,e⟩
   | frz o u _=>exact fun ⟨e,_⟩=>⟨_,e⟩
   | tbl ps=>exact fun e=>⟨_,e⟩
   | ext φ=>exact fun ⟨_,⟨ob,e⟩,_⟩=>⟨_,e⟩
  rw[hm'.new] at g
  cases g
def tCallX (sp:Sp) (EX:XS) (t:TA):TE:=fun σ H Q=>t σ H fun vs H1=>sp vs H1 Q fun cls _ H'=>EX cls σ H'
theorem pe_callX {X:Cx}{k:Nat}{f:Addr}{fd:FuncData}{ps:List Str}{sp:Sp}{EX:XS}{x:Str}{p pos:Pos}{e:Expr}{es:List Expr}{t:TA} (F:FnOk X.prog X.w X.K X.mg X.base (CXe X.prog X.w) k f fd ps sp) (hr:Room k X.A) (hg:Gl X x) (hm:X.mg x=some (.ref f)) (hk:PySem.W.keepIn X.K (.ref f)=true) (hb:Binds X.K fd ps []) (hx:Xok X EX)
  (ha:PA X (e::es) t) (hdb:(x == ("__debug__" : Str))=false:=by decide) (he:starEach (e::es) X.env=(false,eval e X.env)::starEach es X.env:=by rfl) (hpl:(backTo pos (starEach es X.env)).any (·.1)=false:=by rfl) :
  PE X (.Call (.Name x p) (e::es) [] pos) (tCallX sp EX t):=by
 intro pins s σ H Q I h
 refine wpAny_Call_Name_kw (ld_glob I hg hm ?_ hdb)
 refine PySem.W.callWith_K (h₀:=X.base) I.ok.mod.kin hk (thn (ha pos pins s σ H _ I h) fun us s1 ⟨vs,H1,I1,r,q⟩=>⟨I1.kIn,?_⟩) he hpl
 have hl:(us++[]).length=ps.length:=by rw[List.append_nil,← r.length]; exact F.len _ _ _ _ q
 have hb':=hb s1 us I1.kIn hl
 rw[List.append_nil] at hb'
 refine wpAny_call (codeAny_mono (F.run X.A X.stack s1 H1 ⟨us,[]⟩ us vs Q _ hr I1.env0 hb' r q) fun r s' hq=>?_)
 cases r with
 | error e =>
  obtain⟨x,cls,H',rfl,q',o⟩:=Out.of_call (E:=fun cls _ H'=>EX cls σ H') (e:=e) (s':=s') I1 hq
  exact hx pins σ H' s' x cls o q'
 | ok fl =>
  cases fl with
  | ret u=>exact I1.after hq
  | next=>exact False.elim hq
  | brk=>exact False.elim hq
  | cont=>exact False.elim hq
section
variable {P:Program}{w:World}{K:PySem.W.Frag}{mg:Str→Option Value}{base:Heap}
theorem Fun.okE {x qual:Str}{st:Stmt}{f:Addr}{fd:FuncData}{N ps:List Str}{k:Nat}{sp:Sp} (F:Fun K x qual st f fd) (S:FnScope N ps (defScope st)) (len:∀vs H Q E,sp vs H Q E→vs.length=ps.length)
  (hbody:∀(cdv:Value) (A:Around) (outer:List Env) (s:Shared) (H:Hp) (vs:List V) (Q:VK) (E:XK),Room k (A.deeper (envOfC qual (defScope st) s.heap.objs.size f cdv))→sp vs H Q E →
   ∃t,PSs (cxOf (CXe P w) P w K mg base N qual (defScope st) f cdv A outer s H E) (defBody st) t∧t { nx:=fun _ H'=>Q .non H',rt:=Q } (start N vs) H):FnOk P w K mg base (CXe P w) (k+1) f fd ps sp:=by
 obtain⟨oc,od,kV,doc,pm,an,cdv,ct,osl,rfl,lk,hcd⟩:=F.ex
 exact fn_of lk hcd S len fun A outer s H vs Q E hr hsp=>hbody cdv A outer s H vs Q E hr hsp
theorem Room.calm {k:Nat}{A:Around}{env:Env} (r:Room k (A.deeper env)):A.handled.isNone=true:=by
 have:=r.hd
 have h2:A.handled=none:=this
 rw[h2]; rfl
end
end L2
end
section
set_option maxRecDepth 100000
set_option maxHeartbeats 2000000
namespace L2
open PySem PySem.Spec PyProof.Rows
section
variable {M:Model}{A:Around}{E:Value→Shared→Prop}
theorem exc_matches {h:Heap}{g:Array GenState}{d:Drawn}{t:Nat}{os:OsState}{x C B:Addr}{oe:Obj}{nm q:Str}{N:Addr}{bs bm:List Value}{hdct:Bool}{sn:List Str}{sub:List Value}{ab:Bool}{col:Option Bool}{dd:Option Addr}{k0 k1 k2 k3 k5:Option Value}{newId:String}
  {nmb qb:Str}{Nb:Addr}{bsb bmb:List Value}{hdctb:Bool}{snb:List Str}{subb:List Value}{abb:Bool}{colb:Option Bool}{ddb:Option Addr}{j0 j1 j2 j3 j5:Option Value}{newIdb:String}{Q:Bool→Shared→Prop}
  (hC:h.get? C=some (excClassObj nm q C N bs bm hdct sn sub ab col dd k0 k1 k2 k3 k5 newId)) (hB:h.get? B=some (excClassObj nmb qb B Nb bsb bmb hdctb snb subb abb colb ddb j0 j1 j2 j3 j5 newIdb))
  (he:h.get? x=some oe) (hcls:oe.cls=.ref C) (hbase:bmb.contains (.type "BaseException")=true) (hs:(Value.ref C::bm).contains (.ref B)=true)
  (hq:Q true ⟨h,g,d,t,os⟩):wpAny M A (excMatches (.ref x) (.ref B)) Q E ⟨h,g,d,t,os⟩:=by
 have hcB:(Value.ref B::bmb).contains (.type "BaseException")=true:=by rw[List.contains_cons,hbase,Bool.or_true]
 have f:=tc_notTuple
 unfold excMatches
 repeat (first | (with_reducible refine wpAny_loadPart_at he ?_; rw[hcls]) | with_reducible refine wpAny_loadPart_at hB ?_ | (with_reducible refine wpAny_isSubtype_exc hB ?_; rw[hcB]) | (with_reducible refine wpAny_isSubtype_exc hC ?_; rw[hs]) | wp_step)
 exact hq
end
def subIn (K:PySem.W.Frag) (C B:Addr):Bool:=match K.lookup C with
 | some ⟨_,_,.cls cd,_⟩=>cd.mro.contains (.ref B)
 | _=>false
def ExcO (x:Addr) (cls:Value):HO:=.ext fun h=>∃vs,ExcAt h x cls vs
section
variable {X:Cx}{pins:List (Addr×Obj)}{σ:St}{H:Hp}{s:Shared}
theorem Inv.track {b:Addr}{o:HO} (I:Inv X pins σ H s) (f:FpOk X pins H b) (ob:ObjOk X.prog X.w (upd H b o) s.heap b o):Inv X pins σ (upd H b o) s:=by
 obtain⟨f0,f1,f2,f3,f4,f5⟩:=f
 have nb:∀c u,H c=some u→c≠b:=fun c u e z=>by rw[z,f0] at e; cases e
 refine⟨I.ok,I.os,I.bare,⟨I.base.keep,I.base.slot,fun c u e n hx=>?_,I.base.there,fun c xs e=>?_,fun c u xs e=>?_,fun c ps e=>?_⟩,I.loc,I.cell,?_,fun x c e=>?_,fun p hp=>?_,fun c u e=>?_,I.len⟩
 ·have z:c≠b:=fun z=>by
   subst z
   rcases f3 with q | q
   ·exact hx q
   ·rw[q] at e; cases e
  rw[upd_ne z]; exact I.base.free c u e n hx
 ·have q:=I.base.tups c xs e; rw[upd_ne (nb c _ q)]; exact q
 ·have q:=I.base.frzs c u xs e; rw[upd_ne (nb c _ q)]; exact q
 ·obtain⟨more,q⟩:=I.base.tbls c ps e; exact⟨more,by rw[upd_ne (nb c _ q)]; exact q⟩
 ·rw[upd_ne (Ne.symm f1)]; exact I.free
 ·rw[upd_ne (f4 x c e)]; exact I.freeC x c e
 ·obtain⟨a1,a2,a3⟩:=I.pin p hp
  exact⟨a1,by rw[upd_ne (f5 p hp)]; exact a2,a3⟩
 ·by_cases z:c=b
  ·subst z; rw[upd_same] at e; cases e; exact ob
  ·rw[upd_ne z] at e
   refine (I.hok c u e).stay (fun _ _ _ q=>q) (fun a q=>?_) fun a xs q=>?_
   ·rw[upd_ne (nb a _ q)]; exact q
   ·rw[upd_ne (nb a _ q)]; exact q
abbrev Cx.hold (X:Cx) (pn:List (Addr×Obj)):Cx:={ X with pn:=X.pn++pn }
def cxTry (X:Cx) (pn:List (Addr×Obj)) (EX:XS):Cx:={ X with pn:=X.pn++pn,xe:=fun e s'=>∃x cls σ' H',e=.ref x∧Out (X.hold pn) [] x cls σ' H' s'∧EX cls σ' H' }
def cxHand (X:Cx) (x:Addr):Cx:={ X with A:=X.A.mark (some (.ref x)),calm:=false,xe:=fun _ _=>False }
theorem Cx.Ok.same {X Y:Cx} (ok:X.Ok) (h:Y={ X with pn:=Y.pn,xe:=Y.xe }):Y.Ok:=by
 rw[h]
 exact⟨ok.mod,ok.kind,ok.glob,ok.blt,ok.above,ok.inj,ok.has,ok.cab,ok.hd,ok.frames,ok.stk,ok.exf,ok.bs,ok.bsz,ok.noex,ok.exfs,ok.funs,ok.frf⟩
theorem Inv.hold {EX:XS} (I:Inv X pins σ H s):Inv (cxTry X pins EX) [] σ H s :=
 ⟨I.ok.same rfl,I.os,I.bare,I.base,I.loc,I.cell,I.free,I.freeC,fun p hp=>I.pin p (by rw[List.append_nil] at hp; exact hp),I.hok,I.len⟩
theorem Inv.unhold {EX:XS}{p:List (Addr×Obj)} (I:Inv (cxTry X pins EX) p σ H s):Inv X pins σ H s :=
 ⟨I.ok.same rfl,I.os,I.bare,I.base,I.loc,I.cell,I.free,I.freeC,fun q hq=>I.pin q (List.mem_append_left _ hq),I.hok,I.len⟩
theorem Inv.unhold' {p:List (Addr×Obj)} (I:Inv (X.hold pins) p σ H s):Inv X pins σ H s :=
 ⟨I.ok.same rfl,I.os,I.bare,I.base,I.loc,I.cell,I.free,I.freeC,fun q hq=>I.pin q (List.mem_append_left _ hq),I.hok,I.len⟩
theorem FpOk.unhold {b:Addr} (f:FpOk (X.hold pins) [] H b):FpOk X pins H b:=by
 obtain⟨f0,f1,f2,f3,f4,f5⟩:=f
 exact⟨f0,f1,f2,f3,f4,fun p hp=>f5 p (List.mem_append_left _ hp)⟩
theorem Out.unhold {x:Addr}{cls:Value} (o:Out (X.hold pins) [] x cls σ H s):Out X pins x cls σ H s:=by
 obtain⟨I,t⟩:=o
 refine⟨I.unhold',?_⟩
 rcases t with ⟨vs,a,b,c⟩ | t
 ·exact .inl ⟨vs,a,b,c.unhold⟩
 ·exact .inr (t.imp fun _ f=>f.unhold)
theorem xok_try {pn:List (Addr×Obj)}{EX:XS}:Xok (cxTry X pn EX) EX:=fun pins σ H s x cls o q=>by
 obtain⟨I,t⟩:=o
 have lift:∀b,FpOk (cxTry X pn EX) pins H b→FpOk (X.hold pn) [] H b:=fun b ⟨f0,f1,f2,f3,f4,f5⟩=>⟨f0,f1,f2,f3,f4,fun p hp=>f5 p (List.mem_append_left _ (by rw[List.append_nil] at hp; exact hp))⟩
 refine⟨x,cls,σ,H,rfl,⟨⟨I.ok.same rfl,I.os,I.bare,I.base,I.loc,I.cell,I.free,I.freeC,fun p hp=>I.pin p (List.mem_append_left _ (by rw[List.append_nil] at hp; exact hp)),I.hok,I.len⟩,?_⟩,q⟩
 rcases t with ⟨vs,a,b,c⟩ | t
 ·exact .inl ⟨vs,a,b,lift _ c⟩
 ·exact .inr (t.imp lift)
theorem Inv.hand {x:Addr} (I:Inv X pins σ H s):Inv (cxHand X x) pins σ H s :=
 ⟨⟨I.ok.mod,I.ok.kind,I.ok.glob,I.ok.blt,I.ok.above,I.ok.inj,I.ok.has,I.ok.cab,fun z=>absurd (show false=true from z) Bool.false_ne_true,I.ok.frames,I.ok.stk,I.ok.exf,I.ok.bs,I.ok.bsz,I.ok.noex,I.ok.exfs,I.ok.funs,I.ok.frf⟩,
  I.os,I.bare,I.base,I.loc,I.cell,I.free,I.freeC,I.pin,I.hok,I.len⟩
theorem Inv.unhand {x:Addr} (ok:X.Ok) (I:Inv (cxHand X x) pins σ H s):Inv X pins σ H s :=
 ⟨ok,I.os,I.bare,I.base,I.loc,I.cell,I.free,I.freeC,I.pin,I.hok,I.len⟩
theorem name_goes {M:Model}{A:Around}{E:Value→Shared→Prop}{i:Nat}{n:Str}{pos:Pos}{Q:Unit→Shared→Prop} (I:Inv X pins σ H s) (hN:X.N.Nodup) (hi:X.N[i]?=some n) (hx:X.env.scope.names.lookup n=some .local)
  (h:∀s',Inv X pins (σ.set i none) H s'→Q () s'):wpAny M A (do bindName X.env n .none; unbindBehindTheSuite X.env n pos) Q E s:=by
 obtain⟨m,hn,hl⟩:=id I.loc
 refine wpAny_nameGoes_keeps (m:=m) hx hn (by rw[I.ok.kind]; rfl) fun h' v hn' hs=>?_
 have iσ:i < σ.length:=by rw[I.len]; exact (List.getElem?_eq_some_iff.mp hi).1
 obtain⟨oL,_,_,hoL,_⟩:=id hn
 have nL:∀b o,X.s₀.heap.get? b=some o→b≠X.env.locals:=fun b o e=>Nat.ne_of_lt (Nat.lt_of_lt_of_le (Heap.lt_size e) I.ok.above)
 refine h { s with heap:=h',toks:=s.toks+1 } ⟨I.ok,I.os,I.bare,⟨fun b o e n hb hx=>?_,fun b o e n hb hx=>?_,I.base.free,fun b o e hx=>?_,I.base.tups,I.base.frzs,I.base.tbls⟩,⟨_,hn',fun j y u e1 e2 e3=>?_⟩,fun y c e=>?_,I.free,I.freeC,fun p hp=>?_,fun b o e=>?_,by rw[List.length_set]; exact I.len⟩
 ·exact (hs.2 b (nL b o e)).trans (I.base.keep b o e n hb hx)
 ·obtain⟨sl,e1⟩:=I.base.slot b o e n hb hx
  exact⟨sl,(hs.2 b (nL b o e)).trans e1⟩
 ·obtain⟨o',e1⟩:=I.base.there b o e hx
  exact⟨o',(hs.2 b (nL b o e)).trans e1⟩
 ·by_cases hj:j=i
  ·subst hj
   rw[List.getElem?_set_self iσ] at e2
   cases e2
  ·rw[List.getElem?_set_ne (Ne.symm hj)] at e2
   obtain⟨u',r',q⟩:=hl j y u e1 e2 e3
   refine⟨u',r',?_⟩
   rcases q with ⟨k,e⟩ | ⟨k,c,e,z⟩
   ·refine .inl ⟨k,?_⟩
    have:y≠n:=fun e=>hj (nodup_ix hN e1 (e ▸ hi))
    simp [this,e]
   ·exact .inr ⟨k,c,e,z.sameBut hs (I.cne y c e)⟩
 ·obtain⟨v',z⟩:=I.cell y c e
  exact⟨v',z.sameBut hs (I.cne y c e)⟩
 ·obtain⟨e,n,ne,nf,d⟩:=I.pin p hp
  exact⟨(hs.2 p.1 ne).trans e,n,ne,nf,d⟩
 ·refine (I.hok b o e).stay (fun c u hc q=>(hs.2 c ?_).trans q) (fun _ q=>q) fun _ _ q=>q
  rintro rfl
  rcases hc with rfl | hc
  ·rw[I.free] at e; cases e
  ·rw[I.free] at hc; cases hc
end
end L2
end
section
set_option maxRecDepth 100000
set_option maxHeartbeats 2000000
namespace L2
open PySem PySem.Spec PyProof.Rows
section
variable {X:Cx}
def tTry (K:PySem.W.Frag) (B:Addr) (i:Nat) (tb:XS→TS) (th:Addr→TS):TS:=fun D σ H=>∃EX:XS,tb EX D σ H∧∀cls σ' H' x,EX cls σ' H'→H' x=none →
 ∃C,cls=.ref C∧PySem.W.excIn K C bmVE "ValueError.__new__"=true∧subIn K C B=true ∧
  th x { nx:=fun σ2 H2=>D.nx (σ2.set i none) H2,rt:=D.rt,bk:=fun σ2 H2=>D.bk (σ2.set i none) H2,ct:=fun σ2 H2=>D.ct (σ2.set i none) H2 } (σ'.set i (some (.ref x))) (upd H' x (ExcO x (.ref C)))
theorem ps_try {i:Nat}{n bn:Str}{B:Addr}{np hpos pos:Pos}{body suite:List Stmt}{b0:Stmt}{tb:XS→TS}{th:Addr→TS} (hst:X.stack=X.env::X.outer) (hfr:X.env.frame=some X.env.locals) (hN:X.N.Nodup) (hi:X.N[i]?=some n) (hl:X.env.scope.names.lookup n=some .local)
  (hg:Gl X bn) (hm:X.mg bn=some (.ref B)) (hB:PySem.W.excIn X.K B bmVE "ValueError.__new__"=true)
  (hb:∀pn EX,PSs (cxTry X pn EX) body (tb EX)) (hh:∀x,PSs (cxHand X x) (b0::suite) (th x)) (hdb:(bn == ("__debug__" : Str))=false:=by decide) :
  PS X (.Try body [.ExceptHandler (some (.Name bn np)) (some n) (b0::suite) hpos] [] [] pos) (tTry X.K B i tb th):=by
 intro pins s σ H D I h
 obtain⟨EX,h1,h2⟩:=h
 refine wpAny_Try_except (wpAny_mono (hb pins EX [] s σ H D I.hold h1) (fun f s1 q1=>?_) fun e s1 q1=>?_)
 ·cases f with
  | next=>obtain⟨σ1,H1,I1,q⟩:=q1; exact wpAny_execs_nil ⟨σ1,H1,I1.unhold,q⟩
  | brk=>obtain⟨σ1,H1,I1,q⟩:=q1; exact⟨σ1,H1,I1.unhold,q⟩
  | cont=>obtain⟨σ1,H1,I1,q⟩:=q1; exact⟨σ1,H1,I1.unhold,q⟩
  | ret u=>obtain⟨v,σ1,H1,I1,r,q⟩:=q1; exact⟨v,σ1,H1,I1.unhold,r,q⟩
 ·obtain⟨x,cls,σ1,H1,rfl,o1,e1⟩:=q1
  have o1:=o1.unhold
  have I1:=o1.1
  refine o1.note hst hfr fun h2' k2 t2=>?_
  refine set_fl (s:={ s1 with heap:=h2' }) (fs:=frs X.stack) t2 fun h3 k3 t3=>?_
  have I3:Inv X pins σ1 H1 { s1 with heap:=h3,toks:=s1.toks }:=I1.flight (k2.trans k3)
  obtain⟨vs,T,oT,ts,ea,_,_,_,_,_,fx,_⟩:=id t3
  obtain⟨C,rfl,hC,hsub,q⟩:=h2 cls σ1 H1 x e1 fx.1
  obtain⟨bm,N,nm,qn,bs,hdct,sn,sub,ab,col,dd,k0,k1,k2',k3',k5,mN,gC,_,_,TC⟩:=exc_cls I3.mod.kin hC
  obtain⟨bmb,Nb,nmb,qb,bsb,hdctb,snb,subb,abb,colb,ddb,j0,j1,j2,j3,j5,mNb,gB,_,_,TB⟩:=exc_cls I3.mod.kin hB
  have gC3:=I3.bk _ _ gC
  have gB3:=I3.bk _ _ gB
  have hmro:(Value.ref C::bm).contains (.ref B)=true:=by
   unfold subIn at hsub
   split at hsub
   ·rename_i ho
    have z:=I3.mod.kin _ _ ho
    rw[gC] at z
    cases z
    exact hsub
   ·cases hsub
  refine wpAny_handleBy_cons (codeAny_handlers_test ?_) (by intro q; cases q)
  refine ld_glob (X:=cxHand X x) I3.hand hg hm ?_ hdb
  obtain⟨oe,hoe,hoc,_,_⟩:=ea.get
  refine exc_matches gC3 gB3 hoe hoc (TB.hasType PySem.F.excBase_ValueError.hasBase) hmro ?_
  refine codeAny_handlers_suite_as ?_
  refine set_fl (s:={ s1 with heap:=h3,toks:=s1.toks }) (fs:=frs X.stack) t3 fun h4 k4 t4=>?_
  have I4:Inv X pins σ1 H1 { s1 with heap:=h4,toks:=s1.toks }:=I1.flight ((k2.trans k3).trans k4)
  obtain⟨vs4,T4,oT4,ts4,ea4,_,_,_,_,_,fx4,_⟩:=id t4
  have I5:Inv X pins σ1 (upd H1 x (ExcO x (.ref C))) { s1 with heap:=h4,toks:=s1.toks }:=I4.track fx4 ⟨⟨vs4,ea4⟩,by obtain⟨oe,g,_⟩:=ea4.get; exact⟨oe,g⟩,fun ha hb ⟨ws,w⟩ kk=>by
   obtain⟨⟨oe,g,r⟩,c⟩:=w
   exact⟨ws,⟨⟨oe,kk oe g,r⟩,c⟩⟩⟩
  refine store_ok (v:=.ref x) I5 hN hi (.inl hl) rfl (fun s6 I6=>?_) (.inr hl)
  refine wpAny_mono (hh x pins s6 _ _ _ I6.hand q) (fun f s7 q7=>?_) fun _ _ z=>z.elim
  cases f with
  | next=>obtain⟨σ7,H7,I7,q⟩:=q7; exact name_goes (I7.unhand I.ok) hN hi hl fun s8 I8=>⟨_,H7,I8,q⟩
  | brk=>obtain⟨σ7,H7,I7,q⟩:=q7; exact name_goes (I7.unhand I.ok) hN hi hl fun s8 I8=>⟨_,H7,I8,q⟩
  | cont=>obtain⟨σ7,H7,I7,q⟩:=q7; exact name_goes (I7.unhand I.ok) hN hi hl fun s8 I8=>⟨_,H7,I8,q⟩
  | ret u=>obtain⟨v,σ7,H7,I7,r,q⟩:=q7; exact name_goes (I7.unhand I.ok) hN hi hl fun s8 I8=>⟨v,_,H7,I8,r,q⟩
end
end L2
end
section
set_option maxRecDepth 100000
set_option maxHeartbeats 2000000
namespace L2
open PySem PySem.Spec PyProof.Rows
theorem entry_unchain:entryFor table "proto.unchain"=some Builtin.«proto.unchain»:=entryFor_of_tree (by kernel_rfl)
section
variable {prog:Program}{w:World}{A:Around}{E:Value→Shared→Prop}{s:Shared}
theorem raise_in {α : Type}{x e:Addr}{cls:Value}{vs es:Array Value}{oe:Obj}{Q : α→Shared→Prop} (hh:A.handled=some (.ref x)) (ea:ExcAt s.heap x cls vs) (he:s.heap.get? e=some oe) (hd:oe.data=.fields es) (z2:2 < es.size) (hne:x≠e)
  (h:∀h',(∀b o,b≠e→s.heap.get? b=some o→h'.get? b=some o)→(∃o',h'.get? e=some o'∧o'.cls=oe.cls)→E (.ref e) { s with heap:=h' }):wpAny (model prog w) A (raiseNew (.ref e):Sem α) Q E s:=by
 obtain⟨⟨ox,hx,_,_,hxd⟩,hc⟩:=ea
 unfold raiseNew
 refine wpAny_bind (wpAny_handled ?_)
 rw[hh]
 dsimp only
 have n1:((Value.ref x:Value) != Value.ref e)=true:=by simp [hne]
 rw[if_pos n1]
 refine wpAny_bind (wpAny_holding (wpAny_runValue (codeAny_builtin entry_unchain ?_)))
 unfold Builtin.«proto.unchain»
 dsimp only
 refine wpAny_bind (wpAny_field hx hxd hc ?_)
 rw[if_pos (by rfl)]
 refine wpAny_bind (wpAny_pure ?_)
 refine wpAny_pure ?_
 refine wpAny_bind ?_
 show wpAny _ A (setField (.ref e) 2 (.ref x)) _ _ s
 refine wpAny_setField he hd z2 (wpAny_throw (h _ (fun b o hb g=>?_) ⟨_,Heap.get?_update_self _ he (Obj.isFreed_of_fields (Obj.data_mapFields hd _)),Obj.cls_mapFields _ _⟩))
 rw[Heap.get?_update_other _ _ (Ne.symm hb)]
 exact g
theorem range_end_in {x it:Addr}{cls:Value}{vs:Array Value}{lo left step:Int}{Q:Option Value→Shared→Prop} (hh:A.handled=some (.ref x)) (ea:ExcAt s.heap x cls vs) (hit:IsRangeIter s.heap it lo left step) (hleft:left≤0)
  (hQ:∀h',(∀b o,s.heap.get? b=some o→h'.get? b=some o)→Q none { s with heap:=h' }):wpAny (model prog w) A (pyNext (.ref it)) Q E s:=by
 have hT:s.TypeIs (.ref it) "range_iterator":=⟨_,hit,rfl⟩
 obtain⟨ox,gx,_⟩:=ea.get
 have xlt:=Heap.lt_size gx
 unfold pyNext
 refine wpAny_bind (wpAny_attempt (wpAny_callSpecial?_slot (name:=Str.ofString "__next__") hT F.slot_range_iterator_next
  (wpAny_call_entry F.slot_range_iterator_next hT F.entry_range_iterator_next ?_ (F.args_range_iterator_next_1 _))))
 show wpAny _ _ (field (.ref it) 0 >>= _) _ _ s
 refine wpAny_bind (wpAny_field hit rfl (x:=rawInt lo) rfl ?_)
 show wpAny _ _ (field (.ref it) 1 >>= _) _ _ s
 refine wpAny_bind (wpAny_field hit rfl (x:=rawInt left) rfl ?_)
 show wpAny _ _ (field (.ref it) 2 >>= _) _ _ s
 refine wpAny_bind (wpAny_field hit rfl (x:=rawInt step) rfl ?_)
 show wpAny _ _ (if left≤0 then _ else _) _ _ s
 rw[if_pos hleft]
 refine wpAny_bind (wpAny_rule ?_)
 refine wpAny_bind ?_
 show wpAny _ _ (newExc (.type "StopIteration") [] >>= _) _ _ _
 refine wpAny_bind ?_
 simp only[newExc,newTuple]
 refine wpAny_bind (wpAny_newObj_type ?_ (by size_fits))
 refine wpAny_bind (m:=firstArgMember _ _) (wpAny_of_eq (a:=Value.none) (by first | rfl | (simp only[firstArgMember]; rfl)) ?_)
 refine wpAny_newObj_type ?_ (by size_fits)
 have up:∀(o1 o2:Obj) b o,s.heap.get? b=some o→((s.heap.push o1).push o2).get? b=some o:=fun o1 o2 b o e=>Heap.get?_push_of_some _ (Heap.get?_push_of_some _ e)
 obtain⟨⟨oe,g1,g2,g3,g4⟩,c2⟩:=ea
 refine raise_in (x:=x) (cls:=cls) (vs:=vs) (show A.in1.handled=some (.ref x) from hh) ⟨⟨oe,up _ _ x oe g1,g2,g3,g4⟩,c2⟩ (Heap.get?_push_size _ rfl) rfl (by simp [ownMembersOf]) (by rw[Heap.size_push]; exact Nat.ne_of_lt (Nat.lt_succ_of_lt xlt)) fun h' kk hc'=>?_
 obtain⟨o',e',ec⟩:=hc'
 refine wpAny_bind (wpAny_isInstance (T:="StopIteration") (b:=true) ⟨o',e',ec⟩ isSubtype_stop ?_)
 refine wpAny_pure (hQ _ fun b o e=>kk b o ?_ (up _ _ b o e))
 have:=Heap.lt_size e
 rw[Heap.size_push]
 exact Nat.ne_of_lt (Nat.lt_succ_of_lt this)
end
end L2
end
section
set_option maxRecDepth 100000
set_option maxHeartbeats 2000000
namespace L2
open PySem PySem.Spec PyProof.Rows
structure RoomX (k:Nat) (A:Around) (x:Addr):Prop where
 hd:A.handled=some (.ref x)
 dp:A.depth+3 * k+5 < recursionLimit
 un:A.units+16 * k+200 < cLine
theorem RoomX.deeper {k:Nat}{A:Around}{x:Addr} (r:RoomX (k+1) A x) (env:Env):RoomX k (A.deeper env) x :=
 ⟨r.hd,by have:=r.dp; show A.depth+1+3 * k+5 < _; omega,by have:=r.un; show A.units+3+16 * k+200 < _; omega⟩
theorem Room.hand {k:Nat}{A:Around} (r:Room k A) (x:Addr):RoomX k (A.mark (some (.ref x))) x:=⟨rfl,r.dp,r.un⟩
structure FnX (P:Program) (w:World) (K:PySem.W.Frag) (mg:Str→Option Value) (base:Heap) (k:Nat) (f:Addr) (fd:FuncData) (ps:List Str) (sp:Addr→List V→Hp→VK→Prop):Prop where
 len:∀x vs H Q,sp x vs H Q→vs.length=ps.length
 run:∀(x:Addr) (A:Around) (outer:List Env) (s:Shared) (H:Hp) (args:Args) (us:List Value) (vs:List V) (Q:VK),RoomX k A x→Env0 P w K mg base A outer s H→BindsTo s fd args (ps.zip us)→Vals vs us→sp x vs H Q →
  codeAny (model P w) A (.call (.ref f) args) (CR CX0 outer P w H s Q E0) s
theorem Fun.okX {P:Program}{w:World}{K:PySem.W.Frag}{mg:Str→Option Value}{base:Heap}{y qual:Str}{st:Stmt}{f:Addr}{fd:FuncData}{N ps:List Str}{k:Nat}{sp:Addr→List V→Hp→VK→Prop} (F:Fun K y qual st f fd) (S:FnScope N ps (defScope st))
  (len:∀x vs H Q,sp x vs H Q→vs.length=ps.length)
  (hbody:∀(x:Addr) (cdv:Value) (A:Around) (outer:List Env) (s:Shared) (H:Hp) (vs:List V) (Q:VK),RoomX k (A.deeper (envOfC qual (defScope st) s.heap.objs.size f cdv)) x→sp x vs H Q →
   ∃t,PSs (cxOf CX0 P w K mg base N qual (defScope st) f cdv A outer s H E0).nox (defBody st) t∧t { nx:=fun _ H'=>Q .non H',rt:=Q } (start N vs) H):FnX P w K mg base (k+1) f fd ps sp:=by
 obtain⟨oc,od,kV,doc,pm,an,cdv,ct,osl,rfl,lk,hcd⟩:=F.ex
 refine⟨len,fun x A outer s H args us vs Q hr e0 hb r hsp=>?_⟩
 have hl:=len _ _ _ _ hsp
 have KX:K.In s.heap:=e0.mod.kin.keeps fun b o e=>(e0.bs b o e).1
 have lim:s.heap.NoLimit:=e0.mod.nolimit.keeps fun b o e=>(e0.bs b o e).1
 have hkind:∀z∈ps.zip us,(defScope st).names.lookup z.1=some .local∨((defScope st).names.lookup z.1=some .cell∧((cellsFrom (s.heap.objs.size+1) (defScope st).names []).lookup z.1).isSome=true):=fun ⟨n,v⟩ hy=>by
  rcases S.par n (List.of_mem_zip hy).1 with q | q
  ·exact .inl q
  ·exact .inr ⟨q,PySem.W.cellsFrom_some _ _ _ (.inl q)⟩
 refine codeAny_call_function (by have:=hr.dp; omega) (KX _ _ lk) rfl S.co S.gen rfl (PySem.W.codeRec_of KX hcd) (hb _ _ _ _ ?_)
 refine wpAny_newFunctionEnv_cells S.kind hkind fun env he s1 x1=>?_
 subst he
 refine⟨lim.keeps x1.toInCall.keep,codeAny_func ?_⟩
 obtain⟨t,ht,hq⟩:=hbody x cdv A outer s H vs Q (hr.deeper _) hsp
 have I:Inv (cxOf CX0 P w K mg base N qual (defScope st) f cdv A outer s H E0) [] (start N vs) H s1:=inv_start S e0 hl r x1
 refine wpAny_mono (ht.nox [] s1 (start N vs) H _ I hq) (fun fl s' hs=>?_) fun e s' hs=>hs
 cases fl with
 | ret u =>
  obtain⟨v,σ',H',J,rv,q⟩:=hs
  exact⟨v,H',J.os,J.bare,J.base,J.hok,rv,q⟩
 | next =>
  obtain⟨σ',H',J,q⟩:=hs
  exact⟨.non,H',J.os,J.bare,J.base,J.hok,rfl,q⟩
 | brk =>
  obtain⟨_,_,_,q⟩:=hs
  exact False.elim q
 | cont =>
  obtain⟨_,_,_,q⟩:=hs
  exact False.elim q
def tCallH (sp:Addr→List V→Hp→VK→Prop) (x:Addr) (t:TA):TE:=fun σ H Q=>t σ H fun vs H1=>sp x vs H1 Q
theorem pe_callH {X:Cx}{k:Nat}{f x:Addr}{fd:FuncData}{ps:List Str}{sp:Addr→List V→Hp→VK→Prop}{y:Str}{p pos:Pos}{e:Expr}{es:List Expr}{t:TA} (F:FnX X.prog X.w X.K X.mg X.base k f fd ps sp) (hr:RoomX k X.A x) (hg:Gl X y) (hm:X.mg y=some (.ref f)) (hk:PySem.W.keepIn X.K (.ref f)=true) (hb:Binds X.K fd ps [])
  (ha:PA X (e::es) t) (hdb:(y == ("__debug__" : Str))=false:=by decide) (he:starEach (e::es) X.env=(false,eval e X.env)::starEach es X.env:=by rfl) (hpl:(backTo pos (starEach es X.env)).any (·.1)=false:=by rfl) :
  PE X (.Call (.Name y p) (e::es) [] pos) (tCallH sp x t):=by
 intro pins s σ H Q I h
 refine wpAny_Call_Name_kw (ld_glob I hg hm ?_ hdb)
 refine PySem.W.callWith_K (h₀:=X.base) I.ok.mod.kin hk (thn (ha pos pins s σ H _ I h) fun us s1 ⟨vs,H1,I1,r,q⟩=>⟨I1.kIn,?_⟩) he hpl
 have hl:(us++[]).length=ps.length:=by rw[List.append_nil,← r.length]; exact F.len _ _ _ _ q
 have hb':=hb s1 us I1.kIn hl
 rw[List.append_nil] at hb'
 refine wpAny_call (codeAny_mono (F.run x X.A X.stack s1 H1 ⟨us,[]⟩ us vs Q hr I1.env0 hb' r q) fun r s' hq=>?_)
 cases r with
 | error e=>exact False.elim hq
 | ok fl =>
  cases fl with
  | ret u=>exact I1.after hq
  | next=>exact False.elim hq
  | brk=>exact False.elim hq
  | cont=>exact False.elim hq
def Itx (x:Addr) (cls:Value) (n:Nat):It:=⟨fun i _=>i < n,fun i H v H'=>H'=H∧v=.int i,fun i H=>n≤i∧H x=some (ExcO x cls)⟩
theorem turnAt_x {X:Cx}{tg:Expr}{x it:Addr}{cls:Value}{n:Nat} (hh:X.A.handled=some (.ref x)) :
  TurnAt X tg (Itx x cls n) [it] it (fun i h=>IsRangeIter h it (i:Int) ((n:Int) - (i:Nat)) 1) where
 item:=by
  intro i pins s σ H E I hf st hg
  obtain⟨f0,f1,f2,f3,f4,f5⟩:=hf it (by simp)
  have hi:i < n:=hg
  refine wpAny_pyNext_range_item st (by omega) fun h' st' sb=>?_
  have I1:Inv X pins σ H { s with heap:=h',toks:=s.toks+1 }:=I.turned (fun b o hb e=>(sb.2 b hb).trans e) f0 f1 f3 f4 f5
  have st2:IsRangeIter h' it ((i+1:Nat):Int) ((n:Int) - ((i+1:Nat):Int)) 1:=by
   have e1:((i+1:Nat):Int)=(i:Int)+1:=by omega
   have e2:(n:Int) - ((i:Int)+1)=(n:Int) - (i:Int) - 1:=by omega
   rw[e1,e2]; exact st'
  exact⟨_,rfl,go_of (s:={ s with heap:=h',toks:=s.toks+1 }) (n:="range_iterator") st' rfl rfl (by decide) ⟨.int i,H,I1,⟨_,rfl⟩,⟨rfl,rfl⟩,st2,fun b hb=>(hf b hb).1⟩⟩
 done:=by
  intro i pins s σ H E I hf st hg
  obtain⟨hi,hx⟩:=hg
  obtain⟨⟨vs,ea⟩,_⟩:=I.hok x _ hx
  exact range_end_in hh ea st (by omega) fun h' kk=>⟨rfl,I.kept (t':=s.toks) kk⟩
theorem range_itX {X:Cx}{pins:List (Addr×Obj)}{σ:St}{H:Hp}{s:Shared}{E:Value→Shared→Prop}{hi:Int}{t u v:Tok}{tk:Nat}{Q:Value→Shared→Prop} (I:Inv X pins σ H s) (h3 : -(2 ^ 62)≤hi) (h4:hi < 2 ^ 62)
  (q:∀it s2,Inv X pins σ H s2→IsRangeIter s2.heap it 0 ((hi.toNat:Nat):Int) 1→(∀b∈[it],FpOk X pins H b)→Q (.ref it) s2) :
  wpAny (model X.prog X.w) X.A (pyIter (.ref s.heap.objs.size)) Q E { s with heap:=s.heap.push { cls:=.type "range",data:=.fields #[.int 0 t,.int hi u,.int 1 v] },toks:=tk }:=by
 refine wpAny_pyIter_range (IsRange.new ..) (small_one (by decide) (by decide) h3 h4) ?_
 have I1:Inv X pins σ H { s with heap:=s.heap.push { cls:=.type "range",data:=.fields #[.int 0 t,.int hi u,.int 1 v] },toks:=tk }:=I.kept fun b o e=>Heap.get?_push_of_some _ e
 refine q _ _ (I1.kept (t':=tk) fun b o e=>Heap.get?_push_of_some _ e) ?_ fun b hb=>?_
 ·have e2:((hi.toNat:Nat):Int)=Builtin.Range.rangeSize 0 hi 1:=by rw[rangeSize_one]; split <;> omega
  rw[e2]
  exact Heap.get?_push_size _ rfl
 ·have e:b=(s.heap.push { cls:=.type "range",data:=.fields #[.int 0 t,.int hi u,.int 1 v] }).objs.size:=by simpa using hb
  subst e
  exact I1.fpOk (Nat.le_refl _) (I1.hok.fresh (Nat.le_refl _))
theorem pe_compX {X:Cx}{scope:Scope}{ts cap:List Str}{js:List Nat}{tg elt a:Expr}{ifs:List Expr}{p pos cpos:Pos}{g:TG}{tc:TT}{te:TE}{ta:TA}{x:Addr} (hh:X.A.handled=some (.ref x)) (CS:CompScope X scope ts cap js)
  (hgl:Gl X "range") (hm:X.mg "range"=none) (ha:PA X [a] ta) (hg:∀C fp s H,PG (cxComp X scope C fp (ts++cap) s H) tg g)
  (ht:∀C fp s H,PTs (cxComp X scope C fp (ts++cap) s H) ifs tc) (he:∀C fp s H,PE (cxComp X scope C fp (ts++cap) s H) elt te)
  (hst:starEach [a] X.env=[(false,eval a X.env)]:=by rfl) (hs:∀v,foldedSetIterable (.Call (.Name "range" p) [a] [] cpos) X.env v=pure v:=by intro _; rfl) :
  PE X (.ListComp elt [⟨tg,.Call (.Name "range" p) [a] [] cpos,ifs,0⟩] scope pos)
   (tComp (fun σ H R=>ta σ H fun vs H1=>∃(j:Int) (cls:Value),vs=[.int j]∧-(2 ^ 62)≤j∧j < 2 ^ 62∧R (Itx x cls j.toNat) H1) ts.length js g tc te):=by
 intro pins s σ H Q I h
 rw[eval_ListComp]
 refine wpAny_comprehension_free (use:=none) rfl hs (closureFor_eq (CS.cells I.ok)) CS.kind CS.names ?_
 show wpAny _ _ (eval (.Call (.Name "range" p) [a] [] cpos) X.env) _ _ s
 refine Call_ (ld_blt I hgl hm boot_range (PyProof.Rows.callWith_type1 (thn (ha cpos pins s σ H _ I h) fun us s1 ⟨vs,H1,I1,r1,q1⟩=>?_) hst rfl))
 obtain⟨j,cls,e,q2,q3,W,⟨m0,w0⟩,turn⟩:=q1
 subst e
 obtain⟨u,rfl,ru⟩:=vals1 r1
 obtain⟨tk,rfl⟩:=ru
 refine call_range_1 (range_itX I1 q2 q3 fun it s2 I2 st2 f2=>?_)
 have T:TurnOk X.prog X.w [it] it (fun i h=>IsRangeIter h it (i:Int) (((j.toNat:Nat):Int) - (i:Nat)) 1):=⟨fun i h st b hb=>by
   have e:b=it:=by simpa using hb
   subst e
   exact⟨_,st,fun v z=>by cases z⟩,fun i h h' st k=>k it (by simp) _ st,fun _ _ _ _ _ st h=>wpAny_pyIter_rangeiter st h⟩
 refine comp_blockG (J:=Itx x cls j.toNat) (RR:=fun acc C=>compPost (model X.prog X.w) X.A X.xe none (EP X pins σ Q) acc C) I2 T (fun C=>turnAt_x (X:=cxComp X scope C [it] (ts++cap) s2 H1) hh) (by simpa using st2) f2 CS hg ht he w0 turn ?_
 intro D C s' H' ys m I' hn hC hD hCD hHC hHD fin
 have low:∀b o,s2.heap.get? b=some o→b≠C:=fun b o e=>Nat.ne_of_lt (Nat.lt_of_lt_of_le (Heap.lt_size e) hC)
 refine⟨m,hn,fun h' hs'=>⟨.ref D,_,comp_gone (n0:=0) I' (Heap.get?_none_of_le (Nat.le_trans I2.sz hC)) (Nat.ne_of_lt (Nat.lt_of_lt_of_le I2.lt hC)) (fun x c e=>?_) (fun p hp=>?_) (by rw[upd_ne hCD]; exact hHC) hs',rfl,fin D hHD⟩⟩
 ·obtain⟨v,o,ho,_⟩:=I2.cell x c e
  exact low c o ho
 ·exact low _ _ (I2.pin p hp).1
end L2
end
section
set_option maxRecDepth 100000
set_option maxHeartbeats 4000000
namespace L2
open PySem PySem.Spec PyProof.Rows PySem.W
section
variable {prog:Program}{w:World}{A:Around}{E:Value→Shared→Prop}{s:Shared}{K:Frag}{x C:Addr}{ox:Obj}
structure ExcK (K:Frag) (C:Addr):Prop where
 ga:findIn K (.ref C) "__getattribute__"=some (some (.builtin "BaseException.__getattribute__"))
 gt:findIn K (.ref C) "__getattr__"=some none
 ca:findIn K (.ref C) "__class__"=some (some (.builtin "object.__class__"))
 gn:specialIn K (.builtin "object.__class__") "__get__"=some (some (.builtin "getset_descriptor.__get__"))
 tk:takesIn K (.builtin "object.__class__")=some true
 mo:mroIn K C (.type "object")=some true
 mb:mroIn K C (.type "BaseException")=some true
 cl:(clsIn K C).isSome=true
theorem exc_ga_check {M:Model}{nameV:Value}{Q:Unit→Shared→Prop} (Z:ExcK K C) (X:K.In s.heap) (I:InstAt s.heap x ox C none) (hq:Q () s):wpAny M A (checkBuiltinCall "BaseException.__getattribute__" ⟨[.ref x,nameV],[]⟩) Q E s:=by
 have hk:builtinKind "BaseException.__getattribute__"=some .slot:=by decide +kernel
 have hsplit:splitId "BaseException.__getattribute__"=some ("BaseException","__getattribute__"):=by decide +kernel
 have ha:=F.args_bexc_ga (.ref x) nameV
 have L0:=I.type (M:=M)
 have L1:=looks_mroIn (M:=M) X Z.mb
 obtain⟨h,g,d,t,os⟩:=s
 simp only[checkBuiltinCall,hk,hsplit]
 refine wpAny_bind ?_
 unfold isInstance
 refine wpAny_bind (L0.at (L1.at ?_))
 repeat (first | wp_step)
 exact hq
theorem exc_entry {tk:Tok}{Q:Fin→Shared→Prop} (Z:ExcK K C) (X:K.In s.heap) (I:InstAt s.heap x ox C none) (hq:Q (.done (.ret (.ref C))) s) :
  wpAny (model prog w) A (Builtin.«object.__getattribute__» ⟨[.ref x,.str "__class__" tk],[]⟩) Q E s:=by
 have f5:typeOf (.builtin "object.__class__")=pure (.type "getset_descriptor"):=by show builtinType _=_; rw[builtinType_eq_fast]; kernel_rfl
 have f6:=F.slot_gs_get.lookup
 have f7:=F.slot_gs_set.lookup
 have L0:=I.type (M:=model prog w)
 have L1:=looks_findIn (M:=model prog w) X Z.ca
 obtain⟨h,g,d,t,os⟩:=s
 have ho:=I.at_
 have hc:=I.cls
 repeat (any_goals (first | assumption | with_reducible refine L0.at ?_ | with_reducible refine L1.at ?_ | (with_reducible refine wpAny_loadPart_at ho ?_; rw[hc]) | wp_step))
 exact class_get (ox:=ox) (od:=none) X I Z.mo (wpAny_pure hq)
theorem exc_attr {Q:Option Value→Shared→Prop} (Z:ExcK K C) (X:K.In s.heap) (I:InstAt s.heap x ox C none) (hq:Q (some (.ref C)) { s with toks:=s.toks+1 }):wpAny (model prog w) A (getAttr? (.ref x) "__class__") Q E s:=by
 have f3:=PySem.F.attr_ValueError.ga.bind (.ref x)
 have hx2:(Value.builtin "BaseException.__getattribute__" == Value.builtin "object.__getattribute__")=false:=by decide +kernel
 have hx1:(onTheHeap (Value.ref C) && Value.builtin "BaseException.__getattribute__" == Value.builtin "object.__getattribute__")=false:=by rw[hx2]; rfl
 have hx0:(false && onTheHeap (Value.builtin "BaseException.__getattribute__"))=false:=rfl
 have L0:=I.type (M:=model prog w)
 have L1:=looks_findIn (M:=model prog w) X Z.ga
 have L2:=looks_findIn (M:=model prog w) X Z.gt
 obtain⟨h,g,d,t,os⟩:=s
 have ho:=I.at_
 have hc:=I.cls
 unfold getAttr? getAttrBy?
 refine wpAny_bind (wpAny_mkText (wpAny_bind (wpAny_attempt ?_)))
 unfold getAttrBy
 refine wpAny_holding (wpAny_bind (L0.at (wpAny_bind (L1.at ?_))))
 dsimp only
 rw[if_neg (by rw[hx1]; exact Bool.false_ne_true)]
 repeat (any_goals (first | assumption | with_reducible refine L2.at ?_ | wp_step))
 refine codeAny_call_builtin PySem.F.attr_ValueError.ga.plain F.entry_bexc_ga (exc_ga_check (s:=⟨h,g,d,t+1,os⟩) Z X I (exc_entry (s:=⟨h,g,d,t+1,os⟩) Z X I ?_))
 exact handed_on rfl (wpAny_pure hq)
theorem kitx_exc (Z:ExcK K C):KitX K (.ref x) (.ref C) (fun h=>∃ox,InstAt h x ox C none) where
 ty:=fun _ _ _ ⟨_,I⟩=>I.type
 it:=fun _ _ X _=>by
  obtain⟨cd,hc⟩:=Option.isSome_iff_exists.mp Z.cl
  unfold clsIn at hc
  split at hc
  ·rename_i c' d' cd' sl' ho
   intro A' Q' E' s' k q
   unfold isType loadHead
   exact wpAny_bind (wpAny_loadPart (k _ _ (X _ _ ho)) (wpAny_pure q))
  ·cases hc
 ne:=fun h tp dd its n sl X htp=>by
  obtain⟨cd,hc⟩:=Option.isSome_iff_exists.mp Z.cl
  refine Bool.eq_false_iff.mpr fun q=>?_
  have e:C=tp:=Value.ref.inj (beq_iff_eq.mp q)
  subst e
  unfold clsIn at hc
  split at hc
  ·rename_i c' d' cd' sl' ho
   have z:=(X _ _ ho).symm.trans htp
   cases z
  ·cases hc
 ca:=fun X ⟨_,I⟩ k=>exc_attr Z X I k
def rIsX (K:Frag):List V→Hp→VK→Prop:=fun xs H Q=>∃x y C c b,xs=[.ref x,y]∧clsV y=some c∧H x=some (ExcO x (.ref C))∧ExcK K C∧kitOne K (.ref C) c=some b∧Q (.bl b) H
theorem call_isX {X:Cx}:CallR X (.builtin "isinstance") (rIsX X.K):=by
 intro pins s σ H xs us Q I r h
 obtain⟨x,y,C,c,b,rfl,ec,hx,Z,e,q⟩:=h
 obtain⟨u,u',rfl,rx,ry⟩:=vals2 r
 cases rx
 have:u'=c:=by
  cases y with
  | ref _=>cases ry; exact Option.some.inj ec
  | ty _=>cases ry; exact Option.some.inj ec
  | _=>cases ec
 subst this
 obtain⟨⟨vs,⟨⟨oe,g1,g2,g3,g4⟩,_⟩⟩,_⟩:=I.hok x _ hx
 have J:InstAt s.heap x oe C none:=⟨g1,g2,by unfold notCls; rw[g4],by rw[g3]; trivial⟩
 exact kia_one (kitx_exc Z) I.kIn ⟨oe,J⟩ e (fun z=>nomatch z) fun tk=>⟨.bl b,H,I.tok _,rfl,q⟩
end
end L2
end
section
set_option maxRecDepth 100000
set_option maxHeartbeats 1000000
namespace L2
open PySem PySem.Spec PyProof.Rows
section
variable {X:Cx}
end
end L2
end
section
set_option maxRecDepth 100000
set_option maxHeartbeats 1000000
namespace L2
open PySem PySem.Spec PyProof.Rows
def cutN {α : Type} (xs:List α) (lo hi:Option Int):List α:=(xs.drop (HT.sIx xs.length 0 lo)).take (HT.sIx xs.length xs.length hi - HT.sIx xs.length 0 lo)
theorem idx_eq (lo hi:Option Int) (n:Nat):Builtin.Str.strSliceIndices lo hi 1 n=(List.range (HT.sIx n n hi - HT.sIx n 0 lo)).map fun k=>HT.sIx n 0 lo+k:=by
 have clipA:∀v:Int,max 0 (min (if v < 0 then v+(n:Int) else v) (n:Int))=(((if v < 0 then (v+(n:Int)).toNat else min v.toNat n):Nat):Int):=fun v=>by
  split <;> omega
 have key:∀i j:Nat,sliceRange (i:Int) (j:Int) 1=(List.range (j - i)).map fun k=>i+k:=fun i j=>by
  unfold sliceRange
  simp only[show (1:Int) > 0 by decide,if_true]
  have e:(if (i:Int) < (j:Int) then ((j:Int) - (i:Int)+1 - 1) / 1 else 0).toNat=j - i:=by
   split <;> omega
  rw[e]
  apply List.map_congr_left
  intro k _
  omega
 have lo':(match lo with | none=>(0:Int) | some i=>max 0 (min (if i < 0 then i+(n:Int) else i) (n:Int)))=((HT.sIx n 0 lo:Nat):Int):=by
  cases lo with
  | none=>rfl
  | some v=>exact clipA v
 have hi':(match hi with | none=>(n:Int) | some i=>max 0 (min (if i < 0 then i+(n:Int) else i) (n:Int)))=((HT.sIx n n hi:Nat):Int):=by
  cases hi with
  | none=>rfl
  | some v=>exact clipA v
 rw[← key,← lo',← hi']
 rfl
theorem pick_list {α : Type} (xs:List α) (i m:Nat) (h:i+m≤xs.length):((List.range m).map fun k=>i+k).filterMap (fun j=>xs[j]?)=(xs.drop i).take m:=by
 induction m with
 | zero=>simp
 | succ m ih =>
  have hm:i+m < xs.length:=by omega
  rw[List.range_succ,List.map_append,List.filterMap_append,ih (by omega),List.take_add_one,List.getElem?_drop,List.getElem?_eq_getElem hm]
  simp [hm]
theorem slice_list (z:Str) (lo hi:Option Int):(Txt.slice z lo hi).cps.toList=cutN z.cps.toList lo hi:=by
 have hn:z.length=z.cps.toList.length:=rfl
 unfold Txt.slice
 have e:=idx_eq lo hi z.length
 have h1:=HT.sIx_le z.length 0 (Nat.zero_le _) lo
 have h2:=HT.sIx_le z.length z.length (Nat.le_refl _) hi
 rw[e]
 split
 ·rename_i c
  have c':(HT.sIx z.length z.length hi - HT.sIx z.length 0 lo)=z.length:=by
   have:=(Bool.and_eq_true _ _ ▸ c).2
   simpa using this
  unfold cutN
  rw[← hn]
  have a0:HT.sIx z.length 0 lo=0∨z.length=0:=by omega
  rcases a0 with a0 | a0
  ·rw[c',a0,List.drop_zero]
   exact (List.take_of_length_le (by rw[← hn]; exact Nat.le_refl _)).symm
  ·have:z.cps.toList=[]:=List.length_eq_zero_iff.mp (by rw[← hn]; exact a0)
   rw[this]; simp
 ·show ((List.map _ _).filterMap _).toArray.toList=_
  unfold cutN
  rw[← hn]
  have e2:(fun j:Nat=>z.cps[j]?)=fun j:Nat=>z.cps.toList[j]?:=by funext j; rw[Array.getElem?_toList]
  rw[List.toList_toArray,e2]
  by_cases hle:HT.sIx z.length 0 lo≤HT.sIx z.length z.length hi
  ·exact pick_list _ _ _ (by rw[← hn]; omega)
  ·have:HT.sIx z.length z.length hi - HT.sIx z.length 0 lo=0:=by omega
   rw[this]; simp
section
variable {X:Cx}
def rSlS:V→Option Int→Option Int→Hp→VK→Prop:=fun x lo hi H Q=>∃z,x=.str z∧z.length≤sizeLine∧Q (.str (Txt.slice z lo hi)) H
theorem sl_str:SlR X rSlS:=by
 intro pins s σ H x v vl vu lo hi sl Q I rx hs pl pu q
 obtain⟨z,rfl,hz,q⟩:=q
 obtain⟨t,rfl⟩:=rx
 refine⟨"str",_,PySem.F.slot_str_getitem.lookup,typeIs_str _ _ _,?_⟩
 obtain⟨l',e1,e1'⟩ : ∃l':Option (Int×Tok),vl=partValue l'∧l'.map (·.1)=lo:=by
  cases pl with
  | none=>exact⟨none,rfl,rfl⟩
  | int i t=>exact⟨some (i,t),rfl,rfl⟩
 obtain⟨u',e2,e2'⟩ : ∃l':Option (Int×Tok),vu=partValue l'∧l'.map (·.1)=hi:=by
  cases pu with
  | none=>exact⟨none,rfl,rfl⟩
  | int i t=>exact⟨some (i,t),rfl,rfl⟩
 subst e1 e2 e1' e2'
 refine wpAny_getItem_str_slice (l:=l') (u:=u') (st:=none) hs rfl (post_val_or_str ⟨?_,fun t' k=>⟨.str (Txt.slice z (l'.map (·.1)) (u'.map (·.1))),H,I.tok _,⟨_,rfl⟩,q⟩⟩)
 exact Nat.le_trans (Txt.slice_le z (l'.map (·.1)) (u'.map (·.1))) hz
end
section
variable {X:Cx}
end
end L2
end
section
set_option maxRecDepth 100000
set_option maxHeartbeats 1000000
namespace L2
open PySem PySem.Spec PyProof.Rows
def CDivB (_ j:Int):Prop:=0 < j∧j < 1000000000000000000000000000000000
theorem op_fdivB {X:Cx}:OpR X (binaryOp .FloorDiv) (rI CDivB fun i j=>.int (i / j)):=opI fun i j _ _ _ _ _ hc q=>by
 have h1:(0:Int) < j:=hc.1
 have h2:j < 1000000000000000000000000000000000:=hc.2
 refine floordiv_int (by omega) (by rw[Int.fdiv_eq_ediv_of_nonneg i (by omega)]; exact q) (.inl (PyProof.noPylong_of_log2 ?_))
 refine Nat.lt_of_lt_of_le ((Nat.log2_lt (by omega)).mpr (show j.natAbs < 2 ^ 111 by omega)) (by decide)
def ModD (P:Program) (w:World) (K:PySem.W.Frag) (a:Addr) (kvs:List (Key×V)):Prop:=∀h:Heap,K.In h→(a == sysModules)=false∧∃vs,KV kvs vs∧h.DictOf (mixKind P w) a vs
def tDGetM (a:Addr) (kvs:List (Key×V)) (td ty:TE):TE:=fun σ H Q=>td σ H fun x H1=>ty σ H1 fun y H2=>∃k v,x=.ref a∧y=kV k∧valV kvs k=some v∧Q v H2
section
variable {X:Cx}{o i:Expr}{pos:Pos}{td ty:TE}{a:Addr}{kvs:List (Key×V)}
theorem pe_dgetM (M:ModD X.prog X.w X.K a kvs) (ho:PE X o td) (hi:PE X i ty) (hs:NoSl i):PE X (.Subscript o i pos) (tDGetM a kvs td ty):=by
 intro pins s σ H Q I h
 refine subD_of PySem.F.slot_dict_getitem.lookup hs (thn (ho pins s σ H _ I h) fun u s1 ⟨x,H1,I1,rx,q1⟩=>thn (hi pins s1 σ H1 _ I1 q1) fun iv s2 ⟨y,H2,I2,ry,k,v,ex,ey,l,q2⟩=>?_)
 subst ex ey
 obtain rfl:u=Value.ref a:=rx
 obtain⟨_,vs,rel,dd⟩:=M s2.heap I2.kIn
 obtain⟨w',hw,rw'⟩:=RelO.some_of (v:=v) (o:=valueAt vs k) (by rw[← l]; exact rel.val k)
 exact⟨dd.typeIs,wpAny_getItem_of (kV_is ry) dd.mapOf hw ⟨v,H2,I2.tok _,rw',q2⟩⟩
end
end L2
end
section
set_option maxRecDepth 100000
set_option maxHeartbeats 1000000
namespace L2
open PySem PySem.Spec PyProof.Rows
section
variable {X:Cx}
def rStarts:V→List V→Hp→VK→Prop:=fun x vs H Q=>∃z y,x=.str z∧vs=[.str y]∧Q (.bl (Txt.startswith z y)) H
theorem mt_starts:MtR X "str.startswith" rStarts:=by
 intro pins s σ H x vs v us Q I rx rv h
 obtain⟨z,y,rfl,rfl,q⟩:=h
 obtain⟨t,rfl⟩:=rx
 obtain⟨u,rfl,t',rfl⟩:=rv.one
 exact SC.startswith ⟨.bl _,H,I,rfl,q⟩
end
end L2
end
section
set_option maxRecDepth 100000
set_option maxHeartbeats 2000000
namespace L2
open PySem PySem.Spec PyProof.Rows
open PySem.SeqAt
open PySem.AutoSeq1 (wpAny_loadPart')
open PySem.MeetsSeq PySem.MeetsSeq2 PySem.MeetsSeq3
end L2
end
section
set_option maxRecDepth 100000
set_option maxHeartbeats 2000000
namespace L2
open PySem PySem.Spec PyProof.Rows
end L2
end
section
set_option maxRecDepth 100000
set_option maxHeartbeats 2000000
namespace L2
open PySem PySem.Spec PyProof.Rows
end L2
end
section
set_option maxRecDepth 100000
set_option maxHeartbeats 2000000
namespace L2
open PySem PySem.Spec PyProof.Rows SeqAt
section
variable {X:Cx}{pins:List (Addr×Obj)}{σ:St}{H:Hp}{s:Shared}
end
end L2
end
section
set_option maxRecDepth 100000
set_option maxHeartbeats 2000000
namespace L2
open PySem PySem.Spec PyProof.Rows SeqAt
section
variable {X:Cx}{pins:List (Addr×Obj)}{σ:St}
end
end L2
end
section
set_option maxRecDepth 100000
set_option maxHeartbeats 2000000
namespace L2
open PySem PySem.Spec PyProof.Rows SeqAt
end L2
end
section
set_option maxRecDepth 100000
set_option maxHeartbeats 1000000
namespace L2
open PySem PySem.Spec PyProof.Rows
section
variable {X:Cx}
end
end L2
end
section
set_option maxRecDepth 100000
set_option maxHeartbeats 1000000
namespace L2
open PySem PySem.Spec PyProof.Rows
theorem rev_range (n:Nat):sliceRange ((n:Int) - 1) (-1) (-1)=(List.range n).map fun k=>n - 1 - k:=by
 unfold sliceRange
 simp only[show ¬ ((-1:Int) > 0) by decide,if_false]
 have e:(if (n:Int) - 1 > -1 then ((n:Int) - 1 - -1 - -1 - 1) / (- -1) else 0).toNat=n:=by
  split
  ·have:((n:Int) - 1 - -1 - -1 - 1) / (- -1)=n:=by
    rw[show (- -1:Int)=1 by decide,Int.ediv_one]; omega
   rw[this]; rfl
  ·have:n=0:=by omega
   subst this; rfl
 rw[e]
 apply List.map_congr_left
 intro k hk
 have:=List.mem_range.mp hk
 omega
theorem fm_congr {α β : Type}{f g : α→Option β}:∀{l:List α},(∀x∈l,f x=g x)→l.filterMap f=l.filterMap g
 | [],_=>rfl
 | a::l,h=>by rw[List.filterMap_cons,List.filterMap_cons,h a (.head _),fm_congr fun x hx=>h x (.tail _ hx)]
theorem rev_pick {α : Type} (xs:List α):((List.range xs.length).map fun k=>xs.length - 1 - k).filterMap (fun j=>xs[j]?)=xs.reverse:=by
 have h:=pick_list xs.reverse 0 xs.length (by simp)
 rw[List.drop_zero,List.take_of_length_le (by simp)] at h
 rw[← h,List.filterMap_map,List.filterMap_map]
 apply fm_congr
 intro k hk
 have hk':=List.mem_range.mp hk
 show xs[xs.length - 1 - k]?=xs.reverse[0+k]?
 rw[Nat.zero_add,List.getElem?_reverse hk']
section
variable {X:Cx}
def RvR (X:Cx) (r:V→Hp→VK→Prop):Prop :=
 ∀(pins:List (Addr×Obj)) (s:Shared) (σ:St) (H:Hp) (x:V) (v:Value) (t:Tok) (sl:Addr) (Q:VK),Inv X pins σ H s→RelV x v→s.heap.IsSliceOf sl .none .none (.int (-1) t)→r x H Q →
  ∃T id,typeLookup (.type T) "__getitem__"=pure (some (.builtin id))∧s.TypeIs v T∧wpAny (model X.prog X.w) X.A (getItem v (.ref sl)) (EP X pins σ Q) X.xe s
def tRv (r:V→Hp→VK→Prop) (te ts:TE):TE:=fun σ H Q=>te σ H fun x H1=>ts σ H1 fun y H2=>y=.int (-1)∧r x H2 Q
theorem pe_rev {e st:Expr}{te ts:TE}{pos p2:Pos}{r:V→Hp→VK→Prop} (hr:RvR X r) (he:PE X e te) (hst:PE X st ts):PE X (.Subscript e (.Slice none none (some st) p2) pos) (tRv r te ts):=by
 intro pins s σ H Q I h
 refine Subscript_ (thn (he pins s σ H _ I h) fun v s1 ⟨x,H1,I1,r1,q1⟩=>?_)
 refine wpAny_Slice ?_
 rw[evalPart_none]
 refine wpAny_pure (wpAny_pure ?_)
 rw[evalPart_some]
 refine thn (hst pins s1 σ H1 _ I1 q1) fun vs s3 ⟨y,H3,I3,ry,ey,q3⟩=>?_
 subst ey
 obtain⟨t,rfl⟩:=ry
 have I4:Inv X pins σ H3 { s3 with heap:=s3.heap.push { cls:=.type "slice",data:=.fields #[.none,.none,.int (-1) t] } }:=I3.kept (t':=s3.toks) fun b ob q=>Heap.get?_push_of_some _ q
 obtain⟨T,id,hT,ht,hg⟩:=hr pins { s3 with heap:=s3.heap.push { cls:=.type "slice",data:=.fields #[.none,.none,.int (-1) t] } } σ H3 x v t s3.heap.objs.size Q I4 r1 (Heap.IsSliceOf.new ..) q3
 show wpAny (model X.prog X.w) X.A (subscriptTail e (.Slice none none (some st) p2) v (.ref s3.heap.objs.size)) (EP X pins σ Q) X.xe { s3 with heap:=s3.heap.push { cls:=.type "slice",data:=.fields #[.none,.none,.int (-1) t] } }
 exact tail_any (ops:=[v,.ref s3.heap.objs.size]) ht hT hg (by with_unfolding_all rfl)
def rRvL (K:PySem.W.Frag):V→Hp→VK→Prop:=fun x H Q=>∃a xs,x=.ref a∧SqL K H a xs∧∀p,H p=none→Q (.ref p) (upd H p (.lst xs.reverse))
theorem rv_list:RvR X (rRvL X.K):=by
 intro pins s σ H x v t sl Q I rx hs h
 obtain⟨a,xs,rfl,hx,q⟩:=h
 cases rx
 obtain⟨its,r,ht,hz⟩:=I.list hx
 have hlen:=r.length
 refine⟨"list",_,slot_list_getitem.lookup,ht.isList.typeIs,?_⟩
 refine wpAny_getItem_list_slice ht.isList hs .none .none (.int (-1) t) (by decide) ?_ (by rw[List.size_toArray] <;> omega)
 have e:slicePick its.toArray none none (some (-1))=its.reverse.toArray:=by
  unfold slicePick
  show ((sliceRange ((its.toArray.size:Int) - 1) (-1) (-1)).filterMap (its.toArray[·]?)).toArray=_
  rw[rev_range,List.size_toArray,← rev_pick its]
  congr 1
  apply fm_congr
  intro k _
  exact List.getElem?_toArray ..
 rw[e]
 refine⟨.ref s.heap.objs.size,_,I.laid (t':=s.toks) (o:=.lst xs.reverse) (fun b ob q=>Heap.get?_push_of_some _ q) (Nat.le_refl _) ?_,rfl,q _ (I.hok.fresh (Nat.le_refl _))⟩
 exact⟨by rw[List.length_reverse]; exact hz,its.reverse,0,r.reverse,Heap.get?_push_size _ rfl⟩
end
end L2
end
section
set_option maxRecDepth 100000
set_option maxHeartbeats 1000000
namespace L2
open PySem PySem.Spec PyProof.Rows
section
variable {X:Cx}{tg:Expr}
end
end L2
end
section
set_option maxRecDepth 100000
set_option maxHeartbeats 1000000
namespace L2
open PySem PySem.Spec PyProof.Rows
theorem pg_tupK {X:Cx}{pos:Pos}{es:List Expr}{k:Nat}{t:TGs}{n:Nat} (K':PySem.W.Frag) (hK:X.K=K') (hc:X.calm=true) (h:PGs X es t)
  (hn:(assignEach es X.env).length=n:=by rfl) (hst:(assignEach es X.env).findIdx? (·.1)=none:=by rfl):PG X (.Tuple es k pos) (gTup K' n t):=by
 subst hK
 exact pg_tup hc h hn hst
end L2
end
section
set_option maxRecDepth 100000
set_option maxHeartbeats 1000000
namespace L2
open PySem PySem.Spec PyProof.Rows
section
variable {X:Cx}
theorem ins_list (its:List Value) (k:Nat) (y:Value) (h:k≤its.length):(its.toArray.extract 0 k).push y++its.toArray.extract k=(its.take k++y::its.drop k).toArray:=by
 apply Array.ext'
 simp
 exact List.take_of_length_le (by rw[List.length_drop]; exact Nat.le_refl _)
theorem Vals.cut {xs:List V}{us:List Value} (h:Vals xs us) (k:Nat):Vals (xs.take k) (us.take k)∧Vals (xs.drop k) (us.drop k):=by
 induction h generalizing k with
 | nil=>rw[List.take_nil,List.take_nil,List.drop_nil,List.drop_nil]; exact⟨.nil,.nil⟩
 | cons a b ih =>
  cases k with
  | zero=>exact⟨.nil,.cons a b⟩
  | succ k=>exact⟨.cons a (ih k).1,(ih k).2⟩
theorem call_insert {prog:Program}{w:World}{A:Around}{E:Value→Shared→Prop}{s:Shared}{Q:Value→Shared→Prop} (l:Addr) (its:Array Value) (n:Nat) (k:Int) (t:Tok) (u2:Value) (h0:¬(!Builtin.List.listFitsIndex k)=true) (h1:its.size≤sizeLine)
  (e:s.heap.get? l=some { cls:=.type "list",data:=.seq its n })
  (h:Q .none { s with heap:=s.heap.update l (Obj.mapSeq fun xs=>(xs.extract 0 (if k < 0 then (k+(xs.size:Int)).toNat else min k.toNat xs.size)).push u2++xs.extract (if k < 0 then (k+(xs.size:Int)).toNat else min k.toNat xs.size)) }):wpAny (model prog w) A (call (.builtin "list.insert") [.ref l,.int k t,u2]) Q E s:=by
 exact call_meets F.slot_list_insert ⟨_,e,rfl⟩ F.entry_list_insert (F.args_list_insert_3 (.ref l) (.int k t) u2) (PySem.AutoSeq1.list_insert_list_int_val_1 l its n k t u2 h0 h1) ⟨e,h⟩
def rInsert:V→List V→Hp→VK→Prop:=fun x vs H Q=>∃l xs y,∃k:Nat,x=.ref l∧vs=[.int (k:Int),y]∧H l=some (.lst xs)∧xs.length < sizeLine∧k≤xs.length∧Q .non (upd H l (.lst (xs.take k++y::xs.drop k)))
theorem mt_insert:MtM X "list.insert" rInsert:=by
 intro pins s σ H x vs v us Q I rx rv h
 obtain⟨l,xs,y,k,rfl,rfl,hH,hz,hk,q⟩:=h
 cases rx
 obtain⟨u1,u2,rfl,r1,r2⟩ : ∃u1 u2,us=[u1,u2]∧RelV (.int (k:Int)) u1∧RelV y u2:=by
  cases rv with
  | cons r1 rv =>
  cases rv with
  | cons r2 rv =>
  cases rv
  exact⟨_,_,rfl,r1,r2⟩
 obtain⟨t,rfl⟩:=r1
 obtain⟨z,its,n,r,hl,e⟩:=I.lstM hH
 have hk':k≤its.length:=by omega
 have h0:¬(!Builtin.List.listFitsIndex (k:Int))=true:=by
  unfold Builtin.List.listFitsIndex
  have h1:=sizeLine_eq
  have h2:k < 2 ^ 63:=Nat.lt_of_le_of_lt hk (Nat.lt_trans hz (by rw[h1]; decide))
  rw[decide_eq_true (by omega),decide_eq_true (by omega)]
  decide
 have h1:its.toArray.size≤sizeLine:=by rw[List.size_toArray]; omega
 refine call_insert l its.toArray n (k:Int) t u2 h0 h1 e ⟨.non,_,I.lset (t':=s.toks) (its':=its.take k++u2::its.drop k) hH e ?_ ((Vals.cut r k).1.append (.cons r2 (Vals.cut r k).2)) ?_,rfl,q⟩
 ·rw[if_neg (by omega),Int.toNat_natCast,List.size_toArray,Nat.min_eq_left hk']
  exact ins_list its k u2 hk'
 ·rw[List.length_append,List.length_cons,List.length_take,List.length_drop]
  omega
theorem valsOf:∀{us:List Value}{zs:List Str},StrsAre us zs→Vals (zs.map V.str) us
 | _,_,.nil=>.nil
 | _,_,.cons x t h=>.cons ⟨t,rfl⟩ (valsOf h)
theorem sortedS_pw:∀{l:List Str},sortedS l=true→l.Pairwise (fun a b=>¬ b.cps.toList < a.cps.toList)
 | [],_=>.nil
 | x::r,h=>by
  have go:∀(p:Str) (l:List Str),risingS p l=true→(p::l).Pairwise (fun a b=>¬ b.cps.toList < a.cps.toList):=by
   intro p l
   induction l generalizing p with
   | nil=>intro _; exact List.pairwise_singleton _ _
   | cons y r ih =>
    intro h
    have h':(!ltCps y.cps.toList p.cps.toList && risingS y r)=true:=h
    rw[Bool.and_eq_true,Bool.not_eq_true',ltCps_eq,decide_eq_false_iff_not] at h'
    have i:=ih y h'.2
    refine List.pairwise_cons.mpr ⟨fun b hb=>?_,i⟩
    rcases List.mem_cons.mp hb with rfl | hb
    ·exact h'.1
    ·have:=(List.pairwise_cons.mp i).1 b hb
     intro hlt
     have h1:p.cps.toList≤y.cps.toList:=h'.1
     have h2:y.cps.toList≤b.cps.toList:=this
     exact (List.le_trans h1 h2) hlt
  exact go x r h
theorem sortedS_same:∀{a b:List Str},a.Perm b→sortedS a=true→sortedS b=true→a=b:=by
 intro a b p ha hb
 refine List.Perm.eq_of_pairwise (le:=fun a b=>¬ b.cps.toList < a.cps.toList) (fun x y _ _ h1 h2=>?_) (sortedS_pw ha) (sortedS_pw hb) p
 have e:x.cps.toList=y.cps.toList:=List.le_antisymm h1 h2
 obtain⟨x⟩:=x
 obtain⟨y⟩:=y
 rw[Str.mk.injEq]
 exact Array.toList_inj.mp e
end
end L2
end
section
set_option maxRecDepth 100000
set_option maxHeartbeats 1000000
namespace L2
open PySem PySem.Spec PyProof.Rows
section
variable {prog:Program}{w:World}{A:Around}{E:Value→Shared→Prop}{s:Shared}
theorem iter_raw {d:Addr}{od:Obj}{es:Array DictEntry}{ep:Nat}{Q:Value→Shared→Prop} (hs:(d == sysModules)=false) (hod:s.heap.get? d=some od) (hc:od.ExactDict) (hdd:od.data=.dict es ep)
  (hQ:Q (.ref s.heap.objs.size) { s with heap:=s.heap.push { cls:=.type "dict_keyiterator",data:=.fields #[.ref d,.int 0 0,.int es.size 0,.int ep 0] } }):wpAny (model prog w) A (pyIter (.ref d)) Q E s:=by
 have hT:s.TypeIs (.ref d) "dict":=⟨od,hod,hc.1⟩
 refine wpAny_pyIter_slot hT F.slot_dict_iter (wpAny_call_entry F.slot_dict_iter hT F.entry_dict_iter ?_ (F.args_dict_iter_1 _)); unfold Builtin.«dict.__iter__»
 refine wpAny_bind ?_; unfold Builtin.Dict.dictSlotNone; refine wpAny_bind (wpAny_notOrdered_dict hT ?_); show wpAny _ _ (pure (Value.ref d)) _ _ s
 refine wpAny_pure ?_; show wpAny _ _ (Builtin.Dict.showsAll d >>= _) _ _ s; unfold Builtin.Dict.showsAll; rw[if_neg (by rw[hs]; decide)]
 refine wpAny_bind (wpAny_pure (wpAny_bind (wpAny_dictEntries hod hdd (wpAny_bind (wpAny_dictEpoch hod hdd ?_)))))
 refine wpAny_bind (wpAny_newObj_type (wpAny_pure ⟨_,rfl,"dict_keyiterator",_,⟨_,Heap.get?_push_size _ rfl,rfl⟩,F.slot_dict_keyiterator_next.lookup,by simpa [rawInt] using hQ⟩))
theorem next_raw {it d:Addr}{i ep:Nat}{od:Obj}{es:Array DictEntry}{Q:Option Value→Shared→Prop} (hit:s.heap.IsKeyIter it d i es.size ep) (hod:s.heap.get? d=some od) (hdd:od.data=.dict es ep) (hlt:i < es.size)
  (hQ:∀h',h'.IsKeyIter it d (i+1) es.size ep→Heap.SameBut it s.heap h'→Q (some es[i].key) { s with heap:=h' }):wpAny (model prog w) A (pyNext (.ref it)) Q E s:=by
 obtain⟨o,ho,hc,hd⟩:=id hit; unfold pyNext
 refine wpAny_bind (wpAny_attempt (wpAny_callSpecial?_slot (name:=Str.ofString "__next__") hit.typeIs F.slot_dict_keyiterator_next (wpAny_call_entry F.slot_dict_keyiterator_next hit.typeIs F.entry_dict_keyiterator_next ?_ (F.args_dict_keyiterator_next_1 _))))
 refine wpAny_bind (wpAny_pure (wpAny_bind (wpAny_bind ?_))); first | refine wpAny_bind (wpAny_typeNameOfWhole_keyiter hit.typeIs (wpAny_pure ?_)) | refine wpAny_bind (wpAny_typeNameOf_keyiter hit.typeIs (wpAny_pure ?_))
 refine wpAny_bind (wpAny_fieldsOf ho hd ?_); have hown:Builtin.Dict_items.ownsTuple "dict_keyiterator"=false:=by decide
 simp only[hown,Bool.false_eq_true,if_false]; show wpAny _ _ (if (Value.ref d == Value.none)=true then _ else _) _ _ s
 rw[if_neg (show ¬ ((Value.ref d == Value.none)=true) by intro z; cases z)]; refine wpAny_bind (wpAny_pure (wpAny_bind (wpAny_dictEntries hod hdd ?_)))
 rw[if_neg (by simp)]; refine wpAny_bind (wpAny_pure (wpAny_bind (wpAny_dictEpoch hod hdd ?_))); rw[if_neg (by simp)]; refine wpAny_pure ?_
 simp only[show ¬ ((i:Int) < 0) by omega,if_false,Int.toNat_natCast,Array.getElem?_eq_getElem hlt]; refine wpAny_bind ?_
 (first | refine wpAny_bind (wpAny_typeNameOfWhole_keyiter hit.typeIs (wpAny_pure ?_)) | refine wpAny_bind (wpAny_typeNameOf_keyiter hit.typeIs (wpAny_pure ?_))); refine wpAny_bind (wpAny_isOneOf_keyiter hit.typeIs ?_)
 show wpAny _ _ (setField (.ref it) 1 (rawInt ((i:Int)+1)) >>= _) _ _ s; refine wpAny_bind (wpAny_setField ho hd (by simp) ?_)
 have hit2:(s.heap.update it (Obj.mapFields (·.setIfInBounds 1 (rawInt ((i:Int)+1))))).IsKeyIter it d (i+1) es.size ep:=⟨_,Heap.get?_update_self _ ho (Obj.isFreed_of_fields (Obj.data_mapFields hd _)),(Obj.cls_mapFields ..).trans hc,by rw[Obj.data_mapFields hd]; simp [rawInt]⟩
 refine wpAny_bind (wpAny_holding (wpAny_bind (wpAny_isOneOf_keyiter (s:={ s with heap:=s.heap.update it (Obj.mapFields (·.setIfInBounds 1 (rawInt ((i:Int)+1)))) }) hit2.typeIs ?_)))
 show wpAny _ _ (pure es[i].key) _ _ _; exact wpAny_pure (wpAny_pure ⟨_,rfl,wpAny_pure (hQ _ hit2 (Heap.SameBut.update ..))⟩)
theorem end_raw {it d:Addr}{i ep:Nat}{od:Obj}{es:Array DictEntry}{Q:Option Value→Shared→Prop} (hh:A.handled=none) (hit:s.heap.IsKeyIter it d i es.size ep) (hod:s.heap.get? d=some od) (hdd:od.data=.dict es ep) (hge:es.size≤i)
  (hQ:∀h',Heap.ExtBut it s.heap h'→Q none { s with heap:=h' }):wpAny (model prog w) A (pyNext (.ref it)) Q E s:=by
 obtain⟨o,ho,hc,hd⟩:=id hit; unfold pyNext
 refine wpAny_bind (wpAny_attempt (wpAny_callSpecial?_slot (name:=Str.ofString "__next__") hit.typeIs F.slot_dict_keyiterator_next (wpAny_call_entry F.slot_dict_keyiterator_next hit.typeIs F.entry_dict_keyiterator_next ?_ (F.args_dict_keyiterator_next_1 _))))
 refine wpAny_bind (wpAny_pure (wpAny_bind (wpAny_bind ?_))); first | refine wpAny_bind (wpAny_typeNameOfWhole_keyiter hit.typeIs (wpAny_pure ?_)) | refine wpAny_bind (wpAny_typeNameOf_keyiter hit.typeIs (wpAny_pure ?_))
 refine wpAny_bind (wpAny_fieldsOf ho hd ?_); have hown:Builtin.Dict_items.ownsTuple "dict_keyiterator"=false:=by decide
 simp only[hown,Bool.false_eq_true,if_false]; show wpAny _ _ (if (Value.ref d == Value.none)=true then _ else _) _ _ s
 rw[if_neg (show ¬ ((Value.ref d == Value.none)=true) by intro z; cases z)]; refine wpAny_bind (wpAny_pure (wpAny_bind (wpAny_dictEntries hod hdd ?_)))
 rw[if_neg (by simp)]; refine wpAny_bind (wpAny_pure (wpAny_bind (wpAny_dictEpoch hod hdd ?_))); rw[if_neg (by simp)]; refine wpAny_pure ?_
 simp only[show ¬ ((i:Int) < 0) by omega,if_false,Int.toNat_natCast,Array.getElem?_eq_none hge]; refine wpAny_bind ?_
 (first | refine wpAny_bind (wpAny_typeNameOfWhole_keyiter hit.typeIs (wpAny_pure ?_)) | refine wpAny_bind (wpAny_typeNameOf_keyiter hit.typeIs (wpAny_pure ?_))); show wpAny _ _ (setField (.ref it) 0 .none >>= _) _ _ s
 refine wpAny_bind (wpAny_setField ho hd (by simp) ?_); show wpAny _ _ (newExc (.type "StopIteration") [] >>= _) _ _ _; refine wpAny_bind ?_
 simp only[newExc,newTuple]; refine wpAny_bind (wpAny_newObj_type ?_ (by size_fits)); refine wpAny_bind (m:=firstArgMember _ _) (wpAny_of_eq (a:=Value.none) (by first | rfl | (simp only[firstArgMember]; rfl)) ?_)
 refine wpAny_newObj_type ?_ (by size_fits); simp only[raiseNew]; refine wpAny_bind (wpAny_handled ?_); rw[show A.in1.handled=none from hh]; refine wpAny_bind (wpAny_pure (wpAny_throw ?_))
 refine wpAny_bind (wpAny_isInstance (T:="StopIteration") (b:=true) ⟨_,Heap.get?_push_size _ rfl,rfl⟩ isSubtype_stop ?_); exact wpAny_pure (hQ _ (((Heap.SameBut.update ..).extBut.push _).push _))
end
section
variable {X:Cx}{pins:List (Addr×Obj)}{σ:St}{H:Hp}{s:Shared}
theorem Inv.freeze {a:Addr}{u:HO}{o:Obj} (I:Inv X pins σ H s) (e:H a=some u) (ho:s.heap.get? a=some o) (nt:∀xs,u≠.tup xs) (nf:∀o' u',u≠.frz o' u') (nb:∀ps,u≠.tbl ps) (no:∀x,u≠.own x):Inv X pins σ (upd H a (.frz o u)) s:=by
 have tu:∀b xs,H b=some (.tup xs)→upd H a (.frz o u) b=some (.tup xs):=fun b xs q=>by
  rw[upd_ne (fun z=>by rw[z,e] at q; exact nt xs (Option.some.inj q))]; exact q
 have ow:∀b x,H b=some (.own x)→upd H a (.frz o u) b=some (.own x):=fun b x q=>by
  rw[upd_ne (fun z=>by rw[z,e] at q; exact no x (Option.some.inj q))]; exact q
 refine I.un (h':=s.heap) (t':=s.toks) ⟨fun b ob q _ _ _=>q,fun b ob q _ _ _=>⟨ob.slots,q⟩,fun b ob _ n _=>?_,fun b ob q _=>⟨ob,q⟩,tu,fun b ob uu q=>?_,fun b ps q=>⟨#[],?_⟩⟩ fun b ub q=>?_
 ·rw[upd_ne (fun z=>by rw[z,e] at n; cases n)]; exact n
 ·rw[upd_ne (fun z=>by rw[z,e] at q; exact nf ob uu (Option.some.inj q))]; exact q
 ·rw[upd_ne (fun z=>by rw[z,e] at q; exact nb ps (Option.some.inj q)),q]; simp
 ·by_cases hb:b=a
  ·subst hb
   rw[upd_same] at q
   cases q
   exact⟨ho,(I.hok b u e).stay (fun _ _ _ q=>q) (fun c q=>ow c _ q) tu⟩
  ·rw[upd_ne hb] at q
   exact (I.hok b ub q).stay (fun _ _ _ q=>q) (fun c q=>ow c _ q) tu
end
section
variable {X:Cx}{tg:Expr}
end
end L2
end
section
set_option maxRecDepth 100000
set_option maxHeartbeats 1000000
namespace L2
open PySem PySem.Spec PyProof.Rows
structure Ent where
 k:Str
 t:Tok
 v:Value
 x:V
def Ent.kv (e:Ent):Key×V:=(.inr e.k,e.x)
def Ent.en (w:World) (e:Ent):DictEntry:=⟨PyData.keyHash w.params e.k,.str e.k e.t,e.v⟩
theorem modDn {P:Program}{w:World}{K:PySem.W.Frag}{a:Addr}{n:Nat} (es:List Ent) (hn:(es.map (·.k)).Nodup) (hr:∀e∈es,RelV e.x e.v) (ha:(a == sysModules)=false)
  (l:K.lookup a=some ⟨.type "dict",none,.dict (es.map (Ent.en w)).toArray n,#[]⟩):ModD P w K a (es.map Ent.kv):=fun h X=>by
 have kv:∀l:List Ent,(∀e∈l,RelV e.x e.v)→KV (l.map Ent.kv) (l.map fun e=>((.inr e.k:Key),e.v)):=fun l=>by
  induction l with
  | nil=>intro _; exact .nil
  | cons e r ih=>intro h; exact .cons ⟨rfl,h e List.mem_cons_self⟩ (ih fun x hx=>h x (List.mem_cons_of_mem _ hx))
 have prs:∀l:List Ent,Pairs (mixKind P w) (l.map (Ent.en w)) (l.map fun e=>((.inr e.k:Key),e.v)):=fun l=>by
  induction l with
  | nil=>exact .nil
  | cons e r ih=>exact .cons (mixKind_str P w e.k e.t) rfl ih
 refine⟨ha,es.map fun e=>(.inr e.k,e.v),kv es hr,_,_,_,X _ _ l,⟨rfl,rfl,rfl⟩,rfl,fun d hd=>?_,by simpa using prs es,?_⟩
 ·have hd':d∈es.map (Ent.en w):=by simpa using hd
  obtain⟨e,_,rfl⟩:=List.mem_map.mp hd'
  exact⟨.inr e.k,mixKind_str P w e.k e.t,rfl⟩
 ·rw[List.map_map]
  have:(es.map ((fun p:Key×Value=>p.1) ∘ fun e=>((.inr e.k:Key),e.v)))=(es.map (·.k)).map (fun s=>(.inr s:Key)):=by rw[List.map_map]; rfl
  rw[this]
  unfold List.Nodup at hn ⊢
  rw[List.pairwise_map]
  exact List.Pairwise.imp (fun h z=>h (by injection z)) hn
end L2
end
section
set_option maxRecDepth 100000
set_option maxHeartbeats 1000000
namespace L2
open PySem PySem.Spec PyProof.Rows
section
variable {X:Cx}{a b:Expr}{rest:List Expr}{pos:Pos}{ta tb:TE}
def tOrS (ta tb:TE):TE:=fun σ H Q=>ta σ H fun x H1=>∃z:Str,x=.str z∧z.length≤sizeLine∧if z.length=0 then tb σ H1 Q else Q (.str z) H1
theorem pe_orS (ha:PE X a ta) (hb:PE X (.BoolOp .Or (b::rest) pos) tb):PE X (.BoolOp .Or (a::b::rest) pos) (tOrS ta tb):=by
 intro pins s σ H Q I h
 refine BoolOp_or (thn (ha pins s σ H _ I h) fun v s1 ⟨x,H1,I1,r1,q1⟩=>?_)
 obtain⟨z,rfl,hz,q1⟩:=q1
 obtain⟨t,rfl⟩:=r1
 have hl:=line63
 have hs:sizeLine=16777216:=sizeLine_eq
 refine PySem.P.truthy_str (by omega) ?_
 by_cases e:z.length=0
 ·rw[if_pos e] at q1
  have e2:((z.length:Int) != 0)=false:=by rw[e]; rfl
  rw[e2]
  exact hb pins _ σ H1 Q (I1.tok _) q1
 ·rw[if_neg e] at q1
  have e2:((z.length:Int) != 0)=true:=bne_iff_ne.mpr (by omega)
  rw[e2]
  exact⟨.str z,H1,I1.tok _,⟨_,rfl⟩,q1⟩
end
end L2
end
section
set_option maxHeartbeats 4000000
namespace L2
open PySem PySem.Spec PyProof.Rows
section
variable {X:Cx}
end
end L2
end
section
set_option maxHeartbeats 4000000
namespace L2
open PySem PySem.Spec PyProof.Rows
theorem occ_size (s sub:Str) (hi k:Nat):∀(l:List Nat) (st:Array Nat×Nat),st.fst.size≤k→(forIn (m:=Id) l st (StrLaws.occBody s sub hi k)).run.fst.size≤k
 | [],_,h=>h
 | a::l,st,h=>by
  rw[List.forIn_cons]
  by_cases c:((st.fst.size < k∧st.snd≤a)∧a+sub.length≤hi)∧Builtin.Str.subAt s sub a=true
  ·unfold StrLaws.occBody
   rw[if_pos c]
   exact occ_size s sub hi k l (st.fst.push a,a+sub.length) (by show (st.fst.push a).size≤k; rw[Array.size_push]; exact c.1.1.1)
  ·unfold StrLaws.occBody
   rw[if_neg c]
   exact occ_size s sub hi k l st h
theorem occ_most (x y:Str) (k:Nat):(Builtin.Str.occurrences x y 0 x.length k).length≤k:=by
 rw[StrLaws.occ_eq]
 exact occ_size x y x.length k _ _ (Nat.zero_le _)
section
variable {X:Cx}
def rZfill:V→List V→Hp→VK→Prop:=fun x vs H Q=>∃z i,x=.str z∧vs=[.int i]∧PadOk i=true∧Q (.str (Txt.zfill z i)) H
theorem mt_zfill:MtR X "str.zfill" rZfill:=by
 intro pins s σ H x vs v us Q I rx rv h
 obtain⟨z,i,rfl,rfl,hp,q⟩:=h
 obtain⟨t,rfl⟩:=rx
 obtain⟨u,rfl,t',rfl⟩:=rv.one
 exact SC.zfill hp fun _ _=>⟨.str _,H,I.tok _,⟨_,rfl⟩,q⟩
def rStrip:V→List V→Hp→VK→Prop:=fun x vs H Q=>∃z y,x=.str z∧vs=[.str y]∧z.length≤sizeLine∧Q (.str (Txt.stripChars z y)) H
theorem mt_strip:MtR X "str.strip" rStrip:=by
 intro pins s σ H x vs v us Q I rx rv h
 obtain⟨z,i,rfl,rfl,hp,q⟩:=h
 obtain⟨t,rfl⟩:=rx
 obtain⟨u,rfl,t',rfl⟩:=rv.one
 exact SC.stripChars (fun _ _=>⟨.str _,H,I.tok _,⟨_,rfl⟩,q⟩) hp
theorem vals_strs:∀(l:List (Str×Tok)),Vals (l.map fun p=>V.str p.1) (strValues l)
 | []=>.nil
 | p::l=>.cons ⟨_,rfl⟩ (vals_strs l)
def rSplit:V→List V→Hp→VK→Prop:=fun x vs H Q=>∃z y,x=.str z∧vs=[.str y]∧(y.length == 0)=false∧z.length+2≤sizeLine∧∀l,H l=none→Q (.ref l) (upd H l (.lst ((Txt.split z y).map V.str)))
theorem mt_split:MtR X "str.split" rSplit:=by
 intro pins s σ H x vs v us Q I rx rv h
 obtain⟨x,y,rfl,rfl,hy,hz,q⟩:=h
 obtain⟨t,rfl⟩:=rx
 obtain⟨u,rfl,t',rfl⟩:=rv.one
 have hsz:x.length≤sizeLine:=by omega
 have hsz2:(Builtin.Str.partsBetween x (Builtin.Str.occurrences x y 0 x.length (x.length+1)) y.length).length≤sizeLine:=by
  have:=PySem.length_partsBetween x (Builtin.Str.occurrences x y 0 x.length (x.length+1)) y.length
  have h2:(Builtin.Str.occurrences x y 0 x.length (x.length+1)).length≤x.length+1:=occ_most x y _
  omega
 have fin:∀(l:List (Str×Tok)) (k:Nat),l.map (·.1)=Txt.split x y→l.length≤sizeLine →
   EP X pins σ Q (.ref s.heap.objs.size) { s with toks:=k,heap:=s.heap.push { cls:=.type "list",data:=.seq (strValues l).toArray } }:=fun l k e hl=>by
  have e2:(Txt.split x y).map V.str=l.map fun p=>V.str p.1:=by rw[← e,List.map_map]; rfl
  have q2:=q s.heap.objs.size (I.hok.fresh (Nat.le_refl _))
  rw[e2] at q2
  exact⟨.ref s.heap.objs.size,_,I.laid (t':=k) (fun b o e=>Heap.get?_push_of_some _ e) (Nat.le_refl _)
   (show ObjOk X.prog X.w _ _ _ (.lst (l.map fun p=>V.str p.1)) from ⟨by rw[List.length_map]; exact hl,strValues l,_,vals_strs l,Heap.get?_push_size _ rfl⟩),rfl,q2⟩
 cases h1:(decide (x.length < y.length) || decide (Builtin.Str.strKind x < Builtin.Str.strKind y))
 ·cases hf:(Builtin.Str.occurrences x y 0 x.length (x.length+1)).isEmpty
  ·refine call_meets F.slot_str_split (typeIs_str _ _ _) F.entry_str_split (F.args_str_split_2 _ _) (meets_str_split_sep x y t t' h1 hy hf hsz hsz2) ?_
   show EP X pins σ Q _ { s with toks:=_,heap:=s.heap.push { cls:=.type "list",data:=.seq (strsFrom s.toks (Builtin.Str.partsBetween x (Builtin.Str.occurrences x y 0 x.length (x.length+1)) y.length)).toArray } }
   rw[strsFrom_eq]
   have en:=numbered_texts s.toks (Builtin.Str.partsBetween x (Builtin.Str.occurrences x y 0 x.length (x.length+1)) y.length)
   exact fin (numbered s.toks _) _ (en.trans ((if_neg (ne_true_of_eq_false h1)).trans (if_neg (ne_true_of_eq_false hf))).symm) (by rw[← List.length_map (f:=(·.1)),en]; exact hsz2)
  ·exact call_meets F.slot_str_split (typeIs_str _ _ _) F.entry_str_split (F.args_str_split_2 _ _) (meets_str_split_not_found x y t t' h1 hy hf)
    (fin [(x,t)] s.toks ((if_neg (ne_true_of_eq_false h1)).trans (if_pos hf)).symm (by rw[sizeLine_eq]; show 1≤_; decide))
 ·exact call_meets F.slot_str_split (typeIs_str _ _ _) F.entry_str_split (F.args_str_split_2 _ _) (meets_str_split_cannot_occur x y t t' h1)
   (fin [(x,t)] s.toks (if_pos h1).symm (by rw[sizeLine_eq]; show 1≤_; decide))
def rIntS:List V→Hp→VK→Prop:=fun xs H Q=>∃x n,xs=[.str x]∧PySem.intText? x=some n∧x.length≤640∧Q (.int n) H
theorem call_intS:CallR X (.type "int") rIntS:=by
 intro pins s σ H xs us Q I r h
 obtain⟨x,n,rfl,hn,hl,q⟩:=h
 obtain⟨u,rfl,t,rfl⟩:=vals1 r
 exact PySem.W.KIN.call_text hn hl ⟨.int n,H,I.tok _,⟨_,rfl⟩,q⟩
def rDivmodW:List V→Hp→VK→Prop:=fun xs H Q=>∃i j,xs=[.int i,.int j]∧0 < j∧j.natAbs.log2 < 9000∧∀p,H p=none→Q (.ref p) (upd H p (.tup [.int (i / j),.int (i % j)]))
theorem call_divmodW:CallR X (.builtin "divmod") rDivmodW:=by
 intro pins s σ H xs us Q I r h
 obtain⟨i,j,rfl,h1,h2,q⟩:=h
 obtain⟨u,w',rfl,⟨t,rfl⟩,⟨t',rfl⟩⟩:=vals2 r
 refine divmod_int (by omega) ?_ (.inl (PyProof.noPylong_of_log2 h2))
 rw[Int.fdiv_eq_ediv_of_nonneg i (by omega),Int.fmod_eq_emod_of_nonneg i (by omega)]
 have hn:H s.heap.objs.size=none:=I.hok.fresh (Nat.le_refl _)
 refine⟨.ref s.heap.objs.size,_,?_,rfl,q _ hn⟩
 refine I.laid (fun b o e=>Heap.get?_push_of_some _ e) (Nat.le_refl _) ⟨by simp only[List.length_cons,List.length_nil]; rw[sizeLine_eq]; decide,[.int (i / j) s.toks,.int (i % j) (s.toks+1)],.cons ⟨_,rfl⟩ (.cons ⟨_,rfl⟩ .nil),?_⟩
 exact⟨_,Heap.get?_push_size s.heap rfl,rfl,0,rfl⟩
end
end L2
end
section
set_option maxRecDepth 100000
set_option maxHeartbeats 1000000
namespace L2
open PySem PySem.Spec PyProof.Rows
section
variable {prog:Program}{w:World}{A:Around}{R:Result→Shared→Prop}{s:Shared}{elt tg0 iter0 tg1 iter1:Expr}{ifs0 ifs1:List Expr}{scope:Scope}{pos:Pos}{it acc:Value}{env:Env}
end
section
variable {X:Cx}{scope:Scope}{ts cap:List Str}{js:List Nat}{elt tg0 iter0 tg1 iter1:Expr}{ifs0 ifs1:List Expr}{pos:Pos}
end
section
variable {X:Cx}
end
end L2
end
section
set_option maxHeartbeats 4000000
namespace L2
open PySem PySem.Spec PyProof.Rows
section
variable {X:Cx}
theorem vals_at:∀(xs:List V) (us:List Value),xs.length=us.length→(∀(j:Nat) x u,xs[j]?=some x→us[j]?=some u→RelV x u)→Vals xs us
 | [],[],_,_=>.nil
 | [],_::_,h,_=>by cases h
 | _::_,[],h,_=>by cases h
 | x::xs,u::us,h,r=>.cons (r 0 x u rfl rfl) (vals_at xs us (by simpa using h) fun j a b h1 h2=>r (j+1) a b h1 h2)
end
end L2
end
section
set_option maxRecDepth 100000
set_option maxHeartbeats 2000000
namespace L2
open PySem PySem.Spec PyProof.Rows
def CdO (c:Addr) (q:Str):HO:=.ext fun h=>∃o vs t,h.get? c=some o∧o.data=.fields vs∧vs[1]?=some (.str q t)
structure LamT (pos:Pos) (q:Str) (P:Addr) (H:Hp):Prop where
 ex:∃ps,H P=some (.tbl ps)∧TriplesOk ps.toList∧(codeAmong pos ps.toList=none∨∃c,codeAmong pos ps.toList=some (.ref c)∧H c=some (CdO c q))
structure LamK (K:PySem.W.Frag) (mg:Str→Option Value) (c P:Addr):Prop where
 hd:∀h:Heap,K.In h→PySem.W.CodeHd h c P
 bt:∀h:Heap,K.In h→h.BuiltinsAt mg P
 ne:mainGlobals≠P
def SmB (P:Addr) (H H':Hp):Prop:=∀b o,b≠P→H b=some o→H' b=some o
theorem SmB.trans {P:Addr}{H H1 H2:Hp} (a:SmB P H H1) (b:SmB P H1 H2):SmB P H H2:=fun c o n e=>b c o n (a c o n e)
theorem SmB.of {P:Addr}{H H':Hp} (a:Same H H'):SmB P H H':=fun c o _ e=>a c o e
end L2
end
section
set_option maxRecDepth 100000
set_option maxHeartbeats 2000000
namespace L2
open PySem PySem.Spec PyProof.Rows
section
variable {X:Cx}{pins:List (Addr×Obj)}{σ:St}{H:Hp}{s:Shared}{scope:Scope}{cap:List Str}{js:List Nat}{A:Around}{q y:Str}{f:Addr}{cd:Value}
end
end L2
end
section
set_option maxRecDepth 100000
set_option maxHeartbeats 2000000
namespace L2
open PySem PySem.Spec PyProof.Rows SeqAt
section
variable {X:Cx}{pins:List (Addr×Obj)}{σ:St}{H:Hp}
end
end L2
end
section
set_option maxRecDepth 100000
set_option maxHeartbeats 2000000
namespace L2
open PySem PySem.Spec PyProof.Rows SeqAt
end L2
end
section
set_option maxRecDepth 100000
set_option maxHeartbeats 2000000
namespace L2
open PySem PySem.Spec PyProof.Rows
end L2
end
section
set_option maxRecDepth 100000
set_option maxHeartbeats 1000000
namespace L2
open PySem PySem.Spec PyProof.Rows
section
variable {X:Cx}{scope:Scope}{ts cap:List Str}{js:List Nat}{tg0 tg1 elt iter0 iter1:Expr}{ifs0 ifs1:List Expr}{pos:Pos}
end
end L2
end
section
set_option maxRecDepth 100000
set_option maxHeartbeats 1000000
namespace L2
open PySem PySem.Spec PyProof.Rows
def tMid (t:TS):TS:=fun D σ H=>∃M:St→Hp→Prop,t { D with nx:=M } σ H∧∀σ' H',M σ' H'→D.nx σ' H'
theorem ps_mid {X:Cx}{st:Stmt}{t:TS} (h:PS X st t):PS X st (tMid t):=by
 intro pins s σ H D I hw
 obtain⟨M,h1,h2⟩:=hw
 refine wpAny_mono (h pins s σ H { D with nx:=M } I h1) (fun fl s' hs=>?_) fun _ _ e=>e
 cases fl with
 | next =>
  obtain⟨σ',H',J,q⟩:=hs
  exact⟨σ',H',J,h2 σ' H' q⟩
 | ret u=>exact hs
 | brk=>exact hs
 | cont=>exact hs
def tMidE (t:TE):TE:=fun σ H Q=>∃M:VK,t σ H M∧∀v H',M v H'→Q v H'
theorem pe_mid {X:Cx}{e:Expr}{t:TE} (h:PE X e t):PE X e (tMidE t):=by
 intro pins s σ H Q I hw
 obtain⟨M,h1,h2⟩:=hw
 exact wpAny_mono (h pins s σ H M I h1) (fun v s' ⟨x,H',J,r,q⟩=>⟨x,H',J,r,h2 x H' q⟩) fun _ _ e=>e
end L2
end
section
set_option maxRecDepth 100000
set_option maxHeartbeats 1000000
namespace L2
open PySem PySem.Spec PyProof.Rows
section
variable {X:Cx}{pins:List (Addr×Obj)}{σ:St}{H:Hp}{s:Shared}{scope:Scope}{ts cap:List Str}{js:List Nat}{fp:List Addr}{C D:Addr}
end
end L2
end
section
set_option maxRecDepth 100000
set_option maxHeartbeats 1000000
namespace L2
open PySem PySem.Spec PyProof.Rows
section
variable {prog:Program}{w:World}{A:Around}{E:Value→Shared→Prop}{s:Shared}{a:Addr}{o:Obj}{L:Bool}{ys:List Str}{z:Str}{tz:Tok}
end
end L2
end
section
set_option maxRecDepth 100000
set_option maxHeartbeats 1000000
namespace L2
open PySem PySem.Spec PyProof.Rows
section
variable {X:Cx}{pins:List (Addr×Obj)}{σ:St}{H:Hp}{s:Shared}{scope:Scope}{ts cap:List Str}{js:List Nat}{fp:List Addr}{C D:Addr}
end
section
variable {X:Cx}{scope:Scope}{ts cap:List Str}{js:List Nat}{tg elt iter:Expr}{ifs:List Expr}{pos:Pos}{wi:TI}{g:TG}{tc:TT}{te:TE}
abbrev TSets:=St→Hp→(List Str→Hp→Prop)→Prop
end
end L2
end
section
set_option maxRecDepth 100000
set_option maxHeartbeats 1000000
namespace L2
open PySem PySem.Spec PyProof.Rows
section
variable {prog:Program}{w:World}{A:Around}{E:Value→Shared→Prop}{s:Shared}{a:Addr}{o:Obj}{ys:List Str}
end
end L2
end
section
set_option maxRecDepth 100000
set_option maxHeartbeats 1000000
namespace L2
open PySem PySem.Spec PyProof.Rows
section
variable {prog:Program}{w:World}{A:Around}{E:Value→Shared→Prop}{s:Shared}{o:Obj}{I D Pl:Addr}{ps:List Nat}{n ep:Nat}{es:Array (Int×Value)}{t:SetTable}
end
end L2
end
section
set_option maxRecDepth 100000
set_option maxHeartbeats 1000000
namespace L2
open PySem PySem.Spec PyProof.Rows
section
variable {prog:Program}{w:World}{A B:Around}{E:Value→Shared→Prop}{s:Shared}{o:Obj}{D:Addr}{ys:List Str}
end
end L2
end
section
set_option maxRecDepth 100000
set_option maxHeartbeats 1000000
namespace L2
open PySem PySem.Spec PyProof.Rows
section
variable {prog:Program}{w:World}{A:Around}{E:Value→Shared→Prop}{s:Shared}{o:Obj}{D:Addr}
end
end L2
end
section
set_option maxRecDepth 100000
set_option maxHeartbeats 1000000
namespace L2
open PySem PySem.Spec PyProof.Rows
section
variable {prog:Program}{w:World}{A:Around}{E:Value→Shared→Prop}{s:Shared}{o:Obj}{D:Addr}{ys:List Str}
end
section
variable {X:Cx}{x:Str}{p pos:Pos}{e:Expr}{t:TSets}
end
end L2
end
section
set_option maxRecDepth 100000
set_option maxHeartbeats 1000000
namespace L2
open PySem PySem.Spec PyProof.Rows
end L2
end
section
set_option maxRecDepth 100000
set_option maxHeartbeats 1000000
namespace L2
open PySem PySem.Spec PyProof.Rows
section
variable {prog:Program}{w:World}{A:Around}{E:Value→Shared→Prop}{s:Shared}
end
section
variable {X:Cx}
end
end L2
end
section
set_option maxRecDepth 100000
set_option maxHeartbeats 1000000
namespace L2
open PySem PySem.Spec PyProof.Rows
section
variable {X:Cx}{k v:Expr}{pos:Pos}{tk tv:TE}
end
end L2
end
section
set_option maxRecDepth 100000
set_option maxHeartbeats 1000000
namespace SG
open PySem PyProof.Rows
def kf (κ : KeyKind) (p:Keyed):κ.α:=(κ.keyOf p.1).getD κ.dflt
def Has (κ : KeyKind) (p:Keyed):Prop:=∃a,κ.keyOf p.1=some a
def gallopP:Bool→Keyed→Array Keyed→Nat→Nat→Nat→StateT SortSt Sem (Option Nat):=sortPriv% PySem.Builtin.gallop
section
variable {prog:Program}{w:World}{A:Around}{E:Value→Shared→Prop}{s:Shared}{κ : KeyKind}{st:SortSt}
theorem wpS_elemP {arr:Array Keyed}{i:Nat}{p:Keyed}{Q:Keyed→SortSt→Prop} (e:arr[i]?=some p) (h:Q p st):wpS (model prog w) A E s (elem' arr i) Q st:=by
 rw[elem'_eq,e]; exact wpS_pure h
theorem wpS_ltP {x y:Keyed}{Q:Option Bool→SortSt→Prop} (hO : κ.OneLt) (hk:kindOf st=oneType') (hx:Has κ x) (hy:Has κ y) (h:Q (some (κ.blt (kf κ x) (kf κ y))) st):wpS (model prog w) A E s (lt' x y) Q st:=by
 obtain⟨a,ha⟩:=hx
 obtain⟨b,hb⟩:=hy
 unfold kf at h
 rw[ha,hb] at h
 rw[lt'_eq]; refine wpS_bind (wpS_get ?_)
 rw[hk,keyLt'_oneType]
 exact wpS_bind (wpS_lift (wpAny_attempt (hO prog w A _ s x.1 y.1 a b ha hb ⟨rfl,wpS_pure h⟩)))
theorem wpS_gallop {left:Bool}{key:Keyed}{arr:Array Keyed}{base n hint:Nat}{Q:Option Nat→SortSt→Prop} (hO : κ.OneLt) (hk:kindOf st=oneType') (hkey:Has κ key) (ps:Nat→Keyed) (harr:∀i,i < n→arr[base+i]?=some (ps i)∧Has κ (ps i)) (hn:hint < n) (B:Nat→Bool)
  (hB:∀i,B i=if left=true then κ.blt (kf κ (ps i)) (kf κ key) else !κ.blt (kf κ key) (kf κ (ps i))) (mono:∀i j,i≤j→j < n→B j=true→B i=true)
  (h:∀k,k≤n→(∀i,i < k→B i=true)→(∀i,k≤i→i < n→B i=false)→Q (some k) st):wpS (model prog w) A E s (gallopP left key arr base n hint) Q st:=by
 have anti:∀i j,i≤j→j < n→B i=false→B j=false:=fun i j hij hj hi=>by
  cases e:B j with
  | false=>rfl
  | true=>rw[mono i j hij hj e] at hi; cases hi
 have hb:∀i,i < n→∀Q':Option Bool→SortSt→Prop,Q' (some (B i)) st→wpS (model prog w) A E s (do
   let x ← elem' arr (base+i)
   if left=true then lt' x key else do
    let r ← lt' key x
    pure (Option.map (fun x=>!x) r)) Q' st:=fun i hi Q' q=>by
  obtain⟨e,hp⟩:=harr i hi
  refine wpS_bind (wpS_elemP e ?_)
  rw[hB i] at q
  cases left with
  | true =>
   simp only[if_true] at q ⊢
   exact wpS_ltP hO hk hp hkey q
  | false =>
   simp only[Bool.false_eq_true,if_false] at q ⊢
   exact wpS_bind (wpS_ltP hO hk hkey hp (wpS_pure q))
 refine wpS_bind (hb hint hn _ ?_)
 cases hr:B hint with
 | true =>
  refine wpS_bind (wpS_mono (wpS_forRange (I:=fun x c st'=>st'=st∧c.1=none∧x+1≤c.2.2∧c.2.1 < c.2.2∧hint+c.2.1 < n∧B (hint+c.2.1)=true)
   (Q:=fun c st'=>st'=st∧c.1=none∧c.2.1 < c.2.2∧hint+c.2.1 < n∧B (hint+c.2.1)=true∧(n - hint≤c.2.2∨B (hint+c.2.2)=false)) ?step ?fin ⟨rfl,rfl,by show 0+1≤1; omega,by show 0 < 1; omega,by show hint+0 < n; exact hn,by show B (hint+0)=true; exact hr⟩) ?post)
  case fin =>
   rintro⟨c0,l,o⟩ st' ⟨rfl,e0,a1,a2,a3,a4⟩
   exact⟨rfl,e0,a2,a3,a4,.inl (by have:max 0 n+1≤o:=a1; show n - hint≤o; omega)⟩
  case post =>
   rintro⟨c0,l,o⟩ st' ⟨rfl,e0,a2,a3,a4,a5⟩
   cases e0
   dsimp only at a2 a3 a4 a5 ⊢
   have h1:hint+l+1≤hint+min o (n - hint):=by omega
   have h2:hint+min o (n - hint)≤n:=by omega
   have h3:∀i,i < hint+l+1→B i=true:=fun i hi=>mono i _ (by omega) a3 a4
   have h4:∀i,hint+min o (n - hint)≤i→i < n→B i=false:=fun i hi hn'=>by
    rcases a5 with a5 | a5
    ·omega
    ·by_cases hm:o≤n - hint
     ·exact anti _ i (by omega) hn' a5
     ·omega
   generalize hint+l+1=lo at h1 h3 ⊢
   generalize hint+min o (n - hint)=hi at h1 h2 h4 ⊢
   refine wpS_bind (wpS_mono (wpS_forRange (I:=fun x c st''=>st''=st'∧c.1=none∧c.2.1≤c.2.2∧c.2.2≤n∧c.2.2 - c.2.1≤n - x∧(∀i,i < c.2.1→B i=true)∧(∀i,c.2.2≤i→i < n→B i=false))
    (Q:=fun c st''=>st''=st'∧c.1=none∧c.2.1=c.2.2∧c.2.2≤n∧(∀i,i < c.2.2→B i=true)∧(∀i,c.2.2≤i→i < n→B i=false)) ?step2 ?fin2 ⟨rfl,rfl,h1,h2,(by show hi - lo≤n - 0; omega),h3,h4⟩) ?post2)
   case fin2 =>
    rintro⟨c0,l,r⟩ st' ⟨rfl,e0,a1,a2,a3,a4,a5⟩
    have a3':r - l≤n - max 0 n:=a3
    have e:l=r:=by
     have:l≤r:=a1
     omega
    exact⟨rfl,e0,e,a2,by rw[e] at a4; exact a4,a5⟩
   case post2 =>
    rintro⟨c0,l,r⟩ st' ⟨rfl,e0,a1,a2,a4,a5⟩
    cases e0
    exact wpS_pure (h r a2 a4 a5)
   case step2 =>
    rintro x ⟨c0,l,r⟩ st' _ hx ⟨rfl,e0,a1,a2,a3,a4,a5⟩
    cases e0
    dsimp only at a1 a2 a3 a4 a5 ⊢
    by_cases hge:l ≥ r
    ·rw[if_pos hge]
     have e:l=r:=by omega
     subst e
     exact wpS_pure ⟨rfl,rfl,rfl,a2,a4,a5⟩
    ·rw[if_neg hge]
     refine wpS_bind (hb _ (by omega) _ ?_)
     cases hm:B (l+(r - l) / 2) with
     | true =>
      simp only[if_true]
      exact wpS_pure ⟨rfl,rfl,by show l+(r - l) / 2+1≤r; omega,a2,by show r - (l+(r - l) / 2+1)≤n - (x+1); omega,fun i hi=>mono i _ (by have:i < l+(r - l) / 2+1:=hi; omega) (by omega) hm,a5⟩
     | false =>
      simp only[Bool.false_eq_true,if_false]
      exact wpS_pure ⟨rfl,rfl,by show l≤l+(r - l) / 2; omega,by show l+(r - l) / 2≤n; omega,by show l+(r - l) / 2 - l≤n - (x+1); omega,a4,fun i hi hn'=>anti _ i hi hn' hm⟩
  case step =>
   rintro x ⟨c0,l,o⟩ st' _ hx ⟨rfl,e0,a1,a2,a3,a4⟩
   cases e0
   dsimp only at a1 a2 a3 a4 ⊢
   by_cases hge:o ≥ n - hint
   ·rw[if_pos hge]
    exact wpS_pure ⟨rfl,rfl,a2,a3,a4,.inl hge⟩
   ·rw[if_neg hge]
    refine wpS_bind (hb _ (by omega) _ ?_)
    cases hm:B (hint+o) with
    | true=>exact wpS_pure ⟨rfl,rfl,by show x+1+1≤2 * o+1; omega,by show o < 2 * o+1; omega,by show hint+o < n; omega,hm⟩
    | false=>exact wpS_pure ⟨rfl,rfl,a2,a3,a4,.inr hm⟩
 | false =>
  refine wpS_bind (wpS_mono (wpS_forRange (I:=fun x c st'=>st'=st∧c.1=none∧x+1≤c.2.2∧c.2.1 < c.2.2∧c.2.1≤hint∧B (hint - c.2.1)=false)
   (Q:=fun c st'=>st'=st∧c.1=none∧c.2.1 < c.2.2∧c.2.1≤hint∧B (hint - c.2.1)=false∧(hint+1≤c.2.2∨B (hint - c.2.2)=true)) ?step ?fin ⟨rfl,rfl,by show 0+1≤1; omega,by show 0 < 1; omega,by show 0≤hint; omega,by show B (hint - 0)=false; exact hr⟩) ?post)
  case fin =>
   rintro⟨c0,l,o⟩ st' ⟨rfl,e0,a1,a2,a3,a4⟩
   exact⟨rfl,e0,a2,a3,a4,.inl (by have:max 0 n+1≤o:=a1; show hint+1≤o; omega)⟩
  case post =>
   rintro⟨c0,l,o⟩ st' ⟨rfl,e0,a2,a3,a4,a5⟩
   cases e0
   dsimp only at a2 a3 a4 a5 ⊢
   have h1:hint+1 - min o (hint+1)≤hint - l:=by omega
   have h2:hint - l≤n:=by omega
   have h3:∀i,i < hint+1 - min o (hint+1)→B i=true:=fun i hi=>by
    rcases a5 with a5 | a5
    ·omega
    ·by_cases hm:o≤hint
     ·exact mono i _ (by omega) (by omega) a5
     ·omega
   have h4:∀i,hint - l≤i→i < n→B i=false:=fun i hi hn'=>anti _ i (by omega) hn' a4
   generalize hint+1 - min o (hint+1)=lo at h1 h3 ⊢
   generalize hint - l=hi at h1 h2 h4 ⊢
   refine wpS_bind (wpS_mono (wpS_forRange (I:=fun x c st''=>st''=st'∧c.1=none∧c.2.1≤c.2.2∧c.2.2≤n∧c.2.2 - c.2.1≤n - x∧(∀i,i < c.2.1→B i=true)∧(∀i,c.2.2≤i→i < n→B i=false))
    (Q:=fun c st''=>st''=st'∧c.1=none∧c.2.1=c.2.2∧c.2.2≤n∧(∀i,i < c.2.2→B i=true)∧(∀i,c.2.2≤i→i < n→B i=false)) ?step2 ?fin2 ⟨rfl,rfl,h1,h2,(by show hi - lo≤n - 0; omega),h3,h4⟩) ?post2)
   case fin2 =>
    rintro⟨c0,l,r⟩ st' ⟨rfl,e0,a1,a2,a3,a4,a5⟩
    have a3':r - l≤n - max 0 n:=a3
    have e:l=r:=by
     have:l≤r:=a1
     omega
    exact⟨rfl,e0,e,a2,by rw[e] at a4; exact a4,a5⟩
   case post2 =>
    rintro⟨c0,l,r⟩ st' ⟨rfl,e0,a1,a2,a4,a5⟩
    cases e0
    exact wpS_pure (h r a2 a4 a5)
   case step2 =>
    rintro x ⟨c0,l,r⟩ st' _ hx ⟨rfl,e0,a1,a2,a3,a4,a5⟩
    cases e0
    dsimp only at a1 a2 a3 a4 a5 ⊢
    by_cases hge:l ≥ r
    ·rw[if_pos hge]
     have e:l=r:=by omega
     subst e
     exact wpS_pure ⟨rfl,rfl,rfl,a2,a4,a5⟩
    ·rw[if_neg hge]
     refine wpS_bind (hb _ (by omega) _ ?_)
     cases hm:B (l+(r - l) / 2) with
     | true =>
      simp only[if_true]
      exact wpS_pure ⟨rfl,rfl,by show l+(r - l) / 2+1≤r; omega,a2,by show r - (l+(r - l) / 2+1)≤n - (x+1); omega,fun i hi=>mono i _ (by have:i < l+(r - l) / 2+1:=hi; omega) (by omega) hm,a5⟩
     | false =>
      simp only[Bool.false_eq_true,if_false]
      exact wpS_pure ⟨rfl,rfl,by show l≤l+(r - l) / 2; omega,by show l+(r - l) / 2≤n; omega,by show l+(r - l) / 2 - l≤n - (x+1); omega,a4,fun i hi hn'=>anti _ i hi hn' hm⟩
  case step =>
   rintro x ⟨c0,l,o⟩ st' _ hx ⟨rfl,e0,a1,a2,a3,a4⟩
   cases e0
   dsimp only at a1 a2 a3 a4 ⊢
   by_cases hge:o ≥ hint+1
   ·rw[if_pos hge]
    exact wpS_pure ⟨rfl,rfl,a2,a3,a4,.inl hge⟩
   ·rw[if_neg hge]
    refine wpS_bind (hb _ (by omega) _ ?_)
    cases hm:B (hint - o) with
    | true=>exact wpS_pure ⟨rfl,rfl,a2,a3,a4,.inr hm⟩
    | false=>exact wpS_pure ⟨rfl,rfl,by show x+1+1≤2 * o+1; omega,by show o < 2 * o+1; omega,by show o≤hint; omega,hm⟩
end
end SG
end
section
set_option maxRecDepth 100000
set_option maxHeartbeats 1000000
namespace SG
open PySem PyProof.Rows
def kl (κ : KeyKind) (x y:Keyed):Prop:=κ.kle (kf κ x) (kf κ y)
theorem kl.trans {κ : KeyKind}{x y z:Keyed} (a:kl κ x y) (b:kl κ y z):kl κ x z:=KeyOrd.kle_trans a b
structure MI (κ : KeyKind) (A B out ra rb:List Keyed):Prop where
 perm:(out++(ra++rb)).Perm (A++B)
 so:out.Pairwise (kl κ)
 sa:ra.Pairwise (kl κ)
 sb:rb.Pairwise (kl κ)
 le:∀x∈out,∀y∈ra++rb,kl κ x y
def Fin (κ : KeyKind) (A B r:List Keyed):Prop:=r.Perm (A++B)∧r.Pairwise (kl κ)
section
variable {κ : KeyKind}{A B out ra rb:List Keyed}
theorem pw_head {l:List Keyed}{p:Keyed} (h:l.Pairwise (kl κ)) (e:l[0]?=some p):∀y∈l,kl κ p y:=fun y hy=>by
 cases l with
 | nil=>cases e
 | cons a r =>
  cases e
  rcases List.mem_cons.mp hy with rfl | hy
  ·exact KeyOrd.kle_refl _
  ·exact (List.pairwise_cons.mp h).1 y hy
theorem MI.takeA (h:MI κ A B out ra rb) (k:Nat) (hk:∀x∈ra.take k,∀y∈rb,kl κ x y):MI κ A B (out++ra.take k) (ra.drop k) rb:=by
 have e:ra=ra.take k++ra.drop k:=(List.take_append_drop k ra).symm
 have sa:=h.sa
 rw[e] at sa
 obtain⟨s1,s2,s3⟩:=List.pairwise_append.mp sa
 refine⟨?_,List.pairwise_append.mpr ⟨h.so,s1,fun x hx y hy=>h.le x hx y (List.mem_append_left _ (List.mem_of_mem_take hy))⟩,s2,h.sb,fun x hx y hy=>?_⟩
 ·rw[List.append_assoc,← List.append_assoc (ra.take k),List.take_append_drop]; exact h.perm
 ·rcases List.mem_append.mp hx with hx | hx
  ·rcases List.mem_append.mp hy with hy | hy
   ·exact h.le x hx y (List.mem_append_left _ (List.mem_of_mem_drop hy))
   ·exact h.le x hx y (List.mem_append_right _ hy)
  ·rcases List.mem_append.mp hy with hy | hy
   ·exact s3 x hx y hy
   ·exact hk x hx y hy
theorem MI.takeB (h:MI κ A B out ra rb) (k:Nat) (hk:∀x∈rb.take k,∀y∈ra,kl κ x y):MI κ A B (out++rb.take k) ra (rb.drop k):=by
 have e:rb=rb.take k++rb.drop k:=(List.take_append_drop k rb).symm
 have sb:=h.sb
 rw[e] at sb
 obtain⟨s1,s2,s3⟩:=List.pairwise_append.mp sb
 refine⟨?_,List.pairwise_append.mpr ⟨h.so,s1,fun x hx y hy=>h.le x hx y (List.mem_append_right _ (List.mem_of_mem_take hy))⟩,h.sa,s2,fun x hx y hy=>?_⟩
 ·refine List.Perm.trans ?_ h.perm
  rw[List.append_assoc]
  refine List.Perm.append_left _ ?_
  rw[← List.append_assoc]
  refine (List.perm_append_comm.append_right _).trans ?_
  rw[List.append_assoc,List.take_append_drop]
 ·rcases List.mem_append.mp hx with hx | hx
  ·rcases List.mem_append.mp hy with hy | hy
   ·exact h.le x hx y (List.mem_append_left _ hy)
   ·exact h.le x hx y (List.mem_append_right _ (List.mem_of_mem_drop hy))
  ·rcases List.mem_append.mp hy with hy | hy
   ·exact hk x hx y hy
   ·exact s3 x hx y hy
theorem MI.last (h:MI κ A B out ra rb) (hk:∀x∈rb,∀y∈ra,kl κ x y):Fin κ A B (out++rb++ra):=by
 refine⟨?_,List.pairwise_append.mpr ⟨List.pairwise_append.mpr ⟨h.so,h.sb,fun x hx y hy=>h.le x hx y (List.mem_append_right _ hy)⟩,h.sa,fun x hx y hy=>?_⟩⟩
 ·rw[List.append_assoc]
  exact (List.perm_append_comm.append_left _).trans h.perm
 ·rcases List.mem_append.mp hx with hx | hx
  ·exact h.le x hx y (List.mem_append_left _ hy)
  ·exact hk x hx y hy
theorem MI.done (h:MI κ A B out ra rb) (hk:∀x∈ra,∀y∈rb,kl κ x y):Fin κ A B (out++ra++rb):=by
 refine⟨by rw[List.append_assoc]; exact h.perm,List.pairwise_append.mpr ⟨List.pairwise_append.mpr ⟨h.so,h.sa,fun x hx y hy=>h.le x hx y (List.mem_append_left _ hy)⟩,h.sb,fun x hx y hy=>?_⟩⟩
 rcases List.mem_append.mp hx with hx | hx
 ·exact h.le x hx y (List.mem_append_right _ hy)
 ·exact hk x hx y hy
end
section
variable {α : Type}
theorem ex_full (a:Array α) (i:Nat):(a.extract i a.size).toList=a.toList.drop i:=by
 rw[Array.toList_extract]
 show (a.toList.drop i).take (a.size - i)=_
 exact List.take_of_length_le (by rw[List.length_drop,Array.length_toList]; exact Nat.le_refl _)
theorem ex_take (a:Array α) (i k:Nat):(a.extract i (i+k)).toList=(a.toList.drop i).take k:=by
 rw[Array.toList_extract]
 show (a.toList.drop i).take (i+k - i)=_
 rw[Nat.add_sub_cancel_left]
theorem drop_at {l:List α}{i:Nat}{p : α} (e:l[i]?=some p):(l.drop i).take 1=[p]:=by
 have hi:=(List.getElem?_eq_some_iff.mp e).1
 rw[List.drop_eq_getElem_cons hi,List.take_succ_cons,List.take_zero]
 exact congrArg (fun x=>[x]) (List.getElem?_eq_some_iff.mp e).2
theorem drop_zero {l:List α}{i:Nat}:(l.drop i)[0]?=l[i]?:=by rw[List.getElem?_drop,Nat.add_zero]
end
section
variable {prog:Program}{w:World}{A:Around}{E:Value→Shared→Prop}{s:Shared}{κ : KeyKind}{st:SortSt}
theorem wpS_ite {α : Type}{c:Prop} [Decidable c] {m n:StateT SortSt Sem α}{Q : α→SortSt→Prop} (h1:c→wpS (model prog w) A E s m Q st) (h2:¬ c→wpS (model prog w) A E s n Q st):wpS (model prog w) A E s (if c then m else n) Q st:=by
 by_cases h:c
 ·rw[if_pos h]; exact h1 h
 ·rw[if_neg h]; exact h2 h
structure SameG (st st':SortSt):Prop where
 kind:kindOf st'=kindOf st
 arr:arrOf st'=arrOf st
 pend:pendingOf st'=pendingOf st
 fail:failedOf st'=failedOf st
theorem SameG.refl (st:SortSt):SameG st st:=⟨rfl,rfl,rfl,rfl⟩
theorem SameG.trans {a b c:SortSt} (h:SameG a b) (g:SameG b c):SameG a c:=⟨g.kind.trans h.kind,g.arr.trans h.arr,g.pend.trans h.pend,g.fail.trans h.fail⟩
theorem SameG.set (st:SortSt) (g:Nat):SameG st (SortSt.mk' (kindOf st) (arrOf st) (pendingOf st) g (failedOf st)):=⟨rfl,rfl,rfl,rfl⟩
theorem wpS_setG {g:Nat}{Q:Unit→SortSt→Prop} (h:∀st',SameG st st'→Q () st'):wpS (model prog w) A E s ((sortPriv% PySem.Builtin.setMinGallop) g) Q st:=wpS_modify (h _ (SameG.set st g))
def mergeLoP:Array Keyed→Array Keyed→StateT SortSt Sem (Array Keyed):=sortPriv% PySem.Builtin.mergeLo
theorem wpS_mergeLo {a b:Array Keyed}{Q:Array Keyed→SortSt→Prop} (hO : κ.OneLt) (hk:kindOf st=oneType') (ka:∀p∈a.toList,Has κ p) (kb:∀p∈b.toList,Has κ p) (sa:a.toList.Pairwise (kl κ)) (sb:b.toList.Pairwise (kl κ))
  (na:1≤a.size) (nb:1≤b.size) (h0:∀y∈a.toList,∀p,b[0]?=some p→kl κ p y) (hl:∀x∈b.toList,∀p,a[a.size - 1]?=some p→kl κ x p)
  (h:∀r st',SameG st st'→Fin κ a.toList b.toList r.toList→Q r st'):wpS (model prog w) A E s (mergeLoP a b) Q st:=by
 have ea:∀i,i < a.size→∃p,a[i]?=some p∧a.toList[i]?=some p∧Has κ p:=fun i hi=>by
  have e:a.toList[i]?=some a[i]:=by rw[Array.getElem?_toList]; exact Array.getElem?_eq_getElem hi
  exact⟨a[i],Array.getElem?_eq_getElem hi,e,ka _ (List.mem_of_getElem? e)⟩
 have eb:∀i,i < b.size→∃p,b[i]?=some p∧b.toList[i]?=some p∧Has κ p:=fun i hi=>by
  have e:b.toList[i]?=some b[i]:=by rw[Array.getElem?_toList]; exact Array.getElem?_eq_getElem hi
  exact⟨b[i],Array.getElem?_eq_getElem hi,e,kb _ (List.mem_of_getElem? e)⟩
 have last1:∀{ia:Nat},ia+1=a.size→∀x∈b.toList,∀y∈a.toList.drop ia,kl κ x y:=fun {ia} hi x hx y hy=>by
  obtain⟨p,e1,e2,_⟩:=ea ia (by omega)
  have hd:a.toList.drop ia=[p]:=by
   rw[← drop_at e2,List.take_of_length_le (by rw[List.length_drop,Array.length_toList]; omega)]
  rw[hd] at hy
  rw[List.mem_singleton.mp hy]
  exact hl x hx p (by rw[show a.size - 1=ia by omega]; exact e1)
 have finL:∀{out:Array Keyed}{ia ib:Nat},MI κ a.toList b.toList out.toList (a.toList.drop ia) (b.toList.drop ib)→ia+1=a.size→Fin κ a.toList b.toList (out++b.extract ib b.size++a.extract ia a.size).toList:=fun {out ia ib} m hi=>by
  rw[Array.toList_append,Array.toList_append,ex_full,ex_full]
  exact m.last fun x hx y hy=>last1 hi x (List.mem_of_mem_drop hx) y hy
 have finD:∀{out:Array Keyed}{ia ib:Nat},MI κ a.toList b.toList out.toList (a.toList.drop ia) (b.toList.drop ib)→ib=b.size→Fin κ a.toList b.toList (out++a.extract ia a.size++b.extract ib b.size).toList:=fun {out ia ib} m hi=>by
  rw[Array.toList_append,Array.toList_append,ex_full,ex_full]
  refine m.done fun x hx y hy=>?_
  rw[List.drop_of_length_le (by rw[Array.length_toList]; omega)] at hy
  cases hy
 have goA:∀{out:Array Keyed}{ia ib k:Nat}{q:Keyed},MI κ a.toList b.toList out.toList (a.toList.drop ia) (b.toList.drop ib)→b.toList[ib]?=some q→(∀i x,i < k→a.toList[ia+i]?=some x→kl κ x q)→MI κ a.toList b.toList (out.toList++(a.toList.drop ia).take k) (a.toList.drop (ia+k)) (b.toList.drop ib):=fun {out ia ib k q} m eq hk=>by
  have:=m.takeA k fun x hx y hy=>by
   obtain⟨i,hi,e⟩:=List.mem_iff_getElem.mp hx
   rw[List.length_take] at hi
   have e':a.toList[ia+i]?=some x:=by
    rw[← List.getElem?_drop,← e,List.getElem_take]
    exact List.getElem?_eq_getElem (by omega)
   exact (hk i x (by omega) e').trans (pw_head m.sb (drop_zero.trans eq) y hy)
  rwa [List.drop_drop] at this
 have goB:∀{out:Array Keyed}{ia ib k:Nat}{q:Keyed},MI κ a.toList b.toList out.toList (a.toList.drop ia) (b.toList.drop ib)→a.toList[ia]?=some q→(∀i x,i < k→b.toList[ib+i]?=some x→kl κ x q)→MI κ a.toList b.toList (out.toList++(b.toList.drop ib).take k) (a.toList.drop ia) (b.toList.drop (ib+k)):=fun {out ia ib k q} m eq hk=>by
  have:=m.takeB k fun x hx y hy=>by
   obtain⟨i,hi,e⟩:=List.mem_iff_getElem.mp hx
   rw[List.length_take] at hi
   have e':b.toList[ib+i]?=some x:=by
    rw[← List.getElem?_drop,← e,List.getElem_take]
    exact List.getElem?_eq_getElem (by omega)
   exact (hk i x (by omega) e').trans (pw_head m.sa (drop_zero.trans eq) y hy)
  rwa [List.drop_drop] at this
 have pushA:∀{out:Array Keyed}{ia ib:Nat}{p q:Keyed},MI κ a.toList b.toList out.toList (a.toList.drop ia) (b.toList.drop ib)→a.toList[ia]?=some p→b.toList[ib]?=some q→kl κ p q→MI κ a.toList b.toList (out.push p).toList (a.toList.drop (ia+1)) (b.toList.drop ib):=fun {out ia ib p q} m ep eq hk=>by
  have:=goA (k:=1) m eq fun i x hi e=>by
   have:i=0:=by omega
   subst this
   rw[Nat.add_zero,ep] at e; cases e; exact hk
  rwa [drop_at ep,← Array.toList_push] at this
 have pushB:∀{out:Array Keyed}{ia ib:Nat}{p q:Keyed},MI κ a.toList b.toList out.toList (a.toList.drop ia) (b.toList.drop ib)→a.toList[ia]?=some p→b.toList[ib]?=some q→kl κ q p→MI κ a.toList b.toList (out.push q).toList (a.toList.drop ia) (b.toList.drop (ib+1)):=fun {out ia ib p q} m ep eq hk=>by
  have:=goB (k:=1) m ep fun i x hi e=>by
   have:i=0:=by omega
   subst this
   rw[Nat.add_zero,eq] at e; cases e; exact hk
  rwa [drop_at eq,← Array.toList_push] at this
 refine wpS_bind (wpS_lift (wpAny_rule ⟨rfl,?_⟩))
 obtain⟨q0,f1,f2,f3⟩:=eb 0 (by omega)
 refine wpS_bind (wpS_elemP f1 ?_)
 have m0:MI κ a.toList b.toList (#[q0]:Array Keyed).toList (a.toList.drop 0) (b.toList.drop 1):=by
  have start:MI κ a.toList b.toList (#[]:Array Keyed).toList (a.toList.drop 0) (b.toList.drop 0):=⟨.refl _,.nil,sa,sb,fun x hx=>by cases hx⟩
  have:=start.takeB 1 fun x hx y hy=>by
   have:(b.toList.drop 0).take 1=[q0]:=drop_at f2
   rw[this] at hx
   rw[List.mem_singleton.mp hx]
   exact h0 y hy q0 f1
  rw[drop_at f2,List.drop_drop] at this
  exact this
 refine wpS_ite (fun e=>wpS_pure (h _ st (.refl st) (finD m0 (by simpa using e)))) fun e1=>wpS_ite (fun e=>wpS_pure (h _ st (.refl st) (finL m0 (by simpa using e)))) fun e2=>?_
 have hb1:1 < b.size:=by
  have:¬ 1=b.size:=by simpa using e1
  omega
 have ha1:0+1 < a.size:=by
  have:¬ 0+1=a.size:=by simpa using e2
  omega
 refine wpS_bind (wpS_get ?_)
 refine wpS_bind (wpS_mono (wpS_forRange (I:=fun x c st'=>SameG st st'∧c.1=none∧MI κ a.toList b.toList c.2.1.toList (a.toList.drop c.2.2.1) (b.toList.drop c.2.2.2.1)∧c.2.2.1+1 < a.size∧c.2.2.2.1 < b.size∧x < c.2.2.1+c.2.2.2.1)
  (Q:=fun c st'=>SameG st st'∧∃r,c.1=some r∧Fin κ a.toList b.toList r.toList) ?step ?fin ⟨.refl st,rfl,m0,ha1,hb1,by show 0 < 0+1; omega⟩) ?post)
 case fin =>
  rintro⟨c0,out,ia,ib,mg⟩ st' ⟨_,_,_,a1,a2,a3⟩
  exfalso
  have a1':ia+1 < a.size:=a1
  have a2':ib < b.size:=a2
  have a3':max 0 (a.size+b.size) < ia+ib:=a3
  omega
 case post =>
  rintro⟨c0,out,ia,ib,mg⟩ st' ⟨g,r,e,f⟩
  cases e
  exact wpS_pure (h r st' g f)
 case step =>
  rintro x ⟨c0,out,ia,ib,mg⟩ st1 _ hx ⟨g1,e0,m1,a1,a2,a3⟩
  cases e0
  dsimp only at m1 a1 a2 a3
  refine wpS_bind (wpS_mono (wpS_forRange (I:=fun y c st'=>SameG st st'∧c.1=none∧MI κ a.toList b.toList c.2.1.toList (a.toList.drop c.2.2.1) (b.toList.drop c.2.2.2.1)∧c.2.2.1+1 < a.size∧c.2.2.2.1 < b.size∧x+y < c.2.2.1+c.2.2.2.1)
   (Q:=fun c st'=>SameG st st'∧((∃r,c.1=some r∧Fin κ a.toList b.toList r.toList)∨(c.1=none∧MI κ a.toList b.toList c.2.1.toList (a.toList.drop c.2.2.1) (b.toList.drop c.2.2.2.1)∧c.2.2.1+1 < a.size∧c.2.2.2.1 < b.size∧x < c.2.2.1+c.2.2.2.1))) ?stepA ?finA ⟨g1,rfl,m1,a1,a2,by show x+0 < ia+ib; omega⟩) ?postA)
  case finA =>
   rintro⟨c0,out,ia,ib,ac,bc⟩ st' ⟨_,_,_,a1,a2,a3⟩
   exfalso
   have a1':ia+1 < a.size:=a1
   have a2':ib < b.size:=a2
   have a3':x+max 0 (a.size+b.size) < ia+ib:=a3
   omega
  case stepA =>
   rintro y ⟨c0,out,ia,ib,ac,bc⟩ st2 _ hy ⟨g2,e0,m2,a1,a2,a3⟩
   cases e0
   dsimp only at m2 a1 a2 a3
   obtain⟨q,q1,q2,q3⟩:=eb ib a2
   obtain⟨p,p1,p2,p3⟩:=ea ia (by omega)
   refine wpS_bind (wpS_elemP q1 (wpS_bind (wpS_elemP p1 (wpS_bind (wpS_ltP hO (g2.kind.trans hk) q3 p3 ?_)))))
   cases hlt : κ.blt (kf κ q) (kf κ p) with
   | true =>
    refine wpS_bind (wpS_elemP q1 ?_)
    have m3:=pushB m2 p2 q2 (KeyOrd.kle_of_klt hlt)
    refine wpS_ite (fun e=>wpS_pure ⟨g2,.inl ⟨_,rfl,finD m3 (by simpa using e)⟩⟩) fun e=>?_
    have e':ib+1 < b.size:=by
     have:¬ ib+1=b.size:=by simpa using e
     omega
    exact wpS_ite (fun _=>wpS_pure ⟨g2,.inr ⟨rfl,m3,a1,e',by show x < ia+(ib+1); omega⟩⟩) fun _=>wpS_pure ⟨g2,rfl,m3,a1,e',by show x+(y+1) < ia+(ib+1); omega⟩
   | false =>
    refine wpS_bind (wpS_elemP p1 ?_)
    have m3:=pushA m2 p2 q2 hlt
    refine wpS_ite (fun e=>wpS_pure ⟨g2,.inl ⟨_,rfl,finL m3 (by simpa using e)⟩⟩) fun e=>?_
    have e':ia+1+1 < a.size:=by
     have:¬ ia+1+1=a.size:=by simpa using e
     omega
    exact wpS_ite (fun _=>wpS_pure ⟨g2,.inr ⟨rfl,m3,e',a2,by show x < ia+1+ib; omega⟩⟩) fun _=>wpS_pure ⟨g2,rfl,m3,e',a2,by show x+(y+1) < ia+1+ib; omega⟩
  case postA =>
   rintro⟨c0,out,ia,ib,ac,bc⟩ st2 ⟨g2,z⟩
   rcases z with ⟨r,e,f⟩ | ⟨e0,m2,a1,a2,a3⟩
   ·cases e
    exact wpS_pure ⟨g2,r,rfl,f⟩
   cases e0
   dsimp only at m2 a1 a2 a3
   refine wpS_bind (wpS_lift (wpAny_rule ⟨rfl,?_⟩))
   refine wpS_bind (wpS_mono (wpS_forRange (I:=fun y c st'=>SameG st st'∧c.1=none∧MI κ a.toList b.toList c.2.1.toList (a.toList.drop c.2.2.1) (b.toList.drop c.2.2.2.1)∧c.2.2.1+1 < a.size∧c.2.2.2.1 < b.size∧x+y < c.2.2.1+c.2.2.2.1)
    (Q:=fun c st'=>SameG st st'∧((∃r,c.1=some r∧Fin κ a.toList b.toList r.toList)∨(c.1=none∧MI κ a.toList b.toList c.2.1.toList (a.toList.drop c.2.2.1) (b.toList.drop c.2.2.2.1)∧c.2.2.1+1 < a.size∧c.2.2.2.1 < b.size∧x+1 < c.2.2.1+c.2.2.2.1))) ?stepB ?finB ⟨g2,rfl,m2,a1,a2,by show x+0 < ia+ib; omega⟩) ?postB)
   case finB =>
    rintro⟨c0,out,ia,ib,mg',ac,bc⟩ st' ⟨_,_,_,a1,a2,a3⟩
    exfalso
    have a1':ia+1 < a.size:=a1
    have a2':ib < b.size:=a2
    have a3':x+max 0 (a.size+b.size) < ia+ib:=a3
    omega
   case postB =>
    rintro⟨c0,out,ia,ib,mg',ac,bc⟩ st3 ⟨g3,z⟩
    rcases z with ⟨r,e,f⟩ | ⟨e0,m3,a1,a2,a3⟩
    ·cases e
     exact wpS_pure ⟨g3,r,rfl,f⟩
    cases e0
    exact wpS_bind (wpS_modify (wpS_pure ⟨g3.trans (SameG.set st3 _),rfl,m3,a1,a2,a3⟩))
   case stepB =>
    rintro y ⟨c0,out,ia,ib,mg',ac,bc⟩ st3 _ hy ⟨g3,e0,m3,a1,a2,a3⟩
    cases e0
    dsimp only at m3 a1 a2 a3
    obtain⟨q,q1,q2,q3⟩:=eb ib a2
    refine wpS_ite (fun _=>?_) fun _=>?_
    all_goals (
     refine wpS_bind (wpS_setG fun st4 g4'=>?_)
     have g4:=g3.trans g4'
     refine wpS_bind (wpS_elemP q1 (wpS_bind (wpS_gallop (κ:=κ) (base:=ia) (n:=a.size - ia) (hint:=0) hO (g4.kind.trans hk) q3 (fun i=>(a[ia+i]?).getD q) (fun i hi=>?_) (by omega) (fun i=>!κ.blt (kf κ q) (kf κ ((a[ia+i]?).getD q))) (fun i=>rfl) (fun i j hij hj hB=>?_) fun k hkn hk1 hk2=>?_)))
     ·obtain⟨p,p1,p2,p3⟩:=ea (ia+i) (by omega)
      rw[p1]; exact⟨rfl,p3⟩
     ·obtain⟨p,p1,p2,p3⟩:=ea (ia+i) (by omega)
      obtain⟨r,r1,r2,r3⟩:=ea (ia+j) (by omega)
      rw[r1] at hB
      rw[p1]
      have hr:kl κ r q:=by
       show κ.blt (kf κ q) (kf κ r)=false
       simpa using hB
      have hp:kl κ p r:=by
       by_cases e:i=j
       ·subst e; rw[p1] at r1; cases r1; exact KeyOrd.kle_refl _
       ·have h1:=List.pairwise_iff_getElem.mp sa (ia+i) (ia+j) (by rw[Array.length_toList]; omega) (by rw[Array.length_toList]; omega) (by omega)
        rw[(List.getElem?_eq_some_iff.mp p2).2,(List.getElem?_eq_some_iff.mp r2).2] at h1
        exact h1
      have:=hp.trans hr
      show (!κ.blt (kf κ q) (kf κ p))=true
      have h2 : κ.blt (kf κ q) (kf κ p)=false:=this
      rw[h2]; rfl
     have hkA:∀i x,i < k→a.toList[ia+i]?=some x→kl κ x q:=fun i x hi e=>by
      have:=hk1 i hi
      rw[← Array.getElem?_toList,e] at this
      show κ.blt (kf κ q) (kf κ x)=false
      simpa using this
     have mA:=goA m3 q2 hkA
     have hq:∀p,a.toList[ia+k]?=some p→kl κ q p:=fun p e=>by
      have hi:=(List.getElem?_eq_some_iff.mp e).1
      rw[Array.length_toList] at hi
      have:=hk2 k (Nat.le_refl _) (by omega)
      rw[← Array.getElem?_toList,e] at this
      exact KeyOrd.kle_of_klt (show κ.blt (kf κ q) (kf κ p)=true by simpa using this)
     apply wpS_ite
     case' h1 =>
      intro hk0
      rw[← ex_take,← Array.toList_append] at mA
      refine wpS_ite (fun e=>wpS_pure ⟨g4,.inl ⟨_,rfl,finL mA (by simpa using e)⟩⟩) fun e=>wpS_ite (fun e2=>wpS_pure ⟨g4,.inl ⟨_,rfl,?_⟩⟩) fun e2=>?_
      have e2':ia+k=a.size:=by simpa using e2
      ·rw[Array.toList_append,Array.toList_append,ex_full,ex_full]
       refine mA.done fun x hx y hy=>?_
       rw[List.drop_of_length_le (by rw[Array.length_toList]; omega)] at hx
       cases hx
      have hi2:ia+k+1 < a.size:=by
       have:¬ ia+k+1=a.size:=by simpa using e
       have:¬ ia+k=a.size:=by simpa using e2
       omega
      have hs2:x+y < ia+k+ib:=by omega
      generalize out++a.extract ia (ia+k)=o2 at mA ⊢
      generalize ia+k=i2 at mA hi2 hs2 hq ⊢
     case' h2 =>
      intro hk0
      have k0:k=0:=by omega
      subst k0
      rw[List.take_zero,List.append_nil,Nat.add_zero] at mA
      rw[Nat.add_zero] at hq
      have hi2:ia+1 < a.size:=a1
      have hs2:x+y < ia+ib:=a3
      generalize out=o2 at mA ⊢
      generalize ia=i2 at mA hi2 hs2 hq ⊢
     all_goals (
      obtain⟨p,p1,p2,p3⟩:=ea i2 (by omega)
      refine wpS_bind (wpS_elemP q1 ?_)
      have mB:=pushB mA p2 q2 (hq p p2)
      refine wpS_ite (fun e=>wpS_pure ⟨g4,.inl ⟨_,rfl,finD mB (by simpa using e)⟩⟩) fun e=>?_
      have e':ib+1 < b.size:=by
       have:¬ ib+1=b.size:=by simpa using e
       omega
      refine wpS_bind (wpS_elemP p1 (wpS_bind (wpS_gallop (κ:=κ) (base:=ib+1) (n:=b.size - (ib+1)) (hint:=0) hO (g4.kind.trans hk) p3 (fun i=>(b[ib+1+i]?).getD p) (fun i hi=>?_) (by omega) (fun i=>κ.blt (kf κ ((b[ib+1+i]?).getD p)) (kf κ p)) (fun i=>rfl) (fun i j hij hj hB=>?_) fun k2 hkn2 hj1 hj2=>?_)))
      ·obtain⟨r,r1,r2,r3⟩:=eb (ib+1+i) (by omega)
       rw[r1]; exact⟨rfl,r3⟩
      ·obtain⟨u,u1,u2,u3⟩:=eb (ib+1+i) (by omega)
       obtain⟨r,r1,r2,r3⟩:=eb (ib+1+j) (by omega)
       rw[r1] at hB
       rw[u1]
       have hp:kl κ u r:=by
        by_cases e:i=j
        ·subst e; rw[u1] at r1; cases r1; exact KeyOrd.kle_refl _
        ·have h1:=List.pairwise_iff_getElem.mp sb (ib+1+i) (ib+1+j) (by rw[Array.length_toList]; omega) (by rw[Array.length_toList]; omega) (by omega)
         rw[(List.getElem?_eq_some_iff.mp u2).2,(List.getElem?_eq_some_iff.mp r2).2] at h1
         exact h1
       exact KeyOrd.klt_of_kle_of_klt hp hB
      have hkB:∀i x,i < k2→b.toList[ib+1+i]?=some x→kl κ x p:=fun i x hi e=>by
       have:=hj1 i hi
       rw[← Array.getElem?_toList,e] at this
       exact KeyOrd.kle_of_klt this
      have mC:=goB mB p2 hkB
      have hp:∀r,b.toList[ib+1+k2]?=some r→kl κ p r:=fun r e=>by
       have hi:=(List.getElem?_eq_some_iff.mp e).1
       rw[Array.length_toList] at hi
       have:=hj2 k2 (Nat.le_refl _) (by omega)
       rw[← Array.getElem?_toList,e] at this
       exact this
      apply wpS_ite
      case' h1 =>
       intro hk0
       rw[← ex_take,← Array.toList_append] at mC
       refine wpS_ite (fun e=>wpS_pure ⟨g4,.inl ⟨_,rfl,finD mC (by simpa using e)⟩⟩) fun e=>?_
       have hj:ib+1+k2 < b.size:=by
        have:¬ ib+1+k2=b.size:=by simpa using e
        omega
       have hs3:x+y+1 < i2+(ib+1+k2):=by omega
       generalize o2.push q++b.extract (ib+1) (ib+1+k2)=o3 at mC ⊢
       generalize ib+1+k2=j2 at mC hj hs3 hp ⊢
      case' h2 =>
       intro hk0
       have k0:k2=0:=by omega
       subst k0
       rw[List.take_zero,List.append_nil,Nat.add_zero] at mC
       rw[Nat.add_zero] at hp
       have hj:ib+1 < b.size:=e'
       have hs3:x+y+1 < i2+(ib+1):=by omega
       generalize o2.push q=o3 at mC ⊢
       generalize ib+1=j2 at mC hj hs3 hp ⊢
      all_goals (
       obtain⟨r,r1,r2,r3⟩:=eb j2 hj
       refine wpS_bind (wpS_elemP p1 ?_)
       have mD:=pushA mC p2 r2 (hp r r2)
       refine wpS_ite (fun e=>wpS_pure ⟨g4,.inl ⟨_,rfl,finL mD (by simpa using e)⟩⟩) fun e=>?_
       have e3:i2+1+1 < a.size:=by
        have:¬ i2+1+1=a.size:=by simpa using e
        omega
       exact wpS_ite (fun _=>wpS_pure ⟨g4,.inr ⟨rfl,mD,e3,hj,by show x+1 < i2+1+j2; omega⟩⟩) fun _=>wpS_pure ⟨g4,rfl,mD,e3,hj,by show x+(y+1) < i2+1+j2; omega⟩)))
end
end SG
end
section
set_option maxRecDepth 100000
set_option maxHeartbeats 1000000
namespace SG
open PySem PyProof.Rows
structure MH (κ : KeyKind) (A B ra rb suf:List Keyed):Prop where
 perm:(ra++rb++suf).Perm (A++B)
 so:suf.Pairwise (kl κ)
 sa:ra.Pairwise (kl κ)
 sb:rb.Pairwise (kl κ)
 le:∀x∈ra++rb,∀y∈suf,kl κ x y
section
variable {κ : KeyKind}{A B ra rb suf:List Keyed}
theorem pw_last {l:List Keyed}{p:Keyed} (h:l.Pairwise (kl κ)) (e:l[l.length - 1]?=some p):∀x∈l,kl κ x p:=fun x hx=>by
 obtain⟨i,hi,rfl⟩:=List.mem_iff_getElem.mp hx
 obtain⟨hj,rfl⟩:=List.getElem?_eq_some_iff.mp e
 by_cases q:i=l.length - 1
 ·subst q; exact KeyOrd.kle_refl _
 ·exact List.pairwise_iff_getElem.mp h i (l.length - 1) hi hj (by omega)
theorem MH.takeA (h:MH κ A B ra rb suf) (k:Nat) (hk:∀x∈rb,∀y∈ra.drop k,kl κ x y):MH κ A B (ra.take k) rb (ra.drop k++suf):=by
 have sa:=h.sa
 rw[← List.take_append_drop k ra] at sa
 obtain⟨s1,s2,s3⟩:=List.pairwise_append.mp sa
 refine⟨?_,List.pairwise_append.mpr ⟨s2,h.so,fun x hx y hy=>h.le x (List.mem_append_left _ (List.mem_of_mem_drop hx)) y hy⟩,s1,h.sb,fun x hx y hy=>?_⟩
 ·refine List.Perm.trans ?_ h.perm
  rw[← List.append_assoc]
  refine List.Perm.append_right _ ?_
  rw[List.append_assoc]
  refine (List.perm_append_comm.append_left _).trans ?_
  rw[← List.append_assoc,List.take_append_drop]
 ·rcases List.mem_append.mp hy with hy | hy
  ·rcases List.mem_append.mp hx with hx | hx
   ·exact s3 x hx y hy
   ·exact hk x hx y hy
  ·rcases List.mem_append.mp hx with hx | hx
   ·exact h.le x (List.mem_append_left _ (List.mem_of_mem_take hx)) y hy
   ·exact h.le x (List.mem_append_right _ hx) y hy
theorem MH.takeB (h:MH κ A B ra rb suf) (k:Nat) (hk:∀x∈ra,∀y∈rb.drop k,kl κ x y):MH κ A B ra (rb.take k) (rb.drop k++suf):=by
 have sb:=h.sb
 rw[← List.take_append_drop k rb] at sb
 obtain⟨s1,s2,s3⟩:=List.pairwise_append.mp sb
 refine⟨?_,List.pairwise_append.mpr ⟨s2,h.so,fun x hx y hy=>h.le x (List.mem_append_right _ (List.mem_of_mem_drop hx)) y hy⟩,h.sa,s1,fun x hx y hy=>?_⟩
 ·refine List.Perm.trans ?_ h.perm
  rw[← List.append_assoc,List.append_assoc ra,List.take_append_drop]
 ·rcases List.mem_append.mp hy with hy | hy
  ·rcases List.mem_append.mp hx with hx | hx
   ·exact hk x hx y hy
   ·exact s3 x hx y hy
  ·rcases List.mem_append.mp hx with hx | hx
   ·exact h.le x (List.mem_append_left _ hx) y hy
   ·exact h.le x (List.mem_append_right _ (List.mem_of_mem_take hx)) y hy
theorem MH.done (h:MH κ A B ra rb suf) (hk:∀x∈ra,∀y∈rb,kl κ x y):Fin κ A B (ra++rb++suf):=⟨h.perm,List.pairwise_append.mpr ⟨List.pairwise_append.mpr ⟨h.sa,h.sb,hk⟩,h.so,h.le⟩⟩
theorem MH.first (h:MH κ A B ra rb suf) (hk:∀x∈rb,∀y∈ra,kl κ x y):Fin κ A B (rb++ra++suf) :=
 ⟨(List.perm_append_comm.append_right _).trans h.perm,List.pairwise_append.mpr ⟨List.pairwise_append.mpr ⟨h.sb,h.sa,hk⟩,h.so,fun x hx y hy=>h.le x (List.mem_append.mpr ((List.mem_append.mp hx).symm)) y hy⟩⟩
end
theorem ex_zero {α : Type} (a:Array α) (n:Nat):(a.extract 0 n).toList=a.toList.take n:=by
 rw[Array.toList_extract]
 show (a.toList.drop 0).take (n - 0)=_
 rw[List.drop_zero,Nat.sub_zero]
theorem ex_mid {α : Type} (a:Array α) (i n:Nat):(a.extract i n).toList=(a.toList.take n).drop i:=by
 rw[Array.toList_extract,List.drop_take]
theorem rev_app {α : Type} (o x:Array α):(o++x.reverse).toList.reverse=x.toList++o.toList.reverse:=by rw[Array.toList_append,List.reverse_append,Array.toList_reverse,List.reverse_reverse]
theorem take_at {α : Type}{l:List α}{n:Nat}{p : α} (h:1≤n) (e:l[n - 1]?=some p):(l.take n).drop (n - 1)=[p]:=by
 rw[List.drop_take,show n - (n - 1)=1 by omega]
 exact drop_at e
section
variable {prog:Program}{w:World}{A:Around}{E:Value→Shared→Prop}{s:Shared}{κ : KeyKind}{st:SortSt}
def mergeHiP:Array Keyed→Array Keyed→StateT SortSt Sem (Array Keyed):=sortPriv% PySem.Builtin.mergeHi
theorem wpS_mergeHi {a b:Array Keyed}{Q:Array Keyed→SortSt→Prop} (hO : κ.OneLt) (hk:kindOf st=oneType') (ka:∀p∈a.toList,Has κ p) (kb:∀p∈b.toList,Has κ p) (sa:a.toList.Pairwise (kl κ)) (sb:b.toList.Pairwise (kl κ))
  (na1:1≤a.size) (nb1:1≤b.size) (h0:∀y∈a.toList,∀p,b[0]?=some p→kl κ p y) (hl:∀x∈b.toList,∀p,a[a.size - 1]?=some p→kl κ x p)
  (h:∀r st',SameG st st'→Fin κ a.toList b.toList r.toList→Q r st'):wpS (model prog w) A E s (mergeHiP a b) Q st:=by
 have ea:∀i,i < a.size→∃p,a[i]?=some p∧a.toList[i]?=some p∧Has κ p:=fun i hi=>by
  have e:a.toList[i]?=some a[i]:=by rw[Array.getElem?_toList]; exact Array.getElem?_eq_getElem hi
  exact⟨a[i],Array.getElem?_eq_getElem hi,e,ka _ (List.mem_of_getElem? e)⟩
 have eb:∀i,i < b.size→∃p,b[i]?=some p∧b.toList[i]?=some p∧Has κ p:=fun i hi=>by
  have e:b.toList[i]?=some b[i]:=by rw[Array.getElem?_toList]; exact Array.getElem?_eq_getElem hi
  exact⟨b[i],Array.getElem?_eq_getElem hi,e,kb _ (List.mem_of_getElem? e)⟩
 have la:a.toList.length=a.size:=Array.length_toList
 have lb:b.toList.length=b.size:=Array.length_toList
 have finF:∀{out:Array Keyed}{na nb:Nat},MH κ a.toList b.toList (a.toList.take na) (b.toList.take nb) out.toList.reverse→nb=1→Fin κ a.toList b.toList (b.extract 0 nb++a.extract 0 na++out.reverse).toList:=fun {out na nb} m hi=>by
  rw[Array.toList_append,Array.toList_append,ex_zero,ex_zero,Array.toList_reverse]
  refine m.first fun x hx y hy=>?_
  obtain⟨q,q1,q2,_⟩:=eb 0 (by omega)
  have e:b.toList.take nb=[q]:=by rw[hi]; exact drop_at (i:=0) q2
  rw[e] at hx
  rw[List.mem_singleton.mp hx]
  exact h0 y (List.mem_of_mem_take hy) q q1
 have finD:∀{out:Array Keyed}{na nb:Nat},MH κ a.toList b.toList (a.toList.take na) (b.toList.take nb) out.toList.reverse→na=0∨nb=0→Fin κ a.toList b.toList (a.extract 0 na++b.extract 0 nb++out.reverse).toList:=fun {out na nb} m hi=>by
  rw[Array.toList_append,Array.toList_append,ex_zero,ex_zero,Array.toList_reverse]
  refine m.done fun x hx y hy=>?_
  rcases hi with hi | hi
  ·rw[hi,List.take_zero] at hx; cases hx
  ·rw[hi,List.take_zero] at hy; cases hy
 have goA:∀{out:Array Keyed}{na nb at':Nat}{q:Keyed},MH κ a.toList b.toList (a.toList.take na) (b.toList.take nb) out.toList.reverse→1≤nb→nb≤b.size→at'≤na→b.toList[nb - 1]?=some q→(∀i x,at'≤i→i < na→a.toList[i]?=some x→kl κ q x)→MH κ a.toList b.toList (a.toList.take at') (b.toList.take nb) ((a.toList.take na).drop at'++out.toList.reverse):=fun {out na nb at' q} m h1 h2 h3 eq hk=>by
  have:=m.takeA at' fun x hx y hy=>by
   obtain⟨i,hi,e⟩:=List.mem_iff_getElem.mp hy
   rw[List.length_drop,List.length_take] at hi
   have e':a.toList[at'+i]?=some y:=by
    have:((a.toList.take na).drop at')[i]?=some y:=by rw[← e]; exact List.getElem?_eq_getElem _
    rw[List.getElem?_drop,List.getElem?_take_of_lt (by omega)] at this
    exact this
   refine (pw_last m.sb ?_ x hx).trans (hk (at'+i) y (by omega) (by omega) e')
   rw[List.length_take,lb,Nat.min_eq_left h2,List.getElem?_take_of_lt (by omega)]; exact eq
  rwa [List.take_take,Nat.min_eq_left h3] at this
 have goB:∀{out:Array Keyed}{na nb at':Nat}{q:Keyed},MH κ a.toList b.toList (a.toList.take na) (b.toList.take nb) out.toList.reverse→1≤na→na≤a.size→at'≤nb→a.toList[na - 1]?=some q→(∀i x,at'≤i→i < nb→b.toList[i]?=some x→kl κ q x)→MH κ a.toList b.toList (a.toList.take na) (b.toList.take at') ((b.toList.take nb).drop at'++out.toList.reverse):=fun {out na nb at' q} m h1 h2 h3 eq hk=>by
  have:=m.takeB at' fun x hx y hy=>by
   obtain⟨i,hi,e⟩:=List.mem_iff_getElem.mp hy
   rw[List.length_drop,List.length_take] at hi
   have e':b.toList[at'+i]?=some y:=by
    have:((b.toList.take nb).drop at')[i]?=some y:=by rw[← e]; exact List.getElem?_eq_getElem _
    rw[List.getElem?_drop,List.getElem?_take_of_lt (by omega)] at this
    exact this
   refine (pw_last m.sa ?_ x hx).trans (hk (at'+i) y (by omega) (by omega) e')
   rw[List.length_take,la,Nat.min_eq_left h2,List.getElem?_take_of_lt (by omega)]; exact eq
  rwa [List.take_take,Nat.min_eq_left h3] at this
 have pushA:∀{out:Array Keyed}{na nb:Nat}{p q:Keyed},MH κ a.toList b.toList (a.toList.take na) (b.toList.take nb) out.toList.reverse→1≤na→1≤nb→nb≤b.size→a.toList[na - 1]?=some p→b.toList[nb - 1]?=some q→kl κ q p→MH κ a.toList b.toList (a.toList.take (na - 1)) (b.toList.take nb) (out.push p).toList.reverse:=fun {out na nb p q} m h1 h2 h3 ep eq hk=>by
  have:=goA (at':=na - 1) m h2 h3 (by omega) eq fun i x h4 h5 e=>by
   have:i=na - 1:=by omega
   subst this
   rw[ep] at e; cases e; exact hk
  rw[take_at h1 ep] at this
  rw[Array.toList_push,List.reverse_append]; exact this
 have pushB:∀{out:Array Keyed}{na nb:Nat}{p q:Keyed},MH κ a.toList b.toList (a.toList.take na) (b.toList.take nb) out.toList.reverse→1≤na→na≤a.size→1≤nb→a.toList[na - 1]?=some p→b.toList[nb - 1]?=some q→kl κ p q→MH κ a.toList b.toList (a.toList.take na) (b.toList.take (nb - 1)) (out.push q).toList.reverse:=fun {out na nb p q} m h1 h2 h3 ep eq hk=>by
  have:=goB (at':=nb - 1) m h1 h2 (by omega) ep fun i x h4 h5 e=>by
   have:i=nb - 1:=by omega
   subst this
   rw[eq] at e; cases e; exact hk
  rw[take_at h3 eq] at this
  rw[Array.toList_push,List.reverse_append]; exact this
 refine wpS_bind (wpS_lift (wpAny_rule ⟨rfl,?_⟩))
 obtain⟨p0,f1,f2,f3⟩:=ea (a.size - 1) (by omega)
 refine wpS_bind (wpS_elemP f1 ?_)
 have m0:MH κ a.toList b.toList (a.toList.take (a.size - 1)) (b.toList.take b.size) (#[p0]:Array Keyed).toList.reverse:=by
  have ta:a.toList.take a.size=a.toList:=List.take_of_length_le (by omega)
  have tb:b.toList.take b.size=b.toList:=List.take_of_length_le (by omega)
  have start:MH κ a.toList b.toList (a.toList.take a.size) (b.toList.take b.size) []:=by
   rw[ta,tb]
   exact⟨by rw[List.append_nil],.nil,sa,sb,fun x _ y hy=>by cases hy⟩
  have:=start.takeA (a.size - 1) fun x hx y hy=>by
   rw[take_at na1 f2] at hy
   rw[List.mem_singleton.mp hy]
   exact hl x (List.mem_of_mem_take hx) p0 f1
  rw[take_at na1 f2,List.take_take,Nat.min_eq_left (by omega)] at this
  exact this
 refine wpS_ite (fun e=>wpS_pure (h _ st (.refl st) (finD m0 (.inl (by simpa using e))))) fun e1=>wpS_ite (fun e=>wpS_pure (h _ st (.refl st) (finF m0 (by simpa using e)))) fun e2=>?_
 have ha1:1≤a.size - 1:=by
  have:¬ a.size - 1=0:=fun z=>e1 (by rw[z]; rfl)
  omega
 have hb1:2≤b.size:=by
  have:¬ b.size=1:=fun z=>e2 (by rw[z]; rfl)
  omega
 refine wpS_bind (wpS_get ?_)
 refine wpS_bind (wpS_mono (wpS_forRange (I:=fun x c st'=>SameG st st'∧c.1=none∧MH κ a.toList b.toList (a.toList.take c.2.1) (b.toList.take c.2.2.1) c.2.2.2.1.toList.reverse∧1≤c.2.1∧2≤c.2.2.1∧c.2.1≤a.size∧c.2.2.1≤b.size∧x+c.2.1+c.2.2.1 < a.size+b.size)
  (Q:=fun c st'=>SameG st st'∧∃r,c.1=some r∧Fin κ a.toList b.toList r.toList) ?step ?fin ⟨.refl st,rfl,m0,ha1,hb1,by show a.size - 1≤a.size; omega,Nat.le_refl _,by show 0+(a.size - 1)+b.size < a.size+b.size; omega⟩) ?post)
 case fin =>
  rintro⟨c0,na,nb,out,mg⟩ st' ⟨_,_,_,a1,a2,_,_,a3⟩
  exfalso
  have a3':max 0 (a.size+b.size)+na+nb < a.size+b.size:=a3
  omega
 case post =>
  rintro⟨c0,na,nb,out,mg⟩ st' ⟨g,r,e,f⟩
  cases e
  exact wpS_pure (h r st' g f)
 case step =>
  rintro x ⟨c0,na,nb,out,mg⟩ st1 _ hx ⟨g1,e0,m1,a1,a2,a4,a5,a3⟩
  cases e0
  dsimp only at m1 a1 a2 a3 a4 a5
  refine wpS_bind (wpS_mono (wpS_forRange (I:=fun y c st'=>SameG st st'∧c.1=none∧MH κ a.toList b.toList (a.toList.take c.2.1) (b.toList.take c.2.2.1) c.2.2.2.1.toList.reverse∧1≤c.2.1∧2≤c.2.2.1∧c.2.1≤a.size∧c.2.2.1≤b.size∧x+y+c.2.1+c.2.2.1 < a.size+b.size)
   (Q:=fun c st'=>SameG st st'∧((∃r,c.1=some r∧Fin κ a.toList b.toList r.toList)∨(c.1=none∧MH κ a.toList b.toList (a.toList.take c.2.1) (b.toList.take c.2.2.1) c.2.2.2.1.toList.reverse∧1≤c.2.1∧2≤c.2.2.1∧c.2.1≤a.size∧c.2.2.1≤b.size∧x+c.2.1+c.2.2.1 < a.size+b.size))) ?stepA ?finA ⟨g1,rfl,m1,a1,a2,a4,a5,by show x+0+na+nb < _; omega⟩) ?postA)
  case finA =>
   rintro⟨c0,na,nb,out,ac,bc⟩ st' ⟨_,_,_,_,_,_,_,a3⟩
   exfalso
   have a3':x+max 0 (a.size+b.size)+na+nb < a.size+b.size:=a3
   omega
  case stepA =>
   rintro y ⟨c0,na,nb,out,ac,bc⟩ st2 _ hy ⟨g2,e0,m2,a1,a2,a4,a5,a3⟩
   cases e0
   dsimp only at m2 a1 a2 a3 a4 a5
   obtain⟨q,q1,q2,q3⟩:=eb (nb - 1) (by omega)
   obtain⟨p,p1,p2,p3⟩:=ea (na - 1) (by omega)
   refine wpS_bind (wpS_elemP q1 (wpS_bind (wpS_elemP p1 (wpS_bind (wpS_ltP hO (g2.kind.trans hk) q3 p3 ?_)))))
   cases hlt : κ.blt (kf κ q) (kf κ p) with
   | true =>
    refine wpS_bind (wpS_elemP p1 ?_)
    have m3:=pushA m2 a1 (by omega) a5 p2 q2 (KeyOrd.kle_of_klt hlt)
    refine wpS_ite (fun e=>wpS_pure ⟨g2,.inl ⟨_,rfl,finD m3 (.inl (by simpa using e))⟩⟩) fun e=>?_
    have e':1≤na - 1:=by
     have:¬ na - 1=0:=fun z=>e (by show ((na - 1:Nat) == 0)=true; rw[z]; rfl)
     omega
    exact wpS_ite (fun _=>wpS_pure ⟨g2,.inr ⟨rfl,m3,e',a2,by show na - 1≤a.size; omega,a5,by show x+(na - 1)+nb < _; omega⟩⟩) fun _=>wpS_pure ⟨g2,rfl,m3,e',a2,by show na - 1≤a.size; omega,a5,by show x+(y+1)+(na - 1)+nb < _; omega⟩
   | false =>
    refine wpS_bind (wpS_elemP q1 ?_)
    have m3:=pushB m2 a1 a4 (by omega) p2 q2 hlt
    refine wpS_ite (fun e=>wpS_pure ⟨g2,.inl ⟨_,rfl,finF m3 (by simpa using e)⟩⟩) fun e=>?_
    have e':2≤nb - 1:=by
     have:¬ nb - 1=1:=fun z=>e (by show ((nb - 1:Nat) == 1)=true; rw[z]; rfl)
     omega
    exact wpS_ite (fun _=>wpS_pure ⟨g2,.inr ⟨rfl,m3,a1,e',a4,by show nb - 1≤b.size; omega,by show x+na+(nb - 1) < _; omega⟩⟩) fun _=>wpS_pure ⟨g2,rfl,m3,a1,e',a4,by show nb - 1≤b.size; omega,by show x+(y+1)+na+(nb - 1) < _; omega⟩
  case postA =>
   rintro⟨c0,na,nb,out,ac,bc⟩ st2 ⟨g2,z⟩
   rcases z with ⟨r,e,f⟩ | ⟨e0,m2,a1,a2,a4,a5,a3⟩
   ·cases e
    exact wpS_pure ⟨g2,r,rfl,f⟩
   cases e0
   dsimp only at m2 a1 a2 a3 a4 a5
   refine wpS_bind (wpS_lift (wpAny_rule ⟨rfl,?_⟩))
   refine wpS_bind (wpS_mono (wpS_forRange (I:=fun y c st'=>SameG st st'∧c.1=none∧MH κ a.toList b.toList (a.toList.take c.2.1) (b.toList.take c.2.2.1) c.2.2.2.1.toList.reverse∧1≤c.2.1∧2≤c.2.2.1∧c.2.1≤a.size∧c.2.2.1≤b.size∧x+y+c.2.1+c.2.2.1 < a.size+b.size)
    (Q:=fun c st'=>SameG st st'∧((∃r,c.1=some r∧Fin κ a.toList b.toList r.toList)∨(c.1=none∧MH κ a.toList b.toList (a.toList.take c.2.1) (b.toList.take c.2.2.1) c.2.2.2.1.toList.reverse∧1≤c.2.1∧2≤c.2.2.1∧c.2.1≤a.size∧c.2.2.1≤b.size∧x+1+c.2.1+c.2.2.1 < a.size+b.size))) ?stepB ?finB ⟨g2,rfl,m2,a1,a2,a4,a5,by show x+0+na+nb < _; omega⟩) ?postB)
   case finB =>
    rintro⟨c0,na,nb,out,mg',ac,bc⟩ st' ⟨_,_,_,_,_,_,_,a3⟩
    exfalso
    have a3':x+max 0 (a.size+b.size)+na+nb < a.size+b.size:=a3
    omega
   case postB =>
    rintro⟨c0,na,nb,out,mg',ac,bc⟩ st3 ⟨g3,z⟩
    rcases z with ⟨r,e,f⟩ | ⟨e0,m3,a1,a2,a4,a5,a3⟩
    ·cases e
     exact wpS_pure ⟨g3,r,rfl,f⟩
    cases e0
    exact wpS_bind (wpS_setG fun st4 g4=>wpS_pure ⟨g3.trans g4,rfl,m3,a1,a2,a4,a5,a3⟩)
   case stepB =>
    rintro y ⟨c0,na,nb,out,mg',ac,bc⟩ st3 _ hy ⟨g3,e0,m3,a1,a2,a4,a5,a3⟩
    cases e0
    dsimp only at m3 a1 a2 a3 a4 a5
    obtain⟨q,q1,q2,q3⟩:=eb (nb - 1) (by omega)
    refine wpS_ite (fun _=>?_) fun _=>?_
    all_goals (
     refine wpS_bind (wpS_setG fun st4 g4'=>?_)
     have g4:=g3.trans g4'
     refine wpS_bind (wpS_elemP q1 (wpS_bind (wpS_gallop (κ:=κ) (base:=0) (n:=na) (hint:=na - 1) hO (g4.kind.trans hk) q3 (fun i=>(a[0+i]?).getD q) (fun i hi=>?_) (by omega) (fun i=>!κ.blt (kf κ q) (kf κ ((a[0+i]?).getD q))) (fun i=>rfl) (fun i j hij hj hB=>?_) fun at' hkn hk1 hk2=>?_)))
     ·obtain⟨p,p1,p2,p3⟩:=ea (0+i) (by omega)
      rw[p1]; exact⟨rfl,p3⟩
     ·obtain⟨p,p1,p2,p3⟩:=ea (0+i) (by omega)
      obtain⟨r,r1,r2,r3⟩:=ea (0+j) (by omega)
      rw[r1] at hB
      rw[p1]
      have hr:kl κ r q:=by
       show κ.blt (kf κ q) (kf κ r)=false
       simpa using hB
      have hp:kl κ p r:=by
       by_cases e:i=j
       ·subst e; rw[p1] at r1; cases r1; exact KeyOrd.kle_refl _
       ·have h1:=List.pairwise_iff_getElem.mp sa (0+i) (0+j) (by omega) (by omega) (by omega)
        rw[(List.getElem?_eq_some_iff.mp p2).2,(List.getElem?_eq_some_iff.mp r2).2] at h1
        exact h1
      have h2 : κ.blt (kf κ q) (kf κ p)=false:=hp.trans hr
      show (!κ.blt (kf κ q) (kf κ p))=true
      rw[h2]; rfl
     have hkA:∀i x,at'≤i→i < na→a.toList[i]?=some x→kl κ q x:=fun i x h1 h2 e=>by
      have:=hk2 i h1 h2
      rw[Nat.zero_add,← Array.getElem?_toList,e] at this
      exact KeyOrd.kle_of_klt (show κ.blt (kf κ q) (kf κ x)=true by simpa using this)
     have mA:=goA m3 (by omega) a5 hkn q2 hkA
     have hq:∀p,1≤at'→a.toList[at' - 1]?=some p→kl κ p q:=fun p h1 e=>by
      have:=hk1 (at' - 1) (by omega)
      rw[Nat.zero_add,← Array.getElem?_toList,e] at this
      show κ.blt (kf κ q) (kf κ p)=false
      simpa using this
     apply wpS_ite
     case' h1 =>
      intro hk0
      rw[← ex_mid,← rev_app] at mA
      refine wpS_ite (fun e=>wpS_pure ⟨g4,.inl ⟨_,rfl,finD mA (.inl (by simpa using e))⟩⟩) fun e=>?_
      have hi2:1≤at':=by
       have:¬ at'=0:=fun z=>e (by show ((at':Nat) == 0)=true; rw[z]; rfl)
       omega
      have hi3:at'≤a.size:=by omega
      have hs2:x+y+at'+nb < a.size+b.size:=by omega
      generalize out++(a.extract at' na).reverse=o2 at mA ⊢
     case' h2 =>
      intro hk0
      have k0:at'=na:=by have:¬ na - at' > 0:=hk0; omega
      subst k0
      rw[List.drop_of_length_le (by rw[List.length_take]; omega),List.nil_append] at mA
      have hi2:1≤at':=a1
      have hi3:at'≤a.size:=a4
      have hs2:x+y+at'+nb < a.size+b.size:=a3
      generalize out=o2 at mA ⊢
     all_goals (
      obtain⟨p,p1,p2,p3⟩:=ea (at' - 1) (by omega)
      refine wpS_bind (wpS_elemP q1 ?_)
      have mB:=pushB mA hi2 hi3 (by omega) p2 q2 (hq p hi2 p2)
      refine wpS_ite (fun e=>wpS_pure ⟨g4,.inl ⟨_,rfl,finF mB (by simpa using e)⟩⟩) fun e=>?_
      have e':2≤nb - 1:=by
       have:¬ nb - 1=1:=fun z=>e (by show ((nb - 1:Nat) == 1)=true; rw[z]; rfl)
       omega
      refine wpS_bind (wpS_elemP p1 (wpS_bind (wpS_gallop (κ:=κ) (base:=0) (n:=nb - 1) (hint:=nb - 1 - 1) hO (g4.kind.trans hk) p3 (fun i=>(b[0+i]?).getD p) (fun i hi=>?_) (by omega) (fun i=>κ.blt (kf κ ((b[0+i]?).getD p)) (kf κ p)) (fun i=>rfl) (fun i j hij hj hB=>?_) fun k2 hkn2 hj1 hj2=>?_)))
      ·obtain⟨r,r1,r2,r3⟩:=eb (0+i) (by omega)
       rw[r1]; exact⟨rfl,r3⟩
      ·obtain⟨u,u1,u2,u3⟩:=eb (0+i) (by omega)
       obtain⟨r,r1,r2,r3⟩:=eb (0+j) (by omega)
       rw[r1] at hB
       rw[u1]
       have hp:kl κ u r:=by
        by_cases e:i=j
        ·subst e; rw[u1] at r1; cases r1; exact KeyOrd.kle_refl _
        ·have h1:=List.pairwise_iff_getElem.mp sb (0+i) (0+j) (by omega) (by omega) (by omega)
         rw[(List.getElem?_eq_some_iff.mp u2).2,(List.getElem?_eq_some_iff.mp r2).2] at h1
         exact h1
       exact KeyOrd.klt_of_kle_of_klt hp hB
      have hkB:∀i x,k2≤i→i < nb - 1→b.toList[i]?=some x→kl κ p x:=fun i x h1 h2 e=>by
       have:=hj2 i h1 h2
       rw[Nat.zero_add,← Array.getElem?_toList,e] at this
       exact this
      have mC:=goB mB hi2 hi3 hkn2 p2 hkB
      have hp:∀r,1≤k2→b.toList[k2 - 1]?=some r→kl κ r p:=fun r h1 e=>by
       have:=hj1 (k2 - 1) (by omega)
       rw[Nat.zero_add,← Array.getElem?_toList,e] at this
       exact KeyOrd.kle_of_klt this
      apply wpS_ite
      case' h1 =>
       intro hk0
       rw[← ex_mid,← rev_app] at mC
       refine wpS_ite (fun e=>wpS_pure ⟨g4,.inl ⟨_,rfl,finF mC (by simpa using e)⟩⟩) fun e=>wpS_ite (fun e2=>wpS_pure ⟨g4,.inl ⟨_,rfl,finD mC (.inr (by simpa using e2))⟩⟩) fun e2=>?_
       have hj:2≤k2:=by
        have:¬ k2=1:=fun z=>e (by show ((k2:Nat) == 1)=true; rw[z]; rfl)
        have:¬ k2=0:=fun z=>e2 (by show ((k2:Nat) == 0)=true; rw[z]; rfl)
        omega
       have hj3:k2≤b.size:=by omega
       have hs3:x+y+1+at'+k2 < a.size+b.size:=by omega
       generalize o2.push q++(b.extract k2 (nb - 1)).reverse=o3 at mC ⊢
      case' h2 =>
       intro hk0
       have k0:k2=nb - 1:=by have:¬ nb - 1 - k2 > 0:=hk0; omega
       subst k0
       rw[List.drop_of_length_le (by rw[List.length_take]; omega),List.nil_append] at mC
       have hj:2≤nb - 1:=e'
       have hj3:nb - 1≤b.size:=by omega
       have hs3:x+y+1+at'+(nb - 1) < a.size+b.size:=by omega
       generalize o2.push q=o3 at mC ⊢
       generalize nb - 1=k2 at mC hj hj3 hs3 hp ⊢
      all_goals (
       obtain⟨r,r1,r2,r3⟩:=eb (k2 - 1) (by omega)
       refine wpS_bind (wpS_elemP p1 ?_)
       have mD:=pushA mC hi2 (by omega) hj3 p2 r2 (hp r (by omega) r2)
       refine wpS_ite (fun e=>wpS_pure ⟨g4,.inl ⟨_,rfl,finD mD (.inl (by simpa using e))⟩⟩) fun e=>?_
       have e3:1≤at' - 1:=by
        have:¬ at' - 1=0:=fun z=>e (by show ((at' - 1:Nat) == 0)=true; rw[z]; rfl)
        omega
       exact wpS_ite (fun _=>wpS_pure ⟨g4,.inr ⟨rfl,mD,e3,hj,by show at' - 1≤a.size; omega,hj3,by show x+1+(at' - 1)+k2 < _; omega⟩⟩) fun _=>wpS_pure ⟨g4,rfl,mD,e3,hj,by show at' - 1≤a.size; omega,hj3,by show x+(y+1)+(at' - 1)+k2 < _; omega⟩)))
end
end SG
end
section
set_option maxRecDepth 100000
set_option maxHeartbeats 1000000
namespace SG
open PySem PyProof.Rows
def Seg (κ : KeyKind) (xs:Array Keyed) (lo hi:Nat):Prop:=∀i j p q,lo≤i→i≤j→j < hi→xs[i]?=some p→xs[j]?=some q→kl κ p q
theorem Seg.list {κ : KeyKind}{xs:Array Keyed}{lo hi:Nat} (h:Seg κ xs lo hi) (hh:hi≤xs.size):(xs.extract lo hi).toList.Pairwise (kl κ):=by
 refine List.pairwise_iff_getElem.mpr fun i j hi' hj hij=>?_
 rw[ex_mid,List.length_drop,List.length_take,Array.length_toList] at hi' hj
 have at':∀k (hk:k < (xs.extract lo hi).toList.length),xs[lo+k]?=some (xs.extract lo hi).toList[k]:=fun k hk=>by
  have e:(xs.extract lo hi).toList[k]?=some (xs.extract lo hi).toList[k]:=List.getElem?_eq_getElem hk
  rw[ex_mid,List.length_drop,List.length_take,Array.length_toList] at hk
  have e2:(xs.extract lo hi).toList[k]?=xs[lo+k]?:=by
   rw[ex_mid,List.getElem?_drop,List.getElem?_take_of_lt (by omega),Array.getElem?_toList]
  rw[← e2]; exact e
 exact h (lo+i) (lo+j) _ _ (by omega) (by omega) (by omega) (at' i _) (at' j _)
def wr (sa:Nat) (L:List (Keyed×Nat)) (a:Array Keyed):Array Keyed:=L.foldl (fun a x=>match x with | (p,j)=>a.setIfInBounds (sa+j) p) a
theorem wr_get (sa:Nat):∀(L:List Keyed) (n:Nat) (a:Array Keyed) (k:Nat),sa+n+L.length≤a.size→(wr sa (L.zipIdx n) a)[k]?=if sa+n≤k∧k < sa+n+L.length then L[k - (sa+n)]? else a[k]?
 | [],n,a,k,_=>by rw[if_neg (by rw[List.length_nil]; omega)]; rfl
 | p::r,n,a,k,h=>by
  rw[List.length_cons] at h
  show (wr sa (r.zipIdx (n+1)) (a.setIfInBounds (sa+n) p))[k]?=_
  rw[wr_get sa r (n+1) _ k (by rw[Array.size_setIfInBounds]; omega),Array.getElem?_setIfInBounds,List.length_cons]
  by_cases h1:k=sa+n
  ·subst h1
   rw[if_neg (by omega),if_pos rfl,if_pos (by omega),if_pos (by omega),Nat.sub_self]; rfl
  ·by_cases h2:sa+(n+1)≤k∧k < sa+(n+1)+r.length
   ·rw[if_pos h2,if_pos (by omega),show k - (sa+n)=(k - (sa+(n+1)))+1 by omega]; rfl
   ·rw[if_neg h2,if_neg (fun z=>h1 z.symm),if_neg (by omega)]
theorem wr_list (sa:Nat) (L:List Keyed) (a:Array Keyed) (h:sa+L.length≤a.size):(wr sa (L.zipIdx 0) a).toList=a.toList.take sa++L++a.toList.drop (sa+L.length):=by
 refine List.ext_getElem? fun k=>?_
 rw[Array.getElem?_toList,wr_get sa L 0 a k (by omega),Nat.add_zero,List.append_assoc]
 have lt:(a.toList.take sa).length=sa:=by rw[List.length_take,Array.length_toList]; omega
 by_cases h1:k < sa
 ·rw[if_neg (by omega),List.getElem?_append_left (by omega),List.getElem?_take_of_lt h1,Array.getElem?_toList]
 ·rw[List.getElem?_append_right (by omega),lt]
  by_cases h2:k < sa+L.length
  ·rw[if_pos ⟨by omega,h2⟩,List.getElem?_append_left (by omega)]
  ·rw[if_neg (by omega),List.getElem?_append_right (by omega),List.getElem?_drop,← Array.getElem?_toList]
   congr 1; omega
structure SB (κ : KeyKind) (a₀ : Array Keyed) (st:SortSt):Prop where
 perm:(arrOf st).Perm a₀
 kind:kindOf st=oneType'
 failed:failedOf st=none
theorem SB.size {κ : KeyKind}{a₀ : Array Keyed}{st:SortSt} (h:SB κ a₀ st):(arrOf st).size=a₀.size:=h.perm.size_eq
theorem SB.at {κ : KeyKind}{a₀ : Array Keyed}{st:SortSt} (h:SB κ a₀ st) (h0:KeysOf κ a₀) {i:Nat} (hi:i < a₀.size):∃p,(arrOf st)[i]?=some p∧Has κ p:=by
 have hi':i < (arrOf st).size:=by rw[h.size]; exact hi
 exact⟨(arrOf st)[i],Array.getElem?_eq_getElem hi',h0 _ ((Array.perm_iff_toList_perm.mp h.perm).mem_iff.mp (by simp))⟩
section
variable {prog:Program}{w:World}{A:Around}{E:Value→Shared→Prop}{s:Shared}{κ : KeyKind}{st:SortSt}{a₀ : Array Keyed}
theorem wpS_set {Q:PUnit→SortSt→Prop}{st':SortSt} (h:Q ⟨⟩ st'):wpS (model prog w) A E s (set st':StateT SortSt Sem PUnit) Q st:=by
 unfold wpS; rw[StateT.run_set]; exact wpAny_pure ⟨rfl,h⟩
theorem wpS_mergeAt {i sa na sb nb pw pw2:Nat}{Q:Bool→SortSt→Prop} (hO : κ.OneLt) (h0:KeysOf κ a₀) (hB:SB κ a₀ st) (e1:(pendingOf st)[i]?=some (sa,na,pw)) (e2:(pendingOf st)[i+1]?=some (sb,nb,pw2)) (es:sb=sa+na) (n1:1≤na) (n2:1≤nb) (hz:sb+nb≤a₀.size)
  (s1:Seg κ (arrOf st) sa (sa+na)) (s2:Seg κ (arrOf st) sb (sb+nb))
  (h:∀st',SB κ a₀ st'→pendingOf st'=((pendingOf st).setIfInBounds i (sa,na+nb,pw)).eraseIdxIfInBounds (i+1)→Seg κ (arrOf st') sa (sa+(na+nb))→(∀k,k < sa∨sb+nb≤k→(arrOf st')[k]?=(arrOf st)[k]?)→Q true st'):wpS (model prog w) A E s (mergeAt' i) Q st:=by
 refine wpS_bind (wpS_get ?_)
 have e1':(sortPriv% PySem.Builtin.SortState.pending) st=pendingOf st:=rfl
 rw[e1',e1,e2]
 refine wpS_bind (wpS_set ?_)
 have hX:(arrOf st).size=a₀.size:=hB.size
 have kk:∀p∈(arrOf st).toList,Has κ p:=fun p hp=>h0 _ ((Array.perm_iff_toList_perm.mp hB.perm).mem_iff.mp hp)
 have whole:∀{q:Keyed},(arrOf st)[sb]?=some q→(∀i x,sa≤i→i < sb→(arrOf st)[i]?=some x→kl κ x q)→Seg κ (arrOf st) sa (sa+(na+nb)):=fun {q} eq hq i j p r h1 h2 h3 e3 e4=>by
  by_cases c1:j < sb
  ·exact s1 i j p r h1 h2 (by omega) e3 e4
  ·by_cases c2:i < sb
   ·exact (hq i p h1 c2 e3).trans (s2 sb j q r (Nat.le_refl _) (by omega) (by omega) eq e4)
   ·exact s2 i j p r (by omega) h2 (by omega) e3 e4
 obtain⟨q,q1,q3⟩:=hB.at h0 (i:=sb) (by omega)
 refine wpS_bind (wpS_elemP q1 (wpS_bind (wpS_gallop (κ:=κ) (base:=sa) (n:=na) (hint:=0) hO hB.kind q3 (fun i=>((arrOf st)[sa+i]?).getD q) (fun i hi=>?_) (by omega) (fun i=>!κ.blt (kf κ q) (kf κ (((arrOf st)[sa+i]?).getD q))) (fun i=>rfl) (fun i j hij hj hBj=>?_) fun k hkn hk1 hk2=>?_)))
 ·obtain⟨p,p1,p3⟩:=hB.at h0 (i:=sa+i) (by omega)
  rw[p1]; exact⟨rfl,p3⟩
 ·obtain⟨p,p1,p3⟩:=hB.at h0 (i:=sa+i) (by omega)
  obtain⟨r,r1,r3⟩:=hB.at h0 (i:=sa+j) (by omega)
  rw[r1] at hBj
  rw[p1]
  have hr:kl κ r q:=by
   show κ.blt (kf κ q) (kf κ r)=false
   simpa using hBj
  have h2 : κ.blt (kf κ q) (kf κ p)=false:=(s1 (sa+i) (sa+j) p r (by omega) (by omega) (by omega) p1 r1).trans hr
  show (!κ.blt (kf κ q) (kf κ p))=true
  rw[h2]; rfl
 have lo:∀i x,sa≤i→i < sa+k→(arrOf st)[i]?=some x→kl κ x q:=fun i x h1 h2 e=>by
  have:=hk1 (i - sa) (by omega)
  rw[show sa+(i - sa)=i by omega,e] at this
  show κ.blt (kf κ q) (kf κ x)=false
  simpa using this
 have hi':∀i x,sa+k≤i→i < sb→(arrOf st)[i]?=some x→kl κ q x:=fun i x h1 h2 e=>by
  have:=hk2 (i - sa) (by omega) (by omega)
  rw[show sa+(i - sa)=i by omega,e] at this
  exact KeyOrd.kle_of_klt (show κ.blt (kf κ q) (kf κ x)=true by simpa using this)
 refine wpS_ite (fun e=>wpS_pure (h _ ⟨hB.perm,hB.kind,hB.failed⟩ rfl ?_ fun _ _=>rfl)) fun e=>?_
 ·have e':na - k=0:=by simpa using e
  exact whole q1 fun i x h1 h2 ex=>lo i x h1 (by omega) ex
 have k1:1≤na - k:=by
  have:¬ na - k=0:=fun z=>e (by show ((na - k:Nat) == 0)=true; rw[z]; rfl)
  omega
 obtain⟨p,p1,p3⟩:=hB.at h0 (i:=sa+k+(na - k) - 1) (by omega)
 have p1':(arrOf st)[sb - 1]?=some p:=by rw[← p1]; congr 1; omega
 refine wpS_bind (wpS_elemP p1 (wpS_bind (wpS_gallop (κ:=κ) (base:=sb) (n:=nb) (hint:=nb - 1) hO hB.kind p3 (fun i=>((arrOf st)[sb+i]?).getD p) (fun i hi=>?_) (by omega) (fun i=>κ.blt (kf κ (((arrOf st)[sb+i]?).getD p)) (kf κ p)) (fun i=>rfl) (fun i j hij hj hBj=>?_) fun k2 hkn2 hj1 hj2=>?_)))
 ·obtain⟨r,r1,r3⟩:=hB.at h0 (i:=sb+i) (by omega)
  rw[r1]; exact⟨rfl,r3⟩
 ·obtain⟨u,u1,u3⟩:=hB.at h0 (i:=sb+i) (by omega)
  obtain⟨r,r1,r3⟩:=hB.at h0 (i:=sb+j) (by omega)
  rw[r1] at hBj
  rw[u1]
  exact KeyOrd.klt_of_kle_of_klt (s2 (sb+i) (sb+j) u r (by omega) (by omega) (by omega) u1 r1) hBj
 have lo2:∀i x,sb≤i→i < sb+k2→(arrOf st)[i]?=some x→kl κ x p:=fun i x h1 h2 e=>by
  have:=hj1 (i - sb) (by omega)
  rw[show sb+(i - sb)=i by omega,e] at this
  exact KeyOrd.kle_of_klt this
 have hi2:∀i x,sb+k2≤i→i < sb+nb→(arrOf st)[i]?=some x→kl κ p x:=fun i x h1 h2 e=>by
  have:=hj2 (i - sb) (by omega) (by omega)
  rw[show sb+(i - sb)=i by omega,e] at this
  exact this
 refine wpS_ite (fun e=>wpS_pure (h _ ⟨hB.perm,hB.kind,hB.failed⟩ rfl ?_ fun _ _=>rfl)) fun e=>?_
 ·have e':k2=0:=by simpa using e
  exact whole q1 fun i x h1 h2 ex=>(s1 i (sb - 1) x p h1 (by omega) (by omega) ex p1').trans (hi2 sb q (by omega) (by omega) q1)
 have k21:1≤k2:=by
  have:¬ k2=0:=fun z=>e (by show ((k2:Nat) == 0)=true; rw[z]; rfl)
  omega
 have mem:∀{lo hi:Nat}{v:Keyed},v∈((arrOf st).extract lo hi).toList→∃i,lo≤i∧i < hi∧(arrOf st)[i]?=some v:=fun {lo hi v} hv=>by
  obtain⟨i,hi'',e⟩:=List.mem_iff_getElem.mp hv
  have e1:((arrOf st).extract lo hi).toList[i]?=some v:=by rw[← e]; exact List.getElem?_eq_getElem _
  rw[ex_mid,List.length_drop,List.length_take] at hi''
  rw[ex_mid,List.getElem?_drop,List.getElem?_take_of_lt (by omega),Array.getElem?_toList] at e1
  exact⟨lo+i,by omega,by omega,e1⟩
 have kx:∀{lo hi:Nat},∀v∈((arrOf st).extract lo hi).toList,Has κ v:=fun {lo hi} v hv=>by
  obtain⟨i,_,_,e⟩:=mem hv
  exact kk v (List.mem_of_getElem? (by rw[Array.getElem?_toList]; exact e))
 have zx:((arrOf st).extract (sa+k) sb).size=na - k:=by rw[Array.size_extract]; omega
 have zy:((arrOf st).extract sb (sb+k2)).size=k2:=by rw[Array.size_extract]; omega
 have sx:((arrOf st).extract (sa+k) sb).toList.Pairwise (kl κ):=Seg.list (fun i j p q a1 a2 a3=>s1 i j p q (by omega) a2 (by omega)) (by omega)
 have sy:((arrOf st).extract sb (sb+k2)).toList.Pairwise (kl κ):=Seg.list (fun i j p q a1 a2 a3=>s2 i j p q a1 a2 (by omega)) (by omega)
 have hx0:∀y∈((arrOf st).extract (sa+k) sb).toList,∀p,((arrOf st).extract sb (sb+k2))[0]?=some p→kl κ p y:=fun y hy p' e=>by
  rw[← Array.getElem?_toList,ex_mid,List.getElem?_drop,List.getElem?_take_of_lt (by omega),Array.getElem?_toList,Nat.add_zero,q1] at e
  cases e
  obtain⟨i,a1,a2,a3⟩:=mem hy
  exact hi' i y a1 a2 a3
 have hyl:∀x∈((arrOf st).extract sb (sb+k2)).toList,∀p,((arrOf st).extract (sa+k) sb)[((arrOf st).extract (sa+k) sb).size - 1]?=some p→kl κ x p:=fun x hx p' e=>by
  rw[zx,← Array.getElem?_toList,ex_mid,List.getElem?_drop,List.getElem?_take_of_lt (by omega),Array.getElem?_toList,show sa+k+(na - k - 1)=sb - 1 by omega,p1'] at e
  cases e
  obtain⟨i,a1,a2,a3⟩:=mem hx
  exact lo2 i x a1 a2 a3
 have tail:∀(r:Array Keyed) (st2:SortSt),kindOf st2=oneType'→arrOf st2=arrOf st→pendingOf st2=((pendingOf st).setIfInBounds i (sa,na+nb,pw)).eraseIdxIfInBounds (i+1)→failedOf st2=none→Fin κ ((arrOf st).extract (sa+k) sb).toList ((arrOf st).extract sb (sb+k2)).toList r.toList→Q true (setArr st2 (wr (sa+k) (r.toList.zipIdx 0) (arrOf st2))):=fun r st2 c1 c2 c3 c4 f=>by
  have lr:r.toList.length=(na - k)+k2:=by
   have:=f.1.length_eq
   rw[List.length_append,Array.length_toList (xs:=(arrOf st).extract (sa+k) sb),Array.length_toList (xs:=(arrOf st).extract sb (sb+k2)),zx,zy] at this
   exact this
  have wl:=wr_list (sa+k) r.toList (arrOf st) (by omega)
  have wg:∀t,(wr (sa+k) (r.toList.zipIdx 0) (arrOf st))[t]?=if sa+k≤t∧t < sb+k2 then r.toList[t - (sa+k)]? else (arrOf st)[t]?:=fun t=>by
   rw[wr_get (sa+k) r.toList 0 (arrOf st) t (by omega),Nat.add_zero,show sa+k+r.toList.length=sb+k2 by omega]
  have rmem:∀v∈r.toList,(∃i,sa+k≤i∧i < sb∧(arrOf st)[i]?=some v)∨∃i,sb≤i∧i < sb+k2∧(arrOf st)[i]?=some v:=fun v hv=>by
   rcases List.mem_append.mp (f.1.mem_iff.mp hv) with h1 | h1
   ·exact .inl (mem h1)
   ·exact .inr (mem h1)
  have up:∀v∈r.toList,∀i u,sa≤i→i < sa+k→(arrOf st)[i]?=some u→kl κ u v:=fun v hv i u a1 a2 a3=>by
   rcases rmem v hv with ⟨t,b1,b2,b3⟩ | ⟨t,b1,b2,b3⟩
   ·exact s1 i t u v a1 (by omega) (by omega) a3 b3
   ·exact (lo i u a1 a2 a3).trans (s2 sb t q v (Nat.le_refl _) b1 (by omega) q1 b3)
  have dn:∀v∈r.toList,∀i u,sb+k2≤i→i < sb+nb→(arrOf st)[i]?=some u→kl κ v u:=fun v hv i u a1 a2 a3=>by
   rcases rmem v hv with ⟨t,b1,b2,b3⟩ | ⟨t,b1,b2,b3⟩
   ·exact (s1 t (sb - 1) v p (by omega) (by omega) (by omega) b3 p1').trans (hi2 i u a1 a2 a3)
   ·exact s2 t i v u b1 (by omega) a2 b3 a3
  rw[c2]
  refine h _ ⟨?_,c1,c4⟩ c3 ?_ fun t ht=>?_
  ·refine Array.Perm.trans ?_ hB.perm
   show (wr (sa+k) (r.toList.zipIdx 0) (arrOf st)).Perm (arrOf st)
   refine Array.perm_iff_toList_perm.mpr ?_
   rw[wl]
   have eo:(arrOf st).toList=(arrOf st).toList.take (sa+k)++(((arrOf st).extract (sa+k) sb).toList++((arrOf st).extract sb (sb+k2)).toList)++(arrOf st).toList.drop (sa+k+r.toList.length):=by
    rw[ex_mid,ex_mid,show sa+k+r.toList.length=sb+k2 by omega]
    have a1:(arrOf st).toList.take (sa+k)++((arrOf st).toList.take sb).drop (sa+k)=(arrOf st).toList.take sb:=by
     have:=List.take_append_drop (sa+k) ((arrOf st).toList.take sb)
     rwa [List.take_take,Nat.min_eq_left (by omega)] at this
    have a2:(arrOf st).toList.take sb++((arrOf st).toList.take (sb+k2)).drop sb=(arrOf st).toList.take (sb+k2):=by
     have:=List.take_append_drop sb ((arrOf st).toList.take (sb+k2))
     rwa [List.take_take,Nat.min_eq_left (by omega)] at this
    rw[← List.append_assoc,a1,a2,List.take_append_drop]
   conv=>rhs; rw[eo]
   exact ((f.1.append_left _).append_right _)
  ·intro i' j' u v a1 a2 a3 a4 a5
   have a4':(wr (sa+k) (r.toList.zipIdx 0) (arrOf st))[i']?=some u:=a4
   have a5':(wr (sa+k) (r.toList.zipIdx 0) (arrOf st))[j']?=some v:=a5
   rw[wg] at a4' a5'
   by_cases d1:sa+k≤i'∧i' < sb+k2
   ·rw[if_pos d1] at a4'
    by_cases d2:sa+k≤j'∧j' < sb+k2
    ·rw[if_pos d2] at a5'
     obtain⟨w1,w2⟩:=List.getElem?_eq_some_iff.mp a4'
     obtain⟨w3,w4⟩:=List.getElem?_eq_some_iff.mp a5'
     rw[← w2,← w4]
     by_cases ee:i'=j'
     ·subst ee; exact KeyOrd.kle_refl _
     ·exact List.pairwise_iff_getElem.mp f.2 _ _ w1 w3 (by omega)
    ·rw[if_neg d2] at a5'
     exact dn u (List.mem_of_getElem? a4') j' v (by omega) (by omega) a5'
   ·rw[if_neg d1] at a4'
    by_cases d2:sa+k≤j'∧j' < sb+k2
    ·rw[if_pos d2] at a5'
     exact up v (List.mem_of_getElem? a5') i' u a1 (by omega) a4'
    ·rw[if_neg d2] at a5'
     by_cases d3:j' < sa+k
     ·exact s1 i' j' u v a1 a2 (by omega) a4' a5'
     ·by_cases d4:i' < sa+k
      ·exact (lo i' u a1 d4 a4').trans (s2 sb j' q v (Nat.le_refl _) (by omega) (by omega) q1 a5')
      ·exact s2 i' j' u v (by omega) a2 (by omega) a4' a5'
  ·show (wr (sa+k) (r.toList.zipIdx 0) (arrOf st))[t]?=_
   rw[wg,if_neg (by omega)]
 have fin:∀(r:Array Keyed) (st2:SortSt),SameG (setPending st (((pendingOf st).setIfInBounds i (sa,na+nb,pw)).eraseIdxIfInBounds (i+1))) st2→Fin κ ((arrOf st).extract (sa+k) sb).toList ((arrOf st).extract sb (sb+k2)).toList r.toList→kindOf st2=oneType'∧arrOf st2=arrOf st∧pendingOf st2=((pendingOf st).setIfInBounds i (sa,na+nb,pw)).eraseIdxIfInBounds (i+1)∧failedOf st2=none:=fun r st2 g f=>⟨g.kind.trans hB.kind,g.arr,g.pend,g.fail.trans hB.failed⟩
 refine wpS_ite (fun _=>?_) fun _=>?_
 ·refine wpS_bind (wpS_mergeLo hO hB.kind kx kx sx sy (show 1≤((arrOf st).extract (sa+k) sb).size by rw[zx]; exact k1) (show 1≤((arrOf st).extract sb (sb+k2)).size by rw[zy]; exact k21) hx0 hyl fun r st2 g f=>?_)
  obtain⟨c1,c2,c3,c4⟩:=fin r st2 g f
  refine wpS_bind (wpS_modify (wpS_bind (wpS_get (wpS_pure ?_))))
  have:=tail r st2 c1 c2 c3 c4 f
  show Q (failedOf st2).isNone _
  rw[c4]
  exact this
 ·refine wpS_bind (wpS_mergeHi hO hB.kind kx kx sx sy (show 1≤((arrOf st).extract (sa+k) sb).size by rw[zx]; exact k1) (show 1≤((arrOf st).extract sb (sb+k2)).size by rw[zy]; exact k21) hx0 hyl fun r st2 g f=>?_)
  obtain⟨c1,c2,c3,c4⟩:=fin r st2 g f
  refine wpS_bind (wpS_modify (wpS_bind (wpS_get (wpS_pure ?_))))
  have:=tail r st2 c1 c2 c3 c4 f
  show Q (failedOf st2).isNone _
  rw[c4]
  exact this
end
end SG
end
section
set_option maxRecDepth 100000
set_option maxHeartbeats 1000000
namespace SG
open PySem PyProof.Rows
structure Frm (κ : KeyKind) (a₀ : Array Keyed) (st0:SortSt) (lo hi:Nat) (st:SortSt):Prop where
 sb:SB κ a₀ st
 pend:pendingOf st=pendingOf st0
 out:∀k,k < lo∨hi≤k→(arrOf st)[k]?=(arrOf st0)[k]?
section
variable {κ : KeyKind}{a₀ : Array Keyed}{st0 st:SortSt}{lo hi:Nat}
theorem Frm.refl (h:SB κ a₀ st):Frm κ a₀ st lo hi st:=⟨h,rfl,fun _ _=>rfl⟩
theorem Frm.put (h:Frm κ a₀ st0 lo hi st) {xs:Array Keyed} (p:xs.Perm (arrOf st)) (o:∀k,k < lo∨hi≤k→xs[k]?=(arrOf st)[k]?):Frm κ a₀ st0 lo hi (setArr st xs):=⟨⟨p.trans h.sb.perm,h.sb.kind,h.sb.failed⟩,h.pend,fun k hk=>(o k hk).trans (h.out k hk)⟩
theorem Frm.mirror (h:Frm κ a₀ st0 lo hi st) {i j:Nat} (h1:lo≤i) (h2:j≤hi) (h3:hi≤a₀.size):Frm κ a₀ st0 lo hi (setArr st (mirror (arrOf st) i j ((j - i) / 2))):=h.put (mirror_perm _ _ _ _) fun k hk=>by
 rw[getElem?_mirror_all (by rw[h.sb.size]; omega),if_neg (by omega)]
theorem Frm.bubble (h:Frm κ a₀ st0 lo hi st) {src d:Nat} (h1:lo≤src - d) (h2:src < hi) (h3:hi≤a₀.size) (h4:d≤src):Frm κ a₀ st0 lo hi (setArr st (bubble (arrOf st) src d)):=h.put (bubble_perm _ _ _) fun k hk=>by
 rw[getElem?_bubble (by rw[h.sb.size]; omega) d h4,if_neg (by omega),if_neg (by omega)]
end
def Up (κ : KeyKind) (xs:Array Keyed) (lo n:Nat):Prop:=∀i j,i≤j→j < n→κ.kle (KK κ xs (lo+i)) (KK κ xs (lo+j))
def Dn (κ : KeyKind) (xs:Array Keyed) (lo n:Nat):Prop:=∀i j,i≤j→j < n→κ.kle (KK κ xs (lo+j)) (KK κ xs (lo+i))
theorem Up.seg {κ : KeyKind}{xs:Array Keyed}{lo n:Nat} (h:Up κ xs lo n):Seg κ xs lo (lo+n):=fun i j p q h1 h2 h3 e1 e2=>by
 have:=h (i - lo) (j - lo) (by omega) (by omega)
 rw[show lo+(i - lo)=i by omega,show lo+(j - lo)=j by omega] at this
 unfold KK at this
 rw[e1,e2] at this
 exact this
theorem Up.more {κ : KeyKind}{xs:Array Keyed}{lo n:Nat} (h:Up κ xs lo n) (h1:1≤n) (hl : κ.kle (KK κ xs (lo+n - 1)) (KK κ xs (lo+n))):Up κ xs lo (n+1):=fun i j hij hj=>by
 by_cases c:j < n
 ·exact h i j hij c
 ·have e:j=n:=by omega
  subst e
  by_cases d:i=j
  ·subst d; exact KeyOrd.kle_refl _
  ·refine KeyOrd.kle_trans (h i (j - 1) (by omega) (by omega)) ?_
   rw[show lo+(j - 1)=lo+j - 1 by omega]; exact hl
theorem Dn.more {κ : KeyKind}{xs:Array Keyed}{lo n:Nat} (h:Dn κ xs lo n) (h1:1≤n) (hl : κ.kle (KK κ xs (lo+n)) (KK κ xs (lo+n - 1))):Dn κ xs lo (n+1):=fun i j hij hj=>by
 by_cases c:j < n
 ·exact h i j hij c
 ·have e:j=n:=by omega
  subst e
  by_cases d:i=j
  ·subst d; exact KeyOrd.kle_refl _
  ·refine KeyOrd.kle_trans ?_ (h i (j - 1) (by omega) (by omega))
   rw[show lo+(j - 1)=lo+j - 1 by omega]; exact hl
section
variable {prog:Program}{w:World}{A:Around}{E:Value→Shared→Prop}{s:Shared}{κ : KeyKind}{st:SortSt}{a₀ : Array Keyed}
theorem wpS_ltX {i j:Nat}{Q:Option Bool→SortSt→Prop} (hO : κ.OneLt) (hB:SB κ a₀ st) (h0:KeysOf κ a₀) (hi:i < a₀.size) (hj:j < a₀.size) (h:Q (some (κ.blt (KK κ (arrOf st) i) (KK κ (arrOf st) j))) st):wpS (model prog w) A E s (ltAt' i j) Q st:=by
 obtain⟨⟨x,p⟩,e1,a,ha⟩:=hB.at h0 hi
 obtain⟨⟨y,q⟩,e2,b,hb⟩:=hB.at h0 hj
 have ka:KK κ (arrOf st) i=a:=by unfold KK; rw[e1]; simp [ha]
 have kb:KK κ (arrOf st) j=b:=by unfold KK; rw[e2]; simp [hb]
 rw[ka,kb] at h
 exact wpS_ltAtK hO hB.kind e1 e2 ha hb h
theorem wpS_rev {i j:Nat}{Q:Unit→SortSt→Prop} (h:∀st',st'=setArr st (mirror (arrOf st) i j ((j - i) / 2))→Q () st'):wpS (model prog w) A E s (reverseSlice' i j) Q st:=by
 rw[reverseSlice'_eq]; exact wpS_modify (h _ rfl)
def cntRun:Nat→Nat→StateT SortSt Sem (Option Nat):=sortPriv% PySem.Builtin.countRun
def binSort:Nat→Nat→Nat→StateT SortSt Sem Bool:=sortPriv% PySem.Builtin.binarySort
theorem wpS_cntRun {lo nrem:Nat}{Q:Option Nat→SortSt→Prop} (hO : κ.OneLt) (h0:KeysOf κ a₀) (hn:lo+nrem≤a₀.size) (h1:1≤nrem) (hB:SB κ a₀ st)
  (h:∀m st',Frm κ a₀ st lo (lo+nrem) st'→1≤m→m≤nrem→Up κ (arrOf st') lo m→Q (some m) st'):wpS (model prog w) A E s (cntRun lo nrem) Q st:=by
 have fin:∀st1,Frm κ a₀ st lo (lo+nrem) st1→∀n,1≤n→n≤nrem→Dn κ (arrOf st1) lo n→Up κ (arrOf (setArr st1 (mirror (arrOf st1) lo (lo+n) ((lo+n - lo) / 2)))) lo n:=fun st1 F n n1 n2 hd i j hij hj=>by
  have hz:lo+n≤(arrOf st1).size:=by rw[F.sb.size]; omega
  show κ.kle (KK κ (mirror (arrOf st1) lo (lo+n) ((lo+n - lo) / 2)) (lo+i)) (KK κ (mirror (arrOf st1) lo (lo+n) ((lo+n - lo) / 2)) (lo+j))
  rw[KK_mirror hz,KK_mirror hz,if_pos (by omega),if_pos (by omega)]
  have:=hd (n - 1 - j) (n - 1 - i) (by omega) (by omega)
  rw[show lo+(n - 1 - j)=lo+(lo+n) - 1 - (lo+j) by omega,show lo+(n - 1 - i)=lo+(lo+n) - 1 - (lo+i) by omega] at this
  exact this
 have init:Up κ (arrOf st) lo 1:=fun i j hij hj=>by
  have:i=j:=by omega
  subst this; exact KeyOrd.kle_refl _
 refine wpS_bind (wpS_mono (wpS_forRange (I:=fun x c st'=>st'=st∧c=(none,x)∧Up κ (arrOf st) lo x) (Q:=fun c st'=>st'=st∧∃n,c=(none,n)∧1≤n∧n≤nrem∧Up κ (arrOf st) lo n∧(n=nrem∨κ.klt (KK κ (arrOf st) (lo+n)) (KK κ (arrOf st) (lo+n - 1)))) ?step ?fin ⟨rfl,rfl,init⟩) ?post)
 case fin =>
  rintro c st' ⟨rfl,rfl,u⟩
  rw[show max 1 nrem=nrem by omega] at u ⊢
  exact⟨rfl,nrem,rfl,h1,Nat.le_refl _,u,.inl rfl⟩
 case step =>
  rintro x c st' hx1 hx2 ⟨rfl,rfl,u⟩
  refine wpS_bind (wpS_ltX (i:=lo+x) (j:=lo+x - 1) hO hB h0 (by omega) (by omega) ?_)
  cases hl : κ.blt (KK κ (arrOf st') (lo+x)) (KK κ (arrOf st') (lo+x - 1)) with
  | true =>
   exact wpS_pure ⟨rfl,x,rfl,hx1,by omega,u,.inr hl⟩
  | false =>
   exact wpS_pure ⟨rfl,rfl,u.more hx1 hl⟩
 case post =>
  rintro c st' ⟨rfl,n,rfl,n1,n2,u,hor⟩
  refine wpS_ite (fun e=>wpS_pure (h n st' (.refl hB) n1 n2 u)) fun e=>?_
  have hne:n≠nrem:=fun z=>e (by show ((n:Nat) == nrem)=true; rw[z]; exact beq_self_eq_true _)
  have hlt : κ.klt (KK κ (arrOf st') (lo+n)) (KK κ (arrOf st') (lo+n - 1)):=hor.resolve_left hne
  apply wpS_ite
  case' h1 =>
   intro hgt
   have hgt':n > 1:=hgt
   refine wpS_bind (wpS_ltX (i:=lo) (j:=lo+n - 1) hO hB h0 (by omega) (by omega) ?_)
   cases hrose : κ.blt (KK κ (arrOf st') lo) (KK κ (arrOf st') (lo+n - 1))
   case true=>exact wpS_pure (h n st' (.refl hB) n1 n2 u)
   have hall:∀k,lo≤k→k < lo+n→KK κ (arrOf st') k=KK κ (arrOf st') (lo+n - 1):=fun k k1 k2=>by
    have a1:=u 0 (k - lo) (by omega) (by omega)
    have a2:=u (k - lo) (n - 1) (by omega) (by omega)
    rw[show lo+(k - lo)=k by omega] at a1 a2
    rw[show lo+(n - 1)=lo+n - 1 by omega] at a2
    exact KeyOrd.kle_antisymm a2 (KeyOrd.kle_trans hrose a1)
   refine wpS_bind (wpS_rev (i:=lo) (j:=lo+n) fun st1 hst=>?_)
   have hz:lo+n≤(arrOf st').size:=by rw[hB.size]; omega
   have F1:Frm κ a₀ st' lo (lo+nrem) st1:=by rw[hst]; exact (Frm.refl hB).mirror (Nat.le_refl _) (by omega) hn
   have D1:Dn κ (arrOf st1) lo (n+1):=by
    rw[hst]
    have e0:∀k,KK κ (arrOf (setArr st' (mirror (arrOf st') lo (lo+n) ((lo+n - lo) / 2)))) k=KK κ (arrOf st') k:=KK_mirror_equal hz hall
    have d0:Dn κ (arrOf (setArr st' (mirror (arrOf st') lo (lo+n) ((lo+n - lo) / 2)))) lo n:=fun i j hij hj=>by
     rw[e0,e0,hall (lo+i) (by omega) (by omega),hall (lo+j) (by omega) (by omega)]; exact KeyOrd.kle_refl _
    refine d0.more n1 ?_
    rw[e0,e0]; exact KeyOrd.kle_of_klt hlt
  case' h2 =>
   intro hgt
   have hn1:n=1:=by
    have:¬ n > 1:=hgt
    omega
   obtain⟨st1,e1⟩ : ∃st1,st1=st':=⟨_,rfl⟩
   have F1:Frm κ a₀ st' lo (lo+nrem) st1:=by rw[e1]; exact .refl hB
   have D1:Dn κ (arrOf st1) lo (n+1):=by
    rw[e1]
    have d0:Dn κ (arrOf st') lo n:=fun i j hij hj=>by
     have:i=j:=by omega
     subst this; exact KeyOrd.kle_refl _
    exact d0.more n1 (KeyOrd.kle_of_klt hlt)
   rw[← e1]
  all_goals (
   clear hlt hor u
   refine wpS_bind (wpS_lift (wpAny_rule ⟨rfl,?_⟩))
   refine wpS_bind (wpS_mono (wpS_forRange (I:=fun x c st2=>∃neq,c=(none,x,neq)∧Frm κ a₀ st' lo (lo+nrem) st2∧Dn κ (arrOf st2) lo x∧neq+1≤x∧∀k,lo+x - (neq+1)≤k→k < lo+x→KK κ (arrOf st2) k=KK κ (arrOf st2) (lo+x - 1))
    (Q:=fun c st2=>∃m neq,c=(none,m,neq)∧Frm κ a₀ st' lo (lo+nrem) st2∧n+1≤m∧m≤nrem∧Dn κ (arrOf st2) lo m∧neq+1≤m∧∀k,lo+m - (neq+1)≤k→k < lo+m→KK κ (arrOf st2) k=KK κ (arrOf st2) (lo+m - 1)) (fun x c st2 hx1 hx2 z=>?_) (fun c st2 z=>?_) ⟨0,rfl,F1,D1,by omega,fun k k1 k2=>by congr 1; omega⟩) fun c st2 z=>?_)
   ·obtain⟨neq,rfl,F2,D2,q1,q2⟩:=z
    have hz:lo+x≤(arrOf st2).size:=by rw[F2.sb.size]; omega
    refine wpS_bind (wpS_ltX (i:=lo+x) (j:=lo+x - 1) hO F2.sb h0 (by omega) (by omega) ?_)
    cases hl : κ.blt (KK κ (arrOf st2) (lo+x)) (KK κ (arrOf st2) (lo+x - 1)) with
    | true =>
     refine wpS_ite (fun _=>wpS_ite (fun hq=>?_) fun hq=>?_) fun z=>absurd rfl z
     ·refine wpS_bind (wpS_rev (i:=lo+x - (neq+1)) (j:=lo+x) fun st3 hst=>wpS_pure ?_)
      have e0:∀k,KK κ (arrOf st3) k=KK κ (arrOf st2) k:=by rw[hst]; exact KK_mirror_equal hz q2
      have d0:Dn κ (arrOf st3) lo x:=fun i j hij hj=>by rw[e0,e0]; exact D2 i j hij hj
      exact⟨0,rfl,by rw[hst]; exact F2.mirror (by omega) (by omega) hn,d0.more (by omega) (by rw[e0,e0]; exact KeyOrd.kle_of_klt hl),by omega,fun k k1 k2=>by congr 1; omega⟩
     ·exact wpS_pure ⟨0,rfl,F2,D2.more (by omega) (KeyOrd.kle_of_klt hl),by omega,fun k k1 k2=>by congr 1; omega⟩
    | false =>
     refine wpS_bind (wpS_ltX (i:=lo+x - 1) (j:=lo+x) hO F2.sb h0 (by omega) (by omega) ?_)
     cases hg : κ.blt (KK κ (arrOf st2) (lo+x - 1)) (KK κ (arrOf st2) (lo+x)) with
     | true=>exact wpS_pure ⟨x,neq,rfl,F2,hx1,by omega,D2,q1,q2⟩
     | false =>
      have heq:KK κ (arrOf st2) (lo+x)=KK κ (arrOf st2) (lo+x - 1):=KeyOrd.kle_antisymm hg hl
      refine wpS_pure ⟨neq+1,rfl,F2,D2.more (by omega) (by rw[heq]; exact KeyOrd.kle_refl _),by omega,fun k k1 k2=>?_⟩
      rw[show lo+(x+1) - 1=lo+x by omega]
      by_cases c:k=lo+x
      ·rw[c]
      ·rw[heq]; exact q2 k (by omega) (by omega)
   ·obtain⟨neq,rfl,F2,D2,q1,q2⟩:=z
    rw[show max (n+1) nrem=nrem by omega] at D2 q1 q2 ⊢
    exact⟨nrem,neq,rfl,F2,by omega,Nat.le_refl _,D2,q1,q2⟩
   ·obtain⟨m,neq,rfl,F2,m1,m2,D2,q1,q2⟩:=z
    have hz:lo+m≤(arrOf st2).size:=by rw[F2.sb.size]; omega
    apply wpS_ite
    case' h1 =>
     intro hq
     refine wpS_bind (wpS_rev (i:=lo+m - (neq+1)) (j:=lo+m) fun st3 hst=>?_)
     have e0:∀k,KK κ (arrOf st3) k=KK κ (arrOf st2) k:=by rw[hst]; exact KK_mirror_equal hz q2
     have D3:Dn κ (arrOf st3) lo m:=fun i j hij hj=>by rw[e0,e0]; exact D2 i j hij hj
     have F3:Frm κ a₀ st' lo (lo+nrem) st3:=by rw[hst]; exact F2.mirror (by omega) (by omega) hn
     clear hst e0
    case' h2 =>
     intro hq
     obtain⟨st3,e3⟩ : ∃st3,st3=st2:=⟨_,rfl⟩
     have D3:Dn κ (arrOf st3) lo m:=by rw[e3]; exact D2
     have F3:Frm κ a₀ st' lo (lo+nrem) st3:=by rw[e3]; exact F2
     rw[← e3]
     clear e3
    all_goals (
     refine wpS_bind (wpS_rev (i:=lo) (j:=lo+m) fun st4 hst=>?_)
     have U4:Up κ (arrOf st4) lo m:=by rw[hst]; exact fin st3 F3 m (by omega) m2 D3
     have F4:Frm κ a₀ st' lo (lo+nrem) st4:=by rw[hst]; exact F3.mirror (Nat.le_refl _) (by omega) hn
     refine wpS_bind (wpS_mono (wpS_forRange (I:=fun x c st5=>st5=st4∧c=(none,x)∧Up κ (arrOf st4) lo x) (Q:=fun c st5=>st5=st4∧∃n,c=(none,n)∧1≤n∧n≤nrem∧Up κ (arrOf st4) lo n) (fun x c st5 hx1 hx2 z=>?_) (fun c st5 z=>?_) ⟨rfl,rfl,U4⟩) fun c st5 z=>?_)
     ·obtain⟨rfl,rfl,u⟩:=z
      have hx1':m≤x:=hx1
      have hx2':x < nrem:=hx2
      refine wpS_bind (wpS_ltX (i:=lo+x) (j:=lo+x - 1) hO F4.sb h0 (by omega) (by omega) ?_)
      cases hl : κ.blt (KK κ (arrOf st5) (lo+x)) (KK κ (arrOf st5) (lo+x - 1)) with
      | true=>exact wpS_pure ⟨rfl,x,rfl,by omega,by omega,u⟩
      | false=>exact wpS_pure ⟨rfl,rfl,u.more (by omega) hl⟩
     ·obtain⟨rfl,rfl,u⟩:=z
      rw[show max m nrem=nrem by omega] at u ⊢
      exact⟨rfl,nrem,rfl,h1,Nat.le_refl _,u⟩
     ·obtain⟨rfl,n',rfl,b1,b2,u⟩:=z
      exact wpS_pure (h n' st5 F4 b1 b2 u)))
theorem wpS_binSort {lo n ok:Nat}{Q:Bool→SortSt→Prop} (hO : κ.OneLt) (h0:KeysOf κ a₀) (hn:lo+n≤a₀.size) (hok:ok≤n) (hB:SB κ a₀ st) (hs:Up κ (arrOf st) lo ok)
  (h:∀st',Frm κ a₀ st lo (lo+n) st'→Up κ (arrOf st') lo n→Q true st'):wpS (model prog w) A E s (binSort lo n ok) Q st:=by
 refine wpS_bind (wpS_mono (wpS_forRange (I:=fun k c st'=>c=(none,())∧Frm κ a₀ st lo (lo+n) st'∧Up κ (arrOf st') lo (min k n)) (Q:=fun c st'=>c=(none,())∧Frm κ a₀ st lo (lo+n) st'∧Up κ (arrOf st') lo n) (fun k c st1 hk1 hk2 z=>?_) (fun c st' z=>?_) ⟨rfl,.refl hB,?_⟩) fun c st' z=>?_)
 rotate_left
 ·obtain⟨hc,F,u⟩:=z
  rw[show min (max (max ok 1) n) n=n by omega] at u
  exact⟨hc,F,u⟩
 ·intro i j hij hj
  by_cases c:ok=0
  ·have:i=j:=by omega
   subst this; exact KeyOrd.kle_refl _
  ·exact hs i j hij (by omega)
 ·obtain⟨rfl,F,u⟩:=z
  exact wpS_pure (h st' F u)
 obtain⟨rfl,F1,u⟩:=z
 rw[show min k n=k by omega] at u
 have hk:lo+k < a₀.size:=by omega
 refine wpS_bind (wpS_mono (wpS_forRange (I:=fun x c st2=>st2=st1∧∃l r,c=(none,l,r)∧l≤r∧r≤k∧r - l≤k - x∧(∀i,i < l→κ.kle (KK κ (arrOf st1) (lo+i)) (KK κ (arrOf st1) (lo+k)))∧(∀i,r≤i→i < k→κ.klt (KK κ (arrOf st1) (lo+k)) (KK κ (arrOf st1) (lo+i))))
  (Q:=fun c st2=>st2=st1∧∃l r,c=(none,l,r)∧l≤k∧(∀i,i < l→κ.kle (KK κ (arrOf st1) (lo+i)) (KK κ (arrOf st1) (lo+k)))∧(∀i,l≤i→i < k→κ.klt (KK κ (arrOf st1) (lo+k)) (KK κ (arrOf st1) (lo+i)))) (fun x c st2 hx1 hx2 z=>?_) (fun c st2 z=>?_) ⟨rfl,0,k,rfl,Nat.zero_le _,Nat.le_refl _,by omega,fun i hi=>by omega,fun i h1 h2=>by omega⟩) fun c st2 z=>?_)
 ·obtain⟨rfl,l,r,rfl,b1,b2,b3,b4,b5⟩:=z
  refine wpS_ite (fun hge=>?_) fun hge=>?_
  ·have hge':l ≥ r:=hge
   have:l=r:=by omega
   subst this
   exact wpS_pure ⟨rfl,l,l,rfl,b2,b4,b5⟩
  have hge':¬ l ≥ r:=hge
  refine wpS_bind (wpS_ltX (i:=lo+k) (j:=lo+(l+r) / 2) hO F1.sb h0 hk (by omega) ?_)
  cases hl : κ.blt (KK κ (arrOf st2) (lo+k)) (KK κ (arrOf st2) (lo+(l+r) / 2)) with
  | true=>exact wpS_pure ⟨rfl,l,(l+r) / 2,rfl,by omega,by omega,by omega,b4,fun i h1 h2=>KeyOrd.klt_of_klt_of_kle hl (u _ _ h1 h2)⟩
  | false=>exact wpS_pure ⟨rfl,(l+r) / 2+1,r,rfl,by omega,by omega,by omega,fun i h1=>KeyOrd.kle_trans (u i ((l+r) / 2) (by omega) (by omega)) hl,b5⟩
 ·obtain⟨rfl,l,r,rfl,b1,b2,b3,b4,b5⟩:=z
  have b3':r - l≤k - max 0 k:=b3
  have:l=r:=by omega
  subst this
  exact⟨rfl,l,l,rfl,b2,b4,b5⟩
 ·obtain⟨rfl,l,r,rfl,b1,b4,b5⟩:=z
  have hz:lo+k < (arrOf st2).size:=by rw[F1.sb.size]; exact hk
  refine wpS_bind (wpS_modify (wpS_pure ⟨rfl,F1.bubble (src:=lo+k) (d:=lo+k - (lo+l)) (by omega) (by omega) hn (by omega),?_⟩))
  rw[show min (k+1) n=k+1 by omega]
  intro i j hij hj
  show κ.kle (KK κ (bubble (arrOf st2) (lo+k) (lo+k - (lo+l))) (lo+i)) (KK κ (bubble (arrOf st2) (lo+k) (lo+k - (lo+l))) (lo+j))
  rw[KK_bubble hz (by omega),KK_bubble hz (by omega),show lo+k - (lo+k - (lo+l))=lo+l by omega]
  by_cases c1:lo+j=lo+l
  ·rw[if_pos c1]
   by_cases c2:lo+i=lo+l
   ·rw[if_pos c2]; exact KeyOrd.kle_refl _
   ·rw[if_neg c2,if_neg (by omega)]; exact b4 i (by omega)
  ·rw[if_neg c1]
   by_cases c3:lo+l < lo+j∧lo+j≤lo+k
   ·rw[if_pos c3,show lo+j - 1=lo+(j - 1) by omega]
    by_cases c2:lo+i=lo+l
    ·rw[if_pos c2]; exact KeyOrd.kle_of_klt (b5 _ (by omega) (by omega))
    ·rw[if_neg c2]
     by_cases c4:lo+l < lo+i∧lo+i≤lo+k
     ·rw[if_pos c4,show lo+i - 1=lo+(i - 1) by omega]; exact u _ _ (by omega) (by omega)
     ·rw[if_neg c4]; exact u _ _ (by omega) (by omega)
   ·rw[if_neg c3,if_neg (by omega),if_neg (by omega)]; exact u _ _ (by omega) (by omega)
end
end SG
end
section
set_option maxRecDepth 100000
set_option maxHeartbeats 1000000
namespace SG
open PySem PyProof.Rows
abbrev Rn:=Nat×Nat×Nat
def Chain (κ : KeyKind) (xs:Array Keyed):List Rn→Nat→Nat→Prop
 | [],s,e=>s=e
 | t::r,s,e=>t.1=s∧1≤t.2.1∧Seg κ xs s (s+t.2.1)∧Chain κ xs r (s+t.2.1) e
section
variable {κ : KeyKind}{xs ys:Array Keyed}
theorem Chain.app:∀{L M:List Rn}{s e:Nat},Chain κ xs (L++M) s e↔∃m,Chain κ xs L s m∧Chain κ xs M m e
 | [],M,s,e=>⟨fun h=>⟨s,rfl,h⟩,fun ⟨m,h1,h2⟩=>by cases h1; exact h2⟩
 | t::r,M,s,e=>by
  constructor
  ·rintro⟨h1,h2,h3,h4⟩
   obtain⟨m,a,b⟩:=Chain.app.mp h4
   exact⟨m,⟨h1,h2,h3,a⟩,b⟩
  ·rintro⟨m,⟨h1,h2,h3,a⟩,b⟩
   exact⟨h1,h2,h3,Chain.app.mpr ⟨m,a,b⟩⟩
theorem Chain.len:∀{L:List Rn}{s e:Nat},Chain κ xs L s e→s+L.length≤e
 | [],s,e,h=>by cases h; exact Nat.le_refl _
 | t::r,s,e,⟨_,h2,_,h4⟩=>by
  have:=h4.len
  rw[List.length_cons]; omega
theorem Chain.keep:∀{L:List Rn}{s e:Nat},Chain κ xs L s e→(∀k,s≤k→k < e→ys[k]?=xs[k]?)→Chain κ ys L s e
 | [],s,e,h,_=>h
 | t::r,s,e,⟨h1,h2,h3,h4⟩,hk=>by
  have:=h4.len
  exact⟨h1,h2,fun i j p q a1 a2 a3 e1 e2=>h3 i j p q a1 a2 a3 (by rw[← hk i (by omega) (by omega)]; exact e1) (by rw[← hk j (by omega) (by omega)]; exact e2),h4.keep fun k a b=>hk k (by omega) b⟩
theorem Chain.pow (pw:Nat):∀{L:List Rn}{s e:Nat} (i:Nat),Chain κ xs L s e→Chain κ xs (L.modify i fun t=>(t.1,t.2.1,pw)) s e
 | [],s,e,i,h=>by cases i <;> exact h
 | t::r,s,e,0,⟨h1,h2,h3,h4⟩=>⟨h1,h2,h3,h4⟩
 | t::r,s,e,i+1,⟨h1,h2,h3,h4⟩=>⟨h1,h2,h3,h4.pow pw i⟩
theorem split_two {L:List Rn}{i:Nat} (h:i+1 < L.length):∃L1 x y L2,L=L1++x::y::L2∧L1.length=i:=by
 refine⟨L.take i,L[i],L[i+1],L.drop (i+2),?_,by rw[List.length_take]; omega⟩
 conv=>lhs; rw[← List.take_append_drop i L]
 rw[List.drop_eq_getElem_cons (show i < L.length by omega),List.drop_eq_getElem_cons h]
end
structure RR (κ : KeyKind) (a₀ : Array Keyed) (lo:Nat) (st:SortSt):Prop where
 sb:SB κ a₀ st
 ch:Chain κ (arrOf st) (pendingOf st).toList 0 lo
section
variable {prog:Program}{w:World}{A:Around}{E:Value→Shared→Prop}{s:Shared}{κ : KeyKind}{st:SortSt}{a₀ : Array Keyed}
theorem wpS_mergeR {i lo:Nat}{Q:Bool→SortSt→Prop} (hO : κ.OneLt) (h0:KeysOf κ a₀) (R:RR κ a₀ lo st) (hi:i+1 < (pendingOf st).size) (hl:lo≤a₀.size)
  (h:∀st',RR κ a₀ lo st'→(pendingOf st').size+1=(pendingOf st).size→(∀k,lo≤k→(arrOf st')[k]?=(arrOf st)[k]?)→Q true st'):wpS (model prog w) A E s (mergeAt' i) Q st:=by
 obtain⟨L1,x,y,L2,eL,l1⟩:=split_two (L:=(pendingOf st).toList) (i:=i) (by rw[Array.length_toList]; exact hi)
 obtain⟨sa,na,pw⟩:=x
 obtain⟨sb,nb,pw2⟩:=y
 have ch:=R.ch
 rw[eL] at ch
 obtain⟨m,c1,b1,b2,b3,b4,b5,b6,c2⟩:=Chain.app.mp ch
 have b1:sa=m:=b1
 have b4:sb=m+na:=b4
 have b2:1≤na:=b2
 have b5:1≤nb:=b5
 subst b1
 have z1:=c1.len
 have z2:=c2.len
 have z2:sa+na+nb+L2.length≤lo:=z2
 have e1:(pendingOf st)[i]?=some (sa,na,pw):=by rw[← Array.getElem?_toList,eL,List.getElem?_append_right (by omega),l1,Nat.sub_self]; rfl
 have e2:(pendingOf st)[i+1]?=some (sb,nb,pw2):=by rw[← Array.getElem?_toList,eL,List.getElem?_append_right (by omega),show i+1 - L1.length=1 by omega]; rfl
 refine wpS_mergeAt hO h0 R.sb e1 e2 b4 b2 b5 (by omega) b3 (by rw[b4]; exact b6) fun st' B' p' s' o'=>?_
 have eP:(pendingOf st').toList=L1++(sa,na+nb,pw)::L2:=by
  rw[p',Array.toList_eraseIdxIfInBounds,Array.toList_setIfInBounds,eL,List.set_append_right _ _ (by omega),List.eraseIdx_append_of_length_le (by omega),show i - L1.length=0 by omega,show i+1 - L1.length=1 by omega]; rfl
 refine h st' ⟨B',?_⟩ ?_ fun k hk=>o' k (.inr (by omega))
 ·rw[eP]
  refine Chain.app.mpr ⟨sa,c1.keep fun k _ hk=>o' k (.inl hk),rfl,?_,s',?_⟩
  ·show 1≤na+nb; omega
  ·have:=c2.keep (ys:=arrOf st') fun k hk _=>o' k (.inr (by have:sa+na+nb≤k:=hk; omega))
   show Chain κ (arrOf st') L2 (sa+(na+nb)) lo
   rw[← Nat.add_assoc]; exact this
 ·have h1:=congrArg List.length eP
  have h2:=congrArg List.length eL
  rw[Array.length_toList,List.length_append,List.length_cons] at h1
  rw[Array.length_toList,List.length_append,List.length_cons,List.length_cons] at h2
  omega
theorem less {N:Nat} (h:¬ N≤1) {c:Prop} [Decidable c]:(if c then N - 2 - 1 else N - 2)+1 < N:=by split <;> omega
theorem wpS_sortAny {Q:Unit→SortSt→Prop} (hO : κ.OneLt) (h0:KeysOf κ a₀) (hB:SB κ a₀ st) (hp:pendingOf st=#[])
  (h:∀st',SB κ a₀ st'→Seg κ (arrOf st') 0 a₀.size→Q () st'):wpS (model prog w) A E s sortRuns' Q st:=by
 refine wpS_bind (wpS_get ?_)
 have hsz:(arrOf st).size=a₀.size:=hB.size
 refine wpS_bind (wpS_mono (wpS_forRange (I:=fun x c st'=>c.1=none∧RR κ a₀ c.2 st'∧c.2≤a₀.size∧(x≤c.2∨c.2=a₀.size)) (Q:=fun c st'=>c.1=none∧RR κ a₀ a₀.size st') (fun x c st1 hx1 hx2 z=>?_) (fun c st' z=>?_) ⟨rfl,⟨hB,?_⟩,Nat.zero_le _,.inl (Nat.le_refl _)⟩) fun c st' z=>?_)
 rotate_left
 ·obtain⟨e,R,l1,l2⟩:=z
  refine⟨e,?_⟩
  have:c.2=a₀.size:=by
   rcases l2 with l2 | l2
   ·have l2':max 0 (arrOf st).size≤c.2:=l2
    omega
   ·exact l2
  rw[this] at R; exact R
 ·rw[hp]; rfl
 ·obtain⟨c0,lo⟩:=c
  obtain⟨e,R⟩:=z
  cases e
  refine wpS_bind (wpS_mono (wpS_forRange (I:=fun x c st2=>c=(none,())∧RR κ a₀ a₀.size st2∧((pendingOf st2).size+x≤a₀.size+0∨(pendingOf st2).size≤1)) (Q:=fun c st2=>c=(none,())∧RR κ a₀ a₀.size st2∧(pendingOf st2).size≤1) (fun x c st2 hx1 hx2 z=>?_) (fun c st2 z=>?_) ⟨rfl,R,?_⟩) fun c st2 z=>?_)
  rotate_left
  ·obtain⟨e,R2,l⟩:=z
   refine⟨e,R2,?_⟩
   have l':(pendingOf st2).size+max 0 (arrOf st).size≤a₀.size+0∨(pendingOf st2).size≤1:=l
   omega
  ·have:=R.ch.len
   rw[Array.length_toList] at this
   exact .inl (by omega)
  ·obtain⟨rfl,R2,l⟩:=z
   refine wpS_pure (h st2 R2.sb ?_)
   have ch:=R2.ch
   have ll:(pendingOf st2).toList.length≤1:=by rw[Array.length_toList]; exact l
   cases eL:(pendingOf st2).toList with
   | nil =>
    rw[eL] at ch
    have ch:0=a₀.size:=ch
    intro i j p q a1 a2 a3
    omega
   | cons t r =>
    rw[eL,List.length_cons] at ll
    have hr:r=[]:=List.length_eq_zero_iff.mp (by omega)
    rw[eL,hr] at ch
    obtain⟨_,_,sg,ee⟩:=ch
    have ee:0+t.2.1=a₀.size:=ee
    rw[ee] at sg; exact sg
  obtain⟨rfl,R2,l⟩:=z
  refine wpS_bind (wpS_get ?_)
  refine wpS_ite (fun e=>wpS_pure ⟨rfl,R2,e⟩) fun e=>?_
  have e':¬ (pendingOf st2).size≤1:=e
  refine wpS_bind (wpS_mergeR hO h0 R2 (less e') (Nat.le_refl _) fun st3 R3 l3 _=>?_)
  exact wpS_pure ⟨rfl,R3,by omega⟩
 obtain⟨c0,lo⟩:=c
 obtain⟨e,R,l1,l2⟩:=z
 cases e
 dsimp only at R l1 l2
 refine wpS_ite (fun e=>wpS_pure ⟨rfl,?_⟩) fun e=>?_
 ·have e':lo ≥ (arrOf st).size:=e
  rw[show lo=a₀.size by omega] at R; exact R
 have e':¬ lo ≥ (arrOf st).size:=e
 refine wpS_bind (wpS_cntRun (lo:=lo) (nrem:=(arrOf st).size - lo) hO h0 (by omega) (by omega) R.sb fun m st2 F2 m1 m2 U2=>?_)
 apply wpS_ite
 case' h1 =>
  intro hm
  refine wpS_bind (wpS_lift (wpAny_rule ⟨rfl,?_⟩))
  have hm':m < minRun' (arrOf st).size (arrOf st).size 0:=hm
  refine wpS_bind (wpS_binSort (lo:=lo) (n:=min ((arrOf st).size - lo) (minRun' (arrOf st).size (arrOf st).size 0)) (ok:=m) hO h0 (by generalize minRun' (arrOf st).size (arrOf st).size 0=mr; omega) (by generalize minRun' (arrOf st).size (arrOf st).size 0=mr at hm' ⊢; omega) F2.sb U2 fun st3 F3 U3=>?_)
  have hmm:1≤min ((arrOf st).size - lo) (minRun' (arrOf st).size (arrOf st).size 0)∧lo+min ((arrOf st).size - lo) (minRun' (arrOf st).size (arrOf st).size 0)≤a₀.size:=by
   generalize minRun' (arrOf st).size (arrOf st).size 0=mr at hm' ⊢
   omega
  refine wpS_ite (fun z=>absurd z (by decide)) fun _=>?_
  have R3:RR κ a₀ lo st3:=⟨F3.sb,by rw[F3.pend,F2.pend]; exact R.ch.keep fun k _ hk=>(F3.out k (.inl hk)).trans (F2.out k (.inl hk))⟩
  obtain⟨n1,n2⟩:=hmm
  have S3:=U3.seg
  clear F3 U3
  obtain⟨n,hn⟩ : ∃n,n=min ((arrOf st).size - lo) (minRun' (arrOf st).size (arrOf st).size 0):=⟨_,rfl⟩
  rw[← hn] at n1 n2 S3
 case' h2 =>
  intro hm
  obtain⟨st3,e3⟩ : ∃st3,st3=st2:=⟨_,rfl⟩
  have R3:RR κ a₀ lo st3:=by rw[e3]; exact⟨F2.sb,by rw[F2.pend]; exact R.ch.keep fun k _ hk=>F2.out k (.inl hk)⟩
  have n1:1≤m:=m1
  have n2:lo+m≤a₀.size:=by omega
  have S3:Seg κ (arrOf st3) lo (lo+m):=by rw[e3]; exact U2.seg
  rw[← e3]
  clear e3
  obtain⟨n,hn⟩ : ∃n,n=m:=⟨_,rfl⟩
  rw[← hn] at n1 n2 S3
 all_goals (
  have push:∀st4,RR κ a₀ lo st4→Seg κ (arrOf st4) lo (lo+n)→RR κ a₀ (lo+n) (setPending st4 ((pendingOf st4).push (lo,n,0))):=fun st4 R4 S4=>⟨⟨R4.sb.perm,R4.sb.kind,R4.sb.failed⟩,by
   show Chain κ (arrOf st4) ((pendingOf st4).push (lo,n,0)).toList 0 (lo+n)
   rw[Array.toList_push]
   exact Chain.app.mpr ⟨lo,R4.ch,rfl,n1,S4,rfl⟩⟩
  refine wpS_bind (wpS_get ?_)
  cases eb:(pendingOf st3).back? with
  | none =>
   subst hn
   exact wpS_bind (wpS_modify (wpS_pure ⟨rfl,push st3 R3 S3,n2,.inl (by omega)⟩))
  | some t =>
   obtain⟨s1,n0,pw0⟩:=t
   refine wpS_bind (wpS_mono (wpS_forRange (I:=fun y c st4=>c=(none,())∧RR κ a₀ lo st4∧∀k,lo≤k→(arrOf st4)[k]?=(arrOf st3)[k]?) (Q:=fun c st4=>c=(none,())∧RR κ a₀ lo st4∧∀k,lo≤k→(arrOf st4)[k]?=(arrOf st3)[k]?) (fun y c st4 hy1 hy2 z=>?_) (fun c st4 z=>z) ⟨rfl,R3,fun _ _=>rfl⟩) fun c st4 z=>?_)
   ·obtain⟨rfl,R4,o4⟩:=z
    refine wpS_bind (wpS_get ?_)
    dsimp only
    by_cases hp1:(pendingOf st4).size > 1
    ·have e5:(if (pendingOf st4).size > 1 then (pendingOf st4)[(pendingOf st4).size - 2]? else none)=some ((pendingOf st4)[(pendingOf st4).size - 2]'(by omega)):=by rw[if_pos hp1]; exact Array.getElem?_eq_getElem _
     generalize (pendingOf st4)[(pendingOf st4).size - 2]'(by omega)=u at e5
     obtain⟨u1,u2,u3⟩:=u
     rw[show (if ((sortPriv% PySem.Builtin.SortState.pending) st4).size > 1 then ((sortPriv% PySem.Builtin.SortState.pending) st4)[((sortPriv% PySem.Builtin.SortState.pending) st4).size - 2]? else none)=some (u1,u2,u3) from e5]
     refine wpS_ite (fun _=>wpS_pure ⟨rfl,R4,o4⟩) fun _=>?_
     refine wpS_bind (wpS_mergeR hO h0 R4 (show (pendingOf st4).size - 2+1 < (pendingOf st4).size by omega) l1 fun st5 R5 l5 o5=>?_)
     exact wpS_pure ⟨rfl,R5,fun k hk=>(o5 k hk).trans (o4 k hk)⟩
    ·rw[show (if ((sortPriv% PySem.Builtin.SortState.pending) st4).size > 1 then ((sortPriv% PySem.Builtin.SortState.pending) st4)[((sortPriv% PySem.Builtin.SortState.pending) st4).size - 2]? else none)=none from if_neg hp1]
     exact wpS_pure ⟨rfl,R4,o4⟩
   ·obtain⟨rfl,R4,o4⟩:=z
    refine wpS_bind (wpS_modify (wpS_bind (wpS_modify ?_)))
    subst hn
    refine wpS_pure ⟨rfl,push _ ⟨⟨R4.sb.perm,R4.sb.kind,R4.sb.failed⟩,?_⟩ (fun i j p q a1 a2 a3 e1 e2=>S3 i j p q a1 a2 a3 (by rw[← o4 i a1]; exact e1) (by rw[← o4 j (by omega)]; exact e2)),n2,.inl (by omega)⟩
    show Chain κ (arrOf st4) ((pendingOf st4).modify ((pendingOf st4).size - 1) _).toList 0 lo
    rw[Array.toList_modify]
    exact R4.ch.pow _ _)
end
end SG
end
section
set_option maxRecDepth 100000
set_option maxHeartbeats 1000000
namespace SG
open PySem PyProof.Rows
section
variable {prog:Program}{w:World}{A:Around}{E:Value→Shared→Prop}{s:Shared}
theorem seg_sorted {κ : KeyKind}{a₀ : Array Keyed}{st:SortSt} (B:SB κ a₀ st) (h:Seg κ (arrOf st) 0 a₀.size):SortedToK κ (arrOf st) a₀.size:=fun i j hij hj=>by
 have z:=B.size
 have e1:(arrOf st)[i]?=some ((arrOf st)[i]'(by omega)):=Array.getElem?_eq_getElem _
 have e2:(arrOf st)[j]?=some ((arrOf st)[j]'(by omega)):=Array.getElem?_eq_getElem _
 have:=h i j _ _ (Nat.zero_le _) hij hj e1 e2
 unfold KK
 rw[e1,e2]; exact this
theorem list_sort_any {κ : KeyKind} (hO : κ.OneLt) {a:Addr}{vs:List Value}{n:Nat}{P:PySem.Fin→Shared→Prop} (ho:s.heap.get? a=some (seqObj "list" vs.toArray n)) (h0:KeysOf κ (pairsOf vs)) (hkk:∀v₁ v₂ rest,vs=v₁::v₂::rest→keyKind' (v₁::v₂::rest).toArray=pure oneType') (hz:vs.length≤sizeLine)
  (h:∀st':SortSt,(arrOf st').Perm (pairsOf vs)→SortedToK κ (arrOf st') (pairsOf vs).size→P (.done (.ret .none)) { s with heap:=sortedHeap s.heap a vs ((arrOf st').map (·.2)) }):wpAny (model prog w) A (Builtin.«list.sort» ⟨[.ref a],[]⟩) P E s:=by
 rw[list_sort_plain]; have ha:a < s.heap.objs.size:=Heap.lt_size ho
 refine wpAny_bind (listItems_at ho rfl (wpAny_bind (listUpdate_at ho rfl ?_)))
 obtain⟨e1,ho1⟩ : ∃e1,(s.heap.update a (Obj.mapSeq fun _=>#[])).get? a=some (seqObj "list" #[] e1):=⟨_,get?_update_seq ho (fun _=>#[])⟩
 refine wpAny_bind (seqEpoch_at ho1 rfl (wpAny_bind (wpAny_newTuple (wpAny_bind (wpAny_newList (wpAny_holding ?_))) (by show vs.toArray.size≤sizeLine; rw[List.size_toArray]; exact hz))))
 have ho6:(((s.heap.update a (Obj.mapSeq fun _=>#[])).push (seqObj "tuple" vs.toArray 0)).push (seqObj "list" #[] 0)).get? a=some (seqObj "list" #[] e1):=by rw[Heap.get?_push_ne _ _ _ (by rw[size_push',Heap.size_update]; exact Nat.ne_of_lt (Nat.lt_succ_of_lt ha)),Heap.get?_push_ne _ _ _ (by rw[Heap.size_update]; exact Nat.ne_of_lt ha)]; exact ho1
 show wpAny (model prog w) A _ P E { s with heap:=((s.heap.update a (Obj.mapSeq fun _=>#[])).push (seqObj "tuple" vs.toArray 0)).push (seqObj "list" #[] 0) }; dsimp only
 have hsz:vs.toArray.size=vs.length:=by simp
 by_cases h2:vs.toArray.size < 2
 ·rw[if_pos h2,if_pos h2]; refine wpAny_bind (wpAny_pure ?_); rw[StateT.run_pure]; refine wpAny_bind (wpAny_pure ?_); dsimp only
  refine wpAny_bind (seqEpoch_at ho6 rfl (wpAny_bind (listUpdate_at ho6 rfl ?_ (hsz2:=by rw[Array.size_map]; show (pairsOf vs).size≤_; rw[pairsOf_size]; exact Nat.le_succ_of_le hz))))
  simp only[bne_self_eq_false,Bool.false_eq_true,if_false]; refine wpAny_pure (h (SortSt.mk' general' (vs.toArray.zip vs.toArray) #[] 7 none) (Array.Perm.refl _) fun i j hij hj=>?_)
  have:i=j:=by rw[pairsOf_size] at hj; omega
  subst this; exact KeyOrd.kle_refl _
 ·rw[if_neg h2,if_neg h2]
  obtain⟨v₁,v₂,rest,rfl⟩ : ∃v₁ v₂ rest,vs=v₁::v₂::rest:=match vs,hsz,h2 with
   | [],_,h2=>absurd (show 0 < 2 by decide) h2
   | [_],_,h2=>absurd (show 1 < 2 by decide) h2
   | v₁::v₂::rest,_,_=>⟨v₁,v₂,rest,rfl⟩
  rw[hkk _ _ _ rfl]; refine wpAny_bind (wpAny_pure ?_)
  refine wpAny_bind (wpAny_mono (wpS_sortAny (κ:=κ) hO (a₀:=pairsOf (v₁::v₂::rest)) (st:=SortSt.mk' oneType' ((v₁::v₂::rest).toArray.zip (v₁::v₂::rest).toArray) #[] 7 none) (Q:=fun _ st'=>SB κ (pairsOf (v₁::v₂::rest)) st'∧Seg κ (arrOf st') 0 (pairsOf (v₁::v₂::rest)).size) h0 ⟨Array.Perm.refl _,rfl,rfl⟩ rfl fun st' a1 a2=>⟨a1,a2⟩) ?_ fun _ _ e=>e)
  rintro⟨⟨⟩,st'⟩ s' ⟨rfl,hp,hs⟩; dsimp only
  refine wpAny_bind (seqEpoch_at ho6 rfl (wpAny_bind (listUpdate_at ho6 rfl ?_ (hsz2:=by refine Nat.le_trans (Nat.le_of_eq ((Array.size_map ..).trans (hp.perm.size_eq.trans (pairsOf_size _)))) (Nat.le_succ_of_le hz)))))
  rw[hp.failed]; simp only[bne_self_eq_false,Bool.false_eq_true,if_false]; exact wpAny_pure (h st' hp.perm (seg_sorted hp hs))
theorem sorted_any {l:Addr}{vs:List Value}{ss:List Str}{Q:Value→Shared→Prop} (hl:s.heap.IsList l vs.toArray) (hst:StrsAre vs ss) (hz:vs.length≤sizeLine)
  (h:∀out ss',StrsAre out.toList ss'→ss'.Perm ss→sortedS ss'=true→Q (.ref (s.heap.objs.size+1)) { s with heap:=sortedAll s.heap vs out }):wpAny (model prog w) A (call (.builtin "sorted") [.ref l]) Q E s:=by
 refine Calls.call_function_entry kind_sorted plain_sorted entry_sorted (args_sorted1 _) ?_; unfold Builtin.«sorted»
 refine wpAny_bind (m:=checkCount "sorted" 1 1 _) (wpAny_pure (wpAny_bind (collect_list hl (wpAny_bind (wpAny_newList ?_ (by show vs.toArray.size≤sizeLine; rw[List.size_toArray]; exact hz))) (by first | (show vs.toArray.size≤sizeLine; rw[List.size_toArray]; exact hz) | skip))))
 have hsz:((s.heap.push (seqObj "list" #[] 0)).update s.heap.objs.size (Obj.mapSeq (·++vs.toArray))).objs.size=s.heap.objs.size+1:=by rw[Heap.size_update,size_push']
 have hoL:(((s.heap.push (seqObj "list" #[] 0)).update s.heap.objs.size (Obj.mapSeq (·++vs.toArray))).push (seqObj "list" vs.toArray 0)).get? (s.heap.objs.size+1)=some (seqObj "list" vs.toArray 0):=by rw[← hsz]; exact Heap.get?_push_size _ rfl
 show wpAny _ _ _ _ _ { s with heap:=((s.heap.push (seqObj "list" #[] 0)).update s.heap.objs.size (Obj.mapSeq (·++vs.toArray))).push (seqObj "list" vs.toArray 0) }; rw[hsz]
 refine wpAny_bind (wpAny_holding (wpAny_call_entry slot_list_sort ⟨_,hoL,rfl⟩ entry_list_sort (list_sort_any strKind_oneLt hoL hst.keysOf (fun v₁ v₂ rest e=>keyKind_strs (by rw[← e]; exact hst)) hz fun st' a1 a2=>⟨_,rfl,?_⟩) (args_list_sort _)))
 obtain⟨ss',b1,b2,b3⟩:=sorted_out_str hst a1 a2
 exact wpAny_pure ⟨_,rfl,h _ ss' b1 b2 b3⟩
end
end SG
end
section
set_option maxRecDepth 100000
set_option maxHeartbeats 1000000
namespace L2
open PySem PySem.Spec PyProof.Rows
theorem mixStr {prog:Program}{w:World}{z:Str}{v:Value} (h:(mixKind prog w).is (.inr z) v=true):∃t,v=.str z t:=by
 rw[mixKind_is] at h
 rcases keyIs_shape h with ⟨i,t,e,_⟩ | ⟨x,t,e,ev⟩
 ·cases e
 ·cases e; exact⟨t,ev⟩
section
variable {prog:Program}{w:World}{A:Around}{E:Value→Shared→Prop}{s:Shared}{o:Obj}{D:Addr}{ys:List Str}
theorem sorted_dictN {d:Addr}{kvs:List (Key×Value)}{zs:List Str}{Q:Value→Shared→Prop} (hh:A.handled=none) (lo:(d == sysModules)=false) (hd:s.heap.DictOf (mixKind prog w) d kvs) (ek:kvs.map (·.1)=zs.map fun z=>(Sum.inr z:Key)) (hz:kvs.length≤sizeLine)
  (hQ:∀(h1 h':Heap) (t:Nat) (l:Addr) (zs':List Str) (out:Array Value) (e:Nat),(∀b u,s.heap.get? b=some u→h1.get? b=some u)→(∀b u,h1.get? b=some u→h'.get? b=some u)→zs'.Perm zs→sortedS zs'=true→h1.objs.size≤l→h'.get? l=some (seqObj "list" out e)→StrsAre out.toList zs'→Q (.ref l) { s with heap:=h',toks:=t }) :
  wpAny (model prog w) A (call (.builtin "sorted") [.ref d]) Q E s:=by
 obtain⟨ep,hat⟩:=hd.dictAt
 refine Calls.call_function_entry kind_sorted plain_sorted entry_sorted (args_sorted1 _) ?_; unfold Builtin.«sorted»
 refine wpAny_bind (m:=checkCount "sorted" 1 1 _) (wpAny_pure (wpAny_bind (PySem.W.kdu_collect (A:=A.in1) (PySem.W.kdl_dict (knd:=mixKind prog w) lo) hh hat hz fun h' tk acc hk hacc=>?_)))
 have hl:acc.toList.length=kvs.length:=by rw[Array.length_toList]; exact hacc.1
 have lz:zs.length=kvs.length:=by have:=congrArg List.length ek; rw[List.length_map,List.length_map] at this; exact this.symm
 have hst:StrsAre acc.toList zs:=by
  have go:∀(us:List Value) (ts:List Str),us.length=ts.length→(∀i (h1:i < us.length) (h2:i < ts.length),∃t,us[i]=.str ts[i] t)→StrsAre us ts:=by
   intro us
   induction us with
   | nil=>intro ts h _; cases ts with
    | nil=>exact .nil
    | cons a b=>cases h
   | cons u us ih =>
    intro ts h hu
    cases ts with
    | nil=>cases h
    | cons a b =>
     obtain⟨t,e⟩:=hu 0 (Nat.succ_pos _) (Nat.succ_pos _)
     have e:u=.str a t:=e
     rw[e]
     exact .cons a t (ih b (Nat.succ.inj h) fun i h1 h2=>hu (i+1) (Nat.succ_lt_succ h1) (Nat.succ_lt_succ h2))
  refine go _ _ (by omega) fun i h1 h2=>?_
  have e0:acc[i]?=some acc.toList[i]:=by rw[← Array.getElem?_toList]; exact List.getElem?_eq_getElem h1
  obtain⟨k,x,e1,e2⟩:=hacc.2 i _ e0
  have e3:(kvs.map (·.1))[i]?=some k:=by rw[List.getElem?_map,e1]; rfl
  rw[ek,List.getElem?_map,List.getElem?_eq_getElem h2] at e3
  have e4:k=.inr zs[i]:=(Option.some.inj e3).symm
  rw[e4] at e2
  generalize acc.toList[i]=v at e2
  obtain⟨t,ev⟩ : ∃t,v=.str zs[i] t:=mixStr e2
  exact⟨t,ev⟩
 have hz':acc.toList.length≤sizeLine:=by omega
 have hoL:(h'.push (seqObj "list" acc.toList.toArray 0)).get? h'.objs.size=some (seqObj "list" acc.toList.toArray 0):=Heap.get?_push_size _ rfl
 refine wpAny_bind (wpAny_newList ?_ hz')
 refine wpAny_bind (wpAny_holding (wpAny_call_entry slot_list_sort ⟨_,hoL,rfl⟩ entry_list_sort (SG.list_sort_any strKind_oneLt hoL hst.keysOf (fun v₁ v₂ rest e=>keyKind_strs (by rw[← e]; exact hst)) hz' fun st' a1 a2=>⟨_,rfl,?_⟩) (args_list_sort _)))
 obtain⟨ss',b1,b2,b3⟩:=sorted_out_str hst a1 a2
 obtain⟨e,he⟩:=sortedHeap_at (out:=(arrOf st').map (·.2)) hoL
 refine wpAny_pure ⟨_,rfl,hQ h' _ _ _ ss' _ e hk (fun b u q1=>?_) b2 b3 (Nat.le_refl _) he b1⟩
 have lt1:=Heap.lt_size q1
 exact (sortedHeap_old (Nat.ne_of_lt lt1) (by rw[Heap.size_push]; exact Nat.lt_succ_of_lt lt1)).trans (Heap.get?_push_of_some _ q1)
end
section
variable {X:Cx}{x:Str}{p pos:Pos}{e:Expr}{t:TSets}
def rSortN (K:PySem.W.Frag):List V→Hp→VK→Prop:=fun xs H Q=>∃p zs,xs=[.ref p]∧(SqL K H p (zs.map V.str)∨∃kvs,H p=some (.dK kvs)∧kvs.map (·.1)=zs.map fun z=>(Sum.inr z:Key))∧∀l zs',zs'.Perm zs→sortedS zs'=true→H l=none→Q (.ref l) (upd H l (.lst (zs'.map V.str)))
theorem call_sortN (hc:X.calm=true):CallR X (.builtin "sorted") (rSortN X.K):=by
 intro pins s σ H xs us Q I r h
 obtain⟨p,zs,rfl,hq,q⟩:=h
 obtain⟨u,rfl,rx⟩:=vals1 r
 cases rx
 rcases hq with hq | ⟨kvs,hd,ek⟩
 ·obtain⟨its,rv,pl,hz⟩:=I.list hq
  have hl:=rv.length
  rw[List.length_map] at hl hz
  refine SG.sorted_any pl.isList (strsOf rv) (by omega) fun out ss' a1 a2 a3=>?_
  obtain⟨e,he⟩:=sortedAll_at s.heap its out
  refine⟨.ref (s.heap.objs.size+1),_,I.laid (t':=s.toks) (o:=.lst (ss'.map V.str)) (fun _ _=>sortedAll_old) (Nat.le_succ _) ?_,rfl,q _ ss' a2 a3 (I.hok.fresh (Nat.le_succ _))⟩
  refine⟨?_,out.toList,e,valsOf a1,?_⟩
  ·rw[List.length_map,a2.length_eq]; omega
  ·rw[Array.toArray_toList]; exact he
 ·obtain⟨hz,lo,vs,rel,dd⟩:=dk_of I.hok hd
  have hh:X.A.handled=none:=I.ok.hd hc
  refine sorted_dictN hh lo dd (by rw[← rel.keys]; exact ek) (by rw[← rel.length]; exact hz) fun h1 h' t l zs' out e k1 k2 a1 a2 a3 a4 a5=>?_
  have I1:Inv X pins σ H { s with heap:=h1,toks:=s.toks }:=I.kept k1
  have lz:zs.length=kvs.length:=by have:=congrArg List.length ek; rw[List.length_map,List.length_map] at this; exact this.symm
  exact⟨.ref l,_,I1.laid (t':=t) (o:=.lst (zs'.map V.str)) k2 a3 ⟨by rw[List.length_map,a1.length_eq]; omega,out.toList,e,valsOf a5,by rw[Array.toArray_toList]; exact a4⟩,rfl,q l zs' a1 a2 (I1.hok.fresh a3)⟩
end
end L2
end
section
set_option maxRecDepth 100000
set_option maxHeartbeats 1000000
namespace L2
open PySem PySem.Spec PyProof.Rows
section
variable {prog:Program}{w:World}{A:Around}{E:Value→Shared→Prop}{s:Shared}{a:Addr}{o:Obj}{L:Bool}{ys:List Str}{z:Str}{tz:Tok}
end
section
variable {prog:Program}{w:World}{A:Around}{R:Result→Shared→Prop}{I:Addr}{fp wr:List Addr}{G:Array GenState→Array GenState→Prop}{n:Nat}{P:Nat→Value→Prop}{St:Nat→Shared→Prop}{L:Bool}
end
section
variable {prog:Program}{w:World}{A:Around}{E:Value→Shared→Prop}{s:Shared}
end
end L2
end
section
set_option maxRecDepth 100000
set_option maxHeartbeats 3200000
namespace L2
open PySem PySem.Spec PyProof.Rows
section
variable {prog:Program}{w:World}{A:Around}{E:Value→Shared→Prop}{s:Shared}
end
section
variable {X:Cx}{p pos:Pos}{e:Expr}{te:TE}
end
end L2
end
section
set_option maxRecDepth 100000
set_option maxHeartbeats 1000000
namespace L2
open PySem PySem.Spec PyProof.Rows
section
variable {prog:Program}{w:World}{A:Around}{E:Value→Shared→Prop}{s:Shared}{a:Addr}{o:Obj}{kvs:List (Key×V)}{k:Key}{v:V}{u r:Value}
end
section
variable {X:Cx}{pins:List (Addr×Obj)}{σ:St}{H:Hp}{s:Shared}{scope:Scope}{ts cap:List Str}{js:List Nat}{fp:List Addr}{C D:Addr}
end
section
variable {X:Cx}{scope:Scope}{ts cap:List Str}{js:List Nat}{tg kx vx iter:Expr}{ifs:List Expr}{pos:Pos}{wi:TI}{g:TG}{tc:TT}{tk tv:TE}
end
end L2
end
section
set_option maxRecDepth 100000
set_option maxHeartbeats 1000000
namespace L2
open PySem PySem.Spec PyProof.Rows
theorem pairs_lenK {P:Program}{w:World}{es:List DictEntry}{vs:List (Key×Value)} (h:Pairs (mixKind P w) es vs):es.length=vs.length:=by
 induction h with
 | nil=>rfl
 | cons _ _ _ ih=>exact congrArg (·+1) ih
theorem pairs_at {P:Program}{w:World}{es:List DictEntry}{vs:List (Key×Value)} (h:Pairs (mixKind P w) es vs):∀{i:Nat}{e:DictEntry}{q:Key×Value},es[i]?=some e→vs[i]?=some q→(mixKind P w).is q.1 e.key=true:=by
 induction h with
 | nil=>intro i e q h1; simp at h1
 | cons a _ _ ih =>
  intro i e q h1 h2
  cases i with
  | zero=>simp at h1 h2; subst h1 h2; exact a
  | succ i=>exact ih (by simpa using h1) (by simpa using h2)
theorem KV.at:∀{kvs:List (Key×V)}{xs:List (Key×Value)}{i:Nat}{p:Key×V},KV kvs xs→kvs[i]?=some p→∃q,xs[i]?=some q∧p.1=q.1∧RelV p.2 q.2
 | _,_,_,_,.nil,h=>by simp at h
 | _,_,0,_,.cons r _,h=>by simp at h; subst h; exact⟨_,rfl,r⟩
 | _,_,i+1,p,.cons _ t,h=>by
  obtain⟨q,e,r⟩:=KV.at (i:=i) (p:=p) t (by simpa using h)
  exact⟨q,by simpa using e,r⟩
def ItK (a:Addr) (o:Obj) (kvs:List (Key×V)):It :=
 ⟨fun i H=>H a=some (.frz o (.dK kvs))∧(∀p∈kvs,∃z,p.1=Sum.inr z)∧i < kvs.length,fun i H x H'=>H'=H∧∃p z,kvs[i]?=some p∧p.1=Sum.inr z∧x=.str z,fun i H=>H a=some (.frz o (.dK kvs))∧(∀p∈kvs,∃z,p.1=Sum.inr z)∧kvs.length≤i⟩
theorem turn_keysK {P:Program}{w:World}{K:PySem.W.Frag}{tg:Expr} (a it:Addr) (o:Obj) (kvs:List (Key×V)):Turn P w K tg (ItK a o kvs) [it] it (fun i h=>∃es ep,o.data=.dict es ep∧es.size=kvs.length∧h.IsKeyIter it a i es.size ep) where
 mem:=by simp
 obj:=fun i h st b hb=>by
  have e:b=it:=by simpa using hb
  subst e
  obtain⟨es,ep,_,_,o',e,c,d⟩:=st
  exact⟨o',e,fun v z=>by rw[d] at z; cases z⟩
 keep:=fun i h h' st k=>by
  obtain⟨es,ep,e1,e2,st⟩:=st
  exact⟨es,ep,e1,e2,st.at fun o e=>k it (by simp) o e⟩
 item:=by
  intro X hP hw hK hc i pins s σ H E I hf st hg
  subst hP hw hK
  obtain⟨es,ep,hd,hn,st⟩:=st
  obtain⟨ha,hs,hi⟩:=hg
  obtain⟨hoa,hz,hm,xs,kt,o',es',ep',ho',hc',hd',hks,he',_⟩:=I.hok a _ ha
  rw[hoa] at ho'
  cases ho'
  rw[hd] at hd'
  cases hd'
  have hi':i < es.size:=by omega
  obtain⟨f0,f1,f2,f3,f4,f5⟩:=hf it (by simp)
  refine next_raw st hoa hd hi' fun h' st' sb=>?_
  have I1:Inv X pins σ H { s with heap:=h' }:=I.turned (t':=s.toks) (fun b o hb e=>(sb.2 b hb).trans e) f0 f1 f3 f4 f5
  obtain⟨q,eq,e1,e2⟩:=KV.at kt (List.getElem?_eq_getElem hi)
  obtain⟨z,ez⟩:=hs kvs[i] (List.getElem_mem hi)
  have e4:(mixKind X.prog X.w).is q.1 es[i].key=true:=pairs_at he' (by simp [hi']) eq
  rw[← e1,ez] at e4
  obtain⟨tz,ev⟩:=mixStr e4
  obtain⟨oi,e,c,d⟩:=id st'
  rw[ev]
  exact⟨_,rfl,go_of (s:={ s with heap:=h' }) e c d (by decide) ⟨.str z,H,I1,⟨tz,rfl⟩,⟨rfl,kvs[i],z,List.getElem?_eq_getElem hi,ez,rfl⟩,⟨es,ep,hd,hn,st'⟩,fun b hb=>(hf b hb).1⟩⟩
 done:=by
  intro X hP hw hK hc i pins s σ H E I hf st hg
  subst hP hw hK
  obtain⟨es,ep,hd,hn,st⟩:=st
  obtain⟨ha,hs,hi⟩:=hg
  obtain⟨hoa,_⟩:=I.hok a _ ha
  obtain⟨f0,f1,f2,f3,f4,f5⟩:=hf it (by simp)
  exact end_raw (I.ok.hd hc) st hoa hd (by omega) fun h' eb=>⟨rfl,I.turned (t':=s.toks) (fun b o hb e=>eb b o hb e) f0 f1 f3 f4 f5⟩
 self:=fun _ _ _ _ _ st h=>by
  obtain⟨es,ep,_,_,st⟩:=st
  exact wpAny_pyIter_keyiter st h
section
variable {X:Cx}{tg:Expr}
def iKeysK (tl:TE):TI:=fun σ H R=>tl σ H fun x H1=>∃a kvs,x=.ref a∧H1 a=some (.dK kvs)∧∀o,R (ItK a o kvs) (upd H1 a (.frz o (.dK kvs)))
theorem pi_keysK {l:Expr}{tl:TE} (hl:PE X l tl):PI X tg l (iKeysK tl):=by
 intro pins s σ H R I h
 refine thn (hl pins s σ H _ I h) fun v s1 ⟨x,H1,I1,r1,q1⟩=>?_
 obtain⟨a,kvs,e,hd,q⟩:=q1
 subst e
 cases r1
 obtain⟨hz,hm,xs,kt,o,es,ep,ho,hc,hdd,hks,he,_⟩:=I1.hok a _ hd
 refine iter_raw hm ho hc hdd ?_
 have I2:=I1.freeze hd ho (fun _ z=>by cases z) (fun _ _ z=>by cases z) (fun _ z=>by cases z) (fun _ z=>by cases z)
 have hn:es.size=kvs.length:=by
  have h1:es.toList.length=xs.length:=pairs_lenK he
  rw[Array.length_toList] at h1
  rw[h1]; exact kt.length.symm
 refine⟨s1.heap.objs.size,[s1.heap.objs.size],_,_,upd H1 a (.frz o (.dK kvs)),rfl,I2.kept (t':=s1.toks) fun b o e=>Heap.get?_push_of_some _ e,turn_keysK a _ o kvs,⟨es,ep,hdd,hn,_,Heap.get?_push_size _ rfl,rfl,rfl⟩,fun b hb=>?_,q o⟩
 have e:b=s1.heap.objs.size:=by simpa using hb
 subst e
 exact I2.fpOk (Nat.le_refl _) (I2.hok.fresh (Nat.le_refl _))
end
end L2
end
section
set_option maxRecDepth 100000
set_option maxHeartbeats 1000000
namespace L2
open PySem PySem.Spec PyProof.Rows
section
variable {prog:Program}{w:World}{A:Around}{R:Result→Shared→Prop}{s:Shared}{elt tg0 iter0 tg1 iter1:Expr}{ifs0 ifs1:List Expr}{scope:Scope}{pos:Pos}{it acc:Value}{env:Env}
end
section
variable {X:Cx}{scope:Scope}{ts cap:List Str}{js:List Nat}{elt tg0 iter0 tg1 iter1:Expr}{ifs0 ifs1:List Expr}{pos:Pos}
end
end L2
end
section
set_option maxRecDepth 100000
set_option maxHeartbeats 1000000
namespace L2
open PySem PySem.Spec PyProof.Rows
theorem pe_fldK {X:Cx}{e:Expr}{f:Str}{pos:Pos}{ta:TE} (K':PySem.W.Frag) (hK:X.K=K') (he:PE X e ta) (hb:attributeBase e f X.env (eval e X.env)=eval e X.env):PE X (.Attribute e f pos) (tFld K' ta f):=by
 subst hK
 exact pe_fld he hb
end L2
end
section
set_option maxRecDepth 100000
set_option maxHeartbeats 4000000
namespace L2
open PySem PySem.Spec PyProof.Rows
section
variable {X:Cx}
end
section
variable {X:Cx}{k:Nat}{f C:Addr}{fd:FuncData}{ps:List Str}{sp:Sp}{EX:XS}{m:Str}{pos apos:Pos}{e o:Expr}{es:List Expr}{ta:TE}{t:TA}
def tMethX (C:Addr) (m:Str) (sp:Sp) (EX:XS) (ta:TE) (t:TA):TE:=fun σ H Q=>ta σ H fun x H1=>∃a dx fs,x=.ref a∧H1 a=some (.ins C dx fs)∧fs.lookup m=none∧t σ H1 fun vs H2=>sp (.ref a::vs) H2 Q fun cls _ H'=>EX cls σ H'
theorem run_fnX {pins:List (Addr×Obj)}{σ:St}{H:Hp}{s:Shared}{Q:VK}{us:List Value}{vs:List V} (F:FnOk X.prog X.w X.K X.mg X.base (CXe X.prog X.w) k f fd ps sp) (hr:Room k X.A) (hb:Binds X.K fd ps []) (hx:Xok X EX)
  (I:Inv X pins σ H s) (r:Vals vs us) (h:sp vs H Q fun cls _ H'=>EX cls σ H'):wpAny (model X.prog X.w) X.A (call (.ref f) us) (EP X pins σ Q) X.xe s:=by
 have hl:(us++[]).length=ps.length:=by rw[List.append_nil,← r.length]; exact F.len _ _ _ _ h
 have hb':=hb s us I.kIn hl
 rw[List.append_nil] at hb'
 refine wpAny_call (codeAny_mono (F.run X.A X.stack s H ⟨us,[]⟩ us vs Q _ hr I.env0 hb' r h) fun r s' hq=>?_)
 cases r with
 | error e =>
  obtain⟨x,cls,H',rfl,q',o⟩:=Out.of_call (E:=fun cls _ H'=>EX cls σ H') (e:=e) (s':=s') I hq
  exact hx pins σ H' s' x cls o q'
 | ok fl =>
  cases fl with
  | ret u=>exact I.after hq
  | next=>exact False.elim hq
  | brk=>exact False.elim hq
  | cont=>exact False.elim hq
theorem pe_methX {pl:Sem Bool} (he:PE X o ta) (c:Cls X.K C) (hm:Meth X.K C m f) (F:FnOk X.prog X.w X.K X.mg X.base (CXe X.prog X.w) k f fd ps sp) (hr:Room k X.A) (hb:Binds X.K fd ps []) (hx:Xok X EX) (ha:PA X (e::es) t)
  (hst:starEach (e::es) X.env=(false,eval e X.env)::starEach es X.env:=by rfl) (hpl:(backTo pos (starEach es X.env)).any (·.1)=false:=by rfl)
  (ht:eval (.Call (.Attribute o m apos) (e::es) [] pos) X.env=(do
   let ov ← eval o X.env
   standAt apos.atName
   let (f,first) ← holding [ov] (getMethod ov m pl)
   callWith pos f first (backTo pos (starEach (e::es) X.env)) (backToKw pos (keywordEach [] X.env))):=by rfl) :
  PE X (.Call (.Attribute o m apos) (e::es) [] pos) (tMethX C m sp EX ta t):=by
 intro pins s σ H Q I h
 refine PySem.W.methodCall_KW (pl:=pl) (thn (he pins s σ H _ I h) fun u s1 ⟨x,H1,I1,rx,a,dx,fs,ex,ea,l,q⟩=>?_) ht
 subst ex
 obtain rfl:u=Value.ref a:=rx
 refine getmeth_ok I1 ea c hm l ?_
 refine PySem.W.callWith_K (first:=[.ref a]) (h₀:=X.base) I.ok.mod.kin hm.kp (thn (ha pos pins s1 σ H1 _ I1 q) fun us s2 ⟨vs,H2,I2,r,q2⟩=>⟨I2.kIn,?_⟩) hst hpl
 exact run_fnX (us:=.ref a::us) (vs:=.ref a::vs) F hr hb hx I2 (.cons rfl r) q2
end
end L2
end
section
set_option maxRecDepth 100000
set_option maxHeartbeats 4000000
namespace L2
open PySem PySem.Spec PyProof.Rows
section
variable {M:Model}{A:Around}{E:Value→Shared→Prop}{s:Shared}{F:Addr→Prop}{base:Heap}{env:Env}{outer:List Env}{L x:Addr}{cls:Value}
theorem note_frame_eq {e1 e2:Env}{x:Value} (h:e1.frame=e2.frame):noteFrame x e1=noteFrame x e2:=by
 unfold noteFrame PySem.frameOf
 rw[h]
theorem set_flG {fl:Value}{fr:Option Addr}{Q:Unit→Shared→Prop} (t:Flt F s.heap x cls fl) {fs:List Addr} (h:∀h' fl',Kp F fs s.heap h'→Flt F h' x cls fl'→Q () { s with heap:=h' }):wpAny M A (setFlight (.ref x) fr) Q E s:=by
 obtain⟨vs,T,oT,ts,⟨⟨oe,he,hc,hdd,hd⟩,h2⟩,h1,hTx,hT,hdT,h3,fx,fT⟩:=t
 have z3:3 < ts.size:=(Array.getElem?_eq_some_iff.mp h3).1
 unfold setFlight
 refine wpAny_bind (wpAny_field he hd h1 ?_)
 rw[if_pos (show (Value.ref T != Value.none)=true from by simp)]
 generalize (fr.elim Value.none fun f=>rawInt (f:Int))=fl'
 have oth:∀b,b≠T→(s.heap.update T (Obj.mapFields (·.setIfInBounds 3 fl'))).get? b=s.heap.get? b:=fun b hb=>Heap.get?_update_other _ _ (Ne.symm hb)
 have slf:=Heap.get?_update_self (Obj.mapFields (·.setIfInBounds 3 fl')) hT (Obj.isFreed_of_fields (Obj.data_mapFields hdT _))
 refine wpAny_setField hT hdT z3 (h _ fl' ⟨fun b o e n _=>?_,fun b o e n=>⟨o.slots,?_⟩,fun b o e=>?_⟩ ?_)
 ·exact (oth b fun z=>n (z ▸ fT)).trans e
 ·exact (oth b fun z=>n (z ▸ fT)).trans e
 ·by_cases z:b=T
  ·subst z; exact⟨_,slf⟩
  ·exact⟨o,(oth b z).trans e⟩
 ·exact⟨vs,T,_,_,⟨⟨oe,(oth x (Ne.symm hTx)).trans he,hc,hdd,hd⟩,h2⟩,h1,hTx,slf,Obj.data_mapFields hdT _,by simp [z3],fx,fT⟩
theorem pass_on {α : Type}{what:String}{cenv:Env}{fl:Value}{Q : α→Shared→Prop} (t:Flt F s.heap x cls fl) {fs:List Addr} (h:∀h' fl',Kp F fs s.heap h'→Flt F h' x cls fl'→E (.ref x) { s with heap:=h' }):wpAny M A (PySem.passOn what (.ref x) cenv:Sem α) Q E s:=by
 obtain⟨vs,T,oT,ts,⟨⟨oe,he,hc,hdd,hd⟩,h2⟩,h1,hTx,hT,hdT,h3,fx,fT⟩:=id t
 unfold PySem.passOn
 refine wpAny_bind (wpAny_field he hd h1 ?_)
 rw[if_neg (show ¬ ((Value.ref T == Value.none)=true) from by simp)]
 exact wpAny_bind (set_flG t fun h' fl' k t'=>wpAny_throw (h h' fl' k t'))
theorem note_any {fl:Value}{Q:Unit→Shared→Prop} (hfr:A.frames=some (env::outer)) (hl:s.heap.FunFrames base (env::outer)) (hf:env.frame=some L) (t:Flt F s.heap x cls fl) (hF:∀b,s.heap.objs.size≤b→F b)
  (h:∀h',Kp F (frs (env::outer)) s.heap h'→Flt F h' x cls (rawInt L)→Q () { s with heap:=h' }):wpAny M A (noteFrame (.ref x) env) Q E s:=by
 obtain⟨vs,T,oT,ts,⟨⟨oe,he,hc,hdd,hd⟩,h2⟩,h1,hTx,hT,hdT,h3,fx,fT⟩:=t
 have z3:3 < ts.size:=(Array.getElem?_eq_some_iff.mp h3).1
 unfold noteFrame
 simp only[hf]
 refine wpAny_bind (wpAny_field he hd h1 ?_)
 rw[if_pos (show (Value.ref T != Value.none)=true from by simp)]
 refine wpAny_bind (wpAny_field hT hdT h3 ?_)
 cases hb:(fl == rawInt (L:Int)) with
 | true =>
  rw[if_pos rfl]
  have e:fl=rawInt (L:Int):=eq_of_beq hb
  subst e
  exact wpAny_pure (h s.heap (Kp.refl _) ⟨vs,T,oT,ts,⟨⟨oe,he,hc,hdd,hd⟩,h2⟩,h1,hTx,hT,hdT,h3,fx,fT⟩)
 | false =>
  rw[if_neg (by decide)]
  have oth:∀b,b≠T→(s.heap.update T (Obj.mapFields (·.setIfInBounds 3 Value.none))).get? b=s.heap.get? b:=fun b hb=>Heap.get?_update_other _ _ (Ne.symm hb)
  have slf:=Heap.get?_update_self (Obj.mapFields (·.setIfInBounds 3 Value.none)) hT (Obj.isFreed_of_fields (Obj.data_mapFields hdT _))
  have nrec:∀b o,s.heap.get? b=some o→(∀vs,o.data≠.fields vs)→b≠T:=fun b o e nf z=>by
   rw[z,hT] at e; cases e; exact nf ts hdT
  have k1:Kp F (frs (env::outer)) s.heap (s.heap.update T (Obj.mapFields (·.setIfInBounds 3 Value.none))):=⟨fun b o e n _=>(oth b fun z=>n (z ▸ fT)).trans e,fun b o e n=>⟨o.slots,(oth b fun z=>n (z ▸ fT)).trans e⟩,fun b o e=>by
   by_cases z:b=T
   ·subst z; exact⟨_,slf⟩
   ·exact⟨o,(oth b z).trans e⟩⟩
  refine wpAny_bind (wpAny_setField hT hdT z3 ?_)
  refine note_entry (s:={ s with heap:=s.heap.update T (Obj.mapFields (·.setIfInBounds 3 Value.none)) }) hfr (hl.of_keeps fun b o e nf=>⟨o,(oth b (nrec b o e nf)).trans e,rfl⟩) hf (vs:=vs) ⟨⟨oe,(oth x (Ne.symm hTx)).trans he,hc,hdd,hd⟩,h2⟩ (Array.getElem?_eq_some_iff.mp h1).1 fx (fun b hb=>hF b (by rwa [Heap.size_update] at hb)) ?_
  intro h' k2 t2
  exact h h' (k1.trans k2) t2
end
def OutF (X:Cx) (pins:List (Addr×Obj)) (x:Addr) (cls:Value) (σ:St) (H:Hp) (s:Shared):Prop:=Inv X pins σ H s∧∃fl,Flt (FpOk X pins H) s.heap x cls fl
def XokF (X:Cx) (EX:XS):Prop:=∀(pins:List (Addr×Obj)) (σ:St) (H:Hp) (s:Shared) (x:Addr) (cls:Value),OutF X pins x cls σ H s→EX cls σ H→X.xe (.ref x) s
theorem xokF_def {P:Program}{w:World}{K:PySem.W.Frag}{mg:Str→Option Value}{base:Heap}{N:List Str}{qual:Str}{scope:Scope}{f:Addr}{cd:Value}{A:Around}{outer:List Env}{s0:Shared}{H0:Hp}{E:XK} :
  XokF (cxOf (CXe P w) P w K mg base N qual scope f cd A outer s0 H0 E) (fun cls _ H=>E cls none H):=by
 intro pins σ H s x cls ⟨I,fl,t⟩ q
 show wpAny (model P w) (A.deeper (envOfC qual scope s0.heap.objs.size f cd)) (leaving (envOfC qual scope s0.heap.objs.size f cd) (.ref x)) _ _ s
 unfold leaving
 refine wpAny_bind ?_
 refine note_any (base:=base) (env:=envOfC qual scope s0.heap.objs.size f cd) (outer:=outer) (L:=s0.heap.objs.size) (by exact I.ok.frames) I.stack rfl t I.fpNew fun h1 k1 t1=>?_
 refine set_fl (s:={ s with heap:=h1 }) (fs:=frs (envOfC qual scope s0.heap.objs.size f cd::outer)) t1 fun h2 k2 t2=>?_
 have I2:=I.flight (t':=s.toks) (k1.trans k2)
 refine⟨x,cls,H,rfl,I2.os,I2.bare,I2.base,I2.hok,t2.imp fun b fb=>⟨?_,fb.1⟩,q⟩
 rcases fb.2.2.2.1 with z | z
 ·exact absurd (show b∈([]:List Addr) from z) (by simp)
 ·exact z
theorem loop_testsX {prog:Program}{w:World}{A:Around}{R:Result→Shared→Prop}{s:Shared}{elt target iter:Expr}{ifs:List Expr}{scope:Scope}{pos:Pos}{it acc:Value}{env:Env} (I:Nat→Shared→Prop)
  (turn:∀n s,I n s→wpAny (model prog w) A (pyNext it) (fun r s₁=>match r with
   | none=>R (.ok .next) s₁
   | some v=>wpAny (model prog w) A (letOwnedTupleGo target it v) (fun _ s₁'=>wpAny (model prog w) A (assign target env v) (fun _ s₂ =>
     wpAny (model prog w) A (forIn ifs true fun c r=>if r=true then do let ok ← isTrue c env (eval c env); pure (ForInStep.yield ok) else pure (ForInStep.yield r)) (fun ok s₃ =>
      if ok=true then wpAny (model prog w) A (eval elt env) (fun x s₄ =>
       wpAny (model prog w) A (call (.builtin "list.append") [acc,x]) (fun _ s₅=>∃m,m < n∧I m s₅) (fun _ _=>False) s₄) (notedBy (model prog w) A env fun x s'=>R (.error x) s') s₃
      else ∃m,m < n∧I m s₃) (fun _ _=>False) s₂) (fun _ _=>False) s₁') (fun _ _=>False) s₁) (fun _ _=>False) s)
  (n:Nat) (h:I n s):codeAny (model prog w) A (.compLoop (.ListComp elt [⟨target,iter,ifs,0⟩] scope pos) 0 it acc env) R s:=by
 refine codeAny_loop rfl I (fun n s hI=>?_) n h
 show wpAny _ A ((compTurn (.ListComp elt [⟨target,iter,ifs,0⟩] scope pos) 0 it acc env).onRaise (fun x=>do noteFrame x env; theTreesLotGoes x)) _ _ s
 refine wpAny_noted ?_
 rw[compTurn_list]
 refine wpAny_bind (wpAny_standAt (wpAny_bind (wpAny_mono (turn n s hI) (fun r s₁ h₁=>?_) fun _ _ h'=>h'.elim)))
 cases r with
 | none=>exact wpAny_pure h₁
 | some v =>
  refine wpAny_bind (wpAny_mono h₁ (fun _ s₁' h₁'=>?_) fun _ _ h'=>h'.elim)
  refine wpAny_bind (wpAny_mono h₁' (fun _ s₂ h₂=>wpAny_bind (wpAny_mono h₂ (fun ok s₃ h₃=>?_) fun _ _ h'=>h'.elim)) fun _ _ h'=>h'.elim)
  cases ok with
  | false=>exact wpAny_pure ⟨rfl,h₃⟩
  | true =>
   exact wpAny_bind (wpAny_bind (wpAny_mono h₃ (fun x s₄ h₄=>wpAny_bind (wpAny_mono h₄ (fun _ s₅ h₅=>wpAny_pure (wpAny_pure ⟨rfl,h₅⟩)) fun _ _ h'=>h'.elim)) fun _ _ h'=>h'))
section
variable {X:Cx}{pins:List (Addr×Obj)}{σ:St}{H:Hp}{s:Shared}{scope:Scope}{ts cap:List Str}{js:List Nat}{fp:List Addr}{C D:Addr}
theorem comp_blockE {tg elt iter:Expr}{ifs:List Expr}{pos:Pos}{g:TG}{tc:TT}{te:TE}{J:It}{it:Addr}{tn:Nat→Heap→Prop}{W:Nat→Nat→List V→Hp→Prop}{m0:Nat}{E:Value→Shared→Prop}
  {RR:Value→Addr→Result→Shared→Prop}{Fin:List V→Hp→Prop}{EX:XS} (hst:X.stack=X.env::X.outer) (hfrm:X.env.frame=some X.env.locals)
  (I:Inv X pins σ H s) (T:TurnOk X.prog X.w fp it tn) (TA:∀C,TurnAt (cxComp X scope C fp (ts++cap) s H) tg J fp it tn) (st:tn 0 s.heap) (hf:∀b∈fp,FpOk X pins H b) (CS:CompScope X scope ts cap js)
  (hg:∀C fp s H,PG (cxComp X scope C fp (ts++cap) s H) tg g) (ht:∀C fp s H,PTs (cxComp X scope C fp (ts++cap) s H) ifs tc) (he:∀C fp s H pn,PE (cxTry (cxComp X scope C fp (ts++cap) s H) pn EX) elt te)
  (w0:W 0 m0 [] H)
  (turn:∀i m ys H,W i m ys H→(J.stop i H∧ys.length≤sizeLine∧Fin ys H)∨(J.go i H∧ys.length < sizeLine∧∀x H',J.yld i H x H'→g x (List.replicate ts.length none++pick js σ) H' fun σ2 H2=>tc σ2 H2 fun b H3 =>
   if b=true then te σ2 H3 fun y H4=>∃m',m' < m∧W (i+1) m' (ys++[y]) H4 else ∃m',m' < m∧W (i+1) m' ys H3))
  (hRR:∀D C s' H' ys m,Inv X pins σ (upd H' D (.lst ys)) s'→s'.heap.Ns C m→s.heap.objs.size≤C→s.heap.objs.size≤D→C≠D→H' C=none→H' D=none→Fin ys H'→RR (.ref D) C (.ok .next) s')
  (hRE:∀D C s' H' ys m x cls σ' fl,Inv X pins σ (upd H' D (.lst ys)) s'→s'.heap.Ns C m→s.heap.objs.size≤C→s.heap.objs.size≤D→C≠D→H' C=none→H' D=none→Flt (fun b=>FpOk X pins (upd H' D (.lst ys)) b∧b≠C) s'.heap x cls fl→EX cls σ' H'→RR (.ref D) C (.error (.ref x)) s') :
  wpAny (model X.prog X.w) X.A (newList []) (fun acc s₃=>wpAny (model X.prog X.w) X.A (newFunctionEnv scope X.env.globals (clGo X.env.cells scope.names []) [] X.env.qual none .none (some X.env)) (fun cenv s₄ =>
   codeAny (model X.prog X.w) X.A (.compStart (.ListComp elt [⟨tg,iter,ifs,0⟩] scope pos) 0 (.ref it) acc { cenv with scope:=relabel scope X.env }) (RR acc cenv.locals) s₄) E s₃) E s:=by
 refine wpAny_newObj_type (wpAny_newFunctionEnv CS.nocell (by intro y hy; simp at hy) (fun h₁ hns₁ hsb₁=>?_) CS.kind)
 dsimp only at hns₁ hsb₁ ⊢
 generalize hH2:s.heap.push { cls:=.type "list",dict:=none,data:=.seq ([]:List Value).toArray }=H2 at hns₁ hsb₁ ⊢
 have hCs:H2.objs.size=s.heap.objs.size+1:=by rw[← hH2,Heap.size_push]
 have hDC:s.heap.objs.size≠H2.objs.size:=by rw[hCs]; exact Nat.ne_of_lt (Nat.lt_succ_self _)
 have hCle:s.heap.objs.size≤H2.objs.size:=by rw[hCs]; exact Nat.le_succ _
 have below:∀b,b < s.heap.objs.size→b≠H2.objs.size:=fun b hb=>by rw[hCs]; exact Nat.ne_of_lt (Nat.lt_succ_of_lt hb)
 have old:∀b o,s.heap.get? b=some o→h₁.get? b=some o:=fun b o e=>hsb₁.extBut b o (below b (Heap.lt_size e)) (Heap.get?_push_of_some _ (hH2 ▸ Heap.get?_push_of_some _ e))
 have hacc:h₁.get? s.heap.objs.size=some (lstO [] 0):=hsb₁.extBut _ _ hDC (Heap.get?_push_of_some _ (hH2 ▸ Heap.get?_push_size _ rfl))
 have hfl:∀b∈fp,b < s.heap.objs.size:=fun b hb=>by obtain⟨o,e,_⟩:=T.obj _ _ st b hb; exact Heap.lt_size e
 have st₁:tn 0 h₁:=T.keep _ _ _ st fun b _ o e=>old b o e
 have hDstk:s.heap.objs.size ∉ frs X.stack:=fun z=>by
  obtain⟨_,o,ho,_⟩:=I.stack.mem z
  exact absurd (Heap.lt_size ho) (Nat.lt_irrefl _)
 have I0:Inv (cxComp X scope H2.objs.size fp (ts++cap) s H) [(s.heap.objs.size,lstO [] 0)] (List.replicate ts.length none++pick js σ) H { s with heap:=h₁,toks:=s.toks+([]:List (Str×Value)).length } :=
  comp_inv I CS hf hfl hCle old hns₁ rfl I.bare fun p hp=>by
   have e:p=(s.heap.objs.size,lstO [] 0):=by simpa using hp
   subst e
   exact⟨hacc,I.hok.fresh (Nat.le_refl _),hDC,hDstk,fun v z=>by cases z⟩
 have stat:∀{H':Hp}{ys:List Value}{n:Nat},(∀b∈fp,H' b=none)→∀b∈fp,FpOk (cxComp X scope H2.objs.size fp (ts++cap) s H) [(s.heap.objs.size,lstO ys n)] H' b:=fun {H' ys n} hn b hb=>by
  obtain⟨f0,f1,f2,f3,f4,f5⟩:=hf b hb
  refine⟨hn b hb,below b (hfl b hb),?_,.inl hb,fun x c e=>f4 x c (CS.look I.ok e),fun p hp=>?_⟩
  ·exact (comp_ok I CS hf hfl hCle).exfs b hb
  ·rcases List.mem_append.mp hp with z | z
   ·exact f5 p (List.mem_append_left _ z)
   ·have e:p=(s.heap.objs.size,lstO ys n):=by simpa using z
    subst e
    intro q
    have q':s.heap.objs.size=b:=q
    exact absurd (hfl b hb) (by rw[← q']; exact Nat.lt_irrefl _)
 have loop:∀s₃:Shared,s₃={ s with heap:=h₁,toks:=s.toks+([]:List (Str×Value)).length } →
   codeAny (model X.prog X.w) X.A (.compLoop (.ListComp elt [⟨tg,iter,ifs,0⟩] scope pos) 0 (.ref it) (.ref s.heap.objs.size) (compEnvC scope (clGo X.env.cells scope.names []) H2.objs.size X.env))
    (RR (.ref s.heap.objs.size) H2.objs.size) s₃:=by
  rintro s₃ rfl
  refine loop_testsX (fun k s'=>∃i H' ys its n,Inv (cxComp X scope H2.objs.size fp (ts++cap) s H) [(s.heap.objs.size,lstO its n)] (List.replicate ts.length none++pick js σ) H' s'∧Vals ys its∧tn i s'.heap∧(∀b∈fp,H' b=none)∧W i k ys H') ?_ m0
   ⟨0,H,[],[],0,I0,.nil,st₁,fun b hb=>(hf b hb).1,w0⟩
  rintro k s3 ⟨i,H3,ys,its,n,I3,v3,st3,fr3,w3⟩
  rcases turn i k ys H3 w3 with ⟨stop,hz,fin⟩ | ⟨go,hz,step⟩
  ·refine thn ((TA _).done i _ s3 _ H3 _ I3 (stat fr3) st3 stop) fun r s4 ⟨hr,I4⟩=>?_
   subst hr
   obtain⟨m4,hn4,_⟩:=I4.loc
   exact hRR _ _ s4 H3 ys m4 (comp_back I hf hCle (Nat.le_refl _) I4 v3 hz) hn4 hCle (Nat.le_refl _) (Ne.symm hDC) I4.free (I4.pin (s.heap.objs.size,lstO its n) (List.mem_append_right _ List.mem_cons_self)).2.1 fin
  ·refine thn ((TA _).item i _ s3 _ H3 _ I3 (stat fr3) st3 go) fun r s4 ⟨u,hr,h4⟩=>?_
   subst hr
   refine thn h4 fun _ s5 ⟨x,H5,I5,r5,y5,st5,fr5⟩=>?_
   have I5':=I5.pinned (stat fr5) (T.obj _ _ st5)
   refine thn (hg _ _ _ _ _ s5 _ H5 x u _ I5' r5 (step x H5 y5)) fun _ s6 ⟨σ6,H6,I6,q6⟩=>?_
   refine thn (ht _ _ _ _ _ s6 σ6 H6 _ I6 q6) fun ok s7 ⟨H7,I7,q7⟩=>?_
   have pinned:∀{σ':St}{H':Hp}{s':Shared},Inv (cxComp X scope H2.objs.size fp (ts++cap) s H) ([(s.heap.objs.size,lstO its n)]++pinsAt fp s5.heap) σ' H' s'→tn (i+1) s'.heap∧∀b∈fp,H' b=none:=fun {σ' H' s'} J=>by
    refine⟨T.keep _ _ _ st5 fun b hb o e=>(J.pin (b,o) (List.mem_append_right _ (List.mem_append_right _ (mem_pinsAt hb e)))).1,fun b hb=>?_⟩
    obtain⟨o,e,d⟩:=T.obj _ _ st5 b hb
    exact (J.pin (b,o) (List.mem_append_right _ (List.mem_append_right _ (mem_pinsAt hb e)))).2.1
   cases ok with
   | false =>
    rw[if_neg Bool.false_ne_true] at q7 ⊢
    obtain⟨m',hm,w7⟩:=q7
    obtain⟨st7,fr7⟩:=pinned I7
    exact⟨m',hm,i+1,H7,ys,its,n,comp_again I CS hf I7.unpinned,v3,st7,fr7,w7⟩
   | true =>
    rw[if_pos rfl] at q7 ⊢
    refine wpAny_mono (he _ _ _ _ _ [] s7 σ6 H7 _ I7.hold q7) (fun yv s8 ⟨y,H8,I8h,r8,m',hm,w8⟩=>?_) (fun e8 s8 ⟨x8,cls8,σ8,H8,he8,o8,q8⟩=>?_)
    ·have I8:=I8h.unhold
     obtain⟨st8,fr8⟩:=pinned I8
     have I8':=comp_again I CS hf I8.unpinned
     obtain⟨hDg,hDn,hDC',hDs,hDd⟩:=I8'.pin (s.heap.objs.size,lstO its n) (List.mem_append_right _ List.mem_cons_self)
     have hl:=v3.length
     refine append_at (hsz:=by rw[List.size_toArray]; omega) hDg fun h9 hs9 hD9=>?_
     have tracked:∀b o,b≠s.heap.objs.size→s8.heap.get? b=some o→h9.get? b=some o:=fun b o hb e=>hs9.extBut b o hb e
     have I9:Inv (cxComp X scope H2.objs.size fp (ts++cap) s H) [(s.heap.objs.size,lstO (its++[yv]) (n+1))] (List.replicate ts.length none++pick js σ) H8 { s8 with heap:=h9 }:=by
      have J0:Inv (cxComp X scope H2.objs.size fp (ts++cap) s H) [] (List.replicate ts.length none++pick js σ) H8 s8:=I8'.pins_of (fun p hp=>absurd hp (by simp))
      have J:Inv (cxComp X scope H2.objs.size fp (ts++cap) s H) [] (List.replicate ts.length none++pick js σ) H8 { s8 with heap:=h9,toks:=s8.toks }:=J0.turned (it:=s.heap.objs.size) tracked hDn hDC' (.inr (Heap.get?_none_of_le (Nat.le_refl _))) (fun x c e q=>by
       obtain⟨v,o,ho,_⟩:=I.cell x c (CS.look I.ok e)
       rw[q] at ho
       exact absurd (Heap.lt_size ho) (Nat.lt_irrefl _)) (fun p hp q=>by
        rw[List.append_nil] at hp
        obtain⟨e,_⟩:=I.pin p (List.mem_append_left _ hp)
        rw[q] at e
        exact absurd (Heap.lt_size e) (Nat.lt_irrefl _))
      refine J.pins_of fun p hp=>?_
      have e:p=(s.heap.objs.size,lstO (its++[yv]) (n+1)):=by simpa using hp
      subst e
      refine⟨?_,hDn,hDC',hDs,fun v z=>by cases z⟩
      show h9.get? s.heap.objs.size=_
      rw[hD9]
      simp [lstO,List.push_toArray]
     have st9:tn (i+1) h9:=T.keep _ _ _ st8 fun b hb o e=>tracked b o (Nat.ne_of_lt (hfl b hb)) e
     exact⟨m',hm,i+1,H8,ys++[y],its++[yv],n+1,I9,v3.append (.cons r8 .nil),st9,fr8,w8⟩
    ·subst he8
     obtain⟨I8,t8⟩:=o8.unhold
     have IB:=comp_back I hf hCle (Nat.le_refl _) I8.unpinned v3 (Nat.le_of_lt hz)
     obtain⟨m8,hn8,_⟩:=I8.loc
     have hHD:=(I8.pin (s.heap.objs.size,lstO its n) (List.mem_append_right _ (List.mem_append_left _ List.mem_cons_self))).2.1
     have conv:∀b,FpOk (cxComp X scope H2.objs.size fp (ts++cap) s H) ([(s.heap.objs.size,lstO its n)]++pinsAt fp s5.heap) H8 b→FpOk X pins (upd H8 s.heap.objs.size (.lst ys)) b∧b≠H2.objs.size:=fun b ⟨g0,g1,g2,g3,g4,g5⟩=>by
      have nb:b≠s.heap.objs.size:=Ne.symm (g5 (s.heap.objs.size,lstO its n) (List.mem_append_right _ (List.mem_append_left _ List.mem_cons_self)))
      have hn:upd H8 s.heap.objs.size (.lst ys) b=none:=by rw[upd_ne nb]; exact g0
      refine⟨?_,g1⟩
      rcases g3 with z | z
      ·obtain⟨f0,f1,f2,f3,f4,f5⟩:=hf b z
       exact⟨hn,f1,f2,f3,f4,f5⟩
      ·exact I.fpGone z hn
     have hCfr:H2.objs.size ∉ frs (X.env::X.outer):=fun z=>by
      have l:=I.stack
      rw[hst] at l
      obtain⟨_,o,ho,_⟩:=l.mem z
      exact absurd (Nat.lt_of_lt_of_le (Heap.lt_size ho) hCle) (Nat.lt_irrefl _)
     have hfr:X.A.frames=some (X.env::X.outer):=by rw[I.ok.frames,hst]
     have hl8:s8.heap.FunFrames X.base (X.env::X.outer):=by rw[← hst]; exact IB.stack
     have hF:∀b,s8.heap.objs.size≤b→FpOk X pins (upd H8 s.heap.objs.size (.lst ys)) b∧b≠H2.objs.size:=fun b hb=>⟨IB.fpNew b hb,fun z=>by
      obtain⟨o,_,_,ho,_⟩:=id hn8
      have:=Heap.lt_size ho
      rw[z] at hb
      exact absurd (Nat.lt_of_lt_of_le this hb) (Nat.lt_irrefl _)⟩
     have fin:∀h9,Kp (fun b=>FpOk X pins (upd H8 s.heap.objs.size (.lst ys)) b∧b≠H2.objs.size) (frs (X.env::X.outer)) s8.heap h9→Flt (fun b=>FpOk X pins (upd H8 s.heap.objs.size (.lst ys)) b∧b≠H2.objs.size) h9 x8 cls8 (rawInt (X.env.locals:Int))→RR (.ref s.heap.objs.size) H2.objs.size (.error (.ref x8)) { s8 with heap:=h9 }:=fun h9 k9 t9=>by
      have IF:Inv X pins σ (upd H8 s.heap.objs.size (.lst ys)) { s8 with heap:=h9,toks:=s8.toks }:=IB.flight (by rw[hst]; exact k9.imp fun b z=>z.1)
      refine hRE _ _ _ H8 ys m8 x8 cls8 σ8 _ IF ?_ hCle (Nat.le_refl _) (Ne.symm hDC) I8.free hHD t9 q8
      obtain⟨o,es,ep,ho,r⟩:=hn8
      exact⟨o,es,ep,k9.1 _ o ho (fun z=>z.2 rfl) hCfr,r⟩
     show wpAny _ X.A (noteFrame (.ref x8) (compEnvC scope (clGo X.env.cells scope.names []) H2.objs.size X.env)) _ _ s8
     rw[note_frame_eq (e1:=compEnvC scope (clGo X.env.cells scope.names []) H2.objs.size X.env) (e2:=X.env) rfl]
     rcases t8 with t8 | t8
     ·obtain⟨vs8,a8,b8,c8⟩:=t8
      exact note_new hfr hl8 hfrm ⟨vs8,a8,b8,conv _ c8⟩ hF fin
     ·exact note_next hfr hl8 hfrm (t8.imp conv) hF fin
 exact codeAny_compStart_list (loop _ rfl) (T.self _ _ _ _ _ st₁ (loop _ rfl))
def tCompE (EX:XS) (wi:TI) (k:Nat) (js:List Nat) (g:TG) (tc:TT) (te:XS→TE):TE:=fun σ H Q=>tComp wi k js g tc (te fun cls _ H'=>∀D ys,H' D=none→EX cls σ (upd H' D (.lst ys))) σ H Q
end
end L2
end
section
set_option maxRecDepth 100000
set_option maxHeartbeats 4000000
namespace L2
open PySem PySem.Spec PyProof.Rows
def Itz (K:PySem.W.Frag) (a b:Addr):It :=
  ⟨fun i H=>∃xs ys x y,SqL K H a xs∧SqL K H b ys∧xs[i]?=some x∧ys[i]?=some y,
   fun i H v H'=>∃p x y,H p=none∧v=.ref p∧H'=upd H p (.tup [x,y])∧(∀xs,SqL K H a xs→xs[i]?=some x)∧∀ys,SqL K H b ys→ys[i]?=some y,
   fun i H=>∃xs ys,SqL K H a xs∧SqL K H b ys∧(xs.length≤i∨ys.length≤i)⟩
theorem turn_zip {P:Program}{w:World}{K:PySem.W.Frag}{elts:List Expr}{x1}{pos:Pos} (z TI TO i1 i2 a b:Addr) (ap:ZipApart z TI TO i1 i2 a b) :
  Turn P w K (.Tuple elts x1 pos) (Itz K a b) [z,TI,TO,i1,i2] z (fun i h=>IsZip h z TI TO .none∧IsPair h TI (.ref i1) (.ref i2)∧(∃u v,IsPair h TO u v)∧h.IsListIter i1 a i∧h.IsListIter i2 b i) where
 mem:=by simp
 obj:=fun i h st c hc=>by
  obtain⟨s1,s2,⟨u,v,s3⟩,s4,s5⟩:=st
  simp only[List.mem_cons,List.not_mem_nil,or_false] at hc
  rcases hc with rfl | rfl | rfl | rfl | rfl
  ·exact⟨_,s1,fun v z=>by cases z⟩
  ·exact⟨_,s2,fun v z=>by cases z⟩
  ·exact⟨_,s3,fun v z=>by cases z⟩
  ·obtain⟨o,e,c,d⟩:=s4
   exact⟨o,e,fun v z=>by rw[d] at z; cases z⟩
  ·obtain⟨o,e,c,d⟩:=s5
   exact⟨o,e,fun v z=>by rw[d] at z; cases z⟩
 keep:=fun i h h' st k=>by
  obtain⟨s1,s2,⟨u,v,s3⟩,s4,s5⟩:=st
  exact⟨k z (by simp) _ s1,k TI (by simp) _ s2,⟨u,v,k TO (by simp) _ s3⟩,s4.at fun o q=>k i1 (by simp) o q,s5.at fun o q=>k i2 (by simp) o q⟩
 item:=by
  intro X hP hw hK hc i pins s σ H E I hf st hg
  subst hP hw hK
  obtain⟨s1,s2,s3,s4,s5⟩:=st
  obtain⟨xs,ys,x,y,hqx,hqy,hx,hy⟩:=hg
  obtain⟨itx,rvx,px,hzx⟩:=I.list hqx
  obtain⟨ity,rvy,py,hzy⟩:=I.list hqy
  obtain⟨u,hu,ru⟩:=rvx.get hx
  obtain⟨v,hv,rv⟩:=rvy.get hy
  have W:=WalksT.zip2 (prog:=X.prog) (w:=X.w) (I.ok.hd hc) z TI TO i1 i2 a b ap itx.toArray ity.toArray
  have hi:i < min itx.toArray.size ity.toArray.size:=by
   have e1:=(List.getElem?_eq_some_iff.mp hu).1
   have e2:=(List.getElem?_eq_some_iff.mp hv).1
   simp only[List.size_toArray]
   omega
  refine W.item i s _ E hi ⟨s1,s2,s3,s4,s5,px.isList,py.isList⟩ fun T vals h1 tk pt hT tup mid fr=>⟨_,rfl,W.go elts x1 pos i T _ _ E mid fun h2 st2 fr2=>?_⟩
  obtain⟨u',v',e1,e2,rfl⟩:=pt
  have eu:u'=u:=by
   have:itx[i]?=some u':=by simpa using e1
   rw[this] at hu; exact Option.some.inj hu
  have ev:v'=v:=by
   have:ity[i]?=some v':=by simpa using e2
   rw[this] at hv; exact Option.some.inj hv
  subst eu ev
  have wr:∀c,FpOk X pins H c∨c ∉ ([z,TO,i1,i2]:List Addr):=fun c=>by
   by_cases q:c∈([z,TO,i1,i2]:List Addr)
   ·refine .inl (hf c ?_)
    simp only[List.mem_cons,List.not_mem_nil,or_false] at q ⊢
    rcases q with q | q | q | q <;> simp [q]
   ·exact .inr q
  have there:∀c o,s.heap.get? c=some o→∃o',h2.get? c=some o':=fun c o q=>by
   by_cases m:c∈([z,TO,i1,i2]:List Addr)
   ·obtain⟨t1,t2,⟨u3,v3,t3⟩,t4,t5,_⟩:=st2
    simp only[List.mem_cons,List.not_mem_nil,or_false] at m
    rcases m with rfl | rfl | rfl | rfl
    ·exact⟨_,t1⟩
    ·exact⟨_,t3⟩
    ·obtain⟨o4,g,_⟩:=t4; exact⟨o4,g⟩
    ·obtain⟨o5,g,_⟩:=t5; exact⟨o5,g⟩
   ·exact⟨o,fr2 c o m (fr c o m q)⟩
  have I1:Inv X pins σ H { s with heap:=h2,toks:=tk }:=I.flight ⟨fun c o q n _=>by
    rcases wr c with f | m
    ·exact absurd f n
    ·exact fr2 c o m (fr c o m q),fun c o q n=>by
    rcases wr c with f | m
    ·exact absurd f n
    ·exact⟨o.slots,fr2 c o m (fr c o m q)⟩,there⟩
  have hnT:H T=none:=I.hok.fresh hT
  obtain⟨oT,gT,cT,nT,dT⟩:=tup
  have gT2:=fr2 T oT (W.apart i T h1 mid) gT
  have I2:Inv X pins σ (upd H T (.tup [x,y])) { s with heap:=h2,toks:=tk }:=I1.track (I.fpNew _ hT) ⟨by show 2≤sizeLine; decide,[u',v'],.cons ru (.cons rv .nil),oT,gT2,cT,nT,dT⟩
  obtain⟨t1,t2,t3,t4,t5,_⟩:=st2
  refine⟨.ref T,_,I2,rfl,⟨T,x,y,hnT,rfl,rfl,fun xs' h'=>by rw[I.list_inj h' hqx]; exact hx,fun ys' h'=>by rw[I.list_inj h' hqy]; exact hy⟩,⟨t1,t2,t3,t4,t5⟩,fun c hcm=>?_⟩
  have nc:c≠T:=fun q=>by
   have f:=hf c hcm
   subst q
   simp only[List.mem_cons,List.not_mem_nil,or_false] at hcm
   have lt:∀{o:Obj},s.heap.get? c=some o→False:=fun g=>absurd (Nat.lt_of_lt_of_le (Heap.lt_size g) hT) (Nat.lt_irrefl _)
   obtain⟨u3,v3,s3⟩:=s3
   rcases hcm with rfl | rfl | rfl | rfl | rfl
   ·exact lt s1
   ·exact lt s2
   ·exact lt s3
   ·obtain⟨o4,g,_⟩:=s4; exact lt g
   ·obtain⟨o5,g,_⟩:=s5; exact lt g
  rw[upd_ne nc]; exact (hf c hcm).1
 done:=by
  intro X hP hw hK hc i pins s σ H E I hf st hg
  subst hP hw hK
  obtain⟨s1,s2,⟨u,v,s3⟩,s4,s5⟩:=st
  obtain⟨xs,ys,hqx,hqy,hle⟩:=hg
  obtain⟨itx,rvx,px,hzx⟩:=I.list hqx
  obtain⟨ity,rvy,py,hzy⟩:=I.list hqy
  have lx:=rvx.length
  have ly:=rvy.length
  have hn:itx.toArray[i]?=none∨ity.toArray[i]?=none:=by
   rcases hle with h | h
   ·exact .inl (by simp; omega)
   ·exact .inr (by simp; omega)
  refine wpAny_pyNext_zip_end (I.ok.hd hc) ap s1 s2 s3 s4 s5 px.isList py.isList hn ?_
  intro h' kp
  have keep:∀c o,c ∉ ([z,TO,i1,i2]:List Addr)→s.heap.get? c=some o→h'.get? c=some o:=fun c o m q=>by
   simp only[List.mem_cons,List.not_mem_nil,or_false,not_or] at m
   exact kp c o m.1 m.2.1 m.2.2.1 m.2.2.2 q
  have hfm:∀c∈([z,TO,i1,i2]:List Addr),FpOk X pins H c:=fun c q=>hf c (by
   simp only[List.mem_cons,List.not_mem_nil,or_false] at q ⊢
   rcases q with q | q | q | q <;> simp [q])
  have nt:∀c o,H c=some o→c ∉ ([z,TO,i1,i2]:List Addr):=fun c o e q=>by
   rw[(hfm c q).1] at e; cases e
  refine⟨rfl,I.step (g':=s.gens) (d':=s.drawn) (t':=s.toks) (ch:=[z,TO,i1,i2]) (fun c hcm=>?_) (fun c o hL hb hc e n=>keep c o hc e) (fun c o hL hb hc e n=>⟨o.slots,keep c o hc e⟩) (fun c o hc e n=>n) (fun c o hc e=>⟨o,keep c o hc e⟩) (fun _ _ e=>e) (fun _ _ _ e=>e) (fun b ps e=>⟨#[],by rw[e]; simp⟩) (fun m hm=>?_) (fun c o e=>?_) I.bare⟩
  ·obtain⟨f0,f1,f2,f3,f4,f5⟩:=hfm c hcm
   exact⟨f3,f1,f4,f5⟩
  ·obtain⟨o,es,ep,ho,r⟩:=hm
   exact⟨o,es,ep,keep _ o (fun q=>(hfm _ q).2.1 rfl) ho,r⟩
  ·refine (I.hok c o e).stay (fun d u hd q=>?_) (fun _ q=>q) fun _ _ q=>q
   rcases hd with r | r
   ·subst r; exact keep _ u (nt _ _ e) q
   ·exact keep d u (nt _ _ r) q
 self:=fun _ _ _ _ _ st h=>wpAny_pyIter_zip st.1 h
section
variable {X:Cx}
theorem bt_zip:bootBuiltins "zip"=some (.type "zip"):=by decide +kernel
def iZip (K:PySem.W.Frag) (ta:TA):TI:=fun σ H R=>ta σ H fun vs H1=>∃a b,vs=[.ref a,.ref b]∧(∃xs,SqL K H1 a xs)∧(∃ys,SqL K H1 b ys)∧R (Itz K a b) H1
theorem pi_zip {elts:List Expr}{x1}{tpos:Pos}{a b:Expr}{ta:TA}{p pos:Pos} (hg:Gl X "zip") (hm:X.mg "zip"=none) (ha:PA X [a,b] ta) (hs:starEach [a,b] X.env=(false,eval a X.env)::starEach [b] X.env:=by rfl) (hpl:(backTo pos (starEach [b] X.env)).any (·.1)=false:=by rfl) :
  PI X (.Tuple elts x1 tpos) (.Call (.Name "zip" p) [a,b] [] pos) (iZip X.K ta):=by
 intro pins s σ H R I h
 refine Call_ (ld_blt I hg hm bt_zip (PyProof.Rows.callWith_type1 (thn (ha pos pins s σ H _ I h) fun us s1 ⟨vs,H1,I1,r1,q1⟩=>?_) hs hpl))
 obtain⟨l1,l2,e,⟨xs,hq1⟩,⟨ys,hq2⟩,q⟩:=q1
 subst e
 cases r1 with
 | cons ru rr =>
  cases rr with
  | cons rv rr =>
   cases rr
   cases ru
   cases rv
   obtain⟨it1,rv1,p1,hz1⟩:=I1.list hq1
   obtain⟨it2,rv2,p2,hz2⟩:=I1.list hq2
   refine call_zip_2 p1.isList p2.isList fun h' g1 g2 g3 g4 g5 hsz hk=>?_
   refine wpAny_pyIter_zip g1 ?_
   have I2:Inv X pins σ H1 { s1 with heap:=h',toks:=s1.toks }:=I1.kept hk
   obtain⟨o1,e1,_⟩:=p1.isList
   obtain⟨o2,e2,_⟩:=p2.isList
   have lt1:=Heap.lt_size e1
   have lt2:=Heap.lt_size e2
   have bb:∀j k:Nat,j≠k→s1.heap.objs.size+j≠s1.heap.objs.size+k:=fun j k h e=>h (Nat.add_left_cancel e)
   have a1:∀k,l1≠s1.heap.objs.size+k:=fun k=>Nat.ne_of_lt (Nat.lt_of_lt_of_le lt1 (Nat.le_add_right _ _))
   have a2:∀k,l2≠s1.heap.objs.size+k:=fun k=>Nat.ne_of_lt (Nat.lt_of_lt_of_le lt2 (Nat.le_add_right _ _))
   refine⟨s1.heap.objs.size+4,[s1.heap.objs.size+4,s1.heap.objs.size+2,s1.heap.objs.size+3,s1.heap.objs.size,s1.heap.objs.size+1],_,Itz X.K l1 l2,H1,rfl,I2,turn_zip _ _ _ _ _ l1 l2 ⟨bb 2 4 (by decide),bb 3 4 (by decide),bb 0 4 (by decide),bb 1 4 (by decide),bb 2 3 (by decide),bb 2 0 (by decide),bb 2 1 (by decide),bb 3 0 (by decide),bb 3 1 (by decide),bb 0 1 (by decide),a1 4,a1 3,a1 0,a1 1,a2 4,a2 3,a2 0,a2 1⟩,⟨g1,g2,⟨_,_,g3⟩,g4,g5⟩,fun b hb=>?_,q⟩
   have hb':s1.heap.objs.size≤b:=by
    simp only[List.mem_cons,List.not_mem_nil,or_false] at hb
    rcases hb with rfl | rfl | rfl | rfl | rfl <;> first | exact Nat.le_refl _ | exact Nat.le_add_right _ _
   exact I1.fpOk hb' (I1.hok.fresh hb')
theorem compZ {K:PySem.W.Frag}{a b:Addr}{xs ys:List V}{n k:Nat}{js:List Nat}{g:TG}{tc:TT}{te:TE}{σ:St}{H:Hp}{Q:VK} (P:Nat→List V→Hp→Prop) (hlen:min xs.length ys.length=n) (h0:P 0 [] H) (hz:∀i zs H,i≤n→P i zs H→zs.length≤i) (hn:n≤sizeLine)
  (hl:∀i zs H,i≤n→P i zs H→SqL K H a xs∧SqL K H b ys)
  (hs:∀i x y zs H p,xs[i]?=some x→ys[i]?=some y→P i zs H→H p=none→g (.ref p) (List.replicate k none++pick js σ) (upd H p (.tup [x,y])) fun σ2 H2=>tc σ2 H2 fun b H3=>if b=true then te σ2 H3 fun z H4=>Nx n i P (zs++[z]) H4 else Nx n i P zs H3)
  (hd:∀zs H,P n zs H→∀p,H p=none→Q (.ref p) (upd H p (.lst zs))) :
  CompW (Itz K a b) k js g tc te σ H Q :=
 comp_by P h0 hz hn (fun i zs H hi p=>by
   have h1:i < xs.length:=by omega
   have h2:i < ys.length:=by omega
   obtain⟨q1,q2⟩:=hl i zs H (Nat.le_of_lt hi) p
   exact⟨xs,ys,xs[i],ys[i],q1,q2,by simp [h1],by simp [h2]⟩)
  (fun zs H p=>by
   obtain⟨q1,q2⟩:=hl _ zs H (Nat.le_refl _) p
   exact⟨xs,ys,q1,q2,by omega⟩)
  (fun i zs H v H' hi p y=>by
   obtain⟨q,x,z,hq,rfl,rfl,y1,y2⟩:=y
   obtain⟨q1,q2⟩:=hl i zs _ (Nat.le_of_lt hi) p
   exact hs i x z zs H q (y1 xs q1) (y2 ys q2) p hq) hd
end
end L2
end
section
set_option maxRecDepth 100000
set_option maxHeartbeats 4000000
namespace L2
open PySem PySem.Spec PyProof.Rows
section
variable {X:Cx}{x:Str}{p pos:Pos}{e:Expr}{es:List Expr}{t:TA}
def tCallV (X:Cx) (i:Nat) (t:TA):TE:=fun σ H Q=>∃f,σ[i]?=some (some (.ref f))∧∃(CX:CXT) (k:Nat) (fd:FuncData) (ps:List Str) (sp:Sp) (E:XK),
 FnOk X.prog X.w X.K X.mg X.base CX k f fd ps sp∧Room k X.A∧PySem.W.keepIn X.K (.ref f)=true∧Binds X.K fd ps []∧Passes CX X E∧t σ H fun vs H1=>sp vs H1 Q E
theorem pe_callV (i:Nat) (ha:PA X (e::es) t) (hN:X.N[i]?=some x:=by rfl) (hv:Vis X.env.scope x:=by first | exact Or.inl rfl | exact Or.inr (Or.inl rfl) | exact Or.inr (Or.inr rfl))
  (hdb:(x == ("__debug__" : Str))=false:=by decide) (hcd:(x == ("__classdict__" : Str))=false:=by decide) (he:starEach (e::es) X.env=(false,eval e X.env)::starEach es X.env:=by rfl) (hpl:(backTo pos (starEach es X.env)).any (·.1)=false:=by rfl) :
  PE X (.Call (.Name x p) (e::es) [] pos) (tCallV X i t):=by
 intro pins s σ H Q I h
 obtain⟨f,hσ,CX,k,fd,ps,sp,E,F,hr,hk,hb,hx,q⟩:=h
 refine wpAny_Call_Name_kw (thn (pe_var hN hv hdb hcd pins s σ H (fun v H'=>v=.ref f∧H'=H) I ⟨_,hσ,rfl,rfl⟩) fun u s0 ⟨v,H0,I0,rv,ev,eH⟩=>?_)
 subst ev eH
 obtain rfl:u=Value.ref f:=rv
 refine PySem.W.callWith_K (h₀:=X.base) I.ok.mod.kin hk (thn (ha pos pins s0 σ H0 _ I0 q) fun us s1 ⟨vs,H1,I1,r,q1⟩=>⟨I1.kIn,?_⟩) he hpl
 exact run_fn (dvs:=[]) (ds:=[]) F hr hb .nil hx I1 r (by rw[List.append_nil]; exact q1)
end
end L2
end
section
set_option maxHeartbeats 4000000
namespace L2
open PySem PySem.Spec PyProof.Rows
section
variable {X:Cx}
def rSplit0:V→List V→Hp→VK→Prop:=fun x vs H Q=>∃z,x=.str z∧vs=[]∧z.length+2≤sizeLine∧∀l,H l=none→Q (.ref l) (upd H l (.lst ((Txt.words z).map V.str)))
theorem mt_split0:MtR X "str.split" rSplit0:=by
 intro pins s σ H x vs v us Q I rx rv h
 obtain⟨x,rfl,rfl,hz,q⟩:=h
 obtain⟨t,rfl⟩:=rx
 cases rv
 have hn:(Builtin.Str.spaceWords x (x.length+1)).length≤sizeLine:=by
  have e1:=(StrLaws.sw_weight x).1
  have e2:=StrLaws.len_le_wsum (Builtin.Str.spaceWords x (x.length+1))
  omega
 have fin:∀(l:List (Str×Tok)) (k:Nat),l.map (·.1)=Txt.words x→l.length≤sizeLine →
   EP X pins σ Q (.ref s.heap.objs.size) { s with toks:=k,heap:=s.heap.push { cls:=.type "list",data:=.seq (strValues l).toArray } }:=fun l k e hl=>by
  have e2:(Txt.words x).map V.str=l.map fun p=>V.str p.1:=by rw[← e,List.map_map]; rfl
  have q2:=q s.heap.objs.size (I.hok.fresh (Nat.le_refl _))
  rw[e2] at q2
  exact⟨.ref s.heap.objs.size,_,I.laid (t':=k) (fun b o e=>Heap.get?_push_of_some _ e) (Nat.le_refl _)
   (show ObjOk X.prog X.w _ _ _ (.lst (l.map fun p=>V.str p.1)) from ⟨by rw[List.length_map]; exact hl,strValues l,_,vals_strs l,Heap.get?_push_size _ rfl⟩),rfl,q2⟩
 refine call_meets F.slot_str_split (typeIs_str _ _ _) F.entry_str_split (F.args_str_split_1 _) (meets_str_split_space x t (by omega) hn) ?_
 cases hw:Builtin.Str.spaceWords x (x.length+1) == [(0,x.length)]
 ·simp only[Bool.false_eq_true,if_false]
  rw[strsFrom_eq]
  have en:=numbered_texts s.toks (wordsOf x)
  exact fin (numbered s.toks (wordsOf x)) _ (en.trans (if_neg (ne_true_of_eq_false hw)).symm) (by rw[← List.length_map (f:=(·.1)),en]; unfold wordsOf; rw[List.length_map]; exact hn)
 ·simp only[if_true]
  exact fin [(x,t)] s.toks (if_pos hw).symm (by rw[sizeLine_eq]; show 1≤_; decide)
def tDNotInM (a:Addr) (kvs:List (Key×V)) (ty td:TE):TE:=fun σ H Q=>ty σ H fun y H1=>td σ H1 fun x H2=>∃k,x=.ref a∧y=kV k∧Q (.bl (!(valV kvs k).isSome)) H2
theorem pc_dnotinM {o i:Expr}{td ty:TE}{a:Addr}{kvs:List (Key×V)} (M:ModD X.prog X.w X.K a kvs) (hi:PE X i ty) (ho:PE X o td):PC X .NotIn i o (tDNotInM a kvs ty td):=by
 intro pins s σ H Q I h
 refine thn (hi pins s σ H _ I h) fun iv s1 ⟨y,H1,I1,ry,q1⟩=>thn (ho pins s1 σ H1 _ I1 q1) fun u s2 ⟨x,H2,I2,rx,k,ex,ey,q2⟩=>?_
 subst ex ey
 obtain rfl:u=Value.ref a:=rx
 obtain⟨hd,vs,rel,dd⟩:=M s2.heap I2.kIn
 refine wpAny_notIn_of (kV_is ry) hd dd.mapOf ?_
 rw[← (rel.val k).isSome_eq]
 exact⟨.bl _,H2,I2.tok _,rfl,q2⟩
end
end L2
end
section
set_option maxHeartbeats 4000000
namespace L2
open PySem PySem.Spec PyProof.Rows
section
variable {P:Program}{w:World}{A:Around}{E:Value→Shared→Prop}
theorem keepL {h h':Heap}{b a:Addr}{its:Array Value} (x:h.IsList a its) (e:Heap.ExtBut b h h') (n:a≠b):h'.IsList a its:=by
 obtain⟨o,ho,r⟩:=x
 exact⟨o,e a o n ho,r⟩
theorem drawL {z l:Addr}{its:Array Value} (hne:l≠z):∀(n i:Nat) (s:Shared) (Q:List Value→Shared→Prop),s.heap.IsListIter z l i→s.heap.IsList l its→i+n≤its.size →
  (∀h',h'.IsListIter z l (i+n)→Heap.SameBut z s.heap h'→Q ((its.toList.drop i).take n) { s with heap:=h' })→wpAny (model P w) A (draw (.ref z) n) Q E s
 | 0,i,s,Q,hz,_,_,q=>wpAny_pure (by have:=q s.heap hz (Heap.SameBut.refl ..); rw[List.take_zero] at this; exact this)
 | n+1,i,s,Q,hz,hl,hle,q=>by
  have lt:i < its.size:=by lia
  unfold draw
  refine wpAny_bind (wpAny_pyNext_list_item hz hl (x:=its[i]) (Array.getElem?_eq_getElem lt) fun h1 z1 e1=>?_)
  refine wpAny_bind (wpAny_holding (drawL hne n (i+1) _ _ z1 (keepL hl e1.extBut hne) (by lia) fun h2 z2 e2=>wpAny_pure ?_))
  have q2:=q h2 ((show i+1+n=i+(n+1) by lia) ▸ z2) (e1.trans e2)
  rw[List.drop_eq_getElem_cons (by rw[Array.length_toList]; exact lt),List.take_succ_cons,Array.getElem_toList] at q2
  exact q2
theorem unpackL {s:Shared}{l:Addr}{its:Array Value}{Q:List Value→Shared→Prop} (hh:A.handled=none) (hl:s.heap.IsList l its)
  (q:∀h',Heap.ExtBut s.heap.objs.size s.heap h'→Q its.toList { s with heap:=h' }):wpAny (model P w) A (unpackItems (.ref l) its.size none) Q E s:=by
 have hne:l≠s.heap.objs.size:=by
  obtain⟨o,ho,_⟩:=hl
  exact Nat.ne_of_lt (Heap.lt_size ho)
 have e0:∀b o,s.heap.get? b=some o→(s.heap.push { cls:=.type "list_iterator",data:=.fields #[.ref l,.int 0 0] }).get? b=some o:=fun b o e=>Heap.get?_push_of_some _ e
 have hl0:(s.heap.push { cls:=.type "list_iterator",data:=.fields #[.ref l,.int 0 0] }).IsList l its:=by
  obtain⟨o,ho,r⟩:=hl
  exact⟨o,e0 _ _ ho,r⟩
 unfold unpackItems notIterableAtAll
 refine wpAny_bind (wpAny_bind (wpAny_specialOf hl.typeIs slot_list_iter.lookup (wpAny_pure ?_)))
 rw[if_neg (by decide)]
 refine wpAny_bind (wpAny_holding (wpAny_pyIter_list hl ?_))
 refine wpAny_bind (wpAny_holding (drawL hne its.size 0 _ _ ⟨_,Heap.get?_push_size _ rfl,rfl,rfl⟩ hl0 (by lia) fun h1 z1 e1=>?_))
 have all:(its.toList.drop 0).take its.size=its.toList:=by rw[List.drop_zero,List.take_of_length_le (by rw[Array.length_toList]; exact Nat.le_refl _)]
 rw[all,if_neg (by rw[Array.length_toList]; exact Nat.lt_irrefl _)]
 refine wpAny_bind (wpAny_holding (wpAny_pyNext_list_end hh z1 (keepL hl0 e1.extBut hne) (by rw[Nat.zero_add]; exact Array.getElem?_eq_none (Nat.le_refl _)) fun h2 e2=>?_))
 exact wpAny_pure (q h2 fun b o n e=>e2 b o n (e1.extBut b o n (e0 b o e)))
end
section
variable {X:Cx}{pos:Pos}
def gLst (K:PySem.W.Frag) (n:Nat) (t:TGs):TG:=fun v σ H Q=>∃a xs,v=.ref a∧SqL K H a xs∧xs.length=n∧t xs σ H Q
theorem pg_lst {es:List Expr}{k:Nat}{t:TGs}{n:Nat} (hc:X.calm=true) (h:PGs X es t)
  (hn:(assignEach es X.env).length=n:=by rfl) (hst:(assignEach es X.env).findIdx? (·.1)=none:=by rfl):PG X (.Tuple es k pos) (gLst X.K n t):=by
 intro pins s σ H v u Q I r hw
 obtain⟨a,xs,rfl,hq,hl,hw⟩:=hw
 cases r
 obtain⟨its,rv,⟨o,m,e,c,_,d⟩,hz⟩:=I.list hq
 have L:s.heap.IsList a its.toArray:=⟨o,e,c,m,d⟩
 rw[assign_Tuple]
 refine wpAny_bind (wpAny_standAt ?_)
 unfold unpack
 have e1:(assignEach es X.env).length=its.toArray.size:=by rw[hn,← hl,rv.length]; rfl
 rw[e1,hst]
 refine wpAny_bind (wpAny_holding (unpackL (I.ok.hd hc) L fun h' hx=>?_))
 exact h pins _ σ H xs _ Q (I.kept (t':=s.toks) fun b o e=>hx b o (Nat.ne_of_lt (Heap.lt_size e)) e) (by rw[List.toList_toArray]; exact rv) hw
end
end L2
end
section
set_option maxRecDepth 100000
set_option maxHeartbeats 4000000
namespace L2
open PySem PySem.Spec PyProof.Rows
section
variable {X:Cx}{pins:List (Addr×Obj)}{σ:St}{H:Hp}{s:Shared}{scope:Scope}{ts cap:List Str}{js:List Nat}{fp:List Addr}{C D:Addr}
theorem ps_compE {i:Nat}{y:Str}{py spos:Pos}{tg elt iter:Expr}{ifs:List Expr}{pos:Pos}{wi:TI}{g:TG}{tc:TT}{te:XS→TE}{EX:XS} (hst:X.stack=X.env::X.outer) (hfrm:X.env.frame=some X.env.locals) (hx:XokF X EX) (hc:X.calm=true) (CS:CompScope X scope ts cap js) (hi:PI X tg iter wi) (hg:∀C fp s H,PG (cxComp X scope C fp (ts++cap) s H) tg g)
  (ht:∀C fp s H,PTs (cxComp X scope C fp (ts++cap) s H) ifs tc) (he:∀C fp s H pn EX',PE (cxTry (cxComp X scope C fp (ts++cap) s H) pn EX') elt (te EX'))
  (hN:X.N.Nodup) (hy:X.N[i]?=some y) (hl:Loc X.env.scope y) (hsw:swapsWith (.ListComp elt [⟨tg,iter,ifs,0⟩] scope pos) (some (.Name y py)) spos.line X.env=pure true)
  (hs:∀x,foldedSetIterable iter X.env x=pure x:=by intro _; rfl) (hf:X.fn y=true∨X.env.scope.names.lookup y=some .local:=by first | exact .inl rfl | exact .inr rfl | assumption) :
  PS X (.Assign [.Name y py] (.ListComp elt [⟨tg,iter,ifs,0⟩] scope pos) spos) (tAsgC (tCompE EX wi ts.length js g tc te) i):=by
 intro pins s σ H D0 I h
 rw[exec_Assign_Name_used _ _ _ _ hsw]
 refine wpAny_bind (wpAny_standAt (wpAny_bind ?_))
 show wpAny _ X.A (do let _ ← comprehension (.ListComp elt [⟨tg,iter,ifs,0⟩] scope pos) scope X.env _ (newList []) false (eval iter X.env) (some (assign (.Name y py) X.env))) _ _ s
 refine wpAny_bind (wpAny_mono (wpAny_comprehension_free (use:=some (assign (.Name y py) X.env)) (Q:=fun _ s'=>SP X pins D0 .next s') rfl hs (closureFor_eq (CS.cells I.ok)) CS.kind CS.names
  (thn (hi pins s σ H _ I h) fun v s1 h1=>thn h1 fun itv s2 h2=>?_)) (fun _ s' hq=>wpAny_pure (wpAny_pure hq)) fun _ _ e=>e)
 obtain⟨it,fp,tn,J,H2,e,I2,T,st2,f2,W,⟨m0,w0⟩,turn⟩:=h2
 subst e
 refine comp_blockE (RR:=fun acc C=>compPost (model X.prog X.w) X.A X.xe (some (assign (.Name y py) X.env)) (fun _ s'=>SP X pins D0 .next s') acc C) hst hfrm I2 ⟨T.obj,T.keep,T.self⟩ (fun C=>⟨T.item (cxComp X scope C fp (ts++cap) s2 H2) rfl rfl rfl hc,T.done (cxComp X scope C fp (ts++cap) s2 H2) rfl rfl rfl hc⟩) st2 f2 CS hg ht (fun C fp s H pn=>he C fp s H pn _) w0 turn ?_ ?_
 ·intro D' C s' H' ys m I' hn hC hD hCD hHC hHD fin
  have szL:=I2.lt
  have low:∀b o,s2.heap.get? b=some o→b≠C:=fun b o e=>Nat.ne_of_lt (Nat.lt_of_lt_of_le (Heap.lt_size e) hC)
  have hCL:X.env.locals≠C:=Nat.ne_of_lt (Nat.lt_of_lt_of_le szL hC)
  have hcell:∀x c,X.env.cells.lookup x=some c→c≠C:=fun x c e=>by
   obtain⟨v,o,ho,_⟩:=I2.cell x c e
   exact low c o ho
  show wpAny _ X.A (assign (.Name y py) X.env (.ref D')) _ _ _
  refine wpAny_assign_Name (store_ok2 (v:=.ref D') I' hN hy hl rfl (fun s'' I'' hch=>?_) hf)
  obtain⟨a,hsb,ha⟩:=hch
  have hCa:C≠a:=by
   rcases ha with z | z
   ·rw[z]; exact Ne.symm hCL
   ·exact Ne.symm (hcell _ _ z)
  exact⟨m,hn.sameBut hsb hCa,fun h' hs'=>⟨_,_,comp_gone (n0:=0) I'' (Heap.get?_none_of_le (Nat.le_trans I2.sz hC)) hCL hcell (fun p hp=>low _ _ (I2.pin p hp).1) (by rw[upd_ne hCD]; exact hHC) hs',fin D' hHD⟩⟩
 ·intro D C s' H' ys m x cls σ' fl I' hn hC hD hCD hHC hHD t q
  have szL:=I2.lt
  have low:∀b o,s2.heap.get? b=some o→b≠C:=fun b o e=>Nat.ne_of_lt (Nat.lt_of_lt_of_le (Heap.lt_size e) hC)
  refine⟨m,hn,fun h' hs' cenv _=>?_⟩
  have I'':Inv X pins σ (upd H' D (.lst ys)) { s' with heap:=h' }:=comp_gone (n0:=0) I' (Heap.get?_none_of_le (Nat.le_trans I2.sz hC)) (Nat.ne_of_lt (Nat.lt_of_lt_of_le szL hC)) (fun x c e=>by
   obtain⟨v,o,ho,_⟩:=I2.cell x c e
   exact low c o ho) (fun p hp=>low _ _ (I2.pin p hp).1) (by rw[upd_ne hCD]; exact hHC) hs'
  obtain⟨vs,T',oT,tt,⟨⟨oe,a1,a2,a3,a4⟩,b1⟩,b2,b3,b4,b5,b6,⟨fx,nx⟩,fT,nT⟩:=t
  have t':Flt (FpOk X pins (upd H' D (.lst ys))) ({ s' with heap:=h' }:Shared).heap x cls fl:=⟨vs,T',oT,tt,⟨⟨oe,hs'.extBut _ _ nx a1,a2,a3,a4⟩,b1⟩,b2,b3,hs'.extBut _ _ nT b4,b5,b6,fx,fT⟩
  refine pass_on (fs:=frs X.stack) t' fun h2 fl' k2 t2=>?_
  have I3:=I''.flight (t':=s'.toks) k2
  exact hx pins σ _ _ x cls ⟨I3,fl',t2⟩ (q D ys hHD)
end
end L2
end
section
set_option maxRecDepth 100000
set_option maxHeartbeats 4000000
namespace L2
open PySem PySem.Spec PyProof.Rows
section
variable {X:Cx}
theorem keys_vals {P:Program}{w:World}{kvs:List (Key×Value)}{zs:List Str}{acc:Array Value} (ek:kvs.map (·.1)=zs.map fun z=>(Sum.inr z:Key))
  (h:ItemsOf (fun i v=>∃k x,kvs[i]?=some (k,x)∧(mixKind P w).is k v=true) acc kvs.length):Vals (zs.map V.str) acc.toList:=by
 have lz:zs.length=kvs.length:=by have:=congrArg List.length ek; rw[List.length_map,List.length_map] at this; exact this.symm
 refine vals_at _ _ (by rw[List.length_map,Array.length_toList]; exact lz.trans h.1.symm) fun j y u h1 h2=>?_
 rw[List.getElem?_map] at h1
 obtain⟨z,hz,rfl⟩:=Option.map_eq_some_iff.mp h1
 obtain⟨k,x,e1,e2⟩:=h.2 j u (by rw[← Array.getElem?_toList]; exact h2)
 have e3:(kvs.map (·.1))[j]?=some k:=by rw[List.getElem?_map,e1]; rfl
 rw[ek,List.getElem?_map,hz] at e3
 have e4:k=.inr z:=(Option.some.inj e3).symm
 rw[e4] at e2
 obtain⟨t,ev⟩:=mixStr e2
 exact⟨t,ev⟩
def rLstK:List V→Hp→VK→Prop:=fun xs H Q=>∃p kvs,∃zs:List Str,xs=[.ref p]∧H p=some (.dK kvs)∧kvs.map (·.1)=zs.map (fun z=>(Sum.inr z:Key))∧∀l,H l=none→Q (.ref l) (upd H l (.lst (zs.map V.str)))
theorem call_lstK (hc:X.calm=true):CallR X (.type "list") rLstK:=by
 intro pins s σ H xs us Q I r h
 obtain⟨p,kvs,zs,rfl,hd,ek,q⟩:=h
 obtain⟨u,rfl,rx⟩:=vals1 r
 cases rx
 obtain⟨hz,lo,vs,rel,dd⟩:=dk_of I.hok hd
 obtain⟨ep,hat⟩:=dd.dictAt
 have ek':vs.map (·.1)=zs.map fun z=>(Sum.inr z:Key):=by rw[← rel.keys]; exact ek
 have lz:zs.length=kvs.length:=by have:=congrArg List.length ek; rw[List.length_map,List.length_map] at this; exact this.symm
 refine PySem.W.kdl_call (PySem.W.kdl_dict (knd:=mixKind X.prog X.w) lo) (I.ok.hd hc) hat (by rw[← rel.length]; exact hz) fun h' tk acc' c' kp e ha=>?_
 have vv:=keys_vals ek' ha
 exact⟨.ref _,_,I.laid (t':=tk) (o:=.lst (zs.map V.str)) kp (Nat.le_refl _) ⟨by rw[List.length_map,lz]; exact hz,acc'.toList,c',vv,e⟩,rfl,q _ (I.hok.fresh (Nat.le_refl _))⟩
end
theorem for_keysK {a:Addr}{o:Obj}{kvs:List (Key×V)}{g:TG}{tb:TS}{D:Ends}{σ:St}{H:Hp} (hk:∀p∈kvs,∃z,p.1=Sum.inr z) (Pv:Nat→St→Hp→Prop) (h0:Pv 0 σ H) (hl:∀i σ H,i≤kvs.length→Pv i σ H→H a=some (.frz o (.dK kvs)))
  (hs:∀i z v σ H,kvs[i]?=some (Sum.inr z,v)→Pv i σ H→g (.str z) σ H fun σ2 H2=>tb { D with nx:=Pv (i+1),ct:=Pv (i+1),bk:=D.nx } σ2 H2) (hd:∀σ H,Pv kvs.length σ H→D.nx σ H) :
  ∃W:Nat→Nat→St→Hp→Prop,(∃m,W 0 m σ H)∧∀i m σ H,W i m σ H →
   ((ItK a o kvs).stop i H∧D.nx σ H)∨((ItK a o kvs).go i H∧∃N:St→Hp→Prop,(∀σ' H',N σ' H'→∃m',m' < m∧W (i+1) m' σ' H')∧∀x H',(ItK a o kvs).yld i H x H'→g x σ H' fun σ2 H2=>tb { D with nx:=N,ct:=N,bk:=D.nx } σ2 H2):=by
 refine⟨fun i m σ H=>m=kvs.length - i∧i≤kvs.length∧Pv i σ H,⟨kvs.length,rfl,Nat.zero_le _,h0⟩,?_⟩
 rintro i m σ H ⟨rfl,hi,p⟩
 have q:=hl i σ H hi p
 by_cases hlt:i < kvs.length
 ·refine .inr ⟨⟨q,hk,hlt⟩,Pv (i+1),fun σ' H' p'=>⟨kvs.length - (i+1),by lia,rfl,hlt,p'⟩,fun x H' y=>?_⟩
  obtain⟨e,pp,z,h1,h2,rfl⟩:=y
  subst e
  exact hs i z pp.2 σ _ (by rw[h1,← h2]) p
 ·have e:i=kvs.length:=by lia
  subst e
  exact .inl ⟨⟨q,hk,Nat.le_refl _⟩,hd σ H p⟩
theorem Inv.thawK {X:Cx}{pins:List (Addr×Obj)}{σ σ':St}{H0 H:Hp}{s s':Shared}{a:Addr}{u:HO}{o:Obj} (I0:Inv X pins σ H0 s) (e:H0 a=some u) (nt:∀xs,u≠.tup xs) (nf:∀o' u',u≠.frz o' u') (nb:∀ps,u≠.tbl ps) (no:∀x,u≠.own x) (I:Inv X pins σ' H s') (e':H a=some (.frz o u)):Inv X pins σ' (upd H a u) s':=by
 have b1:=I.base
 have fr:∀b,H b=none→upd H a u b=none:=fun b n=>by
  by_cases hb:b=a
  ·subst hb; rw[e'] at n; cases n
  ·rw[upd_ne hb]; exact n
 refine⟨I.ok,I.os,I.bare,⟨b1.keep,b1.slot,fun b o e n hx=>fr b (b1.free b o e n hx),b1.there,fun b xs q=>?_,fun b o' u' q=>?_,fun b ps q=>?_⟩,I.loc,I.cell,fr _ I.free,fun x c e=>fr _ (I.freeC x c e),fun p hp=>?_,fun b v q=>?_,I.len⟩
 ·have z:=b1.tups b xs q
  rw[upd_ne (fun hb=>by subst hb; rw[e'] at z; cases z)]
  exact z
 ·have z:=b1.frzs b o' u' q
  have z0:=I0.base.frzs b o' u' q
  rw[upd_ne (fun hb=>by subst hb; rw[e] at z0; cases z0; exact nf _ _ rfl)]
  exact z
 ·obtain⟨more,z⟩:=b1.tbls b ps q
  rw[upd_ne (fun hb=>by subst hb; rw[e'] at z; cases z)]
  exact⟨more,z⟩
 ·obtain⟨h1,h2,h3⟩:=I.pin p hp
  exact⟨h1,fr _ h2,h3⟩
 ·have tu:∀c xs,H c=some (.tup xs)→upd H a u c=some (.tup xs):=fun c xs z=>by
   rw[upd_ne (fun hb=>by subst hb; rw[e'] at z; cases z)]; exact z
  have ow:∀c x,H c=some (.own x)→upd H a u c=some (.own x):=fun c x z=>by
   rw[upd_ne (fun hb=>by subst hb; rw[e'] at z; cases z)]; exact z
  by_cases hb:b=a
  ·subst hb
   rw[upd_same] at q
   cases q
   exact (I.hok b _ e').2.stay (fun _ _ _ q=>q) (fun c q=>ow c _ q) tu
  ·rw[upd_ne hb] at q
   exact (I.hok b v q).stay (fun _ _ _ q=>q) (fun c q=>ow c _ q) tu
def tThaw (t:TS):TS:=fun D σ H=>∃a kvs,H a=some (.dK kvs)∧t { D with nx:=fun σ' H'=>(∃o,H' a=some (.frz o (.dK kvs)))∧D.nx σ' (upd H' a (.dK kvs)) } σ H
theorem ps_thaw {X:Cx}{st:Stmt}{t:TS} (h:PS X st t):PS X st (tThaw t):=by
 intro pins s σ H D I hw
 obtain⟨a,kvs,ha,h1⟩:=hw
 refine wpAny_mono (h pins s σ H _ I h1) (fun fl s' hs=>?_) fun _ _ e=>e
 cases fl with
 | next =>
  obtain⟨σ',H',J,⟨o,e'⟩,q⟩:=hs
  exact⟨σ',_,I.thawK ha (fun _ z=>by cases z) (fun _ _ z=>by cases z) (fun _ z=>by cases z) (fun _ z=>by cases z) J e',q⟩
 | ret u=>exact hs
 | brk=>exact hs
 | cont=>exact hs
def rLenD:List V→Hp→VK→Prop:=fun xs H Q=>∃p kvs,xs=[.ref p]∧H p=some (.dK kvs)∧Q (.int kvs.length) H
theorem call_lenD {X:Cx}:CallR X (.builtin "len") rLenD:=by
 intro pins s σ H xs us Q I r h
 obtain⟨p,kvs,rfl,hd,q⟩:=h
 obtain⟨u,rfl,rx⟩:=vals1 r
 cases rx
 exact d_len I (.inl hd) fun t s' I'=>⟨.int kvs.length,H,I',⟨t,rfl⟩,q⟩
def tMidT (t:TT):TT:=fun σ H Q=>∃M:Bool→Hp→Prop,t σ H M∧∀b H',M b H'→Q b H'
theorem pt_mid {X:Cx}{e:Expr}{t:TT} (h:PT X e t):PT X e (tMidT t):=by
 intro pins s σ H Q I hw
 obtain⟨M,h1,h2⟩:=hw
 exact wpAny_mono (h pins s σ H M I h1) (fun b s' ⟨H',J,q⟩=>⟨H',J,h2 b H' q⟩) fun _ _ e=>e
end L2
end
section
set_option maxRecDepth 100000
set_option maxHeartbeats 1000000
namespace L2
open PySem PySem.Spec PyProof.Rows
theorem bt_int:bootBuiltins "int"=some (.type "int"):=by decide +kernel
theorem bt_tuple:bootBuiltins "tuple"=some (.type "tuple"):=by decide +kernel
theorem bt_list:bootBuiltins "list"=some (.type "list"):=by decide +kernel
theorem bt_str:bootBuiltins "str"=some (.type "str"):=by decide +kernel
theorem bt_len:bootBuiltins "len"=some (.builtin "len"):=by decide +kernel
theorem bt_isinstance:bootBuiltins "isinstance"=some (.builtin "isinstance"):=by decide +kernel
theorem bt_all:bootBuiltins "all"=some (.builtin "all"):=by decide +kernel
theorem bt_ValueError:bootBuiltins "ValueError"=some (.type "ValueError"):=by decide +kernel
theorem compScope_of {X:Cx}{scope:Scope}{ts cap:List Str}{js:List Nat} (h1:scope.kind=.function) (h2:(scope.names.all fun y=>y.2 != .cell)=true) (h3:(scope.names.all fun y=>y.2 != .local || scope.names.lookup y.1 == some .local)=true)
  (h4:(scope.names.all fun y=>y.2 != .free || X.env.kindOf y.1 == some .cell || X.env.kindOf y.1 == some .free)=true) (h5:cap.map some=js.map fun j=>X.N[j]?) (h6:(cap.all fun y=>scope.names.lookup y == some .free)=true) (h7:(ts++cap).Nodup):CompScope X scope ts cap js where
 kind:=h1
 nocell:=fun y hy e=>by have:=List.all_eq_true.mp h2 y hy; rw[e] at this; cases this
 names:=fun y hy e=>by
  have:=List.all_eq_true.mp h3 y hy
  rw[e] at this
  simpa using this
 free:=fun y hy e=>by
  have:=List.all_eq_true.mp h4 y hy
  rw[e] at this
  simpa using this
 caps:=h5
 capf:=fun y hy=>by
  have:=List.all_eq_true.mp h6 y hy
  simpa using this
 nd:=h7
theorem st_c {env:Env}{c j pos}{es:List Expr}:starEach (.Constant c j pos::es) env=(false,eval (.Constant c j pos) env)::starEach es env:=rfl
theorem st_n {env:Env}{x pos}{es:List Expr}:starEach (.Name x pos::es) env=(false,eval (.Name x pos) env)::starEach es env:=rfl
theorem st_f {env:Env}{a b c pos}{es:List Expr}:starEach (.Call a b c pos::es) env=(false,eval (.Call a b c pos) env)::starEach es env:=rfl
def strOf:Expr→Option Str
 | .Constant (.str x) _ _=>some x
 | _=>none
theorem pa_strs {X:Cx}:∀{es:List Expr}{xs:List Str},es.map strOf=xs.map some→PA X es (fun _ H Q=>Q (xs.map V.str) H)
 | [],[],_=>pa_nil
 | [],_::_,h=>by cases h
 | _::_,[],h=>by cases h
 | e::es,x::xs,h=>by
  rw[List.map_cons,List.map_cons] at h
  injection h with h1 h2
  have ih:=pa_strs (X:=X) (es:=es) (xs:=xs) h2
  unfold strOf at h1
  split at h1
  ·cases h1
   exact pa_cons pe_str ih st_c
  ·cases h1
structure DD where
 f:Addr
 fd:FuncData
structure Def (K:PySem.W.Frag) (mg:Str→Option Value) (x:Str) (st:Stmt) (ps:List Str) (d:DD):Prop where
 fn:Fun K x x st d.f d.fd
 m:mg x=some (.ref d.f)
 b:Binds K d.fd ps []
def hid (p:Addr) (H:Hp):Hp:=fun b=>if b=p then none else H b
theorem hid_ne {p b:Addr}{H:Hp} (h:b≠p):hid p H b=H b:=if_neg h
theorem Same.hid {p:Addr}{H H':Hp} (e:Same H H'):Same (hid p H) (L2.hid p H'):=fun b o q=>by
 unfold L2.hid at q ⊢
 split at q
 ·cases q
 ·rename_i h; rw[if_neg h]; exact e b o q
def DOk (a b c:Int):Prop:=1≤b∧b≤2147490000∧1000000000≤c∧c≤2147483647
def Ds (H:Hp) (p:Addr):Prop:=∃a b c,H p=some (.lst [.int a,.int b,.int c])∧DOk a b c
structure Dr (p:Addr) (H H':Hp):Prop where
 same:Same (hid p H) (hid p H')
 ds:Ds H' p
theorem Dr.refl {p:Addr}{H:Hp} (h:Ds H p):Dr p H H:=⟨Same.refl _,h⟩
theorem Dr.trans {p:Addr}{H H1 H2:Hp} (a:Dr p H H1) (b:Dr p H1 H2):Dr p H H2:=⟨a.same.trans b.same,b.ds⟩
theorem Ds.same {p:Addr}{H H':Hp} (h:Ds H p) (e:Same H H'):Ds H' p:=by
 obtain⟨a,b,c,q,r⟩:=h
 exact⟨a,b,c,e _ _ q,r⟩
theorem Dr.of_same {p:Addr}{H H':Hp} (h:Ds H p) (e:Same H H'):Dr p H H':=⟨e.hid,h.same e⟩
theorem Dr.of_upd {p:Addr}{H:Hp}{a b c:Int} (h:DOk a b c):Dr p H (upd H p (.lst [.int a,.int b,.int c])) :=
 ⟨fun q o e=>by
  unfold hid at e ⊢
  split at e
  ·cases e
  ·rename_i n; rw[if_neg n,upd_ne n]; exact e,a,b,c,upd_same,h⟩
theorem Ds.ne {p q:Addr}{H:Hp} (h:Ds H p) (n:H q=none):p≠q:=by
 obtain⟨a,b,c,e,_⟩:=h
 exact ne_of_none e n
theorem Dr.new {p q:Addr}{H:Hp} (h:Ds H p) (n:H q=none) (o:HO):Dr p H (upd H q o):=Dr.of_same h (same_new n o)
end L2
end
section
set_option maxRecDepth 100000
set_option maxHeartbeats 1000000
namespace L2
open PySem PySem.Spec PyProof.Rows
structure Tb where
 a:Int
 b:Int
 c:Int
 d:Int
def Tb.vs (t:Tb):List V:=[.int t.a,.int t.b,.int t.c,.int t.d]
def Tb.mul (s t:Tb):Tb:=⟨s.a * t.a+s.b * t.c,s.a * t.b+s.b * t.d,s.c * t.a+s.d * t.c,s.c * t.b+s.d * t.d⟩
def T4 (K:PySem.W.Frag) (H:Hp) (v:V) (t:Tb):Prop:=∃a,v=.ref a∧SqT K H a t.vs
def T4o (H:Hp) (v:V) (t:Tb):Prop:=∃a,v=.ref a∧H a=some (.tup t.vs)
theorem T4o.t4 {K:PySem.W.Frag}{H:Hp}{v:V}{t:Tb} (h:T4o H v t):T4 K H v t:=by
 obtain⟨a,rfl,e⟩:=h
 exact⟨a,rfl,SqT.of e⟩
theorem T4o.mono {H H':Hp}{v:V}{t:Tb} (h:T4o H v t) (e:Same H H'):T4o H' v t:=by
 obtain⟨a,rfl,q⟩:=h
 exact⟨a,rfl,e _ _ q⟩
def Lt2 (n:Nat) (x:Int):Prop:=x.natAbs < 2 ^ n
structure Bd (n:Nat) (t:Tb):Prop where
 a:Lt2 n t.a
 b:Lt2 n t.b
 c:Lt2 n t.c
 d:Lt2 n t.d
theorem Lt2.mono {n m:Nat}{x:Int} (h:Lt2 n x) (l:n≤m):Lt2 m x:=Nat.lt_of_lt_of_le h (Nat.pow_le_pow_right (by decide) l)
theorem Lt2.dot {n m:Nat}{a e b g:Int} (ha:Lt2 n a) (he:Lt2 m e) (hb:Lt2 n b) (hg:Lt2 m g):Lt2 (n+m+1) (a * e+b * g):=by
 unfold Lt2 at *
 have h1:(a * e+b * g).natAbs≤(a * e).natAbs+(b * g).natAbs:=Int.natAbs_add_le _ _
 rw[Int.natAbs_mul,Int.natAbs_mul] at h1
 have h2:a.natAbs * e.natAbs < 2 ^ n * 2 ^ m:=Nat.mul_lt_mul'' ha he
 have h3:b.natAbs * g.natAbs < 2 ^ n * 2 ^ m:=Nat.mul_lt_mul'' hb hg
 rw[Nat.pow_succ,Nat.pow_add]
 omega
theorem Bd.mul {n m:Nat}{s t:Tb} (hs:Bd n s) (ht:Bd m t):Bd (n+m+1) (s.mul t) :=
 ⟨hs.a.dot ht.a hs.b ht.c,hs.a.dot ht.b hs.b ht.d,hs.c.dot ht.a hs.d ht.c,hs.c.dot ht.b hs.d ht.d⟩
theorem Lt2.bits {n:Nat}{x:Int} (h:Lt2 n x):Builtin.Int.intBits x≤n:=by
 unfold Builtin.Int.intBits
 unfold Lt2 at h
 split
 ·exact Nat.zero_le _
 ·rename_i z
  have nz:x.natAbs≠0:=fun q=>z (by rw[Int.natAbs_eq_zero.mp q]; rfl)
  exact (Nat.log2_lt nz).mpr h
theorem Lt2.big {n m:Nat}{x y:Int} (hx:Lt2 n x) (hy:Lt2 m y) (hn:n≤1048576) (hm:m≤1048576):CBig x y:=⟨Nat.le_trans hx.bits hn,Nat.le_trans hy.bits hm⟩
def thInt:V→Bool
 | .int _=>true
 | _=>false
inductive Kn (H:Hp):V→Prop where
 | non:Kn H .non
 | bl (b:Bool):Kn H (.bl b)
 | int (i:Int):Kn H (.int i)
 | str (x:Str):Kn H (.str x)
 | lst {a:Addr}{xs:List V} (e:H a=some (.lst xs)):Kn H (.ref a)
 | tup {a:Addr}{xs:List V} (e:H a=some (.tup xs)):Kn H (.ref a)
inductive Th (H:Hp):V→Bool→Prop where
 | non:Th H .non false
 | bl (b:Bool):Th H (.bl b) false
 | int (i:Int):Th H (.int i) false
 | str (x:Str):Th H (.str x) false
 | lst {a:Addr}{xs:List V} (e:H a=some (.lst xs)):Th H (.ref a) false
 | tup {a:Addr}{xs:List V} (e:H a=some (.tup xs)) (k:∀x∈xs,Kn H x):Th H (.ref a) (xs.length == 4 && xs.all thInt)
section
variable {K:PySem.W.Frag}{H:Hp}{v:V}
end
end L2
end
section
set_option maxRecDepth 100000
set_option maxHeartbeats 1000000
namespace L2
open PySem PySem.Spec PyProof.Rows
structure Hs (H:Hp) (L:List (Addr×HO)) (H':Hp):Prop where
 all:Same H H'
 at':∀a o,(a,o)∈L→H' a=some o
 nd:(L.map (·.1)).Nodup
 fr:∀a o,(a,o)∈L→H a=none
theorem Hs.start (H:Hp):Hs H [] H:=⟨Same.refl H,fun _ _ h=>absurd h (by simp),by simp,fun _ _ h=>absurd h (by simp)⟩
theorem Hs.new {H H':Hp}{L:List (Addr×HO)}{a:Addr} (h:Hs H L H') (n:H' a=none) (o:HO):Hs H (L++[(a,o)]) (upd H' a o) where
 all:=h.all.trans (same_new n o)
 at':=fun b u hm=>by
  rcases List.mem_append.mp hm with z | z
  ·exact same_new n o _ _ (h.at' b u z)
  ·have e:(b,u)=(a,o):=by simpa using z
   cases e
   exact upd_same
 nd:=by
  rw[List.map_append,List.nodup_append]
  refine⟨h.nd,by simp,fun x hx y hy=>?_⟩
  have ey:y=a:=by simpa using hy
  subst ey
  obtain⟨⟨b,u⟩,hb,e⟩:=List.mem_map.mp hx
  cases e
  exact ne_of_none (h.at' b u hb) n
 fr:=fun b u hm=>by
  rcases List.mem_append.mp hm with z | z
  ·exact h.fr b u z
  ·have e:(b,u)=(a,o):=by simpa using z
   cases e
   exact h.all.free n
theorem Hs.get {H H':Hp}{L:List (Addr×HO)}{a:Addr}{o:HO} (h:Hs H L H') (i:Nat) (e:L[i]?=some (a,o):=by rfl):H' a=some o:=h.at' a o (List.mem_of_getElem? e)
theorem Hs.ne {H H':Hp}{L:List (Addr×HO)}{a b:Addr}{o u:HO} (h:Hs H L H') (i j:Nat) (ij:i≠j) (e:L[i]?=some (a,o):=by rfl) (f:L[j]?=some (b,u):=by rfl):a≠b:=fun z=>by
 have e1:(L.map (·.1))[i]?=some a:=by rw[List.getElem?_map,e]; rfl
 have f1:(L.map (·.1))[j]?=some b:=by rw[List.getElem?_map,f]; rfl
 rw[z] at e1
 obtain⟨hi,e2⟩:=List.getElem?_eq_some_iff.mp e1
 obtain⟨hj,f2⟩:=List.getElem?_eq_some_iff.mp f1
 exact ij ((List.getElem_inj h.nd).mp (e2.trans f2.symm))
theorem Hs.put {H H':Hp}{L:List (Addr×HO)}{a:Addr}{o:HO} (h:Hs H L H') (i:Nat) (o':HO) (e:L[i]?=some (a,o):=by rfl):Hs H (L.set i (a,o')) (upd H' a o') where
 all:=fun b u q=>by
  have ha:=h.fr a o (List.mem_of_getElem? e)
  rw[upd_ne (ne_of_none q ha)]
  exact h.all b u q
 at':=fun b u hm=>by
  obtain⟨j,ej⟩:=List.getElem?_of_mem hm
  by_cases hj:i=j
  ·subst hj
   have hi:=(List.getElem?_eq_some_iff.mp e).1
   rw[List.getElem?_set_self hi] at ej
   cases ej
   exact upd_same
  ·rw[List.getElem?_set_ne hj] at ej
   rw[upd_ne (Ne.symm (h.ne i j hj e ej))]
   exact h.at' b u (List.mem_of_getElem? ej)
 nd:=by
  have:(L.set i (a,o')).map (·.1)=L.map (·.1):=by
   apply List.ext_getElem?
   intro j
   rw[List.getElem?_map,List.getElem?_map]
   by_cases hj:i=j
   ·subst hj
    have hi:=(List.getElem?_eq_some_iff.mp e).1
    rw[List.getElem?_set_self hi,e]; rfl
   ·rw[List.getElem?_set_ne hj]
  rw[this]; exact h.nd
 fr:=fun b u hm=>by
  obtain⟨j,ej⟩:=List.getElem?_of_mem hm
  by_cases hj:i=j
  ·subst hj
   have hi:=(List.getElem?_eq_some_iff.mp e).1
   rw[List.getElem?_set_self hi] at ej
   cases ej
   exact h.fr a o (List.mem_of_getElem? e)
  ·rw[List.getElem?_set_ne hj] at ej
   exact h.fr b u (List.mem_of_getElem? ej)
theorem Hs.mono {H H' H'':Hp}{L:List (Addr×HO)} (h:Hs H L H') (s:Same H' H''):Hs H L H'':=⟨h.all.trans s,fun a o m=>s _ _ (h.at' a o m),h.nd,h.fr⟩
end L2
end
section
namespace K3
open PySem
def top (i:Nat):Stmt:=PySem.Challenge.pw_quadwords_k54_full_desks.main.body.getD i (.Pass ⟨0,0,0,0⟩)
end K3
end
section
set_option maxRecDepth 100000
set_option maxHeartbeats 4000000
namespace K3
open PySem PySem.Spec PyProof.Rows L2
abbrev sDraw:Stmt:=top 166
def spDraw:Sp:=fun vs H Q _=>∃(p:Addr) (m:Int),vs=[.ref p,.int m]∧Ds H p∧1≤m∧m < 1000000000000000000000000000000000∧∀(r:Int) (H':Hp),0≤r→r < m→Dr p H H'→Q (.int r) H'
section
variable {P:Program}{w:World}{K:PySem.W.Frag}{mg:Str→Option Value}{base:Heap}
theorem scDraw:FnScope ["draws","many","found"] ["draws","many"] (defScope sDraw):=⟨rfl,rfl,rfl,by decide +kernel,rfl,by decide +kernel,by decide +kernel⟩
theorem ok_draw {d:DD} (D:Def K mg "_law_draw" sDraw ["draws","many"] d):FnOk P w K mg base CX0 1 d.f d.fd ["draws","many"] spDraw:=by
 refine D.fn.ok scDraw (fun vs H Q E h=>?_) (fun cdv A outer s H vs Q E hr h=>?_)
 ·obtain⟨p,m,rfl,_⟩:=h
  rfl
 obtain⟨p,m,rfl,⟨a,b,c,hp,hb1,hb2,hc1,hc2⟩,hm1,hm2,q⟩:=h
 have nd:=scDraw.nd
 refine⟨_,(pss_cons (ps_if (pt_cmpR op_gt (pe_ix ix_list (pv 0) pe_int (fun _ _=>rfl)) pe_int (nomark _)) (pss_cons (ps_set (i:=2) nd rfl (Or.inl rfl) (pe_op op_mod (pe_ix ix_list (pv 0) pe_int (fun _ _=>rfl)) (pv 1))) (pss_cons (ps_asg (pe_op op_fdivB (pe_ix ix_list (pv 0) pe_int (fun _ _=>rfl)) (pv 1)) (pg_sub (pv 0) pe_int set_list)) (pss_one (ps_ret (pv 2))))) pss_nil) (pss_cons (ps_asg (pe_op op_add (pe_op op_mod (pe_op op_mul (pe_ix ix_list (pv 0) pe_int (fun _ _=>rfl)) pe_int) (pe_ix ix_list (pv 0) pe_int (fun _ _=>rfl))) pe_int) (pg_sub (pv 0) pe_int set_list)) (pss_one (ps_ret (pe_op op_mod (pe_op op_fdiv (pe_op op_mod (pe_op op_mul (pe_ix ix_list (pv 0) pe_int (fun _ _=>rfl)) (pe_op op_add (pe_op op_fdiv (pe_ix ix_list (pv 0) pe_int (fun _ _=>rfl)) pe_int) pe_int)) pe_int) pe_int) (pv 1)))))),?_⟩
 have g0:SqL K H p [.int a,.int b,.int c]:=SqL.of hp
 refine⟨_,rfl,p,_,0,_,rfl,rfl,g0,rfl,_,_,rfl,rfl,_,rfl,ite2 (fun h1=>?_) (fun h1=>?_)⟩
 ·refine⟨_,rfl,p,_,0,_,rfl,rfl,g0,rfl,_,rfl,_,_,rfl,rfl,by omega,?_⟩
  refine⟨_,rfl,p,_,0,_,rfl,rfl,g0,rfl,_,rfl,_,_,rfl,rfl,⟨by omega,by omega⟩,?_⟩
  refine⟨_,rfl,p,_,0,0,rfl,rfl,hp,rfl,?_⟩
  refine⟨_,rfl,?_⟩
  exact q _ _ (Int.emod_nonneg _ (by omega)) (Int.emod_lt_of_pos _ (by omega)) (Dr.of_upd ⟨hb1,hb2,hc1,hc2⟩)
 ·refine⟨_,rfl,p,_,1,_,rfl,rfl,g0,rfl,_,_,rfl,rfl,.inr ⟨by decide,by decide⟩,?_⟩
  refine⟨_,rfl,p,_,2,_,rfl,rfl,g0,rfl,_,_,rfl,rfl,(show (0:Int) < c by omega),_,_,rfl,rfl,?_⟩
  refine⟨_,rfl,p,_,1,1,rfl,rfl,hp,rfl,?_⟩
  have e0:=Int.emod_nonneg (b * 69621) (show c≠0 by omega)
  have e1:=Int.emod_lt_of_pos (b * 69621) (show (0:Int) < c by omega)
  have z1:1≤b * 69621 % c+1:=by omega
  have z2:b * 69621 % c+1≤2147490000:=by omega
  have g1:SqL K (upd H p (.lst [.int a,.int (b * 69621 % c+1),.int c])) p [.int a,.int (b * 69621 % c+1),.int c]:=SqL.of upd_same
  have u0:0≤(b * 69621 % c+1) / 128:=Int.ediv_nonneg (by omega) (by decide)
  have u1:(b * 69621 % c+1) / 128≤16777216:=by omega
  refine⟨_,rfl,p,_,1,_,rfl,rfl,g1,rfl,_,rfl,p,_,1,_,rfl,rfl,g1,rfl,_,_,rfl,rfl,⟨by decide,by decide⟩,_,_,rfl,rfl,_,_,rfl,rfl,.inl ⟨?_,?_⟩,_,_,rfl,rfl,(show (0:Int) < 2147483423 by decide),_,_,rfl,rfl,⟨by decide,by decide⟩,_,rfl,_,_,rfl,rfl,(show (0:Int) < m by omega),?_⟩
  ·omega
  ·omega
  exact q _ _ (Int.emod_nonneg _ (by omega)) (Int.emod_lt_of_pos _ (by omega)) (Dr.of_upd ⟨z1,z2,hc1,hc2⟩)
end
end K3
end
section
set_option maxRecDepth 100000
set_option maxHeartbeats 4000000
namespace K3
open PySem PySem.Spec PyProof.Rows L2
section
variable {P:Program}{w:World}{K:PySem.W.Frag}{mg:Str→Option Value}{base:Heap}
end
end K3
end
section
set_option maxRecDepth 100000
set_option maxHeartbeats 4000000
namespace K3
open PySem PySem.Spec PyProof.Rows L2
section
variable {P:Program}{w:World}{K:PySem.W.Frag}{mg:Str→Option Value}{base:Heap}
theorem line4 {n:Nat} (h:n≤1000000):n≤sizeLine:=Nat.le_trans h (by rw[sizeLine_eq]; decide)
end
end K3
end
section
set_option maxRecDepth 100000
set_option maxHeartbeats 4000000
namespace K3
open PySem PySem.Spec PyProof.Rows L2
section
variable {P:Program}{w:World}{K:PySem.W.Frag}{mg:Str→Option Value}{base:Heap}
def spProd (K:PySem.W.Frag):Sp:=fun vs H Q _=>∃u v s t n m,vs=[u,v]∧T4 K H u s∧T4 K H v t∧Bd n s∧Bd m t∧n≤1048576∧m≤1048576∧∀r H',Same H H'→T4o H' r (s.mul t)→Q r H'
theorem sc_prod:FnScope ["one","other","a","b","c","d","e","f","g","h"] ["one","other"] (defScope (top 33)):=⟨rfl,rfl,rfl,by decide +kernel,rfl,by decide +kernel,by decide +kernel⟩
theorem ok_prod {d:DD} (D:Def K mg "product" (top 33) ["one","other"] d):FnOk P w K mg base CX0 1 d.f d.fd ["one","other"] (spProd K):=by
 refine D.fn.ok sc_prod (fun vs H Q E h=>?_) (fun cdv A outer s H vs Q E hr h=>?_)
 ·obtain⟨u,v,s,t,n,m,rfl,_⟩:=h
  rfl
 obtain⟨u,v,s,t,n,m,rfl,⟨p,rfl,hp⟩,⟨r,rfl,hr'⟩,hs,ht,hn,hm,q⟩:=h
 have hc:=hr.calm
 have nd:=sc_prod.nd
 refine⟨_,(pss_cons (ps_asg (pv 0) (pg_tup hc (pgs_cons (pg_name (i:=2) nd rfl (Or.inl rfl)) (pgs_cons (pg_name (i:=3) nd rfl (Or.inl rfl)) (pgs_cons (pg_name (i:=4) nd rfl (Or.inl rfl)) (pgs_cons (pg_name (i:=5) nd rfl (Or.inl rfl)) pgs_nil)))))) (pss_cons (ps_asg (pv 1) (pg_tup hc (pgs_cons (pg_name (i:=6) nd rfl (Or.inl rfl)) (pgs_cons (pg_name (i:=7) nd rfl (Or.inl rfl)) (pgs_cons (pg_name (i:=8) nd rfl (Or.inl rfl)) (pgs_cons (pg_name (i:=9) nd rfl (Or.inl rfl)) pgs_nil)))))) (pss_one (ps_ret (pe_tup (pa_cons (pe_op op_add (pe_op op_mulB (pv 2) (pv 6)) (pe_op op_mulB (pv 3) (pv 8))) (pa_cons (pe_op op_add (pe_op op_mulB (pv 2) (pv 7)) (pe_op op_mulB (pv 3) (pv 9))) (pa_cons (pe_op op_add (pe_op op_mulB (pv 4) (pv 6)) (pe_op op_mulB (pv 5) (pv 8))) (pa_cons (pe_op op_add (pe_op op_mulB (pv 4) (pv 7)) (pe_op op_mulB (pv 5) (pv 9))) pa_nil))))))))),?_⟩
 refine⟨_,rfl,p,_,rfl,hp,rfl,_,_,rfl,_,_,rfl,_,_,rfl,_,_,rfl,rfl,?_⟩
 refine⟨_,rfl,r,_,rfl,hr',rfl,_,_,rfl,_,_,rfl,_,_,rfl,_,_,rfl,rfl,?_⟩
 refine⟨_,rfl,_,rfl,_,_,rfl,rfl,hs.a.big ht.a hn hm,_,rfl,_,rfl,_,_,rfl,rfl,hs.b.big ht.c hn hm,_,_,rfl,rfl,?_⟩
 refine⟨_,rfl,_,rfl,_,_,rfl,rfl,hs.a.big ht.b hn hm,_,rfl,_,rfl,_,_,rfl,rfl,hs.b.big ht.d hn hm,_,_,rfl,rfl,?_⟩
 refine⟨_,rfl,_,rfl,_,_,rfl,rfl,hs.c.big ht.a hn hm,_,rfl,_,rfl,_,_,rfl,rfl,hs.d.big ht.c hn hm,_,_,rfl,rfl,?_⟩
 refine⟨_,rfl,_,rfl,_,_,rfl,rfl,hs.c.big ht.b hn hm,_,rfl,_,rfl,_,_,rfl,rfl,hs.d.big ht.d hn hm,_,_,rfl,rfl,?_⟩
 refine⟨line4 (by show 4≤1000000; decide),fun z hz=>?_⟩
 exact q _ _ (same_new hz _) ⟨z,rfl,upd_same⟩
end
end K3
end
section
set_option maxRecDepth 100000
set_option maxHeartbeats 4000000
namespace K3
open PySem PySem.Spec PyProof.Rows L2
section
variable {P:Program}{w:World}{K:PySem.W.Frag}{mg:Str→Option Value}{base:Heap}
theorem sc_times:FnScope ["one","other","found","row","column","top"] ["one","other"] (defScope (top 170)):=⟨rfl,rfl,rfl,by decide +kernel,rfl,by decide +kernel,by decide +kernel⟩
theorem ok_times {d:DD} (D:Def K mg "_law_times" (top 170) ["one","other"] d) (b_range:mg "range"=none) (b_tuple:mg "tuple"=none):FnOk P w K mg base CX0 1 d.f d.fd ["one","other"] (spProd K):=by
 refine D.fn.ok sc_times (fun vs H Q E h=>?_) (fun cdv A outer s H vs Q E hr h=>?_)
 ·obtain⟨u,v,s,t,n,m,rfl,_⟩:=h
  rfl
 obtain⟨u,v,s,t,n,m,rfl,⟨p,rfl,hp⟩,⟨r,rfl,hr'⟩,hs,ht,hn,hm,q⟩:=h
 have hc:=hr.calm
 have nd:=sc_times.nd
 refine⟨_,(pss_cons (ps_set (i:=2) nd rfl (Or.inl rfl) (pe_lst pa_nil)) (pss_cons (ps_for PassesOwn.never hc (pi_tup (pe_tup (pa_cons pe_int (pa_cons pe_int pa_nil)))) (pg_name (i:=3) nd rfl (Or.inl rfl)) (pss_one (ps_for PassesOwn.never hc (pi_range1 rfl b_range (pa_cons pe_int pa_nil)) (pg_name (i:=4) nd rfl (Or.inl rfl)) (pss_cons (ps_set (i:=5) nd rfl (Or.inl rfl) (pe_op op_mulB (pe_ix ix_tup (pv 0) (pv 3) (fun _ _=>rfl)) (pe_ix ix_tup (pv 1) (pv 4) (fun _ _=>rfl)))) (pss_one (ps_expr (pe_bm PySem.F.plainAttrs_list PySem.F.slot_list_append PySem.F.type_list_append mt_append (pv 2) (pa_cons (pe_op op_add (pv 5) (pe_op op_mulB (pe_ix ix_tup (pv 0) (pe_op op_add (pv 3) pe_int) (fun _ _=>rfl)) (pe_ix ix_tup (pv 1) (pe_op op_add pe_int (pv 4)) (fun _ _=>rfl)))) pa_nil)))))))) (pss_one (ps_ret (pe_callTy call_tuple_of rfl b_tuple bt_tuple (pa_cons (pv 2) pa_nil)))))),?_⟩
 refine⟨line4 (by show 0≤1000000; decide),fun f hf=>?_⟩
 refine⟨line4 (by show 2≤1000000; decide),fun w hw=>⟨w,rfl,⟨_,SqT.of upd_same⟩,?_⟩⟩
 have S0:Same H (upd H f (.lst [])):=same_new hf _
 have S1:Same H (upd (upd H f (.lst [])) w (.tup [.int 0,.int 2])):=S0.trans (same_new hw _)
 have nfw:f≠w:=ne_of_none (H:=upd H f (.lst [])) upd_same hw
 have keep:∀{H':Hp} (l:List V),Same H H'→H' w=some (.tup [.int 0,.int 2])→Same H (upd H' f (.lst l))∧upd H' f (.lst l) f=some (.lst l)∧upd H' f (.lst l) w=some (.tup [.int 0,.int 2]):=fun {H'} l e1 e2 =>
  ⟨fun b o e=>by rw[upd_ne (ne_of_none e hf)]; exact e1 b o e,upd_same,by rw[upd_ne (Ne.symm nfw)]; exact e2⟩
 refine for_tup (K:=K) (xs:=[.int 0,.int 2]) (fun i σ H'=>∃o1 o2 o3,σ=[some (.ref p),some (.ref r),some (.ref f),o1,o2,o3]∧Same H H'∧H' f=some (.lst ((s.mul t).vs.take (2 * i)))∧H' w=some (.tup [.int 0,.int 2]))
  ⟨none,none,none,rfl,S1,by rw[upd_ne nfw]; exact upd_same,upd_same⟩ (fun i σ H' hi z=>by obtain⟨_,_,_,_,_,_,e⟩:=z; exact SqT.of e) (fun i x σ H' hx z=>?_) (fun σ H' z=>?_)
 ·obtain⟨o1,o2,o3,rfl,e1,e2,e3⟩:=z
  have hi:i < 2:=(List.getElem?_eq_some_iff.mp hx).1
  refine⟨2,rfl,by decide,by decide,?_⟩
  refine for_range (lo:=0) (n:=2) (fun j σ H'=>∃o2 o3,σ=[some (.ref p),some (.ref r),some (.ref f),some x,o2,o3]∧Same H H'∧H' f=some (.lst ((s.mul t).vs.take (2 * i+j)))∧H' w=some (.tup [.int 0,.int 2]))
   ⟨o2,o3,rfl,e1,e2,e3⟩ (fun j σ H' hj z=>?_) (fun σ H' z=>?_)
  ·obtain⟨o2,o3,rfl,e1,e2,e3⟩:=z
   have hp':=e1.seqT hp
   have hr'':=e1.seqT hr'
   have fct:∃(ri α β γ δ : Int),x=.int ri∧atI s.vs ri=some (.int α)∧atI s.vs (ri+1)=some (.int β)∧atI t.vs (0+(j:Int))=some (.int γ)∧atI t.vs (2+(0+(j:Int)))=some (.int δ)∧CBig α γ∧CBig β δ ∧
     (s.mul t).vs.take (2 * i+(j+1))=(s.mul t).vs.take (2 * i+j)++[.int (α * γ+β * δ)]:=by
    have two:∀k:Nat,k < 2→k=0∨k=1:=fun k hk=>by omega
    rcases two i hi with rfl | rfl <;> rcases two j hj with rfl | rfl <;> (cases hx)
    ·exact⟨0,s.a,s.b,t.a,t.c,rfl,rfl,rfl,rfl,rfl,hs.a.big ht.a hn hm,hs.b.big ht.c hn hm,rfl⟩
    ·exact⟨0,s.a,s.b,t.b,t.d,rfl,rfl,rfl,rfl,rfl,hs.a.big ht.b hn hm,hs.b.big ht.d hn hm,rfl⟩
    ·exact⟨2,s.c,s.d,t.a,t.c,rfl,rfl,rfl,rfl,rfl,hs.c.big ht.a hn hm,hs.d.big ht.c hn hm,rfl⟩
    ·exact⟨2,s.c,s.d,t.b,t.d,rfl,rfl,rfl,rfl,rfl,hs.c.big ht.b hn hm,hs.d.big ht.d hn hm,rfl⟩
   obtain⟨ri,α,β,γ,δ,rfl,A0,A1,B0,B1,c1,c2,tk⟩:=fct
   refine⟨_,rfl,_,rfl,p,_,ri,_,rfl,rfl,hp',A0,_,rfl,_,rfl,r,_,_,_,rfl,rfl,hr'',B0,_,_,rfl,rfl,c1,?_⟩
   refine⟨_,rfl,.inl ⟨rfl,_,SqL.of e2⟩,_,rfl,_,rfl,_,rfl,_,_,rfl,rfl,p,_,_,_,rfl,rfl,hp',A1,_,rfl,_,rfl,_,_,rfl,rfl,r,_,_,_,rfl,rfl,hr'',B1,_,_,rfl,rfl,c2,_,_,rfl,rfl,?_⟩
   have ln:((s.mul t).vs.take (2 * i+j)).length≤4:=by rw[List.length_take]; exact Nat.min_le_right _ _
   refine⟨f,_,_,rfl,rfl,e2,Nat.lt_of_le_of_lt ln (Nat.lt_of_lt_of_le (show 4 < 1000000 by decide) (line4 (Nat.le_refl _))),?_⟩
   obtain⟨a1,a2,a3⟩:=keep ((s.mul t).vs.take (2 * i+j)++[.int (α * γ+β * δ)]) e1 e3
   exact⟨_,_,rfl,a1,by rw[tk]; exact a2,a3⟩
  ·obtain⟨o2,o3,rfl,e1,e2,e3⟩:=z
   exact⟨_,o2,o3,rfl,e1,e2,e3⟩
 ·obtain⟨o1,o2,o3,rfl,e1,e2,e3⟩:=z
  refine⟨_,rfl,f,(s.mul t).vs,rfl,.inl ⟨SqL.of e2,fun l hl=>?_⟩⟩
  exact q _ _ (e1.trans (same_new hl _)) ⟨l,rfl,upd_same⟩
end
end K3
end
section
set_option maxRecDepth 100000
set_option maxHeartbeats 4000000
namespace K3
open PySem PySem.Spec PyProof.Rows L2
section
variable {P:Program}{w:World}{K:PySem.W.Frag}{mg:Str→Option Value}{base:Heap}
inductive TL (K:PySem.W.Frag) (H:Hp):List V→List Tb→Prop where
 | nil:TL K H [] []
 | cons {v:V}{t:Tb}{vs:List V}{ts:List Tb}:T4 K H v t→TL K H vs ts→TL K H (v::vs) (t::ts)
end
end K3
end
section
set_option maxRecDepth 100000
set_option maxHeartbeats 4000000
namespace K3
open PySem PySem.Spec PyProof.Rows L2
section
variable {P:Program}{w:World}{K:PySem.W.Frag}{mg:Str→Option Value}{base:Heap}
end
end K3
end
section
set_option maxRecDepth 100000
set_option maxHeartbeats 4000000
namespace K3
open PySem PySem.Spec PyProof.Rows L2
section
variable {P:Program}{w:World}{K:PySem.W.Frag}{mg:Str→Option Value}{base:Heap}
def spDraws (K:PySem.W.Frag):Sp:=fun vs H Q _=>∃(a:Addr) (ns:List Int) (k:Int),vs=[.ref a,.int k]∧SqL K H a (ns.map V.int)∧0≤k∧k≤900∧∀l H',Same H H'→H l=none→Ds H' l→Q (.ref l) H'
theorem sc_draws:FnScope ["script","k","primes","cell","seed"] ["script","k"] (defScope (top 171)):=⟨rfl,rfl,rfl,by decide +kernel,rfl,by decide +kernel,by decide +kernel⟩
def primes:List Int:=[2147483647,2147483629,2147483587,2147483579,2147483563,2147483549,2147483543,2147483497]
def seed1 (c k:Int):Int:=(c % 2147483423+3 * k+1) * (48271+2 * k * k) % 2147483423
def seed2 (c k:Int):Int:=seed1 c k * seed1 c k * seed1 c k % 2147483399+k+1
theorem ok_draws {d:DD} (D:Def K mg "_law_draws" (top 171) ["script","k"] d) (b_len:mg "len"=none) (b_int:mg "int"=none):FnOk P w K mg base CX0 1 d.f d.fd ["script","k"] (spDraws K):=by
 refine D.fn.ok sc_draws (fun vs H Q E h=>?_) (fun cdv A outer s H vs Q E hr h=>?_)
 ·obtain⟨a,ns,k,rfl,_⟩:=h
  rfl
 obtain⟨a,ns,k,rfl,ha,k0,k1,q⟩:=h
 have hc:=hr.calm
 have nd:=sc_draws.nd
 obtain⟨tr,hR,qR⟩ : ∃t,PSs (cxOf CX0 P w K mg base ["script","k","primes","cell","seed"] "_law_draws" (defScope (top 171)) d.f cdv A outer s H E).nox ((defBody (top 171)).drop 3) t ∧
   ∀(c:Int) (p:Addr),H p=none→t { nx:=fun _ H'=>Q .non H',rt:=Q } [some (.ref a),some (.int k),some (.ref p),some (.int c),none] (upd H p (.tup (primes.map V.int))):=by
  refine⟨_,(@pss_cons _ _ _ _ _ (@ps_set _ _ (4) _ _ _ _ nd rfl (Or.inl rfl) (@pe_op _ _ _ _ _ _ _ _ op_mod (@pe_op _ _ _ _ _ _ _ _ op_mul (@pe_op _ _ _ _ _ _ _ _ op_add (@pe_op _ _ _ _ _ _ _ _ op_add (@pe_op _ _ _ _ _ _ _ _ op_mod (pv 3) (@pe_int _ _ _ _)) (@pe_op _ _ _ _ _ _ _ _ op_mul (@pe_int _ _ _ _) (pv 1))) (@pe_int _ _ _ _)) (@pe_op _ _ _ _ _ _ _ _ op_add (@pe_int _ _ _ _) (@pe_op _ _ _ _ _ _ _ _ op_mul (@pe_op _ _ _ _ _ _ _ _ op_mul (@pe_int _ _ _ _) (pv 1)) (pv 1)))) (@pe_int _ _ _ _)) (by rfl) (by first | exact .inl rfl | exact .inr rfl | assumption)) (@pss_cons _ _ _ _ _ (@ps_set _ _ (4) _ _ _ _ nd rfl (Or.inl rfl) (@pe_op _ _ _ _ _ _ _ _ op_add (@pe_op _ _ _ _ _ _ _ _ op_add (@pe_op _ _ _ _ _ _ _ _ op_mod (@pe_op _ _ _ _ _ _ _ _ op_mul (@pe_op _ _ _ _ _ _ _ _ op_mul (pv 4) (pv 4)) (pv 4)) (@pe_int _ _ _ _)) (pv 1)) (@pe_int _ _ _ _)) (by rfl) (by first | exact .inl rfl | exact .inr rfl | assumption)) (@pss_one _ _ _ (@ps_ret _ _ _ _ (@pe_lst _ _ _ _ (@pa_cons _ _ _ _ _ (@pe_op _ _ _ _ _ _ _ _ op_mul (pv 3) (@pe_callTy _ _ _ _ _ _ _ _ _ call_int1 rfl b_int bt_int (@pa_cons _ _ _ _ _ (@pe_cmpR _ _ _ _ _ _ _ _ op_ge (pv 3) (@pe_op _ _ _ _ _ _ _ _ op_pow (@pe_int _ _ _ _) (@pe_int _ _ _ _)) (nomark _)) (@pa_nil _) (by rfl)) (by decide) (by decide) (by rfl) (by rfl))) (@pa_cons _ _ _ _ _ (pv 4) (@pa_cons _ _ _ _ _ (@pe_ix _ _ _ _ _ _ _ ix_tup (pv 2) (@pe_op _ _ _ _ _ _ _ _ op_mod (pv 1) (@pe_int _ _ _ _)) (fun _ _=>rfl)) (@pa_nil _) (by rfl)) st_n) (by rfl))))))),fun c p hp=>?_⟩
  have c0:=Int.emod_nonneg c (show (2147483423:Int)≠0 by decide)
  have c1:=Int.emod_lt_of_pos c (show (0:Int) < 2147483423 by decide)
  refine⟨_,rfl,_,_,rfl,rfl,(show (0:Int) < 2147483423 by decide),_,rfl,_,_,rfl,rfl,.inl ⟨by decide,by decide⟩,_,_,rfl,rfl,_,_,rfl,rfl,_,rfl,_,_,rfl,rfl,.inl ⟨by decide,by decide⟩,_,rfl,_,_,rfl,rfl,.inl ⟨by omega,by omega⟩,_,_,rfl,rfl,_,_,rfl,rfl,.inl ⟨by omega,by omega⟩,_,_,rfl,rfl,(show (0:Int) < 2147483423 by decide),?_⟩
  have z0:0≤seed1 c k:=Int.emod_nonneg _ (by decide)
  have z1:seed1 c k < 2147483423:=Int.emod_lt_of_pos _ (by decide)
  have zz0:0≤seed1 c k * seed1 c k:=Int.mul_nonneg z0 z0
  have zz1:seed1 c k * seed1 c k < 2 ^ 64:=Int.lt_of_le_of_lt (Int.mul_le_mul (Int.le_of_lt z1) (Int.le_of_lt z1) z0 (by decide)) (by decide)
  refine⟨_,rfl,_,rfl,_,_,rfl,rfl,.inl ⟨?_,?_⟩,_,rfl,_,_,rfl,rfl,.inl ⟨?_,?_⟩,_,_,rfl,rfl,(show (0:Int) < 2147483399 by decide),_,rfl,_,_,rfl,rfl,_,_,rfl,rfl,?_⟩
  ·exact Int.lt_of_lt_of_le (by decide) z0
  ·exact Int.lt_trans z1 (by decide)
  ·exact Int.lt_of_lt_of_le (by decide) zz0
  ·exact zz1
  have y0:1≤seed2 c k∧seed2 c k≤2147490000:=by
   have:=Int.emod_nonneg (seed1 c k * seed1 c k * seed1 c k) (show (2147483399:Int)≠0 by decide)
   have:=Int.emod_lt_of_pos (seed1 c k * seed1 c k * seed1 c k) (show (0:Int) < 2147483399 by decide)
   unfold seed2
   omega
  have g8:0≤k % 8∧k % 8 < 8:=⟨Int.emod_nonneg _ (by decide),Int.emod_lt_of_pos _ (by decide)⟩
  have pr:∃r:Int,atI (primes.map V.int) (k % 8)=some (.int r)∧1000000000≤r∧r≤2147483647:=by
   generalize k % 8=j at g8
   have:j=0∨j=1∨j=2∨j=3∨j=4∨j=5∨j=6∨j=7:=by omega
   rcases this with rfl | rfl | rfl | rfl | rfl | rfl | rfl | rfl <;> exact⟨_,rfl,by decide,by decide⟩
  obtain⟨r,er,r0,r1⟩:=pr
  refine⟨_,rfl,_,rfl,_,_,rfl,rfl,⟨by decide,by decide,by decide⟩,_,_,rfl,rfl,.inr ⟨_,rfl,_,_,rfl,rfl,.inr ⟨?_,?_⟩,_,rfl,_,rfl,_,rfl,_,_,rfl,rfl,(show (0:Int) < 8 by decide),p,_,_,_,rfl,rfl,SqT.of upd_same,er,line4 (by show 3≤1000000; decide),fun l hl=>?_⟩⟩
  ·split <;> decide
  ·split <;> decide
  have S1:=same_new hp (.tup (primes.map V.int))
  exact q l _ (S1.trans (same_new hl _)) (S1.free hl) ⟨_,seed2 c k,r,upd_same,y0.1,y0.2,r0,r1⟩
 refine⟨_,(@pss_cons _ _ _ _ _ (@ps_set _ _ (2) _ _ _ _ nd rfl (Or.inl rfl) (@pe_tup _ _ _ _ _ (@pa_cons _ _ _ _ _ (@pe_int _ _ _ _) (@pa_cons _ _ _ _ _ (@pe_int _ _ _ _) (@pa_cons _ _ _ _ _ (@pe_int _ _ _ _) (@pa_cons _ _ _ _ _ (@pe_int _ _ _ _) (@pa_cons _ _ _ _ _ (@pe_int _ _ _ _) (@pa_cons _ _ _ _ _ (@pe_int _ _ _ _) (@pa_cons _ _ _ _ _ (@pe_int _ _ _ _) (@pa_cons _ _ _ _ _ (@pe_int _ _ _ _) (@pa_nil _) st_c) st_c) st_c) st_c) st_c) st_c) st_c) st_c)) (by rfl) (by first | exact .inl rfl | exact .inr rfl | assumption)) (@pss_cons _ _ _ _ _ (@ps_set _ _ (3) _ _ _ _ nd rfl (Or.inl rfl) (@pe_op _ _ _ _ _ _ _ _ op_add (@pe_op _ _ _ _ _ _ _ _ op_mul (@pe_int _ _ _ _) (pv 1)) (@pe_int _ _ _ _)) (by rfl) (by first | exact .inl rfl | exact .inr rfl | assumption)) (@pss_cons _ _ _ _ _ (@ps_if _ _ _ _ _ _ _ _ (@pt_cmpR _ _ _ _ _ _ _ _ op_lt (pv 1) (@pe_callB _ _ _ _ _ _ _ _ _ call_len_seq rfl b_len bt_len (@pa_cons _ _ _ _ _ (pv 0) (@pa_nil _) st_n) (by decide) (by decide) (by rfl) (by rfl)) (nomark _)) (@pss_one _ _ _ (@ps_set _ _ (3) _ _ _ _ nd rfl (Or.inl rfl) (@pe_op _ _ _ _ _ _ _ _ op_mod (@pe_ix _ _ _ _ _ _ _ ix_list (pv 0) (pv 1) (fun _ _=>rfl)) (@pe_op _ _ _ _ _ _ _ _ op_mulB (@pe_op _ _ _ _ _ _ _ _ op_pow (@pe_int _ _ _ _) (@pe_int _ _ _ _)) (@pe_op _ _ _ _ _ _ _ _ op_pow (@pe_int _ _ _ _) (@pe_int _ _ _ _)))) (by rfl) (by first | exact .inl rfl | exact .inr rfl | assumption))) (@pss_one _ _ _ (@ps_if _ _ _ _ _ _ _ _ (@pt_cmpR _ _ _ _ _ _ _ _ op_gt (@pe_callB _ _ _ _ _ _ _ _ _ call_len_seq rfl b_len bt_len (@pa_cons _ _ _ _ _ (pv 0) (@pa_nil _) st_n) (by decide) (by decide) (by rfl) (by rfl)) (@pe_int _ _ _ _) (nomark _)) (@pss_one _ _ _ (@ps_set _ _ (3) _ _ _ _ nd rfl (Or.inl rfl) (@pe_op _ _ _ _ _ _ _ _ op_add (@pe_op _ _ _ _ _ _ _ _ op_mod (@pe_ix _ _ _ _ _ _ _ ix_list (pv 0) (@pe_op _ _ _ _ _ _ _ _ op_mod (pv 1) (@pe_callB _ _ _ _ _ _ _ _ _ call_len_seq rfl b_len bt_len (@pa_cons _ _ _ _ _ (pv 0) (@pa_nil _) st_n) (by decide) (by decide) (by rfl) (by rfl))) (fun _ _=>rfl)) (@pe_op _ _ _ _ _ _ _ _ op_pow (@pe_int _ _ _ _) (@pe_int _ _ _ _))) (@pe_op _ _ _ _ _ _ _ _ op_mul (@pe_int _ _ _ _) (pv 1))) (by rfl) (by first | exact .inl rfl | exact .inr rfl | assumption))) (@pss_nil _)))) hR))),?_⟩
 refine⟨line4 (by show 8≤1000000; decide),fun p hp=>?_⟩
 have S1:=same_new hp (.tup (primes.map V.int))
 have ha1:SqL K (upd H p (.tup (primes.map V.int))) a (ns.map V.int):=S1.seq ha
 have hl:(ns.map V.int).length=ns.length:=List.length_map _
 refine⟨_,rfl,_,_,rfl,rfl,.inl ⟨by decide,by decide⟩,_,_,rfl,rfl,?_⟩
 refine⟨_,rfl,_,rfl,a,_,rfl,.inl ha1,_,_,rfl,rfl,_,rfl,ite2 (fun h1=>?_) (fun h1=>?_)⟩
 ·have h1':k < (((ns.map V.int).length:Nat):Int):=of_decide_eq_true h1
  rw[hl] at h1'
  obtain⟨v,ev⟩ : ∃v:Int,atI (ns.map V.int) k=some (.int v):=by
   have hk:k.toNat < ns.length:=by omega
   have ek:k=((k.toNat:Nat):Int):=by omega
   have e:=atI_nat (xs:=ns.map V.int) (j:=k.toNat) (v:=.int ns[k.toNat]) (by rw[List.getElem?_map,List.getElem?_eq_getElem hk]; rfl)
   rw[← ek] at e
   exact⟨ns[k.toNat],e⟩
  refine⟨_,rfl,_,rfl,a,_,_,_,rfl,rfl,ha1,ev,_,_,rfl,rfl,⟨by decide,by decide,by decide⟩,_,_,rfl,rfl,⟨by decide,by decide,by decide⟩,_,_,rfl,rfl,Lt2.big (n:=200) (m:=200) (by show (10 ^ 60:Int).natAbs < 2 ^ 200; decide) (by show (10 ^ 60:Int).natAbs < 2 ^ 200; decide) (by decide) (by decide),_,_,rfl,rfl,(show (0:Int) < 10 ^ 60 * 10 ^ 60 by decide),?_⟩
  exact qR _ p hp
 ·refine⟨_,rfl,a,_,rfl,.inl ha1,_,_,rfl,rfl,_,rfl,ite2 (fun h2=>?_) (fun h2=>?_)⟩
  ·have h2':(0:Int) < (((ns.map V.int).length:Nat):Int):=of_decide_eq_true h2
   rw[hl] at h2'
   have m0:=Int.emod_nonneg k (show (ns.length:Int)≠0 by omega)
   have m1:=Int.emod_lt_of_pos k h2'
   obtain⟨v,ev⟩ : ∃v:Int,atI (ns.map V.int) (k % (((ns.map V.int).length:Nat):Int))=some (.int v):=by
    rw[hl]
    generalize k % (ns.length:Int)=j at m0 m1
    have hk:j.toNat < ns.length:=by omega
    have ek:j=((j.toNat:Nat):Int):=by omega
    have e:=atI_nat (xs:=ns.map V.int) (j:=j.toNat) (v:=.int ns[j.toNat]) (by rw[List.getElem?_map,List.getElem?_eq_getElem hk]; rfl)
    rw[← ek] at e
    exact⟨ns[j.toNat],e⟩
   refine⟨_,rfl,_,rfl,_,rfl,a,_,rfl,.inl ha1,_,_,rfl,rfl,(show (0:Int) < (((ns.map V.int).length:Nat):Int) by rw[hl]; exact h2'),a,_,_,_,rfl,rfl,ha1,ev,_,_,rfl,rfl,⟨by decide,by decide,by decide⟩,_,_,rfl,rfl,(show (0:Int) < 10 ^ 15 by decide),_,rfl,_,_,rfl,rfl,.inl ⟨by decide,by decide⟩,_,_,rfl,rfl,?_⟩
   exact qR _ p hp
  ·exact qR _ p hp
end
end K3
end
section
set_option maxRecDepth 100000
set_option maxHeartbeats 4000000
namespace K3
open PySem PySem.Spec PyProof.Rows L2
section
variable {P:Program}{w:World}{K:PySem.W.Frag}{mg:Str→Option Value}{base:Heap}
structure ECls (mg:Str→Option Value) (cl:List Addr):Prop where
 m_NoBack:mg "NoBack"=some (.ref (cl.getD 0 0))
 m_NoCount:mg "NoCount"=some (.ref (cl.getD 1 0))
 m_NoMakers:mg "NoMakers"=some (.ref (cl.getD 2 0))
 m_NoName:mg "NoName"=some (.ref (cl.getD 3 0))
 m_NoPlain:mg "NoPlain"=some (.ref (cl.getD 4 0))
 m_NoRow:mg "NoRow"=some (.ref (cl.getD 5 0))
 m_NoText:mg "NoText"=some (.ref (cl.getD 6 0))
 m_NoWide:mg "NoWide"=some (.ref (cl.getD 7 0))
 m_NoWord:mg "NoWord"=some (.ref (cl.getD 8 0))
 m_TooLong:mg "TooLong"=some (.ref (cl.getD 9 0))
 m_NoMill:mg "NoMill"=some (.ref (cl.getD 10 0))
 b_isinstance:mg "isinstance"=none
 b_range:mg "range"=none
 b_ValueError:mg "ValueError"=none
def pk:List Str→List Bool→List Str
 | n::ns,true::bs=>n::pk ns bs
 | _::ns,false::bs=>pk ns bs
 | _,_=>[]
theorem pk_snoc (n:Str) (b:Bool):∀(ns:List Str) (bs:List Bool),ns.length=bs.length→pk (ns++[n]) (bs++[b])=pk ns bs++(if b=true then [n] else [])
 | [],[],_=>by cases b <;> rfl
 | x::ns,true::bs,h=>by show x::pk (ns++[n]) (bs++[b])=_; rw[pk_snoc n b ns bs (by simpa using h)]; rfl
 | x::ns,false::bs,h=>by show pk (ns++[n]) (bs++[b])=_; rw[pk_snoc n b ns bs (by simpa using h)]; rfl
 | [],_::_,h=>by cases h
 | _::_,[],h=>by cases h
theorem pk_sum:∀(ns:List Str) (bs:List Bool),((pk ns bs).map (·.length)).sum≤(ns.map (·.length)).sum∧(pk ns bs).length≤ns.length
 | [],bs=>by cases bs <;> exact⟨Nat.le_refl _,Nat.le_refl _⟩
 | x::ns,[]=>⟨Nat.zero_le _,Nat.zero_le _⟩
 | x::ns,true::bs=>by
  have:=pk_sum ns bs
  show (x.length+((pk ns bs).map (·.length)).sum)≤x.length+(ns.map (·.length)).sum∧(pk ns bs).length+1≤ns.length+1
  omega
 | x::ns,false::bs=>by
  have:=pk_sum ns bs
  show ((pk ns bs).map (·.length)).sum≤x.length+(ns.map (·.length)).sum∧(pk ns bs).length≤ns.length+1
  omega
abbrev kNames:List Str:=["NoBack","NoCount","NoMakers","NoName","NoPlain","NoRow","NoText","NoWide","NoWord","TooLong","NoMill","+"]
def spKind (K:PySem.W.Frag) (cl:List Addr):Addr→List V→Hp→VK→Prop:=fun x vs H Q=>∃C b0 b1 b2 b3 b4 b5 b6 b7 b8 b9 b10 b11,vs=[.ref x]∧H x=some (ExcO x (.ref C))∧ExcK K C ∧
 PySem.W.kitOne K (.ref C) (.ref (cl.getD 0 0))=some b0∧PySem.W.kitOne K (.ref C) (.ref (cl.getD 1 0))=some b1∧PySem.W.kitOne K (.ref C) (.ref (cl.getD 2 0))=some b2∧PySem.W.kitOne K (.ref C) (.ref (cl.getD 3 0))=some b3∧PySem.W.kitOne K (.ref C) (.ref (cl.getD 4 0))=some b4∧PySem.W.kitOne K (.ref C) (.ref (cl.getD 5 0))=some b5∧PySem.W.kitOne K (.ref C) (.ref (cl.getD 6 0))=some b6∧PySem.W.kitOne K (.ref C) (.ref (cl.getD 7 0))=some b7∧PySem.W.kitOne K (.ref C) (.ref (cl.getD 8 0))=some b8∧PySem.W.kitOne K (.ref C) (.ref (cl.getD 9 0))=some b9∧PySem.W.kitOne K (.ref C) (.ref (cl.getD 10 0))=some b10∧PySem.W.kitOne K (.ref C) (.type "ValueError")=some b11∧∀H',Same H H'→Q (.str (Txt.join "" (pk kNames [b0,b1,b2,b3,b4,b5,b6,b7,b8,b9,b10,b11]))) H'
theorem kind_loop {x C p4 p7:Addr}{H Hc:Hp}{Q:VK}{b0 b1 b2 b3 b4 b5 b6 b7 b8 b9 b10 b11:Bool} (hx:H x=some (ExcO x (.ref C))) (x8:Hc x=some (ExcO x (.ref C))) (gB:Hc p4=some (.lst ([b0,b1,b2,b3,b4,b5,b6,b7,b8,b9,b10,b11].map V.bl))) (gN:Hc p7=some (.lst (kNames.map V.str)))
  (all:Same H Hc) (q:∀H',Same H H'→Q (.str (Txt.join "" (pk kNames [b0,b1,b2,b3,b4,b5,b6,b7,b8,b9,b10,b11]))) H') :
  CompW (Itx x (.ref C) 12) 1 [1,2] (gName 0) (tB (tOp (rIxL K) (tVar 1) (tVar 0))) (tOp (rIxL K) (tVar 2) (tVar 0)) [some (.ref x),some (.ref p4),some (.ref p7)] Hc (fun v H1=>tNil [some (.ref x),some (.ref p4),some (.ref p7)] H1 fun xs H2=>rJoin K (.str "") (v::xs) H2 Q):=by
 generalize hbs : [b0,b1,b2,b3,b4,b5,b6,b7,b8,b9,b10,b11]=bs at gB q
 have lb:bs.length=12:=by rw[← hbs]; rfl
 refine comp_by (n:=12) (fun i ys H'=>H'=Hc∧ys=(pk (kNames.take i) (bs.take i)).map V.str) ⟨rfl,rfl⟩ (fun i ys H' hi z=>?_) (line4 (by decide)) (fun i ys H' hi z=>hi) (fun ys H' z=>⟨Nat.le_refl _,by rw[z.1]; exact x8⟩) (fun i ys H' v H'' hi z y=>?_) (fun ys H' z p hp=>?_)
 ·rw[z.2,List.length_map]
  have:=(pk_sum (kNames.take i) (bs.take i)).2
  rw[List.length_take] at this
  omega
 ·obtain⟨rfl,rfl⟩:=z
  obtain⟨rfl,rfl⟩:=y
  have hib:i < bs.length:=by omega
  have hin:i < kNames.length:=hi
  have ab:atI (bs.map V.bl) (i:Int)=some (.bl bs[i]):=atI_nat (by rw[List.getElem?_map,List.getElem?_eq_getElem hib]; rfl)
  have an:atI (kNames.map V.str) (i:Int)=some (.str kNames[i]):=atI_nat (by rw[List.getElem?_map,List.getElem?_eq_getElem hin]; rfl)
  have sn:pk (kNames.take (i+1)) (bs.take (i+1))=pk (kNames.take i) (bs.take i)++(if bs[i]=true then [kNames[i]] else []):=by
   rw[List.take_add_one,List.take_add_one,List.getElem?_eq_getElem hib,List.getElem?_eq_getElem hin]
   exact pk_snoc _ _ _ _ (by rw[List.length_take,List.length_take]; omega)
  refine⟨_,rfl,_,rfl,p4,_,_,_,rfl,rfl,SqL.of gB,ab,_,rfl,ite2 (fun hb=>?_) (fun hb=>?_)⟩
  ·refine⟨_,rfl,_,rfl,p7,_,_,_,rfl,rfl,SqL.of gN,an,Nx.mk hi ⟨rfl,?_⟩⟩
   rw[sn,if_pos hb,List.map_append]
   rfl
  ·refine Nx.mk hi ⟨rfl,?_⟩
   rw[sn,if_neg hb,List.append_nil]
 ·obtain⟨rfl,rfl⟩:=z
  refine⟨"",p,pk kNames bs,rfl,rfl,?_,?_,q _ (all.trans (same_new hp _))⟩
  ·have e1:kNames.take 12=kNames:=rfl
   have e2:bs.take 12=bs:=List.take_of_length_le (by omega)
   rw[e1,e2]
   exact SqL.of upd_same
  ·have:=(pk_sum kNames bs).1
   have z:(kNames.map (·.length)).sum≤100:=by decide +kernel
   have z2:("" : Str).length=0:=rfl
   rw[z2]
   omega
theorem sc_kind:FnScope ["e","some","names"] ["e"] (defScope (top 167)):=⟨rfl,rfl,rfl,by decide +kernel,rfl,by decide +kernel,by decide +kernel⟩
theorem ok_kind {d:DD}{cl:List Addr} (M:ECls mg cl) (D:Def K mg "_law_kind" (top 167) ["e"] d):FnX P w K mg base 1 d.f d.fd ["e"] (spKind K cl):=by
 refine D.fn.okX sc_kind (fun x vs H Q h=>?_) (fun x cdv A outer s H vs Q hr h=>?_)
 ·obtain⟨C,b0,b1,b2,b3,b4,b5,b6,b7,b8,b9,b10,b11,rfl,_⟩:=h
  rfl
 obtain⟨C,b0,b1,b2,b3,b4,b5,b6,b7,b8,b9,b10,b11,rfl,hx,Z,e0,e1,e2,e3,e4,e5,e6,e7,e8,e9,e10,e11,q⟩:=h
 have nd:=sc_kind.nd
 refine⟨_,(@pss_cons _ _ _ _ _ (@ps_set _ _ (1) _ _ _ _ nd rfl (Or.inr rfl) (@pe_lst _ _ _ _ (@pa_cons _ _ _ _ _ (@pe_callB _ _ _ _ _ _ _ _ _ call_isX rfl M.b_isinstance bt_isinstance (@pa_cons _ _ _ _ _ (pv 0) (@pa_cons _ _ _ _ _ (@pe_glob _ _ (.ref (cl.getD 0 0)) _ _ rfl (M.m_NoBack) rfl (by decide)) (@pa_nil _) st_n) st_n) (by decide) (by decide) (by rfl) (by rfl)) (@pa_cons _ _ _ _ _ (@pe_callB _ _ _ _ _ _ _ _ _ call_isX rfl M.b_isinstance bt_isinstance (@pa_cons _ _ _ _ _ (pv 0) (@pa_cons _ _ _ _ _ (@pe_glob _ _ (.ref (cl.getD 1 0)) _ _ rfl (M.m_NoCount) rfl (by decide)) (@pa_nil _) st_n) st_n) (by decide) (by decide) (by rfl) (by rfl)) (@pa_cons _ _ _ _ _ (@pe_callB _ _ _ _ _ _ _ _ _ call_isX rfl M.b_isinstance bt_isinstance (@pa_cons _ _ _ _ _ (pv 0) (@pa_cons _ _ _ _ _ (@pe_glob _ _ (.ref (cl.getD 2 0)) _ _ rfl (M.m_NoMakers) rfl (by decide)) (@pa_nil _) st_n) st_n) (by decide) (by decide) (by rfl) (by rfl)) (@pa_cons _ _ _ _ _ (@pe_callB _ _ _ _ _ _ _ _ _ call_isX rfl M.b_isinstance bt_isinstance (@pa_cons _ _ _ _ _ (pv 0) (@pa_cons _ _ _ _ _ (@pe_glob _ _ (.ref (cl.getD 3 0)) _ _ rfl (M.m_NoName) rfl (by decide)) (@pa_nil _) st_n) st_n) (by decide) (by decide) (by rfl) (by rfl)) (@pa_nil _) st_f) st_f) st_f) st_f)) (by rfl) (by first | exact .inl rfl | exact .inr rfl | assumption)) (@pss_cons _ _ _ _ _ (@ps_set _ _ (1) _ _ _ _ nd rfl (Or.inr rfl) (@pe_op _ _ _ _ _ _ _ _ op_cat (pv 1) (@pe_lst _ _ _ _ (@pa_cons _ _ _ _ _ (@pe_callB _ _ _ _ _ _ _ _ _ call_isX rfl M.b_isinstance bt_isinstance (@pa_cons _ _ _ _ _ (pv 0) (@pa_cons _ _ _ _ _ (@pe_glob _ _ (.ref (cl.getD 4 0)) _ _ rfl (M.m_NoPlain) rfl (by decide)) (@pa_nil _) st_n) st_n) (by decide) (by decide) (by rfl) (by rfl)) (@pa_cons _ _ _ _ _ (@pe_callB _ _ _ _ _ _ _ _ _ call_isX rfl M.b_isinstance bt_isinstance (@pa_cons _ _ _ _ _ (pv 0) (@pa_cons _ _ _ _ _ (@pe_glob _ _ (.ref (cl.getD 5 0)) _ _ rfl (M.m_NoRow) rfl (by decide)) (@pa_nil _) st_n) st_n) (by decide) (by decide) (by rfl) (by rfl)) (@pa_cons _ _ _ _ _ (@pe_callB _ _ _ _ _ _ _ _ _ call_isX rfl M.b_isinstance bt_isinstance (@pa_cons _ _ _ _ _ (pv 0) (@pa_cons _ _ _ _ _ (@pe_glob _ _ (.ref (cl.getD 6 0)) _ _ rfl (M.m_NoText) rfl (by decide)) (@pa_nil _) st_n) st_n) (by decide) (by decide) (by rfl) (by rfl)) (@pa_cons _ _ _ _ _ (@pe_callB _ _ _ _ _ _ _ _ _ call_isX rfl M.b_isinstance bt_isinstance (@pa_cons _ _ _ _ _ (pv 0) (@pa_cons _ _ _ _ _ (@pe_glob _ _ (.ref (cl.getD 7 0)) _ _ rfl (M.m_NoWide) rfl (by decide)) (@pa_nil _) st_n) st_n) (by decide) (by decide) (by rfl) (by rfl)) (@pa_nil _) st_f) st_f) st_f) st_f))) (by rfl) (by first | exact .inl rfl | exact .inr rfl | assumption)) (@pss_cons _ _ _ _ _ (@ps_set _ _ (1) _ _ _ _ nd rfl (Or.inr rfl) (@pe_op _ _ _ _ _ _ _ _ op_cat (pv 1) (@pe_lst _ _ _ _ (@pa_cons _ _ _ _ _ (@pe_callB _ _ _ _ _ _ _ _ _ call_isX rfl M.b_isinstance bt_isinstance (@pa_cons _ _ _ _ _ (pv 0) (@pa_cons _ _ _ _ _ (@pe_glob _ _ (.ref (cl.getD 8 0)) _ _ rfl (M.m_NoWord) rfl (by decide)) (@pa_nil _) st_n) st_n) (by decide) (by decide) (by rfl) (by rfl)) (@pa_cons _ _ _ _ _ (@pe_callB _ _ _ _ _ _ _ _ _ call_isX rfl M.b_isinstance bt_isinstance (@pa_cons _ _ _ _ _ (pv 0) (@pa_cons _ _ _ _ _ (@pe_glob _ _ (.ref (cl.getD 9 0)) _ _ rfl (M.m_TooLong) rfl (by decide)) (@pa_nil _) st_n) st_n) (by decide) (by decide) (by rfl) (by rfl)) (@pa_cons _ _ _ _ _ (@pe_callB _ _ _ _ _ _ _ _ _ call_isX rfl M.b_isinstance bt_isinstance (@pa_cons _ _ _ _ _ (pv 0) (@pa_cons _ _ _ _ _ (@pe_glob _ _ (.ref (cl.getD 10 0)) _ _ rfl (M.m_NoMill) rfl (by decide)) (@pa_nil _) st_n) st_n) (by decide) (by decide) (by rfl) (by rfl)) (@pa_cons _ _ _ _ _ (@pe_callB _ _ _ _ _ _ _ _ _ call_isX rfl M.b_isinstance bt_isinstance (@pa_cons _ _ _ _ _ (pv 0) (@pa_cons _ _ _ _ _ (@pe_bltn _ _ (.ty "ValueError") _ _ rfl M.b_ValueError bt_ValueError rfl (by decide) (by decide)) (@pa_nil _) st_n) st_n) (by decide) (by decide) (by rfl) (by rfl)) (@pa_nil _) st_f) st_f) st_f) st_f))) (by rfl) (by first | exact .inl rfl | exact .inr rfl | assumption)) (@pss_cons _ _ _ _ _ (@ps_set _ _ (2) _ _ _ _ nd rfl (Or.inr rfl) (@pe_lst _ _ _ _ (@pa_strs _ _ (["NoBack","NoCount","NoMakers","NoName","NoPlain","NoRow","NoText","NoWide","NoWord","TooLong"]) rfl)) (by rfl) (by first | exact .inl rfl | exact .inr rfl | assumption)) (@pss_cons _ _ _ _ _ (@ps_set _ _ (2) _ _ _ _ nd rfl (Or.inr rfl) (@pe_op _ _ _ _ _ _ _ _ op_cat (pv 2) (@pe_lst _ _ _ _ (@pa_cons _ _ _ _ _ (@pe_str _ _ _ _) (@pa_cons _ _ _ _ _ (@pe_str _ _ _ _) (@pa_nil _) st_c) st_c))) (by rfl) (by first | exact .inl rfl | exact .inr rfl | assumption)) (@pss_one _ _ _ (@ps_ret _ _ _ _ (@pe_bm _ _ _ _ _ _ _ _ _ _ _ _ PySem.F.plainAttrs_str PySem.F.slot_str_join PySem.F.type_str_join mt_join (@pe_str _ _ _ _) (@pa_cons _ _ _ _ _ (@pe_compX _ _ _ _ _ _ _ _ _ _ _ _ _ _ _ _ _ hr.hd (compScope_of (ts:=["k"]) (cap:=["some","names"]) (js:=[1,2]) rfl rfl rfl rfl rfl rfl (by decide +kernel)) rfl M.b_range (@pa_cons _ _ _ _ _ (@pe_int _ _ _ _) (@pa_nil _) st_c) (fun _ _ _ _=>@pg_name _ _ (0) _ (show (["k","some","names"]:List Str).Nodup by decide +kernel) rfl (Or.inl rfl) (.inr rfl)) (fun _ _ _ _=>@pts_one _ _ _ (@pt_val _ _ _ (@pe_ix _ _ _ _ _ _ _ (show IxR _ (rIxL K) from ix_list) (pv 1) (pv 0) (fun _ _=>rfl)) (by intro _; rfl))) (fun _ _ _ _=>(@pe_ix _ _ _ _ _ _ _ (show IxR _ (rIxL K) from ix_list) (pv 2) (pv 0) (fun _ _=>rfl))) (by rfl) (by intro _; rfl)) (@pa_nil _) (by rfl)) (by rfl) (by rfl) (by rfl) (by rfl) (by rfl))))))))),?_⟩
 refine⟨_,rfl,x,_,C,_,b0,rfl,rfl,hx,Z,e0,_,rfl,x,_,C,_,b1,rfl,rfl,hx,Z,e1,_,rfl,x,_,C,_,b2,rfl,rfl,hx,Z,e2,_,rfl,x,_,C,_,b3,rfl,rfl,hx,Z,e3,line4 (by show 4≤1000000; decide),fun p0 hp0=>?_⟩
 have T1:=same_new hp0 (.lst [.bl b0,.bl b1,.bl b2,.bl b3])
 have x1:=T1 _ _ hx
 refine⟨_,rfl,_,rfl,x,_,C,_,b4,rfl,rfl,x1,Z,e4,_,rfl,x,_,C,_,b5,rfl,rfl,x1,Z,e5,_,rfl,x,_,C,_,b6,rfl,rfl,x1,Z,e6,_,rfl,x,_,C,_,b7,rfl,rfl,x1,Z,e7,line4 (by show 4≤1000000; decide),fun p1 hp1=>?_⟩
 have T2:=same_new hp1 (.lst [.bl b4,.bl b5,.bl b6,.bl b7])
 refine⟨p0,p1,_,_,rfl,rfl,T2 _ _ upd_same,upd_same,line4 (by show 8≤1000000; decide),fun p2 hp2=>?_⟩
 have T3:=same_new hp2 (.lst ([.bl b0,.bl b1,.bl b2,.bl b3]++[.bl b4,.bl b5,.bl b6,.bl b7]))
 have x3:=T3 _ _ (T2 _ _ x1)
 refine⟨_,rfl,_,rfl,x,_,C,_,b8,rfl,rfl,x3,Z,e8,_,rfl,x,_,C,_,b9,rfl,rfl,x3,Z,e9,_,rfl,x,_,C,_,b10,rfl,rfl,x3,Z,e10,_,rfl,x,_,C,_,b11,rfl,rfl,x3,Z,e11,line4 (by show 4≤1000000; decide),fun p3 hp3=>?_⟩
 have T4:=same_new hp3 (.lst [.bl b8,.bl b9,.bl b10,.bl b11])
 refine⟨p2,p3,_,_,rfl,rfl,T4 _ _ upd_same,upd_same,line4 (by show 12≤1000000; decide),fun p4 hp4=>?_⟩
 have T5:=same_new hp4 (.lst (([.bl b0,.bl b1,.bl b2,.bl b3]++[.bl b4,.bl b5,.bl b6,.bl b7])++[.bl b8,.bl b9,.bl b10,.bl b11]))
 refine⟨line4 (by show 10≤1000000; decide),fun p5 hp5=>?_⟩
 have T6:=same_new hp5 (.lst ((kNames.take 10).map V.str))
 refine⟨_,rfl,line4 (by show 2≤1000000; decide),fun p6 hp6=>?_⟩
 have T7:=same_new hp6 (.lst [.str "NoMill",.str "+"])
 refine⟨p5,p6,_,_,rfl,rfl,T7 _ _ upd_same,upd_same,line4 (by show 12≤1000000; decide),fun p7 hp7=>?_⟩
 have T8:=same_new hp7 (.lst ((kNames.take 10).map V.str++[.str "NoMill",.str "+"]))
 have x8:=T8 _ _ (T7 _ _ (T6 _ _ (T5 _ _ (T4 _ _ x3))))
 have all:=T1.trans (T2.trans (T3.trans (T4.trans (T5.trans (T6.trans (T7.trans T8))))))
 have gB:=T8 _ _ (T7 _ _ (T6 _ _ (upd_same (H:=_) (a:=p4) (o:=.lst (([.bl b0,.bl b1,.bl b2,.bl b3]++[.bl b4,.bl b5,.bl b6,.bl b7])++[.bl b8,.bl b9,.bl b10,.bl b11])))))
 refine⟨rfl,12,.ref C,rfl,by decide,by decide,?_⟩
 exact kind_loop hx x8 gB upd_same all q
end
end K3
end
section
set_option maxRecDepth 100000
set_option maxHeartbeats 4000000
namespace K3
open PySem PySem.Spec PyProof.Rows L2
section
variable {P:Program}{w:World}{K:PySem.W.Frag}{mg:Str→Option Value}{base:Heap}
def txt (cs:List Nat):Str:=⟨cs.toArray⟩
abbrev ones (cs:List Nat):List Str:=cs.map fun c=>⟨#[c]⟩
theorem fold_cps:∀(r:List Str) (a:Array Nat),(r.foldl (fun acc p=>acc++("" : Str).cps++p.cps) a).toList=a.toList++(r.map (·.cps.toList)).flatten
 | [],a=>by simp
 | x::r,a=>by
  have z:("" : Str).cps=#[]:=rfl
  rw[List.foldl_cons,fold_cps r,z]
  simp
theorem join_cps (zs:List Str):(Txt.join "" zs).cps.toList=(zs.map (·.cps.toList)).flatten:=by
 cases zs with
 | nil=>rfl
 | cons x r=>exact fold_cps r x.cps
theorem str_ext {x y:Str} (h:x.cps.toList=y.cps.toList):x=y:=by
 obtain⟨⟨x⟩⟩:=x; obtain⟨⟨y⟩⟩:=y
 simp only at h; subst h; rfl
theorem join_ones (cs:List Nat):Txt.join "" (ones cs)=txt cs:=by
 apply str_ext
 rw[join_cps,List.map_map]
 show _=cs
 induction cs with
 | nil=>rfl
 | cons c r ih=>rw[List.map_cons,List.flatten_cons,ih]; rfl
theorem ones_sum:∀(cs:List Nat),((ones cs).map (·.length)).sum=cs.length
 | []=>rfl
 | c::r=>by
  show 1+((ones r).map (·.length)).sum=r.length+1
  rw[ones_sum r]; omega
structure Err1 (K:PySem.W.Frag) (cl:List Addr) (qe C:Addr) (j:Nat):Prop where
 kx:PySem.W.excIn K C bmVE "ValueError.__new__"=true
 sub:subIn K C qe=true
 ex:ExcK K C
 o0:PySem.W.kitOne K (.ref C) (.ref (cl.getD 0 0))=some (decide (j=0))
 o1:PySem.W.kitOne K (.ref C) (.ref (cl.getD 1 0))=some (decide (j=1))
 o2:PySem.W.kitOne K (.ref C) (.ref (cl.getD 2 0))=some (decide (j=2))
 o3:PySem.W.kitOne K (.ref C) (.ref (cl.getD 3 0))=some (decide (j=3))
 o4:PySem.W.kitOne K (.ref C) (.ref (cl.getD 4 0))=some (decide (j=4))
 o5:PySem.W.kitOne K (.ref C) (.ref (cl.getD 5 0))=some (decide (j=5))
 o6:PySem.W.kitOne K (.ref C) (.ref (cl.getD 6 0))=some (decide (j=6))
 o7:PySem.W.kitOne K (.ref C) (.ref (cl.getD 7 0))=some (decide (j=7))
 o8:PySem.W.kitOne K (.ref C) (.ref (cl.getD 8 0))=some (decide (j=8))
 o9:PySem.W.kitOne K (.ref C) (.ref (cl.getD 9 0))=some (decide (j=9))
 o10:PySem.W.kitOne K (.ref C) (.ref (cl.getD 10 0))=some (decide (j=10))
 o11:PySem.W.kitOne K (.ref C) (.type "ValueError")=some true
def As (z:Str):Prop:=∀c∈z.cps.toList,c < 128
theorem len_cps (z:Str):z.length=z.cps.toList.length:=rfl
theorem app_list (x y:Str):(x++y).cps.toList=x.cps.toList++y.cps.toList:=by
 show (x.cps++y.cps).toList=_
 rw[Array.toList_append]
theorem app_len (x y:Str):(x++y).length=x.length+y.length:=by rw[len_cps,app_list,List.length_append]; rfl
def Tb.ns (t:Tb):List Int:=[t.a,t.b,t.c,t.d]
theorem Bd.mem {n:Nat}{t:Tb} (h:Bd n t):∀x∈Tb.ns t,Lt2 n x:=fun x hx=>by
 unfold Tb.ns at hx
 simp only[List.mem_cons,List.not_mem_nil,or_false] at hx
 rcases hx with rfl | rfl | rfl | rfl
 ·exact h.a
 ·exact h.b
 ·exact h.c
 ·exact h.d
end
end K3
end
section
set_option maxRecDepth 100000
set_option maxHeartbeats 4000000
namespace K3
open PySem PySem.Spec PyProof.Rows L2
open PySem.NumText (AllDigits digitsVal)
theorem txt_cps (x:Str):txt x.cps.toList=x:=str_ext rfl
theorem slice_take (x:List Nat) (e:Nat):Txt.slice (txt x) none (some (e:Int))=txt (x.take e):=by
 apply str_ext
 rw[slice_list]
 show cutN x none (some (e:Int))=x.take e
 unfold cutN
 rw[HT.sIx_nat,HT.sIx_none,List.drop_zero,Nat.sub_zero]
 by_cases h:e≤x.length
 ·rw[Nat.min_eq_left h]
 ·rw[Nat.min_eq_right (by omega),List.take_of_length_le (Nat.le_refl _),List.take_of_length_le (by omega)]
theorem slice_from (x:List Nat) (a:Nat):Txt.slice (txt x) (some (a:Int)) none=txt (x.drop a):=by
 apply str_ext
 rw[slice_list]
 show cutN x (some (a:Int)) none=x.drop a
 unfold cutN
 rw[HT.sIx_nat,HT.sIx_none]
 by_cases h:a≤x.length
 ·rw[Nat.min_eq_left h,List.take_of_length_le (by rw[List.length_drop]; omega)]
 ·rw[Nat.min_eq_right (by omega),List.drop_of_length_le (Nat.le_refl _),List.drop_of_length_le (by omega),List.take_nil]
theorem join_txts (xs:List (List Nat)):Txt.join "" (xs.map txt)=txt xs.flatten:=by
 apply str_ext
 rw[join_cps,List.map_map]
 show (xs.map fun x=>(txt x).cps.toList).flatten=xs.flatten
 congr 1
 exact List.map_id' xs
def dec (n:Nat):List Nat:=(Nat.toDigits 10 n).map Char.toNat
def pd:Nat→Nat→List Nat
 | 0,_=>[]
 | k+1,r=>pd k (r / 10)++[48+r % 10]
theorem dig_nat:∀d:Nat,d < 10→(Nat.digitChar d).toNat=48+d:=by decide
theorem dec_lt {d:Nat} (h:d < 10):dec d=[48+d]:=by
 unfold dec
 rw[Nat.toDigits_of_lt_base h]
 show [(Nat.digitChar d).toNat]=_
 rw[dig_nat d h]
theorem dec_snoc {q d:Nat} (hq:0 < q) (hd:d < 10):dec (10 * q+d)=dec q++[48+d]:=by
 rw[← dec_lt hd]
 unfold dec
 rw[← List.map_append,Nat.toDigits_append_toDigits (by decide) hq hd]
theorem dec_ne (n:Nat):dec n≠[]:=by
 by_cases h:n < 10
 ·rw[dec_lt h]; exact List.cons_ne_nil _ _
 ·have:=dec_snoc (q:=n / 10) (d:=n % 10) (by omega) (Nat.mod_lt _ (by decide))
  rw[Nat.div_add_mod] at this
  rw[this]; exact List.append_ne_nil_of_right_ne_nil _ (List.cons_ne_nil _ _)
theorem dec_dig (n:Nat):AllDigits (dec n):=by
 induction n using Nat.strongRecOn with
 | _ n ih =>
  by_cases h:n < 10
  ·rw[dec_lt h]
   intro c hc
   rw[List.mem_singleton] at hc
   subst hc
   exact⟨by omega,by omega⟩
  ·have:=dec_snoc (q:=n / 10) (d:=n % 10) (by omega) (Nat.mod_lt _ (by decide))
   rw[Nat.div_add_mod] at this
   rw[this]
   intro c hc
   rcases List.mem_append.mp hc with h1 | h1
   ·exact ih (n / 10) (by omega) c h1
   ·rw[List.mem_singleton] at h1
    subst h1
    have:=Nat.mod_lt n (show 10 > 0 by decide)
    exact⟨by omega,by omega⟩
theorem dec_pd (q:Nat) (hq:0 < q):∀(k r:Nat),r < 10 ^ k→dec (q * 10 ^ k+r)=dec q++pd k r
 | 0,r,h=>by
  have:r=0:=by simpa using h
  subst this
  rw[Nat.pow_zero,Nat.mul_one,Nat.add_zero]
  show _=dec q++[]
  rw[List.append_nil]
 | k+1,r,h=>by
  have hr:r / 10 < 10 ^ k:=by rw[Nat.pow_succ] at h; exact Nat.div_lt_of_lt_mul (by rw[Nat.mul_comm]; exact h)
  have e:q * 10 ^ (k+1)+r=10 * (q * 10 ^ k+r / 10)+r % 10:=by
   have:=Nat.div_add_mod r 10
   rw[Nat.pow_succ,Nat.mul_add,← Nat.mul_assoc,Nat.mul_comm (q * 10 ^ k) 10]
   omega
  have hp:0 < 10 ^ k:=Nat.pow_pos (by decide)
  have hpos:0 < q * 10 ^ k+r / 10:=by have:=Nat.mul_pos hq hp; omega
  rw[e,dec_snoc hpos (Nat.mod_lt _ (by decide)),dec_pd q hq k (r / 10) hr,List.append_assoc]
  rfl
theorem pd_zero:∀k,pd k 0=List.replicate k 48
 | 0=>rfl
 | k+1=>by
  show pd k (0 / 10)++[48+0 % 10]=_
  rw[Nat.zero_div,pd_zero k,Nat.zero_mod,List.replicate_succ']
theorem pd_pad:∀(k r:Nat),0 < k→r < 10 ^ k→pd k r=List.replicate (k - (dec r).length) 48++dec r
 | 0,r,h0,h=>by omega
 | k+1,r,h0,h=>by
  show pd k (r / 10)++[48+r % 10]=_
  by_cases hr:r < 10
  ·rw[Nat.div_eq_of_lt hr,pd_zero,Nat.mod_eq_of_lt hr,dec_lt hr]; rfl
  ·have hr':r / 10 < 10 ^ k:=by rw[Nat.pow_succ] at h; exact Nat.div_lt_of_lt_mul (by rw[Nat.mul_comm]; exact h)
   have hk:0 < k:=by
    refine Nat.pos_of_ne_zero fun z=>?_
    subst z
    have:r < 10:=by simpa using h
    exact hr this
   have e:=dec_snoc (q:=r / 10) (d:=r % 10) (by omega) (Nat.mod_lt _ (by decide))
   rw[Nat.div_add_mod] at e
   rw[pd_pad k (r / 10) hk hr',e,List.append_assoc,List.length_append,List.length_singleton,Nat.add_sub_add_right]
theorem dec_cut (k n:Nat) (h0:0 < k) (h:10 ^ k≤n):dec n=dec (n / 10 ^ k)++(List.replicate (k - (dec (n % 10 ^ k)).length) 48++dec (n % 10 ^ k)):=by
 have hp:0 < 10 ^ k:=Nat.pow_pos (by decide)
 have hm:=Nat.mod_lt n hp
 rw[← pd_pad k _ h0 hm,← dec_pd _ (Nat.div_pos h hp) k _ hm,Nat.mul_comm,Nat.div_add_mod]
def shown (i:Int):List Nat:=if i < 0 then 45::dec i.natAbs else dec i.natAbs
theorem str_nat (m:Nat):Str.ofString (toString (m:Int))=txt (dec m):=str_ext (PySem.W.KIN.signs_num m)
theorem str_int (i:Int):Str.ofString (toString i)=txt (shown i):=by
 unfold shown
 cases i with
 | ofNat m =>
  rw[if_neg (by show ¬ (m:Int) < 0; omega)]
  exact str_nat m
 | negSucc m =>
  rw[if_pos (by omega)]
  apply str_ext
  rw[PyProof.Rows.signs_ofString]
  show (("-"++Nat.repr (m+1):String).toList.map Char.toNat)=_
  rw[String.toList_append,List.map_append]
  have e:=PySem.W.KIN.signs_num (m+1)
  rw[PyProof.Rows.signs_ofString] at e
  rw[show (Nat.repr (m+1)).toList.map Char.toNat=dec (m+1) from e]
  rfl
theorem zfill_dec (r:Nat):Txt.zfill (txt (dec r)) 64=txt (List.replicate (64 - (dec r).length) 48++dec r):=by
 unfold Txt.zfill
 have hl:(txt (dec r)).length=(dec r).length:=by show (dec r).toArray.size=_; simp
 rw[hl]
 split
 ·rename_i c
  rw[show 64 - (dec r).length=0 by omega]; rfl
 ·unfold zfilled
  have hd:=dec_dig r
  have hn:=dec_ne r
  cases h:dec r with
  | nil=>exact absurd h hn
  | cons c cs =>
   have hc:=hd c (by rw[h]; exact List.mem_cons_self)
   have e0:(txt (c::cs)).cps[0]?=some c:=by show (c::cs).toArray[0]?=_; simp
   rw[e0]
   have n43:c≠43:=by omega
   have n45:c≠45:=by omega
   split
   ·rename_i z; injection z with z; exact absurd z n43
   ·rename_i z; injection z with z; exact absurd z n45
   ·apply str_ext
    show (Array.replicate _ 48++(txt (c::cs)).cps++Array.replicate 0 48).toList=_
    simp [txt]
end K3
end
section
set_option maxRecDepth 100000
set_option maxHeartbeats 4000000
namespace K3
open PySem PySem.Spec PyProof.Rows L2
open PySem.NumText (AllDigits digitsVal)
def dg (c:Nat):Bool:=decide (48≤c∧c≤57)
theorem dg_iff {c:Nat}:dg c=true↔48≤c∧c≤57:=by unfold dg; exact decide_eq_true_iff
theorem e_figs:("0123456789" : Str).cps=#[48,49,50,51,52,53,54,55,56,57]:=by decide +kernel
theorem figs_in (c:Nat):("0123456789" : Str).cps.contains c=dg c:=by
 rw[e_figs]
 cases h:dg c with
 | true =>
  have:=dg_iff.mp h
  have:c=48∨c=49∨c=50∨c=51∨c=52∨c=53∨c=54∨c=55∨c=56∨c=57:=by omega
  rcases this with rfl | rfl | rfl | rfl | rfl | rfl | rfl | rfl | rfl | rfl <;> decide +kernel
 | false =>
  have hn:¬ (48≤c∧c≤57):=fun z=>by rw[dg_iff.mpr z] at h; cases h
  refine Bool.eq_false_iff.mpr fun z=>hn ?_
  have z1:c∈#[48,49,50,51,52,53,54,55,56,57]:=Array.contains_iff_mem.mp z
  simp at z1
  omega
theorem tw_last {p:Nat→Bool}{c:Nat} (hc:p c=false) (l:List Nat):((l++[c]).takeWhile p).length≤l.length:=by
 induction l with
 | nil=>rw[List.nil_append,List.takeWhile_cons,hc]; exact Nat.le_refl _
 | cons a l ih =>
  rw[List.cons_append,List.takeWhile_cons]
  cases p a with
  | false=>exact Nat.zero_le _
  | true=>exact Nat.succ_le_succ ih
theorem tw_all {p:Nat→Bool}:∀(l:List Nat),l.all p=true→l.takeWhile p=l
 | [],_=>rfl
 | a::l,h=>by
  rw[List.all_cons,Bool.and_eq_true] at h
  rw[List.takeWhile_cons,h.1,if_pos rfl,tw_all l h.2]
theorem drop_tw {p:Nat→Bool}:∀(l:List Nat),l.all p=false→∃c r,l.drop (l.takeWhile p).length=c::r∧p c=false
 | [],h=>by cases h
 | a::l,h=>by
  rw[List.all_cons] at h
  rw[List.takeWhile_cons]
  cases hp:p a with
  | false=>exact⟨a,l,rfl,hp⟩
  | true =>
   rw[hp,Bool.true_and] at h
   exact drop_tw l h
theorem strip_figs (cs:List Nat):decide (V.str (Txt.stripChars (txt cs) "0123456789")=V.str "")=cs.all dg:=by
 have hg:(fun c=>("0123456789" : Str).cps.contains c)=dg:=funext figs_in
 unfold Txt.stripChars Txt.stripBy
 rw[show ("0123456789" : Str).cps.contains=dg from hg]
 have hL:(txt cs).cps.toList=cs:=rfl
 have hn:(txt cs).length=cs.length:=by show cs.toArray.size=_; simp
 have lo:stripLo dg true (txt cs)=(cs.takeWhile dg).length:=rfl
 have hi:stripHi dg true (txt cs) (cs.takeWhile dg).length=cs.length - ((cs.drop (cs.takeWhile dg).length).reverse.takeWhile dg).length:=by
  unfold stripHi; rw[if_pos rfl,hn]; rfl
 unfold stripSame stripped
 rw[lo,hi,hn]
 cases h:cs.all dg with
 | true =>
  have tw:cs.takeWhile dg=cs:=by
   exact tw_all cs h
  rw[tw,List.drop_length]
  refine decide_eq_true (congrArg V.str ?_)
  split
  ·rename_i z
   rw[Bool.and_eq_true,beq_iff_eq] at z
   have:cs=[]:=List.length_eq_zero_iff.mp z.1
   subst this; rfl
  ·apply str_ext
   show ((txt cs).cps.extract cs.length (cs.length - 0)).toList=[]
   rw[Nat.sub_zero]
   simp
 | false =>
  obtain⟨c,r,e,hc⟩:=drop_tw cs h
  have hlen:=congrArg List.length e
  rw[List.length_drop,List.length_cons] at hlen
  have tl:((cs.drop (cs.takeWhile dg).length).reverse.takeWhile dg).length≤r.length:=by
   rw[e,List.reverse_cons]
   have:=tw_last hc r.reverse
   rw[List.length_reverse] at this
   exact this
  refine decide_eq_false fun z=>?_
  injection z with z
  have z2:=congrArg (fun s=>s.cps.toList.length) z
  revert z2
  split
  ·show cs.toArray.toList.length=0→False
   intro z2
   have:cs.length=0:=by simpa using z2
   omega
  ·show ((txt cs).cps.extract _ _).toList.length=0→False
   intro z2
   have:min (cs.length - ((cs.drop (cs.takeWhile dg).length).reverse.takeWhile dg).length) cs.length - (cs.takeWhile dg).length=0:=by
    have hs:(txt cs).cps.size=cs.length:=hn
    rw[Array.length_toList,Array.size_extract,hs] at z2
    exact z2
   omega
theorem starts_one (cs:List Nat) {y:Str}{d:Nat} (e:y=⟨#[d]⟩):Txt.startswith (txt cs) y=decide (cs.take 1=[d]):=by
 subst e
 unfold Txt.startswith
 have hn:(txt cs).length=cs.length:=by show cs.toArray.size=_; simp
 have h1:(⟨#[d]⟩ : Str).length=1:=rfl
 rw[StrLaws.subAt_eq,h1,hn]
 show (decide (0+1≤cs.length) && ((cs.drop 0).take 1 == [d]))=_
 rw[List.drop_zero]
 cases cs with
 | nil=>simp
 | cons a r=>simp; rfl
def fg (w:List Nat):List Nat:=w.drop (if w.take 1=[45] then 1 else 0)
def figB (cs:List Nat):Bool:=decide (1≤cs.length∧cs.length≤200) && cs.all dg && (decide (cs=[48]) || !decide (cs.take 1=[48]))
def numB (w:List Nat):Bool:=figB (fg w) && !decide (w=[45,48])
theorem fg_cases (w:List Nat):(∃r,w=45::r∧fg w=r)∨(fg w=w∧w.take 1≠[45]):=by
 unfold fg
 by_cases h:w.take 1=[45]
 ·rw[if_pos h]
  cases w with
  | nil=>cases h
  | cons a r =>
   have:a=45:=by simpa using h
   subst this
   exact .inl ⟨r,rfl,rfl⟩
 ·rw[if_neg h]
  exact .inr ⟨rfl,h⟩
def numV (w:List Nat):Int:=(intText? (txt w)).getD 0
theorem num_some {w:List Nat} (h:numB w=true):intText? (txt w)=some (numV w)∧w.length≤201:=by
 unfold numB figB at h
 rw[Bool.and_eq_true,Bool.and_eq_true,Bool.and_eq_true,decide_eq_true_iff] at h
 obtain⟨⟨⟨⟨l1,l2⟩,hd⟩,_⟩,_⟩:=h
 have hd':AllDigits (fg w):=fun c hc=>dg_iff.mp (List.all_eq_true.mp hd c hc)
 have hn:(txt w).length=w.length:=by show w.toArray.size=_; simp
 have key:∀n,intText? (txt w)=some n→intText? (txt w)=some (numV w):=fun n e=>by unfold numV; rw[e]; rfl
 rcases fg_cases w with ⟨r,e1,e2⟩ | ⟨e1,e2⟩
 ·rw[e2] at hd' l1 l2
  refine⟨key _ (PySem.intText_neg (cs:=r) (by show w=_; exact e1) hd' (fun z=>by rw[z] at l1; exact absurd l1 (by decide)) (by rw[hn,e1,List.length_cons]; omega)),by rw[e1,List.length_cons]; omega⟩
 ·rw[e1] at hd' l1 l2
  exact⟨key _ (PySem.intText_digits (x:=txt w) hd' (fun z=>by have:w=[]:=z; rw[this] at l1; exact absurd l1 (by decide)) (by rw[hn]; omega)),by omega⟩
end K3
end
section
set_option maxRecDepth 100000
set_option maxHeartbeats 4000000
namespace K3
open PySem PySem.Spec PyProof.Rows L2
section
variable {P:Program}{w:World}{K:PySem.W.Frag}{mg:Str→Option Value}{base:Heap}
theorem bt_divmod:bootBuiltins "divmod"=some (.builtin "divmod"):=by decide +kernel
theorem dec_len {n k:Nat} (hk:0 < k) (h:n < 2 ^ k):(dec n).length≤k:=by
 have e:=nat_repr_length_le hk h
 unfold dec
 rw[List.length_map,← Nat.toList_repr,String.length_toList]
 exact e
theorem log2_of {n:Nat} (h:n < 2 ^ 1000):((n:Int).natAbs).log2 < 1920:=by
 show n.log2 < 1920
 by_cases h0:n=0
 ·subst h0; decide
 ·exact (Nat.log2_lt h0).mpr (Nat.lt_of_lt_of_le h (Nat.pow_le_pow_right (by decide) (by decide)))
theorem flat_len:∀(pcs:List (List Nat)),(∀p∈pcs,1≤p.length)→pcs.length≤pcs.flatten.length
 | [],_=>Nat.le_refl _
 | a::l,h=>by
  have:=flat_len l fun p hp=>h p (List.mem_cons_of_mem _ hp)
  have ha:=h a List.mem_cons_self
  rw[List.flatten_cons,List.length_append,List.length_cons]
  omega
theorem flat_rev (pcs:List (List Nat)):pcs.reverse.flatten.length=pcs.flatten.length:=by
 rw[List.length_flatten,List.length_flatten,List.map_reverse,List.sum_reverse]
abbrev tl (pcs:List (List Nat)):List V:=(pcs.map txt).map V.str
theorem tl_snoc (pcs:List (List Nat)) (p:List Nat):tl pcs++[V.str (txt p)]=tl (pcs++[p]):=by
 show _=((pcs++[p]).map txt).map V.str
 rw[List.map_append,List.map_append]; rfl
theorem tl_sum (pcs:List (List Nat)):((pcs.map txt).map (·.length)).sum=pcs.flatten.length:=by
 rw[List.length_flatten,List.map_map]
 congr 1
def spFo:Sp:=fun vs H Q _=>∃n:Nat,vs=[.int (n:Int)]∧n < 2 ^ 1000∧∀H',Same H H'→Q (.str (txt (dec n))) H'
theorem sc_fo:FnScope ["number","pieces","piece"] ["number"] (defScope (top 121)):=⟨rfl,rfl,rfl,by decide +kernel,rfl,by decide +kernel,by decide +kernel⟩
theorem ok_fo {d:DD} (D:Def K mg "figures_of" (top 121) ["number"] d) (b_divmod:mg "divmod"=none) (b_str:mg "str"=none):FnOk P w K mg base CX0 1 d.f d.fd ["number"] spFo:=by
 refine D.fn.ok sc_fo (fun vs H Q E h=>?_) (fun cdv A outer s H vs Q E hr h=>?_)
 ·obtain⟨n,rfl,_⟩:=h
  rfl
 obtain⟨n,rfl,hn,q⟩:=h
 have hc:=hr.calm
 have nd:=sc_fo.nd
 have big:∀n:Nat,n≤100000→n≤sizeLine:=fun n h=>line4 (by omega)
 refine⟨_,(@pss_cons _ _ _ _ _ (@ps_set _ _ (1) _ _ _ _ nd rfl (Or.inl rfl) (@pe_lst _ _ _ _ (@pa_nil _)) (by rfl) (by first | exact .inl rfl | exact .inr rfl | assumption)) (@pss_cons _ _ _ _ _ (@ps_while _ _ _ _ _ _ PassesOwn.never (@pt_cmpR _ _ _ _ _ _ _ _ op_ge (pv 0) (@pe_op _ _ _ _ _ _ _ _ op_pow (@pe_int _ _ _ _) (@pe_int _ _ _ _)) (nomark _)) (@pss_cons _ _ _ _ _ (@ps_asg _ _ _ _ _ _ (@pe_callB _ _ _ _ _ _ _ _ _ call_divmodW rfl b_divmod bt_divmod (@pa_cons _ _ _ _ _ (pv 0) (@pa_cons _ _ _ _ _ (@pe_op _ _ _ _ _ _ _ _ op_pow (@pe_int _ _ _ _) (@pe_int _ _ _ _)) (@pa_nil _) (by rfl)) st_n) (by decide) (by decide) (by rfl) (by rfl)) (@pg_tup _ _ _ _ _ _ hc (@pgs_cons _ _ _ _ _ (@pg_name _ _ (0) _ nd rfl (Or.inl rfl) (by first | exact .inl rfl | exact .inr rfl | assumption)) (@pgs_cons _ _ _ _ _ (@pg_name _ _ (2) _ nd rfl (Or.inl rfl) (by first | exact .inl rfl | exact .inr rfl | assumption)) (@pgs_nil _) (by rfl)) (by rfl)) (by rfl) (by rfl)) (by rfl) (by rfl) (by rfl)) (@pss_one _ _ _ (@ps_expr _ _ _ _ (@pe_bm _ _ _ _ _ _ _ _ _ _ _ _ PySem.F.plainAttrs_list PySem.F.slot_list_append PySem.F.type_list_append mt_append (pv 1) (@pa_cons _ _ _ _ _ (@pe_bm _ _ _ _ _ _ _ _ _ _ _ _ PySem.F.plainAttrs_str PySem.F.slot_str_zfill PySem.F.type_str_zfill mt_zfill (@pe_callTy _ _ _ _ _ _ _ _ _ call_str_int rfl b_str bt_str (@pa_cons _ _ _ _ _ (pv 2) (@pa_nil _) st_n) (by decide) (by decide) (by rfl) (by rfl)) (@pa_cons _ _ _ _ _ (@pe_int _ _ _ _) (@pa_nil _) st_c) (by rfl) (by rfl) (by rfl) (by rfl) (by rfl)) (@pa_nil _) st_f) (by rfl) (by rfl) (by rfl) (by rfl) (by rfl)) (by rfl))))) (@pss_cons _ _ _ _ _ (@ps_expr _ _ _ _ (@pe_bm _ _ _ _ _ _ _ _ _ _ _ _ PySem.F.plainAttrs_list PySem.F.slot_list_append PySem.F.type_list_append mt_append (pv 1) (@pa_cons _ _ _ _ _ (@pe_callTy _ _ _ _ _ _ _ _ _ call_str_int rfl b_str bt_str (@pa_cons _ _ _ _ _ (pv 0) (@pa_nil _) st_n) (by decide) (by decide) (by rfl) (by rfl)) (@pa_nil _) st_f) (by rfl) (by rfl) (by rfl) (by rfl) (by rfl)) (by rfl)) (@pss_one _ _ _ (@ps_ret _ _ _ _ (@pe_bm _ _ _ _ _ _ _ _ _ _ _ _ PySem.F.plainAttrs_str PySem.F.slot_str_join PySem.F.type_str_join mt_join (@pe_str _ _ _ _) (@pa_cons _ _ _ _ _ (@pe_rev _ _ _ _ _ _ _ _ rv_list (pv 1) (@pe_un _ _ _ _ _ _ un_neg (@pe_int _ _ _ _))) (@pa_nil _) (by rfl)) (by rfl) (by rfl) (by rfl) (by rfl) (by rfl))))))),?_⟩
 refine⟨Nat.zero_le _,fun L nL=>?_⟩
 refine⟨fun m σ H'=>∃(num:Nat) (pcs:List (List Nat)) (e2:Option V),m=num∧σ=[some (.int (num:Int)),some (.ref L),e2]∧Hs H [(L,.lst (tl pcs))] H'∧num < 2 ^ 1000∧dec n=dec num++pcs.reverse.flatten∧∀p∈pcs,1≤p.length,
  ⟨n,n,[],none,rfl,rfl,(Hs.start H).new nL _,hn,(by rw[List.reverse_nil]; show _=dec n++[]; rw[List.append_nil]),fun p hp=>absurd hp (by simp)⟩,?_⟩
 rintro m σ H1 ⟨num,pcs,e2,rfl,rfl,F,hnum,hd,hp⟩
 have gL:=F.get 0
 have dl:=dec_len (by decide) hn
 have fl:=flat_len pcs hp
 have fr:=flat_rev pcs
 have hd2:=congrArg List.length hd
 rw[List.length_append] at hd2
 have lp:(tl pcs).length=pcs.length:=by show ((pcs.map txt).map V.str).length=_; rw[List.length_map,List.length_map]
 refine⟨_,rfl,_,_,rfl,rfl,⟨by decide,by decide,by decide⟩,_,_,rfl,rfl,decide (10 ^ 64≤m),?_,?_⟩
 ·show V.bl (decide ((10:Int) ^ 64≤(m:Int)))=_
  congr 1
  refine decide_eq_decide.mpr ⟨fun h=>by exact_mod_cast h,fun h=>by exact_mod_cast h⟩
 cases hb:decide (10 ^ 64≤m) with
 | true =>
  have hb':=of_decide_eq_true hb
  refine⟨_,fun σ' H' z=>z,?_⟩
  have em:((m:Int) % 10 ^ Int.toNat 64)=((m % 10 ^ 64:Nat):Int):=by show (m:Int) % 10 ^ 64=_; exact_mod_cast rfl
  have eq:((m:Int) / 10 ^ Int.toNat 64)=((m / 10 ^ 64:Nat):Int):=by show (m:Int) / 10 ^ 64=_; exact_mod_cast rfl
  refine⟨_,rfl,_,_,rfl,rfl,⟨by decide,by decide,by decide⟩,_,_,rfl,(by decide),(by decide),fun p np=>?_⟩
  rw[em,eq]
  have F2:=F.mono (same_new np (.tup [V.int ((m / 10 ^ 64:Nat):Int),.int ((m % 10 ^ 64:Nat):Int)]))
  refine⟨p,_,rfl,SqT.of upd_same,rfl,_,_,rfl,_,_,rfl,rfl,?_⟩
  have gL2:=F2.get 0
  have hm:m % 10 ^ 64 < 2 ^ 1000:=Nat.lt_of_le_of_lt (Nat.mod_le _ _) hnum
  have hm2:m / 10 ^ 64 < 2 ^ 1000:=Nat.lt_of_le_of_lt (Nat.div_le_self _ _) hnum
  refine⟨_,rfl,.inl ⟨rfl,_,SqL.of gL2⟩,_,rfl,_,rfl,log2_of hm,?_⟩
  rw[str_nat]
  refine⟨rfl,_,_,rfl,rfl,(by decide),?_⟩
  rw[zfill_dec]
  refine⟨L,_,_,rfl,rfl,gL2,(by rw[lp]; exact Nat.lt_of_lt_of_le (show pcs.length < 1000000 by omega) (line4 (Nat.le_refl _))),?_⟩
  rw[tl_snoc]
  have hc2:=dec_cut 64 m (by decide) hb'
  refine⟨m / 10 ^ 64,Nat.div_lt_self (Nat.lt_of_lt_of_le (by decide) hb') (by decide),m / 10 ^ 64,pcs++[List.replicate (64 - (dec (m % 10 ^ 64)).length) 48++dec (m % 10 ^ 64)],_,rfl,rfl,?_,hm2,?_,fun z hz=>?_⟩
  ·have F3:=F2.put 0 (.lst (tl (pcs++[List.replicate (64 - (dec (m % 10 ^ 64)).length) 48++dec (m % 10 ^ 64)])))
   exact F3
  ·rw[hd,hc2,List.reverse_append,List.append_assoc]
   rfl
  ·rcases List.mem_append.mp hz with h1 | h1
   ·exact hp z h1
   ·rw[List.mem_singleton] at h1
    subst h1
    have:=List.length_pos_iff.mpr (dec_ne (m % 10 ^ 64))
    rw[List.length_append]; omega
 | false =>
  refine⟨_,rfl,.inl ⟨rfl,_,SqL.of gL⟩,_,rfl,_,rfl,log2_of hnum,?_⟩
  rw[str_nat]
  refine⟨L,_,_,rfl,rfl,gL,(by rw[lp]; exact Nat.lt_of_lt_of_le (show pcs.length < 1000000 by omega) (line4 (Nat.le_refl _))),?_⟩
  rw[tl_snoc]
  have F2:=F.put 0 (.lst (tl (pcs++[dec m])))
  have gL2:=F2.get 0
  refine⟨rfl,_,rfl,_,rfl,rfl,?_⟩
  refine⟨L,_,rfl,SqL.of gL2,fun p np=>?_⟩
  have er:(tl (pcs++[dec m])).reverse=tl (pcs++[dec m]).reverse:=by
   show (((pcs++[dec m]).map txt).map V.str).reverse=_
   rw[← List.map_reverse,← List.map_reverse]
  rw[er]
  refine⟨"",p,((pcs++[dec m]).reverse).map txt,rfl,rfl,SqL.of upd_same,?_,?_⟩
  ·rw[tl_sum,flat_rev,List.flatten_append,List.length_append]
   show pcs.flatten.length+([dec m]:List (List Nat)).flatten.length+_ * 0≤_
   rw[List.flatten_singleton]
   omega
  ·rw[join_txts,List.reverse_append]
   have e3:([dec m].reverse++pcs.reverse).flatten=dec n:=by rw[hd]; rfl
   rw[e3]
   exact q _ (F2.all.trans (same_new np _))
theorem txt_app (x y:List Nat):txt x++txt y=txt (x++y):=by
 apply str_ext
 show (x.toArray++y.toArray).toList=_
 simp [txt]
theorem shown_neg {i:Int} (h:i < 0):shown i=45::dec i.natAbs:=by unfold shown; rw[if_pos h]
theorem shown_pos {i:Int} (h:¬ i < 0):shown i=dec i.natAbs:=by unfold shown; rw[if_neg h]
theorem e_minus:("-" : Str)=txt [45]:=by decide +kernel
def spNt:Sp:=fun vs H Q _=>∃i:Int,vs=[.int i]∧i.natAbs < 2 ^ 1000∧∀H',Same H H'→Q (.str (txt (shown i))) H'
theorem sc_nt:FnScope ["number"] ["number"] (defScope (top 122)):=⟨rfl,rfl,rfl,by decide +kernel,rfl,by decide +kernel,by decide +kernel⟩
theorem ok_nt {df d:DD} (D_fo:Def K mg "figures_of" (top 121) ["number"] df) (G_fo:FnOk P w K mg base CX0 1 df.f df.fd ["number"] spFo) (D:Def K mg "number_text" (top 122) ["number"] d):FnOk P w K mg base CX0 2 d.f d.fd ["number"] spNt:=by
 refine D.fn.ok sc_nt (fun vs H Q E h=>?_) (fun cdv A outer s H vs Q E hr h=>?_)
 ·obtain⟨n,rfl,_⟩:=h
  rfl
 obtain⟨i,rfl,hn,q⟩:=h
 have hc:=hr.calm
 have nd:=sc_nt.nd
 refine⟨_,(@pss_one _ _ _ (@ps_ret _ _ _ _ (@pe_ifExp _ _ _ _ _ _ _ _ (@pt_cmpR _ _ _ _ _ _ _ _ op_lt (pv 0) (@pe_int _ _ _ _) (nomark _)) (@pe_op _ _ _ _ _ _ _ _ op_add_str (@pe_str _ _ _ _) (@pe_call _ _ _ _ _ _ _ _ _ _ _ _ _ _ _ _ (G_fo.mono (by decide)) hr rfl D_fo.m D_fo.fn.kp D_fo.b .nil pass0 (@pa_cons _ _ _ _ _ (@pe_un _ _ _ _ _ _ un_neg (pv 0)) (@pa_nil _) (by rfl)) (by decide) (by rfl) (by rfl))) (@pe_call _ _ _ _ _ _ _ _ _ _ _ _ _ _ _ _ (G_fo.mono (by decide)) hr rfl D_fo.m D_fo.fn.kp D_fo.b .nil pass0 (@pa_cons _ _ _ _ _ (pv 0) (@pa_nil _) st_n) (by decide) (by rfl) (by rfl))))),?_⟩
 have dl:=dec_len (by decide) hn
 refine⟨_,rfl,_,_,rfl,rfl,_,rfl,ite2 (fun c=>?_) (fun c=>?_)⟩
 ·have c':i < 0:=of_decide_eq_true c
  have ei : -i=((i.natAbs:Nat):Int):=by omega
  refine⟨_,rfl,_,rfl,?_⟩
  refine⟨i.natAbs,(by rw[← ei]; rfl),hn,fun H1 S1=>?_⟩
  refine⟨_,_,rfl,rfl,line4 (by show 1+(dec i.natAbs).length≤1000000; omega),?_⟩
  rw[e_minus,txt_app]
  have z:=q H1 S1
  rw[shown_neg c'] at z
  exact z
 ·have c':¬ i < 0:=of_decide_eq_false (Bool.eq_false_iff.mpr c)
  have ei:i=((i.natAbs:Nat):Int):=by omega
  refine⟨_,rfl,i.natAbs,(by rw[← ei]; rfl),hn,fun H1 S1=>?_⟩
  have z:=q H1 S1
  rw[shown_pos c'] at z
  exact z
end
end K3
end
section
set_option maxRecDepth 100000
set_option maxHeartbeats 4000000
namespace K3
open PySem PySem.Spec PyProof.Rows L2
section
variable {P:Program}{w:World}{K:PySem.W.Frag}{mg:Str→Option Value}{base:Heap}
def tt (is:List Int):Str:=Txt.join "," (is.map fun i=>txt (shown i))
def spTt (K:PySem.W.Frag):Sp:=fun vs H Q _=>∃(a:Addr) (is:List Int),vs=[.ref a]∧H a=some (.tup (is.map V.int))∧is.length=4∧(∀i∈is,i.natAbs < 2 ^ 1000)∧∀H',Same H H'→Q (.str (tt is)) H'
theorem shown_len {i:Int} (h:i.natAbs < 2 ^ 1000):(shown i).length≤1001:=by
 have:=dec_len (by decide) h
 unfold shown
 split
 ·rw[List.length_cons]; omega
 ·omega
theorem sum_len:∀(is:List Int),(∀i∈is,i.natAbs < 2 ^ 1000)→((is.map fun i=>txt (shown i)).map (·.length)).sum≤1001 * is.length
 | [],_=>Nat.zero_le _
 | i::r,h=>by
  have h1:=shown_len (h i List.mem_cons_self)
  have h2:=sum_len r fun j hj=>h j (List.mem_cons_of_mem _ hj)
  have e:(txt (shown i)).length=(shown i).length:=by show (shown i).toArray.size=_; simp
  rw[List.map_cons,List.map_cons,List.sum_cons,List.length_cons,e]
  omega
theorem sc_tt:FnScope ["table"] ["table"] (defScope (top 123)):=⟨rfl,rfl,rfl,by decide +kernel,rfl,by decide +kernel,by decide +kernel⟩
theorem ok_tt {dn d:DD} (D_nt:Def K mg "number_text" (top 122) ["number"] dn) (G_nt:FnOk P w K mg base CX0 2 dn.f dn.fd ["number"] spNt) (D:Def K mg "table_text" (top 123) ["table"] d):FnOk P w K mg base CX0 3 d.f d.fd ["table"] (spTt K):=by
 refine D.fn.ok sc_tt (fun vs H Q E h=>?_) (fun cdv A outer s H vs Q E hr h=>?_)
 ·obtain⟨a,is,rfl,_⟩:=h
  rfl
 obtain⟨a,is,rfl,ha,hl,hi,q⟩:=h
 have hc:=hr.calm
 have nd:=sc_tt.nd
 refine⟨_,(@pss_one _ _ _ (@ps_ret _ _ _ _ (@pe_bm _ _ _ _ _ _ _ _ _ _ _ _ PySem.F.plainAttrs_str PySem.F.slot_str_join PySem.F.type_str_join mt_join (@pe_str _ _ _ _) (@pa_cons _ _ _ _ _ (@pe_comp _ _ _ _ _ _ _ _ _ _ _ _ _ _ hc (compScope_of (ts:=["number"]) (cap:=[]) (js:=[]) rfl rfl rfl rfl rfl rfl (by decide +kernel)) (@pi_tup _ _ _ _ (pv 0)) (fun _ _ _ _=>@pg_name _ _ (0) _ (show (["number"]:List Str).Nodup by decide +kernel) rfl (Or.inl rfl) (.inr rfl)) (fun _ _ _ _=>@pts_nil _) (fun _ _ _ _=>(@pe_call _ _ _ _ _ _ _ _ _ _ _ _ _ _ _ _ (G_nt.mono (by decide)) hr rfl D_nt.m D_nt.fn.kp D_nt.b .nil pass0 (@pa_cons _ _ _ _ _ (pv 0) (@pa_nil _) st_n) (by decide) (by rfl) (by rfl))) (by intro _; rfl)) (@pa_nil _) (by rfl)) (by rfl) (by rfl) (by rfl) (by rfl) (by rfl)))),?_⟩
 have sg:∀n,((is.take n).map fun i=>V.str (txt (shown i)))=((is.take n).map fun i=>txt (shown i)).map V.str:=fun n=>by rw[List.map_map]; rfl
 refine⟨rfl,_,rfl,a,rfl,⟨_,SqT.of ha⟩,?_⟩
 refine compT (K:=K) (a:=a) (xs:=is.map V.int) (fun n ys H'=>Same H H'∧ys=(is.take n).map fun i=>V.str (txt (shown i))) ⟨Same.refl _,rfl⟩ (fun n ys H' hk z=>by rw[z.2,List.length_map,List.length_take]; omega) (line4 (by rw[List.length_map,hl]; decide)) (fun n ys H' hk z=>SqT.of (z.1 _ _ ha)) (fun n v ys H' hv z=>?_) (fun ys H' z l hl'=>?_)
 ·obtain⟨z1,rfl⟩:=z
  rw[List.getElem?_map] at hv
  obtain⟨i,hi',rfl⟩:=Option.map_eq_some_iff.mp hv
  have hn:n < is.length:=(List.getElem?_eq_some_iff.mp hi').1
  refine⟨_,rfl,i,rfl,hi i (List.mem_of_getElem? hi'),fun H2 S2=>Nx.mk (by rw[List.length_map]; exact hn) ⟨z1.trans S2,?_⟩⟩
  rw[List.take_add_one,hi',List.map_append]; rfl
 ·obtain⟨z1,rfl⟩:=z
  rw[List.length_map,List.take_length] at *
  have sz:=sum_len is hi
  have e2:(is.map fun i=>V.str (txt (shown i)))=(is.map fun i=>txt (shown i)).map V.str:=by rw[List.map_map]; rfl
  refine⟨",",l,is.map fun i=>txt (shown i),rfl,rfl,(by rw[← e2]; exact SqL.of upd_same),?_,q _ (z1.trans (same_new hl' _))⟩
  rw[List.length_map,hl] at *
  have:(("," : Str).length)=1:=rfl
  rw[this]; omega
end
end K3
end
section
set_option maxRecDepth 100000
set_option maxHeartbeats 4000000
namespace K3
open PySem PySem.Spec PyProof.Rows L2
section
variable {P:Program}{w:World}{K:PySem.W.Frag}{mg:Str→Option Value}{base:Heap}
theorem e_zero:("0" : Str)=⟨#[48]⟩:=by decide +kernel
theorem e_zero':("0" : Str)=txt [48]:=by decide +kernel
theorem e_mz:("-0" : Str)=txt [45,48]:=by decide +kernel
theorem e_min:("-" : Str)=⟨#[45]⟩:=by decide +kernel
theorem txt_eq (x y:List Nat):decide (V.str (txt x)=V.str (txt y))=decide (x=y):=by
 congr 1
 refine propext ⟨fun h=>?_,fun h=>by rw[h]⟩
 have:(txt x).cps.toList=(txt y).cps.toList:=by rw[V.str.inj h]
 exact this
def spFig:Sp:=fun vs H Q _=>∃cs,vs=[.str (txt cs)]∧cs.length≤100000∧Q (.bl (figB cs)) H
theorem sc_fig:FnScope ["text"] ["text"] (defScope (top 124)):=⟨rfl,rfl,rfl,by decide +kernel,rfl,by decide +kernel,by decide +kernel⟩
theorem ok_fig {d:DD}{tF:Tok} (m_FIG:mg "FIGURES"=some (.str "0123456789" tF))  {tM:Tok} (m_MF:mg "MOST_FIGURES"=some (.int 200 tM))  (D:Def K mg "is_figures" (top 124) ["text"] d) (b_len:mg "len"=none):FnOk P w K mg base CX0 1 d.f d.fd ["text"] spFig:=by
 refine D.fn.ok sc_fig (fun vs H Q E h=>?_) (fun cdv A outer s H vs Q E hr h=>?_)
 ·obtain⟨cs,rfl,_⟩:=h
  rfl
 obtain⟨cs,rfl,hl,q⟩:=h
 have hc:=hr.calm
 have nd:=sc_fig.nd
 have big:∀n:Nat,n≤100000→n≤sizeLine:=fun n h=>line4 (by omega)
 have hn:(txt cs).length=cs.length:=by show cs.toArray.size=_; simp
 refine⟨_,(@pss_cons _ _ _ _ _ (@ps_if _ _ _ _ _ _ _ _ (@PW.pt _ _ _ (@pw_or _ _ _ _ _ _ _ (@pt_not _ _ _ _ (@pt_chain _ _ _ _ _ _ _ _ _ _ _ _ op_le op_le (@pe_int _ _ _ _) (@pe_callB _ _ _ _ _ _ _ _ _ call_len_str rfl b_len bt_len (@pa_cons _ _ _ _ _ (pv 0) (@pa_nil _) st_n) (by decide) (by decide) (by rfl) (by rfl)) (@pe_glob _ _ (.int 200) _ _ rfl m_MF ⟨_,rfl⟩ (by decide)) (by with_unfolding_all rfl))) (@pw_or1 _ _ _ _ (@pt_cmpR _ _ _ _ _ _ _ _ op_ne (@pe_bm _ _ _ _ _ _ _ _ _ _ _ _ PySem.F.plainAttrs_str PySem.F.slot_str_strip PySem.F.type_str_strip mt_strip (pv 0) (@pa_cons _ _ _ _ _ (@pe_glob _ _ (.str "0123456789") _ _ rfl m_FIG ⟨_,rfl⟩ (by decide)) (@pa_nil _) st_n) (by rfl) (by rfl) (by rfl) (by rfl) (by rfl)) (@pe_str _ _ _ _) (nomark _))))) (@pss_one _ _ _ (@ps_ret _ _ _ _ (@pe_bl _ _ _ _))) (@pss_nil _)) (@pss_one _ _ _ (@ps_ret _ _ _ _ (@pe_or _ _ _ _ _ _ _ (@pe_cmpR _ _ _ _ _ _ _ _ op_eq (pv 0) (@pe_str _ _ _ _) (nomark _)) (@pe_one _ _ _ _ _ (@pe_not _ _ _ _ (@pe_bm _ _ _ _ _ _ _ _ _ _ _ _ PySem.F.plainAttrs_str PySem.F.slot_str_startswith PySem.F.type_str_startswith mt_starts (pv 0) (@pa_cons _ _ _ _ _ (@pe_str _ _ _ _) (@pa_nil _) st_c) (by rfl) (by rfl) (by rfl) (by rfl) (by rfl)))))))),?_⟩
 have sp:=strip_figs cs
 have st:=starts_one cs e_zero
 have z:=q
 unfold figB at z
 refine⟨_,rfl,txt cs,rfl,big _ (by rw[hn]; omega),_,_,rfl,rfl,decide ((1:Int)≤((txt cs).length:Nat)),rfl,?_⟩
 rw[hn]
 by_cases h1:(1:Int)≤((cs.length:Nat):Int)
 ·rw[decide_eq_true h1,if_pos rfl]
  refine⟨_,_,rfl,rfl,decide (((cs.length:Nat):Int)≤200),rfl,?_⟩
  by_cases h2:((cs.length:Nat):Int)≤200
  ·rw[decide_eq_true h2]
   have hh:(1≤cs.length∧cs.length≤200):=by omega
   rw[decide_eq_true hh,Bool.true_and] at z
   refine⟨_,rfl,rfl,_,_,rfl,rfl,big _ (by rw[hn]; omega),rfl,!cs.all dg,by rw[sp],?_⟩
   cases h3:cs.all dg with
   | false=>rw[h3] at z; exact z
   | true =>
    rw[h3,Bool.true_and] at z
    refine⟨_,rfl,rfl,decide (cs=[48]),(by rw[e_zero',txt_eq]),?_⟩
    cases h4:decide (cs=[48]) with
    | true=>rw[h4] at z; exact z
    | false =>
     rw[h4,Bool.false_or] at z
     refine⟨_,rfl,rfl,_,_,rfl,rfl,decide (cs.take 1=[48]),by rw[st],z⟩
  ·rw[decide_eq_false h2]
   have hh:¬ (1≤cs.length∧cs.length≤200):=by omega
   rw[decide_eq_false hh] at z
   exact z
 ·rw[decide_eq_false h1]
  have hh:¬ (1≤cs.length∧cs.length≤200):=by omega
  rw[decide_eq_false hh] at z
  exact⟨false,rfl,z⟩
def spInt:Sp:=fun vs H Q _=>∃cs,vs=[.str (txt cs)]∧cs.length≤100000∧Q (.bl (numB cs)) H
theorem sc_int:FnScope ["text"] ["text"] (defScope (top 125)):=⟨rfl,rfl,rfl,by decide +kernel,rfl,by decide +kernel,by decide +kernel⟩
theorem ok_int {df d:DD} (D_fig:Def K mg "is_figures" (top 124) ["text"] df) (G_fig:FnOk P w K mg base CX0 1 df.f df.fd ["text"] spFig) (D:Def K mg "is_number_text" (top 125) ["text"] d):FnOk P w K mg base CX0 2 d.f d.fd ["text"] spInt:=by
 refine D.fn.ok sc_int (fun vs H Q E h=>?_) (fun cdv A outer s H vs Q E hr h=>?_)
 ·obtain⟨cs,rfl,_⟩:=h
  rfl
 obtain⟨cs,rfl,hl,q⟩:=h
 have hc:=hr.calm
 have nd:=sc_int.nd
 have big:∀n:Nat,n≤100000→n≤sizeLine:=fun n h=>line4 (by omega)
 have hn:(txt cs).length=cs.length:=by show cs.toArray.size=_; simp
 refine⟨_,(@pss_one _ _ _ (@ps_ret _ _ _ _ (@pe_and _ _ _ _ _ _ _ (@pe_call _ _ _ _ _ _ _ _ _ _ _ _ _ _ _ _ (G_fig.mono (by decide)) hr rfl D_fig.m D_fig.fn.kp D_fig.b .nil pass0 (@pa_cons _ _ _ _ _ (@pe_ifExp _ _ _ _ _ _ _ _ (@pt_val _ _ _ (@pe_bm _ _ _ _ _ _ _ _ _ _ _ _ PySem.F.plainAttrs_str PySem.F.slot_str_startswith PySem.F.type_str_startswith mt_starts (pv 0) (@pa_cons _ _ _ _ _ (@pe_str _ _ _ _) (@pa_nil _) st_c) (by rfl) (by rfl) (by rfl) (by rfl) (by rfl)) (by intro _; rfl)) (@pe_slice _ _ _ _ _ _ _ _ _ _ sl_str (pv 0) (@po_some _ _ _ (@pe_int _ _ _ _)) (@po_none _)) (pv 0)) (@pa_nil _) (by rfl)) (by decide) (by rfl) (by rfl)) (@pe_one _ _ _ _ _ (@pe_cmpR _ _ _ _ _ _ _ _ op_ne (pv 0) (@pe_str _ _ _ _) (nomark _)))))),?_⟩
 have st:=starts_one cs e_min
 have z:=q
 unfold numB at z
 refine⟨_,rfl,rfl,_,_,rfl,rfl,decide (cs.take 1=[45]),by rw[st],?_⟩
 by_cases h:cs.take 1=[45]
 ·have ef:fg cs=cs.drop 1:=by unfold fg; rw[if_pos h]
  rw[decide_eq_true h]
  rw[ef] at z
  refine⟨_,rfl,_,rfl,txt cs,rfl,big _ (by rw[hn]; omega),?_⟩
  rw[show (1:Int)=((1:Nat):Int) from rfl,slice_from]
  refine⟨cs.drop 1,rfl,(by rw[List.length_drop]; omega),_,rfl,?_⟩
  cases hb:figB (cs.drop 1) with
  | false=>rw[hb] at z; exact z
  | true =>
   rw[hb,Bool.true_and] at z
   refine⟨_,rfl,rfl,?_⟩
   rw[e_mz,txt_eq]
   exact z
 ·have ef:fg cs=cs:=by unfold fg; rw[if_neg h]; rfl
  rw[decide_eq_false h]
  rw[ef] at z
  refine⟨_,rfl,cs,rfl,hl,_,rfl,?_⟩
  cases hb:figB cs with
  | false=>rw[hb] at z; exact z
  | true =>
   rw[hb,Bool.true_and] at z
   refine⟨_,rfl,rfl,?_⟩
   rw[e_mz,txt_eq]
   exact z
def rd (x:Str):Option (List Int):=if (Txt.split x ",").length=4∧((Txt.split x ",").all fun p=>numB p.cps.toList)=true then some ((Txt.split x ",").map fun p=>numV p.cps.toList) else none
def rdV:V→Option (List Int)
 | .str x=>rd x
 | _=>none
theorem sub_len (x:Str) (i j:Nat):(Builtin.Str.strSub x i j).length≤x.length:=by
 show (x.cps.extract i j).size≤x.cps.size
 rw[Array.size_extract]; omega
theorem sub_As {x:Str} (i j:Nat) (h:As x):As (Builtin.Str.strSub x i j):=fun c hc=>h c (by
 have:c∈(x.cps.extract i j).toList:=hc
 rw[Array.toList_extract] at this
 exact List.mem_of_mem_drop (List.mem_of_mem_take this))
theorem part_of {x y p:Str} (h:p∈Txt.split x y):p.length≤x.length∧(As x→As p):=by
 unfold Txt.split at h
 split at h
 ·rw[List.mem_singleton] at h; subst h; exact⟨Nat.le_refl _,id⟩
 ·split at h
  ·rw[List.mem_singleton] at h; subst h; exact⟨Nat.le_refl _,id⟩
  ·unfold Builtin.Str.partsBetween at h
   obtain⟨⟨i,j⟩,_,rfl⟩:=List.mem_map.mp h
   exact⟨sub_len x i j,sub_As i j⟩
def isS:V→Bool
 | .str _=>true
 | _=>false
theorem as_str {H:Hp}{v:V} (h:Kn H v):∃t,TyOf K H v t∧PySem.W.kitOne K t (.type "str")=some (isS v):=by
 cases h with
 | non=>exact⟨_,.non,rfl⟩
 | bl b=>exact⟨_,.bl b,rfl⟩
 | int i=>exact⟨_,.int i,rfl⟩
 | str x=>exact⟨_,.str x,rfl⟩
 | lst e=>exact⟨_,.lst e,rfl⟩
 | tup e=>exact⟨_,.tup e,rfl⟩
def spRead (C:Addr):Sp:=fun vs H Q E=>∃v,vs=[v]∧Kn H v∧(∀x,v=.str x→As x∧x.length≤100000)∧(rdV v=none→∀H',Same H H'→E (.ref C) none H')∧∀is,rdV v=some is→∀p H',Same H H'→H' p=some (.tup (is.map V.int))→Q (.ref p) H'
theorem sc_read:FnScope ["text","parts"] ["text"] (defScope (top 126)):=⟨rfl,rfl,rfl,by decide +kernel,rfl,by decide +kernel,by decide +kernel⟩
theorem ok_read {di d:DD}{C:Addr} (m_NoText:mg "NoText"=some (.ref C)) (k_NoText:PySem.W.excIn K C bmVE "ValueError.__new__"=true)  (D_int:Def K mg "is_number_text" (top 125) ["text"] di) (G_int:FnOk P w K mg base CX0 2 di.f di.fd ["text"] spInt) (D:Def K mg "read_table" (top 126) ["text"] d) (b_len:mg "len"=none) (b_str:mg "str"=none) (b_int:mg "int"=none) (b_tuple:mg "tuple"=none) (b_all:mg "all"=none) (b_isinstance:mg "isinstance"=none):FnOk P w K mg base (CXe P w) 3 d.f d.fd ["text"] (spRead C):=by
 refine D.fn.okE sc_read (fun vs H Q E h=>?_) (fun cdv A outer s H vs Q E hr h=>?_)
 ·obtain⟨v,rfl,_⟩:=h
  rfl
 obtain⟨v,rfl,kn,hA,qE,q⟩:=h
 have hc:=hr.calm
 have nd:=sc_read.nd
 have big:∀n:Nat,n≤100000→n≤sizeLine:=fun n h=>line4 (by omega)
 refine⟨_,(@pss_cons _ _ _ _ _ (@ps_if _ _ _ _ _ _ _ _ (@pt_not _ _ _ _ (@pt_val _ _ _ (@pe_callB _ _ _ _ _ _ _ _ _ call_isT rfl b_isinstance bt_isinstance (@pa_cons _ _ _ _ _ (pv 0) (@pa_cons _ _ _ _ _ (@pe_bltn _ _ (.ty "str") _ _ rfl b_str bt_str rfl (by decide) (by decide)) (@pa_nil _) st_n) st_n) (by decide) (by decide) (by rfl) (by rfl)) (by intro _; rfl))) (@pss_one _ _ _ (@ps_raise _ _ _ _ _ _ _ _ _ _ hc rfl m_NoText k_NoText (@pa_cons _ _ _ _ _ (@pe_str _ _ _ _) (@pa_nil _) st_c) xok_def (by decide) (by rfl) (by rfl))) (@pss_nil _)) (@pss_cons _ _ _ _ _ (@ps_set _ _ (1) _ _ _ _ nd rfl (Or.inl rfl) (@pe_bm _ _ _ _ _ _ _ _ _ _ _ _ PySem.F.plainAttrs_str PySem.F.slot_str_split PySem.F.type_str_split mt_split (pv 0) (@pa_cons _ _ _ _ _ (@pe_str _ _ _ _) (@pa_nil _) st_c) (by rfl) (by rfl) (by rfl) (by rfl) (by rfl)) (by rfl) (by first | exact .inl rfl | exact .inr rfl | assumption)) (@pss_cons _ _ _ _ _ (@ps_if _ _ _ _ _ _ _ _ (@PW.pt _ _ _ (@pw_or _ _ _ _ _ _ _ (@pt_cmpR _ _ _ _ _ _ _ _ op_ne (@pe_callB _ _ _ _ _ _ _ _ _ call_len_seq rfl b_len bt_len (@pa_cons _ _ _ _ _ (pv 1) (@pa_nil _) st_n) (by decide) (by decide) (by rfl) (by rfl)) (@pe_int _ _ _ _) (nomark _)) (@pw_or1 _ _ _ _ (@pt_not _ _ _ _ (@pt_val _ _ _ (@pe_callB _ _ _ _ _ _ _ _ _ (call_all hc) rfl b_all bt_all (@pa_cons _ _ _ _ _ (@pe_comp _ _ _ _ _ _ _ _ _ _ _ _ _ _ hc (compScope_of (ts:=["part"]) (cap:=[]) (js:=[]) rfl rfl rfl rfl rfl rfl (by decide +kernel)) (@pi_list _ _ _ _ (pv 1)) (fun _ _ _ _=>@pg_name _ _ (0) _ (show (["part"]:List Str).Nodup by decide +kernel) rfl (Or.inl rfl) (.inr rfl)) (fun _ _ _ _=>@pts_nil _) (fun _ _ _ _=>(@pe_call _ _ _ _ _ _ _ _ _ _ _ _ _ _ _ _ (G_int.mono (by decide)) hr rfl D_int.m D_int.fn.kp D_int.b .nil pass0 (@pa_cons _ _ _ _ _ (pv 0) (@pa_nil _) st_n) (by decide) (by rfl) (by rfl))) (by intro _; rfl)) (@pa_nil _) (by rfl)) (by decide) (by decide) (by rfl) (by rfl)) (by intro _; rfl)))))) (@pss_one _ _ _ (@ps_raise _ _ _ _ _ _ _ _ _ _ hc rfl m_NoText k_NoText (@pa_cons _ _ _ _ _ (@pe_str _ _ _ _) (@pa_nil _) st_c) xok_def (by decide) (by rfl) (by rfl))) (@pss_nil _)) (@pss_one _ _ _ (@ps_ret _ _ _ _ (@pe_callTy _ _ _ _ _ _ _ _ _ call_tuple_of rfl b_tuple bt_tuple (@pa_cons _ _ _ _ _ (@pe_comp _ _ _ _ _ _ _ _ _ _ _ _ _ _ hc (compScope_of (ts:=["part"]) (cap:=[]) (js:=[]) rfl rfl rfl rfl rfl rfl (by decide +kernel)) (@pi_list _ _ _ _ (pv 1)) (fun _ _ _ _=>@pg_name _ _ (0) _ (show (["part"]:List Str).Nodup by decide +kernel) rfl (Or.inl rfl) (.inr rfl)) (fun _ _ _ _=>@pts_nil _) (fun _ _ _ _=>(@pe_callTy _ _ _ _ _ _ _ _ _ (show CallR _ _ rIntS from call_intS) rfl b_int bt_int (@pa_cons _ _ _ _ _ (pv 0) (@pa_nil _) st_n) (by decide) (by decide) (by rfl) (by rfl))) (by intro _; rfl)) (@pa_nil _) (by rfl)) (by decide) (by decide) (by rfl) (by rfl))))))),?_⟩
 obtain⟨t1,y1,e1⟩:=as_str (K:=K) kn
 refine⟨v,rfl,v,.ty "str",t1,_,_,rfl,rfl,y1,e1,_,rfl,?_⟩
 cases hs:isS v with
 | false =>
  have hv:rdV v=none:=by cases v <;> first | rfl | (cases hs)
  exact⟨line4 (by show 1≤1000000; decide),qE hv H (Same.refl _)⟩
 | true =>
  obtain⟨x,rfl⟩ : ∃x,v=.str x:=by cases v <;> first | exact⟨_,rfl⟩ | (cases hs)
  obtain⟨xA,xl⟩:=hA x rfl
  have q:∀is,rd x=some is→∀p H',Same H H'→H' p=some (.tup (is.map V.int))→Q (.ref p) H':=q
  have qE:rd x=none→∀H',Same H H'→E (.ref C) none H':=qE
  have x2:x.length+2≤sizeLine:=Nat.le_trans (show x.length+2≤1000000 by omega) (line4 (Nat.le_refl _))
  refine⟨_,rfl,rfl,x,_,rfl,rfl,rfl,x2,fun L nL=>?_⟩
  have S1:=same_new nL (.lst ((Txt.split x ",").map V.str))
  have g1:upd H L (.lst ((Txt.split x ",").map V.str)) L=some (.lst ((Txt.split x ",").map V.str)):=upd_same
  have hp:∀p∈Txt.split x ",",p.length≤x.length∧As p:=fun p h=>⟨(part_of h).1,(part_of h).2 xA⟩
  have erd:rd x=if (Txt.split x ",").length=4∧((Txt.split x ",").all fun p=>numB p.cps.toList)=true then some ((Txt.split x ",").map fun p=>numV p.cps.toList) else none:=rfl
  generalize Txt.split x ","=ps at S1 g1 hp erd ⊢
  generalize upd H L (.lst (ps.map V.str))=H1 at S1 g1 ⊢
  refine⟨_,rfl,L,_,rfl,.inl (SqL.of g1),rfl,!decide (ps.length=4),?_,?_⟩
  ·congr 2
   rw[List.length_map]
   refine decide_eq_decide.mpr ⟨fun h=>?_,fun h=>by rw[h]; rfl⟩
   injection h with h
   omega
  by_cases h4:ps.length=4
  ·rw[decide_eq_true h4]
   refine⟨_,rfl,L,rfl,⟨_,SqL.of g1⟩,?_⟩
   refine compL (K:=K) (a:=L) (xs:=ps.map V.str) (fun n ys H'=>Same H1 H'∧ys=((ps.take n).map fun p=>numB p.cps.toList).map V.bl) ⟨Same.refl _,rfl⟩ (fun n ys H' hk z=>by rw[z.2,List.length_map,List.length_map,List.length_take]; omega) (line4 (by rw[List.length_map,h4]; decide)) (fun n ys H' hk z=>SqL.of (z.1 _ _ g1)) (fun n v ys H' hv z=>?_) (fun ys H' z l hl'=>?_)
   ·obtain⟨z1,rfl⟩:=z
    rw[List.getElem?_map] at hv
    obtain⟨i,hi',rfl⟩:=Option.map_eq_some_iff.mp hv
    have hn:n < ps.length:=(List.getElem?_eq_some_iff.mp hi').1
    have hpi:=hp i (List.mem_of_getElem? hi')
    refine⟨_,rfl,i.cps.toList,(by rw[txt_cps]; rfl),(by have:i.cps.toList.length=i.length:=rfl; omega),Nx.mk (by rw[List.length_map]; exact hn) ⟨z1,?_⟩⟩
    rw[List.take_add_one,hi',List.map_append,List.map_append]; rfl
   ·obtain⟨z1,rfl⟩:=z
    rw[List.length_map,List.take_length]
    have S2:=z1.trans (same_new hl' (.lst ((ps.map fun p=>numB p.cps.toList).map V.bl)))
    refine⟨l,ps.map fun p=>numB p.cps.toList,rfl,SqL.of upd_same,_,rfl,?_⟩
    generalize upd H' l (.lst ((ps.map fun p=>numB p.cps.toList).map V.bl))=H2 at S2 ⊢
    have ea:(ps.map fun p=>numB p.cps.toList).all id=ps.all fun p=>numB p.cps.toList:=by rw[List.all_map]; rfl
    rw[ea]
    cases hall:ps.all fun p=>numB p.cps.toList with
    | false =>
     refine⟨line4 (by show 1≤1000000; decide),qE ?_ _ (S1.trans S2)⟩
     rw[erd,if_neg fun z=>by rw[hall] at z; cases z.2]
    | true =>
     have g2:=S2 _ _ g1
     refine⟨_,rfl,L,rfl,⟨_,SqL.of g2⟩,?_⟩
     refine compL (K:=K) (a:=L) (xs:=ps.map V.str) (fun n ys H'=>Same H2 H'∧ys=((ps.take n).map fun p=>numV p.cps.toList).map V.int) ⟨Same.refl _,rfl⟩ (fun n ys H' hk z=>by rw[z.2,List.length_map,List.length_map,List.length_take]; omega) (line4 (by rw[List.length_map,h4]; decide)) (fun n ys H' hk z=>SqL.of (z.1 _ _ g2)) (fun n v ys H' hv z=>?_) (fun ys H' z l hl'=>?_)
     ·obtain⟨z1,rfl⟩:=z
      rw[List.getElem?_map] at hv
      obtain⟨i,hi',rfl⟩:=Option.map_eq_some_iff.mp hv
      have hn:n < ps.length:=(List.getElem?_eq_some_iff.mp hi').1
      have ns:=num_some (List.all_eq_true.mp hall i (List.mem_of_getElem? hi'))
      rw[txt_cps] at ns
      refine⟨_,rfl,i,numV i.cps.toList,rfl,ns.1,(by have h5:=ns.2; have:i.cps.toList.length=i.length:=rfl; omega),Nx.mk (by rw[List.length_map]; exact hn) ⟨z1,?_⟩⟩
      rw[List.take_add_one,hi',List.map_append,List.map_append]; rfl
     ·obtain⟨z1,rfl⟩:=z
      rw[List.length_map,List.take_length]
      refine⟨l,_,rfl,.inl ⟨SqL.of upd_same,fun p np=>?_⟩⟩
      exact q _ (by rw[erd,if_pos ⟨h4,hall⟩]) p _ (S1.trans (S2.trans (z1.trans ((same_new hl' _).trans (same_new np _))))) upd_same
  ·rw[decide_eq_false h4]
   refine⟨line4 (by show 1≤1000000; decide),qE ?_ _ S1⟩
   rw[erd,if_neg fun z=>h4 z.1]
end
end K3
end
section
set_option maxRecDepth 100000
set_option maxHeartbeats 4000000
namespace K3
open PySem PySem.Spec PyProof.Rows L2
section
variable {P:Program}{w:World}{K:PySem.W.Frag}{mg:Str→Option Value}{base:Heap}
def lo (c:Nat):Bool:=decide (97≤c∧c≤122)
theorem lo_iff {c:Nat}:lo c=true↔97≤c∧c≤122:=by unfold lo; exact decide_eq_true_iff
theorem e_low:("abcdefghijklmnopqrstuvwxyz" : Str).cps=((List.range 26).map (97+·)).toArray:=by decide +kernel
theorem low_in (c:Nat):("abcdefghijklmnopqrstuvwxyz" : Str).cps.contains c=lo c:=by
 rw[e_low,Bool.eq_iff_iff,Array.contains_iff_mem,lo_iff,List.mem_toArray,List.mem_map]
 constructor
 ·rintro⟨i,hi,rfl⟩
  have:=List.mem_range.mp hi
  omega
 ·intro h
  exact⟨c - 97,List.mem_range.mpr (by omega),by omega⟩
theorem strip_low {cs:List Nat} (h:cs.all lo=true):Txt.stripChars (txt cs) "abcdefghijklmnopqrstuvwxyz"="":=by
 have hg:(fun c=>("abcdefghijklmnopqrstuvwxyz" : Str).cps.contains c)=lo:=funext low_in
 unfold Txt.stripChars Txt.stripBy
 rw[show ("abcdefghijklmnopqrstuvwxyz" : Str).cps.contains=lo from hg]
 have hn:(txt cs).length=cs.length:=by show cs.toArray.size=_; simp
 have lo':stripLo lo true (txt cs)=(cs.takeWhile lo).length:=rfl
 have hi:stripHi lo true (txt cs) (cs.takeWhile lo).length=cs.length - ((cs.drop (cs.takeWhile lo).length).reverse.takeWhile lo).length:=by
  unfold stripHi; rw[if_pos rfl,hn]; rfl
 unfold stripSame stripped
 rw[lo',hi,hn,tw_all cs h,List.drop_length]
 split
 ·rename_i z
  rw[Bool.and_eq_true,beq_iff_eq] at z
  have:cs=[]:=List.length_eq_zero_iff.mp z.1
  subst this; rfl
 ·apply str_ext
  show ((txt cs).cps.extract cs.length (cs.length - 0)).toList=[]
  rw[Nat.sub_zero]
  simp
structure Nm (n:List Nat):Prop where
 l1:1≤n.length
 l8:n.length≤8
 lo:n.all lo=true
def spChk:Sp:=fun vs H Q _=>∃n,vs=[.str (txt n)]∧Nm n∧Q .non H
theorem sc_chk:FnScope ["word"] ["word"] (defScope (top 133)):=⟨rfl,rfl,rfl,by decide +kernel,rfl,by decide +kernel,by decide +kernel⟩
theorem ok_chk {d:DD}{tS:Tok} (m_SL:mg "SMALL_LETTERS"=some (.str "abcdefghijklmnopqrstuvwxyz" tS))  {tL:Tok} (m_LN:mg "LONGEST_NAME"=some (.int 8 tL))  (D:Def K mg "check_name" (top 133) ["word"] d) (b_len:mg "len"=none):FnOk P w K mg base CX0 1 d.f d.fd ["word"] spChk:=by
 refine D.fn.ok sc_chk (fun vs H Q E h=>?_) (fun cdv A outer s H vs Q E hr h=>?_)
 ·obtain⟨n,rfl,_⟩:=h
  rfl
 obtain⟨n,rfl,hn,q⟩:=h
 have hc:=hr.calm
 have nd:=sc_chk.nd
 have el:(txt n).length=n.length:=by show n.toArray.size=_; simp
 have h8:=hn.l8
 have big:(txt n).length≤sizeLine:=line4 (by omega)
 refine⟨_,(@pss_one _ _ _ (@ps_if _ _ _ _ _ _ _ _ (@PW.pt _ _ _ (@pw_or _ _ _ _ _ _ _ (@pt_cmpR _ _ _ _ _ _ _ _ op_gt (@pe_callB _ _ _ _ _ _ _ _ _ call_len_str rfl b_len bt_len (@pa_cons _ _ _ _ _ (pv 0) (@pa_nil _) st_n) (by decide) (by decide) (by rfl) (by rfl)) (@pe_glob _ _ (.int 8) _ _ rfl m_LN ⟨_,rfl⟩ (by decide)) (nomark _)) (@pw_or1 _ _ _ _ (@pt_cmpR _ _ _ _ _ _ _ _ op_ne (@pe_bm _ _ _ _ _ _ _ _ _ _ _ _ PySem.F.plainAttrs_str PySem.F.slot_str_strip PySem.F.type_str_strip mt_strip (pv 0) (@pa_cons _ _ _ _ _ (@pe_glob _ _ (.str "abcdefghijklmnopqrstuvwxyz") _ _ rfl m_SL ⟨_,rfl⟩ (by decide)) (@pa_nil _) st_n) (by rfl) (by rfl) (by rfl) (by rfl) (by rfl)) (@pe_str _ _ _ _) (nomark _))))) (@pss_one _ _ _ (@ps_never _ _)) (@pss_nil _))),?_⟩
 refine⟨_,rfl,txt n,rfl,big,_,_,rfl,rfl,decide ((8:Int) < (((txt n).length:Nat):Int)),rfl,?_⟩
 rw[decide_eq_false (by rw[el]; omega)]
 refine⟨_,rfl,rfl,_,_,rfl,rfl,big,rfl,false,(by rw[strip_low hn.lo]; rfl),?_⟩
 exact q
end
end K3
end
section
set_option maxRecDepth 100000
set_option maxHeartbeats 4000000
namespace K3
open PySem PySem.Spec PyProof.Rows L2
section
variable {P:Program}{w:World}{K:PySem.W.Frag}{mg:Str→Option Value}{base:Heap}
def formsKV:List (Key×V):=[(.inr "put",.str "new table"),(.inr "drop",.str "kept"),(.inr "names",.str ""),(.inr "show",.str "name"),(.inr "times",.str "name name"),(.inr "word",.str "name"),(.inr "wide",.str "name"),(.inr "made",.str "table names"),(.inr "ways",.str "table names"),(.inr "free",.str "names"),(.inr "rank",.str "names"),(.inr "within",.str "table names"),(.inr "basis",.str "names"),(.inr "hull",.str "names"),(.inr "share",.str "names"),(.inr "stuck",.str "names"),(.inr "root",.str "name"),(.inr "kin",.str "name name"),(.inr "mill",.str "names"),(.inr "feed",.str "name"),(.inr "undo",.str ""),(.inr "text",.str ""),(.inr "now",.str ""),(.inr "rests",.str "")]
abbrev tvs (ws:List Str):List V:=ws.map V.str
theorem words_put:Txt.words "new table"=(["new","table"]:List Str):=by decide +kernel
theorem words_kept:Txt.words "kept"=(["kept"]:List Str):=by decide +kernel
theorem words_no:Txt.words ""=[]:=by decide +kernel
theorem words_name:Txt.words "name"=(["name"]:List Str):=by decide +kernel
theorem words_two:Txt.words "name name"=(["name","name"]:List Str):=by decide +kernel
theorem flat_tvs:∀ws:List Str,(tvs ws).all flatV=true
 | []=>rfl
 | _::r=>flat_tvs r
theorem inV_not {z:Str}:∀{ws:List Str},(∀x∈ws,x≠z)→inV (.str z) (tvs ws)=false
 | [],_=>rfl
 | y::r,h=>by
  show (y == z || (tvs r).any fun y=>eqV y (.str z))=false
  rw[beq_eq_false_iff_ne.mpr (h y List.mem_cons_self),Bool.false_or]
  exact inV_not fun x hx=>h x (List.mem_cons_of_mem _ hx)
inductive Knd:Str→Str→List Str→Prop
 | put:Knd "put" "new table" ["new","table"]
 | drop:Knd "drop" "kept" ["kept"]
 | names:Knd "names" "" []
 | show:Knd "show" "name" ["name"]
 | times:Knd "times" "name name" ["name","name"]
 | text:Knd "text" "" []
theorem Knd.words {w f:Str}{ks:List Str} (h:Knd w f ks):Txt.words f=ks:=by
 cases h <;> first | exact words_put | exact words_kept | exact words_no | exact words_name | exact words_two
theorem Knd.at {w f:Str}{ks:List Str} (h:Knd w f ks):valV formsKV (.inr w)=some (.str f):=by
 cases h <;> decide +kernel
theorem Knd.len {w f:Str}{ks:List Str} (h:Knd w f ks):ks.length≤2:=by cases h <;> decide
theorem Knd.ne {w f:Str}{ks:List Str} (h:Knd w f ks):w≠"":=by cases h <;> decide +kernel
theorem Knd.fl {w f:Str}{ks:List Str} (h:Knd w f ks):f.length≤100:=by cases h <;> decide +kernel
theorem Knd.cut {w f:Str}{ks:List Str} (h:Knd w f ks):∃cs:List Str,cutV (tvs ks) (some (-1)) none=tvs cs∧PyData.eqv (.list (cs.map PyData.str)) (.list [.str "names"])=false∧(PyData.list (cs.map PyData.str)).canLay0=true∧(PyData.list (cs.map PyData.str)).depth≤60:=by
 cases h
 ·exact⟨["table"],rfl,by decide +kernel,by decide +kernel,by decide +kernel⟩
 ·exact⟨["kept"],rfl,by decide +kernel,by decide +kernel,by decide +kernel⟩
 ·exact⟨[],rfl,by decide +kernel,by decide +kernel,by decide +kernel⟩
 ·exact⟨["name"],rfl,by decide +kernel,by decide +kernel,by decide +kernel⟩
 ·exact⟨["name"],rfl,by decide +kernel,by decide +kernel,by decide +kernel⟩
 ·exact⟨[],rfl,by decide +kernel,by decide +kernel,by decide +kernel⟩
theorem dat_tvs {K:PySem.W.Frag}{H:Hp}:∀cs:List Str,DatAll K H (tvs cs) (cs.map PyData.str)
 | []=>.nil
 | x::r=>.cons (.str x) (dat_tvs r)
def spKd (K:PySem.W.Frag):Sp:=fun vs H Q _=>∃a w f ks ws,vs=[.ref a]∧Knd w f ks∧SqL K H a (tvs (w::ws))∧ws.length=ks.length∧w≠""∧(∀x∈ws,x≠"")∧∀l H',Same H H'→H l=none→H' l=some (.lst (tvs ks))→Q (.ref l) H'
theorem sc_kd:FnScope ["words","kinds"] ["words"] (defScope (top 132)):=⟨rfl,rfl,rfl,by decide +kernel,rfl,by decide +kernel,by decide +kernel⟩
theorem ok_kd {d:DD}{fa:Addr} (m_FO:mg "FORMS"=some (.ref fa)) (M_FO:ModD P w K fa formsKV)  (D:Def K mg "kinds_of" (top 132) ["words"] d) (b_len:mg "len"=none) (b_max:mg "max"=none):FnOk P w K mg base CX0 1 d.f d.fd ["words"] (spKd K):=by
 refine D.fn.ok sc_kd (fun vs H Q E h=>?_) (fun cdv A outer s H vs Q E hr h=>?_)
 ·obtain⟨a,w0,f,ks,ws,rfl,_⟩:=h
  rfl
 obtain⟨a,w0,f,ks,ws,rfl,kn,S0,el,wn,hne,q⟩:=h
 have hc:=hr.calm
 have nd:=sc_kd.nd
 refine⟨_,(@pss_cons _ _ _ _ _ (@ps_if _ _ _ _ _ _ _ _ (@PW.pt _ _ _ (@pw_or _ _ _ _ _ _ _ (@pt_cmp _ _ _ _ _ _ (pc_dnotinM M_FO (@pe_ix _ _ _ _ _ _ _ ix_list (pv 0) (@pe_int _ _ _ _) (fun _ _=>rfl)) (@pe_glob _ _ (.ref fa) _ _ rfl m_FO rfl (by decide))) (by first | exact nobehind _ (by decide) (by decide) | rfl)) (@pw_or1 _ _ _ _ (@pt_cmpR _ _ _ _ _ _ _ _ op_in_seq (@pe_str _ _ _ _) (pv 0) rfl)))) (@pss_one _ _ _ (@ps_never _ _)) (@pss_nil _)) (@pss_cons _ _ _ _ _ (@ps_set _ _ (1) _ _ _ _ nd rfl (Or.inl rfl) (@pe_bm0 _ _ _ _ _ _ _ _ _ PySem.F.plainAttrs_str PySem.F.slot_str_split PySem.F.type_str_split mt_split0 (@pe_dgetM _ _ _ _ _ _ _ _ M_FO (@pe_glob _ _ (.ref fa) _ _ rfl m_FO rfl (by decide)) (@pe_ix _ _ _ _ _ _ _ ix_list (pv 0) (@pe_int _ _ _ _) (fun _ _=>rfl)) (fun _ _=>rfl)) (by rfl) (by rfl)) (by rfl) (by first | exact .inl rfl | exact .inr rfl | assumption)) (@pss_cons _ _ _ _ _ (@ps_if _ _ _ _ _ _ _ _ (@pt_cmpR _ _ _ _ _ _ _ _ (op_eqD hr.units) (@pe_slice _ _ _ _ _ _ _ _ _ _ sl_list (pv 1) (@po_some _ _ _ (@pe_un _ _ _ _ _ _ un_neg (@pe_int _ _ _ _))) (@po_none _)) (@pe_lst _ _ _ _ (@pa_cons _ _ _ _ _ (@pe_str _ _ _ _) (@pa_nil _) st_c)) (nomark _)) (@pss_one _ _ _ (@ps_never _ _)) (@pss_nil _)) (@pss_cons _ _ _ _ _ (@ps_if _ _ _ _ _ _ _ _ (@pt_cmpR _ _ _ _ _ _ _ _ op_ne (@pe_callB _ _ _ _ _ _ _ _ _ call_len_seq rfl b_len bt_len (@pa_cons _ _ _ _ _ (pv 0) (@pa_nil _) st_n) (by decide) (by decide) (by rfl) (by rfl)) (@pe_op _ _ _ _ _ _ _ _ op_add (@pe_callB _ _ _ _ _ _ _ _ _ call_len_seq rfl b_len bt_len (@pa_cons _ _ _ _ _ (pv 1) (@pa_nil _) st_n) (by decide) (by decide) (by rfl) (by rfl)) (@pe_int _ _ _ _)) (nomark _)) (@pss_one _ _ _ (@ps_never _ _)) (@pss_nil _)) (@pss_one _ _ _ (@ps_ret _ _ _ _ (pv 1))))))),?_⟩
 have h0:atI (tvs (w0::ws)) 0=some (.str w0):=atI_nat (j:=0) rfl
 have inn:inV (.str "") (tvs (w0::ws))=false:=inV_not fun x hx=>by
  rcases List.mem_cons.mp hx with rfl | hx
  ·exact wn
  ·exact hne x hx
 refine⟨_,rfl,a,_,0,.str w0,rfl,rfl,S0,h0,.inr w0,rfl,rfl,false,(by rw[kn.at]; rfl),?_⟩
 refine⟨_,rfl,a,_,rfl,.inl S0,rfl,flat_tvs _,false,(by rw[inn]; rfl),?_⟩
 refine⟨_,rfl,a,_,0,.str w0,rfl,rfl,S0,h0,.inr w0,_,rfl,rfl,kn.at,rfl,f,rfl,rfl,(by have:=kn.fl; have:1000≤sizeLine:=(by rw[sizeLine_eq]; decide); omega),fun l nl=>?_⟩
 rw[kn.words]
 have S1:=same_new nl (.lst (tvs ks))
 refine⟨_,rfl,_,rfl,_,rfl,l,_,rfl,SqL.of upd_same,fun p np=>⟨line4 (by show 1≤1000000; decide),fun p2 np2=>?_⟩⟩
 obtain⟨cs,ec,ev,cl,cd⟩:=kn.cut
 rw[ec] at np2
 have S2:=same_new np (.lst (tvs cs))
 have S3:=same_new np2 (.lst [.str "names"])
 have S13:=S1.trans (S2.trans S3)
 rw[ec]
 refine⟨.list (cs.map PyData.str),.list [.str "names"],.lst (SqL.of (S3 _ _ upd_same)) (dat_tvs cs),.lst (SqL.of upd_same) (.cons (.str _) .nil),cl,by decide +kernel,cd,false,congrArg V.bl ev,?_⟩
 refine⟨_,rfl,a,_,rfl,.inl (S13.seq S0),_,rfl,l,_,rfl,.inl (SqL.of (S3 _ _ (S2 _ _ upd_same))),_,_,rfl,rfl,rfl,false,congrArg (fun b=>V.bl !b) (decide_eq_true (congrArg V.int ?_)),?_⟩
 ·rw[List.length_map,List.length_map,List.length_cons,el]; rfl
 exact⟨_,rfl,q l _ S13 nl (S3 _ _ (S2 _ _ upd_same))⟩
end
end K3
end
section
set_option maxRecDepth 100000
set_option maxHeartbeats 4000000
namespace K3
open PySem PySem.Spec PyProof.Rows L2
section
variable {P:Program}{w:World}{K:PySem.W.Frag}{mg:Str→Option Value}{base:Heap}
def spTh (C:Addr):Sp:=fun vs H Q E=>∃nd kvs kind word,vs=[.ref nd,.str kind,.str word]∧H nd=some (.dK kvs) ∧
  ((kind="table"∧∃is,As word∧word.length≤1000∧rd word=some is∧∀p H',Same H H'→H' p=some (.tup (is.map V.int))→Q (.ref p) H') ∨
   ∃n,word=txt n∧Nm n∧((kind="new"∧Q (.str word) H)∨(kind="kept"∧(∃v,valV kvs (.inr word)=some v)∧Q (.str word) H) ∨
     (kind="name"∧(∀v,valV kvs (.inr word)=some v→Q v H)∧(valV kvs (.inr word)=none→∀H',Same H H'→E (.ref C) none H'))))
theorem sc_th:FnScope ["named","kind","word"] ["named","kind","word"] (defScope (top 134)):=⟨rfl,rfl,rfl,by decide +kernel,rfl,by decide +kernel,by decide +kernel⟩
theorem ok_th {dr dc d:DD}{T C:Addr} (m_NoName:mg "NoName"=some (.ref C)) (k_NoName:PySem.W.excIn K C bmVE "ValueError.__new__"=true) (D_read:Def K mg "read_table" (top 126) ["text"] dr) (G_read:FnOk P w K mg base (CXe P w) 3 dr.f dr.fd ["text"] (spRead T)) (D_chk:Def K mg "check_name" (top 133) ["word"] dc) (G_chk:FnOk P w K mg base CX0 1 dc.f dc.fd ["word"] spChk) (D:Def K mg "thing_of" (top 134) ["named","kind","word"] d):FnOk P w K mg base (CXe P w) 4 d.f d.fd ["named","kind","word"] (spTh C):=by
 refine D.fn.okE sc_th (fun vs H Q E h=>?_) (fun cdv A outer s H vs Q E hr h=>?_)
 ·obtain⟨nd,kvs,kind,word,rfl,_⟩:=h
  rfl
 obtain⟨dn,kvs,kind,word,rfl,gD,h⟩:=h
 have hc:=hr.calm
 have nd:=sc_th.nd
 refine⟨_,(@pss_cons _ _ _ _ _ (@ps_if _ _ _ _ _ _ _ _ (@pt_cmpR _ _ _ _ _ _ _ _ op_eq (pv 1) (@pe_str _ _ _ _) (nomark _)) (@pss_one _ _ _ (@ps_ret _ _ _ _ (@pe_callX _ _ _ _ _ _ _ _ _ _ _ _ _ (G_read.mono (by decide)) hr rfl D_read.m D_read.fn.kp D_read.b xok_def (@pa_cons _ _ _ _ _ (pv 2) (@pa_nil _) st_n) (by decide) (by rfl) (by rfl)))) (@pss_nil _)) (@pss_cons _ _ _ _ _ (@ps_expr _ _ _ _ (@pe_call _ _ _ _ _ _ _ _ _ _ _ _ _ _ _ _ (G_chk.mono (by decide)) hr rfl D_chk.m D_chk.fn.kp D_chk.b .nil pass0 (@pa_cons _ _ _ _ _ (pv 2) (@pa_nil _) st_n) (by decide) (by rfl) (by rfl)) (by rfl)) (@pss_cons _ _ _ _ _ (@ps_if _ _ _ _ _ _ _ _ (@pt_cmpR _ _ _ _ _ _ _ _ op_eq (pv 1) (@pe_str _ _ _ _) (nomark _)) (@pss_one _ _ _ (@ps_ret _ _ _ _ (pv 2))) (@pss_nil _)) (@pss_cons _ _ _ _ _ (@ps_if _ _ _ _ _ _ _ _ (@pt_cmp _ _ _ _ _ _ (@pc_dnotin _ _ _ _ _ (hu_of hr) (pv 2) (pv 0)) (by first | exact nobehind _ (by decide) (by decide) | rfl)) (@pss_one _ _ _ (@ps_raise _ _ _ _ _ _ _ _ _ _ hc rfl m_NoName k_NoName (@pa_cons _ _ _ _ _ (@pe_str _ _ _ _) (@pa_nil _) st_c) xok_def (by decide) (by rfl) (by rfl))) (@pss_nil _)) (@pss_one _ _ _ (@ps_ret _ _ _ _ (@pe_ifExp _ _ _ _ _ _ _ _ (@pt_cmpR _ _ _ _ _ _ _ _ op_eq (pv 1) (@pe_str _ _ _ _) (nomark _)) (pv 2) (@pe_dget _ _ _ _ _ _ (hu_of hr) (pv 0) (pv 2) (fun _ _=>rfl))))))))),?_⟩
 rcases h with ⟨rfl,is,hA,hl,hrd,q⟩ | ⟨n,rfl,hn,h⟩
 ·refine⟨_,rfl,rfl,true,congrArg V.bl (decide_eq_true rfl),?_⟩
  refine⟨_,rfl,_,rfl,.str _,(fun x e=>by injection e with e; subst e; exact⟨hA,by omega⟩),(fun z=>by rw[show rdV (.str word)=some is from hrd] at z; cases z),fun is' z p H' S g=>?_⟩
  rw[show rdV (.str word)=some is from hrd] at z
  cases z
  exact q p H' S g
 have rg:Rd H dn (.dK kvs):=.inl gD
 rcases h with ⟨rfl,q⟩ | ⟨rfl,⟨v,hv⟩,q⟩ | ⟨rfl,q,qE⟩
 ·refine⟨_,rfl,rfl,false,by decide +kernel,_,rfl,n,rfl,hn,?_⟩
  refine⟨_,rfl,rfl,true,congrArg V.bl (decide_eq_true rfl),_,rfl,q⟩
 ·refine⟨_,rfl,rfl,false,by decide +kernel,_,rfl,n,rfl,hn,?_⟩
  refine⟨_,rfl,rfl,false,by decide +kernel,_,rfl,_,rfl,dn,_,rfl,.inl ⟨kvs,.inr _,rg,rfl,rfl⟩,false,(by rw[hv]; rfl),?_⟩
  exact⟨_,rfl,rfl,true,congrArg V.bl (decide_eq_true rfl),_,rfl,q⟩
 ·refine⟨_,rfl,rfl,false,by decide +kernel,_,rfl,n,rfl,hn,?_⟩
  refine⟨_,rfl,rfl,false,by decide +kernel,_,rfl,_,rfl,dn,_,rfl,.inl ⟨kvs,.inr _,rg,rfl,rfl⟩,_,rfl,?_⟩
  cases hv:valV kvs (.inr (txt n)) with
  | none =>
   show ite _ _ _
   rw[if_pos (show (!(none:Option V).isSome)=true from rfl)]
   exact⟨line4 (by show 1≤1000000; decide),qE hv _ (Same.refl _)⟩
  | some v =>
   refine⟨_,rfl,rfl,false,by decide +kernel,_,rfl,_,rfl,dn,v,rfl,.inl ⟨kvs,.inr _,rg,rfl,hv.symm⟩,q v hv⟩
end
end K3
end
section
set_option maxRecDepth 100000
set_option maxHeartbeats 4000000
namespace K3
open PySem PySem.Spec PyProof.Rows L2
section
variable {P:Program}{w:World}{K:PySem.W.Frag}{mg:Str→Option Value}{base:Heap}
structure DeskAt (K:PySem.W.Frag) (C:Addr) (H:Hp) (a dx nd:Addr) (kvs:List (Key×V)):Prop where
 ia:H a=some (.ins C dx [("named",.ref nd),("mill",.non)])
 gN:H nd=some (.dK kvs)
structure DCls (K:PySem.W.Frag) (C:Addr):Prop where
 c:Cls K C
 n:NoAttr K C "named"
 m:NoAttr K C "mill"
def spShow (K:PySem.W.Frag):Sp:=fun vs H Q _=>∃v l a is,vs=[v,.ref l]∧SqL K H l [.ref a]∧H a=some (.tup (is.map V.int))∧is.length=4∧(∀i∈is,i.natAbs < 2 ^ 1000)∧∀H',Same H H'→Q (.str (tt is)) H'
theorem sc_show:FnScope ["desk","things"] ["desk","things"] (defScope (top 142)):=⟨rfl,rfl,rfl,by decide +kernel,rfl,by decide +kernel,by decide +kernel⟩
theorem ok_show {dt d:DD} (D_tt:Def K mg "table_text" (top 123) ["table"] dt) (G_tt:FnOk P w K mg base CX0 3 dt.f dt.fd ["table"] (spTt K)) (D:Def K mg "say_show" (top 142) ["desk","things"] d):FnOk P w K mg base CX0 4 d.f d.fd ["desk","things"] (spShow K):=by
 refine D.fn.ok sc_show (fun vs H Q E h=>?_) (fun cdv A outer s H vs Q E hr h=>?_)
 ·obtain⟨v,l,a,is,rfl,_⟩:=h
  rfl
 obtain⟨v,l,a,is,rfl,gl,ga,h4,hb,q⟩:=h
 have hc:=hr.calm
 have nd:=sc_show.nd
 refine⟨_,(@pss_one _ _ _ (@ps_ret _ _ _ _ (@pe_call _ _ _ _ _ _ _ _ _ _ _ _ _ _ _ _ (G_tt.mono (by decide)) hr rfl D_tt.m D_tt.fn.kp D_tt.b .nil pass0 (@pa_cons _ _ _ _ _ (@pe_ix _ _ _ _ _ _ _ ix_list (pv 1) (@pe_int _ _ _ _) (fun _ _=>rfl)) (@pa_nil _) (by rfl)) (by decide) (by rfl) (by rfl)))),?_⟩
 exact⟨_,rfl,l,_,0,.ref a,rfl,rfl,gl,atI_nat (j:=0) rfl,a,is,rfl,ga,h4,hb,q⟩
def spTimes (K:PySem.W.Frag):Sp:=fun vs H Q _=>∃v l a b s t,vs=[v,.ref l]∧SqL K H l [.ref a,.ref b]∧T4o H (.ref a) s∧T4o H (.ref b) t∧Bd 400 s∧Bd 400 t∧∀H',Same H H'→Q (.str (tt (Tb.ns (s.mul t)))) H'
theorem sc_tms:FnScope ["desk","things"] ["desk","things"] (defScope (top 143)):=⟨rfl,rfl,rfl,by decide +kernel,rfl,by decide +kernel,by decide +kernel⟩
theorem ok_tms {dt dp d:DD} (D_tt:Def K mg "table_text" (top 123) ["table"] dt) (G_tt:FnOk P w K mg base CX0 3 dt.f dt.fd ["table"] (spTt K)) (D_prod:Def K mg "product" (top 33) ["one","other"] dp) (G_prod:FnOk P w K mg base CX0 1 dp.f dp.fd ["one","other"] (spProd K)) (D:Def K mg "say_times" (top 143) ["desk","things"] d):FnOk P w K mg base CX0 4 d.f d.fd ["desk","things"] (spTimes K):=by
 refine D.fn.ok sc_tms (fun vs H Q E h=>?_) (fun cdv A outer s H vs Q E hr h=>?_)
 ·obtain⟨v,l,a,b,s,t,rfl,_⟩:=h
  rfl
 obtain⟨v,l,a,b,t1,t2,rfl,gl,ga,gb,ba,bb,q⟩:=h
 have hc:=hr.calm
 have nd:=sc_tms.nd
 refine⟨_,(@pss_one _ _ _ (@ps_ret _ _ _ _ (@pe_call _ _ _ _ _ _ _ _ _ _ _ _ _ _ _ _ (G_tt.mono (by decide)) hr rfl D_tt.m D_tt.fn.kp D_tt.b .nil pass0 (@pa_cons _ _ _ _ _ (@pe_call _ _ _ _ _ _ _ _ _ _ _ _ _ _ _ _ (G_prod.mono (by decide)) hr rfl D_prod.m D_prod.fn.kp D_prod.b .nil pass0 (@pa_cons _ _ _ _ _ (@pe_ix _ _ _ _ _ _ _ ix_list (pv 1) (@pe_int _ _ _ _) (fun _ _=>rfl)) (@pa_cons _ _ _ _ _ (@pe_ix _ _ _ _ _ _ _ ix_list (pv 1) (@pe_int _ _ _ _) (fun _ _=>rfl)) (@pa_nil _) (by rfl)) (by rfl)) (by decide) (by rfl) (by rfl)) (@pa_nil _) st_f) (by decide) (by rfl) (by rfl)))),?_⟩
 refine⟨_,rfl,l,_,0,.ref a,rfl,rfl,gl,atI_nat (j:=0) rfl,_,rfl,l,_,1,.ref b,rfl,rfl,gl,atI_nat (j:=1) rfl,.ref a,.ref b,t1,t2,400,400,rfl,ga.t4,gb.t4,ba,bb,by decide,by decide,fun r H1 S1 g1=>?_⟩
 obtain⟨p,rfl,gp⟩:=g1
 refine⟨p,Tb.ns (t1.mul t2),rfl,gp,rfl,(fun i hi=>(K3.Bd.mem (ba.mul bb) i hi).mono (by decide)),fun H2 S2=>q H2 (S1.trans S2)⟩
def spPut (K:PySem.W.Frag) (C:Addr):Sp:=fun vs H Q _=>∃a dx nd kvs l x v,vs=[.ref a,.ref l]∧DeskAt K C H a dx nd kvs∧SqL K H l [.str x,v]∧kvs.length < 1000∧Q (.str "ok") (upd H nd (.dK (putK kvs (.inr x) v)))
theorem sc_put:FnScope ["desk","things","name","table"] ["desk","things"] (defScope (top 139)):=⟨rfl,rfl,rfl,by decide +kernel,rfl,by decide +kernel,by decide +kernel⟩
theorem ok_put {C:Addr}{d:DD} (DC:DCls K C) (D:Def K mg "say_put" (top 139) ["desk","things"] d):FnOk P w K mg base CX0 1 d.f d.fd ["desk","things"] (spPut K C):=by
 refine D.fn.ok sc_put (fun vs H Q E h=>?_) (fun cdv A outer s H vs Q E hr h=>?_)
 ·obtain⟨a,dx,dn,kvs,l,x,v,rfl,_⟩:=h
  rfl
 obtain⟨a,dx,dn,kvs,l,x,v,rfl,M,gl,kl,q⟩:=h
 have hc:=hr.calm
 have nd:=sc_put.nd
 refine⟨_,(@pss_cons _ _ _ _ _ (@ps_asg _ _ _ _ _ _ (pv 1) (pg_lst hc (@pgs_cons _ _ _ _ _ (@pg_name _ _ (2) _ nd rfl (Or.inl rfl) (by first | exact .inl rfl | exact .inr rfl | assumption)) (@pgs_cons _ _ _ _ _ (@pg_name _ _ (3) _ nd rfl (Or.inl rfl) (by first | exact .inl rfl | exact .inr rfl | assumption)) (@pgs_nil _) (by rfl)) (by rfl))) (by rfl) (by rfl) (by rfl)) (@pss_cons _ _ _ _ _ (@ps_dput _ _ _ _ _ _ _ _ _ (hu_of hr) (@pe_fld _ _ _ _ _ (pv 0) rfl) (pv 2) (pv 3) rfl) (@pss_one _ _ _ (@ps_ret _ _ _ _ (@pe_str _ _ _ _))))),?_⟩
 refine⟨_,rfl,l,_,rfl,gl,rfl,_,_,rfl,_,_,rfl,rfl,?_⟩
 refine⟨_,rfl,_,rfl,a,C,dx,_,_,rfl,M.ia,DC.c,DC.n,rfl,_,rfl,dn,_,rfl,.inl ⟨kvs,.inr x,M.gN,rfl,(by have:1000≤sizeLine:=(by rw[sizeLine_eq]; decide); omega),rfl⟩,q⟩
def spDrop (K:PySem.W.Frag) (C:Addr):Sp:=fun vs H Q _=>∃a dx nd kvs l x v,vs=[.ref a,.ref l]∧DeskAt K C H a dx nd kvs∧SqL K H l [.str x]∧valV kvs (.inr x)=some v∧Q (.str "ok") (upd H nd (.dK (dropK kvs (.inr x))))
theorem sc_drop:FnScope ["desk","things"] ["desk","things"] (defScope (top 140)):=⟨rfl,rfl,rfl,by decide +kernel,rfl,by decide +kernel,by decide +kernel⟩
theorem ok_drop {C:Addr}{d:DD} (DC:DCls K C) (D:Def K mg "say_drop" (top 140) ["desk","things"] d):FnOk P w K mg base CX0 1 d.f d.fd ["desk","things"] (spDrop K C):=by
 refine D.fn.ok sc_drop (fun vs H Q E h=>?_) (fun cdv A outer s H vs Q E hr h=>?_)
 ·obtain⟨a,dx,dn,kvs,l,x,v,rfl,_⟩:=h
  rfl
 obtain⟨a,dx,dn,kvs,l,x,v,rfl,M,gl,hv,q⟩:=h
 have hc:=hr.calm
 have nd:=sc_drop.nd
 refine⟨_,(@pss_cons _ _ _ _ _ (@ps_expr _ _ _ _ (@pe_dpop1 _ _ _ _ _ _ _ (@pe_fld _ _ _ _ _ (pv 0) rfl) (@pe_ix _ _ _ _ _ _ _ ix_list (pv 1) (@pe_int _ _ _ _) (fun _ _=>rfl)) ⟨rfl,rfl,rfl,rfl⟩) (by rfl)) (@pss_one _ _ _ (@ps_ret _ _ _ _ (@pe_str _ _ _ _)))),?_⟩
 refine⟨_,rfl,a,C,dx,_,_,rfl,M.ia,DC.c,DC.n,rfl,dn,rfl,.inl ⟨kvs,.inl M.gN⟩,_,rfl,l,_,0,.str x,rfl,rfl,gl,atI_nat (j:=0) rfl,kvs,.inr x,v,M.gN,rfl,hv,q⟩
end
end K3
end
section
set_option maxRecDepth 100000
set_option maxHeartbeats 4000000
namespace K3
open PySem PySem.Spec PyProof.Rows L2
section
variable {P:Program}{w:World}{K:PySem.W.Frag}{mg:Str→Option Value}{base:Heap}
theorem bt_sorted:bootBuiltins "sorted"=some (.builtin "sorted"):=by decide +kernel
theorem sum8:∀zs:List Str,(∀z∈zs,z.length≤8)→(zs.map (·.length)).sum≤8 * zs.length
 | [],_=>Nat.le_refl _
 | z::r,h=>by
  have:=sum8 r fun y hy=>h y (List.mem_cons_of_mem _ hy)
  have hz:=h z List.mem_cons_self
  rw[List.map_cons,List.sum_cons,List.length_cons]
  lia
def told (zs:List Str):Str:=if zs=[] then "none" else Txt.join " " zs
def spNames (K:PySem.W.Frag) (C:Addr):Sp:=fun vs H Q _=>∃a dx nd kvs v zs,vs=[.ref a,v]∧DeskAt K C H a dx nd kvs∧kvs.map (·.1)=zs.map (fun z=>(Sum.inr z:Key))∧zs.length≤1000∧(∀z∈zs,z.length≤8)∧∀zs' H',zs'.Perm zs→sortedS zs'=true→Same H H'→Q (.str (told zs')) H'
theorem sc_nms:FnScope ["desk","things"] ["desk","things"] (defScope (top 141)):=⟨rfl,rfl,rfl,by decide +kernel,rfl,by decide +kernel,by decide +kernel⟩
theorem ok_nms {C:Addr}{d:DD} (DC:DCls K C) (D:Def K mg "say_names" (top 141) ["desk","things"] d) (b_sorted:mg "sorted"=none):FnOk P w K mg base CX0 1 d.f d.fd ["desk","things"] (spNames K C):=by
 refine D.fn.ok sc_nms (fun vs H Q E h=>?_) (fun cdv A outer s H vs Q E hr h=>?_)
 ·obtain⟨a,dx,dn,kvs,v,zs,rfl,_⟩:=h
  rfl
 obtain⟨a,dx,dn,kvs,v,zs,rfl,M,ek,zl,z8,q⟩:=h
 have hc:=hr.calm
 have nd:=sc_nms.nd
 refine⟨_,(@pss_one _ _ _ (@ps_ret _ _ _ _ (@pe_ifExp _ _ _ _ _ _ _ _ (@pt_truth _ _ _ (@pe_fld _ _ _ _ _ (pv 0) rfl) (fun _=>rfl)) (@pe_bm _ _ _ _ _ _ _ _ _ _ _ _ PySem.F.plainAttrs_str PySem.F.slot_str_join PySem.F.type_str_join mt_join (@pe_str _ _ _ _) (@pa_cons _ _ _ _ _ (@pe_callB _ _ _ _ _ _ _ _ _ (call_sortN hc) rfl b_sorted bt_sorted (@pa_cons _ _ _ _ _ (@pe_fld _ _ _ _ _ (pv 0) rfl) (@pa_nil _) (by rfl)) (by decide) (by decide) (by rfl) (by rfl)) (@pa_nil _) st_f) (by rfl) (by rfl) (by rfl) (by rfl) (by rfl)) (@pe_str _ _ _ _)))),?_⟩
 refine⟨_,rfl,a,C,dx,_,_,rfl,M.ia,DC.c,DC.n,rfl,!kvs.isEmpty,?_,?_⟩
 ·exact .inr (.inr ⟨kvs,M.gN,rfl⟩)
 have hl:kvs.length=zs.length:=by rw[← List.length_map (f:=(·.1)) (as:=kvs),ek,List.length_map]
 cases hk:kvs.isEmpty with
 | true =>
  have hz:zs=[]:=List.length_eq_zero_iff.mp (by rw[← hl,List.isEmpty_iff.mp hk]; rfl)
  have:=q [] H (by rw[hz]) (by decide +kernel) (Same.refl _)
  exact this
 | false =>
  have hz:zs≠[]:=fun z=>by rw[z] at hl; rw[List.length_eq_zero_iff.mp hl] at hk; cases hk
  refine⟨rfl,_,rfl,a,C,dx,_,_,rfl,M.ia,DC.c,DC.n,rfl,dn,zs,rfl,.inr ⟨kvs,M.gN,ek⟩,fun l zs' pm so nl=>?_⟩
  have hz':zs'≠[]:=fun z=>by rw[z] at pm; exact hz pm.symm.eq_nil
  refine⟨" ",l,zs',rfl,rfl,SqL.of upd_same,?_,?_⟩
  ·have:=sum8 zs' fun z hz=>z8 z (pm.mem_iff.mp hz)
   have:=pm.length_eq
   show _+_ * 1≤_
   lia
  ·have:=q zs' _ pm so (same_new nl (.lst (zs'.map V.str)))
   unfold told at this
   rw[if_neg hz'] at this
   exact this
end
end K3
end
section
set_option maxRecDepth 100000
set_option maxHeartbeats 4000000
namespace K3
open PySem PySem.Spec PyProof.Rows L2
section
variable {P:Program}{w:World}{K:PySem.W.Frag}{mg:Str→Option Value}{base:Heap}
def cbody (st:Stmt):List Stmt:=match st with
 | .ClassDef _ _ _ b _ _ _ _ _ _ _=>b
 | _=>[]
abbrev meth (i:Nat):Stmt:=(cbody (top 164)).getD i (.Pass ⟨0,0,0,0⟩)
structure MDef (K:PySem.W.Frag) (C:Addr) (x qual:Str) (st:Stmt) (ps:List Str) (d:DD):Prop where
 fn:Fun K x qual st d.f d.fd
 m:Meth K C x d.f
 b:Binds K d.fd ps []
theorem DeskAt.same {K:PySem.W.Frag}{C:Addr}{H H':Hp}{a dx nd:Addr}{kvs:List (Key×V)} (m:DeskAt K C H a dx nd kvs) (S:Same H H'):DeskAt K C H' a dx nd kvs:=⟨S _ _ m.ia,S _ _ m.gN⟩
def spIn (K:PySem.W.Frag) (C:Addr):Sp:=fun vs H Q _=>∃a dx,vs=[.ref a]∧H a=some (.ins C dx [])∧∀nd H',SmB a H H'→H nd=none→DeskAt K C H' a dx nd []→Q .non H'
theorem sc_in:FnScope ["self"] ["self"] (defScope (meth 0)):=⟨rfl,rfl,rfl,by decide +kernel,rfl,by decide +kernel,by decide +kernel⟩
theorem ok_in {C:Addr}{d:DD} (DC:DCls K C) (D:MDef K C "__init__" "Desk.__init__" (meth 0) ["self"] d):FnOk P w K mg base CX0 1 d.f d.fd ["self"] (spIn K C):=by
 refine D.fn.ok sc_in (fun vs H Q E h=>?_) (fun cdv A outer s H vs Q E hr h=>?_)
 ·obtain⟨a,dx,rfl,_⟩:=h
  rfl
 obtain⟨a,dx,rfl,ha,q⟩:=h
 have hc:=hr.calm
 have nd:=sc_in.nd
 refine⟨_,(@pss_cons _ _ _ _ _ (@ps_fld _ _ _ _ _ _ _ _ (pv 0) (@pe_dnewK _ _) rfl) (@pss_one _ _ _ (@ps_fld _ _ _ _ _ _ _ _ (pv 0) (@pe_non _ _ _) rfl))),?_⟩
 refine fun D nD=>?_
 have ne:a≠D:=ne_of_none ha nD
 refine⟨_,rfl,a,C,dx,[],rfl,by rw[upd_ne ne]; exact ha,DC.c,DC.n,by decide,?_⟩
 refine⟨_,rfl,a,C,dx,_,rfl,upd_same,DC.c,DC.m,by show 1 < 1000; decide,?_⟩
 refine q D _ (fun b o n e=>?_) nD ⟨upd_same,?_⟩
 ·rw[upd_ne n,upd_ne n,upd_ne (ne_of_none e nD)]; exact e
 ·rw[upd_ne (Ne.symm ne),upd_ne (Ne.symm ne)]; exact upd_same
end
end K3
end
section
set_option maxRecDepth 100000
set_option maxHeartbeats 4000000
namespace K3
open PySem PySem.Spec PyProof.Rows L2
section
variable {P:Program}{w:World}{K:PySem.W.Frag}{mg:Str→Option Value}{base:Heap}
inductive Can (kvs:List (Key×V)):Str→Str→Prop
 | tb {x:Str}{is:List Int}:As x→x.length≤1000→rd x=some is→Can kvs "table" x
 | new {n:List Nat}:Nm n→Can kvs "new" (txt n)
 | kept {n:List Nat}{v:V}:Nm n→valV kvs (.inr (txt n))=some v→Can kvs "kept" (txt n)
 | name {n:List Nat}:Nm n→Can kvs "name" (txt n)
inductive Got (kvs:List (Key×V)) (H:Hp):Str→Str→V→Prop
 | tb {x:Str}{is:List Int}{p:Addr}:rd x=some is→H p=some (.tup (is.map V.int))→Got kvs H "table" x (.ref p)
 | new (x:Str):Got kvs H "new" x (.str x)
 | kept {x:Str}{v:V}:valV kvs (.inr x)=some v→Got kvs H "kept" x (.str x)
 | name {x:Str}{v:V}:valV kvs (.inr x)=some v→Got kvs H "name" x v
theorem Got.same {kvs:List (Key×V)}{H H':Hp}{k x:Str}{v:V} (h:Got kvs H k x v) (S:Same H H'):Got kvs H' k x v:=by
 cases h with
 | tb a b=>exact .tb a (S _ _ b)
 | new=>exact .new _
 | kept a=>exact .kept a
 | name a=>exact .name a
inductive Gots (kvs:List (Key×V)) (H:Hp):List Str→List Str→List V→Prop
 | nil:Gots kvs H [] [] []
 | snoc {ks xs:List Str}{vs:List V}{k x:Str}{v:V}:Gots kvs H ks xs vs→Got kvs H k x v→Gots kvs H (ks++[k]) (xs++[x]) (vs++[v])
theorem Gots.same {kvs:List (Key×V)}{H H':Hp}{ks xs:List Str}{vs:List V} (h:Gots kvs H ks xs vs) (S:Same H H'):Gots kvs H' ks xs vs:=by
 induction h with
 | nil=>exact .nil
 | snoc a b ih=>exact .snoc ih (b.same S)
theorem Gots.len {kvs:List (Key×V)}{H:Hp}{ks xs:List Str}{vs:List V} (h:Gots kvs H ks xs vs):vs.length=ks.length:=by
 induction h with
 | nil=>rfl
 | snoc a b ih=>rw[List.length_append,List.length_append,ih]; rfl
theorem cut_one (w:Str) (ws:List Str):cutV (tvs (w::ws)) (some 1) none=tvs ws:=by
 have e1:HT.sIx (tvs (w::ws)).length 0 (some 1)=1:=by
  simp [HT.sIx]
  try lia
 have e2:HT.sIx (tvs (w::ws)).length (tvs (w::ws)).length none=(tvs (w::ws)).length:=rfl
 unfold cutV
 rw[e1,e2]
 show List.take _ (tvs ws)=tvs ws
 exact List.take_of_length_le (by rw[List.length_map,List.length_map,List.length_cons]; exact Nat.le_refl _)
theorem Knd.mill {w f:Str}{ks:List Str} (h:Knd w f ks):inV (.str w) (tvs ["feed","undo","text","now","rests"])=decide (w="text"):=by cases h <;> decide +kernel
structure Deed (P:Program) (w:World) (K:PySem.W.Frag) (mg:Str→Option Value) (base:Heap) (dk:List (Key×V)) (x:Str) (d:DD) (sp:Sp):Prop where
 at':valV dk (.inr x)=some (.ref d.f)
 ok:FnOk P w K mg base CX0 4 d.f d.fd ["desk","things"] sp
 kp:PySem.W.keepIn K (.ref d.f)=true
 b:Binds K d.fd ["desk","things"] []
def spSay (P:Program) (w:World) (K:PySem.W.Frag) (mg:Str→Option Value) (base:Heap) (dk:List (Key×V)) (C CN CM:Addr):Sp:=fun vs H Q E=>∃a dx nd kvs row w0 f ks ws,vs=[.ref a,.str row]∧DeskAt K C H a dx nd kvs∧row.length≤20000 ∧
 Txt.split row " "=w0::ws∧Knd w0 f ks∧ws.length=ks.length∧(∀x∈ws,x≠"")∧(∀(i:Nat) (k x:Str),ks[i]?=some k→ws[i]?=some x→Can kvs k x) ∧
 ((∃(i:Nat) (x:Str),ks[i]?=some "name"∧ws[i]?=some x∧valV kvs (.inr x)=none)→∀H',Same H H'→E (.ref CN) none H') ∧
 ∀l zs H',Same H H'→H' l=some (.lst zs)→Gots kvs H' ks ws zs→(w0="text"∧E (.ref CM) none H')∨(w0≠"text"∧∃d sp,Deed P w K mg base dk w0 d sp∧sp [.ref a,.ref l] H' Q E0)
theorem sc_say:FnScope ["self","row","words","kinds","things","deed"] ["self","row"] (defScope (meth 1)):=⟨rfl,rfl,rfl,by decide +kernel,rfl,by decide +kernel,by decide +kernel⟩
theorem ok_say {C CN CR CM da mr:Addr}{dk:List (Key×V)}{dh dq d:DD} (DC:DCls K C) (m_NoRow:mg "NoRow"=some (.ref CR)) (k_NoRow:PySem.W.excIn K CR bmVE "ValueError.__new__"=true) (m_NoMill:mg "NoMill"=some (.ref CM)) (k_NoMill:PySem.W.excIn K CM bmVE "ValueError.__new__"=true) (m_DE:mg "DEEDS"=some (.ref da)) (M_DE:ModD P w K da dk) (m_MR:mg "MILL_ROWS"=some (.ref mr)) (k_MR:∀H,SqT K H mr (tvs ["feed","undo","text","now","rests"])) (D_kd:Def K mg "kinds_of" (top 132) ["words"] dh) (G_kd:FnOk P w K mg base CX0 1 dh.f dh.fd ["words"] (spKd K)) (D_th:Def K mg "thing_of" (top 134) ["named","kind","word"] dq) (G_th:FnOk P w K mg base (CXe P w) 4 dq.f dq.fd ["named","kind","word"] (spTh CN)) (D:MDef K C "say" "Desk.say" (meth 1) ["self","row"] d) (b_isinstance:mg "isinstance"=none) (b_str:mg "str"=none) (b_zip:mg "zip"=none):FnOk P w K mg base (CXe P w) 6 d.f d.fd ["self","row"] (spSay P w K mg base dk C CN CM):=by
 refine D.fn.okE sc_say (fun vs H Q E h=>?_) (fun cdv A outer s H vs Q E hr h=>?_)
 ·obtain⟨a,dx,dn,kvs,row,w0,f,ks,ws,rfl,_⟩:=h
  rfl
 obtain⟨a,dx,dn,kvs,row,w0,f,ks,ws,rfl,M,rl,esp,kn,el,hne,can,qE,q⟩:=h
 have hc:=hr.calm
 have nd:=sc_say.nd
 refine⟨_,(@pss_cons _ _ _ _ _ (@ps_if _ _ _ _ _ _ _ _ (@pt_not _ _ _ _ (@pt_val _ _ _ (@pe_callB _ _ _ _ _ _ _ _ _ call_isT rfl b_isinstance bt_isinstance (@pa_cons _ _ _ _ _ (pv 1) (@pa_cons _ _ _ _ _ (@pe_bltn _ _ (.ty "str") _ _ rfl b_str bt_str rfl (by decide) (by decide)) (@pa_nil _) st_n) st_n) (by decide) (by decide) (by rfl) (by rfl)) (by intro _; rfl))) (@pss_one _ _ _ (@ps_raise _ _ _ _ _ _ _ _ _ _ hc rfl m_NoRow k_NoRow (@pa_cons _ _ _ _ _ (@pe_str _ _ _ _) (@pa_nil _) st_c) xok_def (by decide) (by rfl) (by rfl))) (@pss_nil _)) (@pss_cons _ _ _ _ _ (@ps_set _ _ (2) _ _ _ _ nd rfl (Or.inl rfl) (@pe_bm _ _ _ _ _ _ _ _ _ _ _ _ PySem.F.plainAttrs_str PySem.F.slot_str_split PySem.F.type_str_split mt_split (pv 1) (@pa_cons _ _ _ _ _ (@pe_str _ _ _ _) (@pa_nil _) st_c) (by rfl) (by rfl) (by rfl) (by rfl) (by rfl)) (by rfl) (by first | exact .inl rfl | exact .inr rfl | assumption)) (@pss_cons _ _ _ _ _ (@ps_set _ _ (3) _ _ _ _ nd rfl (Or.inl rfl) (@pe_call _ _ _ _ _ _ _ _ _ _ _ _ _ _ _ _ (G_kd.mono (by decide)) hr rfl D_kd.m D_kd.fn.kp D_kd.b .nil pass0 (@pa_cons _ _ _ _ _ (pv 2) (@pa_nil _) st_n) (by decide) (by rfl) (by rfl)) (by rfl) (by first | exact .inl rfl | exact .inr rfl | assumption)) (@pss_cons _ _ _ _ _ (ps_compE (i:=4) rfl rfl xokF_def hc (compScope_of (ts:=["kind","word"]) (cap:=["self"]) (js:=[0]) rfl rfl rfl rfl rfl rfl (by decide +kernel)) (pi_zip rfl b_zip (@pa_cons _ _ _ _ _ (pv 3) (@pa_cons _ _ _ _ _ (@pe_slice _ _ _ _ _ _ _ _ _ _ sl_list (pv 2) (@po_some _ _ _ (@pe_int _ _ _ _)) (@po_none _)) (@pa_nil _) (by rfl)) st_n)) (fun _ _ _ _=>@pg_tupK _ _ _ _ _ (2) K rfl hc (@pgs_cons _ _ _ _ _ (@pg_name _ _ (0) _ (show (["kind","word","self"]:List Str).Nodup by decide +kernel) rfl (Or.inl rfl) (.inr rfl)) (@pgs_cons _ _ _ _ _ (@pg_name _ _ (1) _ (show (["kind","word","self"]:List Str).Nodup by decide +kernel) rfl (Or.inl rfl) (.inr rfl)) (@pgs_nil _) (by rfl)) (by rfl)) (by rfl) (by rfl)) (fun _ _ _ _=>@pts_nil _) (fun _ _ _ _ _ _=>(@pe_callX _ _ _ _ _ _ _ _ _ _ _ _ _ (G_th.mono (by decide)) hr rfl D_th.m D_th.fn.kp D_th.b xok_try (@pa_cons _ _ _ _ _ (@pe_fldK _ _ _ _ _ K rfl (pv 2) rfl) (@pa_cons _ _ _ _ _ (pv 0) (@pa_cons _ _ _ _ _ (pv 1) (@pa_nil _) st_n) st_n) (by rfl)) (by decide) (by rfl) (by rfl))) nd rfl (Or.inl rfl) rfl) (@pss_cons _ _ _ _ _ (@ps_if _ _ _ _ _ _ _ _ (@PW.pt _ _ _ (@pw_and _ _ _ _ _ _ _ (@pt_cmpR _ _ _ _ _ _ _ _ op_in_seq (@pe_ix _ _ _ _ _ _ _ ix_list (pv 2) (@pe_int _ _ _ _) (fun _ _=>rfl)) (@pe_glob _ _ (.ref mr) _ _ rfl m_MR rfl (by decide)) rfl) (@pw_and1 _ _ _ _ (@pt_cmpR _ _ _ _ _ _ _ _ op_isN (@pe_fld _ _ _ _ _ (pv 0) rfl) (@pe_non _ _ _) (nomark _))))) (@pss_one _ _ _ (@ps_raise _ _ _ _ _ _ _ _ _ _ hc rfl m_NoMill k_NoMill (@pa_cons _ _ _ _ _ (@pe_str _ _ _ _) (@pa_nil _) st_c) xok_def (by decide) (by rfl) (by rfl))) (@pss_nil _)) (@pss_cons _ _ _ _ _ (@ps_set _ _ (5) _ _ _ _ nd rfl (Or.inl rfl) (@pe_dgetM _ _ _ _ _ _ _ _ M_DE (@pe_glob _ _ (.ref da) _ _ rfl m_DE rfl (by decide)) (@pe_ix _ _ _ _ _ _ _ ix_list (pv 2) (@pe_int _ _ _ _) (fun _ _=>rfl)) (fun _ _=>rfl)) (by rfl) (by first | exact .inl rfl | exact .inr rfl | assumption)) (@pss_one _ _ _ (@ps_ret _ _ _ _ (pe_callV 5 (@pa_cons _ _ _ _ _ (pv 0) (@pa_cons _ _ _ _ _ (pv 4) (@pa_nil _) st_n) st_n)))))))))),?_⟩
 obtain⟨t1,y1,e1⟩:=as_str (K:=K) (Kn.str (H:=H) row)
 refine⟨_,rfl,_,.ty "str",t1,_,_,rfl,rfl,y1,e1,_,rfl,?_⟩
 refine⟨_,rfl,rfl,row," ",rfl,rfl,rfl,(by have:30000≤sizeLine:=(by rw[sizeLine_eq]; decide); lia),fun W nW=>?_⟩
 rw[esp]
 have S1:=same_new nW (.lst (tvs (w0::ws)))
 refine⟨_,rfl,W,w0,f,ks,ws,rfl,kn,SqL.of upd_same,el,kn.ne,hne,fun G H2 S2 nG gG=>?_⟩
 have gW:H2 W=some (.lst (tvs (w0::ws))):=S2 _ _ upd_same
 refine⟨_,rfl,_,rfl,_,rfl,W,_,rfl,SqL.of gW,fun Y nY=>?_⟩
 rw[cut_one]
 have S3:=same_new nY (.lst (tvs ws))
 have S03:=(S1.trans S2).trans S3
 have kl:=kn.len
 refine⟨G,Y,rfl,⟨_,SqL.of (S3 _ _ gG)⟩,⟨_,SqL.of upd_same⟩,?_⟩
 generalize eH:upd H2 Y (.lst (tvs ws))=H3 at S3 S03
 have gY:H3 Y=some (.lst (tvs ws)):=by rw[← eH]; exact upd_same
 have gG3:H3 G=some (.lst (tvs ks)):=S3 _ _ gG
 refine compZ (K:=K) (xs:=tvs ks) (ys:=tvs ws) (n:=ks.length) (fun i zs H'=>Same H3 H'∧Gots kvs H' (ks.take i) (ws.take i) zs) (by rw[List.length_map,List.length_map,el,Nat.min_self]) ⟨Same.refl _,.nil⟩ (fun i zs H' hi z=>by have:=z.2.len; rw[List.length_take] at this; lia) (line4 (by lia)) (fun i zs H' hi z=>⟨SqL.of (z.1 _ _ gG3),SqL.of (z.1 _ _ gY)⟩) (fun i x y zs H' p hx hy z np=>?_) (fun zs H' z l nl=>?_)
 ·obtain⟨z1,z2⟩:=z
  rw[List.getElem?_map] at hx hy
  obtain⟨k',hk,rfl⟩:=Option.map_eq_some_iff.mp hx
  obtain⟨x',hw,rfl⟩:=Option.map_eq_some_iff.mp hy
  have Sp:=same_new np (.tup [.str k',.str x'])
  have S0:=(S03.trans z1).trans Sp
  have hi:i < ks.length:=(List.getElem?_eq_some_iff.mp hk).1
  have M':=M.same S0
  have nxt:∀v H4,Same (upd H' p (.tup [.str k',.str x'])) H4→Got kvs H4 k' x' v→Nx ks.length i (fun i zs H'=>Same H3 H'∧Gots kvs H' (ks.take i) (ws.take i) zs) (zs++[v]) H4:=fun v H4 S4 g=>Nx.mk hi ⟨z1.trans (Sp.trans S4),by
   rw[List.take_add_one,hk,List.take_add_one,hw]
   exact .snoc (z2.same (Sp.trans S4)) g⟩
  have mem:x'∈ws:=List.mem_of_getElem? hw
  refine⟨p,_,rfl,SqT.of upd_same,rfl,_,_,rfl,_,_,rfl,rfl,?_⟩
  refine⟨_,rfl,a,C,dx,_,_,rfl,M'.ia,DC.c,DC.n,rfl,_,rfl,_,rfl,dn,kvs,k',x',rfl,M'.gN,?_⟩
  have cn:=can i k' x' hk hw
  cases cn with
  | tb hA hl hr=>exact .inl ⟨rfl,_,hA,hl,hr,fun p2 H4 S4 g4=>nxt _ _ S4 (.tb hr g4)⟩
  | new hn=>exact .inr ⟨_,rfl,hn,.inl ⟨rfl,nxt _ _ (Same.refl _) (.new _)⟩⟩
  | kept hn hv=>exact .inr ⟨_,rfl,hn,.inr (.inl ⟨rfl,⟨_,hv⟩,nxt _ _ (Same.refl _) (.kept hv)⟩)⟩
  | name hn=>exact .inr ⟨_,rfl,hn,.inr (.inr ⟨rfl,fun v hv=>nxt _ _ (Same.refl _) (.name hv),fun hv H4 S4 D ys nD=>qE ⟨i,_,hk,hw,hv⟩ _ ((S0.trans S4).trans (same_new nD _))⟩)⟩
 ·obtain⟨z1,z2⟩:=z
  rw[List.take_of_length_le (Nat.le_refl _),List.take_of_length_le (by rw[el]; exact Nat.le_refl _)] at z2
  have S4:=same_new nl (.lst zs)
  have S04:=(S03.trans z1).trans S4
  have gW4:upd H' l (.lst zs) W=some (.lst (tvs (w0::ws))):=S4 _ _ (z1 _ _ (S3 _ _ gW))
  have h0:atI (tvs (w0::ws)) 0=some (.str w0):=atI_nat (j:=0) rfl
  have M':=M.same S04
  have q4:=q l zs _ S04 upd_same (z2.same S4)
  refine⟨_,rfl,W,_,0,.str w0,rfl,rfl,SqL.of gW4,h0,mr,_,rfl,.inr (k_MR _),rfl,flat_tvs _,decide (w0="text"),congrArg V.bl kn.mill,?_⟩
  rcases q4 with ⟨e,qm⟩ | ⟨e,d',sp,dd,q5⟩
  ·rw[decide_eq_true e]
   refine⟨_,rfl,a,C,dx,_,_,rfl,M'.ia,DC.c,DC.m,rfl,rfl,true,rfl,?_⟩
   exact⟨line4 (by show 1≤1000000; decide),qm⟩
  ·rw[decide_eq_false e]
   refine⟨_,rfl,W,_,0,.str w0,rfl,rfl,SqL.of gW4,h0,.inr w0,_,rfl,rfl,dd.at',?_⟩
   refine⟨d'.f,rfl,CX0,4,d'.fd,["desk","things"],sp,_,dd.ok,hr.mono (by decide),dd.kp,dd.b,pass0,_,rfl,_,rfl,?_⟩
   exact q5
end
end K3
end
section
set_option maxRecDepth 100000
set_option maxHeartbeats 4000000
namespace K3
open PySem PySem.Spec PyProof.Rows L2
section
variable {P:Program}{w:World}{K:PySem.W.Frag}{mg:Str→Option Value}{base:Heap}
theorem joined_NoName:Txt.join "" (pk kNames [false,false,false,true,false,false,false,false,false,false,false,true])="NoName+":=by decide +kernel
theorem joined_NoMill:Txt.join "" (pk kNames [false,false,false,false,false,false,false,false,false,false,true,true])="NoMill+":=by decide +kernel
def spSaid (P:Program) (w:World) (K:PySem.W.Frag) (mg:Str→Option Value) (base:Heap) (dk:List (Key×V)) (C:Addr):Sp:=fun vs H Q _=>∃a dx nd kvs row w0 f ks ws,vs=[.ref a,.str row]∧DeskAt K C H a dx nd kvs∧row.length≤20000 ∧
 Txt.split row " "=w0::ws∧Knd w0 f ks∧ws.length=ks.length∧(∀x∈ws,x≠"")∧(∀(i:Nat) (k x:Str),ks[i]?=some k→ws[i]?=some x→Can kvs k x) ∧
 ((∃(i:Nat) (x:Str),ks[i]?=some "name"∧ws[i]?=some x∧valV kvs (.inr x)=none)→∀l H',Same H H'→H' l=some (.tup [.non,.str "NoName+"])→Q (.ref l) H') ∧
 ∀l zs H',Same H H'→H' l=some (.lst zs)→Gots kvs H' ks ws zs→(w0="text"∧∀l2 H2,Same H' H2→H2 l2=some (.tup [.non,.str "NoMill+"])→Q (.ref l2) H2) ∨
  (w0≠"text"∧∃d sp,Deed P w K mg base dk w0 d sp∧∀Q2:VK,(∀v H2,(∀l2,H2 l2=none→Q (.ref l2) (upd H2 l2 (.tup [v,.str ""])))→Q2 v H2)→sp [.ref a,.ref l] H' Q2 E0)
theorem sc_sd:FnScope ["desk","row","found","kind","e"] ["desk","row"] (defScope (top 168)):=⟨rfl,rfl,rfl,by decide +kernel,rfl,by decide +kernel,by decide +kernel⟩
theorem ok_sd {C qe CN CM:Addr}{cl:List Addr}{dk':List (Key×V)}{dr dk d:DD} (DC:DCls K C) (m_QuadError:mg "QuadError"=some (.ref qe)) (k_QuadError:PySem.W.excIn K qe bmVE "ValueError.__new__"=true) (E1:Err1 K cl qe CN 3) (E2:Err1 K cl qe CM 10) (D_say:MDef K C "say" "Desk.say" (meth 1) ["self","row"] dr) (G_say:FnOk P w K mg base (CXe P w) 6 dr.f dr.fd ["self","row"] (spSay P w K mg base dk' C CN CM)) (D_kind:Def K mg "_law_kind" (top 167) ["e"] dk) (G_kind:FnX P w K mg base 1 dk.f dk.fd ["e"] (spKind K cl)) (D:Def K mg "_law_said" (top 168) ["desk","row"] d):FnOk P w K mg base CX0 7 d.f d.fd ["desk","row"] (spSaid P w K mg base dk' C):=by
 refine D.fn.ok sc_sd (fun vs H Q E h=>?_) (fun cdv A outer s H vs Q E hr h=>?_)
 ·obtain⟨a,dx,dn,kvs,row,w0,f,ks,ws,rfl,_⟩:=h
  rfl
 obtain⟨a,dx,dn,kvs,row,w0,f,ks,ws,rfl,M,rl,esp,kn,el,hne,can,qE,q⟩:=h
 have hc:=hr.calm
 have nd:=sc_sd.nd
 refine⟨_,(@pss_cons _ _ _ _ _ (@ps_set _ _ (2) _ _ _ _ nd rfl (Or.inl rfl) (@pe_non _ _ _) (by rfl) (by first | exact .inl rfl | exact .inr rfl | assumption)) (@pss_cons _ _ _ _ _ (@ps_set _ _ (3) _ _ _ _ nd rfl (Or.inl rfl) (@pe_str _ _ _ _) (by rfl) (by first | exact .inl rfl | exact .inr rfl | assumption)) (@pss_cons _ _ _ _ _ (@ps_try _ (4) _ _ _ _ _ _ _ _ _ _ _ rfl rfl nd rfl rfl rfl m_QuadError k_QuadError (fun _ _=>(@pss_one _ _ _ (@ps_set _ _ (2) _ _ _ _ nd rfl (Or.inl rfl) (@pe_methX _ _ _ _ _ _ _ _ _ _ _ _ _ _ _ _ _ (pv 0) DC.c D_say.m (G_say.mono (by decide)) hr D_say.b xok_try (@pa_cons _ _ _ _ _ (pv 1) (@pa_nil _) st_n) (by rfl) (by rfl) (by rfl)) (by rfl) (by first | exact .inl rfl | exact .inr rfl | assumption)))) (fun _=>(@pss_one _ _ _ (@ps_set _ _ (3) _ _ _ _ nd rfl (Or.inl rfl) (@pe_callH _ _ _ _ _ _ _ _ _ _ _ _ _ G_kind (Room.hand (hr.mono (by decide)) _) rfl D_kind.m D_kind.fn.kp D_kind.b (@pa_cons _ _ _ _ _ (pv 4) (@pa_nil _) st_n) (by decide) (by rfl) (by rfl)) (by rfl) (by first | exact .inl rfl | exact .inr rfl | assumption)))) (by decide)) (@pss_one _ _ _ (@ps_ret _ _ _ _ (@pe_tup _ _ _ _ _ (@pa_cons _ _ _ _ _ (pv 2) (@pa_cons _ _ _ _ _ (pv 3) (@pa_nil _) st_n) st_n))))))),?_⟩
 refine⟨fun cls σ' H'=>((cls=.ref CN∧∃(i:Nat) (x:Str),ks[i]?=some "name"∧ws[i]?=some x∧valV kvs (.inr x)=none)∨(cls=.ref CM∧∀l2 H2,Same H' H2→H2 l2=some (.tup [.non,.str "NoMill+"])→Q (.ref l2) H2))∧σ'=[some (.ref a),some (.str row),some .non,some (.str ""),none]∧Same H H',?_,?_⟩
 ·refine⟨_,rfl,a,dx,_,rfl,M.ia,rfl,_,rfl,a,dx,dn,kvs,row,w0,f,ks,ws,rfl,M,rl,esp,kn,el,hne,can,fun hx H1 S1=>⟨.inl ⟨rfl,hx⟩,rfl,S1⟩,fun l zs H1 S1 gl gs=>?_⟩
  rcases q l zs H1 S1 gl gs with ⟨e,qm⟩ | ⟨e,d',sp,dd,q5⟩
  ·exact .inl ⟨e,.inr ⟨rfl,qm⟩,rfl,S1⟩
  ·exact .inr ⟨e,d',sp,dd,q5 _ fun v H2 hq=>⟨_,rfl,_,rfl,line4 (by show 2≤1000000; decide),fun l2 nl2=>hq l2 nl2⟩⟩
 ·rintro cls σ' H' x ⟨hcls,rfl,S⟩ hx
  rcases hcls with ⟨rfl,hp⟩ | ⟨rfl,qm⟩
  ·refine⟨CN,rfl,E1.kx,E1.sub,?_⟩
   refine⟨_,rfl,_,false,false,false,true,false,false,false,false,false,false,false,true,rfl,upd_same,E1.ex,E1.o0,E1.o1,E1.o2,E1.o3,E1.o4,E1.o5,E1.o6,E1.o7,E1.o8,E1.o9,E1.o10,E1.o11,fun H2 S2=>?_⟩
   rw[joined_NoName]
   refine⟨_,rfl,_,rfl,line4 (by show 2≤1000000; decide),fun l hl=>?_⟩
   exact qE hp l _ (S.trans ((same_new hx _).trans (S2.trans (same_new hl _)))) upd_same
  ·refine⟨CM,rfl,E2.kx,E2.sub,?_⟩
   refine⟨_,rfl,_,false,false,false,false,false,false,false,false,false,false,true,true,rfl,upd_same,E2.ex,E2.o0,E2.o1,E2.o2,E2.o3,E2.o4,E2.o5,E2.o6,E2.o7,E2.o8,E2.o9,E2.o10,E2.o11,fun H2 S2=>?_⟩
   rw[joined_NoMill]
   refine⟨_,rfl,_,rfl,line4 (by show 2≤1000000; decide),fun l hl=>?_⟩
   exact qm l _ ((same_new hx _).trans (S2.trans (same_new hl _))) upd_same
end
end K3
end
section
set_option maxRecDepth 100000
set_option maxHeartbeats 4000000
namespace K3
open PySem PySem.Spec PyProof.Rows L2
section
variable {P:Program}{w:World}{K:PySem.W.Frag}{mg:Str→Option Value}{base:Heap}
def rStrI:List V→Hp→VK→Prop:=fun xs H Q=>∃i,xs=[.int i]∧i.natAbs.log2 < 1920∧Q (.str (toString i)) H
theorem call_strI {X:Cx}:CallR X (.type "str") rStrI:=call_str_int
theorem sc_sh:FnScope ["table"] ["table"] (defScope (top 169)):=⟨rfl,rfl,rfl,by decide +kernel,rfl,by decide +kernel,by decide +kernel⟩
theorem ok_sh {d:DD} (D:Def K mg "_law_shown" (top 169) ["table"] d) (b_str:mg "str"=none):FnOk P w K mg base CX0 3 d.f d.fd ["table"] (spTt K):=by
 refine D.fn.ok sc_sh (fun vs H Q E h=>?_) (fun cdv A outer s H vs Q E hr h=>?_)
 ·obtain⟨a,is,rfl,_⟩:=h
  rfl
 obtain⟨a,is,rfl,ha,hl,hi,q⟩:=h
 have hc:=hr.calm
 have nd:=sc_sh.nd
 refine⟨_,(@pss_one _ _ _ (@ps_ret _ _ _ _ (@pe_bm _ _ _ _ _ _ _ _ _ _ _ _ PySem.F.plainAttrs_str PySem.F.slot_str_join PySem.F.type_str_join mt_join (@pe_str _ _ _ _) (@pa_cons _ _ _ _ _ (@pe_comp _ _ _ _ _ _ _ _ _ _ _ _ _ _ hc (compScope_of (ts:=["number"]) (cap:=[]) (js:=[]) rfl rfl rfl rfl rfl rfl (by decide +kernel)) (@pi_tup _ _ _ _ (pv 0)) (fun _ _ _ _=>@pg_name _ _ (0) _ (show (["number"]:List Str).Nodup by decide +kernel) rfl (Or.inl rfl) (.inr rfl)) (fun _ _ _ _=>@pts_nil _) (fun _ _ _ _=>(@pe_callTy _ _ _ _ _ _ _ _ _ (show CallR _ _ rStrI from call_strI) rfl b_str bt_str (@pa_cons _ _ _ _ _ (pv 0) (@pa_nil _) st_n) (by decide) (by decide) (by rfl) (by rfl))) (by intro _; rfl)) (@pa_nil _) (by rfl)) (by rfl) (by rfl) (by rfl) (by rfl) (by rfl)))),?_⟩
 refine⟨rfl,_,rfl,a,rfl,⟨_,SqT.of ha⟩,?_⟩
 refine compT (K:=K) (a:=a) (xs:=is.map V.int) (fun n ys H'=>Same H H'∧ys=(is.take n).map fun i=>V.str (txt (shown i))) ⟨Same.refl _,rfl⟩ (fun n ys H' hk z=>by rw[z.2,List.length_map,List.length_take]; omega) (line4 (by rw[List.length_map,hl]; decide)) (fun n ys H' hk z=>SqT.of (z.1 _ _ ha)) (fun n v ys H' hv z=>?_) (fun ys H' z l hl'=>?_)
 ·obtain⟨z1,rfl⟩:=z
  rw[List.getElem?_map] at hv
  obtain⟨i,hi',rfl⟩:=Option.map_eq_some_iff.mp hv
  have hn:n < is.length:=(List.getElem?_eq_some_iff.mp hi').1
  have lg:i.natAbs.log2 < 1920:=log2_of (n:=i.natAbs) (hi i (List.mem_of_getElem? hi'))
  refine⟨_,rfl,i,rfl,lg,Nx.mk (by rw[List.length_map]; exact hn) ⟨z1,?_⟩⟩
  rw[List.take_add_one,hi',List.map_append,str_int]; rfl
 ·obtain⟨z1,rfl⟩:=z
  rw[List.length_map,List.take_length] at *
  have sz:=sum_len is hi
  have e2:(is.map fun i=>V.str (txt (shown i)))=(is.map fun i=>txt (shown i)).map V.str:=by rw[List.map_map]; rfl
  refine⟨",",l,is.map fun i=>txt (shown i),rfl,rfl,(by rw[← e2]; exact SqL.of upd_same),?_,q _ (z1.trans (same_new hl' _))⟩
  rw[List.length_map,hl] at *
  have:(("," : Str).length)=1:=rfl
  rw[this]; omega
end
end K3
end
section
set_option maxRecDepth 100000
set_option maxHeartbeats 4000000
namespace K3
open PySem PySem.Spec PyProof.Rows L2
section
variable {P:Program}{w:World}{K:PySem.W.Frag}{mg:Str→Option Value}{base:Heap}
theorem ok_as {x:Str} (h:As x):PyData.strOk x=true:=by
 unfold PyData.strOk
 rw[← Array.all_toList,List.all_eq_true]
 intro c hc
 exact decide_eq_true (Nat.lt_trans (h c hc) (by decide))
theorem eqv_nil:∀xs:List Str,PyData.eqv (.list (xs.map PyData.str)) (.list [])=xs.isEmpty
 | []=>rfl
 | _::_=>rfl
theorem lay_strs:∀xs:List Str,(∀x∈xs,PyData.strOk x=true)→PyData.canLayAll0 (xs.map PyData.str)=true
 | [],_=>rfl
 | x::r,h=>by
  show (PyData.strOk x && PyData.canLayAll0 (r.map PyData.str))=true
  rw[h x List.mem_cons_self,lay_strs r fun y hy=>h y (List.mem_cons_of_mem _ hy)]; rfl
theorem depth_strs:∀xs:List Str,PyData.depthAll (xs.map PyData.str)=0
 | []=>rfl
 | x::r=>by
  show max 0 (PyData.depthAll (r.map PyData.str))=0
  rw[depth_strs r]; rfl
theorem depth_strs' (xs:List Str):(PyData.list (xs.map PyData.str)).depth≤60:=by
 have e:(PyData.list (xs.map PyData.str)).depth=PyData.depthAll (xs.map PyData.str)+1:=by simp [PyData.depth]
 rw[e,depth_strs]; decide
theorem dr_over {p L:Addr}{H H':Hp}{o:HO} (d:Dr p H H') (n:H L=none) (ne:p≠L):Dr p H (upd H' L o):=by
 refine⟨fun q u e=>?_,?_⟩
 ·unfold hid at e ⊢
  split at e
  ·cases e
  rename_i nq
  have e2:=d.same q u (by unfold hid; rw[if_neg nq]; exact e)
  unfold hid at e2
  rw[if_neg nq] at e2 ⊢
  rw[upd_ne (fun z=>by subst z; rw[n] at e; cases e)]
  exact e2
 ·obtain⟨a,b,c,e,r⟩:=d.ds
  exact⟨a,b,c,by rw[upd_ne ne]; exact e,r⟩
theorem dr_get {p q:Addr}{H H':Hp}{o:HO} (d:Dr p H H') (ne:q≠p) (e:H q=some o):H' q=some o:=by
 have:=d.same q o (by rw[hid_ne ne]; exact e)
 rw[hid_ne ne] at this
 exact this
theorem low_at {r:Int} (h0:0≤r) (h1:r < 26):∃c,atI ("abcdefghijklmnopqrstuvwxyz" : Str).cps.toList r=some c∧lo c=true:=by
 obtain⟨j,rfl⟩ : ∃j:Nat,r=(j:Int):=⟨r.toNat,by lia⟩
 have hj:j < 26:=by lia
 refine⟨97+j,atI_nat ?_,lo_iff.mpr (by lia)⟩
 rw[e_low,List.toList_toArray,List.getElem?_map,List.getElem?_range hj]; rfl
theorem low_len:("abcdefghijklmnopqrstuvwxyz" : Str).length=26:=by decide +kernel
theorem Nm.as {n:List Nat} (h:Nm n):As (txt n):=fun c hc=>by
 have:=lo_iff.mp (List.all_eq_true.mp h.lo c hc)
 lia
theorem inV_txt {n:List Nat}:∀{ns:List (List Nat)},inV (.str (txt n)) (tvs (ns.map txt))=decide (n∈ns)
 | []=>by simp [inV,tvs]
 | y::r=>by
  show (txt y == txt n || (tvs (r.map txt)).any fun y=>eqV y (.str (txt n)))=_
  have ih:((tvs (r.map txt)).any fun y=>eqV y (.str (txt n)))=decide (n∈r):=inV_txt (ns:=r)
  rw[ih,Bool.eq_iff_iff,Bool.or_eq_true,decide_eq_true_iff,decide_eq_true_iff,List.mem_cons,beq_iff_eq]
  refine or_congr ⟨fun h=>?_,fun h=>by rw[h]⟩ Iff.rfl
  exact (congrArg (fun z:Str=>z.cps.toList) h).symm
def spNm:Sp:=fun vs H Q _=>∃p,vs=[.ref p]∧Ds H p∧∀l (ns:List (List Nat)) H',Dr p H H'→H l=none→H' l=some (.lst (tvs (ns.map txt)))→ns.Nodup→1≤ns.length→ns.length≤40→(∀n∈ns,Nm n)→Q (.ref l) H'
theorem sc_nm:FnScope ["draws","letters","names","k","name"] ["draws"] (defScope (top 173)):=⟨rfl,rfl,rfl,by decide +kernel,rfl,by decide +kernel,by decide +kernel⟩
theorem ok_nm {dd d:DD} (D_draw:Def K mg "_law_draw" (top 166) ["draws","many"] dd) (G_draw:FnOk P w K mg base CX0 1 dd.f dd.fd ["draws","many"] spDraw) (D:Def K mg "_law_names" (top 173) ["draws"] d) (b_len:mg "len"=none) (b_range:mg "range"=none):FnOk P w K mg base CX0 2 d.f d.fd ["draws"] spNm:=by
 refine D.fn.ok sc_nm (fun vs H Q E h=>?_) (fun cdv A outer s H vs Q E hr h=>?_)
 ·obtain⟨p,rfl,_⟩:=h
  rfl
 obtain⟨p,rfl,ds,q⟩:=h
 have hc:=hr.calm
 have nd:=sc_nm.nd
 refine⟨_,(@pss_cons _ _ _ _ _ (@ps_set _ _ (1) _ _ _ _ nd rfl (Or.inr rfl) (@pe_str _ _ _ _) (by rfl) (by first | exact .inl rfl | exact .inr rfl | assumption)) (@pss_cons _ _ _ _ _ (@ps_set _ _ (2) _ _ _ _ nd rfl (Or.inl rfl) (@pe_lst _ _ _ _ (@pa_nil _)) (by rfl) (by first | exact .inl rfl | exact .inr rfl | assumption)) (@pss_cons _ _ _ _ _ (@ps_for _ _ _ _ _ _ _ _ PassesOwn.never hc (@pi_range1 _ _ _ _ _ _ rfl b_range (@pa_cons _ _ _ _ _ (@pe_ix _ _ _ _ _ _ _ ix_list (@pe_lst _ _ _ _ (@pa_cons _ _ _ _ _ (@pe_op _ _ _ _ _ _ _ _ op_add (@pe_int _ _ _ _) (@pe_call _ _ _ _ _ _ _ _ _ _ _ _ _ _ _ _ (G_draw.mono (by decide)) hr rfl D_draw.m D_draw.fn.kp D_draw.b .nil pass0 (@pa_cons _ _ _ _ _ (pv 0) (@pa_cons _ _ _ _ _ (@pe_int _ _ _ _) (@pa_nil _) st_c) st_n) (by decide) (by rfl) (by rfl))) (@pa_cons _ _ _ _ _ (@pe_op _ _ _ _ _ _ _ _ op_add (@pe_int _ _ _ _) (@pe_call _ _ _ _ _ _ _ _ _ _ _ _ _ _ _ _ (G_draw.mono (by decide)) hr rfl D_draw.m D_draw.fn.kp D_draw.b .nil pass0 (@pa_cons _ _ _ _ _ (pv 0) (@pa_cons _ _ _ _ _ (@pe_int _ _ _ _) (@pa_nil _) st_c) st_n) (by decide) (by rfl) (by rfl))) (@pa_cons _ _ _ _ _ (@pe_int _ _ _ _) (@pa_nil _) st_c) (by rfl)) (by rfl))) (@pe_call _ _ _ _ _ _ _ _ _ _ _ _ _ _ _ _ (G_draw.mono (by decide)) hr rfl D_draw.m D_draw.fn.kp D_draw.b .nil pass0 (@pa_cons _ _ _ _ _ (pv 0) (@pa_cons _ _ _ _ _ (@pe_int _ _ _ _) (@pa_nil _) st_c) st_n) (by decide) (by rfl) (by rfl)) (fun _ _=>rfl)) (@pa_nil _) (by rfl)) (by rfl)) (@pg_name _ _ (3) _ nd rfl (Or.inl rfl) (by first | exact .inl rfl | exact .inr rfl | assumption)) (@pss_cons _ _ _ _ _ (@ps_set _ _ (4) _ _ _ _ nd rfl (Or.inl rfl) (@pe_bm _ _ _ _ _ _ _ _ _ _ _ _ PySem.F.plainAttrs_str PySem.F.slot_str_join PySem.F.type_str_join mt_join (@pe_str _ _ _ _) (@pa_cons _ _ _ _ _ (@pe_comp _ _ _ _ _ _ _ _ _ _ _ _ _ _ hc (compScope_of (ts:=["j"]) (cap:=["draws","letters"]) (js:=[0,1]) rfl rfl rfl rfl rfl rfl (by decide +kernel)) (@pi_range1 _ _ _ _ _ _ rfl b_range (@pa_cons _ _ _ _ _ (@pe_op _ _ _ _ _ _ _ _ op_add (@pe_int _ _ _ _) (@pe_call _ _ _ _ _ _ _ _ _ _ _ _ _ _ _ _ (G_draw.mono (by decide)) hr rfl D_draw.m D_draw.fn.kp D_draw.b .nil pass0 (@pa_cons _ _ _ _ _ (pv 0) (@pa_cons _ _ _ _ _ (@pe_int _ _ _ _) (@pa_nil _) st_c) st_n) (by decide) (by rfl) (by rfl))) (@pa_nil _) (by rfl)) (by rfl)) (fun _ _ _ _=>@pg_name _ _ (0) _ (show (["j","draws","letters"]:List Str).Nodup by decide +kernel) rfl (Or.inl rfl) (.inr rfl)) (fun _ _ _ _=>@pts_nil _) (fun _ _ _ _=>(@pe_ix _ _ _ _ _ _ _ ix_str (pv 2) (@pe_call _ _ _ _ _ _ _ _ _ _ _ _ _ _ _ _ (G_draw.mono (by decide)) hr rfl D_draw.m D_draw.fn.kp D_draw.b .nil pass0 (@pa_cons _ _ _ _ _ (pv 1) (@pa_cons _ _ _ _ _ (@pe_int _ _ _ _) (@pa_nil _) st_c) st_n) (by decide) (by rfl) (by rfl)) (fun _ _=>rfl))) (by intro _; rfl)) (@pa_nil _) (by rfl)) (by rfl) (by rfl) (by rfl) (by rfl) (by rfl)) (by rfl) (by first | exact .inl rfl | exact .inr rfl | assumption)) (@pss_cons _ _ _ _ _ (@ps_mid _ _ _ (@ps_if _ _ _ _ _ _ _ _ (@PW.pt _ _ _ (@pw_and _ _ _ _ _ _ _ (@pt_cmpR _ _ _ _ _ _ _ _ (op_neD hr.units) (pv 2) (@pe_lst _ _ _ _ (@pa_nil _)) (nomark _)) (@pw_and1 _ _ _ _ (@pt_cmpR _ _ _ _ _ _ _ _ op_eq (@pe_call _ _ _ _ _ _ _ _ _ _ _ _ _ _ _ _ (G_draw.mono (by decide)) hr rfl D_draw.m D_draw.fn.kp D_draw.b .nil pass0 (@pa_cons _ _ _ _ _ (pv 0) (@pa_cons _ _ _ _ _ (@pe_int _ _ _ _) (@pa_nil _) st_c) st_n) (by decide) (by rfl) (by rfl)) (@pe_int _ _ _ _) (nomark _))))) (@pss_one _ _ _ (@ps_set _ _ (4) _ _ _ _ nd rfl (Or.inl rfl) (@pe_slice _ _ _ _ _ _ _ _ _ _ sl_str (@pe_op _ _ _ _ _ _ _ _ op_add_str (@pe_ix _ _ _ _ _ _ _ ix_list (pv 2) (@pe_call _ _ _ _ _ _ _ _ _ _ _ _ _ _ _ _ (G_draw.mono (by decide)) hr rfl D_draw.m D_draw.fn.kp D_draw.b .nil pass0 (@pa_cons _ _ _ _ _ (pv 0) (@pa_cons _ _ _ _ _ (@pe_callB _ _ _ _ _ _ _ _ _ call_len_seq rfl b_len bt_len (@pa_cons _ _ _ _ _ (pv 2) (@pa_nil _) st_n) (by decide) (by decide) (by rfl) (by rfl)) (@pa_nil _) st_f) st_n) (by decide) (by rfl) (by rfl)) (fun _ _=>rfl)) (pv 4)) (@po_none _) (@po_some _ _ _ (@pe_int _ _ _ _))) (by rfl) (by first | exact .inl rfl | exact .inr rfl | assumption))) (@pss_nil _))) (@pss_one _ _ _ (@ps_if _ _ _ _ _ _ _ _ (@pt_cmpR _ _ _ _ _ _ _ _ op_notIn_seq (pv 4) (pv 2) rfl) (@pss_one _ _ _ (@ps_expr _ _ _ _ (@pe_bm _ _ _ _ _ _ _ _ _ _ _ _ PySem.F.plainAttrs_list PySem.F.slot_list_insert PySem.F.type_list_insert mt_insert (pv 2) (@pa_cons _ _ _ _ _ (@pe_call _ _ _ _ _ _ _ _ _ _ _ _ _ _ _ _ (G_draw.mono (by decide)) hr rfl D_draw.m D_draw.fn.kp D_draw.b .nil pass0 (@pa_cons _ _ _ _ _ (pv 0) (@pa_cons _ _ _ _ _ (@pe_op _ _ _ _ _ _ _ _ op_add (@pe_callB _ _ _ _ _ _ _ _ _ call_len_seq rfl b_len bt_len (@pa_cons _ _ _ _ _ (pv 2) (@pa_nil _) st_n) (by decide) (by decide) (by rfl) (by rfl)) (@pe_int _ _ _ _)) (@pa_nil _) (by rfl)) st_n) (by decide) (by rfl) (by rfl)) (@pa_cons _ _ _ _ _ (pv 4) (@pa_nil _) st_n) st_f) (by rfl) (by rfl) (by rfl) (by rfl) (by rfl)) (by rfl))) (@pss_nil _))))) (by intro _; rfl)) (@pss_one _ _ _ (@ps_ret _ _ _ _ (pv 2)))))),?_⟩
 refine⟨Nat.zero_le _,fun L nL=>?_⟩
 have pL:p≠L:=ds.ne nL
 have D0:=Dr.new ds nL (.lst [])
 have gL0:upd H L (.lst []) L=some (.lst (tvs (([]:List (List Nat)).map txt))):=upd_same
 generalize upd H L (.lst [])=H0 at D0 gL0 ⊢
 refine⟨_,rfl,p,5,rfl,D0.ds,by decide,by decide,fun r1 H1 a0 a1 d1=>⟨_,_,rfl,rfl,_,rfl,p,13,rfl,d1.ds,by decide,by decide,fun r2 H2 b0 b1 d2=>⟨_,_,rfl,rfl,?_⟩⟩⟩
 refine⟨line4 (by show 3≤1000000; decide),fun T nT=>?_⟩
 have D2:=D0.trans (d1.trans d2)
 have D3:=Dr.new D2.ds nT (.lst [.int (1+r1),.int (1+r2),.int 40])
 have pT:p≠T:=D2.ds.ne nT
 have gT:upd H2 T (.lst [.int (1+r1),.int (1+r2),.int 40]) T=some (.lst [.int (1+r1),.int (1+r2),.int 40]):=upd_same
 refine⟨_,rfl,p,3,rfl,D3.ds,by decide,by decide,fun r3 H3 c0 c1 d3=>?_⟩
 obtain⟨m,em,m1,m40⟩ : ∃m:Nat,atI [V.int (1+r1),.int (1+r2),.int 40] r3=some (.int (m:Int))∧1≤m∧m≤40:=by
  have:r3=0∨r3=1∨r3=2:=by lia
  rcases this with rfl | rfl | rfl
  ·exact⟨(1+r1).toNat,(by rw[show (((1+r1).toNat:Nat):Int)=1+r1 by lia]; rfl),by lia,by lia⟩
  ·exact⟨(1+r2).toNat,(by rw[show (((1+r2).toNat:Nat):Int)=1+r2 by lia]; rfl),by lia,by lia⟩
  ·exact⟨40,rfl,by decide,by decide⟩
 refine⟨T,_,r3,_,rfl,rfl,SqL.of (dr_get d3 (Ne.symm pT) gT),em,(m:Int),rfl,by lia,by lia,?_⟩
 have D4:=D2.trans (D3.trans d3)
 have gL4:H3 L=some (.lst (tvs (([]:List (List Nat)).map txt))):=dr_get ((d1.trans d2).trans (D3.trans d3)) (Ne.symm pL) gL0
 refine for_range (lo:=0) (n:=(m:Int).toNat) (fun i σ H'=>∃(ns:List (List Nat)) (v3 v4:Option V),σ=[some (.ref p),some (.str "abcdefghijklmnopqrstuvwxyz"),some (.ref L),v3,v4]∧H' L=some (.lst (tvs (ns.map txt)))∧Dr p H H'∧ns.Nodup∧ns.length≤i∧(0 < i→1≤ns.length)∧∀n∈ns,Nm n) ⟨[],none,none,rfl,gL4,D4,List.nodup_nil,Nat.le_refl _,fun z=>absurd z (by decide),fun n hn=>absurd hn (by simp)⟩ (fun i σ H' hi z=>?_) (fun σ H' z=>?_)
 ·obtain⟨ns,v3,v4,rfl,gL,D5,nu,ln,l1,hN⟩:=z
  have hi':i < 40:=by lia
  refine⟨rfl,_,rfl,p,8,rfl,D5.ds,by decide,by decide,fun r H6 a0 a1 d6=>⟨_,_,rfl,rfl,1+r,rfl,by lia,by lia,?_⟩⟩
  have D6:=D5.trans d6
  have gL6:=dr_get d6 (Ne.symm pL) gL
  refine compR (lo:=0) (n:=(1+r).toNat) (fun j ys H'=>Dr p H6 H'∧∃cs:List Nat,ys=(ones cs).map V.str∧cs.length=j∧cs.all lo=true) ⟨Dr.refl d6.ds,[],rfl,rfl,rfl⟩ (fun j ys H' hj z=>by obtain⟨_,cs,rfl,e,_⟩:=z; rw[List.length_map,List.length_map,e]; exact Nat.le_refl _) (line4 (by lia)) (fun j ys H' hj z=>?_) (fun ys H7 z l7 nl7=>?_)
  ·obtain⟨z1,cs,rfl,z2,z3⟩:=z
   refine⟨_,rfl,_,rfl,p,26,rfl,z1.ds,by decide,by decide,fun r' H2 c0 c1 dr2=>?_⟩
   obtain⟨c,ec,lc⟩:=low_at c0 c1
   refine⟨_,r',c,rfl,rfl,line4 (by rw[low_len]; decide),ec,Nx.mk hj ⟨z1.trans dr2,cs++[c],?_,by rw[List.length_append,z2]; rfl,?_⟩⟩
   ·simp [ones]
   ·rw[List.all_append,z3,List.all_cons,lc]; rfl
  obtain⟨z1,cs,rfl,z2,z3⟩:=z
  have cl:cs.length≤8∧1≤cs.length:=by rw[z2]; lia
  have D7:=D6.trans z1
  have gL7:=dr_get z1 (Ne.symm pL) gL6
  have S8:=same_new nl7 (.lst ((ones cs).map V.str))
  have D8:=D7.trans (Dr.new z1.ds nl7 (.lst ((ones cs).map V.str)))
  have gL8:=S8 _ _ gL7
  refine⟨"",l7,ones cs,rfl,rfl,SqL.of upd_same,?_,?_⟩
  ·rw[ones_sum]
   have:("" : Str).length=0:=rfl
   rw[this]; lia
  rw[join_ones]
  generalize upd H7 l7 (.lst ((ones cs).map V.str))=H8 at D8 gL8 ⊢
  have nm:Nm cs:=⟨cl.2,cl.1,z3⟩
  have lay:PyData.canLayAll0 ((ns.map txt).map PyData.str)=true:=lay_strs _ fun x hx=>by
   obtain⟨n,hn,rfl⟩:=List.mem_map.mp hx
   exact ok_as (hN n hn).as
  refine⟨fun σ' H9=>∃n',σ'=[some (.ref p),some (.str "abcdefghijklmnopqrstuvwxyz"),some (.ref L),some (.int (0+(i:Int))),some (.str (txt n'))]∧Nm n'∧H9 L=some (.lst (tvs (ns.map txt)))∧Dr p H H9,?_,?_⟩
  ·refine⟨_,rfl,Nat.zero_le _,fun l9 nl9=>?_⟩
   have S9:=same_new nl9 (.lst [])
   have D9:=D8.trans (Dr.new D8.ds nl9 (.lst []))
   have gL9:=S9 _ _ gL8
   refine⟨.list ((ns.map txt).map PyData.str),.list [],.lst (SqL.of gL9) (dat_tvs _),.lst (SqL.of upd_same) .nil,lay,rfl,depth_strs' _,!(ns.map txt).isEmpty,congrArg (fun b=>V.bl !b) (eqv_nil _),?_⟩
   generalize upd H8 l9 (.lst [])=H9 at D9 gL9 ⊢
   cases hE:(ns.map txt).isEmpty with
   | true=>exact⟨cs,rfl,nm,gL9,D9⟩
   | false =>
    have n1:1≤ns.length:=by
     cases ns with
     | nil=>cases hE
     | cons a b=>exact Nat.succ_le_succ (Nat.zero_le _)
    refine⟨_,rfl,p,2,rfl,D9.ds,by decide,by decide,fun r2 H10 x0 x1 d10=>⟨rfl,decide (V.int r2=V.int 0),rfl,?_⟩⟩
    have D10:=D9.trans d10
    have gL10:=dr_get d10 (Ne.symm pL) gL9
    cases hz:decide (V.int r2=V.int 0) with
    | false=>exact⟨cs,rfl,nm,gL10,D10⟩
    | true =>
     refine⟨_,rfl,_,rfl,_,rfl,L,_,rfl,.inl (SqL.of gL10),?_⟩
     refine⟨p,_,rfl,D10.ds,by rw[List.length_map,List.length_map]; lia,by rw[List.length_map,List.length_map]; lia,fun r3 H11 y0 y1 d11=>?_⟩
     rw[List.length_map,List.length_map] at y1
     have D11:=D10.trans d11
     have gL11:=dr_get d11 (Ne.symm pL) gL10
     obtain⟨j,rfl⟩ : ∃j:Nat,r3=(j:Int):=⟨r3.toNat,by lia⟩
     have hj:j < ns.length:=by lia
     have e1:(tvs (ns.map txt))[j]?=some (.str (txt ns[j])):=by rw[List.getElem?_map,List.getElem?_map,List.getElem?_eq_getElem hj]; rfl
     have nj:=hN ns[j] (List.getElem_mem hj)
     have l8:=nj.l8
     have m1:=nj.l1
     refine⟨L,_,_,_,rfl,rfl,SqL.of gL11,atI_nat e1,_,rfl,txt ns[j],txt cs,rfl,rfl,line4 (by show ns[j].length+cs.length≤1000000; lia),?_⟩
     have e8:Txt.slice (txt ns[j]++txt cs) none (some 8)=txt ((ns[j]++cs).take 8):=by rw[txt_app]; exact slice_take (ns[j]++cs) 8
     refine⟨_,rfl,_,rfl,line4 (by rw[app_len]; show ns[j].length+cs.length≤1000000; lia),?_⟩
     rw[e8]
     refine⟨_,rfl,⟨?_,?_,?_⟩,gL11,D11⟩
     ·rw[List.length_take,List.length_append]; lia
     ·rw[List.length_take]; lia
     ·refine List.all_eq_true.mpr fun c hc=>?_
      have:=List.mem_of_mem_take hc
      rcases List.mem_append.mp this with y | y
      ·exact List.all_eq_true.mp nj.lo c y
      ·exact List.all_eq_true.mp nm.lo c y
  ·rintro σ' H9 ⟨n',rfl,nm',gL9,D9⟩
   refine⟨_,rfl,_,rfl,L,_,rfl,.inl (SqL.of gL9),rfl,flat_tvs _,!decide (n'∈ns),congrArg (fun b=>V.bl !b) inV_txt,?_⟩
   by_cases hm:n'∈ns
   ·rw[decide_eq_true hm]
    exact⟨ns,_,_,rfl,gL9,D9,nu,Nat.le_succ_of_le ln,fun _=>List.length_pos_of_mem hm,hN⟩
   rw[decide_eq_false hm]
   refine⟨_,rfl,.inl ⟨rfl,_,SqL.of gL9⟩,_,rfl,_,rfl,L,_,rfl,.inl (SqL.of gL9),_,_,rfl,rfl,p,_,rfl,D9.ds,?_,?_,fun r H10 a0 a1 d10=>?_⟩
   ·rw[List.length_map,List.length_map]; lia
   ·rw[List.length_map,List.length_map]; lia
   rw[List.length_map,List.length_map] at a1
   obtain⟨j,rfl⟩ : ∃j:Nat,r=(j:Int):=⟨r.toNat,by lia⟩
   have D10:=D9.trans d10
   have gL10:=dr_get d10 (Ne.symm pL) gL9
   have ev:(tvs (ns.map txt)).take j++.str (txt n')::(tvs (ns.map txt)).drop j=tvs ((ns.take j++n'::ns.drop j).map txt):=by
    simp [tvs,List.map_take,List.map_drop]
   refine⟨_,rfl,L,_,.str (txt n'),j,rfl,rfl,gL10,?_,?_,?_⟩
   ·rw[List.length_map,List.length_map]; exact Nat.lt_of_lt_of_le (show ns.length < 1000000 by lia) (line4 (Nat.le_refl _))
   ·rw[List.length_map,List.length_map]; lia
   rw[ev]
   have pm:(ns.take j++n'::ns.drop j).Perm (n'::ns):=by
    have:=List.perm_middle (a:=n') (l₁:=ns.take j) (l₂:=ns.drop j)
    rw[List.take_append_drop] at this
    exact this
   refine⟨_,_,_,rfl,upd_same,dr_over D10 nL pL,pm.nodup_iff.mpr (List.nodup_cons.mpr ⟨hm,nu⟩),?_,fun _=>?_,fun n hn=>?_⟩
   ·rw[pm.length_eq]; exact Nat.succ_le_succ ln
   ·rw[pm.length_eq]; exact Nat.succ_le_succ (Nat.zero_le _)
   ·rcases List.mem_cons.mp (pm.mem_iff.mp hn) with rfl | hn
    ·exact nm'
    ·exact hN n hn
 ·obtain⟨ns,v3,v4,rfl,gL,D5,nu,ln,l1,hN⟩:=z
  exact⟨_,rfl,q L ns H' D5 nL gL nu (l1 (by lia)) (by lia) hN⟩
end
end K3
end
section
set_option maxRecDepth 100000
set_option maxHeartbeats 4000000
namespace K3
open PySem PySem.Spec PyProof.Rows L2
def pos (c:Nat):List Nat→Nat→List Nat
 | [],_=>[]
 | x::l,k=>if x=c then k::pos c l (k+1) else pos c l (k+1)
def spl (c:Nat) (p:List Nat):List Nat→List (List Nat)
 | []=>[p]
 | x::l=>if x=c then p::spl c [] l else spl c (p++[x]) l
theorem sub_one (L:List Nat) (c i:Nat):Builtin.Str.subAt (txt L) ⟨#[c]⟩ i=decide (L[i]?=some c):=by
 unfold Builtin.Str.subAt
 have e:(txt L).cps.extract i (i+(⟨#[c]⟩ : Str).length)=((L.drop i).take 1).toArray:=by
  apply Array.ext'
  show (L.toArray.extract i (i+1)).toList=_
  rw[List.extract_toArray]
  simp [List.extract_eq_drop_take]
 rw[e,Bool.eq_iff_iff,beq_iff_eq,decide_eq_true_iff]
 rw[show (⟨#[c]⟩ : Str).cps=[c].toArray from rfl]
 constructor
 ·intro h
  have h2:=congrArg Array.toList h
  rw[List.toList_toArray,List.toList_toArray] at h2
  have:((L.drop i).take 1)[0]?=some c:=by rw[h2]; rfl
  rw[List.getElem?_take_of_lt (by decide),List.getElem?_drop,Nat.add_zero] at this
  exact this
 ·intro h
  congr 1
  obtain⟨hi,e⟩:=List.getElem?_eq_some_iff.mp h
  rw[List.drop_eq_getElem_cons hi,e]; rfl
theorem occ_pos (c:Nat) (L:List Nat):∀(l:List Nat) (k:Nat) (st:Array Nat×Nat),L.drop k=l→st.snd≤k→st.fst.size≤k→k≤L.length →
  (forIn (m:=Id) (List.range' k (l.length+1)) st (StrLaws.occBody (txt L) ⟨#[c]⟩ L.length (L.length+1))).run.fst.toList=st.fst.toList++pos c l k
 | [],k,st,hl,h1,h2,hk=>by
  rw[show List.range' k (([]:List Nat).length+1)=[k] from rfl,List.forIn_cons]
  have hk':L.length≤k:=by have:=congrArg List.length hl; rw[List.length_drop] at this; simp at this; lia
  unfold StrLaws.occBody
  rw[if_neg (fun z=>by have:=z.1.2; have e:(⟨#[c]⟩ : Str).length=1:=rfl; rw[e] at this; lia)]
  show st.fst.toList=st.fst.toList++[]
  rw[List.append_nil]
 | x::l,k,st,hl,h1,h2,hk=>by
  have hlt:k < L.length:=by
   have:=congrArg List.length hl; rw[List.length_drop,List.length_cons] at this; lia
  have hx:L[k]?=some x:=by
   have:(L.drop k)[0]?=some x:=by rw[hl]; rfl
   rw[List.getElem?_drop,Nat.add_zero] at this
   exact this
  have hl':L.drop (k+1)=l:=by
   have:=List.drop_eq_getElem_cons hlt
   rw[this] at hl
   injection hl
  rw[List.length_cons,List.range'_succ,List.forIn_cons]
  by_cases e:x=c
  ·have cond:((st.fst.size < L.length+1∧st.snd≤k)∧k+(⟨#[c]⟩ : Str).length≤L.length)∧Builtin.Str.subAt (txt L) ⟨#[c]⟩ k=true:=⟨⟨⟨by lia,h1⟩,hlt⟩,by rw[sub_one,hx,e]; exact decide_eq_true rfl⟩
   have b:StrLaws.occBody (txt L) ⟨#[c]⟩ L.length (L.length+1) k st=pure (ForInStep.yield (st.fst.push k,k+1)):=by
    unfold StrLaws.occBody
    rw[if_pos cond]; rfl
   rw[b]
   have:=occ_pos c L l (k+1) (st.fst.push k,k+1) hl' (Nat.le_refl _) (by rw[Array.size_push]; exact Nat.succ_le_succ h2) hlt
   show (forIn (m:=Id) (List.range' (k+1) (l.length+1)) (st.fst.push k,k+1) _).run.fst.toList=_
   rw[this]
   show (st.fst.push k).toList++_=_
   rw[Array.toList_push,List.append_assoc]
   show _++([k]++pos c l (k+1))=st.fst.toList++(if x=c then _ else _)
   rw[if_pos e]; rfl
  ·have b:StrLaws.occBody (txt L) ⟨#[c]⟩ L.length (L.length+1) k st=pure (ForInStep.yield (st.fst,st.snd)):=by
    unfold StrLaws.occBody
    rw[if_neg (fun z=>by
     have:=z.2
     rw[sub_one,hx,decide_eq_true_iff] at this
     injection this with this
     exact e this)]
   rw[b]
   have:=occ_pos c L l (k+1) (st.fst,st.snd) hl' (Nat.le_succ_of_le h1) (Nat.le_succ_of_le h2) hlt
   show (forIn (m:=Id) (List.range' (k+1) (l.length+1)) (st.fst,st.snd) _).run.fst.toList=_
   rw[this]
   show _=st.fst.toList++(if x=c then _ else _)
   rw[if_neg e]
theorem occ_one (c:Nat) (L:List Nat):Builtin.Str.occurrences (txt L) ⟨#[c]⟩ 0 L.length (L.length+1)=pos c L 0:=by
 rw[StrLaws.occ_eq]
 have:=occ_pos c L L 0 (#[],0) rfl (Nat.le_refl _) (Nat.le_refl _) (Nat.zero_le _)
 rw[Nat.sub_zero]
 exact this
theorem sub_txt (L:List Nat) (i j:Nat):Builtin.Str.strSub (txt L) i j=txt ((L.drop i).take (j - i)):=by
 apply str_ext
 show (L.toArray.extract i j).toList=_
 rw[List.extract_toArray]
 simp [List.extract_eq_drop_take,txt]
theorem parts_spl (c:Nat) (L:List Nat):∀(l:List Nat) (a k:Nat),L.drop k=l→a≤k→k≤L.length →
  ((a::(pos c l k).map (·+1)).zip (pos c l k++[L.length])).map (fun (p:Nat×Nat)=>Builtin.Str.strSub (txt L) p.1 p.2)=(spl c ((L.drop a).take (k - a)) l).map txt
 | [],a,k,hl,h1,h2=>by
  have hk:k=L.length:=by have:=congrArg List.length hl; rw[List.length_drop] at this; simp at this; lia
  show [Builtin.Str.strSub (txt L) a L.length]=[txt _]
  rw[sub_txt,hk]
 | x::l,a,k,hl,h1,h2=>by
  have hlt:k < L.length:=by
   have:=congrArg List.length hl; rw[List.length_drop,List.length_cons] at this; lia
  have hd:=List.drop_eq_getElem_cons hlt
  have hx:L[k]=x:=by rw[hd] at hl; injection hl
  have hl':L.drop (k+1)=l:=by rw[hd] at hl; injection hl
  by_cases e:x=c
  ·have ih:=parts_spl c L l (k+1) (k+1) hl' (Nat.le_refl _) hlt
   rw[Nat.sub_self,List.take_zero] at ih
   rw[show pos c (x::l) k=k::pos c l (k+1) from if_pos e,show ∀p,spl c p (x::l)=p::spl c [] l from fun p=>if_pos e]
   rw[List.map_cons,List.cons_append,List.zip_cons_cons,List.map_cons,ih,List.map_cons]
   show Builtin.Str.strSub (txt L) a k::_=_
   rw[sub_txt]
  ·have ih:=parts_spl c L l a (k+1) hl' (Nat.le_succ_of_le h1) hlt
   rw[show pos c (x::l) k=pos c l (k+1) from if_neg e,show ∀p,spl c p (x::l)=spl c (p++[x]) l from fun p=>if_neg e,ih]
   congr 2
   rw[show k+1 - a=(k - a)+1 by lia,List.take_add_one,List.getElem?_drop,show a+(k - a)=k by lia,List.getElem?_eq_getElem hlt,hx]; rfl
theorem kind_one (L:List Nat) (c:Nat) (hc:c < 128):decide (Builtin.Str.strKind (txt L) < Builtin.Str.strKind ⟨#[c]⟩)=false:=by
 have e:Builtin.Str.strKind ⟨#[c]⟩=1:=by
  unfold Builtin.Str.strKind
  rw[if_pos (by simp; lia)]
 rw[e]
 refine decide_eq_false ?_
 unfold Builtin.Str.strKind
 split
 ·decide
 ·split <;> decide
theorem split_one (c:Nat) (hc:c < 128) (L:List Nat):Txt.split (txt L) ⟨#[c]⟩=(spl c [] L).map txt:=by
 have hn:(txt L).length=L.length:=by show L.toArray.size=_; simp
 unfold Txt.split
 rw[kind_one L c hc,Bool.or_false,hn]
 have e1:(⟨#[c]⟩ : Str).length=1:=rfl
 rw[e1]
 cases L with
 | nil=>rfl
 | cons x l =>
  rw[if_neg (by rw[decide_eq_true_iff,List.length_cons]; lia),occ_one]
  have:=parts_spl c (x::l) (x::l) 0 0 rfl (Nat.le_refl _) (Nat.zero_le _)
  rw[Nat.sub_self,List.take_zero] at this
  split
  ·rename_i he
   rw[List.isEmpty_iff.mp he] at this
   rw[← this]
   show [txt (x::l)]=[Builtin.Str.strSub (txt (x::l)) 0 (x::l).length]
   rw[sub_txt,Nat.sub_zero,List.drop_zero,List.take_of_length_le (Nat.le_refl _)]
  ·rw[← this]
   unfold Builtin.Str.partsBetween
   rw[hn]
theorem spl_no {c:Nat}:∀{l p:List Nat},c ∉ l→spl c p l=[p++l]
 | [],p,_=>by show [p]=_; rw[List.append_nil]
 | x::l,p,h=>by
  rw[show spl c p (x::l)=spl c (p++[x]) l from if_neg fun e=>h (by rw[e]; exact List.mem_cons_self),spl_no fun z=>h (List.mem_cons_of_mem _ z),List.append_assoc]; rfl
theorem spl_app {c:Nat}:∀{l p r:List Nat},c ∉ l→spl c p (l++c::r)=(p++l)::spl c [] r
 | [],p,r,_=>by show (if c=c then _ else _)=_; rw[if_pos rfl,List.append_nil]
 | x::l,p,r,h=>by
  rw[List.cons_append,show spl c p (x::(l++c::r))=spl c (p++[x]) (l++c::r) from if_neg fun e=>h (by rw[e]; exact List.mem_cons_self),spl_app fun z=>h (List.mem_cons_of_mem _ z),List.append_assoc]; rfl
end K3
end
section
set_option maxRecDepth 100000
set_option maxHeartbeats 4000000
namespace K3
open PySem PySem.Spec PyProof.Rows L2
def okS (i:Int):Bool:=numB (shown i) && decide (numV (shown i)=i) && !(shown i).contains 44 && !(shown i).contains 32 && decide ((shown i).length≤3) && decide (1≤(shown i).length) && (shown i).all (· < 128)
theorem okS_all:((List.range 99).all fun k=>okS ((k:Int) - 49))=true:=by decide +kernel
theorem okS_of {i:Int} (h0 : -49≤i) (h1:i≤49):okS i=true:=by
 have:=List.all_eq_true.mp okS_all (i+49).toNat (List.mem_range.mpr (by lia))
 rw[show (((i+49).toNat:Nat):Int) - 49=i by lia] at this
 exact this
structure Sm (i:Int):Prop where
 nb:numB (shown i)=true
 nv:numV (shown i)=i
 c:44 ∉ shown i
 b:32 ∉ shown i
 l3:(shown i).length≤3
 l1:1≤(shown i).length
 as:∀c∈shown i,c < 128
theorem sm_of {i:Int} (h0 : -49≤i) (h1:i≤49):Sm i:=by
 have h:=okS_of h0 h1
 unfold okS at h
 simp only[Bool.and_eq_true,decide_eq_true_eq,Bool.not_eq_true',List.contains_eq_mem,decide_eq_false_iff_not,List.all_eq_true] at h
 obtain⟨⟨⟨⟨⟨⟨h1,h2⟩,h3⟩,h4⟩,h5⟩,h6⟩,h7⟩:=h
 exact⟨h1,h2,h3,h4,h5,h6,h7⟩
def tl4 (a b c d:Int):List Nat:=shown a++44::(shown b++44::(shown c++44::shown d))
theorem e_comma:("," : Str)=⟨#[44]⟩:=by decide +kernel
theorem e_blank:(" " : Str)=⟨#[32]⟩:=by decide +kernel
theorem tt_four (a b c d:Int):tt [a,b,c,d]=txt (tl4 a b c d):=by
 unfold tt tl4
 rw[e_comma]
 apply str_ext
 show ((([txt (shown b),txt (shown c),txt (shown d)]:List Str).foldl (fun acc p=>acc++(⟨#[44]⟩ : Str).cps++p.cps) (txt (shown a)).cps)).toList=_
 simp [txt]
theorem rd_four {a b c d:Int} (ha:Sm a) (hb:Sm b) (hc:Sm c) (hd:Sm d):rd (txt (tl4 a b c d))=some [a,b,c,d]:=by
 have e:Txt.split (txt (tl4 a b c d)) ","=[txt (shown a),txt (shown b),txt (shown c),txt (shown d)]:=by
  rw[e_comma,split_one 44 (by decide)]
  unfold tl4
  rw[spl_app ha.c,spl_app hb.c,spl_app hc.c,spl_no hd.c]
  rfl
 unfold rd
 have hB:([txt (shown a),txt (shown b),txt (shown c),txt (shown d)].all fun p=>numB p.cps.toList)=true:=by
  show (numB (shown a) && (numB (shown b) && (numB (shown c) && (numB (shown d) && true))))=true
  rw[ha.nb,hb.nb,hc.nb,hd.nb]; rfl
 rw[e,if_pos ⟨rfl,hB⟩]
 show some [numV (shown a),numV (shown b),numV (shown c),numV (shown d)]=_
 rw[ha.nv,hb.nv,hc.nv,hd.nv]
theorem tl4_no {a b c d:Int} (ha:Sm a) (hb:Sm b) (hc:Sm c) (hd:Sm d):32 ∉ tl4 a b c d:=fun h=>by
 unfold tl4 at h
 simp only[List.mem_append,List.mem_cons] at h
 rcases h with h | h | h | h | h | h | h
 ·exact ha.b h
 ·exact absurd h (by decide)
 ·exact hb.b h
 ·exact absurd h (by decide)
 ·exact hc.b h
 ·exact absurd h (by decide)
 ·exact hd.b h
theorem tl4_len {a b c d:Int} (ha:Sm a) (hb:Sm b) (hc:Sm c) (hd:Sm d):(tl4 a b c d).length≤15∧1≤(tl4 a b c d).length:=by
 unfold tl4
 simp only[List.length_append,List.length_cons]
 have:=ha.l3; have:=hb.l3; have:=hc.l3; have:=hd.l3
 constructor <;> lia
theorem tl4_as {a b c d:Int} (ha:Sm a) (hb:Sm b) (hc:Sm c) (hd:Sm d):As (txt (tl4 a b c d)):=fun x h=>by
 have h:x∈tl4 a b c d:=h
 unfold tl4 at h
 simp only[List.mem_append,List.mem_cons] at h
 rcases h with h | h | h | h | h | h | h
 ·exact ha.as x h
 ·lia
 ·exact hb.as x h
 ·lia
 ·exact hc.as x h
 ·lia
 ·exact hd.as x h
theorem Nm.no {n:List Nat} (h:Nm n):32 ∉ n:=fun z=>by
 have:=lo_iff.mp (List.all_eq_true.mp h.lo 32 z)
 lia
theorem row_one {w:List Nat} (hw:32 ∉ w):Txt.split (txt w) " "=[txt w]:=by
 rw[e_blank,split_one 32 (by decide),spl_no hw]; rfl
theorem row_two {w x:List Nat} (hw:32 ∉ w) (hx:32 ∉ x):Txt.split (txt (w++32::x)) " "=[txt w,txt x]:=by
 rw[e_blank,split_one 32 (by decide),spl_app hw,spl_no hx]; rfl
theorem row_three {w x y:List Nat} (hw:32 ∉ w) (hx:32 ∉ x) (hy:32 ∉ y):Txt.split (txt (w++32::(x++32::y))) " "=[txt w,txt x,txt y]:=by
 rw[e_blank,split_one 32 (by decide),spl_app hw,spl_app hx,spl_no hy]; rfl
end K3
end
section
set_option maxRecDepth 100000
set_option maxHeartbeats 4000000
namespace K3
open PySem PySem.Spec PyProof.Rows L2
theorem txt_inj' {x y:List Nat} (h:txt x=txt y):x=y:=congrArg (fun z:Str=>z.cps.toList) h
abbrev kn (n:List Nat):Key:=.inr (txt n)
theorem kn_iff {x y:List Nat}:kn x=kn y↔x=y:=⟨fun h=>by injection h with h; exact txt_inj' h,fun h=>by rw[h]⟩
inductive Rows (H:Hp):List (Key×V)→List (List Nat×Tb)→Prop
 | nil:Rows H [] []
 | cons {n:List Nat}{v:V}{t:Tb}{kvs:List (Key×V)}{es:List (List Nat×Tb)}:T4o H v t→Rows H kvs es→Rows H ((kn n,v)::kvs) ((n,t)::es)
def hasE (es:List (List Nat×Tb)) (n:List Nat):Bool:=es.any fun e=>decide (e.1=n)
def lookE (es:List (List Nat×Tb)) (n:List Nat):Option Tb:=(es.find? fun e=>decide (e.1=n)).map (·.2)
def putE (es:List (List Nat×Tb)) (n:List Nat) (t:Tb):List (List Nat×Tb):=if hasE es n=true then es.map (fun e=>if e.1=n then (e.1,t) else e) else es++[(n,t)]
def dropE (es:List (List Nat×Tb)) (n:List Nat):List (List Nat×Tb):=es.filter fun e=>decide (e.1≠n)
variable {H H':Hp}{kvs:List (Key×V)}{es:List (List Nat×Tb)}{n:List Nat}{v:V}{t:Tb}
theorem Rows.same (r:Rows H kvs es) (S:Same H H'):Rows H' kvs es:=by
 induction r with
 | nil=>exact .nil
 | cons a _ ih=>exact .cons (a.mono S) ih
theorem Rows.map' (r:Rows H kvs es) (S:∀a o,H a=some (.tup o)→H' a=some (.tup o)):Rows H' kvs es:=by
 induction r with
 | nil=>exact .nil
 | cons a _ ih =>
  obtain⟨p,rfl,g⟩:=a
  exact .cons ⟨p,rfl,S _ _ g⟩ ih
theorem Rows.len (r:Rows H kvs es):kvs.length=es.length:=by
 induction r with
 | nil=>rfl
 | cons _ _ ih=>rw[List.length_cons,List.length_cons,ih]
theorem Rows.keys (r:Rows H kvs es):kvs.map (·.1)=(es.map fun e=>txt e.1).map (fun z=>(Sum.inr z:Key)):=by
 induction r with
 | nil=>rfl
 | cons _ _ ih=>rw[List.map_cons,List.map_cons,List.map_cons,ih]
theorem Rows.any (r:Rows H kvs es):(kvs.any fun kv=>decide (kv.1=kn n))=hasE es n:=by
 unfold hasE
 induction r with
 | nil=>rfl
 | cons _ _ ih=>rw[List.any_cons,List.any_cons,ih]; congr 1; exact decide_eq_decide.mpr kn_iff
theorem Rows.look (r:Rows H kvs es):(∃v t,valV kvs (kn n)=some v∧lookE es n=some t∧T4o H v t)∨(valV kvs (kn n)=none∧lookE es n=none):=by
 induction r with
 | nil=>exact .inr ⟨rfl,rfl⟩
 | @cons m v t kvs es a r ih =>
  by_cases e:m=n
  ·subst e
   exact .inl ⟨v,t,valV_pos rfl,by unfold lookE; rw[List.find?_cons,decide_eq_true rfl]; rfl,a⟩
  ·have e2:lookE ((m,t)::es) n=lookE es n:=by unfold lookE; rw[List.find?_cons,decide_eq_false e]
   rw[valV_neg (fun z=>e (kn_iff.mp z)),e2]
   exact ih
theorem has_look (es:List (List Nat×Tb)) (n:List Nat):hasE es n=(lookE es n).isSome:=by
 unfold hasE lookE
 induction es with
 | nil=>rfl
 | cons a r ih =>
  rw[List.any_cons,List.find?_cons]
  cases decide (a.1=n) with
  | true=>rfl
  | false=>exact ih
theorem Rows.snoc (r:Rows H kvs es) (a:T4o H v t):Rows H (kvs++[(kn n,v)]) (es++[(n,t)]):=by
 induction r with
 | nil=>exact .cons a .nil
 | cons b _ ih=>exact .cons b ih
theorem Rows.setAll (r:Rows H kvs es) (a:T4o H v t):Rows H (kvs.map fun kv=>if kv.1=kn n then (kv.1,v) else kv) (es.map fun e=>if e.1=n then (e.1,t) else e):=by
 induction r with
 | nil=>exact .nil
 | @cons m _ _ _ _ b _ ih =>
  rw[List.map_cons,List.map_cons]
  by_cases e:m=n
  ·subst e
   show Rows H ((if kn m=kn m then _ else _)::_) ((if m=m then _ else _)::_)
   rw[if_pos rfl,if_pos rfl]
   exact .cons a ih
  ·show Rows H ((if kn m=kn n then _ else _)::_) ((if m=n then _ else _)::_)
   rw[if_neg (fun z=>e (kn_iff.mp z)),if_neg e]
   exact .cons b ih
theorem Rows.put (r:Rows H kvs es) (a:T4o H v t):Rows H (putK kvs (kn n) v) (putE es n t):=by
 unfold putK putE
 rw[r.any]
 split
 ·exact r.setAll a
 ·exact r.snoc a
theorem dropE_pos (m:List Nat) (t:Tb) (es:List (List Nat×Tb)):dropE ((m,t)::es) m=dropE es m:=by
 unfold dropE
 rw[List.filter_cons,if_neg]
 exact fun z=>of_decide_eq_true z rfl
theorem dropE_neg {m n:List Nat} (t:Tb) (es:List (List Nat×Tb)) (e:¬ m=n):dropE ((m,t)::es) n=(m,t)::dropE es n:=by
 unfold dropE
 rw[List.filter_cons,if_pos]
 exact decide_eq_true e
theorem Rows.drop (r:Rows H kvs es):Rows H (dropK kvs (kn n)) (dropE es n):=by
 induction r with
 | nil=>exact .nil
 | @cons m v t kvs es b _ ih =>
  by_cases e:m=n
  ·subst e
   rw[dropE_pos,show dropK ((kn m,v)::kvs) (kn m)=dropK kvs (kn m) from dropK_pos rfl]
   exact ih
  ·rw[dropE_neg _ _ e,dropK_neg (fun z=>e (kn_iff.mp z))]
   exact .cons b ih
theorem look_mem {es:List (List Nat×Tb)} (h:lookE es n=some t):(n,t)∈es:=by
 unfold lookE at h
 obtain⟨e,he,rfl⟩:=Option.map_eq_some_iff.mp h
 have:e.1=n:=by have:=List.find?_some he; exact of_decide_eq_true this
 have m:=List.mem_of_find?_eq_some he
 rw[← this]; exact m
theorem put_mem {e:List Nat×Tb} (h:e∈putE es n t):e=(n,t)∨e∈es:=by
 unfold putE at h
 split at h
 ·obtain⟨x,hx,rfl⟩:=List.mem_map.mp h
  by_cases z:x.1=n
  ·rw[if_pos z,z]; exact .inl rfl
  ·rw[if_neg z]; exact .inr hx
 ·rcases List.mem_append.mp h with h | h
  ·exact .inr h
  ·exact .inl (List.mem_singleton.mp h)
theorem put_len:(putE es n t).length≤es.length+1:=by
 unfold putE
 split
 ·rw[List.length_map]; exact Nat.le_succ _
 ·rw[List.length_append]; exact Nat.le_refl _
theorem put_look:lookE (putE es n t) n=some t:=by
 unfold putE
 cases h:hasE es n with
 | true =>
  rw[if_pos rfl]
  unfold hasE at h
  induction es with
  | nil=>cases h
  | cons a r ih =>
   unfold lookE at ih ⊢
   rw[List.map_cons,List.find?_cons]
   by_cases z:a.1=n
   ·rw[if_pos z,decide_eq_true z]; rfl
   ·rw[if_neg z,decide_eq_false z]
    rw[List.any_cons,decide_eq_false z,Bool.false_or] at h
    exact ih h
 | false =>
  rw[if_neg (by decide)]
  unfold hasE at h
  unfold lookE
  induction es with
  | nil=>show Option.map _ (List.find? _ [(n,t)])=_; rw[List.find?_cons,decide_eq_true rfl]; rfl
  | cons a r ih =>
   rw[List.any_cons,Bool.or_eq_false_iff] at h
   rw[List.cons_append,List.find?_cons,h.1]
   exact ih h.2
theorem drop_look:lookE (dropE es n) n=none:=by
 unfold lookE dropE
 rw[Option.map_eq_none_iff,List.find?_eq_none]
 intro e he
 have:=(List.mem_filter.mp he).2
 simpa using this
end K3
end
section
set_option maxRecDepth 100000
set_option maxHeartbeats 4000000
namespace K3
open PySem PySem.Spec PyProof.Rows L2
structure Dks (P:Program) (w:World) (K:PySem.W.Frag) (mg:Str→Option Value) (base:Heap) (dk:List (Key×V)) (C:Addr) (d1 d2 d3 d4 d5:DD):Prop where
 put:Deed P w K mg base dk "put" d1 (spPut K C)
 drop:Deed P w K mg base dk "drop" d2 (spDrop K C)
 names:Deed P w K mg base dk "names" d3 (spNames K C)
 show':Deed P w K mg base dk "show" d4 (spShow K)
 times:Deed P w K mg base dk "times" d5 (spTimes K)
def Good (es:List (List Nat×Tb)):Prop:=∀e∈es,Nm e.1∧∀i∈Tb.ns e.2,-49≤i∧i≤49
theorem small_lt {i:Int} (h : -49≤i∧i≤49):i.natAbs < 2 ^ 1000:=Nat.lt_of_lt_of_le (show i.natAbs < 2 ^ 6 by lia) (Nat.pow_le_pow_right (by decide) (by decide))
theorem snoc_inj {α : Type}{a b:List α}{x y : α} (h:a++[x]=b++[y]):a=b∧x=y:=by
 have:=List.append_inj' h rfl
 exact⟨this.1,by injection this.2⟩
theorem gots_nil {H:Hp}{kvs:List (Key×V)}{ks xs:List Str}{zs:List V} (h:Gots kvs H ks xs zs) (e:ks=[]):zs=[]:=List.length_eq_zero_iff.mp (by rw[h.len,e]; rfl)
theorem gots_last {H:Hp}{kvs:List (Key×V)}{ks0 xs0 ks xs:List Str}{k x:Str}{zs:List V} (h:Gots kvs H ks xs zs) (e1:ks=ks0++[k]) (e2:xs=xs0++[x]):∃zs0 v,zs=zs0++[v]∧Gots kvs H ks0 xs0 zs0∧Got kvs H k x v:=by
 cases h with
 | nil=>exact absurd (congrArg List.length e1) (by rw[List.length_append]; simp)
 | snoc a b =>
  obtain⟨rfl,rfl⟩:=snoc_inj e1
  obtain⟨rfl,rfl⟩:=snoc_inj e2
  exact⟨_,_,rfl,a,b⟩
theorem gots_one {H:Hp}{kvs:List (Key×V)}{k x:Str}{zs:List V} (h:Gots kvs H [k] [x] zs):∃v,zs=[v]∧Got kvs H k x v:=by
 obtain⟨zs0,v,rfl,g,b⟩:=gots_last (ks0:=[]) (xs0:=[]) h rfl rfl
 exact⟨v,by rw[gots_nil g rfl]; rfl,b⟩
theorem gots_two {H:Hp}{kvs:List (Key×V)}{k x k2 x2:Str}{zs:List V} (h:Gots kvs H [k,k2] [x,x2] zs):∃v v2,zs=[v,v2]∧Got kvs H k x v∧Got kvs H k2 x2 v2:=by
 obtain⟨zs0,v2,rfl,g,b⟩:=gots_last (ks0:=[k]) (xs0:=[x]) h rfl rfl
 obtain⟨v,rfl,g1⟩:=gots_one g
 exact⟨v,v2,rfl,g1,b⟩
theorem smb_put' {H:Hp}{G:Addr}{o:HO}:SmB G H (upd H G o):=fun b u n e=>by rw[upd_ne n]; exact e
abbrev wShow:List Nat:=[115,104,111,119]
theorem e_show:("show" : Str)=txt wShow:=by decide +kernel
theorem Nm.ne {n:List Nat} (h:Nm n):txt n≠"":=fun z=>by
 have e:(txt n).length=0:=by rw[z]; rfl
 have:(txt n).length=n.length:=by show n.toArray.size=_; simp
 have:=h.l1
 lia
variable {P:Program}{w:World}{K:PySem.W.Frag}{mg:Str→Option Value}{base:Heap}{dk:List (Key×V)}{C:Addr}{d1 d2 d3 d4 d5:DD}
theorem said_show (D:Dks P w K mg base dk C d1 d2 d3 d4 d5) {H:Hp}{a dx dn:Addr}{kvs:List (Key×V)}{es:List (List Nat×Tb)}{n:List Nat}{Q:VK}{E:XK} (M:DeskAt K C H a dx dn kvs) (r:Rows H kvs es) (g:Good es) (hn:Nm n)
  (q:∀t,lookE es n=some t→∀l H',Same H H'→H' l=some (.tup [.str (tt (Tb.ns t)),.str ""])→Q (.ref l) H') (qn:lookE es n=none→∀l H',Same H H'→H' l=some (.tup [.non,.str "NoName+"])→Q (.ref l) H') :
  spSaid P w K mg base dk C [.ref a,.str (txt (wShow++32::n))] H Q E:=by
 have h8:=hn.l8
 refine⟨a,dx,dn,kvs,_,"show",_,_,[txt n],rfl,M,?_,?_,.show,rfl,fun x hx=>?_,fun i k x hk hx=>?_,fun hx l H' S gl=>?_,fun l zs H' S gl gs=>.inr ⟨by decide +kernel,d4,_,D.show',fun Q2 hq=>?_⟩⟩
 ·show (wShow++32::n).toArray.size≤20000
  simp; lia
 ·rw[row_two (by decide) hn.no,e_show]
 ·rw[List.mem_singleton.mp hx]; exact hn.ne
 ·cases i with
  | zero=>cases hk; cases hx; exact .name hn
  | succ i=>cases hk
 ·obtain⟨i,x,hk,hx,hv⟩:=hx
  cases i with
  | succ i=>cases hk
  | zero =>
  cases hx
  rcases r.look (n:=n) with ⟨v,t,e,_⟩ | ⟨_,e⟩
  ·rw[show valV kvs (.inr (txt n))=some v from e] at hv; cases hv
  ·exact qn e l H' S gl
 ·obtain⟨v,rfl,gv⟩:=gots_one gs
  cases gv with
  | name hv =>
   rcases r.look (n:=n) with ⟨v',t,e,et,p,rfl,gp⟩ | ⟨e,_⟩
   ·rw[show valV kvs (.inr (txt n))=some _ from e] at hv
    cases hv
    have sm:=(g _ (look_mem et)).2
    exact⟨_,l,p,Tb.ns t,rfl,SqL.of gl,S _ _ gp,rfl,fun i hi=>small_lt (sm i hi),fun H2 S2=>hq _ _ fun l2 n2=>q t et l2 _ ((S.trans S2).trans (same_new n2 _)) upd_same⟩
   ·rw[show valV kvs (.inr (txt n))=none from e] at hv
    cases hv
abbrev wText:List Nat:=[116,101,120,116]
abbrev wNames:List Nat:=[110,97,109,101,115]
abbrev wDrop:List Nat:=[100,114,111,112]
theorem e_text:("text" : Str)=txt wText:=by decide +kernel
theorem e_names:("names" : Str)=txt wNames:=by decide +kernel
theorem e_drop:("drop" : Str)=txt wDrop:=by decide +kernel
theorem said_text {H:Hp}{a dx dn:Addr}{kvs:List (Key×V)}{Q:VK}{E:XK} (M:DeskAt K C H a dx dn kvs) (q:∀l H',Same H H'→H' l=some (.tup [.non,.str "NoMill+"])→Q (.ref l) H') :
  spSaid P w K mg base dk C [.ref a,.str "text"] H Q E:=by
 refine⟨a,dx,dn,kvs,_,"text",_,_,[],rfl,M,by decide +kernel,?_,.text,rfl,fun x hx=>absurd hx (by simp),fun i k x hk hx=>absurd hk (by simp),fun hx=>?_,fun l zs H' S gl gs=>.inl ⟨rfl,fun l2 H2 S2 g2=>q l2 H2 (S.trans S2) g2⟩⟩
 ·rw[e_text,row_one (by decide)]
 ·obtain⟨i,x,hk,_⟩:=hx
  cases hk
theorem said_names (D:Dks P w K mg base dk C d1 d2 d3 d4 d5) {H:Hp}{a dx dn:Addr}{kvs:List (Key×V)}{es:List (List Nat×Tb)}{Q:VK}{E:XK} (M:DeskAt K C H a dx dn kvs) (r:Rows H kvs es) (g:Good es) (hl:es.length≤1000)
  (q:∀zs l H',zs.Perm (es.map fun e=>txt e.1)→sortedS zs=true→Same H H'→H' l=some (.tup [.str (told zs),.str ""])→Q (.ref l) H') :
  spSaid P w K mg base dk C [.ref a,.str "names"] H Q E:=by
 refine⟨a,dx,dn,kvs,_,"names",_,_,[],rfl,M,by decide +kernel,?_,.names,rfl,fun x hx=>absurd hx (by simp),fun i k x hk hx=>absurd hk (by simp),fun hx=>?_,fun l zs H' S gl gs=>.inr ⟨by decide +kernel,d3,_,D.names,fun Q2 hq=>?_⟩⟩
 ·rw[e_names,row_one (by decide)]
 ·obtain⟨i,x,hk,_⟩:=hx
  cases hk
 ·refine⟨a,dx,dn,kvs,_,_,rfl,M.same S,r.keys,by rw[List.length_map]; exact hl,fun z hz=>?_,fun zs' H2 pm so S2=>hq _ _ fun l2 n2=>q zs' l2 _ pm so ((S.trans S2).trans (same_new n2 _)) upd_same⟩
  obtain⟨e,he,rfl⟩:=List.mem_map.mp hz
  have:=(g e he).1.l8
  show e.1.toArray.size≤8
  simpa using this
theorem said_drop (D:Dks P w K mg base dk C d1 d2 d3 d4 d5) {H:Hp}{a dx dn:Addr}{kvs:List (Key×V)}{es:List (List Nat×Tb)}{n:List Nat}{t:Tb}{Q:VK}{E:XK} (M:DeskAt K C H a dx dn kvs) (r:Rows H kvs es) (hn:Nm n) (hl:lookE es n=some t)
  (q:∀l H',SmB dn H H'→H' dn=some (.dK (dropK kvs (kn n)))→H' l=some (.tup [.str "ok",.str ""])→Q (.ref l) H') :
  spSaid P w K mg base dk C [.ref a,.str (txt (wDrop++32::n))] H Q E:=by
 have h8:=hn.l8
 obtain⟨v,hv⟩ : ∃v,valV kvs (.inr (txt n))=some v:=by
  rcases r.look (n:=n) with ⟨v,_,e,_⟩ | ⟨_,e⟩
  ·exact⟨v,e⟩
  ·rw[hl] at e; cases e
 refine⟨a,dx,dn,kvs,_,"drop",_,_,[txt n],rfl,M,?_,?_,.drop,rfl,fun x hx=>?_,fun i k x hk hx=>?_,fun hx=>?_,fun l zs H' S gl gs=>.inr ⟨by decide +kernel,d2,_,D.drop,fun Q2 hq=>?_⟩⟩
 ·show (wDrop++32::n).toArray.size≤20000
  simp; lia
 ·rw[row_two (by decide) hn.no,e_drop]
 ·rw[List.mem_singleton.mp hx]; exact hn.ne
 ·cases i with
  | zero=>cases hk; cases hx; exact .kept hn hv
  | succ i=>cases hk
 ·obtain⟨i,x,hk,hx,hz⟩:=hx
  cases i with
  | succ i=>cases hk
  | zero=>exact absurd hk (by decide +kernel)
 ·obtain⟨z,rfl,gz⟩:=gots_one gs
  cases gz with
  | kept _ =>
   refine⟨a,dx,dn,kvs,l,txt n,v,rfl,M.same S,SqL.of gl,hv,hq _ _ fun l2 n2=>q l2 _ (((SmB.of S).trans smb_put').trans (SmB.of (same_new n2 _))) ((same_new n2 _) _ _ upd_same) upd_same⟩
abbrev wPut:List Nat:=[112,117,116]
abbrev wTimes:List Nat:=[116,105,109,101,115]
theorem e_put:("put" : Str)=txt wPut:=by decide +kernel
theorem e_times:("times" : Str)=txt wTimes:=by decide +kernel
theorem said_put (D:Dks P w K mg base dk C d1 d2 d3 d4 d5) {H:Hp}{a dx dn:Addr}{kvs:List (Key×V)}{n:List Nat}{t:Tb}{Q:VK}{E:XK} (M:DeskAt K C H a dx dn kvs) (hn:Nm n) (hk:kvs.length < 1000) (sa:Sm t.a) (sb:Sm t.b) (sc:Sm t.c) (sd:Sm t.d)
  (q:∀p l H',SmB dn H H'→H' p=some (.tup t.vs)→H' dn=some (.dK (putK kvs (kn n) (.ref p)))→H' l=some (.tup [.str "ok",.str ""])→Q (.ref l) H') :
  spSaid P w K mg base dk C [.ref a,.str (txt (wPut++32::(n++32::tl4 t.a t.b t.c t.d)))] H Q E:=by
 have h8:=hn.l8
 have hr:=rd_four sa sb sc sd
 have hl:=tl4_len sa sb sc sd
 have hx0:(txt (tl4 t.a t.b t.c t.d)).length=(tl4 t.a t.b t.c t.d).length:=by show (tl4 t.a t.b t.c t.d).toArray.size=_; simp
 have hne:txt (tl4 t.a t.b t.c t.d)≠"":=fun z=>by
  rw[z] at hx0
  have:("" : Str).length=0:=rfl
  lia
 refine⟨a,dx,dn,kvs,_,"put",_,_,[txt n,txt (tl4 t.a t.b t.c t.d)],rfl,M,?_,?_,.put,rfl,fun x hx=>?_,fun i k x hk hx=>?_,fun hx=>?_,fun l zs H' S gl gs=>.inr ⟨by decide +kernel,d1,_,D.put,fun Q2 hq=>?_⟩⟩
 ·show (wPut++32::(n++32::tl4 t.a t.b t.c t.d)).toArray.size≤20000
  simp; lia
 ·rw[row_three (by decide) hn.no (tl4_no sa sb sc sd),e_put]
 ·rcases List.mem_cons.mp hx with rfl | hx
  ·exact hn.ne
  ·rw[List.mem_singleton.mp hx]; exact hne
 ·match i,hk,hx with
  | 0,hk,hx=>cases hk; cases hx; exact .new hn
  | 1,hk,hx=>cases hk; cases hx; exact .tb (tl4_as sa sb sc sd) (by rw[hx0]; lia) hr
  | i+2,hk,hx=>cases hk
 ·obtain⟨i,x,hk,hx,hz⟩:=hx
  match i,hk with
  | 0,hk=>exact absurd hk (by decide +kernel)
  | 1,hk=>exact absurd hk (by decide +kernel)
  | i+2,hk=>cases hk
 ·obtain⟨z1,z2,rfl,g1,g2⟩:=gots_two gs
  cases g1 with
  | new _ =>
   cases g2 with
   | tb hr2 gp =>
    rw[hr] at hr2
    cases hr2
    refine⟨a,dx,dn,kvs,l,txt n,_,rfl,M.same S,SqL.of gl,hk,hq _ _ fun l2 n2=>?_⟩
    have ne:dn≠_:=ne_of (M.same S).gN gp (fun z=>nomatch z)
    exact q _ l2 _ (((SmB.of S).trans smb_put').trans (SmB.of (same_new n2 _))) ((same_new n2 _) _ _ (by rw[upd_ne (Ne.symm ne)]; exact gp)) ((same_new n2 _) _ _ upd_same) upd_same
theorem small_bd {t:Tb} (h:∀i∈Tb.ns t,-49≤i∧i≤49):Bd 400 t:=by
 have f:∀i:Int,(-49≤i∧i≤49)→Lt2 400 i:=fun i h=>Nat.lt_of_lt_of_le (show i.natAbs < 2 ^ 6 by lia) (Nat.pow_le_pow_right (by decide) (by decide))
 exact⟨f _ (h _ (by simp [Tb.ns])),f _ (h _ (by simp [Tb.ns])),f _ (h _ (by simp [Tb.ns])),f _ (h _ (by simp [Tb.ns]))⟩
theorem said_times (D:Dks P w K mg base dk C d1 d2 d3 d4 d5) {H:Hp}{a dx dn:Addr}{kvs:List (Key×V)}{es:List (List Nat×Tb)}{n m:List Nat}{t u:Tb}{Q:VK}{E:XK} (M:DeskAt K C H a dx dn kvs) (r:Rows H kvs es) (g:Good es) (hn:Nm n) (hm:Nm m) (ht:lookE es n=some t) (hu:lookE es m=some u)
  (q:∀l H',Same H H'→H' l=some (.tup [.str (tt (Tb.ns (t.mul u))),.str ""])→Q (.ref l) H') :
  spSaid P w K mg base dk C [.ref a,.str (txt (wTimes++32::(n++32::m)))] H Q E:=by
 have h8:=hn.l8
 have m8:=hm.l8
 obtain⟨v,hv,tv⟩ : ∃v,valV kvs (.inr (txt n))=some v∧T4o H v t:=by
  rcases r.look (n:=n) with ⟨v,_,e,e2,z⟩ | ⟨_,e⟩
  ·rw[ht] at e2; cases e2; exact⟨v,e,z⟩
  ·rw[ht] at e; cases e
 obtain⟨x,hx,tx⟩ : ∃v,valV kvs (.inr (txt m))=some v∧T4o H v u:=by
  rcases r.look (n:=m) with ⟨v,_,e,e2,z⟩ | ⟨_,e⟩
  ·rw[hu] at e2; cases e2; exact⟨v,e,z⟩
  ·rw[hu] at e; cases e
 refine⟨a,dx,dn,kvs,_,"times",_,_,[txt n,txt m],rfl,M,?_,?_,.times,rfl,fun y hy=>?_,fun i k y hk hy=>?_,fun hy=>?_,fun l zs H' S gl gs=>.inr ⟨by decide +kernel,d5,_,D.times,fun Q2 hq=>?_⟩⟩
 ·show (wTimes++32::(n++32::m)).toArray.size≤20000
  simp; lia
 ·rw[row_three (by decide) hn.no hm.no,e_times]
 ·rcases List.mem_cons.mp hy with rfl | hy
  ·exact hn.ne
  ·rw[List.mem_singleton.mp hy]; exact hm.ne
 ·match i,hk,hy with
  | 0,hk,hy=>cases hk; cases hy; exact .name hn
  | 1,hk,hy=>cases hk; cases hy; exact .name hm
  | i+2,hk,hy=>cases hk
 ·obtain⟨i,y,hk,hy,hz⟩:=hy
  match i,hy with
  | 0,hy=>cases hy; rw[hv] at hz; cases hz
  | 1,hy=>cases hy; rw[hx] at hz; cases hz
  | i+2,hy=>cases hy
 ·obtain⟨z1,z2,rfl,g1,g2⟩:=gots_two gs
  cases g1 with
  | name e1 =>
   cases g2 with
   | name e2 =>
    rw[hv] at e1
    rw[hx] at e2
    cases e1
    cases e2
    obtain⟨p1,rfl,_⟩:=id tv
    obtain⟨p2,rfl,_⟩:=id tx
    exact⟨_,l,p1,p2,t,u,rfl,SqL.of gl,tv.mono S,tx.mono S,small_bd (g _ (look_mem ht)).2,small_bd (g _ (look_mem hu)).2,fun H2 S2=>hq _ _ fun l2 n2=>q l2 _ ((S.trans S2).trans (same_new n2 _)) upd_same⟩
end K3
end
section
set_option maxRecDepth 100000
set_option maxHeartbeats 4000000
namespace K3
open PySem PySem.Spec PyProof.Rows L2
section
variable {P:Program}{w:World}{K:PySem.W.Frag}{mg:Str→Option Value}{base:Heap}
theorem shown_dig (i:Int):∀c∈shown i,c < 128:=by
 have h:=dec_dig i.natAbs
 unfold shown
 split
 ·intro c hc
  rcases List.mem_cons.mp hc with rfl | hc
  ·decide
  ·have:=h c hc; lia
 ·intro c hc
  have:=h c hc; lia
theorem fold_As {y:Str} (hy:As y):∀(rest:List Str) (acc:Array Nat),(∀c∈acc.toList,c < 128)→(∀z∈rest,As z)→∀c∈(rest.foldl (fun acc p=>acc++y.cps++p.cps) acc).toList,c < 128
 | [],acc,h,_=>h
 | p::r,acc,h,hr=>by
  refine fold_As hy r _ (fun c hc=>?_) fun z hz=>hr z (List.mem_cons_of_mem _ hz)
  rw[Array.toList_append,Array.toList_append,List.mem_append,List.mem_append] at hc
  rcases hc with (hc | hc) | hc
  ·exact h c hc
  ·exact hy c hc
  ·exact hr p List.mem_cons_self c hc
theorem join_As {y:Str} (hy:As y) {zs:List Str} (h:∀z∈zs,As z):As (Txt.join y zs):=by
 cases zs with
 | nil=>exact fun c hc=>absurd hc (by show ¬ c∈([]:List Nat); simp)
 | cons a r=>exact fold_As hy r a.cps (h a List.mem_cons_self) fun z hz=>h z (List.mem_cons_of_mem _ hz)
theorem tt_as (is:List Int):As (tt is):=join_As (by unfold As; decide +kernel) fun z hz=>by
 obtain⟨i,_,rfl⟩:=List.mem_map.mp hz
 exact shown_dig i
theorem ne_d (d:PyData) (h:d.canLay0=true):V.bl (if true=true then !PyData.eqv d d else PyData.eqv d d)=.bl false:=by
 rw[SeqAt.eqv_refl d h]; rfl
theorem eq_d (d:PyData) (h:d.canLay0=true):V.bl (if false=true then !PyData.eqv d d else PyData.eqv d d)=.bl true:=by
 rw[SeqAt.eqv_refl d h]; rfl
theorem pairDat {H:Hp}{l:Addr}{r:V}{x:Str}{d:PyData} (g:H l=some (.tup [r,.str x])) (h:DatOf K H r d):DatOf K H (.ref l) (.tuple [d,.str x]):=.tup (SqT.of g) (.cons h (.cons (.str x) .nil))
theorem lay2 {d:PyData}{x:Str} (h:d.canLay0=true) (k:PyData.strOk x=true):(PyData.tuple [d,.str x]).canLay0=true:=by
 show (d.canLay0 && (PyData.strOk x && true))=true
 rw[h,k]; rfl
theorem e_ok:PyData.strOk ""=true:=by decide +kernel
theorem nm_ok:PyData.strOk "NoMill+"=true:=by decide +kernel
theorem nn_ok:PyData.strOk "NoName+"=true:=by decide +kernel
theorem told_as {zs:List Str} (h:∀z∈zs,As z):As (told zs):=by
 unfold told
 split
 ·unfold As; decide +kernel
 ·exact join_As (by unfold As; decide +kernel) h
theorem join_pos {zs:List Str} (h:∀z∈zs,z≠"") (hz:zs≠[]):(Txt.join " " zs).length≠0:=fun e=>by
 have e2:(Txt.join " " zs).length=(zs.map (·.length)).sum+(zs.length - 1) * (" " : Str).length:=size_glued " " zs
 cases zs with
 | nil=>exact hz rfl
 | cons a r =>
  have:=h a List.mem_cons_self
  rw[List.map_cons,List.sum_cons] at e2
  have e0:a.length=0:=by lia
  exact this (by
   have:a.cps.toList=[]:=List.length_eq_zero_iff.mp (by rw[Array.length_toList]; exact e0)
   exact str_ext this)
theorem Rows.mem {H:Hp}{kvs:List (Key×V)}{es:List (List Nat×Tb)}{k:Key}{v:V} (r:Rows H kvs es) (h:(k,v)∈kvs):∃n t,k=kn n∧(n,t)∈es:=by
 induction r with
 | nil=>cases h
 | cons a r ih =>
  rcases List.mem_cons.mp h with e | h
  ·cases e; exact⟨_,_,rfl,List.mem_cons_self⟩
  ·obtain⟨n,t,e,m⟩:=ih h
   exact⟨n,t,e,List.mem_cons_of_mem _ m⟩
theorem look_of {es:List (List Nat×Tb)}{n:List Nat}{t:Tb} (h:(n,t)∈es):∃t',lookE es n=some t':=by
 cases e:lookE es n with
 | some t'=>exact⟨t',rfl⟩
 | none =>
  unfold lookE at e
  rw[Option.map_eq_none_iff,List.find?_eq_none] at e
  exact absurd (decide_eq_true rfl) (e _ h)
theorem row_show (n:List Nat):("show " : Str)++txt n=txt (wShow++32::n):=by
 rw[show ("show " : Str)=txt (wShow++[32]) by decide +kernel,txt_app,List.append_assoc]; rfl
structure Kept (H:Hp) (kp kt:Addr) (kts:List (Key×V)):Prop where
 gP:H kp=some (.dK [(.inr "tables",.ref kt),(.inr "mill",.non)])
 gT:H kt=some (.dK kts)
theorem Kept.ne {H:Hp}{kp kt:Addr}{kts:List (Key×V)}{es:List (List Nat×Tb)} (k:Kept H kp kt kts) (r:Rows H kts es):kp≠kt:=fun z=>by
 subst z
 have e:=k.gT
 rw[k.gP] at e
 cases e
 cases r with
 | cons c _ =>
  obtain⟨p,e,g⟩:=c
  cases e
  rw[k.gP] at g
  cases g
def spSt (K:PySem.W.Frag) (C:Addr):Sp:=fun vs H Q _=>∃a dx dn kvs kp kt kts es,vs=[.ref a,.ref kp]∧DeskAt K C H a dx dn kvs∧Kept H kp kt kts∧dn≠kt∧Rows H kvs es∧Rows H kts es∧Good es∧es.length≤1000∧∀H',Same H H'→Q (.bl true) H'
theorem sc_st:FnScope ["desk","kept","name"] ["desk","kept"] (defScope (top 172)):=⟨rfl,rfl,rfl,by decide +kernel,rfl,by decide +kernel,by decide +kernel⟩
theorem ok_st {C:Addr}{dk:List (Key×V)}{d1 d2 d3 d4 d5 dsd dsh d:DD} (DK:Dks P w K mg base dk C d1 d2 d3 d4 d5) (D_sd:Def K mg "_law_said" (top 168) ["desk","row"] dsd) (G_sd:FnOk P w K mg base CX0 7 dsd.f dsd.fd ["desk","row"] (spSaid P w K mg base dk C)) (D_sh:Def K mg "_law_shown" (top 169) ["table"] dsh) (G_sh:FnOk P w K mg base CX0 3 dsh.f dsh.fd ["table"] (spTt K)) (D:Def K mg "_law_stands" (top 172) ["desk","kept"] d) (b_list:mg "list"=none) (b_sorted:mg "sorted"=none):FnOk P w K mg base CX0 8 d.f d.fd ["desk","kept"] (spSt K C):=by
 refine D.fn.ok sc_st (fun vs H Q E h=>?_) (fun cdv A outer s H vs Q E hr h=>?_)
 ·obtain⟨a,dx,dn,kvs,kp,kt,kts,es,rfl,_⟩:=h
  rfl
 obtain⟨a,dx,dn,kvs,kp,kt,kts,es,rfl,M,Kp,ne,r1,r2,gd,hl,q⟩:=h
 have hc:=hr.calm
 have nd:=sc_st.nd
 refine⟨_,(@pss_cons _ _ _ _ _ (@ps_if _ _ _ _ _ _ _ _ (@pt_cmpR _ _ _ _ _ _ _ _ (op_neD hr.units) (@pe_call _ _ _ _ _ _ _ _ _ _ _ _ _ _ _ _ (G_sd.mono (by decide)) hr rfl D_sd.m D_sd.fn.kp D_sd.b .nil pass0 (@pa_cons _ _ _ _ _ (pv 0) (@pa_cons _ _ _ _ _ (@pe_str _ _ _ _) (@pa_nil _) st_c) st_n) (by decide) (by rfl) (by rfl)) (@pe_tup _ _ _ _ _ (@pa_cons _ _ _ _ _ (@pe_mid _ _ _ (@pe_orS _ _ _ _ _ _ _ (@pe_bm _ _ _ _ _ _ _ _ _ _ _ _ PySem.F.plainAttrs_str PySem.F.slot_str_join PySem.F.type_str_join mt_join (@pe_str _ _ _ _) (@pa_cons _ _ _ _ _ (@pe_callB _ _ _ _ _ _ _ _ _ (call_sortN hc) rfl b_sorted bt_sorted (@pa_cons _ _ _ _ _ (@pe_callTy _ _ _ _ _ _ _ _ _ (call_lstK hc) rfl b_list bt_list (@pa_cons _ _ _ _ _ (@pe_dget _ _ _ _ _ _ (hu_of hr) (pv 1) (@pe_str _ _ _ _) (fun _ _=>rfl)) (@pa_nil _) (by rfl)) (by decide) (by decide) (by rfl) (by rfl)) (@pa_nil _) st_f) (by decide) (by decide) (by rfl) (by rfl)) (@pa_nil _) st_f) (by rfl) (by rfl) (by rfl) (by rfl) (by rfl)) (@pe_one _ _ _ _ _ (@pe_str _ _ _ _)))) (@pa_cons _ _ _ _ _ (@pe_str _ _ _ _) (@pa_nil _) st_c) (by rfl))) (nomark _)) (@pss_one _ _ _ (@ps_ret _ _ _ _ (@pe_bl _ _ _ _))) (@pss_nil _)) (@pss_cons _ _ _ _ _ (@ps_thaw _ _ _ (@ps_for _ _ _ _ _ _ _ _ PassesOwn.never hc (@pi_keysK _ _ _ _ (@pe_dget _ _ _ _ _ _ (hu_of hr) (pv 1) (@pe_str _ _ _ _) (fun _ _=>rfl))) (@pg_name _ _ (2) _ nd rfl (Or.inl rfl) (by first | exact .inl rfl | exact .inr rfl | assumption)) (@pss_one _ _ _ (@ps_if _ _ _ _ _ _ _ _ (@pt_cmpR _ _ _ _ _ _ _ _ (op_neD hr.units) (@pe_call _ _ _ _ _ _ _ _ _ _ _ _ _ _ _ _ (G_sd.mono (by decide)) hr rfl D_sd.m D_sd.fn.kp D_sd.b .nil pass0 (@pa_cons _ _ _ _ _ (pv 0) (@pa_cons _ _ _ _ _ (@pe_op _ _ _ _ _ _ _ _ op_add_str (@pe_str _ _ _ _) (pv 2)) (@pa_nil _) (by rfl)) st_n) (by decide) (by rfl) (by rfl)) (@pe_tup _ _ _ _ _ (@pa_cons _ _ _ _ _ (@pe_call _ _ _ _ _ _ _ _ _ _ _ _ _ _ _ _ (G_sh.mono (by decide)) hr rfl D_sh.m D_sh.fn.kp D_sh.b .nil pass0 (@pa_cons _ _ _ _ _ (@pe_dget _ _ _ _ _ _ (hu_of hr) (@pe_dget _ _ _ _ _ _ (hu_of hr) (pv 1) (@pe_str _ _ _ _) (fun _ _=>rfl)) (pv 2) (fun _ _=>rfl)) (@pa_nil _) (by rfl)) (by decide) (by rfl) (by rfl)) (@pa_cons _ _ _ _ _ (@pe_str _ _ _ _) (@pa_nil _) st_c) st_f)) (nomark _)) (@pss_one _ _ _ (@ps_ret _ _ _ _ (@pe_bl _ _ _ _))) (@pss_nil _))) (by intro _; rfl))) (@pss_cons _ _ _ _ _ (@ps_if _ _ _ _ _ _ _ _ (@pt_cmpR _ _ _ _ _ _ _ _ op_isN (@pe_dget _ _ _ _ _ _ (hu_of hr) (pv 1) (@pe_str _ _ _ _) (fun _ _=>rfl)) (@pe_non _ _ _) (nomark _)) (@pss_one _ _ _ (@ps_ret _ _ _ _ (@pe_cmpR _ _ _ _ _ _ _ _ (op_eqD hr.units) (@pe_call _ _ _ _ _ _ _ _ _ _ _ _ _ _ _ _ (G_sd.mono (by decide)) hr rfl D_sd.m D_sd.fn.kp D_sd.b .nil pass0 (@pa_cons _ _ _ _ _ (pv 0) (@pa_cons _ _ _ _ _ (@pe_str _ _ _ _) (@pa_nil _) st_c) st_n) (by decide) (by rfl) (by rfl)) (@pe_tup _ _ _ _ _ (@pa_cons _ _ _ _ _ (@pe_non _ _ _) (@pa_cons _ _ _ _ _ (@pe_str _ _ _ _) (@pa_nil _) st_c) st_c)) (nomark _)))) (@pss_nil _)) (@pss_one _ _ _ (@ps_never _ _))))),?_⟩
 have zA:∀zs:List Str,zs.Perm (es.map fun e=>txt e.1)→∀z∈zs,As z∧z≠""∧z.length≤8:=fun zs pm z hz=>by
  obtain⟨e,he,rfl⟩:=List.mem_map.mp (pm.mem_iff.mp hz)
  have nm:=(gd e he).1
  refine⟨nm.as,nm.ne,?_⟩
  have:=nm.l8
  show e.1.toArray.size≤8
  simpa using this
 refine⟨_,rfl,?_⟩
 dsimp only [tCons,tC,tNil]
 refine said_names DK M r1 gd hl fun zs l H1 pm so S1 gl=>?_
 have P1:=S1 _ _ Kp.gP
 have T1:=S1 _ _ Kp.gT
 refine⟨fun v H2=>v=.str (told zs)∧Same H1 H2,?_,?_⟩
 ·refine⟨rfl,_,rfl,kp,.ref kt,rfl,.inl ⟨_,.inr "tables",.inl P1,rfl,rfl⟩,kt,kts,es.map fun e=>txt e.1,rfl,T1,r2.keys,fun l2 n2=>?_⟩
  refine⟨l2,es.map fun e=>txt e.1,rfl,.inl (SqL.of upd_same),fun l3 zs' pm' so' n3=>?_⟩
  obtain rfl:=sortedS_same (pm'.trans pm.symm) so' so
  have b8:=sum8 zs' fun z hz=>(zA _ pm z hz).2.2
  have el:=pm.length_eq
  rw[List.length_map] at el
  refine⟨" ",l3,zs',rfl,rfl,SqL.of upd_same,?_,?_⟩
  ·show _+_ * 1≤_
   lia
  have S3:Same H1 (upd (upd H1 l2 (.lst ((es.map fun e=>txt e.1).map V.str))) l3 (.lst (zs'.map V.str))):=(same_new n2 _).trans (same_new n3 _)
  refine⟨_,rfl,line4 ?_,?_⟩
  ·have e2:(Txt.join " " zs').length=(zs'.map (·.length)).sum+(zs'.length - 1) * (" " : Str).length:=size_glued " " zs'
   rw[e2]
   show _+_ * 1≤1000000
   lia
  ·by_cases hz:zs'=[]
   ·subst hz
    exact⟨rfl,S3⟩
   ·rw[if_neg (join_pos (fun z hz=>(zA _ pm z hz).2.1) hz)]
    refine⟨?_,S3⟩
    unfold told
    rw[if_neg hz]
 rintro v H2 ⟨rfl,S2⟩
 refine⟨line4 (show 2≤1000000 by decide),fun l4 n4=>?_⟩
 have S4:=same_new n4 (.tup [.str (told zs),.str ""])
 have tA:(PyData.str (told zs)).canLay0=true:=ok_as (told_as fun z hz=>(zA _ pm z hz).1)
 refine⟨_,_,pairDat ((S2.trans S4) _ _ gl) (.str _),pairDat upd_same (.str _),lay2 tA e_ok,lay2 tA e_ok,(show 1≤60 by decide),false,ne_d _ (lay2 tA e_ok),?_⟩
 have S5:=S1.trans (S2.trans S4)
 generalize upd H2 l4 (.tup [.str (told zs),.str ""])=H5 at S5 ⊢
 clear S4 S2 n4 gl P1 T1 S1 tA so pm zA
 have P5:=S5 _ _ Kp.gP
 have T5:=S5 _ _ Kp.gT
 have M5:=M.same S5
 have q1:=r1.same S5
 have q2:=r2.same S5
 refine⟨kt,kts,T5,_,rfl,kp,.ref kt,rfl,.inl ⟨_,.inr "tables",.inl P5,rfl,rfl⟩,kt,kts,rfl,T5,fun o=>?_⟩
 have ap:a≠kt:=ne_of M5.ia T5 (fun z=>nomatch z)
 have kk:kp≠kt:=Kp.ne r2
 refine for_keysK (fun p hp=>by obtain⟨n,_,e,_⟩:=q2.mem (k:=p.1) (v:=p.2) hp; exact⟨_,e⟩) (fun i σ H'=>∃v2,σ=[some (.ref a),some (.ref kp),v2]∧SmB kt H5 H'∧H' kt=some (.frz o (.dK kts))) ⟨none,rfl,smb_put',upd_same⟩ (fun i σ H' hi z=>by obtain⟨_,_,_,z⟩:=z; exact z) (fun i z v σ H' hv z=>?_) (fun σ H' z=>?_)
 ·obtain⟨v2,rfl,B,gF⟩:=z
  obtain⟨n,t0,en,hm⟩:=q2.mem (List.mem_of_getElem? hv)
  cases en
  obtain⟨t,et⟩:=look_of hm
  have nm:Nm n:=(gd _ hm).1
  have l8:=nm.l8
  have sm:=(gd _ (look_mem et)).2
  have mp:∀b o,H5 b=some (.tup o)→H' b=some (.tup o):=fun b o e=>B _ _ (ne_of e T5 (fun z=>nomatch z)) e
  have M6:DeskAt K C H' a dx dn kvs:=⟨B _ _ ap M5.ia,B _ _ ne M5.gN⟩
  have P6:=B _ _ kk P5
  refine⟨_,rfl,_,rfl,"show ",txt n,rfl,rfl,line4 ?_,?_⟩
  ·have e5:("show " : Str).length=5:=rfl
   have en:(txt n).length=n.length:=by show n.toArray.size=_; simp
   rw[e5,en]; lia
  rw[row_show]
  dsimp only [tCons,tC,tNil]
  refine said_show DK M6 (q1.map' mp) gd nm (fun t' et' l H7 S7 gl=>?_) (fun e=>by rw[et] at e; cases e)
  rw[et] at et'
  cases et'
  rcases q2.look (n:=n) with ⟨v',t',ev,et',p,rfl,gp⟩ | ⟨_,e⟩
  ·rw[et] at et'
   cases et'
   refine⟨_,rfl,kp,.ref kt,rfl,.inl ⟨_,.inr "tables",.inl (S7 _ _ P6),rfl,rfl⟩,_,rfl,kt,_,rfl,.inl ⟨kts,kn n,.inr ⟨o,S7 _ _ gF⟩,rfl,ev.symm⟩,?_⟩
   refine⟨p,Tb.ns t,rfl,S7 _ _ (mp _ _ gp),rfl,fun i hi=>small_lt (sm i hi),fun H8 S8=>⟨line4 (show 2≤1000000 by decide),fun l9 n9=>?_⟩⟩
   have S9:=same_new n9 (.tup [.str (tt (Tb.ns t)),.str ""])
   have tA:(PyData.str (tt (Tb.ns t))).canLay0=true:=ok_as (tt_as _)
   have SS:=S7.trans (S8.trans S9)
   exact⟨_,_,pairDat ((S8.trans S9) _ _ gl) (.str _),pairDat upd_same (.str _),lay2 tA e_ok,lay2 tA e_ok,(show 1≤60 by decide),false,ne_d _ (lay2 tA e_ok),_,rfl,B.trans (SmB.of SS),SS _ _ gF⟩
  ·rw[et] at e; cases e
 ·obtain⟨v2,rfl,B,gF⟩:=z
  refine⟨⟨o,gF⟩,?_⟩
  have S6:Same H5 (upd H' kt (.dK kts)):=fun b u e=>by
   by_cases hb:b=kt
   ·subst hb; rw[T5] at e; rw[upd_same]; exact e
   ·rw[upd_ne hb]; exact B _ _ hb e
  generalize upd H' kt (.dK kts)=H6 at S6 ⊢
  refine⟨_,rfl,kp,.non,rfl,.inl ⟨_,.inr "mill",.inl (S6 _ _ P5),rfl,rfl⟩,rfl,true,rfl,_,rfl,?_⟩
  dsimp only [tCons,tC,tNil]
  refine said_text (M5.same S6) fun l H7 S7 gl=>⟨line4 (show 2≤1000000 by decide),fun l9 n9=>?_⟩
  have S9:=same_new n9 (.tup [.non,.str "NoMill+"])
  refine⟨_,_,pairDat (S9 _ _ gl) .non,pairDat upd_same .non,lay2 rfl nm_ok,lay2 rfl nm_ok,(show 1≤60 by decide),?_⟩
  rw[eq_d _ (lay2 rfl nm_ok)]
  exact q _ (S5.trans (S6.trans (S7.trans S9)))
end
end K3
end
section
set_option maxRecDepth 100000
set_option maxHeartbeats 4000000
namespace K3
open PySem PySem.Spec PyProof.Rows L2
section
variable {P:Program}{w:World}{K:PySem.W.Frag}{mg:Str→Option Value}{base:Heap}
def Fr3 (x y z:Addr) (H H':Hp):Prop:=∀b u,b≠x→b≠y→b≠z→H b=some u→H' b=some u
theorem Fr3.trans {x y z:Addr}{H H1 H2:Hp} (a:Fr3 x y z H H1) (b:Fr3 x y z H1 H2):Fr3 x y z H H2:=fun c u h1 h2 h3 e=>b c u h1 h2 h3 (a c u h1 h2 h3 e)
theorem Fr3.same {x y z:Addr}{H H':Hp} (S:Same H H'):Fr3 x y z H H':=fun _ _ _ _ _ e=>S _ _ e
theorem Fr3.b1 {x y z:Addr}{H H':Hp} (S:SmB x H H'):Fr3 x y z H H':=fun _ _ h _ _ e=>S _ _ h e
theorem Fr3.b2 {x y z:Addr}{H H':Hp} (S:SmB y H H'):Fr3 x y z H H':=fun _ _ _ h _ e=>S _ _ h e
theorem Fr3.b3 {x y z:Addr}{H H':Hp} (S:SmB z H H'):Fr3 x y z H H':=fun _ _ _ _ h e=>S _ _ h e
structure Step (K:PySem.W.Frag) (C:Addr) (H:Hp) (a dx dn kp kt:Addr) (es:List (List Nat×Tb)):Prop where
 ne:dn≠kt
 ex:∃kvs kts,DeskAt K C H a dx dn kvs∧Kept H kp kt kts∧Rows H kvs es∧Rows H kts es
 gd:Good es
theorem Step.smb {C:Addr}{H H':Hp}{a dx dn kp kt x:Addr}{es:List (List Nat×Tb)}{l:List V} (st:Step K C H a dx dn kp kt es) (g:H x=some (.lst l)) (B:SmB x H H'):Step K C H' a dx dn kp kt es:=by
 obtain⟨kvs,kts,M,Kp,r1,r2⟩:=st.ex
 have mp:∀b o,H b=some (.tup o)→H' b=some (.tup o):=fun b o e=>B _ _ (ne_of e g (fun z=>nomatch z)) e
 exact⟨st.ne,⟨kvs,kts,⟨B _ _ (ne_of M.ia g (fun z=>nomatch z)) M.ia,B _ _ (ne_of M.gN g (fun z=>nomatch z)) M.gN⟩,⟨B _ _ (ne_of Kp.gP g (fun z=>nomatch z)) Kp.gP,B _ _ (ne_of Kp.gT g (fun z=>nomatch z)) Kp.gT⟩,r1.map' mp,r2.map' mp⟩,st.gd⟩
theorem Step.same {C:Addr}{H H':Hp}{a dx dn kp kt:Addr}{es:List (List Nat×Tb)} (st:Step K C H a dx dn kp kt es) (S:Same H H'):Step K C H' a dx dn kp kt es:=by
 obtain⟨kvs,kts,M,Kp,r1,r2⟩:=st.ex
 exact⟨st.ne,⟨kvs,kts,M.same S,⟨S _ _ Kp.gP,S _ _ Kp.gT⟩,r1.same S,r2.same S⟩,st.gd⟩
theorem Step.dr {C:Addr}{H H':Hp}{a dx dn kp kt p:Addr}{es:List (List Nat×Tb)} (st:Step K C H a dx dn kp kt es) (ds:Ds H p) (d:Dr p H H'):Step K C H' a dx dn kp kt es:=by
 obtain⟨_,_,_,e,_⟩:=ds
 exact st.smb e fun b u n g=>dr_get d n g
theorem Rows.some {H:Hp}{kvs:List (Key×V)}{es:List (List Nat×Tb)}{n:List Nat} (r:Rows H kvs es):(valV kvs (kn n)).isSome=hasE es n:=by
 rw[has_look]
 rcases r.look (n:=n) with ⟨v,t,e,et,_⟩ | ⟨e,et⟩ <;> rw[e,et] <;> rfl
theorem rows_ne {H:Hp}{kp kt x:Addr}{kts kvs:List (Key×V)}{es:List (List Nat×Tb)} (k:Kept H kp kt kts) (g:H x=some (.dK kvs)) (r:Rows H kvs es):kp≠x:=fun z=>by
 subst z
 rw[k.gP] at g
 cases g
 cases r with
 | cons c _ =>
  obtain⟨p,e,g⟩:=c
  cases e
  rw[k.gT] at g
  cases g
theorem tup_ne {H:Hp}{x:Addr}{kvs:List (Key×V)} (g:H x=some (.dK kvs)) {o:HO}:∀b xs,H b=some (.tup xs)→upd H x o b=some (.tup xs):=fun b xs e=>by
 rw[upd_ne (ne_of e g (fun z=>nomatch z))]; exact e
theorem good_put {es:List (List Nat×Tb)}{n:List Nat}{t:Tb} (g:Good es) (hn:Nm n) (ht:∀i∈Tb.ns t,-49≤i∧i≤49):Good (putE es n t):=fun e he=>by
 rcases put_mem he with rfl | he
 ·exact⟨hn,ht⟩
 ·exact g e he
theorem good_drop {es:List (List Nat×Tb)}{n:List Nat} (g:Good es):Good (dropE es n):=fun e he=>g e (List.mem_filter.mp he).1
theorem row_put (n x:List Nat):("put " : Str)++txt n++" "++txt x=txt (wPut++32::(n++32::x)):=by
 rw[show ("put " : Str)=txt (wPut++[32]) by decide +kernel,show (" " : Str)=txt [32] by decide +kernel,txt_app,txt_app,txt_app]
 simp
theorem row_times (n x:List Nat):("times " : Str)++txt n++" "++txt x=txt (wTimes++32::(n++32::x)):=by
 rw[show ("times " : Str)=txt (wTimes++[32]) by decide +kernel,show (" " : Str)=txt [32] by decide +kernel,txt_app,txt_app,txt_app]
 simp
theorem row_drop (n:List Nat):("drop " : Str)++txt n=txt (wDrop++32::n):=by
 rw[show ("drop " : Str)=txt (wDrop++[32]) by decide +kernel,txt_app,List.append_assoc]; rfl
theorem ok_ok:PyData.strOk "ok"=true:=by decide +kernel
theorem txt_len (n:List Nat):(txt n).length=n.length:=by show n.toArray.size=_; simp
def spDe (K:PySem.W.Frag) (C:Addr):Sp:=fun vs H Q _=>∃a dx dn kp kt es p n,vs=[.ref a,.ref kp,.ref p,.str (txt n)]∧Step K C H a dx dn kp kt es∧es.length≤900∧Ds H p∧Nm n∧∀es' H',Step K C H' a dx dn kp kt es'→es'.length≤es.length+1→Fr3 p dn kt H H'→Q (.bl true) H'
theorem sc_de:FnScope ["desk","kept","draws","name","way","some","other","due"] ["desk","kept","draws","name"] (defScope (top 174)):=⟨rfl,rfl,rfl,by decide +kernel,rfl,by decide +kernel,by decide +kernel⟩
theorem ok_de {C:Addr}{dk:List (Key×V)}{d1 d2 d3 d4 d5 dd dlt dsd dsh d:DD} (DK:Dks P w K mg base dk C d1 d2 d3 d4 d5) (D_sd:Def K mg "_law_said" (top 168) ["desk","row"] dsd) (G_sd:FnOk P w K mg base CX0 7 dsd.f dsd.fd ["desk","row"] (spSaid P w K mg base dk C)) (D_sh:Def K mg "_law_shown" (top 169) ["table"] dsh) (G_sh:FnOk P w K mg base CX0 3 dsh.f dsh.fd ["table"] (spTt K)) (D_draw:Def K mg "_law_draw" (top 166) ["draws","many"] dd) (G_draw:FnOk P w K mg base CX0 1 dd.f dd.fd ["draws","many"] spDraw) (D_lt:Def K mg "_law_times" (top 170) ["one","other"] dlt) (G_lt:FnOk P w K mg base CX0 1 dlt.f dlt.fd ["one","other"] (spProd K)) (D:Def K mg "_law_deed_right" (top 174) ["desk","kept","draws","name"] d) (b_list:mg "list"=none) (b_sorted:mg "sorted"=none) (b_range:mg "range"=none) (b_tuple:mg "tuple"=none) (b_len:mg "len"=none):FnOk P w K mg base CX0 8 d.f d.fd ["desk","kept","draws","name"] (spDe K C):=by
 refine D.fn.ok sc_de (fun vs H Q E h=>?_) (fun cdv A outer s H vs Q E hr h=>?_)
 ·obtain⟨a,dx,dn,kp,kt,es,p,n,rfl,_⟩:=h
  rfl
 obtain⟨a,dx,dn,kp,kt,es,p,n,rfl,st,hl,ds,nm,q⟩:=h
 have hc:=hr.calm
 have nd:=sc_de.nd
 refine⟨_,(@pss_cons _ _ _ _ _ (@ps_set _ _ (4) _ _ _ _ nd rfl (Or.inl rfl) (@pe_call _ _ _ _ _ _ _ _ _ _ _ _ _ _ _ _ (G_draw.mono (by decide)) hr rfl D_draw.m D_draw.fn.kp D_draw.b .nil pass0 (@pa_cons _ _ _ _ _ (pv 2) (@pa_cons _ _ _ _ _ (@pe_int _ _ _ _) (@pa_nil _) st_c) st_n) (by decide) (by rfl) (by rfl)) (by rfl) (by first | exact .inl rfl | exact .inr rfl | assumption)) (@pss_cons _ _ _ _ _ (@ps_if _ _ _ _ _ _ _ _ (@pt_mid _ _ _ (@PW.pt _ _ _ (@pw_or _ _ _ _ _ _ _ (@pt_cmp _ _ _ _ _ _ (@pc_dnotin _ _ _ _ _ (hu_of hr) (pv 3) (@pe_dget _ _ _ _ _ _ (hu_of hr) (pv 1) (@pe_str _ _ _ _) (fun _ _=>rfl))) (by first | exact nobehind _ (by decide) (by decide) | rfl)) (@pw_or1 _ _ _ _ (@pt_cmpR _ _ _ _ _ _ _ _ op_eq (pv 4) (@pe_int _ _ _ _) (nomark _)))))) (@pss_cons _ _ _ _ _ (@ps_dput _ _ _ _ _ _ _ _ _ (hu_of hr) (@pe_dget _ _ _ _ _ _ (hu_of hr) (pv 1) (@pe_str _ _ _ _) (fun _ _=>rfl)) (pv 3) (@pe_callTy _ _ _ _ _ _ _ _ _ call_tuple_of rfl b_tuple bt_tuple (@pa_cons _ _ _ _ _ (@pe_comp _ _ _ _ _ _ _ _ _ _ _ _ _ _ hc (compScope_of (ts:=["k"]) (cap:=["draws"]) (js:=[2]) rfl rfl rfl rfl rfl rfl (by decide +kernel)) (@pi_range1 _ _ _ _ _ _ rfl b_range (@pa_cons _ _ _ _ _ (@pe_int _ _ _ _) (@pa_nil _) st_c) (by rfl)) (fun _ _ _ _=>@pg_name _ _ (0) _ (show (["k","draws"]:List Str).Nodup by decide +kernel) rfl (Or.inl rfl) (.inr rfl)) (fun _ _ _ _=>@pts_nil _) (fun _ _ _ _=>(@pe_op _ _ _ _ _ _ _ _ op_sub (@pe_call _ _ _ _ _ _ _ _ _ _ _ _ _ _ _ _ (G_draw.mono (by decide)) hr rfl D_draw.m D_draw.fn.kp D_draw.b .nil pass0 (@pa_cons _ _ _ _ _ (pv 1) (@pa_cons _ _ _ _ _ (@pe_int _ _ _ _) (@pa_nil _) st_c) st_n) (by decide) (by rfl) (by rfl)) (@pe_int _ _ _ _))) (by intro _; rfl)) (@pa_nil _) (by rfl)) (by decide) (by decide) (by rfl) (by rfl)) rfl) (@pss_one _ _ _ (@ps_ret _ _ _ _ (@pe_cmpR _ _ _ _ _ _ _ _ (op_eqD hr.units) (@pe_call _ _ _ _ _ _ _ _ _ _ _ _ _ _ _ _ (G_sd.mono (by decide)) hr rfl D_sd.m D_sd.fn.kp D_sd.b .nil pass0 (@pa_cons _ _ _ _ _ (pv 0) (@pa_cons _ _ _ _ _ (@pe_op _ _ _ _ _ _ _ _ op_add_str (@pe_op _ _ _ _ _ _ _ _ op_add_str (@pe_op _ _ _ _ _ _ _ _ op_add_str (@pe_str _ _ _ _) (pv 3)) (@pe_str _ _ _ _)) (@pe_call _ _ _ _ _ _ _ _ _ _ _ _ _ _ _ _ (G_sh.mono (by decide)) hr rfl D_sh.m D_sh.fn.kp D_sh.b .nil pass0 (@pa_cons _ _ _ _ _ (@pe_dget _ _ _ _ _ _ (hu_of hr) (@pe_dget _ _ _ _ _ _ (hu_of hr) (pv 1) (@pe_str _ _ _ _) (fun _ _=>rfl)) (pv 3) (fun _ _=>rfl)) (@pa_nil _) (by rfl)) (by decide) (by rfl) (by rfl))) (@pa_nil _) (by rfl)) st_n) (by decide) (by rfl) (by rfl)) (@pe_tup _ _ _ _ _ (@pa_cons _ _ _ _ _ (@pe_str _ _ _ _) (@pa_cons _ _ _ _ _ (@pe_str _ _ _ _) (@pa_nil _) st_c) st_c)) (nomark _))))) (@pss_nil _)) (@pss_cons _ _ _ _ _ (@ps_mid _ _ _ (@ps_if _ _ _ _ _ _ _ _ (@PW.pt _ _ _ (@pw_and _ _ _ _ _ _ _ (@pt_cmpR _ _ _ _ _ _ _ _ op_eq (pv 4) (@pe_int _ _ _ _) (nomark _)) (@pw_and1 _ _ _ _ (@pt_cmpR _ _ _ _ _ _ _ _ op_eq (@pe_call _ _ _ _ _ _ _ _ _ _ _ _ _ _ _ _ (G_draw.mono (by decide)) hr rfl D_draw.m D_draw.fn.kp D_draw.b .nil pass0 (@pa_cons _ _ _ _ _ (pv 2) (@pa_cons _ _ _ _ _ (@pe_int _ _ _ _) (@pa_nil _) st_c) st_n) (by decide) (by rfl) (by rfl)) (@pe_int _ _ _ _) (nomark _))))) (@pss_cons _ _ _ _ _ (@ps_expr _ _ _ _ (@pe_dpop1 _ _ _ _ _ _ _ (@pe_dget _ _ _ _ _ _ (hu_of hr) (pv 1) (@pe_str _ _ _ _) (fun _ _=>rfl)) (pv 3) ⟨rfl,rfl,rfl,rfl⟩) (by rfl)) (@pss_one _ _ _ (@ps_ret _ _ _ _ (@pe_and _ _ _ _ _ _ _ (@pe_cmpR _ _ _ _ _ _ _ _ (op_eqD hr.units) (@pe_call _ _ _ _ _ _ _ _ _ _ _ _ _ _ _ _ (G_sd.mono (by decide)) hr rfl D_sd.m D_sd.fn.kp D_sd.b .nil pass0 (@pa_cons _ _ _ _ _ (pv 0) (@pa_cons _ _ _ _ _ (@pe_op _ _ _ _ _ _ _ _ op_add_str (@pe_str _ _ _ _) (pv 3)) (@pa_nil _) (by rfl)) st_n) (by decide) (by rfl) (by rfl)) (@pe_tup _ _ _ _ _ (@pa_cons _ _ _ _ _ (@pe_str _ _ _ _) (@pa_cons _ _ _ _ _ (@pe_str _ _ _ _) (@pa_nil _) st_c) st_c)) (nomark _)) (@pe_one _ _ _ _ _ (@pe_cmpR _ _ _ _ _ _ _ _ (op_eqD hr.units) (@pe_call _ _ _ _ _ _ _ _ _ _ _ _ _ _ _ _ (G_sd.mono (by decide)) hr rfl D_sd.m D_sd.fn.kp D_sd.b .nil pass0 (@pa_cons _ _ _ _ _ (pv 0) (@pa_cons _ _ _ _ _ (@pe_op _ _ _ _ _ _ _ _ op_add_str (@pe_str _ _ _ _) (pv 3)) (@pa_nil _) (by rfl)) st_n) (by decide) (by rfl) (by rfl)) (@pe_tup _ _ _ _ _ (@pa_cons _ _ _ _ _ (@pe_non _ _ _) (@pa_cons _ _ _ _ _ (@pe_str _ _ _ _) (@pa_nil _) st_c) st_c)) (nomark _))))))) (@pss_nil _))) (@pss_cons _ _ _ _ _ (@ps_set _ _ (5) _ _ _ _ nd rfl (Or.inl rfl) (@pe_dget _ _ _ _ _ _ (hu_of hr) (pv 1) (@pe_str _ _ _ _) (fun _ _=>rfl)) (by rfl) (by first | exact .inl rfl | exact .inr rfl | assumption)) (@pss_cons _ _ _ _ _ (@ps_set _ _ (6) _ _ _ _ nd rfl (Or.inl rfl) (@pe_ix _ _ _ _ _ _ _ ix_list (@pe_callB _ _ _ _ _ _ _ _ _ (call_sortN hc) rfl b_sorted bt_sorted (@pa_cons _ _ _ _ _ (@pe_callTy _ _ _ _ _ _ _ _ _ (call_lstK hc) rfl b_list bt_list (@pa_cons _ _ _ _ _ (pv 5) (@pa_nil _) st_n) (by decide) (by decide) (by rfl) (by rfl)) (@pa_nil _) st_f) (by decide) (by decide) (by rfl) (by rfl)) (@pe_call _ _ _ _ _ _ _ _ _ _ _ _ _ _ _ _ (G_draw.mono (by decide)) hr rfl D_draw.m D_draw.fn.kp D_draw.b .nil pass0 (@pa_cons _ _ _ _ _ (pv 2) (@pa_cons _ _ _ _ _ (@pe_callB _ _ _ _ _ _ _ _ _ (show CallR _ _ rLenD from call_lenD) rfl b_len bt_len (@pa_cons _ _ _ _ _ (pv 5) (@pa_nil _) st_n) (by decide) (by decide) (by rfl) (by rfl)) (@pa_nil _) st_f) st_n) (by decide) (by rfl) (by rfl)) (fun _ _=>rfl)) (by rfl) (by first | exact .inl rfl | exact .inr rfl | assumption)) (@pss_cons _ _ _ _ _ (@ps_set _ _ (7) _ _ _ _ nd rfl (Or.inl rfl) (@pe_call _ _ _ _ _ _ _ _ _ _ _ _ _ _ _ _ (G_sh.mono (by decide)) hr rfl D_sh.m D_sh.fn.kp D_sh.b .nil pass0 (@pa_cons _ _ _ _ _ (@pe_call _ _ _ _ _ _ _ _ _ _ _ _ _ _ _ _ (G_lt.mono (by decide)) hr rfl D_lt.m D_lt.fn.kp D_lt.b .nil pass0 (@pa_cons _ _ _ _ _ (@pe_dget _ _ _ _ _ _ (hu_of hr) (pv 5) (pv 3) (fun _ _=>rfl)) (@pa_cons _ _ _ _ _ (@pe_dget _ _ _ _ _ _ (hu_of hr) (pv 5) (pv 6) (fun _ _=>rfl)) (@pa_nil _) (by rfl)) (by rfl)) (by decide) (by rfl) (by rfl)) (@pa_nil _) st_f) (by decide) (by rfl) (by rfl)) (by rfl) (by first | exact .inl rfl | exact .inr rfl | assumption)) (@pss_one _ _ _ (@ps_ret _ _ _ _ (@pe_cmpR _ _ _ _ _ _ _ _ (op_eqD hr.units) (@pe_call _ _ _ _ _ _ _ _ _ _ _ _ _ _ _ _ (G_sd.mono (by decide)) hr rfl D_sd.m D_sd.fn.kp D_sd.b .nil pass0 (@pa_cons _ _ _ _ _ (pv 0) (@pa_cons _ _ _ _ _ (@pe_op _ _ _ _ _ _ _ _ op_add_str (@pe_op _ _ _ _ _ _ _ _ op_add_str (@pe_op _ _ _ _ _ _ _ _ op_add_str (@pe_str _ _ _ _) (pv 3)) (@pe_str _ _ _ _)) (pv 6)) (@pa_nil _) (by rfl)) st_n) (by decide) (by rfl) (by rfl)) (@pe_tup _ _ _ _ _ (@pa_cons _ _ _ _ _ (pv 7) (@pa_cons _ _ _ _ _ (@pe_str _ _ _ _) (@pa_nil _) st_c) st_n)) (nomark _)))))))))),?_⟩
 refine⟨_,rfl,p,4,rfl,ds,by decide,by decide,fun w H1 w0 w4 d1=>?_⟩
 have st1:=st.dr ds d1
 have F1:Fr3 p dn kt H H1:=.b1 fun b u n g=>dr_get d1 n g
 have ds1:=d1.ds
 have l8:=nm.l8
 have ln:=txt_len n
 have kA:(PyData.str "ok").canLay0=true:=ok_ok
 clear d1 st ds
 refine⟨fun b H'=>H'=H1∧(b=false→hasE es n=true),?_,?_⟩
 ·obtain⟨kvs,kts,M,Kp,r1,r2⟩:=st1.ex
  refine⟨_,rfl,_,rfl,kp,.ref kt,rfl,.inl ⟨_,.inr "tables",.inl Kp.gP,rfl,rfl⟩,kt,valV kts (kn n),rfl,.inl ⟨kts,kn n,.inl Kp.gT,rfl,rfl⟩,!hasE es n,by rw[r2.some],?_⟩
  cases hE:hasE es n with
  | true=>exact⟨_,rfl,rfl,decide (V.int w=V.int 0),rfl,rfl,fun _=>rfl⟩
  | false=>exact⟨rfl,fun z=>nomatch z⟩
 rintro b H' ⟨rfl,hb⟩
 cases b with
 | true =>
  refine⟨4,rfl,by decide,by decide,?_⟩
  refine compR (lo:=0) (n:=4) (fun k ys H2=>Dr p H' H2∧∃is:List Int,ys=is.map V.int∧is.length=k∧∀i∈is,-49≤i∧i≤49) ⟨Dr.refl ds1,[],rfl,rfl,fun _ h=>nomatch h⟩ (fun k ys H' hk z=>by obtain⟨_,is,rfl,e,_⟩:=z; rw[List.length_map,e]; exact Nat.le_refl _) (line4 (by decide)) (fun k ys H2 hk z=>?_) (fun ys H2 z l nl=>?_)
  ·obtain⟨z1,is,rfl,z2,z3⟩:=z
   refine⟨_,rfl,p,99,rfl,z1.ds,by decide,by decide,fun r H3 r0 r9 d3=>⟨r,49,rfl,rfl,Nx.mk hk ⟨z1.trans d3,is++[r - 49],by rw[List.map_append]; rfl,by rw[List.length_append,z2]; rfl,fun i hi=>?_⟩⟩⟩
   rcases List.mem_append.mp hi with h | h
   ·exact z3 i h
   ·rw[List.mem_singleton.mp h]; lia
  obtain⟨z1,is,rfl,z2,z3⟩:=z
  match is,z2,z3 with
  | [ta,tb,tc,td],_,z3 =>
  refine⟨l,_,rfl,.inl ⟨SqL.of upd_same,fun l2 n2=>?_⟩⟩
  have S2:=(same_new nl (.lst ([ta,tb,tc,td].map V.int))).trans (same_new n2 (.tup ([ta,tb,tc,td].map V.int)))
  have st2:=(st1.dr ds1 z1).same S2
  have F2:Fr3 p dn kt H _:=F1.trans ((Fr3.b1 fun b u n g=>dr_get z1 n g).trans (.same S2))
  have gp:upd (upd H2 l (.lst ([ta,tb,tc,td].map V.int))) l2 (.tup ([ta,tb,tc,td].map V.int)) l2=some (.tup (Tb.mk ta tb tc td).vs):=upd_same
  generalize upd (upd H2 l (.lst ([ta,tb,tc,td].map V.int))) l2 (.tup ([ta,tb,tc,td].map V.int))=H3 at st2 F2 gp ⊢
  clear S2 z1 n2 nl st1 F1 ds1
  obtain⟨kvs,kts,M,Kp,r1,r2⟩:=st2.ex
  have el:=r2.len
  have ek:=r1.len
  have kk:=rows_ne Kp Kp.gT r2
  have kd:=rows_ne Kp M.gN r1
  have ak:a≠kt:=ne_of M.ia Kp.gT (fun z=>nomatch z)
  have ad:a≠dn:=ne_of M.ia M.gN (fun z=>nomatch z)
  have sl:1000≤sizeLine:=by rw[sizeLine_eq]; decide
  have sm:∀i∈Tb.ns (Tb.mk ta tb tc td),-49≤i∧i≤49:=z3
  have sa:=sm_of (z3 ta (by simp)).1 (z3 ta (by simp)).2
  have sb:=sm_of (z3 tb (by simp)).1 (z3 tb (by simp)).2
  have sc:=sm_of (z3 tc (by simp)).1 (z3 tc (by simp)).2
  have sd:=sm_of (z3 td (by simp)).1 (z3 td (by simp)).2
  have r3:=r2.put (n:=n) (v:=.ref l2) ⟨l2,rfl,gp⟩
  refine⟨_,rfl,kp,.ref kt,rfl,.inl ⟨_,.inr "tables",.inl Kp.gP,rfl,rfl⟩,_,rfl,kt,_,rfl,.inl ⟨kts,kn n,Kp.gT,rfl,by lia,rfl⟩,?_⟩
  have mt:=tup_ne Kp.gT (o:=.dK (putK kts (kn n) (.ref l2)))
  have P4:upd H3 kt (.dK (putK kts (kn n) (.ref l2))) kp=_:=(upd_ne kk).trans Kp.gP
  have T4:upd H3 kt (.dK (putK kts (kn n) (.ref l2))) kt=_:=upd_same
  have M4:DeskAt K C (upd H3 kt (.dK (putK kts (kn n) (.ref l2)))) a dx dn kvs:=⟨(upd_ne ak).trans M.ia,(upd_ne st2.ne).trans M.gN⟩
  have F4:Fr3 p dn kt H (upd H3 kt (.dK (putK kts (kn n) (.ref l2)))):=F2.trans (.b3 smb_put')
  have q1:=r1.map' mt
  have q3:=r3.map' mt
  have gp4:=mt _ _ gp
  have ne:=st2.ne
  have gd:=st2.gd
  generalize upd H3 kt (.dK (putK kts (kn n) (.ref l2)))=H4 at P4 T4 M4 F4 q1 q3 gp4 ⊢
  clear F2 mt r3 r1 r2 M Kp gp st2 z3
  obtain⟨v,u,ev,eu,pv',rfl,gv⟩ : ∃v u,valV (putK kts (kn n) (.ref l2)) (kn n)=some v∧lookE (putE es n (Tb.mk ta tb tc td)) n=some u∧T4o H4 v u:=by
   rcases q3.look (n:=n) with h | ⟨_,h⟩
   ·exact h
   ·rw[put_look] at h; cases h
  rw[put_look] at eu
  cases eu
  have l3:=tl4_len sa sb sc sd
  have e4:("put " : Str).length=4:=rfl
  have e1:(" " : Str).length=1:=rfl
  refine⟨_,rfl,_,rfl,_,_,rfl,rfl,line4 (by rw[e4,ln]; lia),_,_,rfl,rfl,line4 (by rw[app_len,e4,ln,e1]; lia),_,rfl,kp,.ref kt,rfl,.inl ⟨_,.inr "tables",.inl P4,rfl,rfl⟩,_,rfl,kt,_,rfl,.inl ⟨_,kn n,.inl T4,rfl,ev.symm⟩,pv',Tb.ns _,rfl,gv,rfl,fun i hi=>small_lt (sm i hi),fun H5 S5=>?_⟩
  rw[show tt (Tb.ns (Tb.mk ta tb tc td))=txt (tl4 ta tb tc td) from tt_four ta tb tc td]
  refine⟨_,_,rfl,rfl,line4 (by rw[app_len,app_len,e4,ln,e1,txt_len]; lia),?_⟩
  rw[row_put]
  dsimp only [tCons,tC,tNil]
  refine said_put (t:=⟨ta,tb,tc,td⟩) DK (M4.same S5) nm (by lia) sa sb sc sd fun p2 l3 H6 B6 gp6 gd6 gl6=>⟨line4 (show 2≤1000000 by decide),fun l9 n9=>?_⟩
  have S9:=same_new n9 (.tup [.str "ok",.str ""])
  refine⟨_,_,pairDat (S9 _ _ gl6) (.str _),pairDat upd_same (.str _),lay2 kA e_ok,lay2 kA e_ok,(show 1≤60 by decide),?_⟩
  rw[eq_d _ (lay2 kA e_ok)]
  have B9:SmB dn H4 _:=(SmB.of S5).trans (B6.trans (SmB.of S9))
  have m9:∀b xs,H4 b=some (.tup xs)→upd H6 l9 (.tup [.str "ok",.str ""]) b=some (.tup xs):=fun b xs e=>B9 _ _ (ne_of e M4.gN (fun z=>nomatch z)) e
  exact q _ _ ⟨ne,⟨_,_,⟨B9 _ _ ad M4.ia,S9 _ _ gd6⟩,⟨B9 _ _ kd P4,B9 _ _ (Ne.symm ne) T4⟩,(q1.map' m9).put ⟨p2,rfl,S9 _ _ gp6⟩,q3.map' m9⟩,good_put gd nm sm⟩ put_len (F4.trans (.b2 B9))
 | false =>
  have hE:=hb rfl
  refine⟨fun σ H2=>σ=[some (.ref a),some (.ref kp),some (.ref p),some (.str (txt n)),some (.int w),none,none,none]∧Step K C H2 a dx dn kp kt es∧Ds H2 p∧Fr3 p dn kt H H2,?_,?_⟩
  ·refine⟨_,rfl,rfl,decide (V.int w=V.int 1),rfl,?_⟩
   cases hw:decide (V.int w=V.int 1) with
   | false=>exact⟨rfl,st1,ds1,F1⟩
   | true =>
   refine⟨_,rfl,p,3,rfl,ds1,by decide,by decide,fun w3 H2 a0 a3 d2=>⟨rfl,decide (V.int w3=V.int 0),rfl,?_⟩⟩
   have st2:=st1.dr ds1 d2
   have F2:Fr3 p dn kt H H2:=F1.trans (.b1 fun b u n g=>dr_get d2 n g)
   cases hw3:decide (V.int w3=V.int 0) with
   | false=>exact⟨rfl,st2,d2.ds,F2⟩
   | true =>
   obtain⟨kvs,kts,M,Kp,r1,r2⟩:=st2.ex
   have kk:=rows_ne Kp Kp.gT r2
   have kd:=rows_ne Kp M.gN r1
   have ak:a≠kt:=ne_of M.ia Kp.gT (fun z=>nomatch z)
   have ad:a≠dn:=ne_of M.ia M.gN (fun z=>nomatch z)
   have ne:=st2.ne
   have gd:=st2.gd
   obtain⟨v,t,ev,et,tv⟩ : ∃v t,valV kts (kn n)=some v∧lookE es n=some t∧T4o H2 v t:=by
    rcases r2.look (n:=n) with h | ⟨_,h⟩
    ·exact h
    ·rw[has_look,h] at hE; cases hE
   refine⟨_,rfl,kp,.ref kt,rfl,.inl ⟨_,.inr "tables",.inl Kp.gP,rfl,rfl⟩,kt,rfl,.inl ⟨_,.inl Kp.gT⟩,_,rfl,kts,kn n,v,Kp.gT,rfl,ev,?_⟩
   have mt:=tup_ne Kp.gT (o:=.dK (dropK kts (kn n)))
   have P4:upd H2 kt (.dK (dropK kts (kn n))) kp=_:=(upd_ne kk).trans Kp.gP
   have T4:upd H2 kt (.dK (dropK kts (kn n))) kt=_:=upd_same
   have M4:DeskAt K C (upd H2 kt (.dK (dropK kts (kn n)))) a dx dn kvs:=⟨(upd_ne ak).trans M.ia,(upd_ne ne).trans M.gN⟩
   have F4:Fr3 p dn kt H (upd H2 kt (.dK (dropK kts (kn n)))):=F2.trans (.b3 smb_put')
   have q1:=r1.map' mt
   have q3:=(r2.drop (n:=n)).map' mt
   generalize upd H2 kt (.dK (dropK kts (kn n)))=H4 at P4 T4 M4 F4 q1 q3 ⊢
   clear F2 mt r1 r2 M Kp st2 st1 F1 ds1 tv d2
   have e5:("drop " : Str).length=5:=rfl
   have e6:("show " : Str).length=5:=rfl
   refine⟨_,rfl,_,rfl,_,_,rfl,rfl,line4 (by rw[e5,ln]; lia),?_⟩
   rw[row_drop]
   dsimp only [tCons,tC,tNil]
   refine said_drop DK M4 q1 nm et fun l5 H5 B5 gd5 gl5=>⟨line4 (show 2≤1000000 by decide),fun l6 n6=>?_⟩
   have S6:=same_new n6 (.tup [.str "ok",.str ""])
   refine⟨_,_,pairDat (S6 _ _ gl5) (.str _),pairDat upd_same (.str _),lay2 kA e_ok,lay2 kA e_ok,(show 1≤60 by decide),true,eq_d _ (lay2 kA e_ok),?_⟩
   have B6:SmB dn H4 _:=B5.trans (SmB.of S6)
   have gd6:=S6 _ _ gd5
   have m6:∀b xs,H4 b=some (.tup xs)→upd H5 l6 (.tup [.str "ok",.str ""]) b=some (.tup xs):=fun b xs e=>B6 _ _ (ne_of e M4.gN (fun z=>nomatch z)) e
   have q4:=(q1.map' m6).drop (n:=n)
   have q5:=q3.map' m6
   have M6:DeskAt K C _ a dx dn _:=⟨B6 _ _ ad M4.ia,gd6⟩
   have P6:=B6 _ _ kd P4
   have T6:=B6 _ _ (Ne.symm ne) T4
   have F6:=F4.trans (.b2 B6)
   generalize upd H5 l6 (.tup [.str "ok",.str ""])=H6 at M6 P6 T6 F6 q4 q5 ⊢
   refine⟨_,rfl,_,rfl,_,_,rfl,rfl,line4 (by rw[e6,ln]; lia),?_⟩
   rw[row_show]
   dsimp only [tCons,tC,tNil]
   refine said_show DK M6 q4 (good_drop gd) nm (fun t' et'=>by rw[drop_look] at et'; cases et') fun _ l7 H7 S7 gl7=>⟨line4 (show 2≤1000000 by decide),fun l8 n8=>?_⟩
   have S8:=same_new n8 (.tup [.non,.str "NoName+"])
   refine⟨_,_,pairDat (S8 _ _ gl7) .non,pairDat upd_same .non,lay2 rfl nn_ok,lay2 rfl nn_ok,(show 1≤60 by decide),?_⟩
   rw[eq_d _ (lay2 rfl nn_ok)]
   have SS:=S7.trans S8
   exact q _ _ (Step.same ⟨ne,⟨_,_,M6,⟨P6,T6⟩,q4,q5⟩,good_drop gd⟩ SS) (Nat.le_succ_of_le (List.length_filter_le _ _)) (F6.trans (.same SS))
  rintro σ H2 ⟨rfl,st2,ds2,F2⟩
  clear st1 ds1 F1 hb
  obtain⟨kvs,kts,M,Kp,r1,r2⟩:=st2.ex
  have gd:=st2.gd
  have el:=r2.len
  obtain⟨v,t,ev,et,tv⟩ : ∃v t,valV kts (kn n)=some v∧lookE es n=some t∧T4o H2 v t:=by
   rcases r2.look (n:=n) with h | ⟨_,h⟩
   ·exact h
   ·rw[has_look,h] at hE; cases hE
  have l1:=List.length_pos_of_mem (look_mem et)
  refine⟨_,rfl,kp,.ref kt,rfl,.inl ⟨_,.inr "tables",.inl Kp.gP,rfl,rfl⟩,?_⟩
  refine⟨_,rfl,kt,kts,es.map fun e=>txt e.1,rfl,Kp.gT,r2.keys,fun l2 n2=>⟨l2,es.map fun e=>txt e.1,rfl,.inl (SqL.of upd_same),fun l3 zs pm so n3=>?_⟩⟩
  have S3:=(same_new n2 (.lst ((es.map fun e=>txt e.1).map V.str))).trans (same_new n3 (.lst (zs.map V.str)))
  have g3:upd (upd H2 l2 (.lst ((es.map fun e=>txt e.1).map V.str))) l3 (.lst (zs.map V.str)) l3=_:=upd_same
  have pl:p≠l3:=(ds2.same (same_new n2 (.lst ((es.map fun e=>txt e.1).map V.str)))).ne n3
  have st3:=st2.same S3
  have ds3:=ds2.same S3
  have F3:=F2.trans (.same S3)
  have T3:=S3 _ _ Kp.gT
  generalize upd (upd H2 l2 (.lst ((es.map fun e=>txt e.1).map V.str))) l3 (.lst (zs.map V.str))=H3 at st3 ds3 F3 g3 T3 ⊢
  refine⟨_,rfl,_,rfl,kt,kts,rfl,T3,p,_,rfl,ds3,by lia,by lia,fun r H4 r0 r1' d4=>?_⟩
  have st4:=st3.dr ds3 d4
  have F4:=F3.trans (.b1 fun b u n g=>dr_get d4 n g)
  have g4:=dr_get d4 (Ne.symm pl) g3
  clear st3 ds3 F3 g3 T3 S3 st2 M Kp r1 tv F2 d4
  obtain⟨j,rfl⟩ : ∃j:Nat,r=(j:Int):=⟨r.toNat,by lia⟩
  have zl:=pm.length_eq
  rw[List.length_map] at zl
  have hj:j < zs.length:=by lia
  obtain⟨e,he,ee⟩:=List.mem_map.mp (pm.mem_iff.mp (List.getElem_mem hj))
  have e1:(zs.map V.str)[j]?=some (.str (txt e.1)):=by rw[List.getElem?_map,List.getElem?_eq_getElem hj,ee]; rfl
  obtain⟨u,eu⟩:=look_of (n:=e.1) (t:=e.2) he
  have nm2:Nm e.1:=(gd _ he).1
  have m8:=nm2.l8
  obtain⟨kvs4,kts4,M4,Kp4,r14,r24⟩:=st4.ex
  obtain⟨v1,ev1,tv1⟩ : ∃v,valV kts4 (kn n)=some v∧T4o H4 v t:=by
   rcases r24.look (n:=n) with ⟨v,t',h1,h2,h3⟩ | ⟨_,h⟩
   ·rw[et] at h2; cases h2; exact⟨v,h1,h3⟩
   ·rw[et] at h; cases h
  obtain⟨v2,ev2,tv2⟩ : ∃v,valV kts4 (kn e.1)=some v∧T4o H4 v u:=by
   rcases r24.look (n:=e.1) with ⟨v,t',h1,h2,h3⟩ | ⟨_,h⟩
   ·rw[eu] at h2; cases h2; exact⟨v,h1,h3⟩
   ·rw[eu] at h; cases h
  have ba:=small_bd (gd _ (look_mem et)).2
  have bb:=small_bd (gd _ (look_mem eu)).2
  refine⟨l3,_,_,_,rfl,rfl,SqL.of g4,atI_nat e1,?_⟩
  refine⟨_,rfl,_,rfl,kt,v1,rfl,.inl ⟨kts4,kn n,.inl Kp4.gT,rfl,ev1.symm⟩,_,rfl,_,rfl,kt,v2,rfl,.inl ⟨kts4,kn e.1,.inl Kp4.gT,rfl,ev2.symm⟩,v1,v2,t,u,400,400,rfl,tv1.t4,tv2.t4,ba,bb,by decide,by decide,fun r H5 S5 g5=>?_⟩
  obtain⟨pp,rfl,gpp⟩:=g5
  refine⟨pp,Tb.ns (t.mul u),rfl,gpp,rfl,(fun i hi=>(K3.Bd.mem (ba.mul bb) i hi).mono (by decide)),fun H6 S6=>?_⟩
  have S56:=S5.trans S6
  have e6:("times " : Str).length=6:=rfl
  have eb:(" " : Str).length=1:=rfl
  refine⟨_,rfl,_,rfl,_,_,rfl,rfl,line4 (by rw[e6,ln]; lia),_,_,rfl,rfl,line4 (by rw[app_len,e6,ln,eb]; lia),_,rfl,_,_,rfl,rfl,line4 (by rw[app_len,app_len,e6,ln,eb,txt_len]; lia),?_⟩
  rw[row_times]
  dsimp only [tCons,tC,tNil]
  refine said_times DK (M4.same S56) (r14.same S56) gd nm nm2 et eu fun l7 H7 S7 gl7=>⟨_,rfl,line4 (show 2≤1000000 by decide),fun l8 n8=>?_⟩
  have S8:=same_new n8 (.tup [.str (tt (Tb.ns (t.mul u))),.str ""])
  have tA:(PyData.str (tt (Tb.ns (t.mul u)))).canLay0=true:=ok_as (tt_as _)
  refine⟨_,_,pairDat (S8 _ _ gl7) (.str _),pairDat upd_same (.str _),lay2 tA e_ok,lay2 tA e_ok,(show 1≤60 by decide),?_⟩
  rw[eq_d _ (lay2 tA e_ok)]
  have SS:=S56.trans (S7.trans S8)
  exact q _ _ (st4.same SS) (Nat.le_succ _) (F4.trans (.same SS))
end
end K3
end
section
set_option maxRecDepth 100000
set_option maxHeartbeats 4000000
namespace K3
open PySem PySem.Spec PyProof.Rows L2
section
variable {P:Program}{w:World}{K:PySem.W.Frag}{mg:Str→Option Value}{base:Heap}
theorem sq_move {b:Addr}{H H':Hp}{xs:List V} (h:SqL K H b xs) (F:∀u,H b=some u→(u=.lst xs∨∃o,u=.frz o (.lst xs))→H' b=some u):SqL K H' b xs:=by
 rcases h with (h | ⟨o,h⟩) | h
 ·exact .inl (.inl (F _ h (.inl rfl)))
 ·exact .inl (.inr ⟨o,F _ h (.inr ⟨o,rfl⟩)⟩)
 ·exact .inr h
theorem sq_dr {b p:Addr}{H H':Hp}{xs:List V}{H0:Hp} (h0:SqL K H0 b xs) (S:Same H0 H) (n:H0 p=none) (d:Dr p H H'):SqL K H' b xs :=
 sq_move h0 fun u e _=>dr_get d (ne_of_none e n) (S _ _ e)
theorem sq_fr {b p dn kt:Addr}{H H' H0:Hp}{xs:List V}{k1 k2:List (Key×V)} (h0:SqL K H0 b xs) (S:Same H0 H) (n:H0 p=none) (g1:H0 dn=some (.dK k1)) (g2:H0 kt=some (.dK k2)) (F:Fr3 p dn kt H H'):SqL K H' b xs :=
 sq_move h0 fun u e hu=>F _ _ (ne_of_none e n) (ne_of e g1 (by rcases hu with rfl | ⟨o,rfl⟩ <;> exact fun z=>nomatch z)) (ne_of e g2 (by rcases hu with rfl | ⟨o,rfl⟩ <;> exact fun z=>nomatch z)) (S _ _ e)
theorem cutT_take (zs:List Str) (i:Nat):cutV (tvs zs) none (some ((i:Nat):Int))=tvs (zs.take i):=by
 unfold cutV
 rw[HT.sIx_none,List.drop_zero,Nat.sub_zero]
 rw[HT.sIx_nat,List.length_map]
 show List.take _ (List.map _ zs)=List.map _ (List.take _ zs)
 rw[List.map_take]
 by_cases h:i≤zs.length
 ·rw[Nat.min_eq_left h]
 ·rw[Nat.min_eq_right (by lia),List.take_of_length_le (by rw[List.length_map]; lia),List.take_of_length_le (by rw[List.length_map]; lia)]
theorem none_of {H H':Hp}{b:Addr} (S:Same H H') (n:H' b=none):H b=none:=by
 cases e:H b with
 | none=>rfl
 | some u=>rw[S _ _ e] at n; cases n
structure AllD where
 draws:DD
 draw:DD
 nm:DD
 de:DD
 st:DD
 in':DD
structure All (C:Addr) (P:Program) (w:World) (K:PySem.W.Frag) (mg:Str→Option Value) (base:Heap) (d:AllD):Prop where
 D_draws:Def K mg "_law_draws" (top 171) ["script","k"] d.draws
 D_draw:Def K mg "_law_draw" (top 166) ["draws","many"] d.draw
 D_nm:Def K mg "_law_names" (top 173) ["draws"] d.nm
 D_de:Def K mg "_law_deed_right" (top 174) ["desk","kept","draws","name"] d.de
 D_st:Def K mg "_law_stands" (top 172) ["desk","kept"] d.st
 D_in:MDef K C "__init__" "Desk.__init__" (meth 0) ["self"] d.in'
 G_draws:FnOk P w K mg base CX0 1 d.draws.f d.draws.fd ["script","k"] (spDraws K)
 G_draw:FnOk P w K mg base CX0 1 d.draw.f d.draw.fd ["draws","many"] spDraw
 G_nm:FnOk P w K mg base CX0 2 d.nm.f d.nm.fd ["draws"] spNm
 G_de:FnOk P w K mg base CX0 8 d.de.f d.de.fd ["desk","kept","draws","name"] (spDe K C)
 G_st:FnOk P w K mg base CX0 8 d.st.f d.st.fd ["desk","kept"] (spSt K C)
 G_in:FnOk P w K mg base CX0 1 d.in'.f d.in'.fd ["self"] (spIn K C)
 MK:L2.Mk K C d.in'.f
 m_Desk:mg "Desk"=some (.ref C)
 b_range:mg "range"=none
 b_len:mg "len"=none
theorem sc_law:FnScope ["script","first","names","many","desk","kept","k","draws","name"] ["script"] (defScope (top 175)):=⟨rfl,rfl,rfl,by decide +kernel,rfl,by decide +kernel,by decide +kernel⟩
def spLaw (K:PySem.W.Frag):Sp:=fun vs H Q _=>∃(a:Addr) (ns:List Int),vs=[.ref a]∧SqL K H a (ns.map V.int)∧ns.length≤63∧∀H',Q (.bl true) H'
theorem ok_law {C:Addr}{d:DD}{D:AllD} (A:All C P w K mg base D) (DL:Def K mg "law" (top 175) ["script"] d):FnOk P w K mg base CX0 9 d.f d.fd ["script"] (spLaw K):=by
 refine DL.fn.ok sc_law (fun vs H Q E h=>?_) (fun cdv Ar outer s H vs Q E hr h=>?_)
 ·obtain⟨a,ns,rfl,_⟩:=h
  rfl
 obtain⟨a,ns,rfl,hS,h63,q⟩:=h
 have hc:=hr.calm
 have nd:=sc_law.nd
 refine⟨_,(@pss_cons _ _ _ _ _ (@ps_set _ _ (1) _ _ _ _ nd rfl (Or.inl rfl) (@pe_call _ _ _ _ _ _ _ _ _ _ _ _ _ _ _ _ (A.G_draws.mono (by decide)) hr rfl A.D_draws.m A.D_draws.fn.kp A.D_draws.b .nil pass0 (@pa_cons _ _ _ _ _ (pv 0) (@pa_cons _ _ _ _ _ (@pe_int _ _ _ _) (@pa_nil _) st_c) st_n) (by decide) (by rfl) (by rfl)) (by rfl) (by first | exact .inl rfl | exact .inr rfl | assumption)) (@pss_cons _ _ _ _ _ (@ps_set _ _ (2) _ _ _ _ nd rfl (Or.inl rfl) (@pe_call _ _ _ _ _ _ _ _ _ _ _ _ _ _ _ _ (A.G_nm.mono (by decide)) hr rfl A.D_nm.m A.D_nm.fn.kp A.D_nm.b .nil pass0 (@pa_cons _ _ _ _ _ (pv 1) (@pa_nil _) st_n) (by decide) (by rfl) (by rfl)) (by rfl) (by first | exact .inl rfl | exact .inr rfl | assumption)) (@pss_cons _ _ _ _ _ (@ps_set _ _ (3) _ _ _ _ nd rfl (Or.inl rfl) (@pe_op _ _ _ _ _ _ _ _ op_mul (@pe_int _ _ _ _) (@pe_callB _ _ _ _ _ _ _ _ _ call_len_seq rfl A.b_len bt_len (@pa_cons _ _ _ _ _ (pv 2) (@pa_nil _) st_n) (by decide) (by decide) (by rfl) (by rfl))) (by rfl) (by first | exact .inl rfl | exact .inr rfl | assumption)) (@pss_cons _ _ _ _ _ (@ps_mid _ _ _ (@ps_if _ _ _ _ _ _ _ _ (@pt_cmpR _ _ _ _ _ _ _ _ op_eq (@pe_call _ _ _ _ _ _ _ _ _ _ _ _ _ _ _ _ (A.G_draw.mono (by decide)) hr rfl A.D_draw.m A.D_draw.fn.kp A.D_draw.b .nil pass0 (@pa_cons _ _ _ _ _ (pv 1) (@pa_cons _ _ _ _ _ (@pe_int _ _ _ _) (@pa_nil _) st_c) st_n) (by decide) (by rfl) (by rfl)) (@pe_int _ _ _ _) (nomark _)) (@pss_cons _ _ _ _ _ (@ps_set _ _ (2) _ _ _ _ nd rfl (Or.inl rfl) (@pe_slice _ _ _ _ _ _ _ _ _ _ sl_list (pv 2) (@po_none _) (@po_some _ _ _ (@pe_int _ _ _ _))) (by rfl) (by first | exact .inl rfl | exact .inr rfl | assumption)) (@pss_one _ _ _ (@ps_set _ _ (3) _ _ _ _ nd rfl (Or.inl rfl) (@pe_int _ _ _ _) (by rfl) (by first | exact .inl rfl | exact .inr rfl | assumption)))) (@pss_nil _))) (@pss_cons _ _ _ _ _ (@ps_set _ _ (4) _ _ _ _ nd rfl (Or.inl rfl) (@pe_make0 _ _ _ _ _ _ _ _ _ _ _ _ _ _ A.MK (A.G_in.mono (by decide)) hr rfl A.m_Desk A.D_in.b .nil pass0 (by decide)) (by rfl) (by first | exact .inl rfl | exact .inr rfl | assumption)) (@pss_cons _ _ _ _ _ (@ps_set _ _ (5) _ _ _ _ nd rfl (Or.inl rfl) (@pe_disp _ _ _ _ _ (@pps_cons _ _ _ _ _ _ _ _ _ (@pe_str _ _ _ _) (@pe_dnewK _ _) (@pps_cons _ _ _ _ _ _ _ _ _ (@pe_str _ _ _ _) (@pe_non _ _ _) (@pps_nil _ _))) rfl rfl (by simp) (by decide)) (by rfl) (by first | exact .inl rfl | exact .inr rfl | assumption)) (@pss_cons _ _ _ _ _ (@ps_for _ _ _ _ _ _ _ _ PassesOwn.never hc (@pi_range1 _ _ _ _ _ _ rfl A.b_range (@pa_cons _ _ _ _ _ (pv 3) (@pa_nil _) st_n) (by rfl)) (@pg_name _ _ (6) _ nd rfl (Or.inl rfl) (by first | exact .inl rfl | exact .inr rfl | assumption)) (@pss_cons _ _ _ _ _ (@ps_set _ _ (7) _ _ _ _ nd rfl (Or.inl rfl) (@pe_call _ _ _ _ _ _ _ _ _ _ _ _ _ _ _ _ (A.G_draws.mono (by decide)) hr rfl A.D_draws.m A.D_draws.fn.kp A.D_draws.b .nil pass0 (@pa_cons _ _ _ _ _ (pv 0) (@pa_cons _ _ _ _ _ (@pe_op _ _ _ _ _ _ _ _ op_add (@pe_int _ _ _ _) (pv 6)) (@pa_nil _) (by rfl)) st_n) (by decide) (by rfl) (by rfl)) (by rfl) (by first | exact .inl rfl | exact .inr rfl | assumption)) (@pss_cons _ _ _ _ _ (@ps_set _ _ (8) _ _ _ _ nd rfl (Or.inl rfl) (@pe_ix _ _ _ _ _ _ _ ix_list (pv 2) (@pe_op _ _ _ _ _ _ _ _ op_mod (pv 6) (@pe_callB _ _ _ _ _ _ _ _ _ call_len_seq rfl A.b_len bt_len (@pa_cons _ _ _ _ _ (pv 2) (@pa_nil _) st_n) (by decide) (by decide) (by rfl) (by rfl))) (fun _ _=>rfl)) (by rfl) (by first | exact .inl rfl | exact .inr rfl | assumption)) (@pss_cons _ _ _ _ _ (@ps_mid _ _ _ (@ps_if _ _ _ _ _ _ _ _ (@pt_cmpR _ _ _ _ _ _ _ _ op_ge (pv 6) (@pe_callB _ _ _ _ _ _ _ _ _ call_len_seq rfl A.b_len bt_len (@pa_cons _ _ _ _ _ (pv 2) (@pa_nil _) st_n) (by decide) (by decide) (by rfl) (by rfl)) (nomark _)) (@pss_one _ _ _ (@ps_set _ _ (8) _ _ _ _ nd rfl (Or.inl rfl) (@pe_ix _ _ _ _ _ _ _ ix_list (pv 2) (@pe_call _ _ _ _ _ _ _ _ _ _ _ _ _ _ _ _ (A.G_draw.mono (by decide)) hr rfl A.D_draw.m A.D_draw.fn.kp A.D_draw.b .nil pass0 (@pa_cons _ _ _ _ _ (pv 7) (@pa_cons _ _ _ _ _ (@pe_callB _ _ _ _ _ _ _ _ _ call_len_seq rfl A.b_len bt_len (@pa_cons _ _ _ _ _ (pv 2) (@pa_nil _) st_n) (by decide) (by decide) (by rfl) (by rfl)) (@pa_nil _) st_f) st_n) (by decide) (by rfl) (by rfl)) (fun _ _=>rfl)) (by rfl) (by first | exact .inl rfl | exact .inr rfl | assumption))) (@pss_nil _))) (@pss_cons _ _ _ _ _ (@ps_if _ _ _ _ _ _ _ _ (@pt_not _ _ _ _ (@pt_val _ _ _ (@pe_call _ _ _ _ _ _ _ _ _ _ _ _ _ _ _ _ (A.G_de.mono (by decide)) hr rfl A.D_de.m A.D_de.fn.kp A.D_de.b .nil pass0 (@pa_cons _ _ _ _ _ (pv 4) (@pa_cons _ _ _ _ _ (pv 5) (@pa_cons _ _ _ _ _ (pv 7) (@pa_cons _ _ _ _ _ (pv 8) (@pa_nil _) st_n) st_n) st_n) st_n) (by decide) (by rfl) (by rfl)) (by intro _; rfl))) (@pss_one _ _ _ (@ps_ret _ _ _ _ (@pe_bl _ _ _ _))) (@pss_nil _)) (@pss_one _ _ _ (@ps_if _ _ _ _ _ _ _ _ (@PW.pt _ _ _ (@pw_and _ _ _ _ _ _ _ (@pt_cmpR _ _ _ _ _ _ _ _ op_eq (@pe_op _ _ _ _ _ _ _ _ op_mod (pv 6) (@pe_int _ _ _ _)) (@pe_int _ _ _ _) (nomark _)) (@pw_and1 _ _ _ _ (@pt_not _ _ _ _ (@pt_val _ _ _ (@pe_call _ _ _ _ _ _ _ _ _ _ _ _ _ _ _ _ (A.G_st.mono (by decide)) hr rfl A.D_st.m A.D_st.fn.kp A.D_st.b .nil pass0 (@pa_cons _ _ _ _ _ (pv 4) (@pa_cons _ _ _ _ _ (pv 5) (@pa_nil _) st_n) st_n) (by decide) (by rfl) (by rfl)) (by intro _; rfl)))))) (@pss_one _ _ _ (@ps_ret _ _ _ _ (@pe_bl _ _ _ _))) (@pss_nil _))))))) (by intro _; rfl)) (@pss_one _ _ _ (@ps_ret _ _ _ _ (@pe_call _ _ _ _ _ _ _ _ _ _ _ _ _ _ _ _ (A.G_st.mono (by decide)) hr rfl A.D_st.m A.D_st.fn.kp A.D_st.b .nil pass0 (@pa_cons _ _ _ _ _ (pv 4) (@pa_cons _ _ _ _ _ (pv 5) (@pa_nil _) st_n) st_n) (by decide) (by rfl) (by rfl))))))))))),?_⟩
 refine⟨_,rfl,a,ns,0,rfl,hS,by decide,by decide,fun l H1 S1 nl ds=>?_⟩
 have aS:=S1.seq hS
 refine⟨_,rfl,l,rfl,ds,fun L nm H2 d2 nL gL nu n1 n40 hN=>?_⟩
 have lL:l≠L:=ds.ne nL
 have a2:=sq_dr hS S1 nl d2
 refine⟨_,rfl,L,_,rfl,.inl (SqL.of gL),_,_,rfl,rfl,.inl ⟨by decide,by decide⟩,?_⟩
 rw[List.length_map,List.length_map]
 refine⟨fun σ H'=>∃(L':Addr) (nm:List (List Nat)) (m:Nat),σ=[some (.ref a),some (.ref l),some (.ref L'),some (.int (m:Int)),none,none,none,none,none]∧H' L'=some (.lst (tvs (nm.map txt)))∧1≤nm.length∧nm.length≤40∧(∀n∈nm,Nm n)∧m≤600∧SqL K H' a (ns.map V.int),?_,?_⟩
 ·refine⟨_,rfl,l,3,rfl,d2.ds,by decide,by decide,fun r H3 r0 r3 d3=>⟨rfl,decide (V.int r=V.int 0),rfl,?_⟩⟩
  have gL3:=dr_get d3 (Ne.symm lL) gL
  have a3:=sq_dr hS S1 nl (d2.trans d3)
  cases hr0:decide (V.int r=V.int 0) with
  | true =>
   refine⟨_,rfl,_,rfl,L,_,rfl,SqL.of gL3,fun L2 nL2=>?_⟩
   have S4:=same_new nL2 (.lst (cutV (tvs (nm.map txt)) none (some 3)))
   refine⟨L2,nm.take 3,600,rfl,?_,?_,?_,fun n hn=>hN n (List.mem_of_mem_take hn),by decide,S4.seq a3⟩
   ·rw[upd_same,show cutV (tvs (nm.map txt)) none (some 3)=_ from cutT_take (nm.map txt) 3,List.map_take]
   ·rw[List.length_take]; lia
   ·rw[List.length_take]; lia
  | false =>
   exact⟨L,nm,2 * nm.length,by rw[Int.natCast_mul]; rfl,gL3,n1,n40,hN,by lia,a3⟩
 clear aS a2 hS gL nL lL nu n1 n40 hN d2 S1 nl ds
 rintro σ H3 ⟨L,nm,m,rfl,gL,n1,n40,hN,m6,aS⟩
 intro x dx e1 e2 ne
 have Sm:Same H3 (upd (upd H3 dx (.own x)) x (.ins C dx [])):=(same_new e2 _).trans (same_new ((upd_ne (Ne.symm ne)).trans e1) _)
 refine⟨x,dx,rfl,upd_same,fun dn H4 B4 ndn M4=>⟨rfl,?_⟩⟩
 have S4:Same H3 H4:=fun b u e=>B4 _ _ (ne_of_none e e1) (Sm _ _ e)
 have gL4:=S4 _ _ gL
 have aS4:=S4.seq aS
 clear Sm B4 ndn ne S4 aS gL e1 e2
 refine fun kp nkp kt nkt=>?_
 have kk:kp≠kt:=ne_of_none (upd_same) nkt
 refine⟨(upd_ne kk).trans upd_same,[(.inr "tables",.ref kt),(.inr "mill",.non)],rfl,(show 2≤15 by decide),?_⟩
 have nkt4:H4 kt=none:=none_of (same_new nkp (.dK [])) nkt
 have S5:Same H4 (upd (upd (upd H4 kp (.dK [])) kt (.dK [])) kp (.dK [(.inr "tables",.ref kt),(.inr "mill",.non)])):=fun b u e=>by
  rw[upd_ne (ne_of_none e nkp),upd_ne (ne_of_none e nkt4),upd_ne (ne_of_none e nkp)]; exact e
 have st:Step K C (upd (upd (upd H4 kp (.dK [])) kt (.dK [])) kp (.dK [(.inr "tables",.ref kt),(.inr "mill",.non)])) x dx dn kp kt [] :=
  ⟨ne_of_none M4.gN nkt4,⟨[],[],M4.same S5,⟨upd_same,(upd_ne (Ne.symm kk)).trans upd_same⟩,.nil,.nil⟩,fun e h=>nomatch h⟩
 have gL5:=S5 _ _ gL4
 have aS5:=S5.seq aS4
 show tSeq _ _ _ _ (upd (upd (upd H4 kp (.dK [])) kt (.dK [])) kp (.dK [(.inr "tables",.ref kt),(.inr "mill",.non)]))
 generalize upd (upd (upd H4 kp (.dK [])) kt (.dK [])) kp (.dK [(.inr "tables",.ref kt),(.inr "mill",.non)])=H5 at st gL5 aS5 ⊢
 clear S5 nkt4 nkp nkt kk M4 gL4 aS4
 refine⟨_,rfl,m,rfl,by lia,by lia,?_⟩
 refine for_range (lo:=0) (n:=(m:Int).toNat) (fun i σ H'=>∃(es:List (List Nat×Tb)) (e6 e7 e8:Option V),σ=[some (.ref a),some (.ref l),some (.ref L),some (.int (m:Int)),some (.ref x),some (.ref kp),e6,e7,e8]∧Step K C H' x dx dn kp kt es∧es.length≤i∧H' L=some (.lst (tvs (nm.map txt)))∧SqL K H' a (ns.map V.int)) ⟨[],none,none,none,rfl,st,Nat.le_refl _,gL5,aS5⟩ (fun i σ H' hi z=>?_) (fun σ H' z=>?_)
 ·obtain⟨es,e6,e7,e8,rfl,st,el,gL,aS⟩:=z
  have hi':i < 600:=by lia
  refine⟨_,rfl,_,rfl,_,_,rfl,rfl,a,ns,_,rfl,aS,by lia,by lia,fun p H6 S6 np ds=>?_⟩
  have st6:=st.same S6
  have gL6:=S6 _ _ gL
  have pL:p≠L:=Ne.symm (ne_of_none gL np)
  have tl:(tvs (nm.map txt)).length=nm.length:=by rw[List.length_map,List.length_map]
  have at':∀j:Nat,j < nm.length→∃n∈nm,(tvs (nm.map txt))[j]?=some (.str (txt n)):=fun j hj=>⟨nm[j],List.getElem_mem hj,by rw[List.getElem?_map,List.getElem?_map,List.getElem?_eq_getElem hj]; rfl⟩
  obtain⟨n0,hn0,en0⟩:=at' (i % nm.length) (Nat.mod_lt _ (by lia))
  refine⟨_,rfl,_,rfl,_,rfl,L,_,rfl,.inl (SqL.of gL6),_,_,rfl,rfl,(by rw[tl]; lia),L,_,((i % nm.length:Nat):Int),_,rfl,(by rw[tl]; congr 1; lia),SqL.of gL6,atI_nat en0,?_⟩
  refine⟨fun σ H7=>∃n∈nm,σ=[some (.ref a),some (.ref l),some (.ref L),some (.int (m:Int)),some (.ref x),some (.ref kp),some (.int (0+(i:Int))),some (.ref p),some (.str (txt n))]∧Dr p H6 H7,?_,?_⟩
  ·obtain⟨c,ec⟩ : ∃c,c=decide (((tvs (nm.map txt)).length:Int)≤0+(i:Int)):=⟨_,rfl⟩
   refine⟨_,rfl,_,rfl,L,_,rfl,.inl (SqL.of gL6),_,_,rfl,rfl,c,by rw[ec],?_⟩
   clear ec
   cases c with
   | true =>
    refine⟨_,rfl,_,rfl,_,rfl,L,_,rfl,.inl (SqL.of gL6),p,_,rfl,ds,by rw[tl]; lia,by rw[tl]; lia,fun r H7 r0 r1 d7=>?_⟩
    rw[tl] at r1
    obtain⟨j,rfl⟩ : ∃j:Nat,r=(j:Int):=⟨r.toNat,by lia⟩
    obtain⟨n,hn,en⟩:=at' j (by lia)
    exact⟨L,_,_,_,rfl,rfl,SqL.of (dr_get d7 (Ne.symm pL) gL6),atI_nat en,n,hn,rfl,d7⟩
   | false=>exact⟨n0,hn0,rfl,Dr.refl ds⟩
  rintro σ H7 ⟨n,hn,rfl,d7⟩
  have st7:=st6.dr ds d7
  obtain⟨kv0,kt0,M0,Kp0,_,_⟩:=st.ex
  refine⟨_,rfl,_,rfl,_,rfl,_,rfl,x,dx,dn,kp,kt,es,p,n,rfl,st7,by lia,d7.ds,hN n hn,fun es' H8 st8 l8 F8=>⟨true,rfl,?_⟩⟩
  have F6:Fr3 p dn kt H6 H8:=(Fr3.b1 fun b u n g=>dr_get d7 n g).trans F8
  have gL8:=F6 _ _ (Ne.symm pL) (ne_of gL6 (S6 _ _ M0.gN) (fun z=>nomatch z)) (ne_of gL6 (S6 _ _ Kp0.gT) (fun z=>nomatch z)) gL6
  have aS8:=sq_fr aS S6 np M0.gN Kp0.gT F6
  obtain⟨c,ec⟩ : ∃c,c=decide (V.int ((0+(i:Int)) % 100)=V.int 99):=⟨_,rfl⟩
  refine⟨_,rfl,_,_,rfl,rfl,(show (0:Int) < 100 by decide),rfl,c,by rw[ec],?_⟩
  clear ec
  cases c with
  | false=>exact⟨es',_,_,_,rfl,st8,by lia,gL8,aS8⟩
  | true =>
   obtain⟨kvs,kts,M,Kp,r1,r2⟩:=st8.ex
   exact⟨_,rfl,_,rfl,x,dx,dn,kvs,kp,kt,kts,es',rfl,M,Kp,st8.ne,r1,r2,st8.gd,by lia,fun H9 S9=>⟨true,rfl,es',_,_,_,rfl,st8.same S9,by lia,S9 _ _ gL8,S9.seq aS8⟩⟩
 ·obtain⟨es,e6,e7,e8,rfl,st,el,gL,aS⟩:=z
  obtain⟨kvs,kts,M,Kp,r1,r2⟩:=st.ex
  exact⟨_,rfl,_,rfl,x,dx,dn,kvs,kp,kt,kts,es,rfl,M,Kp,st.ne,r1,r2,st.gd,by lia,fun H' _=>q H'⟩
end
end K3
end
section
set_option maxRecDepth 100000
set_option maxHeartbeats 4000000
namespace K3
open PySem PySem.Spec PyProof.Rows L2
theorem len1 {us:List Value} (h:us.length=1):∃a,us=[a]:=match us,h with | [a],_=>⟨a,rfl⟩
theorem len2 {us:List Value} (h:us.length=2):∃a b,us=[a,b]:=match us,h with | [a,b],_=>⟨a,b,rfl⟩
theorem len3 {us:List Value} (h:us.length=3):∃a b c,us=[a,b,c]:=match us,h with | [a,b,c],_=>⟨a,b,c,rfl⟩
theorem len4 {us:List Value} (h:us.length=4):∃a b c d,us=[a,b,c,d]:=match us,h with | [a,b,c,d],_=>⟨a,b,c,d,rfl⟩
def FIn (K:PySem.W.Frag) (fn:Str) (st:Stmt):Prop:=∃(f:Addr) (oc:Value) (od an:Option Addr) (sl:Array (Option Value)) (kV dc pm cd ct:Value),PySem.W.nsIn K mainGlobals fn=some (some (.ref f))∧K.lookup f=some ⟨oc,od,.func (PySem.W.fnOf fn fn (defArgs st) (defBody st) (defScope st) .none kV dc pm an cd ct),sl⟩∧PySem.W.codeIn K cd fn=true∧PySem.W.keepIn K (.ref f)=true
theorem FIn.of {K:PySem.W.Frag}{fn:Str}{st:Stmt}{f:Addr}{oc:Value}{od an:Option Addr}{sl:Array (Option Value)}{kV dc pm cd ct:Value} (a:PySem.W.nsIn K mainGlobals fn=some (some (.ref f))) (l:K.lookup f=some ⟨oc,od,.func (PySem.W.fnOf fn fn (defArgs st) (defBody st) (defScope st) .none kV dc pm an cd ct),sl⟩) (c:PySem.W.codeIn K cd fn=true) (k:PySem.W.keepIn K (.ref f)=true):FIn K fn st:=⟨f,oc,od,an,sl,kV,dc,pm,cd,ct,a,l,c,k⟩
theorem FIn.dd {K:PySem.W.Frag}{fn:Str}{st:Stmt}{h:Heap}{mg:Str→Option Value} (a:FIn K fn st) (X:K.In h) (G:h.Ns mainGlobals mg) {ps:List Str} (hb:∀(kV doc pm:Value) (an:Option Addr) (cdv ct:Value) (us:List Value),us.length=ps.length→bindArgs (PySem.W.fnOf fn fn (defArgs st) (defBody st) (defScope st) .none kV doc pm an cdv ct) ⟨us,[]⟩=pure (ps.zip us)):∃d:DD,Def K mg fn st ps d:=by
 obtain⟨f,oc,od,an,sl,kV,dc,pm,cd,ct,a,l,c,k⟩:=a
 have F:=fun_mk (st:=st) l c k
 exact⟨⟨f,_⟩,F,PySem.W.mg_of X G a,F.binds (ps:=ps) hb⟩
def MIn (K:PySem.W.Frag) (C:Addr) (m qual:Str) (st:Stmt):Prop:=∃(f:Addr) (oc:Value) (od an:Option Addr) (sl:Array (Option Value)) (kV dc pm cd ct:Value),PySem.W.findIn K (.ref C) m=some (some (.ref f))∧K.lookup f=some ⟨oc,od,.func (PySem.W.fnOf m qual (defArgs st) (defBody st) (defScope st) .none kV dc pm an cd ct),sl⟩∧PySem.W.codeIn K cd qual=true∧PySem.W.keepIn K (.ref f)=true∧PySem.W.isFn K (.ref f)=true
theorem MIn.of {K:PySem.W.Frag}{C:Addr}{m qual:Str}{st:Stmt}{f:Addr}{oc:Value}{od an:Option Addr}{sl:Array (Option Value)}{kV dc pm cd ct:Value} (a:PySem.W.findIn K (.ref C) m=some (some (.ref f))) (l:K.lookup f=some ⟨oc,od,.func (PySem.W.fnOf m qual (defArgs st) (defBody st) (defScope st) .none kV dc pm an cd ct),sl⟩) (c:PySem.W.codeIn K cd qual=true) (k:PySem.W.keepIn K (.ref f)=true) (i:PySem.W.isFn K (.ref f)=true):MIn K C m qual st:=⟨f,oc,od,an,sl,kV,dc,pm,cd,ct,a,l,c,k,i⟩
theorem MIn.dd {K:PySem.W.Frag}{C:Addr}{m qual:Str}{st:Stmt} (a:MIn K C m qual st) {ps:List Str} (hb:∀(kV doc pm:Value) (an:Option Addr) (cdv ct:Value) (us:List Value),us.length=ps.length→bindArgs (PySem.W.fnOf m qual (defArgs st) (defBody st) (defScope st) .none kV doc pm an cdv ct) ⟨us,[]⟩=pure (ps.zip us)):∃d:DD,MDef K C m qual st ps d:=by
 obtain⟨f,oc,od,an,sl,kV,dc,pm,cd,ct,a,l,c,k,i⟩:=a
 have F:=fun_mk (st:=st) l c k
 exact⟨⟨f,_⟩,F,⟨a,i,k⟩,F.binds (ps:=ps) hb⟩
theorem ks24:(["put","drop","names","show","times","word","wide","made","ways","free","rank","within","basis","hull","share","stuck","root","kin","mill","feed","undo","text","now","rests"]:List Str).Nodup:=by decide +kernel
theorem ent_cons {e:Ent}{es:List Ent} (h:RelV e.x e.v) (r:∀x∈es,RelV x.x x.v):∀x∈e::es,RelV x.x x.v:=fun x hx=>by
 rcases List.mem_cons.mp hx with rfl | hx
 ·exact h
 ·exact r x hx
theorem all_mk {l:PySem.W.OpenLaw}{w:World}{K:PySem.W.Frag}{h:Heap}{mg:Str→Option Value}{fa:Addr} (X:K.In h) (G:h.Ns mainGlobals mg) (hfa:mg "law"=some (.ref fa))
  (a_draw:FIn K "_law_draw" (top 166))
  (a_draws:FIn K "_law_draws" (top 171))
  (a_kind:FIn K "_law_kind" (top 167))
  (a_prod:FIn K "product" (top 33))
  (a_fo:FIn K "figures_of" (top 121))
  (a_nt:FIn K "number_text" (top 122))
  (a_tt:FIn K "table_text" (top 123))
  (a_fig:FIn K "is_figures" (top 124))
  (a_int:FIn K "is_number_text" (top 125))
  (a_read:FIn K "read_table" (top 126))
  (a_chk:FIn K "check_name" (top 133))
  (a_kd:FIn K "kinds_of" (top 132))
  (a_th:FIn K "thing_of" (top 134))
  {f_show:Addr}{od_show an_show:Option Addr}{sl_show:Array (Option Value)}{oc_show kV_show dc_show pm_show cd_show ct_show:Value}
  (a_show:PySem.W.nsIn K mainGlobals "say_show"=some (some (.ref f_show))) (l_show:K.lookup f_show=some ⟨oc_show,od_show,.func (PySem.W.fnOf "say_show" "say_show" (defArgs (top 142)) (defBody (top 142)) (defScope (top 142)) .none kV_show dc_show pm_show an_show cd_show ct_show),sl_show⟩) (c_show:PySem.W.codeIn K cd_show "say_show"=true) (k_show:PySem.W.keepIn K (.ref f_show)=true)
  {f_tms:Addr}{od_tms an_tms:Option Addr}{sl_tms:Array (Option Value)}{oc_tms kV_tms dc_tms pm_tms cd_tms ct_tms:Value}
  (a_tms:PySem.W.nsIn K mainGlobals "say_times"=some (some (.ref f_tms))) (l_tms:K.lookup f_tms=some ⟨oc_tms,od_tms,.func (PySem.W.fnOf "say_times" "say_times" (defArgs (top 143)) (defBody (top 143)) (defScope (top 143)) .none kV_tms dc_tms pm_tms an_tms cd_tms ct_tms),sl_tms⟩) (c_tms:PySem.W.codeIn K cd_tms "say_times"=true) (k_tms:PySem.W.keepIn K (.ref f_tms)=true)
  {f_put:Addr}{od_put an_put:Option Addr}{sl_put:Array (Option Value)}{oc_put kV_put dc_put pm_put cd_put ct_put:Value}
  (a_put:PySem.W.nsIn K mainGlobals "say_put"=some (some (.ref f_put))) (l_put:K.lookup f_put=some ⟨oc_put,od_put,.func (PySem.W.fnOf "say_put" "say_put" (defArgs (top 139)) (defBody (top 139)) (defScope (top 139)) .none kV_put dc_put pm_put an_put cd_put ct_put),sl_put⟩) (c_put:PySem.W.codeIn K cd_put "say_put"=true) (k_put:PySem.W.keepIn K (.ref f_put)=true)
  {f_drop:Addr}{od_drop an_drop:Option Addr}{sl_drop:Array (Option Value)}{oc_drop kV_drop dc_drop pm_drop cd_drop ct_drop:Value}
  (a_drop:PySem.W.nsIn K mainGlobals "say_drop"=some (some (.ref f_drop))) (l_drop:K.lookup f_drop=some ⟨oc_drop,od_drop,.func (PySem.W.fnOf "say_drop" "say_drop" (defArgs (top 140)) (defBody (top 140)) (defScope (top 140)) .none kV_drop dc_drop pm_drop an_drop cd_drop ct_drop),sl_drop⟩) (c_drop:PySem.W.codeIn K cd_drop "say_drop"=true) (k_drop:PySem.W.keepIn K (.ref f_drop)=true)
  {f_nms:Addr}{od_nms an_nms:Option Addr}{sl_nms:Array (Option Value)}{oc_nms kV_nms dc_nms pm_nms cd_nms ct_nms:Value}
  (a_nms:PySem.W.nsIn K mainGlobals "say_names"=some (some (.ref f_nms))) (l_nms:K.lookup f_nms=some ⟨oc_nms,od_nms,.func (PySem.W.fnOf "say_names" "say_names" (defArgs (top 141)) (defBody (top 141)) (defScope (top 141)) .none kV_nms dc_nms pm_nms an_nms cd_nms ct_nms),sl_nms⟩) (c_nms:PySem.W.codeIn K cd_nms "say_names"=true) (k_nms:PySem.W.keepIn K (.ref f_nms)=true)
  (a_sd:FIn K "_law_said" (top 168))
  (a_sh:FIn K "_law_shown" (top 169))
  (a_lt:FIn K "_law_times" (top 170))
  (a_nm:FIn K "_law_names" (top 173))
  (a_st:FIn K "_law_stands" (top 172))
  (a_de:FIn K "_law_deed_right" (top 174))
  {f_law:Addr}{od_law an_law:Option Addr}{sl_law:Array (Option Value)}{oc_law kV_law dc_law pm_law cd_law ct_law:Value}
  (a_law:PySem.W.nsIn K mainGlobals "law"=some (some (.ref f_law))) (l_law:K.lookup f_law=some ⟨oc_law,od_law,.func (PySem.W.fnOf "law" "law" (defArgs (top 175)) (defBody (top 175)) (defScope (top 175)) .none kV_law dc_law pm_law an_law cd_law ct_law),sl_law⟩) (c_law:PySem.W.codeIn K cd_law "law"=true) (k_law:PySem.W.keepIn K (.ref f_law)=true)
  {t_MF:Tok} (e_MF:PySem.W.nsIn K mainGlobals "MOST_FIGURES"=some (some (.int 200 t_MF)))
  {t_LN:Tok} (e_LN:PySem.W.nsIn K mainGlobals "LONGEST_NAME"=some (some (.int 8 t_LN)))
  {q0:Addr} (e_NoBack:PySem.W.nsIn K mainGlobals "NoBack"=some (some (.ref q0)))
  {q1:Addr} (e_NoCount:PySem.W.nsIn K mainGlobals "NoCount"=some (some (.ref q1)))
  {q2:Addr} (e_NoMakers:PySem.W.nsIn K mainGlobals "NoMakers"=some (some (.ref q2)))
  {q3:Addr} (e_NoName:PySem.W.nsIn K mainGlobals "NoName"=some (some (.ref q3)))
  {q4:Addr} (e_NoPlain:PySem.W.nsIn K mainGlobals "NoPlain"=some (some (.ref q4)))
  {q5:Addr} (e_NoRow:PySem.W.nsIn K mainGlobals "NoRow"=some (some (.ref q5)))
  {q6:Addr} (e_NoText:PySem.W.nsIn K mainGlobals "NoText"=some (some (.ref q6)))
  {q7:Addr} (e_NoWide:PySem.W.nsIn K mainGlobals "NoWide"=some (some (.ref q7)))
  {q8:Addr} (e_NoWord:PySem.W.nsIn K mainGlobals "NoWord"=some (some (.ref q8)))
  {q9:Addr} (e_TooLong:PySem.W.nsIn K mainGlobals "TooLong"=some (some (.ref q9)))
  {q10:Addr} (e_NoMill:PySem.W.nsIn K mainGlobals "NoMill"=some (some (.ref q10)))
  {qe:Addr} (e_QuadError:PySem.W.nsIn K mainGlobals "QuadError"=some (some (.ref qe))) (x_QuadError:PySem.W.excIn K qe bmVE "ValueError.__new__"=true)
  (gn:PySem.W.specialIn K (.builtin "object.__class__") "__get__"=some (some (.builtin "getset_descriptor.__get__"))) (tk:PySem.W.takesIn K (.builtin "object.__class__")=some true)
  (x_NoName:PySem.W.excIn K q3 bmVE "ValueError.__new__"=true) (sb_NoName:L2.subIn K q3 qe=true) (ga_NoName:PySem.W.findIn K (.ref q3) "__getattribute__"=some (some (.builtin "BaseException.__getattribute__"))) (gt_NoName:PySem.W.findIn K (.ref q3) "__getattr__"=some none) (ca_NoName:PySem.W.findIn K (.ref q3) "__class__"=some (some (.builtin "object.__class__"))) (mo_NoName:PySem.W.mroIn K q3 (.type "object")=some true) (mb_NoName:PySem.W.mroIn K q3 (.type "BaseException")=some true) {cd_NoName:ClassData} (ci_NoName:PySem.W.clsIn K q3=some cd_NoName)
  (o0_NoName:PySem.W.kitOne K (.ref q3) (.ref q0)=some false)
  (o1_NoName:PySem.W.kitOne K (.ref q3) (.ref q1)=some false)
  (o2_NoName:PySem.W.kitOne K (.ref q3) (.ref q2)=some false)
  (o3_NoName:PySem.W.kitOne K (.ref q3) (.ref q3)=some true)
  (o4_NoName:PySem.W.kitOne K (.ref q3) (.ref q4)=some false)
  (o5_NoName:PySem.W.kitOne K (.ref q3) (.ref q5)=some false)
  (o6_NoName:PySem.W.kitOne K (.ref q3) (.ref q6)=some false)
  (o7_NoName:PySem.W.kitOne K (.ref q3) (.ref q7)=some false)
  (o8_NoName:PySem.W.kitOne K (.ref q3) (.ref q8)=some false)
  (o9_NoName:PySem.W.kitOne K (.ref q3) (.ref q9)=some false)
  (o10_NoName:PySem.W.kitOne K (.ref q3) (.ref q10)=some false)
  (o11_NoName:PySem.W.kitOne K (.ref q3) (.type "ValueError")=some true)
  (x_NoMill:PySem.W.excIn K q10 bmVE "ValueError.__new__"=true) (sb_NoMill:L2.subIn K q10 qe=true) (ga_NoMill:PySem.W.findIn K (.ref q10) "__getattribute__"=some (some (.builtin "BaseException.__getattribute__"))) (gt_NoMill:PySem.W.findIn K (.ref q10) "__getattr__"=some none) (ca_NoMill:PySem.W.findIn K (.ref q10) "__class__"=some (some (.builtin "object.__class__"))) (mo_NoMill:PySem.W.mroIn K q10 (.type "object")=some true) (mb_NoMill:PySem.W.mroIn K q10 (.type "BaseException")=some true) {cd_NoMill:ClassData} (ci_NoMill:PySem.W.clsIn K q10=some cd_NoMill)
  (o0_NoMill:PySem.W.kitOne K (.ref q10) (.ref q0)=some false)
  (o1_NoMill:PySem.W.kitOne K (.ref q10) (.ref q1)=some false)
  (o2_NoMill:PySem.W.kitOne K (.ref q10) (.ref q2)=some false)
  (o3_NoMill:PySem.W.kitOne K (.ref q10) (.ref q3)=some false)
  (o4_NoMill:PySem.W.kitOne K (.ref q10) (.ref q4)=some false)
  (o5_NoMill:PySem.W.kitOne K (.ref q10) (.ref q5)=some false)
  (o6_NoMill:PySem.W.kitOne K (.ref q10) (.ref q6)=some false)
  (o7_NoMill:PySem.W.kitOne K (.ref q10) (.ref q7)=some false)
  (o8_NoMill:PySem.W.kitOne K (.ref q10) (.ref q8)=some false)
  (o9_NoMill:PySem.W.kitOne K (.ref q10) (.ref q9)=some false)
  (o10_NoMill:PySem.W.kitOne K (.ref q10) (.ref q10)=some true)
  (o11_NoMill:PySem.W.kitOne K (.ref q10) (.type "ValueError")=some true)
  (x_NoRow:PySem.W.excIn K q5 bmVE "ValueError.__new__"=true) (x_NoText:PySem.W.excIn K q6 bmVE "ValueError.__new__"=true)
  {fo:Addr}{fk0 fk1 fk2 fk3 fk4 fk5 fk6 fk7 fk8 fk9 fk10 fk11 fk12 fk13 fk14 fk15 fk16 fk17 fk18 fk19 fk20 fk21 fk22 fk23 fv0 fv1 fv2 fv3 fv4 fv5 fv6 fv7 fv8 fv9 fv10 fv11 fv12 fv13 fv14 fv15 fv16 fv17 fv18 fv19 fv20 fv21 fv22 fv23:Tok}{fond:Nat} (e_FO:PySem.W.nsIn K mainGlobals "FORMS"=some (some (.ref fo))) (l_FO:K.lookup fo=some ⟨.type "dict",none,.dict #[⟨PyData.keyHash w.params "put",.str "put" fk0,.str "new table" fv0⟩,⟨PyData.keyHash w.params "drop",.str "drop" fk1,.str "kept" fv1⟩,⟨PyData.keyHash w.params "names",.str "names" fk2,.str "" fv2⟩,⟨PyData.keyHash w.params "show",.str "show" fk3,.str "name" fv3⟩,⟨PyData.keyHash w.params "times",.str "times" fk4,.str "name name" fv4⟩,⟨PyData.keyHash w.params "word",.str "word" fk5,.str "name" fv5⟩,⟨PyData.keyHash w.params "wide",.str "wide" fk6,.str "name" fv6⟩,⟨PyData.keyHash w.params "made",.str "made" fk7,.str "table names" fv7⟩,⟨PyData.keyHash w.params "ways",.str "ways" fk8,.str "table names" fv8⟩,⟨PyData.keyHash w.params "free",.str "free" fk9,.str "names" fv9⟩,⟨PyData.keyHash w.params "rank",.str "rank" fk10,.str "names" fv10⟩,⟨PyData.keyHash w.params "within",.str "within" fk11,.str "table names" fv11⟩,⟨PyData.keyHash w.params "basis",.str "basis" fk12,.str "names" fv12⟩,⟨PyData.keyHash w.params "hull",.str "hull" fk13,.str "names" fv13⟩,⟨PyData.keyHash w.params "share",.str "share" fk14,.str "names" fv14⟩,⟨PyData.keyHash w.params "stuck",.str "stuck" fk15,.str "names" fv15⟩,⟨PyData.keyHash w.params "root",.str "root" fk16,.str "name" fv16⟩,⟨PyData.keyHash w.params "kin",.str "kin" fk17,.str "name name" fv17⟩,⟨PyData.keyHash w.params "mill",.str "mill" fk18,.str "names" fv18⟩,⟨PyData.keyHash w.params "feed",.str "feed" fk19,.str "name" fv19⟩,⟨PyData.keyHash w.params "undo",.str "undo" fk20,.str "" fv20⟩,⟨PyData.keyHash w.params "text",.str "text" fk21,.str "" fv21⟩,⟨PyData.keyHash w.params "now",.str "now" fk22,.str "" fv22⟩,⟨PyData.keyHash w.params "rests",.str "rests" fk23,.str "" fv23⟩] fond,#[]⟩) (s_FO:(fo == sysModules)=false)
  {de g5 g6 g7 g8 g9 g10 g11 g12 g13 g14 g15 g16 g17 g18 g19 g20 g21 g22 g23:Addr}{dk0 dk1 dk2 dk3 dk4 dk5 dk6 dk7 dk8 dk9 dk10 dk11 dk12 dk13 dk14 dk15 dk16 dk17 dk18 dk19 dk20 dk21 dk22 dk23:Tok}{dend:Nat} (e_DE:PySem.W.nsIn K mainGlobals "DEEDS"=some (some (.ref de))) (l_DE:K.lookup de=some ⟨.type "dict",none,.dict #[⟨PyData.keyHash w.params "put",.str "put" dk0,.ref f_put⟩,⟨PyData.keyHash w.params "drop",.str "drop" dk1,.ref f_drop⟩,⟨PyData.keyHash w.params "names",.str "names" dk2,.ref f_nms⟩,⟨PyData.keyHash w.params "show",.str "show" dk3,.ref f_show⟩,⟨PyData.keyHash w.params "times",.str "times" dk4,.ref f_tms⟩,⟨PyData.keyHash w.params "word",.str "word" dk5,.ref g5⟩,⟨PyData.keyHash w.params "wide",.str "wide" dk6,.ref g6⟩,⟨PyData.keyHash w.params "made",.str "made" dk7,.ref g7⟩,⟨PyData.keyHash w.params "ways",.str "ways" dk8,.ref g8⟩,⟨PyData.keyHash w.params "free",.str "free" dk9,.ref g9⟩,⟨PyData.keyHash w.params "rank",.str "rank" dk10,.ref g10⟩,⟨PyData.keyHash w.params "within",.str "within" dk11,.ref g11⟩,⟨PyData.keyHash w.params "basis",.str "basis" dk12,.ref g12⟩,⟨PyData.keyHash w.params "hull",.str "hull" dk13,.ref g13⟩,⟨PyData.keyHash w.params "share",.str "share" dk14,.ref g14⟩,⟨PyData.keyHash w.params "stuck",.str "stuck" dk15,.ref g15⟩,⟨PyData.keyHash w.params "root",.str "root" dk16,.ref g16⟩,⟨PyData.keyHash w.params "kin",.str "kin" dk17,.ref g17⟩,⟨PyData.keyHash w.params "mill",.str "mill" dk18,.ref g18⟩,⟨PyData.keyHash w.params "feed",.str "feed" dk19,.ref g19⟩,⟨PyData.keyHash w.params "undo",.str "undo" dk20,.ref g20⟩,⟨PyData.keyHash w.params "text",.str "text" dk21,.ref g21⟩,⟨PyData.keyHash w.params "now",.str "now" dk22,.ref g22⟩,⟨PyData.keyHash w.params "rests",.str "rests" dk23,.ref g23⟩] dend,#[]⟩) (s_DE:(de == sysModules)=false)
  {mr:Addr} (e_MR:PySem.W.nsIn K mainGlobals "MILL_ROWS"=some (some (.ref mr)))
  {odo_MR:Option Addr}{ito_MR:Array Value}{no_MR:Nat}{slo_MR:Array (Option Value)} (l_MR:K.lookup mr=some ⟨.type "tuple",odo_MR,.seq ito_MR no_MR,slo_MR⟩) (z_MR:ito_MR.size≤sizeLine) (v_MR:Vals (tvs ["feed","undo","text","now","rests"]) ito_MR.toList)
  {t_FIG t_SL:Tok} (e_FIG:PySem.W.nsIn K mainGlobals "FIGURES"=some (some (.str "0123456789" t_FIG))) (e_SL:PySem.W.nsIn K mainGlobals "SMALL_LETTERS"=some (some (.str "abcdefghijklmnopqrstuvwxyz" t_SL)))
  {C:Addr} (e_Desk:PySem.W.nsIn K mainGlobals "Desk"=some (some (.ref C))) (pg_M:PySem.W.plainGet K C Str.empty=true) (hd_M:PySem.W.hasDictIn K C=true) (po_M:PySem.W.plainOver K C=true) (sa_M:PySem.W.findIn K (.ref C) "__setattr__"=some (some (.builtin "object.__setattr__"))) (nw_M:PySem.W.findIn K (.ref C) "named"=some none) (nh_M:PySem.W.findIn K (.ref C) "mill"=some none) (mk_M:PySem.W.makesIn K C=true) (kp_M:PySem.W.keepIn K (.ref C)=true)
  (a_in:MIn K C "__init__" "Desk.__init__" (meth 0))
  (a_say:MIn K C "say" "Desk.say" (meth 1))
  (n_int:PySem.W.nsIn K mainGlobals "int"=some none)    (n_bool:PySem.W.nsIn K mainGlobals "bool"=some none)    (n_isinstance:PySem.W.nsIn K mainGlobals "isinstance"=some none)    (n_tuple:PySem.W.nsIn K mainGlobals "tuple"=some none)    (n_list:PySem.W.nsIn K mainGlobals "list"=some none)    (n_str:PySem.W.nsIn K mainGlobals "str"=some none)    (n_len:PySem.W.nsIn K mainGlobals "len"=some none)    (n_all:PySem.W.nsIn K mainGlobals "all"=some none)    (n_range:PySem.W.nsIn K mainGlobals "range"=some none)    (n_max:PySem.W.nsIn K mainGlobals "max"=some none)    (n_min:PySem.W.nsIn K mainGlobals "min"=some none)    (n_sorted:PySem.W.nsIn K mainGlobals "sorted"=some none)    (n_zip:PySem.W.nsIn K mainGlobals "zip"=some none)    (n_divmod:PySem.W.nsIn K mainGlobals "divmod"=some none)    (n_ValueError:PySem.W.nsIn K mainGlobals "ValueError"=some none) :
  ∃fd:FuncData,(∀(s:Shared) (v:Value),BindsTo s fd ⟨[v],[]⟩ [("script",v)])∧∀base:Heap,K.In base→base.Ns mainGlobals mg→FnOk l.prog w K mg base CX0 9 fa fd ["script"] (spLaw K):=by
 have e:=hfa.symm.trans (PySem.W.mg_of X G a_law)
 cases e
 have b_int:=PySem.W.mg_none_of X G n_int
 have b_bool:=PySem.W.mg_none_of X G n_bool
 have b_isinstance:=PySem.W.mg_none_of X G n_isinstance
 have b_tuple:=PySem.W.mg_none_of X G n_tuple
 have b_list:=PySem.W.mg_none_of X G n_list
 have b_str:=PySem.W.mg_none_of X G n_str
 have b_len:=PySem.W.mg_none_of X G n_len
 have b_all:=PySem.W.mg_none_of X G n_all
 have b_range:=PySem.W.mg_none_of X G n_range
 have b_max:=PySem.W.mg_none_of X G n_max
 have b_min:=PySem.W.mg_none_of X G n_min
 have b_sorted:=PySem.W.mg_none_of X G n_sorted
 have b_zip:=PySem.W.mg_none_of X G n_zip
 have b_divmod:=PySem.W.mg_none_of X G n_divmod
 have b_ValueError:=PySem.W.mg_none_of X G n_ValueError
 obtain⟨d_draw,D_draw⟩:=a_draw.dd X G (ps:=["draws","many"]) (fun _ _ _ _ _ _ us hl=>by obtain⟨_,_,rfl⟩:=len2 hl; rfl)
 obtain⟨d_draws,D_draws⟩:=a_draws.dd X G (ps:=["script","k"]) (fun _ _ _ _ _ _ us hl=>by obtain⟨_,_,rfl⟩:=len2 hl; rfl)
 obtain⟨d_kind,D_kind⟩:=a_kind.dd X G (ps:=["e"]) (fun _ _ _ _ _ _ us hl=>by obtain⟨_,rfl⟩:=len1 hl; rfl)
 obtain⟨d_prod,D_prod⟩:=a_prod.dd X G (ps:=["one","other"]) (fun _ _ _ _ _ _ us hl=>by obtain⟨_,_,rfl⟩:=len2 hl; rfl)
 obtain⟨d_fo,D_fo⟩:=a_fo.dd X G (ps:=["number"]) (fun _ _ _ _ _ _ us hl=>by obtain⟨_,rfl⟩:=len1 hl; rfl)
 obtain⟨d_nt,D_nt⟩:=a_nt.dd X G (ps:=["number"]) (fun _ _ _ _ _ _ us hl=>by obtain⟨_,rfl⟩:=len1 hl; rfl)
 obtain⟨d_tt,D_tt⟩:=a_tt.dd X G (ps:=["table"]) (fun _ _ _ _ _ _ us hl=>by obtain⟨_,rfl⟩:=len1 hl; rfl)
 obtain⟨d_fig,D_fig⟩:=a_fig.dd X G (ps:=["text"]) (fun _ _ _ _ _ _ us hl=>by obtain⟨_,rfl⟩:=len1 hl; rfl)
 obtain⟨d_int,D_int⟩:=a_int.dd X G (ps:=["text"]) (fun _ _ _ _ _ _ us hl=>by obtain⟨_,rfl⟩:=len1 hl; rfl)
 obtain⟨d_read,D_read⟩:=a_read.dd X G (ps:=["text"]) (fun _ _ _ _ _ _ us hl=>by obtain⟨_,rfl⟩:=len1 hl; rfl)
 obtain⟨d_chk,D_chk⟩:=a_chk.dd X G (ps:=["word"]) (fun _ _ _ _ _ _ us hl=>by obtain⟨_,rfl⟩:=len1 hl; rfl)
 obtain⟨d_kd,D_kd⟩:=a_kd.dd X G (ps:=["words"]) (fun _ _ _ _ _ _ us hl=>by obtain⟨_,rfl⟩:=len1 hl; rfl)
 obtain⟨d_th,D_th⟩:=a_th.dd X G (ps:=["named","kind","word"]) (fun _ _ _ _ _ _ us hl=>by obtain⟨_,_,_,rfl⟩:=len3 hl; rfl)
 have F_show:=fun_mk (st:=top 142) l_show c_show k_show
 have D_show:Def K mg "say_show" (top 142) ["desk","things"] ⟨f_show,_⟩:=⟨F_show,PySem.W.mg_of X G a_show,F_show.binds (ps:=["desk","things"]) fun _ _ _ _ _ _ us hl=>by obtain⟨_,_,rfl⟩:=len2 hl; rfl⟩
 have F_tms:=fun_mk (st:=top 143) l_tms c_tms k_tms
 have D_tms:Def K mg "say_times" (top 143) ["desk","things"] ⟨f_tms,_⟩:=⟨F_tms,PySem.W.mg_of X G a_tms,F_tms.binds (ps:=["desk","things"]) fun _ _ _ _ _ _ us hl=>by obtain⟨_,_,rfl⟩:=len2 hl; rfl⟩
 have F_put:=fun_mk (st:=top 139) l_put c_put k_put
 have D_put:Def K mg "say_put" (top 139) ["desk","things"] ⟨f_put,_⟩:=⟨F_put,PySem.W.mg_of X G a_put,F_put.binds (ps:=["desk","things"]) fun _ _ _ _ _ _ us hl=>by obtain⟨_,_,rfl⟩:=len2 hl; rfl⟩
 have F_drop:=fun_mk (st:=top 140) l_drop c_drop k_drop
 have D_drop:Def K mg "say_drop" (top 140) ["desk","things"] ⟨f_drop,_⟩:=⟨F_drop,PySem.W.mg_of X G a_drop,F_drop.binds (ps:=["desk","things"]) fun _ _ _ _ _ _ us hl=>by obtain⟨_,_,rfl⟩:=len2 hl; rfl⟩
 have F_nms:=fun_mk (st:=top 141) l_nms c_nms k_nms
 have D_nms:Def K mg "say_names" (top 141) ["desk","things"] ⟨f_nms,_⟩:=⟨F_nms,PySem.W.mg_of X G a_nms,F_nms.binds (ps:=["desk","things"]) fun _ _ _ _ _ _ us hl=>by obtain⟨_,_,rfl⟩:=len2 hl; rfl⟩
 obtain⟨d_sd,D_sd⟩:=a_sd.dd X G (ps:=["desk","row"]) (fun _ _ _ _ _ _ us hl=>by obtain⟨_,_,rfl⟩:=len2 hl; rfl)
 obtain⟨d_sh,D_sh⟩:=a_sh.dd X G (ps:=["table"]) (fun _ _ _ _ _ _ us hl=>by obtain⟨_,rfl⟩:=len1 hl; rfl)
 obtain⟨d_lt,D_lt⟩:=a_lt.dd X G (ps:=["one","other"]) (fun _ _ _ _ _ _ us hl=>by obtain⟨_,_,rfl⟩:=len2 hl; rfl)
 obtain⟨d_nm,D_nm⟩:=a_nm.dd X G (ps:=["draws"]) (fun _ _ _ _ _ _ us hl=>by obtain⟨_,rfl⟩:=len1 hl; rfl)
 obtain⟨d_st,D_st⟩:=a_st.dd X G (ps:=["desk","kept"]) (fun _ _ _ _ _ _ us hl=>by obtain⟨_,_,rfl⟩:=len2 hl; rfl)
 obtain⟨d_de,D_de⟩:=a_de.dd X G (ps:=["desk","kept","draws","name"]) (fun _ _ _ _ _ _ us hl=>by obtain⟨_,_,_,_,rfl⟩:=len4 hl; rfl)
 have F_law:=fun_mk (st:=top 175) l_law c_law k_law
 have D_law:Def K mg "law" (top 175) ["script"] ⟨fa,_⟩:=⟨F_law,PySem.W.mg_of X G a_law,F_law.binds (ps:=["script"]) fun _ _ _ _ _ _ us hl=>by obtain⟨_,rfl⟩:=len1 hl; rfl⟩
 have M:ECls mg [q0,q1,q2,q3,q4,q5,q6,q7,q8,q9,q10]:=⟨PySem.W.mg_of X G e_NoBack,PySem.W.mg_of X G e_NoCount,PySem.W.mg_of X G e_NoMakers,PySem.W.mg_of X G e_NoName,PySem.W.mg_of X G e_NoPlain,PySem.W.mg_of X G e_NoRow,PySem.W.mg_of X G e_NoText,PySem.W.mg_of X G e_NoWide,PySem.W.mg_of X G e_NoWord,PySem.W.mg_of X G e_TooLong,PySem.W.mg_of X G e_NoMill,b_isinstance,b_range,b_ValueError⟩
 have Er_NoName:Err1 K [q0,q1,q2,q3,q4,q5,q6,q7,q8,q9,q10] qe q3 3:=⟨x_NoName,sb_NoName,⟨ga_NoName,gt_NoName,ca_NoName,gn,tk,mo_NoName,mb_NoName,by rw[ci_NoName]; rfl⟩,o0_NoName,o1_NoName,o2_NoName,o3_NoName,o4_NoName,o5_NoName,o6_NoName,o7_NoName,o8_NoName,o9_NoName,o10_NoName,o11_NoName⟩
 have m_NoName:=PySem.W.mg_of X G e_NoName
 have Er_NoMill:Err1 K [q0,q1,q2,q3,q4,q5,q6,q7,q8,q9,q10] qe q10 10:=⟨x_NoMill,sb_NoMill,⟨ga_NoMill,gt_NoMill,ca_NoMill,gn,tk,mo_NoMill,mb_NoMill,by rw[ci_NoMill]; rfl⟩,o0_NoMill,o1_NoMill,o2_NoMill,o3_NoMill,o4_NoMill,o5_NoMill,o6_NoMill,o7_NoMill,o8_NoMill,o9_NoMill,o10_NoMill,o11_NoMill⟩
 have m_NoMill:=PySem.W.mg_of X G e_NoMill
 have m_QuadError:=PySem.W.mg_of X G e_QuadError
 have m_NoRow:=PySem.W.mg_of X G e_NoRow
 have m_NoText:=PySem.W.mg_of X G e_NoText
 have m_FO:=PySem.W.mg_of X G e_FO
 have M_FO:ModD l.prog w K fo formsKV:=modDn [⟨"put",fk0,.str "new table" fv0,.str "new table"⟩,⟨"drop",fk1,.str "kept" fv1,.str "kept"⟩,⟨"names",fk2,.str "" fv2,.str ""⟩,⟨"show",fk3,.str "name" fv3,.str "name"⟩,⟨"times",fk4,.str "name name" fv4,.str "name name"⟩,⟨"word",fk5,.str "name" fv5,.str "name"⟩,⟨"wide",fk6,.str "name" fv6,.str "name"⟩,⟨"made",fk7,.str "table names" fv7,.str "table names"⟩,⟨"ways",fk8,.str "table names" fv8,.str "table names"⟩,⟨"free",fk9,.str "names" fv9,.str "names"⟩,⟨"rank",fk10,.str "names" fv10,.str "names"⟩,⟨"within",fk11,.str "table names" fv11,.str "table names"⟩,⟨"basis",fk12,.str "names" fv12,.str "names"⟩,⟨"hull",fk13,.str "names" fv13,.str "names"⟩,⟨"share",fk14,.str "names" fv14,.str "names"⟩,⟨"stuck",fk15,.str "names" fv15,.str "names"⟩,⟨"root",fk16,.str "name" fv16,.str "name"⟩,⟨"kin",fk17,.str "name name" fv17,.str "name name"⟩,⟨"mill",fk18,.str "names" fv18,.str "names"⟩,⟨"feed",fk19,.str "name" fv19,.str "name"⟩,⟨"undo",fk20,.str "" fv20,.str ""⟩,⟨"text",fk21,.str "" fv21,.str ""⟩,⟨"now",fk22,.str "" fv22,.str ""⟩,⟨"rests",fk23,.str "" fv23,.str ""⟩] ks24 (ent_cons ⟨_,rfl⟩ (ent_cons ⟨_,rfl⟩ (ent_cons ⟨_,rfl⟩ (ent_cons ⟨_,rfl⟩ (ent_cons ⟨_,rfl⟩ (ent_cons ⟨_,rfl⟩ (ent_cons ⟨_,rfl⟩ (ent_cons ⟨_,rfl⟩ (ent_cons ⟨_,rfl⟩ (ent_cons ⟨_,rfl⟩ (ent_cons ⟨_,rfl⟩ (ent_cons ⟨_,rfl⟩ (ent_cons ⟨_,rfl⟩ (ent_cons ⟨_,rfl⟩ (ent_cons ⟨_,rfl⟩ (ent_cons ⟨_,rfl⟩ (ent_cons ⟨_,rfl⟩ (ent_cons ⟨_,rfl⟩ (ent_cons ⟨_,rfl⟩ (ent_cons ⟨_,rfl⟩ (ent_cons ⟨_,rfl⟩ (ent_cons ⟨_,rfl⟩ (ent_cons ⟨_,rfl⟩ (ent_cons ⟨_,rfl⟩ (fun _ h=>nomatch h))))))))))))))))))))))))) s_FO l_FO
 have m_DE:=PySem.W.mg_of X G e_DE
 have M_DE:ModD l.prog w K de [(.inr "put",.ref f_put),(.inr "drop",.ref f_drop),(.inr "names",.ref f_nms),(.inr "show",.ref f_show),(.inr "times",.ref f_tms),(.inr "word",.ref g5),(.inr "wide",.ref g6),(.inr "made",.ref g7),(.inr "ways",.ref g8),(.inr "free",.ref g9),(.inr "rank",.ref g10),(.inr "within",.ref g11),(.inr "basis",.ref g12),(.inr "hull",.ref g13),(.inr "share",.ref g14),(.inr "stuck",.ref g15),(.inr "root",.ref g16),(.inr "kin",.ref g17),(.inr "mill",.ref g18),(.inr "feed",.ref g19),(.inr "undo",.ref g20),(.inr "text",.ref g21),(.inr "now",.ref g22),(.inr "rests",.ref g23)]:=modDn [⟨"put",dk0,.ref f_put,.ref f_put⟩,⟨"drop",dk1,.ref f_drop,.ref f_drop⟩,⟨"names",dk2,.ref f_nms,.ref f_nms⟩,⟨"show",dk3,.ref f_show,.ref f_show⟩,⟨"times",dk4,.ref f_tms,.ref f_tms⟩,⟨"word",dk5,.ref g5,.ref g5⟩,⟨"wide",dk6,.ref g6,.ref g6⟩,⟨"made",dk7,.ref g7,.ref g7⟩,⟨"ways",dk8,.ref g8,.ref g8⟩,⟨"free",dk9,.ref g9,.ref g9⟩,⟨"rank",dk10,.ref g10,.ref g10⟩,⟨"within",dk11,.ref g11,.ref g11⟩,⟨"basis",dk12,.ref g12,.ref g12⟩,⟨"hull",dk13,.ref g13,.ref g13⟩,⟨"share",dk14,.ref g14,.ref g14⟩,⟨"stuck",dk15,.ref g15,.ref g15⟩,⟨"root",dk16,.ref g16,.ref g16⟩,⟨"kin",dk17,.ref g17,.ref g17⟩,⟨"mill",dk18,.ref g18,.ref g18⟩,⟨"feed",dk19,.ref g19,.ref g19⟩,⟨"undo",dk20,.ref g20,.ref g20⟩,⟨"text",dk21,.ref g21,.ref g21⟩,⟨"now",dk22,.ref g22,.ref g22⟩,⟨"rests",dk23,.ref g23,.ref g23⟩] ks24 (ent_cons rfl (ent_cons rfl (ent_cons rfl (ent_cons rfl (ent_cons rfl (ent_cons rfl (ent_cons rfl (ent_cons rfl (ent_cons rfl (ent_cons rfl (ent_cons rfl (ent_cons rfl (ent_cons rfl (ent_cons rfl (ent_cons rfl (ent_cons rfl (ent_cons rfl (ent_cons rfl (ent_cons rfl (ent_cons rfl (ent_cons rfl (ent_cons rfl (ent_cons rfl (ent_cons rfl (fun _ h=>nomatch h))))))))))))))))))))))))) s_DE l_DE
 have k_MR:∀H,SqT K H mr (tvs ["feed","undo","text","now","rests"]):=fun H=>.inr ⟨_,ito_MR,no_MR,l_MR,rfl,rfl,z_MR,v_MR⟩
 have m_MR:=PySem.W.mg_of X G e_MR
 have DC:DCls K C:=⟨⟨pg_M,hd_M,po_M,sa_M⟩,nw_M,nh_M⟩
 have m_Desk:=PySem.W.mg_of X G e_Desk
 obtain⟨d_in,D_in⟩:=a_in.dd (ps:=["self"]) (fun _ _ _ _ _ _ us hl=>by obtain⟨_,rfl⟩:=len1 hl; rfl)
 obtain⟨d_say,D_say⟩:=a_say.dd (ps:=["self","row"]) (fun _ _ _ _ _ _ us hl=>by obtain⟨_,_,rfl⟩:=len2 hl; rfl)
 have MK:L2.Mk K C d_in.f:=⟨mk_M,D_in.m.at_,D_in.m.fn,kp_M⟩
 refine⟨PySem.W.fnOf "law" "law" (defArgs (top 175)) (defBody (top 175)) (defScope (top 175)) .none kV_law dc_law pm_law an_law cd_law ct_law,fun s v=>.of_eq rfl,fun base _ _=>?_⟩
 have G_draw:=ok_draw (P:=l.prog) (w:=w) (base:=base) D_draw
 have G_draws:=ok_draws (P:=l.prog) (w:=w) (base:=base) D_draws b_len b_int
 have G_kind:=ok_kind (P:=l.prog) (w:=w) (base:=base) M D_kind
 have G_prod:=ok_prod (P:=l.prog) (w:=w) (base:=base) D_prod
 have G_fo:=ok_fo (P:=l.prog) (w:=w) (base:=base) D_fo b_divmod b_str
 have G_nt:=ok_nt D_fo G_fo D_nt
 have G_tt:=ok_tt D_nt G_nt D_tt
 have G_fig:=ok_fig (P:=l.prog) (w:=w) (base:=base) (PySem.W.mg_of X G e_FIG) (PySem.W.mg_of X G e_MF) D_fig b_len
 have G_int:=ok_int D_fig G_fig D_int
 have G_read:=ok_read m_NoText x_NoText D_int G_int D_read b_len b_str b_int b_tuple b_all b_isinstance
 have G_chk:=ok_chk (P:=l.prog) (w:=w) (base:=base) (PySem.W.mg_of X G e_SL) (PySem.W.mg_of X G e_LN) D_chk b_len
 have G_kd:=ok_kd (P:=l.prog) (w:=w) (base:=base) m_FO M_FO D_kd b_len b_max
 have G_th:=ok_th m_NoName x_NoName D_read G_read D_chk G_chk D_th
 have G_show:=ok_show D_tt G_tt D_show
 have G_tms:=ok_tms D_tt G_tt D_prod G_prod D_tms
 have G_put:=ok_put (P:=l.prog) (w:=w) (base:=base) DC D_put
 have G_drop:=ok_drop (P:=l.prog) (w:=w) (base:=base) DC D_drop
 have G_nms:=ok_nms (P:=l.prog) (w:=w) (base:=base) DC D_nms b_sorted
 have G_in:=ok_in (P:=l.prog) (w:=w) (base:=base) (mg:=mg) DC D_in
 have G_say:=ok_say DC m_NoRow x_NoRow m_NoMill x_NoMill m_DE M_DE m_MR k_MR D_kd G_kd D_th G_th D_say b_isinstance b_str b_zip
 have G_sd:=ok_sd DC m_QuadError x_QuadError Er_NoName Er_NoMill D_say G_say D_kind G_kind D_sd
 have G_sh:=ok_sh (P:=l.prog) (w:=w) (base:=base) D_sh b_str
 have G_lt:=ok_times (P:=l.prog) (w:=w) (base:=base) D_lt b_range b_tuple
 have G_nm:=ok_nm D_draw G_draw D_nm b_len b_range
 have DK:Dks l.prog w K mg base [(.inr "put",.ref f_put),(.inr "drop",.ref f_drop),(.inr "names",.ref f_nms),(.inr "show",.ref f_show),(.inr "times",.ref f_tms),(.inr "word",.ref g5),(.inr "wide",.ref g6),(.inr "made",.ref g7),(.inr "ways",.ref g8),(.inr "free",.ref g9),(.inr "rank",.ref g10),(.inr "within",.ref g11),(.inr "basis",.ref g12),(.inr "hull",.ref g13),(.inr "share",.ref g14),(.inr "stuck",.ref g15),(.inr "root",.ref g16),(.inr "kin",.ref g17),(.inr "mill",.ref g18),(.inr "feed",.ref g19),(.inr "undo",.ref g20),(.inr "text",.ref g21),(.inr "now",.ref g22),(.inr "rests",.ref g23)] C ⟨f_put,_⟩ ⟨f_drop,_⟩ ⟨f_nms,_⟩ ⟨f_show,_⟩ ⟨f_tms,_⟩:=⟨⟨(by rfl),G_put.mono (by decide),D_put.fn.kp,D_put.b⟩,⟨(by rfl),G_drop.mono (by decide),D_drop.fn.kp,D_drop.b⟩,⟨(by rfl),G_nms.mono (by decide),D_nms.fn.kp,D_nms.b⟩,⟨(by rfl),G_show.mono (by decide),D_show.fn.kp,D_show.b⟩,⟨(by rfl),G_tms.mono (by decide),D_tms.fn.kp,D_tms.b⟩⟩
 have G_st:=ok_st DK D_sd G_sd D_sh G_sh D_st b_list b_sorted
 have G_de:=ok_de DK D_sd G_sd D_sh G_sh D_draw G_draw D_lt G_lt D_de b_list b_sorted b_range b_tuple b_len
 have Al:All C l.prog w K mg base ⟨d_draws,d_draw,d_nm,d_de,d_st,d_in⟩ :=
  ⟨D_draws,D_draw,D_nm,D_de,D_st,D_in,G_draws,G_draw,G_nm,G_de,G_st,G_in,MK,m_Desk,b_range,b_len⟩
 exact ok_law Al D_law
theorem walk {l:PySem.W.OpenLaw}{q:Program}{loose:List Str}{XP:(Str→Option Value)→Heap→Prop}{YP:World→Heap→Prop}{d:DefRec}{K:Params→PySem.W.Frag} (hn:l.most=some 63) (hdf:d.params.defaults=[])
  (hY:∀(w:World) (h:Heap),YP w h→(K w.params).In h)
  (F:∀(w:World) (mg:Str→Option Value) (fa:Addr) (h:Heap),(K w.params).In h→h.Ns mainGlobals mg→mg d.name=some (.ref fa) →
   ∃fd:FuncData,(∀(s:Shared) (u:Value),BindsTo s fd ⟨[u],[]⟩ [("script",u)])∧∀base:Heap,(K w.params).In base→base.Ns mainGlobals mg→FnOk l.prog w (K w.params) mg base CX0 9 fa fd ["script"] (spLaw (K w.params))) :
  PySem.W.WalkO q loose XP YP l.row.toRowW d [] (fun f vs=>PySem.call f vs) :=
 L2.walk_of (n:=63) (k:=9) (x:="script") (CX:=fun _=>CX0) (sp:=fun w=>spLaw (K w.params)) hn (by decide) hdf ⟨rfl,by decide,by decide⟩ hY F (fun _ _ a ns hl _ hS=>⟨a,ns,rfl,hS,hl,fun _=>rfl⟩) fun _ _ _ _ _ z=>z
end K3
end
section
namespace Hd
open PySem PySem.W PyProof.Rows
def run (den:Code→Sem Fin) (ok:Nat→Option Value→Thread→Bool) (st:(Code→Sem Fin)→Program→World→SharedT→Thread→Option (SharedT×Thread)) (p:Program) (w:World) (m:Nat) (ann:Option Value):Nat→SharedT→Thread→Option SharedT
 | 0,_,_=>none
 | n+1,s,t=>match through t with
  | true=>some s
  | false=>match ok m ann t with
   | false=>none
   | true=>match st den p w s t with
    | some r=>run den ok st p w m ann n r.1 r.2
    | none=>none
theorem run_of {tb:String→Option Builtin}{p:Program}{w:World}{m:Nat}{ann:Option Value}:∀{n:Nat}{s r:SharedT}{t:Thread},run (denote tb) stepOk stepT p w m ann n s t=some r→topRun tb p w m ann n s.abs t=some r.abs
 | 0,_,_,_,h=>by cases h
 | n+1,s,r,t,h=>by
  unfold run at h
  unfold topRun
  cases ht:through t with
  | true=>rw[ht] at h; cases h; rfl
  | false =>
   rw[ht] at h
   cases hk:stepOk m ann t with
   | false=>rw[hk] at h; cases h
   | true =>
    rw[hk] at h
    cases hs:stepT (denote tb) p w s t with
    | none=>rw[hs] at h; cases h
    | some r=>rw[hs] at h; rw[stepT_spec hs]; exact run_of h
def grow:List Obj→Nat→BT→BT
 | [],_,t=>t
 | o::l,n,t=>grow l (n+1) (t.ins n o)
noncomputable def bootT (P:Params):BT:=grow (boot_heap P).objs.toList 0 .nil
noncomputable abbrev first (w:World) (os:OsState):SharedT:=⟨bootT w.params,(boot_heap w.params).objs.size,(boot_heap w.params).life,#[],boot_drawn,boot_toks,os⟩
theorem first_abs (w:World) (os:OsState):(first w os).abs=⟨boot_heap w.params,#[],boot_drawn,boot_toks,os⟩:=by kernel_rfl
noncomputable def annOf (P:Params):Option Value:=(boot_heap P).nsMap mainGlobals "__annotations__"
noncomputable def looks (seenF:Program→List Str→List Str→(Shared→Bool)→Bool→Shared→_) (p q:Program) (loose:List Str) (Xt:Shared→Bool) (as:List Addr) (h:Heap) (s:Shared) :=
 ((staticsOk (importedModules p.main.body) h s.heap && namesBound p s.heap && gensDone s && laidKept h s.heap),(seenF q loose (importedModules p.main.body) Xt true s:type_of% (openSeen q loose (importedModules p.main.body) Xt true s)),as.map s.heap.get?)
abbrev Goal (den:Code→Sem Fin) (ok:Nat→Option Value→Thread→Bool) (st:(Code→Sem Fin)→Program→World→SharedT→Thread→Option (SharedT×Thread))
  (seenF:(q:Program)→(loose mods:List Str)→(Xt:Shared→Bool)→Bool→(s:Shared)→type_of% (openSeen q loose mods Xt true s)) (p q:Program) (loose:List Str) (Xt:Shared→Bool) (K:Params→Frag) (as:List Addr) (N:Nat) (w:World):Prop :=
 (fun os=>(run den ok st p w (boot_heap w.params).objs.size (annOf w.params) N (first w os) (topStub p)).map fun s=>looks seenF p q loose Xt as (boot_heap w.params) s.abs)=fun _=>some (true,openGood q loose,(K w.params).map fun x=>some x.2)
theorem left {p q:Program}{loose:List Str}{Xt:Shared→Bool}{K:Params→Frag}{as:List Addr}{N:Nat} (e:opening p=plainProg p.main.scope.names) (hN:Nat.ble 600 N=true) (f:∀s,fenceModules? p s=some s)
  (size:∀P:Params,(boot_heap P).isNs mainGlobals=true) (key:∀w,Goal (denote treeTable) stepOk stepT openSeen p q loose Xt K as N w) :
  LeftO p q loose Xt (fun s=>as.map s.heap.get?) (fun w=>(K w.params).map fun x=>some x.2) N true:=fun w=>by
 obtain⟨⟨h,gs,d,k,os⟩,e1,e2⟩:=Option.map_eq_some_iff.mp (boot_open (p:=p) (N:=N) e hN f w)
 obtain⟨rfl,rfl,rfl,rfl⟩ : h=boot_heap w.params∧gs=Array.mk []∧d=boot_drawn∧k=boot_toks:=by simpa using e2
 obtain⟨s,r,l⟩:=Option.map_eq_some_iff.mp (congrFun (key w) os)
 have r':=run_of r
 rw[first_abs] at r'
 unfold looks at l
 obtain⟨l1,l2,l3⟩ : _∧_∧_:=by simpa only [Prod.mk.injEq] using l
 have t:topFrom treeTable p w N ⟨boot_heap w.params,#[],boot_drawn,boot_toks,os⟩=some s.abs:=by
  unfold topFrom
  dsimp only
  rw[size w.params]
  show (topRun treeTable p w (boot_heap w.params).objs.size (annOf w.params) N _ _).bind _=_
  rw[r']
  show (match staticsOk (importedModules p.main.body) (boot_heap w.params) s.abs.heap && namesBound p s.abs.heap && gensDone s.abs && laidKept (boot_heap w.params) s.abs.heap with | true=>_ | false=>_)=_
  rw[l1]
 unfold openEnds
 rw[e1]
 show (topFrom treeTable p w N _).map _=_
 rw[t]
 exact congrArg some (Prod.ext l2 l3)
noncomputable abbrev en (P:Params) (x:Str) (t:Tok) (v:Value):DictEntry:=⟨PyData.keyHash P x,.str x t,v⟩
noncomputable abbrev dn:=PySem.W.Fast.tw11892475500146522536 PySem.W.Fast.tw14364793385576792824
abbrev xt (l:OpenLaw) (q:Program) (s:Shared):Bool:=xlAt q [] s && recOk (RowW.records l.row.toRowW) s
theorem bootNs (P:Params):(boot_heap P).isNs mainGlobals=true:=by kernel_rfl
theorem head {l:OpenLaw}{q:Program}{loose:List Str}{K:Params→Frag}{as:List Addr}{N:Nat}{d:DefRec} (said:l.wellSaid=true) (e:opening l.prog=plainProg l.prog.main.scope.names) (hN:Nat.ble 600 N=true) (f:∀s,fenceModules? l.prog s=some s)
  (key:∀w,Goal (denote treeTable) stepOk stepT openSeen l.prog q loose (xt l q) K as N w) (hK:∀P,as=(K P).map (·.1))
  (hdef:defOf q l.row.name=some (d,[])) (hp:l.row.prog.theDef l.row.name=some (d.params,d.body,d.scope)) (hk:kwWritten? d.params.kwonlyargs d.params.kw_defaults=some []) (hwr:(!l.row.writes || l.row.records.isEmpty)=true)
  (ok:(chainsOk q && opensWell l.row.prog && (frees l.row.toRowW && l.row.within.isEmpty))=true) (hb:l.row.prog.bare) (hw:l.row.toRowW.promised)
  (call:WalkO q loose (XL q []) (InK K) l.row.toRowW d [] fun f vs=>PySem.call f vs):l.Holds :=
 holds_law said fun k1=>holds_open (Xt:=xt l q) (left e hN f bootNs key) (InK.of hK) InK.keeps (fun s e=>xl_of s (Bool.and_eq_true_iff.mp e).1) XL.keeps hdef hp hk (fun s e=>recFacts_of (Bool.and_eq_true_iff.mp e).2) hwr k1 ok hb hw call
end Hd
end
section
namespace Hd
open PySem PySem.W PyProof.Rows
def go (den:Code→Sem Fin) (ok:Nat→Option Value→Thread→Bool) (st:(Code→Sem Fin)→Program→World→SharedT→Thread→Option (SharedT×Thread)) (p:Program) (w:World) (m:Nat) (ann:Option Value):Nat→SharedT→Thread→Option (SharedT×Thread)
 | 0,s,t=>some (s,t)
 | n+1,s,t=>match through t with
  | true=>none
  | false=>match ok m ann t with
   | false=>none
   | true=>match st den p w s t with
    | some r=>go den ok st p w m ann n r.1 r.2
    | none=>none
theorem go_of {tb:String→Option Builtin}{p:Program}{w:World}{m:Nat}{ann:Option Value}:∀{n:Nat}{s s':SharedT}{t t':Thread},go (denote tb) stepOk stepT p w m ann n s t=some (s',t')→topGo tb p w m ann n s.abs t=some (s'.abs,t')
 | 0,_,_,_,_,h=>by cases h; rfl
 | n+1,s,s',t,t',h=>by
  unfold go at h
  unfold topGo
  cases ht:through t with
  | true=>rw[ht] at h; cases h
  | false =>
   rw[ht] at h
   cases hk:stepOk m ann t with
   | false=>rw[hk] at h; cases h
   | true =>
    rw[hk] at h
    cases hs:stepT (denote tb) p w s t with
    | none=>rw[hs] at h; cases h
    | some r=>rw[hs] at h; rw[stepT_spec hs]; exact go_of h
abbrev GoalA (den:Code→Sem Fin) (ok:Nat→Option Value→Thread→Bool) (st:(Code→Sem Fin)→Program→World→SharedT→Thread→Option (SharedT×Thread)) (p:Program) (n:Nat) (S0:World→OsState→SharedT) (T0:(Code→Sem Fin)→Thread) (S:World→OsState→SharedT) (T:(Code→Sem Fin)→Thread) (w:World):Prop :=
 (fun os=>go den ok st p w (boot_heap w.params).objs.size (annOf w.params) n (S0 w os) (T0 den))=fun os=>some (S w os,T den)
abbrev GoalB (den:Code→Sem Fin) (ok:Nat→Option Value→Thread→Bool) (st:(Code→Sem Fin)→Program→World→SharedT→Thread→Option (SharedT×Thread))
  (seenF:(q:Program)→(loose mods:List Str)→(Xt:Shared→Bool)→Bool→(s:Shared)→type_of% (openSeen q loose mods Xt true s)) (p q:Program) (loose:List Str) (Xt:Shared→Bool) (K:Params→Frag) (as:List Addr) (N:Nat) (S:World→OsState→SharedT) (T:(Code→Sem Fin)→Thread) (w:World):Prop :=
 (fun os=>(run den ok st p w (boot_heap w.params).objs.size (annOf w.params) N (S w os) (T den)).map fun s=>looks seenF p q loose Xt as (boot_heap w.params) s.abs)=fun _=>some (true,openGood q loose,(K w.params).map fun x=>some x.2)
theorem left2 {p q:Program}{loose:List Str}{Xt:Shared→Bool}{K:Params→Frag}{as:List Addr}{n N M:Nat}{S:World→OsState→SharedT}{T:(Code→Sem Fin)→Thread} (e:opening p=plainProg p.main.scope.names) (hN:Nat.ble 600 M=true) (hM:n+N=M) (f:∀s,fenceModules? p s=some s)
  (size:∀P:Params,(boot_heap P).isNs mainGlobals=true) (keyA:∀w,GoalA (denote treeTable) stepOk stepT p n first (fun _=>topStub p) S T w) (keyB:∀w,GoalB (denote treeTable) stepOk stepT openSeen p q loose Xt K as N S T w) :
  LeftO p q loose Xt (fun s=>as.map s.heap.get?) (fun w=>(K w.params).map fun x=>some x.2) M true:=fun w=>by
 obtain⟨⟨h,gs,d,k,os⟩,e1,e2⟩:=Option.map_eq_some_iff.mp (boot_open (p:=p) (N:=M) e hN f w)
 obtain⟨rfl,rfl,rfl,rfl⟩ : h=boot_heap w.params∧gs=Array.mk []∧d=boot_drawn∧k=boot_toks:=by simpa using e2
 obtain⟨s,r,l⟩:=Option.map_eq_some_iff.mp (congrFun (keyB w) os)
 have a':=go_of (congrFun (keyA w) os)
 have r':=go_top a' (run_of r)
 rw[first_abs,hM] at r'
 unfold looks at l
 obtain⟨l1,l2,l3⟩ : _∧_∧_:=by simpa only [Prod.mk.injEq] using l
 have t:topFrom treeTable p w M ⟨boot_heap w.params,#[],boot_drawn,boot_toks,os⟩=some s.abs:=by
  unfold topFrom
  dsimp only
  rw[size w.params]
  show (topRun treeTable p w (boot_heap w.params).objs.size (annOf w.params) M _ _).bind _=_
  rw[r']
  show (match staticsOk (importedModules p.main.body) (boot_heap w.params) s.abs.heap && namesBound p s.abs.heap && gensDone s.abs && laidKept (boot_heap w.params) s.abs.heap with | true=>_ | false=>_)=_
  rw[l1]
 unfold openEnds
 rw[e1]
 show (topFrom treeTable p w M _).map _=_
 rw[t]
 exact congrArg some (Prod.ext l2 l3)
abbrev GoalAQ (p:Program) (n:Nat) (S0:World→OsState→SharedT) (T0:(Code→Sem Fin)→Thread) (S:World→OsState→SharedT) (T:(Code→Sem Fin)→Thread) (w:World):Prop:=GoalA dn PySem.W.Fast.tw6613529449190102663 PySem.W.Fast.tw10156331382660048174 p n S0 T0 S T w
abbrev GoalBQ (p q:Program) (loose:List Str) (Xt:Shared→Bool) (K:Params→Frag) (as:List Addr) (N:Nat) (S:World→OsState→SharedT) (T:(Code→Sem Fin)→Thread) (w:World):Prop:=GoalB dn PySem.W.Fast.tw6613529449190102663 PySem.W.Fast.tw10156331382660048174 PySem.W.Fast.tw4187177175401517315 p q loose Xt K as N S T w
theorem go_add {den:Code→Sem Fin}{ok:Nat→Option Value→Thread→Bool}{st:(Code→Sem Fin)→Program→World→SharedT→Thread→Option (SharedT×Thread)}{p:Program}{w:World}{m:Nat}{ann:Option Value}:∀{a b:Nat}{s s':SharedT}{t t':Thread}{r:Option (SharedT×Thread)},go den ok st p w m ann a s t=some (s',t')→go den ok st p w m ann b s' t'=r→go den ok st p w m ann (a+b) s t=r
 | 0,b,s,s',t,t',r,h,k=>by
  cases h
  rw[Nat.zero_add]; exact k
 | a+1,b,s,s',t,t',r,h,k=>by
  rw[show a+1+b=a+b+1 by lia]
  unfold go at h ⊢
  cases ht:through t with
  | true=>rw[ht] at h; cases h
  | false =>
   rw[ht] at h
   cases hk:ok m ann t with
   | false=>rw[hk] at h; cases h
   | true =>
    rw[hk] at h
    cases hs:st den p w s t with
    | none=>rw[hs] at h; cases h
    | some q=>rw[hs] at h; exact go_add h k
theorem chainA {p:Program}{a b:Nat}{S0 S1 S:World→OsState→SharedT}{T0 T1 T:(Code→Sem Fin)→Thread} (h:∀w,GoalA (denote treeTable) stepOk stepT p a S0 T0 S1 T1 w) (k:∀w,GoalA (denote treeTable) stepOk stepT p b S1 T1 S T w):∀w,GoalA (denote treeTable) stepOk stepT p (a+b) S0 T0 S T w:=fun w =>
 funext fun os=>go_add (congrFun (h w) os) (congrFun (k w) os)
theorem keyA1 {p:Program}{n:Nat}{S0 S:World→OsState→SharedT}{T0 T:(Code→Sem Fin)→Thread} (h:∀w:World,GoalAQ p n S0 T0 S T w):∀w,GoalA (denote treeTable) stepOk stepT p n S0 T0 S T w:=fun w=>by
 rw[PySem.W.Fast.te10156331382660048174,PySem.W.Fast.te11892475500146522536,PySem.W.Fast.te14364793385576792824,PySem.W.Fast.te6613529449190102663]
 exact h w
theorem keyB1 {p q:Program}{loose:List Str}{Xt:Shared→Bool}{K:Params→Frag}{as:List Addr}{N:Nat}{S:World→OsState→SharedT}{T:(Code→Sem Fin)→Thread} (h:∀w:World,GoalBQ p q loose Xt K as N S T w):∀w,GoalB (denote treeTable) stepOk stepT openSeen p q loose Xt K as N S T w:=fun w=>by
 rw[PySem.W.Fast.te10156331382660048174,PySem.W.Fast.te11892475500146522536,PySem.W.Fast.te14364793385576792824,PySem.W.Fast.te6613529449190102663,PySem.W.Fast.te4187177175401517315]
 exact h w
theorem keyA2 {p:Program}{n:Nat}{S0 S:World→OsState→SharedT}{T0 T:(Code→Sem Fin)→Thread} (row:String) (hf:∀w:World,GoalAQ p n S0 T0 S T (w.withFollow row false)) (ht:∀w:World,GoalAQ p n S0 T0 S T (w.withFollow row true)):∀w,GoalA (denote treeTable) stepOk stepT p n S0 T0 S T w :=
 keyA1 fun w=>byRow2 (P:=fun w=>GoalAQ p n S0 T0 S T w) row hf ht w
theorem keyB2 {p q:Program}{loose:List Str}{Xt:Shared→Bool}{K:Params→Frag}{as:List Addr}{N:Nat}{S:World→OsState→SharedT}{T:(Code→Sem Fin)→Thread} (row:String) (hf:∀w:World,GoalBQ p q loose Xt K as N S T (w.withFollow row false)) (ht:∀w:World,GoalBQ p q loose Xt K as N S T (w.withFollow row true)):∀w,GoalB (denote treeTable) stepOk stepT openSeen p q loose Xt K as N S T w :=
 keyB1 fun w=>byRow2 (P:=fun w=>GoalBQ p q loose Xt K as N S T w) row hf ht w
theorem head2 {l:OpenLaw}{q:Program}{loose:List Str}{K:Params→Frag}{as:List Addr}{n N M:Nat}{S:World→OsState→SharedT}{T:(Code→Sem Fin)→Thread}{d:DefRec} (said:l.wellSaid=true) (e:opening l.prog=plainProg l.prog.main.scope.names) (hN:Nat.ble 600 M=true) (hM:n+N=M) (f:∀s,fenceModules? l.prog s=some s)
  (keyA:∀w,GoalA (denote treeTable) stepOk stepT l.prog n first (fun _=>topStub l.prog) S T w) (keyB:∀w,GoalB (denote treeTable) stepOk stepT openSeen l.prog q loose (xt l q) K as N S T w) (hK:∀P,as=(K P).map (·.1))
  (hdef:defOf q l.row.name=some (d,[])) (hp:l.row.prog.theDef l.row.name=some (d.params,d.body,d.scope)) (hk:kwWritten? d.params.kwonlyargs d.params.kw_defaults=some []) (hwr:(!l.row.writes || l.row.records.isEmpty)=true)
  (ok:(chainsOk q && opensWell l.row.prog && (frees l.row.toRowW && l.row.within.isEmpty))=true) (hb:l.row.prog.bare) (hw:l.row.toRowW.promised)
  (call:WalkO q loose (XL q []) (InK K) l.row.toRowW d [] fun f vs=>PySem.call f vs):l.Holds :=
 holds_law said fun k1=>holds_open (Xt:=xt l q) (left2 e hN hM f bootNs keyA keyB) (InK.of hK) InK.keeps (fun s e=>xl_of s (Bool.and_eq_true_iff.mp e).1) XL.keeps hdef hp hk (fun s e=>recFacts_of (Bool.and_eq_true_iff.mp e).2) hwr k1 ok hb hw call
theorem said_of {l:OpenLaw} (a:sreFenced l.prog.main=true) (b:((moduleNames l.prog.main.body).isEmpty || lookedIntoSs (moduleNames l.prog.main.body) l.prog.main.body)=true) (c:namesResolve l.prog=true) (d:l.prog.boundNames.all (fun n=>!worldNames.contains n)=true)
  (e:noRoadLSs { strict:=!(importedModules l.prog.main.body).all cThrough.contains,foot:=none,bare:=(["vars","dir","locals"]:List Str).filter (readsOut l.prog l.prog.main.body) } l.prog.main.body=true) (f:namesMeet l.prog l.prog.main.body (fun _ n=>attrL n)=true)
  (g:l.bound'.all (fun n=>!builtinNamed n || l.about == [n] || !l.reads n)=true) (h:namesMeet l.prog l.above (fun _ n=>!l.own.contains n)=true)
  (r:looksOpen l.prog=true→l.bound'.all (fun n=>!builtinNamed n || l.about == [n] || !l.reads n)=true→namesMeet l.prog l.above (fun _ n=>!l.own.contains n)=true→l.wellSaid=true):l.wellSaid=true :=
 r (by unfold looksOpen; rw[a,b,c,d,e,f]; rfl) g h
end Hd
end
section
set_option maxRecDepth 100000
namespace Hd
open PySem PySem.W PyProof.Rows L2 K3
abbrev pw:=PySem.Challenge.pw_quadwords_k54_full_desks
abbrev methO (c i:Nat):Stmt:=(cbody (top c)).getD i (.Pass ⟨0,0,0,0⟩)
def loose:List Str:="QuadError"::"NoBack"::"NoWord"::"NoPlain"::"NoWide"::"TooLong"::"NoMakers"::"NoCount"::"NoText"::"NoName"::"NoRow"::"NoMill"::"LETTER_PLACES"::"back_place"::"turned"::"put_behind"::"joined"::"petal"::"petals"::"turned_way"::"lay"::"lifted"::"moved"::"merged"::"meeting_of"::"row_length"::"folded"::"ONE"::"is_whole"::"is_table"::"product"::"product_of"::"worth"::"WIDE_LETTERS"::"LETTER_BACKS"::"LONGEST_WIDE_WORD"::"is_wide"::"letters_table"::"reduced_letters"::"back_letters"::"power"::"wide_word_within"::"wide_word"::"MOST_WIDE_MAKERS"::"LONGEST_WIDE_MAKER"::"wide_maker_word"::"wide_maker_words"::"found_states"::"numbered"::"graph_of"::"closes"::"rank"::"is_full"::"index"::"LETTERS_BY_PLACE"::"stems_of"::"ways_onward"::"basis_words"::"basis_of"::"basis"::"LETTERS"::"LONGEST_WORD"::"is_plain"::"is_word"::"table_of"::"word_within"::"word_of"::"MOST_MAKERS"::"LONGEST_MAKER"::"maker_word"::"maker_words"::"last_steps"::"ways_to_places"::"shortest_first"::"least_to_places"::"reached_places"::"least_row"::"many_rows"::"MOST_LETTERS_TOGETHER"::"rests_behind"::"share"::"all_rests"::"further_rests"::"stuck"::"first_pairs"::"words_within"::"words_beyond"::"first_steps"::"next_steps"::"keep_shorter"::"twins_of"::"twins"::"is_needed"::"needed_of"::"needed_words"::"left_between"::"hull_words"::"hull"::"begun_rests"::"Mill"::"stem_length"::"stem_and_core"::"root_length"::"root_of"::"turner"::"FIGURES"::"MOST_FIGURES"::"figures_of"::"number_text"::"table_text"::"is_figures"::"is_number_text"::"read_table"::"SMALL_LETTERS"::"LONGEST_NAME"::"FORMS"::"MILL_ROWS"::"kinds_of"::"check_name"::"thing_of"::"yes_or_no"::"or_dash"::"row_text"::"tables_text"::"say_put"::"say_drop"::"say_names"::"say_show"::"say_times"::"say_word"::"say_wide"::"say_made"::"say_ways"::"say_free"::"say_rank"::"say_within"::"say_basis"::"say_hull"::"say_share"::"say_stuck"::"say_root"::"say_kin"::"say_mill"::"say_feed"::"say_undo"::"say_text"::"say_now"::"say_rests"::"DEEDS"::"Desk"::"_law_draw"::"_law_kind"::"_law_said"::"_law_shown"::"_law_times"::"_law_draws"::"_law_stands"::"_law_names"::"_law_deed_right"::[]
def keep:List Nat:=[175]
abbrev cO (n:Str) (t t1 t2:Nat) (l a f:Int) (v1 v2 v3 v4 v5 v6:Value) (u:Int) (t3:Nat):Obj:=⟨.type "code",none,.fields #[.str n t,.str n t1,.str "/claim/cut.py" t2,.int l 0,.int a 0,.int 0 0,.int 0 0,.int f 0,v1,.bool true,.int 181 0,v2,v3,v4,v5,v6,.int u 0,.int l 0,.str "/claim/cut.py" t3],#[]⟩
abbrev fO (n:Str) (s:Stmt) (m:Value) (c:Addr):Obj:=⟨.type "function",none,.func (PySem.W.fnOf n n (defArgs s) (defBody s) (defScope s) .none .none .none m none (.ref c) .none),#[]⟩
noncomputable def o3 (P:Params):Obj:=⟨(.type "dict"),none,(.dict #[(en P "__name__" 165 (.str "law_quadwords_k54_full_desks" 1708)),(en P "__doc__" 166 .none),(en P "__package__" 167 .none),(en P "__loader__" 168 (.builtin "__main__.__loader__#opaque")),(en P "__spec__" 169 .none),(en P "__annotations__" 170 (.ref 6)),(en P "__builtins__" 171 (.ref 4)),(en P "__file__" 173 (.str "/claim/cut.py" 172)),(en P "__cached__" 174 .none),(en P "QuadError" 206 (.ref 24)),(en P "NoBack" 222 (.ref 37)),(en P "NoWord" 238 (.ref 49)),(en P "NoPlain" 254 (.ref 61)),(en P "NoWide" 270 (.ref 73)),(en P "TooLong" 286 (.ref 85)),(en P "NoMakers" 302 (.ref 97)),(en P "NoCount" 318 (.ref 109)),(en P "NoText" 334 (.ref 121)),(en P "NoName" 350 (.ref 133)),(en P "NoRow" 366 (.ref 145)),(en P "NoMill" 382 (.ref 157)),(en P "LETTER_PLACES" 397 (.ref 160)),(en P "back_place" 404 (.ref 167)),(en P "turned" 410 (.ref 172)),(en P "put_behind" 419 (.ref 179)),(en P "joined" 428 (.ref 186)),(en P "petal" 434 (.ref 191)),(en P "petals" 445 (.ref 198)),(en P "turned_way" 456 (.ref 205)),(en P "lay" 468 (.ref 212)),(en P "lifted" 480 (.ref 219)),(en P "moved" 494 (.ref 226)),(en P "merged" 500 (.ref 231)),(en P "meeting_of" 514 (.ref 238)),(en P "row_length" 521 (.ref 245)),(en P "folded" 537 (.ref 252)),(en P "ONE" 544 (.ref 253)),(en P "is_whole" 551 (.ref 260)),(en P "is_table" 557 (.ref 265)),(en P "product" 573 (.ref 272)),(en P "product_of" 582 (.ref 279)),(en P "worth" 593 (.ref 286)),(en P "WIDE_LETTERS" 622 (.ref 287)),(en P "LETTER_BACKS" 635 (.ref 292)),(en P "LONGEST_WIDE_WORD" 637 (.int (400) 636)),(en P "is_wide" 648 (.ref 299)),(en P "letters_table" 654 (.ref 304)),(en P "reduced_letters" 663 (.ref 311)),(en P "back_letters" 669 (.ref 316)),(en P "power" 677 (.ref 323)),(en P "wide_word_within" 693 (.ref 330)),(en P "wide_word" 701 (.ref 337)),(en P "MOST_WIDE_MAKERS" 705 (.int (8) 704)),(en P "LONGEST_WIDE_MAKER" 707 (.int (10) 706)),(en P "wide_maker_word" 715 (.ref 344)),(en P "wide_maker_words" 721 (.ref 349)),(en P "found_states" 734 (.ref 356)),(en P "numbered" 740 (.ref 361)),(en P "graph_of" 746 (.ref 366)),(en P "closes" 756 (.ref 373)),(en P "rank" 762 (.ref 378)),(en P "is_full" 768 (.ref 383)),(en P "index" 776 (.ref 390)),(en P "LETTERS_BY_PLACE" 780 (.str "uvUV" 779)),(en P "stems_of" 792 (.ref 397)),(en P "ways_onward" 798 (.ref 402)),(en P "basis_words" 804 (.ref 407)),(en P "basis_of" 810 (.ref 412)),(en P "basis" 817 (.ref 419)),(en P "LETTERS" 832 (.ref 420)),(en P "LONGEST_WORD" 834 (.int (400) 833)),(en P "is_plain" 841 (.ref 429)),(en P "is_word" 847 (.ref 434)),(en P "table_of" 853 (.ref 439)),(en P "word_within" 866 (.ref 446)),(en P "word_of" 874 (.ref 453)),(en P "MOST_MAKERS" 878 (.int (8) 877)),(en P "LONGEST_MAKER" 880 (.int (40) 879)),(en P "maker_word" 888 (.ref 460)),(en P "maker_words" 894 (.ref 465)),(en P "last_steps" 900 (.ref 470)),(en P "ways_to_places" 906 (.ref 475)),(en P "shortest_first" 913 (.ref 482)),(en P "least_to_places" 919 (.ref 487)),(en P "reached_places" 925 (.ref 492)),(en P "least_row" 935 (.ref 499)),(en P "many_rows" 945 (.ref 506)),(en P "MOST_LETTERS_TOGETHER" 949 (.int (30) 948)),(en P "rests_behind" 955 (.ref 511)),(en P "share" 961 (.ref 516)),(en P "all_rests" 967 (.ref 521)),(en P "further_rests" 980 (.ref 528)),(en P "stuck" 986 (.ref 533)),(en P "first_pairs" 994 (.ref 538)),(en P "words_within" 1000 (.ref 543)),(en P "words_beyond" 1006 (.ref 548)),(en P "first_steps" 1012 (.ref 553)),(en P "next_steps" 1018 (.ref 558)),(en P "keep_shorter" 1029 (.ref 565)),(en P "twins_of" 1043 (.ref 572)),(en P "twins" 1050 (.ref 579)),(en P "is_needed" 1056 (.ref 584)),(en P "needed_of" 1062 (.ref 589)),(en P "needed_words" 1070 (.ref 594)),(en P "left_between" 1080 (.ref 601)),(en P "hull_words" 1089 (.ref 608)),(en P "hull" 1095 (.ref 613)),(en P "begun_rests" 1103 (.ref 618)),(en P "Mill" 1190 (.ref 689)),(en P "stem_length" 1200 (.ref 700)),(en P "stem_and_core" 1208 (.ref 707)),(en P "root_length" 1215 (.ref 714)),(en P "root_of" 1226 (.ref 721)),(en P "turner" 1239 (.ref 728)),(en P "FIGURES" 1243 (.str "0123456789" 1242)),(en P "MOST_FIGURES" 1245 (.int (200) 1244)),(en P "figures_of" 1254 (.ref 735)),(en P "number_text" 1261 (.ref 742)),(en P "table_text" 1267 (.ref 747)),(en P "is_figures" 1274 (.ref 754)),(en P "is_number_text" 1281 (.ref 761)),(en P "read_table" 1287 (.ref 766)),(en P "SMALL_LETTERS" 1291 (.str "abcdefghijklmnopqrstuvwxyz" 1290)),(en P "LONGEST_NAME" 1293 (.int (8) 1292)),(en P "FORMS" 1366 (.ref 767)),(en P "MILL_ROWS" 1372 (.ref 769)),(en P "kinds_of" 1380 (.ref 776)),(en P "check_name" 1387 (.ref 783)),(en P "thing_of" 1396 (.ref 790)),(en P "yes_or_no" 1403 (.ref 797)),(en P "or_dash" 1410 (.ref 804)),(en P "row_text" 1416 (.ref 809)),(en P "tables_text" 1422 (.ref 814)),(en P "say_put" 1432 (.ref 821)),(en P "say_drop" 1440 (.ref 828)),(en P "say_names" 1448 (.ref 835)),(en P "say_show" 1456 (.ref 842)),(en P "say_times" 1464 (.ref 849)),(en P "say_word" 1472 (.ref 856)),(en P "say_wide" 1480 (.ref 863)),(en P "say_made" 1488 (.ref 870)),(en P "say_ways" 1496 (.ref 877)),(en P "say_free" 1504 (.ref 884)),(en P "say_rank" 1513 (.ref 891)),(en P "say_within" 1522 (.ref 898)),(en P "say_basis" 1530 (.ref 905)),(en P "say_hull" 1538 (.ref 912)),(en P "say_share" 1548 (.ref 919)),(en P "say_stuck" 1557 (.ref 926)),(en P "say_root" 1566 (.ref 933)),(en P "say_kin" 1574 (.ref 940)),(en P "say_mill" 1582 (.ref 947)),(en P "say_feed" 1590 (.ref 954)),(en P "say_undo" 1598 (.ref 961)),(en P "say_text" 1606 (.ref 968)),(en P "say_now" 1614 (.ref 975)),(en P "say_rests" 1623 (.ref 982)),(en P "DEEDS" 1672 (.ref 983)),(en P "Desk" 1707 (.ref 1006)),(en P "_law_draw" 1718 (.ref 1017)),(en P "_law_kind" 1724 (.ref 1022)),(en P "_law_said" 1735 (.ref 1029)),(en P "_law_shown" 1741 (.ref 1034)),(en P "_law_times" 1753 (.ref 1041)),(en P "_law_draws" 1764 (.ref 1048)),(en P "_law_stands" 1773 (.ref 1055)),(en P "_law_names" 1779 (.ref 1060)),(en P "_law_deed_right" 1785 (.ref 1065)),(en P "law" 1800 (.ref 1072))] 169),#[]⟩
noncomputable def o23 (P:Params):Obj:=⟨(.type "dict"),none,(.dict #[(en P "__module__" 196 (.str "quadwords.errors" 187)),(en P "__firstlineno__" 200 (.int (2) 199)),(en P "__static_attributes__" 201 (.ref 22)),(en P "__weakref__" 203 (.ref 25)),(en P "__doc__" 204 .none)] 3),#[]⟩
noncomputable def o24 (P:Params):Obj:=⟨(.type "type"),none,(.cls ⟨"QuadError",[(.type "ValueError")],[(.ref 24),(.type "ValueError"),(.type "Exception"),(.type "BaseException"),(.type "object")],23,"QuadError",true,[],[(.ref 37),(.ref 49),(.ref 61),(.ref 73),(.ref 85),(.ref 97),(.ref 109),(.ref 121),(.ref 133),(.ref 145),(.ref 157)],false,none,false⟩),#[(some (.ref 15)),none,(some (.str "QuadError" 189)),(some (.str "QuadError" 197)),(some (.builtin "ValueError.__new__")),(some (.bool true))]⟩
noncomputable def o36 (P:Params):Obj:=⟨(.type "dict"),none,(.dict #[(en P "__module__" 214 (.str "quadwords.errors" 187)),(en P "__firstlineno__" 218 (.int (4) 217)),(en P "__static_attributes__" 219 (.ref 35)),(en P "__doc__" 220 .none)] 2),#[]⟩
noncomputable def o37 (P:Params):Obj:=⟨(.type "type"),none,(.cls ⟨"NoBack",[(.ref 24)],[(.ref 37),(.ref 24),(.type "ValueError"),(.type "Exception"),(.type "BaseException"),(.type "object")],36,"NoBack",true,[],[],false,none,false⟩),#[(some (.ref 28)),none,(some (.str "NoBack" 207)),(some (.str "NoBack" 215)),(some (.builtin "ValueError.__new__")),(some (.bool true))]⟩
noncomputable def o48 (P:Params):Obj:=⟨(.type "dict"),none,(.dict #[(en P "__module__" 230 (.str "quadwords.errors" 187)),(en P "__firstlineno__" 234 (.int (6) 233)),(en P "__static_attributes__" 235 (.ref 47)),(en P "__doc__" 236 .none)] 2),#[]⟩
noncomputable def o49 (P:Params):Obj:=⟨(.type "type"),none,(.cls ⟨"NoWord",[(.ref 24)],[(.ref 49),(.ref 24),(.type "ValueError"),(.type "Exception"),(.type "BaseException"),(.type "object")],48,"NoWord",true,[],[],false,none,false⟩),#[(some (.ref 40)),none,(some (.str "NoWord" 223)),(some (.str "NoWord" 231)),(some (.builtin "ValueError.__new__")),(some (.bool true))]⟩
noncomputable def o60 (P:Params):Obj:=⟨(.type "dict"),none,(.dict #[(en P "__module__" 246 (.str "quadwords.errors" 187)),(en P "__firstlineno__" 250 (.int (8) 249)),(en P "__static_attributes__" 251 (.ref 59)),(en P "__doc__" 252 .none)] 2),#[]⟩
noncomputable def o61 (P:Params):Obj:=⟨(.type "type"),none,(.cls ⟨"NoPlain",[(.ref 24)],[(.ref 61),(.ref 24),(.type "ValueError"),(.type "Exception"),(.type "BaseException"),(.type "object")],60,"NoPlain",true,[],[],false,none,false⟩),#[(some (.ref 52)),none,(some (.str "NoPlain" 239)),(some (.str "NoPlain" 247)),(some (.builtin "ValueError.__new__")),(some (.bool true))]⟩
noncomputable def o72 (P:Params):Obj:=⟨(.type "dict"),none,(.dict #[(en P "__module__" 262 (.str "quadwords.errors" 187)),(en P "__firstlineno__" 266 (.int (10) 265)),(en P "__static_attributes__" 267 (.ref 71)),(en P "__doc__" 268 .none)] 2),#[]⟩
noncomputable def o73 (P:Params):Obj:=⟨(.type "type"),none,(.cls ⟨"NoWide",[(.ref 24)],[(.ref 73),(.ref 24),(.type "ValueError"),(.type "Exception"),(.type "BaseException"),(.type "object")],72,"NoWide",true,[],[],false,none,false⟩),#[(some (.ref 64)),none,(some (.str "NoWide" 255)),(some (.str "NoWide" 263)),(some (.builtin "ValueError.__new__")),(some (.bool true))]⟩
noncomputable def o84 (P:Params):Obj:=⟨(.type "dict"),none,(.dict #[(en P "__module__" 278 (.str "quadwords.errors" 187)),(en P "__firstlineno__" 282 (.int (12) 281)),(en P "__static_attributes__" 283 (.ref 83)),(en P "__doc__" 284 .none)] 2),#[]⟩
noncomputable def o85 (P:Params):Obj:=⟨(.type "type"),none,(.cls ⟨"TooLong",[(.ref 24)],[(.ref 85),(.ref 24),(.type "ValueError"),(.type "Exception"),(.type "BaseException"),(.type "object")],84,"TooLong",true,[],[],false,none,false⟩),#[(some (.ref 76)),none,(some (.str "TooLong" 271)),(some (.str "TooLong" 279)),(some (.builtin "ValueError.__new__")),(some (.bool true))]⟩
noncomputable def o96 (P:Params):Obj:=⟨(.type "dict"),none,(.dict #[(en P "__module__" 294 (.str "quadwords.errors" 187)),(en P "__firstlineno__" 298 (.int (14) 297)),(en P "__static_attributes__" 299 (.ref 95)),(en P "__doc__" 300 .none)] 2),#[]⟩
noncomputable def o97 (P:Params):Obj:=⟨(.type "type"),none,(.cls ⟨"NoMakers",[(.ref 24)],[(.ref 97),(.ref 24),(.type "ValueError"),(.type "Exception"),(.type "BaseException"),(.type "object")],96,"NoMakers",true,[],[],false,none,false⟩),#[(some (.ref 88)),none,(some (.str "NoMakers" 287)),(some (.str "NoMakers" 295)),(some (.builtin "ValueError.__new__")),(some (.bool true))]⟩
noncomputable def o108 (P:Params):Obj:=⟨(.type "dict"),none,(.dict #[(en P "__module__" 310 (.str "quadwords.errors" 187)),(en P "__firstlineno__" 314 (.int (16) 313)),(en P "__static_attributes__" 315 (.ref 107)),(en P "__doc__" 316 .none)] 2),#[]⟩
noncomputable def o109 (P:Params):Obj:=⟨(.type "type"),none,(.cls ⟨"NoCount",[(.ref 24)],[(.ref 109),(.ref 24),(.type "ValueError"),(.type "Exception"),(.type "BaseException"),(.type "object")],108,"NoCount",true,[],[],false,none,false⟩),#[(some (.ref 100)),none,(some (.str "NoCount" 303)),(some (.str "NoCount" 311)),(some (.builtin "ValueError.__new__")),(some (.bool true))]⟩
noncomputable def o120 (P:Params):Obj:=⟨(.type "dict"),none,(.dict #[(en P "__module__" 326 (.str "quadwords.errors" 187)),(en P "__firstlineno__" 330 (.int (18) 329)),(en P "__static_attributes__" 331 (.ref 119)),(en P "__doc__" 332 .none)] 2),#[]⟩
noncomputable def o121 (P:Params):Obj:=⟨(.type "type"),none,(.cls ⟨"NoText",[(.ref 24)],[(.ref 121),(.ref 24),(.type "ValueError"),(.type "Exception"),(.type "BaseException"),(.type "object")],120,"NoText",true,[],[],false,none,false⟩),#[(some (.ref 112)),none,(some (.str "NoText" 319)),(some (.str "NoText" 327)),(some (.builtin "ValueError.__new__")),(some (.bool true))]⟩
noncomputable def o132 (P:Params):Obj:=⟨(.type "dict"),none,(.dict #[(en P "__module__" 342 (.str "quadwords.errors" 187)),(en P "__firstlineno__" 346 (.int (20) 345)),(en P "__static_attributes__" 347 (.ref 131)),(en P "__doc__" 348 .none)] 2),#[]⟩
noncomputable def o133 (P:Params):Obj:=⟨(.type "type"),none,(.cls ⟨"NoName",[(.ref 24)],[(.ref 133),(.ref 24),(.type "ValueError"),(.type "Exception"),(.type "BaseException"),(.type "object")],132,"NoName",true,[],[],false,none,false⟩),#[(some (.ref 124)),none,(some (.str "NoName" 335)),(some (.str "NoName" 343)),(some (.builtin "ValueError.__new__")),(some (.bool true))]⟩
noncomputable def o144 (P:Params):Obj:=⟨(.type "dict"),none,(.dict #[(en P "__module__" 358 (.str "quadwords.errors" 187)),(en P "__firstlineno__" 362 (.int (22) 361)),(en P "__static_attributes__" 363 (.ref 143)),(en P "__doc__" 364 .none)] 2),#[]⟩
noncomputable def o145 (P:Params):Obj:=⟨(.type "type"),none,(.cls ⟨"NoRow",[(.ref 24)],[(.ref 145),(.ref 24),(.type "ValueError"),(.type "Exception"),(.type "BaseException"),(.type "object")],144,"NoRow",true,[],[],false,none,false⟩),#[(some (.ref 136)),none,(some (.str "NoRow" 351)),(some (.str "NoRow" 359)),(some (.builtin "ValueError.__new__")),(some (.bool true))]⟩
noncomputable def o156 (P:Params):Obj:=⟨(.type "dict"),none,(.dict #[(en P "__module__" 374 (.str "quadwords.errors" 187)),(en P "__firstlineno__" 378 (.int (24) 377)),(en P "__static_attributes__" 379 (.ref 155)),(en P "__doc__" 380 .none)] 2),#[]⟩
noncomputable def o157 (P:Params):Obj:=⟨(.type "type"),none,(.cls ⟨"NoMill",[(.ref 24)],[(.ref 157),(.ref 24),(.type "ValueError"),(.type "Exception"),(.type "BaseException"),(.type "object")],156,"NoMill",true,[],[],false,none,false⟩),#[(some (.ref 148)),none,(some (.str "NoMill" 367)),(some (.str "NoMill" 375)),(some (.builtin "ValueError.__new__")),(some (.bool true))]⟩
noncomputable def o271 (P:Params):Obj:=cO "product" 558 559 560 110 2 3 (.ref 266) (.ref 267) .none (.ref 268) (.ref 269) (.ref 270) 571 572
noncomputable def o272 (P:Params):Obj:=fO "product" (top 33) (.str "quadwords.tables" 538) 271
noncomputable def o734 (P:Params):Obj:=cO "figures_of" 1246 1247 1248 474 1 3 (.ref 729) (.ref 730) .none (.ref 731) (.ref 732) (.ref 733) 1252 1253
noncomputable def o735 (P:Params):Obj:=fO "figures_of" (top 121) (.str "quadwords.texts" 1240) 734
noncomputable def o741 (P:Params):Obj:=cO "number_text" 1255 1256 1257 481 1 3 (.ref 736) (.ref 737) .none (.ref 738) (.ref 739) (.ref 740) 1259 1260
noncomputable def o742 (P:Params):Obj:=fO "number_text" (top 122) (.str "quadwords.texts" 1240) 741
noncomputable def o746 (P:Params):Obj:=cO "table_text" 1262 1263 1264 483 1 3 (.ref 743) (.ref 744) .none .none .none (.ref 745) 1265 1266
noncomputable def o747 (P:Params):Obj:=fO "table_text" (top 123) (.str "quadwords.texts" 1240) 746
noncomputable def o753 (P:Params):Obj:=cO "is_figures" 1268 1269 1270 485 1 3 (.ref 748) (.ref 749) .none (.ref 750) (.ref 751) (.ref 752) 1272 1273
noncomputable def o754 (P:Params):Obj:=fO "is_figures" (top 124) (.str "quadwords.texts" 1240) 753
noncomputable def o760 (P:Params):Obj:=cO "is_number_text" 1275 1276 1277 489 1 3 (.ref 755) (.ref 756) .none (.ref 757) (.ref 758) (.ref 759) 1279 1280
noncomputable def o761 (P:Params):Obj:=fO "is_number_text" (top 125) (.str "quadwords.texts" 1240) 760
noncomputable def o765 (P:Params):Obj:=cO "read_table" 1282 1283 1284 491 1 3 (.ref 762) (.ref 763) .none .none .none (.ref 764) 1285 1286
noncomputable def o766 (P:Params):Obj:=fO "read_table" (top 126) (.str "quadwords.texts" 1240) 765
noncomputable def o767 (P:Params):Obj:=⟨(.type "dict"),none,(.dict #[(en P "put" 1294 (.str "new table" 1295)),(en P "drop" 1297 (.str "kept" 1298)),(en P "names" 1300 (.str "" 1301)),(en P "show" 1303 (.str "name" 1304)),(en P "times" 1306 (.str "name name" 1307)),(en P "word" 1309 (.str "name" 1310)),(en P "wide" 1312 (.str "name" 1313)),(en P "made" 1315 (.str "table names" 1316)),(en P "ways" 1318 (.str "table names" 1319)),(en P "free" 1321 (.str "names" 1322)),(en P "rank" 1324 (.str "names" 1325)),(en P "within" 1327 (.str "table names" 1328)),(en P "basis" 1330 (.str "names" 1331)),(en P "hull" 1333 (.str "names" 1334)),(en P "share" 1336 (.str "names" 1337)),(en P "stuck" 1339 (.str "names" 1340)),(en P "root" 1342 (.str "name" 1343)),(en P "kin" 1345 (.str "name name" 1346)),(en P "mill" 1347 (.str "names" 1348)),(en P "feed" 1349 (.str "name" 1350)),(en P "undo" 1351 (.str "" 1352)),(en P "text" 1353 (.str "" 1354)),(en P "now" 1355 (.str "" 1356)),(en P "rests" 1357 (.str "" 1358))] 24),#[]⟩
noncomputable def o769 (P:Params):Obj:=⟨(.type "tuple"),none,(.seq #[(.str "feed" 1367),(.str "undo" 1368),(.str "text" 1369),(.str "now" 1370),(.str "rests" 1371)] 0),#[]⟩
noncomputable def o775 (P:Params):Obj:=cO "kinds_of" 1373 1374 1375 503 1 3 (.ref 770) (.ref 771) .none (.ref 772) (.ref 773) (.ref 774) 1378 1379
noncomputable def o776 (P:Params):Obj:=fO "kinds_of" (top 132) (.str "quadwords.desk" 1288) 775
noncomputable def o782 (P:Params):Obj:=cO "check_name" 1381 1382 1383 512 1 3 (.ref 777) (.ref 778) .none (.ref 779) (.ref 780) (.ref 781) 1385 1386
noncomputable def o783 (P:Params):Obj:=fO "check_name" (top 133) (.str "quadwords.desk" 1288) 782
noncomputable def o789 (P:Params):Obj:=cO "thing_of" 1388 1389 1390 515 3 3 (.ref 784) (.ref 785) .none (.ref 786) (.ref 787) (.ref 788) 1394 1395
noncomputable def o790 (P:Params):Obj:=fO "thing_of" (top 134) (.str "quadwords.desk" 1288) 789
noncomputable def o820 (P:Params):Obj:=cO "say_put" 1423 1424 1425 532 2 3 (.ref 815) (.ref 816) .none (.ref 817) (.ref 818) (.ref 819) 1430 1431
noncomputable def o821 (P:Params):Obj:=fO "say_put" (top 139) (.str "quadwords.desk" 1288) 820
noncomputable def o827 (P:Params):Obj:=cO "say_drop" 1433 1434 1435 536 2 3 (.ref 822) (.ref 823) .none (.ref 824) (.ref 825) (.ref 826) 1438 1439
noncomputable def o828 (P:Params):Obj:=fO "say_drop" (top 140) (.str "quadwords.desk" 1288) 827
noncomputable def o834 (P:Params):Obj:=cO "say_names" 1441 1442 1443 539 2 3 (.ref 829) (.ref 830) .none (.ref 831) (.ref 832) (.ref 833) 1446 1447
noncomputable def o835 (P:Params):Obj:=fO "say_names" (top 141) (.str "quadwords.desk" 1288) 834
noncomputable def o841 (P:Params):Obj:=cO "say_show" 1449 1450 1451 541 2 3 (.ref 836) (.ref 837) .none (.ref 838) (.ref 839) (.ref 840) 1454 1455
noncomputable def o842 (P:Params):Obj:=fO "say_show" (top 142) (.str "quadwords.desk" 1288) 841
noncomputable def o848 (P:Params):Obj:=cO "say_times" 1457 1458 1459 543 2 3 (.ref 843) (.ref 844) .none (.ref 845) (.ref 846) (.ref 847) 1462 1463
noncomputable def o849 (P:Params):Obj:=fO "say_times" (top 143) (.str "quadwords.desk" 1288) 848
noncomputable def o983 (P:Params):Obj:=⟨(.type "dict"),none,(.dict #[(en P "put" 1624 (.ref 821)),(en P "drop" 1626 (.ref 828)),(en P "names" 1628 (.ref 835)),(en P "show" 1630 (.ref 842)),(en P "times" 1632 (.ref 849)),(en P "word" 1634 (.ref 856)),(en P "wide" 1636 (.ref 863)),(en P "made" 1638 (.ref 870)),(en P "ways" 1640 (.ref 877)),(en P "free" 1642 (.ref 884)),(en P "rank" 1644 (.ref 891)),(en P "within" 1646 (.ref 898)),(en P "basis" 1648 (.ref 905)),(en P "hull" 1650 (.ref 912)),(en P "share" 1652 (.ref 919)),(en P "stuck" 1654 (.ref 926)),(en P "root" 1656 (.ref 933)),(en P "kin" 1658 (.ref 940)),(en P "mill" 1659 (.ref 947)),(en P "feed" 1660 (.ref 954)),(en P "undo" 1661 (.ref 961)),(en P "text" 1662 (.ref 968)),(en P "now" 1663 (.ref 975)),(en P "rests" 1664 (.ref 982))] 24),#[]⟩
noncomputable def o997 (P:Params):Obj:=⟨(.type "code"),none,(.fields #[(.str "__init__" 1685),(.str "Desk.__init__" 1686),(.str "/claim/cut.py" 1687),(.int (593) 0),(.int (1) 0),(.int (0) 0),(.int (0) 0),(.int (3) 0),(.ref 992),(.bool true),(.int (181) 0),(.ref 993),.none,(.ref 994),(.ref 995),(.ref 996),(.int (1689) 0),(.int (593) 0),(.str "/claim/cut.py" 1690)]),#[]⟩
noncomputable def o998 (P:Params):Obj:=⟨(.type "function"),none,(.func (PySem.W.fnOf "__init__" "Desk.__init__" (defArgs (meth 0)) (defBody (meth 0)) (defScope (meth 0)) .none .none .none (.str "quadwords.desk" 1288) none (.ref 997) .none)),#[]⟩
noncomputable def o1002 (P:Params):Obj:=⟨(.type "code"),none,(.fields #[(.str "say" 1692),(.str "Desk.say" 1693),(.str "/claim/cut.py" 1694),(.int (597) 0),(.int (2) 0),(.int (0) 0),(.int (0) 0),(.int (3) 0),(.ref 999),(.bool true),(.int (181) 0),(.ref 1000),.none,.none,.none,(.ref 1001),(.int (1695) 0),(.int (597) 0),(.str "/claim/cut.py" 1696)]),#[]⟩
noncomputable def o1003 (P:Params):Obj:=⟨(.type "function"),none,(.func (PySem.W.fnOf "say" "Desk.say" (defArgs (meth 1)) (defBody (meth 1)) (defScope (meth 1)) .none .none .none (.str "quadwords.desk" 1288) none (.ref 1002) .none)),#[]⟩
noncomputable def o1005 (P:Params):Obj:=⟨(.type "dict"),none,(.dict #[(en P "__module__" 1680 (.str "quadwords.desk" 1288)),(en P "__firstlineno__" 1684 (.int (591) 1683)),(en P "__init__" 1691 (.ref 998)),(en P "say" 1697 (.ref 1003)),(en P "__static_attributes__" 1700 (.ref 1004)),(en P "__dict__" 1702 (.ref 1007)),(en P "__weakref__" 1704 (.ref 1008)),(en P "__doc__" 1705 .none)] 4),#[]⟩
noncomputable def o1006 (P:Params):Obj:=⟨(.type "type"),none,(.cls ⟨"Desk",[(.type "object")],[(.ref 1006),(.type "object")],1005,"Desk",true,[],[],false,none,false⟩),#[none,none,(some (.str "Desk" 1673)),(some (.str "Desk" 1681)),(some (.builtin "object.__new__")),(some (.bool true))]⟩
noncomputable def o1016 (P:Params):Obj:=cO "_law_draw" 1710 1711 1712 608 2 3 (.ref 1011) (.ref 1012) .none (.ref 1013) (.ref 1014) (.ref 1015) 1716 1717
noncomputable def o1017 (P:Params):Obj:=fO "_law_draw" (top 166) (.str "law_quadwords_k54_full_desks" 1708) 1016
noncomputable def o1021 (P:Params):Obj:=cO "_law_kind" 1719 1720 1721 615 1 3 (.ref 1018) (.ref 1019) .none .none .none (.ref 1020) 1722 1723
noncomputable def o1022 (P:Params):Obj:=fO "_law_kind" (top 167) (.str "law_quadwords_k54_full_desks" 1708) 1021
noncomputable def o1028 (P:Params):Obj:=cO "_law_said" 1725 1726 1727 622 2 3 (.ref 1023) (.ref 1024) .none (.ref 1025) (.ref 1026) (.ref 1027) 1733 1734
noncomputable def o1029 (P:Params):Obj:=fO "_law_said" (top 168) (.str "law_quadwords_k54_full_desks" 1708) 1028
noncomputable def o1033 (P:Params):Obj:=cO "_law_shown" 1736 1737 1738 630 1 3 (.ref 1030) (.ref 1031) .none .none .none (.ref 1032) 1739 1740
noncomputable def o1034 (P:Params):Obj:=fO "_law_shown" (top 169) (.str "law_quadwords_k54_full_desks" 1708) 1033
noncomputable def o1040 (P:Params):Obj:=cO "_law_times" 1742 1743 1744 632 2 3 (.ref 1035) (.ref 1036) .none (.ref 1037) (.ref 1038) (.ref 1039) 1751 1752
noncomputable def o1041 (P:Params):Obj:=fO "_law_times" (top 170) (.str "law_quadwords_k54_full_desks" 1708) 1040
noncomputable def o1047 (P:Params):Obj:=cO "_law_draws" 1754 1755 1756 639 2 3 (.ref 1042) (.ref 1043) .none (.ref 1044) (.ref 1045) (.ref 1046) 1762 1763
noncomputable def o1048 (P:Params):Obj:=fO "_law_draws" (top 171) (.str "law_quadwords_k54_full_desks" 1708) 1047
noncomputable def o1054 (P:Params):Obj:=cO "_law_stands" 1765 1766 1767 649 2 3 (.ref 1049) (.ref 1050) .none (.ref 1051) (.ref 1052) (.ref 1053) 1771 1772
noncomputable def o1055 (P:Params):Obj:=fO "_law_stands" (top 172) (.str "law_quadwords_k54_full_desks" 1708) 1054
noncomputable def o1059 (P:Params):Obj:=cO "_law_names" 1774 1775 1776 658 1 3 (.ref 1056) (.ref 1057) .none .none .none (.ref 1058) 1777 1778
noncomputable def o1060 (P:Params):Obj:=fO "_law_names" (top 173) (.str "law_quadwords_k54_full_desks" 1708) 1059
noncomputable def o1064 (P:Params):Obj:=cO "_law_deed_right" 1780 1781 1782 668 4 3 (.ref 1061) (.ref 1062) .none .none .none (.ref 1063) 1783 1784
noncomputable def o1065 (P:Params):Obj:=fO "_law_deed_right" (top 174) (.str "law_quadwords_k54_full_desks" 1708) 1064
noncomputable def o1071 (P:Params):Obj:=cO "law" 1786 1787 1788 680 1 3 (.ref 1066) (.ref 1067) .none (.ref 1068) (.ref 1069) (.ref 1070) 1798 1799
noncomputable def o1072 (P:Params):Obj:=fO "law" (top 175) (.str "law_quadwords_k54_full_desks" 1708) 1071
noncomputable def K (P:Params):Frag:=(nat_lit 3,o3 P)::(nat_lit 23,o23 P)::(nat_lit 24,o24 P)::(nat_lit 36,o36 P)::(nat_lit 37,o37 P)::(nat_lit 48,o48 P)::(nat_lit 49,o49 P)::(nat_lit 60,o60 P)::(nat_lit 61,o61 P)::(nat_lit 72,o72 P)::(nat_lit 73,o73 P)::(nat_lit 84,o84 P)::(nat_lit 85,o85 P)::(nat_lit 96,o96 P)::(nat_lit 97,o97 P)::(nat_lit 108,o108 P)::(nat_lit 109,o109 P)::(nat_lit 120,o120 P)::(nat_lit 121,o121 P)::(nat_lit 132,o132 P)::(nat_lit 133,o133 P)::(nat_lit 144,o144 P)::(nat_lit 145,o145 P)::(nat_lit 156,o156 P)::(nat_lit 157,o157 P)::(nat_lit 271,o271 P)::(nat_lit 272,o272 P)::(nat_lit 734,o734 P)::(nat_lit 735,o735 P)::(nat_lit 741,o741 P)::(nat_lit 742,o742 P)::(nat_lit 746,o746 P)::(nat_lit 747,o747 P)::(nat_lit 753,o753 P)::(nat_lit 754,o754 P)::(nat_lit 760,o760 P)::(nat_lit 761,o761 P)::(nat_lit 765,o765 P)::(nat_lit 766,o766 P)::(nat_lit 767,o767 P)::(nat_lit 769,o769 P)::(nat_lit 775,o775 P)::(nat_lit 776,o776 P)::(nat_lit 782,o782 P)::(nat_lit 783,o783 P)::(nat_lit 789,o789 P)::(nat_lit 790,o790 P)::(nat_lit 820,o820 P)::(nat_lit 821,o821 P)::(nat_lit 827,o827 P)::(nat_lit 828,o828 P)::(nat_lit 834,o834 P)::(nat_lit 835,o835 P)::(nat_lit 841,o841 P)::(nat_lit 842,o842 P)::(nat_lit 848,o848 P)::(nat_lit 849,o849 P)::(nat_lit 983,o983 P)::(nat_lit 997,o997 P)::(nat_lit 998,o998 P)::(nat_lit 1002,o1002 P)::(nat_lit 1003,o1003 P)::(nat_lit 1005,o1005 P)::(nat_lit 1006,o1006 P)::(nat_lit 1016,o1016 P)::(nat_lit 1017,o1017 P)::(nat_lit 1021,o1021 P)::(nat_lit 1022,o1022 P)::(nat_lit 1028,o1028 P)::(nat_lit 1029,o1029 P)::(nat_lit 1033,o1033 P)::(nat_lit 1034,o1034 P)::(nat_lit 1040,o1040 P)::(nat_lit 1041,o1041 P)::(nat_lit 1047,o1047 P)::(nat_lit 1048,o1048 P)::(nat_lit 1054,o1054 P)::(nat_lit 1055,o1055 P)::(nat_lit 1059,o1059 P)::(nat_lit 1060,o1060 P)::(nat_lit 1064,o1064 P)::(nat_lit 1065,o1065 P)::(nat_lit 1071,o1071 P)::(nat_lit 1072,o1072 P)::[]
def kAs:List Addr:=[3,23,24,36,37,48,49,60,61,72,73,84,85,96,97,108,109,120,121,132,133,144,145,156,157,271,272,734,735,741,742,746,747,753,754,760,761,765,766,767,769,775,776,782,783,789,790,820,821,827,828,834,835,841,842,848,849,983,997,998,1002,1003,1005,1006,1016,1017,1021,1022,1028,1029,1033,1034,1040,1041,1047,1048,1054,1055,1059,1060,1064,1065,1071,1072]
def env1:Env:={ scope:=pw.main.scope,locals:=mainNs,globals:=mainNs,cells:=[],code:=(.ref 13),frame:=some 14 }
abbrev t0:Obj:=⟨(.type "tuple"),none,(.seq #[] 0),#[]⟩
abbrev n0:Obj:=⟨.none,none,(.fields #[]),#[]⟩
abbrev gO (n q:Str) (s:Stmt):Obj:=⟨.none,none,.func { PySem.W.fnOf n q (defArgs s) (defBody s) (defScope s) .none .none .none .none none .none .none with globals:=0 },#[]⟩
abbrev tO (l:List Value):Obj:=⟨.type "tuple",none,.seq ⟨l⟩ 0,#[]⟩
abbrev sO (a:Addr):Obj:=⟨.type "super",none,.fields #[.ref a,.ref a,.ref a],#[]⟩
abbrev bO (n:String) (v:Value):Obj:=⟨.type "builtin_function_or_method",none,.fields #[.builtin n,v],#[]⟩
noncomputable def m0_0 (P:Params):List Obj:=t0::⟨.none,none,(.fields #[(.int (2) 0),(.int (0) 0),(.ref 20),(.int (4) 0),(.int (0) 0),(.ref 33),(.int (6) 0),(.int (0) 0),(.ref 45),(.int (8) 0),(.int (0) 0),(.ref 57),(.int (10) 0),(.int (0) 0),(.ref 69),(.int (12) 0),(.int (0) 0),(.ref 81),(.int (14) 0),(.int (0) 0),(.ref 93),(.int (16) 0),(.int (0) 0),(.ref 105),(.int (18) 0),(.int (0) 0),(.ref 117),(.int (20) 0),(.int (0) 0),(.ref 129),(.int (22) 0),(.int (0) 0),(.ref 141),(.int (24) 0),(.int (0) 0),(.ref 153),(.int (28) 0),(.int (0) 0),(.ref 166),(.int (30) 0),(.int (0) 0),(.ref 171),(.int (32) 0),(.int (0) 0),(.ref 178),(.int (38) 0),(.int (0) 0),(.ref 185),(.int (42) 0),(.int (0) 0),(.ref 190),(.int (47) 0),(.int (0) 0),(.ref 197),(.int (52) 0),(.int (0) 0),(.ref 204),(.int (55) 0),(.int (0) 0),(.ref 211),(.int (58) 0),(.int (0) 0),(.ref 218),(.int (67) 0),(.int (0) 0),(.ref 225),(.int (74) 0),(.int (0) 0),(.ref 230),(.int (79) 0),(.int (0) 0),(.ref 237),(.int (85) 0),(.int (0) 0),(.ref 244),(.int (87) 0),(.int (0) 0),(.ref 251),(.int (106) 0),(.int (0) 0),(.ref 259),(.int (108) 0),(.int (0) 0),(.ref 264),(.int (110) 0),(.int (0) 0),(.ref 271),(.int (114) 0),(.int (0) 0),(.ref 278),(.int (119) 0),(.int (0) 0),(.ref 285),(.int (126) 0),(.int (0) 0),(.ref 298),(.int (131) 0),(.int (0) 0),(.ref 303),(.int (133) 0),(.int (0) 0),(.ref 310),(.int (141) 0),(.int (0) 0),(.ref 315),(.int (143) 0),(.int (0) 0),(.ref 322),(.int (145) 0),(.int (0) 0),(.ref 329),(.int (164) 0),(.int (0) 0),(.ref 336),(.int (174) 0),(.int (0) 0),(.ref 343),(.int (181) 0),(.int (0) 0),(.ref 348),(.int (185) 0),(.int (0) 0),(.ref 355),(.int (197) 0),(.int (0) 0),(.ref 360),(.int (200) 0),(.int (0) 0),(.ref 365),(.int (205) 0),(.int (0) 0),(.ref 372),(.int (212) 0),(.int (0) 0),(.ref 377),(.int (216) 0),(.int (0) 0),(.ref 382),(.int (218) 0),(.int (0) 0),(.ref 389),(.int (223) 0),(.int (0) 0),(.ref 396),(.int (230) 0),(.int (0) 0),(.ref 401),(.int (232) 0),(.int (0) 0),(.ref 406),(.int (237) 0),(.int (0) 0),(.ref 411),(.int (239) 0),(.int (0) 0),(.ref 418),(.int (244) 0),(.int (0) 0),(.ref 428),(.int (246) 0),(.int (0) 0),(.ref 433),(.int (250) 0),(.int (0) 0),(.ref 438)]),#[]⟩::⟨(.type "code"),none,(.fields #[(.str "<module>" 182),(.str "<module>" 183),(.str "/claim/cut.py" 184),(.int (1) 0),(.int (0) 0),(.int (0) 0),(.int (0) 0),(.int (0) 0),(.ref 11),(.bool false),(.int (181) 0),(.ref 12),.none,.none,.none,.none,(.int (185) 0),(.int (1) 0),(.str "/claim/cut.py" 186)]),#[]⟩::⟨(.type "frame"),none,.plain,#[(some (.ref 13)),(some (.ref 3)),(some (.ref 3)),none,(some (.str "__main__" 164)),none,(some (.ref 0))]⟩::tO [(.type "ValueError")]::bO "type.__prepare__" (.type "type")::⟨(.type "dict"),none,(.dict #[(en P "__module__" 196 (.str "quadwords.errors" 187)),(en P "__qualname__" 198 (.str "QuadError" 197)),(en P "__firstlineno__" 200 (.int (2) 199)),(en P "__static_attributes__" 201 (.ref 22))] 4),#[]⟩::t0::n0::⟨(.type "code"),none,(.fields #[(.str "QuadError" 191),(.str "QuadError" 192),(.str "/claim/cut.py" 193),(.int (2) 0),(.int (0) 0),(.int (0) 0),(.int (0) 0),(.int (0) 0),(.ref 18),(.bool false),(.int (181) 0),(.ref 19),.none,.none,.none,.none,(.int (194) 0),(.int (2) 0),(.str "/claim/cut.py" 195)]),#[]⟩::⟨(.type "frame"),none,.plain,#[(some (.ref 20)),(some (.ref 3)),(some (.ref 17)),none,(some (.str "quadwords.errors" 187)),none,(some (.ref 0))]⟩::t0::o23 P::o24 P::⟨(.type "getset_descriptor"),none,(.fields #[(.str "__weakref__" 202),(.ref 24),(.builtin "ExceptionGroup.__weakref__"),.none]),#[]⟩::sO 24::bO "object.__init_subclass__" (.ref 24)::tO [(.ref 24)]::bO "type.__prepare__" (.type "type")::⟨(.type "dict"),none,(.dict #[(en P "__module__" 214 (.str "quadwords.errors" 187)),(en P "__qualname__" 216 (.str "NoBack" 215)),(en P "__firstlineno__" 218 (.int (4) 217)),(en P "__static_attributes__" 219 (.ref 35))] 4),#[]⟩::t0::n0::⟨(.type "code"),none,(.fields #[(.str "NoBack" 209),(.str "NoBack" 210),(.str "/claim/cut.py" 211),(.int (4) 0),(.int (0) 0),(.int (0) 0),(.int (0) 0),(.int (0) 0),(.ref 31),(.bool false),(.int (181) 0),(.ref 32),.none,.none,.none,.none,(.int (212) 0),(.int (4) 0),(.str "/claim/cut.py" 213)]),#[]⟩::⟨(.type "frame"),none,.plain,#[(some (.ref 33)),(some (.ref 3)),(some (.ref 30)),none,(some (.str "quadwords.errors" 187)),none,(some (.ref 0))]⟩::t0::o36 P::o37 P::sO 37::bO "object.__init_subclass__" (.ref 37)::tO [(.ref 24)]::bO "type.__prepare__" (.type "type")::⟨(.type "dict"),none,(.dict #[(en P "__module__" 230 (.str "quadwords.errors" 187)),(en P "__qualname__" 232 (.str "NoWord" 231)),(en P "__firstlineno__" 234 (.int (6) 233)),(en P "__static_attributes__" 235 (.ref 47))] 4),#[]⟩::t0::n0::⟨(.type "code"),none,(.fields #[(.str "NoWord" 225),(.str "NoWord" 226),(.str "/claim/cut.py" 227),(.int (6) 0),(.int (0) 0),(.int (0) 0),(.int (0) 0),(.int (0) 0),(.ref 43),(.bool false),(.int (181) 0),(.ref 44),.none,.none,.none,.none,(.int (228) 0),(.int (6) 0),(.str "/claim/cut.py" 229)]),#[]⟩::⟨(.type "frame"),none,.plain,#[(some (.ref 45)),(some (.ref 3)),(some (.ref 42)),none,(some (.str "quadwords.errors" 187)),none,(some (.ref 0))]⟩::t0::o48 P::o49 P::sO 49::[]
noncomputable def m0_1 (P:Params):List Obj:=bO "object.__init_subclass__" (.ref 49)::tO [(.ref 24)]::bO "type.__prepare__" (.type "type")::⟨(.type "dict"),none,(.dict #[(en P "__module__" 246 (.str "quadwords.errors" 187)),(en P "__qualname__" 248 (.str "NoPlain" 247)),(en P "__firstlineno__" 250 (.int (8) 249)),(en P "__static_attributes__" 251 (.ref 59))] 4),#[]⟩::t0::n0::⟨(.type "code"),none,(.fields #[(.str "NoPlain" 241),(.str "NoPlain" 242),(.str "/claim/cut.py" 243),(.int (8) 0),(.int (0) 0),(.int (0) 0),(.int (0) 0),(.int (0) 0),(.ref 55),(.bool false),(.int (181) 0),(.ref 56),.none,.none,.none,.none,(.int (244) 0),(.int (8) 0),(.str "/claim/cut.py" 245)]),#[]⟩::⟨(.type "frame"),none,.plain,#[(some (.ref 57)),(some (.ref 3)),(some (.ref 54)),none,(some (.str "quadwords.errors" 187)),none,(some (.ref 0))]⟩::t0::o60 P::o61 P::sO 61::bO "object.__init_subclass__" (.ref 61)::tO [(.ref 24)]::bO "type.__prepare__" (.type "type")::⟨(.type "dict"),none,(.dict #[(en P "__module__" 262 (.str "quadwords.errors" 187)),(en P "__qualname__" 264 (.str "NoWide" 263)),(en P "__firstlineno__" 266 (.int (10) 265)),(en P "__static_attributes__" 267 (.ref 71))] 4),#[]⟩::t0::n0::⟨(.type "code"),none,(.fields #[(.str "NoWide" 257),(.str "NoWide" 258),(.str "/claim/cut.py" 259),(.int (10) 0),(.int (0) 0),(.int (0) 0),(.int (0) 0),(.int (0) 0),(.ref 67),(.bool false),(.int (181) 0),(.ref 68),.none,.none,.none,.none,(.int (260) 0),(.int (10) 0),(.str "/claim/cut.py" 261)]),#[]⟩::⟨(.type "frame"),none,.plain,#[(some (.ref 69)),(some (.ref 3)),(some (.ref 66)),none,(some (.str "quadwords.errors" 187)),none,(some (.ref 0))]⟩::t0::o72 P::o73 P::sO 73::bO "object.__init_subclass__" (.ref 73)::tO [(.ref 24)]::bO "type.__prepare__" (.type "type")::⟨(.type "dict"),none,(.dict #[(en P "__module__" 278 (.str "quadwords.errors" 187)),(en P "__qualname__" 280 (.str "TooLong" 279)),(en P "__firstlineno__" 282 (.int (12) 281)),(en P "__static_attributes__" 283 (.ref 83))] 4),#[]⟩::t0::n0::⟨(.type "code"),none,(.fields #[(.str "TooLong" 273),(.str "TooLong" 274),(.str "/claim/cut.py" 275),(.int (12) 0),(.int (0) 0),(.int (0) 0),(.int (0) 0),(.int (0) 0),(.ref 79),(.bool false),(.int (181) 0),(.ref 80),.none,.none,.none,.none,(.int (276) 0),(.int (12) 0),(.str "/claim/cut.py" 277)]),#[]⟩::⟨(.type "frame"),none,.plain,#[(some (.ref 81)),(some (.ref 3)),(some (.ref 78)),none,(some (.str "quadwords.errors" 187)),none,(some (.ref 0))]⟩::t0::o84 P::o85 P::sO 85::bO "object.__init_subclass__" (.ref 85)::tO [(.ref 24)]::bO "type.__prepare__" (.type "type")::⟨(.type "dict"),none,(.dict #[(en P "__module__" 294 (.str "quadwords.errors" 187)),(en P "__qualname__" 296 (.str "NoMakers" 295)),(en P "__firstlineno__" 298 (.int (14) 297)),(en P "__static_attributes__" 299 (.ref 95))] 4),#[]⟩::[]
noncomputable def m0_2 (P:Params):List Obj:=t0::n0::⟨(.type "code"),none,(.fields #[(.str "NoMakers" 289),(.str "NoMakers" 290),(.str "/claim/cut.py" 291),(.int (14) 0),(.int (0) 0),(.int (0) 0),(.int (0) 0),(.int (0) 0),(.ref 91),(.bool false),(.int (181) 0),(.ref 92),.none,.none,.none,.none,(.int (292) 0),(.int (14) 0),(.str "/claim/cut.py" 293)]),#[]⟩::⟨(.type "frame"),none,.plain,#[(some (.ref 93)),(some (.ref 3)),(some (.ref 90)),none,(some (.str "quadwords.errors" 187)),none,(some (.ref 0))]⟩::t0::o96 P::o97 P::sO 97::bO "object.__init_subclass__" (.ref 97)::tO [(.ref 24)]::bO "type.__prepare__" (.type "type")::⟨(.type "dict"),none,(.dict #[(en P "__module__" 310 (.str "quadwords.errors" 187)),(en P "__qualname__" 312 (.str "NoCount" 311)),(en P "__firstlineno__" 314 (.int (16) 313)),(en P "__static_attributes__" 315 (.ref 107))] 4),#[]⟩::t0::n0::⟨(.type "code"),none,(.fields #[(.str "NoCount" 305),(.str "NoCount" 306),(.str "/claim/cut.py" 307),(.int (16) 0),(.int (0) 0),(.int (0) 0),(.int (0) 0),(.int (0) 0),(.ref 103),(.bool false),(.int (181) 0),(.ref 104),.none,.none,.none,.none,(.int (308) 0),(.int (16) 0),(.str "/claim/cut.py" 309)]),#[]⟩::⟨(.type "frame"),none,.plain,#[(some (.ref 105)),(some (.ref 3)),(some (.ref 102)),none,(some (.str "quadwords.errors" 187)),none,(some (.ref 0))]⟩::t0::o108 P::o109 P::sO 109::bO "object.__init_subclass__" (.ref 109)::tO [(.ref 24)]::bO "type.__prepare__" (.type "type")::⟨(.type "dict"),none,(.dict #[(en P "__module__" 326 (.str "quadwords.errors" 187)),(en P "__qualname__" 328 (.str "NoText" 327)),(en P "__firstlineno__" 330 (.int (18) 329)),(en P "__static_attributes__" 331 (.ref 119))] 4),#[]⟩::t0::n0::⟨(.type "code"),none,(.fields #[(.str "NoText" 321),(.str "NoText" 322),(.str "/claim/cut.py" 323),(.int (18) 0),(.int (0) 0),(.int (0) 0),(.int (0) 0),(.int (0) 0),(.ref 115),(.bool false),(.int (181) 0),(.ref 116),.none,.none,.none,.none,(.int (324) 0),(.int (18) 0),(.str "/claim/cut.py" 325)]),#[]⟩::⟨(.type "frame"),none,.plain,#[(some (.ref 117)),(some (.ref 3)),(some (.ref 114)),none,(some (.str "quadwords.errors" 187)),none,(some (.ref 0))]⟩::t0::o120 P::o121 P::sO 121::bO "object.__init_subclass__" (.ref 121)::tO [(.ref 24)]::bO "type.__prepare__" (.type "type")::⟨(.type "dict"),none,(.dict #[(en P "__module__" 342 (.str "quadwords.errors" 187)),(en P "__qualname__" 344 (.str "NoName" 343)),(en P "__firstlineno__" 346 (.int (20) 345)),(en P "__static_attributes__" 347 (.ref 131))] 4),#[]⟩::t0::n0::⟨(.type "code"),none,(.fields #[(.str "NoName" 337),(.str "NoName" 338),(.str "/claim/cut.py" 339),(.int (20) 0),(.int (0) 0),(.int (0) 0),(.int (0) 0),(.int (0) 0),(.ref 127),(.bool false),(.int (181) 0),(.ref 128),.none,.none,.none,.none,(.int (340) 0),(.int (20) 0),(.str "/claim/cut.py" 341)]),#[]⟩::⟨(.type "frame"),none,.plain,#[(some (.ref 129)),(some (.ref 3)),(some (.ref 126)),none,(some (.str "quadwords.errors" 187)),none,(some (.ref 0))]⟩::[]
noncomputable def m0_3 (P:Params):List Obj:=t0::o132 P::o133 P::sO 133::bO "object.__init_subclass__" (.ref 133)::tO [(.ref 24)]::bO "type.__prepare__" (.type "type")::⟨(.type "dict"),none,(.dict #[(en P "__module__" 358 (.str "quadwords.errors" 187)),(en P "__qualname__" 360 (.str "NoRow" 359)),(en P "__firstlineno__" 362 (.int (22) 361)),(en P "__static_attributes__" 363 (.ref 143))] 4),#[]⟩::t0::n0::⟨(.type "code"),none,(.fields #[(.str "NoRow" 353),(.str "NoRow" 354),(.str "/claim/cut.py" 355),(.int (22) 0),(.int (0) 0),(.int (0) 0),(.int (0) 0),(.int (0) 0),(.ref 139),(.bool false),(.int (181) 0),(.ref 140),.none,.none,.none,.none,(.int (356) 0),(.int (22) 0),(.str "/claim/cut.py" 357)]),#[]⟩::⟨(.type "frame"),none,.plain,#[(some (.ref 141)),(some (.ref 3)),(some (.ref 138)),none,(some (.str "quadwords.errors" 187)),none,(some (.ref 0))]⟩::t0::o144 P::o145 P::sO 145::bO "object.__init_subclass__" (.ref 145)::tO [(.ref 24)]::bO "type.__prepare__" (.type "type")::⟨(.type "dict"),none,(.dict #[(en P "__module__" 374 (.str "quadwords.errors" 187)),(en P "__qualname__" 376 (.str "NoMill" 375)),(en P "__firstlineno__" 378 (.int (24) 377)),(en P "__static_attributes__" 379 (.ref 155))] 4),#[]⟩::t0::n0::⟨(.type "code"),none,(.fields #[(.str "NoMill" 369),(.str "NoMill" 370),(.str "/claim/cut.py" 371),(.int (24) 0),(.int (0) 0),(.int (0) 0),(.int (0) 0),(.int (0) 0),(.ref 151),(.bool false),(.int (181) 0),(.ref 152),.none,.none,.none,.none,(.int (372) 0),(.int (24) 0),(.str "/claim/cut.py" 373)]),#[]⟩::⟨(.type "frame"),none,.plain,#[(some (.ref 153)),(some (.ref 3)),(some (.ref 150)),none,(some (.str "quadwords.errors" 187)),none,(some (.ref 0))]⟩::t0::o156 P::o157 P::sO 157::bO "object.__init_subclass__" (.ref 157)::⟨(.type "dict"),none,(.dict #[(en P "u" 385 (.int (0) 386)),(en P "v" 387 (.int (1) 388)),(en P "U" 389 (.int (2) 390)),(en P "V" 391 (.int (3) 392))] 4),#[]⟩::t0::n0::tO [(.str "place" 401)]::t0::gO "back_place" "back_place" (top 15)::cO "back_place" 398 399 400 28 1 3 (.ref 161) (.ref 162) .none (.ref 163) (.ref 164) (.ref 165) 402 403::fO "back_place" (top 15) (.str "quadwords.folds" 383) 166::t0::n0::gO "turned" "turned" (top 16)::[]
noncomputable def m0_4 (P:Params):List Obj:=cO "turned" 405 406 407 30 1 3 (.ref 168) (.ref 169) .none .none .none (.ref 170) 408 409::fO "turned" (top 16) (.str "quadwords.folds" 383) 171::t0::n0::tO [(.str "row" 414),(.str "other" 415),(.str "cut" 416)]::t0::gO "put_behind" "put_behind" (top 17)::cO "put_behind" 411 412 413 32 2 3 (.ref 173) (.ref 174) .none (.ref 175) (.ref 176) (.ref 177) 417 418::fO "put_behind" (top 17) (.str "quadwords.folds" 383) 178::t0::n0::tO [(.str "one" 423),(.str "other" 424),(.str "row" 425)]::t0::gO "joined" "joined" (top 18)::cO "joined" 420 421 422 38 2 3 (.ref 180) (.ref 181) .none (.ref 182) (.ref 183) (.ref 184) 426 427::fO "joined" (top 18) (.str "quadwords.folds" 383) 185::t0::n0::gO "petal" "petal" (top 19)::cO "petal" 429 430 431 42 3 3 (.ref 187) (.ref 188) .none .none .none (.ref 189) 432 433::fO "petal" (top 19) (.str "quadwords.folds" 383) 190::t0::n0::tO [(.str "words" 438),(.str "rows" 439),(.str "ways" 440),(.str "word" 441),(.str "row" 442)]::t0::gO "petals" "petals" (top 20)::cO "petals" 435 436 437 47 2 3 (.ref 192) (.ref 193) .none (.ref 194) (.ref 195) (.ref 196) 443 444::fO "petals" (top 20) (.str "quadwords.folds" 383) 197::t0::n0::tO [(.str "way" 449),(.str "start" 450),(.str "place" 451),(.str "end" 452),(.str "row" 453)]::t0::gO "turned_way" "turned_way" (top 21)::cO "turned_way" 446 447 448 52 1 3 (.ref 199) (.ref 200) .none (.ref 201) (.ref 202) (.ref 203) 454 455::fO "turned_way" (top 21) (.str "quadwords.folds" 383) 204::t0::n0::tO [(.str "laid" 460),(.str "way" 461),(.str "start" 462),(.str "place" 463),(.str "end" 464),(.str "row" 465)]::t0::gO "lay" "lay" (top 22)::[]
noncomputable def m0_5 (P:Params):List Obj:=cO "lay" 457 458 459 55 2 3 (.ref 206) (.ref 207) .none (.ref 208) (.ref 209) (.ref 210) 466 467::fO "lay" (top 22) (.str "quadwords.folds" 383) 211::t0::n0::tO [(.str "laid" 472),(.str "state" 473),(.str "ways" 474),(.str "place" 475),(.str "end" 476),(.str "row" 477)]::t0::gO "lifted" "lifted" (top 23)::cO "lifted" 469 470 471 58 2 3 (.ref 213) (.ref 214) .none (.ref 215) (.ref 216) (.ref 217) 478 479::fO "lifted" (top 23) (.str "quadwords.folds" 383) 218::t0::n0::tO [(.str "way" 484),(.str "kept" 485),(.str "lost" 486),(.str "row" 487),(.str "start" 488),(.str "place" 489),(.str "end" 490),(.str "step" 491)]::t0::gO "moved" "moved" (top 24)::cO "moved" 481 482 483 67 4 3 (.ref 220) (.ref 221) .none (.ref 222) (.ref 223) (.ref 224) 492 493::fO "moved" (top 24) (.str "quadwords.folds" 383) 225::t0::n0::gO "merged" "merged" (top 25)::cO "merged" 495 496 497 74 3 3 (.ref 227) (.ref 228) .none .none .none (.ref 229) 498 499::fO "merged" (top 25) (.str "quadwords.folds" 383) 230::t0::n0::tO [(.str "laid" 504),(.str "way" 505),(.str "start" 506),(.str "place" 507),(.str "end" 508),(.str "row" 509),(.str "other_end" 510),(.str "other_row" 511)]::t0::gO "meeting_of" "meeting_of" (top 26)::cO "meeting_of" 501 502 503 79 2 3 (.ref 232) (.ref 233) .none (.ref 234) (.ref 235) (.ref 236) 512 513::fO "meeting_of" (top 26) (.str "quadwords.folds" 383) 237::t0::n0::tO [(.str "way" 518)]::t0::gO "row_length" "row_length" (top 27)::cO "row_length" 515 516 517 85 1 3 (.ref 239) (.ref 240) .none (.ref 241) (.ref 242) (.ref 243) 519 520::fO "row_length" (top 27) (.str "quadwords.folds" 383) 244::t0::n0::tO [(.str "ways" 525),(.str "laid" 526),(.str "start" 527),(.str "place" 528),(.str "end" 529),(.str "row" 530),(.str "relations" 531),(.str "waiting" 532),(.str "way" 533),(.str "meeting" 534)]::t0::gO "folded" "folded" (top 28)::[]
noncomputable def m0_6 (P:Params):List Obj:=cO "folded" 522 523 524 87 1 3 (.ref 246) (.ref 247) .none (.ref 248) (.ref 249) (.ref 250) 535 536::fO "folded" (top 28) (.str "quadwords.folds" 383) 251::tO [(.int (1) 540),(.int (0) 541),(.int (0) 542),(.int (1) 543)]::t0::n0::tO [(.str "thing" 548)]::t0::gO "is_whole" "is_whole" (top 31)::cO "is_whole" 545 546 547 106 1 3 (.ref 254) (.ref 255) .none (.ref 256) (.ref 257) (.ref 258) 549 550::fO "is_whole" (top 31) (.str "quadwords.tables" 538) 259::t0::n0::gO "is_table" "is_table" (top 32)::cO "is_table" 552 553 554 108 1 3 (.ref 261) (.ref 262) .none .none .none (.ref 263) 555 556::fO "is_table" (top 32) (.str "quadwords.tables" 538) 264::t0::n0::tO [(.str "one" 561),(.str "other" 562),(.str "a" 563),(.str "b" 564),(.str "c" 565),(.str "d" 566),(.str "e" 567),(.str "f" 568),(.str "g" 569),(.str "h" 570)]::t0::gO "product" "product" (top 33)::o271 P::o272 P::t0::n0::tO [(.str "tables" 577),(.str "made" 578),(.str "table" 579)]::t0::gO "product_of" "product_of" (top 34)::cO "product_of" 574 575 576 114 1 3 (.ref 273) (.ref 274) .none (.ref 275) (.ref 276) (.ref 277) 580 581::fO "product_of" (top 34) (.str "quadwords.tables" 538) 278::t0::n0::tO [(.str "table" 586),(.str "a" 587),(.str "b" 588),(.str "c" 589),(.str "d" 590)]::t0::gO "worth" "worth" (top 35)::cO "worth" 583 584 585 119 1 3 (.ref 280) (.ref 281) .none (.ref 282) (.ref 283) (.ref 284) 591 592::fO "worth" (top 35) (.str "quadwords.tables" 538) 285::⟨(.type "dict"),none,(.dict #[(en P "u" 596 (.ref 288)),(en P "v" 601 (.ref 289)),(en P "U" 606 (.ref 290)),(en P "V" 612 (.ref 291))] 4),#[]⟩::tO [(.int (1) 597),(.int (2) 598),(.int (0) 599),(.int (1) 600)]::tO [(.int (1) 602),(.int (0) 603),(.int (2) 604),(.int (1) 605)]::tO [(.int (1) 607),(.int (-2) 609),(.int (0) 610),(.int (1) 611)]::[]
noncomputable def m0_7 (P:Params):List Obj:=tO [(.int (1) 613),(.int (0) 614),(.int (-2) 616),(.int (1) 617)]::⟨(.type "dict"),none,(.dict #[(en P "u" 623 (.str "U" 624)),(en P "v" 625 (.str "V" 626)),(en P "U" 627 (.str "u" 628)),(en P "V" 629 (.str "v" 630))] 4),#[]⟩::t0::n0::tO [(.str "table" 641),(.str "a" 642),(.str "b" 643),(.str "c" 644),(.str "d" 645)]::t0::gO "is_wide" "is_wide" (top 40)::cO "is_wide" 638 639 640 126 1 3 (.ref 293) (.ref 294) .none (.ref 295) (.ref 296) (.ref 297) 646 647::fO "is_wide" (top 40) (.str "quadwords.wide" 594) 298::t0::n0::gO "letters_table" "letters_table" (top 41)::cO "letters_table" 649 650 651 131 1 3 (.ref 300) (.ref 301) .none .none .none (.ref 302) 652 653::fO "letters_table" (top 41) (.str "quadwords.wide" 594) 303::t0::n0::tO [(.str "letters" 658),(.str "kept" 659),(.str "letter" 660)]::t0::gO "reduced_letters" "reduced_letters" (top 42)::cO "reduced_letters" 655 656 657 133 1 3 (.ref 305) (.ref 306) .none (.ref 307) (.ref 308) (.ref 309) 661 662::fO "reduced_letters" (top 42) (.str "quadwords.wide" 594) 310::t0::n0::gO "back_letters" "back_letters" (top 43)::cO "back_letters" 664 665 666 141 1 3 (.ref 312) (.ref 313) .none .none .none (.ref 314) 667 668::fO "back_letters" (top 43) (.str "quadwords.wide" 594) 315::t0::n0::tO [(.str "letter" 673),(.str "many" 674)]::t0::gO "power" "power" (top 44)::cO "power" 670 671 672 143 2 3 (.ref 317) (.ref 318) .none (.ref 319) (.ref 320) (.ref 321) 675 676::fO "power" (top 44) (.str "quadwords.wide" 594) 322::t0::n0::tO [(.str "table" 681),(.str "most" 682),(.str "a" 683),(.str "b" 684),(.str "c" 685),(.str "d" 686),(.str "powers" 687),(.str "length" 688),(.str "letter" 689),(.str "many" 690)]::t0::gO "wide_word_within" "wide_word_within" (top 45)::cO "wide_word_within" 678 679 680 145 2 3 (.ref 324) (.ref 325) .none (.ref 326) (.ref 327) (.ref 328) 691 692::fO "wide_word_within" (top 45) (.str "quadwords.wide" 594) 329::[]
noncomputable def m0_8 (P:Params):List Obj:=t0::n0::tO [(.str "table" 697),(.str "word" 698)]::t0::gO "wide_word" "wide_word" (top 46)::cO "wide_word" 694 695 696 164 1 3 (.ref 331) (.ref 332) .none (.ref 333) (.ref 334) (.ref 335) 699 700::fO "wide_word" (top 46) (.str "quadwords.wide" 594) 336::t0::n0::tO [(.str "maker" 711),(.str "word" 712)]::t0::gO "wide_maker_word" "wide_maker_word" (top 50)::cO "wide_maker_word" 708 709 710 174 1 3 (.ref 338) (.ref 339) .none (.ref 340) (.ref 341) (.ref 342) 713 714::fO "wide_maker_word" (top 50) (.str "quadwords.graphs" 702) 343::t0::n0::gO "wide_maker_words" "wide_maker_words" (top 51)::cO "wide_maker_words" 716 717 718 181 1 3 (.ref 345) (.ref 346) .none .none .none (.ref 347) 719 720::fO "wide_maker_words" (top 51) (.str "quadwords.graphs" 702) 348::t0::n0::tO [(.str "leads" 725),(.str "first" 726),(.str "numbers" 727),(.str "states" 728),(.str "at" 729),(.str "ends" 730),(.str "place" 731)]::t0::gO "found_states" "found_states" (top 52)::cO "found_states" 722 723 724 185 2 3 (.ref 350) (.ref 351) .none (.ref 352) (.ref 353) (.ref 354) 732 733::fO "found_states" (top 52) (.str "quadwords.graphs" 702) 355::t0::n0::gO "numbered" "numbered" (top 53)::cO "numbered" 735 736 737 197 2 3 (.ref 357) (.ref 358) .none .none .none (.ref 359) 738 739::fO "numbered" (top 53) (.str "quadwords.graphs" 702) 360::t0::n0::gO "graph_of" "graph_of" (top 54)::cO "graph_of" 741 742 743 200 1 3 (.ref 362) (.ref 363) .none .none .none (.ref 364) 744 745::fO "graph_of" (top 54) (.str "quadwords.graphs" 702) 365::t0::n0::tO [(.str "graph" 750),(.str "word" 751),(.str "state" 752),(.str "letter" 753)]::t0::[]
noncomputable def m0_9 (P:Params):List Obj:=gO "closes" "closes" (top 55)::cO "closes" 747 748 749 205 2 3 (.ref 367) (.ref 368) .none (.ref 369) (.ref 370) (.ref 371) 754 755::fO "closes" (top 55) (.str "quadwords.graphs" 702) 372::t0::n0::gO "rank" "rank" (top 56)::cO "rank" 757 758 759 212 1 3 (.ref 374) (.ref 375) .none .none .none (.ref 376) 760 761::fO "rank" (top 56) (.str "quadwords.graphs" 702) 377::t0::n0::gO "is_full" "is_full" (top 57)::cO "is_full" 763 764 765 216 1 3 (.ref 379) (.ref 380) .none .none .none (.ref 381) 766 767::fO "is_full" (top 57) (.str "quadwords.graphs" 702) 382::t0::n0::tO [(.str "makers" 772),(.str "graph" 773)]::t0::gO "index" "index" (top 58)::cO "index" 769 770 771 218 1 3 (.ref 384) (.ref 385) .none (.ref 386) (.ref 387) (.ref 388) 774 775::fO "index" (top 58) (.str "quadwords.graphs" 702) 389::t0::n0::tO [(.str "graph" 784),(.str "stems" 785),(.str "state" 786),(.str "ends" 787),(.str "letter" 788),(.str "end" 789)]::t0::gO "stems_of" "stems_of" (top 61)::cO "stems_of" 781 782 783 223 1 3 (.ref 391) (.ref 392) .none (.ref 393) (.ref 394) (.ref 395) 790 791::fO "stems_of" (top 61) (.str "quadwords.bases" 777) 396::t0::n0::gO "ways_onward" "ways_onward" (top 62)::cO "ways_onward" 793 794 795 230 1 3 (.ref 398) (.ref 399) .none .none .none (.ref 400) 796 797::fO "ways_onward" (top 62) (.str "quadwords.bases" 777) 401::t0::n0::gO "basis_words" "basis_words" (top 63)::cO "basis_words" 799 800 801 232 1 3 (.ref 403) (.ref 404) .none .none .none (.ref 405) 802 803::fO "basis_words" (top 63) (.str "quadwords.bases" 777) 406::t0::n0::gO "basis_of" "basis_of" (top 64)::[]
noncomputable def m0_10 (P:Params):List Obj:=cO "basis_of" 805 806 807 237 1 3 (.ref 408) (.ref 409) .none .none .none (.ref 410) 808 809::fO "basis_of" (top 64) (.str "quadwords.bases" 777) 411::t0::n0::tO [(.str "makers" 814)]::t0::gO "basis" "basis" (top 65)::cO "basis" 811 812 813 239 1 3 (.ref 413) (.ref 414) .none (.ref 415) (.ref 416) (.ref 417) 815 816::fO "basis" (top 65) (.str "quadwords.bases" 777) 418::⟨(.type "dict"),none,(.dict #[(en P "l" 820 (.ref 421)),(en P "r" 825 (.ref 422))] 2),#[]⟩::tO [(.int (1) 821),(.int (0) 822),(.int (1) 823),(.int (1) 824)]::tO [(.int (1) 826),(.int (1) 827),(.int (0) 828),(.int (1) 829)]::t0::n0::tO [(.str "table" 838)]::t0::gO "is_plain" "is_plain" (top 69)::cO "is_plain" 835 836 837 244 1 3 (.ref 423) (.ref 424) .none (.ref 425) (.ref 426) (.ref 427) 839 840::fO "is_plain" (top 69) (.str "quadwords.plain" 818) 428::t0::n0::gO "is_word" "is_word" (top 70)::cO "is_word" 842 843 844 246 1 3 (.ref 430) (.ref 431) .none .none .none (.ref 432) 845 846::fO "is_word" (top 70) (.str "quadwords.plain" 818) 433::t0::n0::gO "table_of" "table_of" (top 71)::cO "table_of" 848 849 850 250 1 3 (.ref 435) (.ref 436) .none .none .none (.ref 437) 851 852::fO "table_of" (top 71) (.str "quadwords.plain" 818) 438::[]
noncomputable def c0_3 (P:Params):Obj:=⟨(.type "dict"),none,(.dict #[(en P "__name__" 165 (.str "quadwords.plain" 818)),(en P "__doc__" 166 .none),(en P "__package__" 167 .none),(en P "__loader__" 168 (.builtin "__main__.__loader__#opaque")),(en P "__spec__" 169 .none),(en P "__annotations__" 170 (.ref 6)),(en P "__builtins__" 171 (.ref 4)),(en P "__file__" 173 (.str "/claim/cut.py" 172)),(en P "__cached__" 174 .none),(en P "QuadError" 206 (.ref 24)),(en P "NoBack" 222 (.ref 37)),(en P "NoWord" 238 (.ref 49)),(en P "NoPlain" 254 (.ref 61)),(en P "NoWide" 270 (.ref 73)),(en P "TooLong" 286 (.ref 85)),(en P "NoMakers" 302 (.ref 97)),(en P "NoCount" 318 (.ref 109)),(en P "NoText" 334 (.ref 121)),(en P "NoName" 350 (.ref 133)),(en P "NoRow" 366 (.ref 145)),(en P "NoMill" 382 (.ref 157)),(en P "LETTER_PLACES" 397 (.ref 160)),(en P "back_place" 404 (.ref 167)),(en P "turned" 410 (.ref 172)),(en P "put_behind" 419 (.ref 179)),(en P "joined" 428 (.ref 186)),(en P "petal" 434 (.ref 191)),(en P "petals" 445 (.ref 198)),(en P "turned_way" 456 (.ref 205)),(en P "lay" 468 (.ref 212)),(en P "lifted" 480 (.ref 219)),(en P "moved" 494 (.ref 226)),(en P "merged" 500 (.ref 231)),(en P "meeting_of" 514 (.ref 238)),(en P "row_length" 521 (.ref 245)),(en P "folded" 537 (.ref 252)),(en P "ONE" 544 (.ref 253)),(en P "is_whole" 551 (.ref 260)),(en P "is_table" 557 (.ref 265)),(en P "product" 573 (.ref 272)),(en P "product_of" 582 (.ref 279)),(en P "worth" 593 (.ref 286)),(en P "WIDE_LETTERS" 622 (.ref 287)),(en P "LETTER_BACKS" 635 (.ref 292)),(en P "LONGEST_WIDE_WORD" 637 (.int (400) 636)),(en P "is_wide" 648 (.ref 299)),(en P "letters_table" 654 (.ref 304)),(en P "reduced_letters" 663 (.ref 311)),(en P "back_letters" 669 (.ref 316)),(en P "power" 677 (.ref 323)),(en P "wide_word_within" 693 (.ref 330)),(en P "wide_word" 701 (.ref 337)),(en P "MOST_WIDE_MAKERS" 705 (.int (8) 704)),(en P "LONGEST_WIDE_MAKER" 707 (.int (10) 706)),(en P "wide_maker_word" 715 (.ref 344)),(en P "wide_maker_words" 721 (.ref 349)),(en P "found_states" 734 (.ref 356)),(en P "numbered" 740 (.ref 361)),(en P "graph_of" 746 (.ref 366)),(en P "closes" 756 (.ref 373)),(en P "rank" 762 (.ref 378)),(en P "is_full" 768 (.ref 383)),(en P "index" 776 (.ref 390)),(en P "LETTERS_BY_PLACE" 780 (.str "uvUV" 779)),(en P "stems_of" 792 (.ref 397)),(en P "ways_onward" 798 (.ref 402)),(en P "basis_words" 804 (.ref 407)),(en P "basis_of" 810 (.ref 412)),(en P "basis" 817 (.ref 419)),(en P "LETTERS" 832 (.ref 420)),(en P "LONGEST_WORD" 834 (.int (400) 833)),(en P "is_plain" 841 (.ref 429)),(en P "is_word" 847 (.ref 434)),(en P "table_of" 853 (.ref 439))] 74),#[]⟩
noncomputable def T0 (P:Params):BT:=grow (m0_0 P++m0_1 P++m0_2 P++m0_3 P++m0_4 P++m0_5 P++m0_6 P++m0_7 P++m0_8 P++m0_9 P++m0_10 P) 11 ((bootT P).set 3 fun _=>c0_3 P)
noncomputable def S0 (w:World) (os:OsState):SharedT:=⟨T0 w.params,440,(boot_heap w.params).life,#[],⟨0,0,0,0⟩,854,os⟩
def h0 (den:Code→Sem Fin):Thread:=⟨den (.body ((behindTheImports pw).drop 72) env1),.body (behindTheImports pw) env1,⟨250,0,253,59⟩,[topFrame ⟨0,0,0,0⟩]⟩
noncomputable def m1_0 (P:Params):List Obj:=t0::n0::tO [(.str "table" 857),(.str "most" 858),(.str "a" 859),(.str "b" 860),(.str "c" 861),(.str "d" 862),(.str "letters" 863)]::t0::gO "word_within" "word_within" (top 72)::cO "word_within" 854 855 856 254 2 3 (.ref 440) (.ref 441) .none (.ref 442) (.ref 443) (.ref 444) 864 865::fO "word_within" (top 72) (.str "quadwords.plain" 818) 445::t0::n0::tO [(.str "table" 870),(.str "word" 871)]::t0::gO "word_of" "word_of" (top 73)::cO "word_of" 867 868 869 267 1 3 (.ref 447) (.ref 448) .none (.ref 449) (.ref 450) (.ref 451) 872 873::fO "word_of" (top 73) (.str "quadwords.plain" 818) 452::t0::n0::tO [(.str "maker" 884),(.str "word" 885)]::t0::gO "maker_word" "maker_word" (top 77)::cO "maker_word" 881 882 883 277 1 3 (.ref 454) (.ref 455) .none (.ref 456) (.ref 457) (.ref 458) 886 887::fO "maker_word" (top 77) (.str "quadwords.rows" 875) 459::t0::n0::gO "maker_words" "maker_words" (top 78)::cO "maker_words" 889 890 891 284 1 3 (.ref 461) (.ref 462) .none .none .none (.ref 463) 892 893::fO "maker_words" (top 78) (.str "quadwords.rows" 875) 464::t0::n0::gO "last_steps" "last_steps" (top 79)::cO "last_steps" 895 896 897 288 3 3 (.ref 466) (.ref 467) .none .none .none (.ref 468) 898 899::fO "last_steps" (top 79) (.str "quadwords.rows" 875) 469::t0::n0::gO "ways_to_places" "ways_to_places" (top 80)::cO "ways_to_places" 901 902 903 291 2 3 (.ref 471) (.ref 472) .none .none .none (.ref 473) 904 905::fO "ways_to_places" (top 80) (.str "quadwords.rows" 875) 474::t0::n0::tO [(.str "row" 910)]::t0::[]
noncomputable def m1_1 (P:Params):List Obj:=gO "shortest_first" "shortest_first" (top 81)::cO "shortest_first" 907 908 909 296 1 3 (.ref 476) (.ref 477) .none (.ref 478) (.ref 479) (.ref 480) 911 912::fO "shortest_first" (top 81) (.str "quadwords.rows" 875) 481::t0::n0::gO "least_to_places" "least_to_places" (top 82)::cO "least_to_places" 914 915 916 298 2 3 (.ref 483) (.ref 484) .none .none .none (.ref 485) 917 918::fO "least_to_places" (top 82) (.str "quadwords.rows" 875) 486::t0::n0::gO "reached_places" "reached_places" (top 83)::cO "reached_places" 920 921 922 305 2 3 (.ref 488) (.ref 489) .none .none .none (.ref 490) 923 924::fO "reached_places" (top 83) (.str "quadwords.rows" 875) 491::t0::n0::tO [(.str "makers" 929),(.str "table" 930),(.str "words" 931),(.str "text" 932)]::t0::gO "least_row" "least_row" (top 84)::cO "least_row" 926 927 928 307 2 3 (.ref 493) (.ref 494) .none (.ref 495) (.ref 496) (.ref 497) 933 934::fO "least_row" (top 84) (.str "quadwords.rows" 875) 498::t0::n0::tO [(.str "makers" 939),(.str "table" 940),(.str "words" 941),(.str "text" 942)]::t0::gO "many_rows" "many_rows" (top 85)::cO "many_rows" 936 937 938 311 2 3 (.ref 500) (.ref 501) .none (.ref 502) (.ref 503) (.ref 504) 943 944::fO "many_rows" (top 85) (.str "quadwords.rows" 875) 505::t0::n0::gO "rests_behind" "rests_behind" (top 88)::cO "rests_behind" 950 951 952 317 3 3 (.ref 507) (.ref 508) .none .none .none (.ref 509) 953 954::fO "rests_behind" (top 88) (.str "quadwords.counts" 946) 510::t0::n0::gO "share" "share" (top 89)::cO "share" 956 957 958 320 1 3 (.ref 512) (.ref 513) .none .none .none (.ref 514) 959 960::fO "share" (top 89) (.str "quadwords.counts" 946) 515::t0::n0::gO "all_rests" "all_rests" (top 90)::[]
noncomputable def m1_2 (P:Params):List Obj:=cO "all_rests" 962 963 964 328 1 3 (.ref 517) (.ref 518) .none .none .none (.ref 519) 965 966::fO "all_rests" (top 90) (.str "quadwords.counts" 946) 520::t0::n0::tO [(.str "words" 971),(.str "texts" 972),(.str "waiting" 973),(.str "told" 974),(.str "rests" 975),(.str "letter" 976),(.str "behind" 977)]::t0::gO "further_rests" "further_rests" (top 91)::cO "further_rests" 968 969 970 330 3 3 (.ref 522) (.ref 523) .none (.ref 524) (.ref 525) (.ref 526) 978 979::fO "further_rests" (top 91) (.str "quadwords.counts" 946) 527::t0::n0::gO "stuck" "stuck" (top 92)::cO "stuck" 981 982 983 339 1 3 (.ref 529) (.ref 530) .none .none .none (.ref 531) 984 985::fO "stuck" (top 92) (.str "quadwords.counts" 946) 532::t0::n0::gO "first_pairs" "first_pairs" (top 94)::cO "first_pairs" 989 990 991 349 1 3 (.ref 534) (.ref 535) .none .none .none (.ref 536) 992 993::fO "first_pairs" (top 94) (.str "quadwords.free" 987) 537::t0::n0::gO "words_within" "words_within" (top 95)::cO "words_within" 995 996 997 353 2 3 (.ref 539) (.ref 540) .none .none .none (.ref 541) 998 999::fO "words_within" (top 95) (.str "quadwords.free" 987) 542::t0::n0::gO "words_beyond" "words_beyond" (top 96)::cO "words_beyond" 1001 1002 1003 355 2 3 (.ref 544) (.ref 545) .none .none .none (.ref 546) 1004 1005::fO "words_beyond" (top 96) (.str "quadwords.free" 987) 547::t0::n0::gO "first_steps" "first_steps" (top 97)::cO "first_steps" 1007 1008 1009 357 1 3 (.ref 549) (.ref 550) .none .none .none (.ref 551) 1010 1011::fO "first_steps" (top 97) (.str "quadwords.free" 987) 552::t0::n0::gO "next_steps" "next_steps" (top 98)::cO "next_steps" 1013 1014 1015 360 3 3 (.ref 554) (.ref 555) .none .none .none (.ref 556) 1016 1017::fO "next_steps" (top 98) (.str "quadwords.free" 987) 557::t0::[]
noncomputable def m1_3 (P:Params):List Obj:=n0::tO [(.str "waiting" 1022),(.str "done" 1023),(.str "steps" 1024),(.str "left" 1025),(.str "found" 1026)]::t0::gO "keep_shorter" "keep_shorter" (top 99)::cO "keep_shorter" 1019 1020 1021 365 3 3 (.ref 559) (.ref 560) .none (.ref 561) (.ref 562) (.ref 563) 1027 1028::fO "keep_shorter" (top 99) (.str "quadwords.free" 987) 564::t0::n0::tO [(.str "words" 1033),(.str "done" 1034),(.str "left" 1035),(.str "found" 1036),(.str "length" 1037),(.str "one" 1038),(.str "other" 1039)]::tO [(.str "waiting" 1040)]::gO "twins_of" "twins_of" (top 100)::cO "twins_of" 1030 1031 1032 369 1 3 (.ref 566) (.ref 567) .none (.ref 568) (.ref 569) (.ref 570) 1041 1042::fO "twins_of" (top 100) (.str "quadwords.free" 987) 571::t0::n0::tO [(.str "makers" 1047)]::t0::gO "twins" "twins" (top 101)::cO "twins" 1044 1045 1046 382 1 3 (.ref 573) (.ref 574) .none (.ref 575) (.ref 576) (.ref 577) 1048 1049::fO "twins" (top 101) (.str "quadwords.free" 987) 578::t0::n0::gO "is_needed" "is_needed" (top 102)::cO "is_needed" 1051 1052 1053 384 2 3 (.ref 580) (.ref 581) .none .none .none (.ref 582) 1054 1055::fO "is_needed" (top 102) (.str "quadwords.free" 987) 583::t0::n0::gO "needed_of" "needed_of" (top 103)::cO "needed_of" 1057 1058 1059 388 1 3 (.ref 585) (.ref 586) .none .none .none (.ref 587) 1060 1061::fO "needed_of" (top 103) (.str "quadwords.free" 987) 588::t0::n0::gO "needed_words" "needed_words" (top 105)::cO "needed_words" 1065 1066 1067 391 1 3 (.ref 590) (.ref 591) .none .none .none (.ref 592) 1068 1069::fO "needed_words" (top 105) (.str "quadwords.hulls" 1063) 593::t0::n0::tO [(.str "words" 1074),(.str "twins" 1075),(.str "one" 1076),(.str "other" 1077)]::t0::gO "left_between" "left_between" (top 106)::[]
noncomputable def m1_4 (P:Params):List Obj:=cO "left_between" 1071 1072 1073 393 2 3 (.ref 595) (.ref 596) .none (.ref 597) (.ref 598) (.ref 599) 1078 1079::fO "left_between" (top 106) (.str "quadwords.hulls" 1063) 600::t0::n0::tO [(.str "words" 1084),(.str "kept" 1085),(.str "twins" 1086)]::t0::gO "hull_words" "hull_words" (top 107)::cO "hull_words" 1081 1082 1083 396 1 3 (.ref 602) (.ref 603) .none (.ref 604) (.ref 605) (.ref 606) 1087 1088::fO "hull_words" (top 107) (.str "quadwords.hulls" 1063) 607::t0::n0::gO "hull" "hull" (top 108)::cO "hull" 1090 1091 1092 403 1 3 (.ref 609) (.ref 610) .none .none .none (.ref 611) 1093 1094::fO "hull" (top 108) (.str "quadwords.hulls" 1063) 612::t0::n0::gO "begun_rests" "begun_rests" (top 110)::cO "begun_rests" 1098 1099 1100 406 2 3 (.ref 614) (.ref 615) .none .none .none (.ref 616) 1101 1102::fO "begun_rests" (top 110) (.str "quadwords.mills" 1096) 617::t0::bO "type.__prepare__" (.type "type")::⟨(.type "dict"),none,(.dict #[(en P "__module__" 1111 (.str "quadwords.mills" 1096)),(en P "__qualname__" 1113 (.str "Mill" 1112)),(en P "__firstlineno__" 1115 (.int (408) 1114)),(en P "__init__" 1123 (.ref 632)),(en P "read" 1132 (.ref 639)),(en P "take_back" 1139 (.ref 646)),(en P "text" 1146 (.ref 653)),(en P "table" 1153 (.ref 660)),(en P "ways" 1160 (.ref 667)),(en P "least" 1167 (.ref 674)),(en P "places" 1174 (.ref 681)),(en P "rests" 1180 (.ref 686)),(en P "__static_attributes__" 1183 (.ref 687))] 13),#[]⟩::t0::⟨.none,none,(.fields #[(.int (410) 0),(.int (4) 0),(.ref 631),(.int (414) 0),(.int (4) 0),(.ref 638),(.int (421) 0),(.int (4) 0),(.ref 645),(.int (427) 0),(.int (4) 0),(.ref 652),(.int (430) 0),(.int (4) 0),(.ref 659),(.int (433) 0),(.int (4) 0),(.ref 666),(.int (436) 0),(.int (4) 0),(.ref 673),(.int (439) 0),(.int (4) 0),(.ref 680),(.int (442) 0),(.int (4) 0),(.ref 685)]),#[]⟩::⟨(.type "code"),none,(.fields #[(.str "Mill" 1106),(.str "Mill" 1107),(.str "/claim/cut.py" 1108),(.int (408) 0),(.int (0) 0),(.int (0) 0),(.int (0) 0),(.int (0) 0),(.ref 622),(.bool false),(.int (181) 0),(.ref 623),.none,.none,.none,.none,(.int (1109) 0),(.int (408) 0),(.str "/claim/cut.py" 1110)]),#[]⟩::⟨(.type "frame"),none,.plain,#[(some (.ref 624)),(some (.ref 3)),(some (.ref 621)),none,(some (.str "quadwords.mills" 1096)),none,(some (.ref 0))]⟩::t0::n0::tO [(.str "self" 1119),(.str "makers" 1120)]::t0::gO "__init__" "Mill.__init__" (methO 111 0)::⟨(.type "code"),none,(.fields #[(.str "__init__" 1116),(.str "Mill.__init__" 1117),(.str "/claim/cut.py" 1118),(.int (410) 0),(.int (2) 0),(.int (0) 0),(.int (0) 0),(.int (3) 0),(.ref 626),(.bool true),(.int (181) 0),(.ref 627),.none,(.ref 628),(.ref 629),(.ref 630),(.int (1121) 0),(.int (410) 0),(.str "/claim/cut.py" 1122)]),#[]⟩::⟨(.type "function"),none,(.func (PySem.W.fnOf "__init__" "Mill.__init__" (defArgs (methO 111 0)) (defBody (methO 111 0)) (defScope (methO 111 0)) .none .none .none (.str "quadwords.mills" 1096) none (.ref 631) .none)),#[]⟩::t0::n0::tO [(.str "self" 1127),(.str "table" 1128),(.str "word" 1129)]::t0::gO "read" "Mill.read" (methO 111 1)::⟨(.type "code"),none,(.fields #[(.str "read" 1124),(.str "Mill.read" 1125),(.str "/claim/cut.py" 1126),(.int (414) 0),(.int (2) 0),(.int (0) 0),(.int (0) 0),(.int (3) 0),(.ref 633),(.bool true),(.int (181) 0),(.ref 634),.none,(.ref 635),(.ref 636),(.ref 637),(.int (1130) 0),(.int (414) 0),(.str "/claim/cut.py" 1131)]),#[]⟩::⟨(.type "function"),none,(.func (PySem.W.fnOf "read" "Mill.read" (defArgs (methO 111 1)) (defBody (methO 111 1)) (defScope (methO 111 1)) .none .none .none (.str "quadwords.mills" 1096) none (.ref 638) .none)),#[]⟩::[]
noncomputable def m1_5 (P:Params):List Obj:=t0::n0::tO [(.str "self" 1136)]::t0::gO "take_back" "Mill.take_back" (methO 111 2)::⟨(.type "code"),none,(.fields #[(.str "take_back" 1133),(.str "Mill.take_back" 1134),(.str "/claim/cut.py" 1135),(.int (421) 0),(.int (1) 0),(.int (0) 0),(.int (0) 0),(.int (3) 0),(.ref 640),(.bool true),(.int (181) 0),(.ref 641),.none,(.ref 642),(.ref 643),(.ref 644),(.int (1137) 0),(.int (421) 0),(.str "/claim/cut.py" 1138)]),#[]⟩::⟨(.type "function"),none,(.func (PySem.W.fnOf "take_back" "Mill.take_back" (defArgs (methO 111 2)) (defBody (methO 111 2)) (defScope (methO 111 2)) .none .none .none (.str "quadwords.mills" 1096) none (.ref 645) .none)),#[]⟩::t0::n0::tO [(.str "self" 1143)]::t0::gO "text" "Mill.text" (methO 111 3)::⟨(.type "code"),none,(.fields #[(.str "text" 1140),(.str "Mill.text" 1141),(.str "/claim/cut.py" 1142),(.int (427) 0),(.int (1) 0),(.int (0) 0),(.int (0) 0),(.int (3) 0),(.ref 647),(.bool true),(.int (181) 0),(.ref 648),.none,(.ref 649),(.ref 650),(.ref 651),(.int (1144) 0),(.int (427) 0),(.str "/claim/cut.py" 1145)]),#[]⟩::⟨(.type "function"),none,(.func (PySem.W.fnOf "text" "Mill.text" (defArgs (methO 111 3)) (defBody (methO 111 3)) (defScope (methO 111 3)) .none .none .none (.str "quadwords.mills" 1096) none (.ref 652) .none)),#[]⟩::t0::n0::tO [(.str "self" 1150)]::t0::gO "table" "Mill.table" (methO 111 4)::⟨(.type "code"),none,(.fields #[(.str "table" 1147),(.str "Mill.table" 1148),(.str "/claim/cut.py" 1149),(.int (430) 0),(.int (1) 0),(.int (0) 0),(.int (0) 0),(.int (3) 0),(.ref 654),(.bool true),(.int (181) 0),(.ref 655),.none,(.ref 656),(.ref 657),(.ref 658),(.int (1151) 0),(.int (430) 0),(.str "/claim/cut.py" 1152)]),#[]⟩::⟨(.type "function"),none,(.func (PySem.W.fnOf "table" "Mill.table" (defArgs (methO 111 4)) (defBody (methO 111 4)) (defScope (methO 111 4)) .none .none .none (.str "quadwords.mills" 1096) none (.ref 659) .none)),#[]⟩::t0::n0::tO [(.str "self" 1157)]::t0::gO "ways" "Mill.ways" (methO 111 5)::⟨(.type "code"),none,(.fields #[(.str "ways" 1154),(.str "Mill.ways" 1155),(.str "/claim/cut.py" 1156),(.int (433) 0),(.int (1) 0),(.int (0) 0),(.int (0) 0),(.int (3) 0),(.ref 661),(.bool true),(.int (181) 0),(.ref 662),.none,(.ref 663),(.ref 664),(.ref 665),(.int (1158) 0),(.int (433) 0),(.str "/claim/cut.py" 1159)]),#[]⟩::⟨(.type "function"),none,(.func (PySem.W.fnOf "ways" "Mill.ways" (defArgs (methO 111 5)) (defBody (methO 111 5)) (defScope (methO 111 5)) .none .none .none (.str "quadwords.mills" 1096) none (.ref 666) .none)),#[]⟩::t0::n0::tO [(.str "self" 1164)]::t0::gO "least" "Mill.least" (methO 111 6)::⟨(.type "code"),none,(.fields #[(.str "least" 1161),(.str "Mill.least" 1162),(.str "/claim/cut.py" 1163),(.int (436) 0),(.int (1) 0),(.int (0) 0),(.int (0) 0),(.int (3) 0),(.ref 668),(.bool true),(.int (181) 0),(.ref 669),.none,(.ref 670),(.ref 671),(.ref 672),(.int (1165) 0),(.int (436) 0),(.str "/claim/cut.py" 1166)]),#[]⟩::⟨(.type "function"),none,(.func (PySem.W.fnOf "least" "Mill.least" (defArgs (methO 111 6)) (defBody (methO 111 6)) (defScope (methO 111 6)) .none .none .none (.str "quadwords.mills" 1096) none (.ref 673) .none)),#[]⟩::t0::n0::tO [(.str "self" 1171)]::t0::gO "places" "Mill.places" (methO 111 7)::[]
noncomputable def m1_6 (P:Params):List Obj:=⟨(.type "code"),none,(.fields #[(.str "places" 1168),(.str "Mill.places" 1169),(.str "/claim/cut.py" 1170),(.int (439) 0),(.int (1) 0),(.int (0) 0),(.int (0) 0),(.int (3) 0),(.ref 675),(.bool true),(.int (181) 0),(.ref 676),.none,(.ref 677),(.ref 678),(.ref 679),(.int (1172) 0),(.int (439) 0),(.str "/claim/cut.py" 1173)]),#[]⟩::⟨(.type "function"),none,(.func (PySem.W.fnOf "places" "Mill.places" (defArgs (methO 111 7)) (defBody (methO 111 7)) (defScope (methO 111 7)) .none .none .none (.str "quadwords.mills" 1096) none (.ref 680) .none)),#[]⟩::t0::n0::gO "rests" "Mill.rests" (methO 111 8)::⟨(.type "code"),none,(.fields #[(.str "rests" 1175),(.str "Mill.rests" 1176),(.str "/claim/cut.py" 1177),(.int (442) 0),(.int (1) 0),(.int (0) 0),(.int (0) 0),(.int (3) 0),(.ref 682),(.bool true),(.int (181) 0),(.ref 683),.none,.none,.none,(.ref 684),(.int (1178) 0),(.int (442) 0),(.str "/claim/cut.py" 1179)]),#[]⟩::⟨(.type "function"),none,(.func (PySem.W.fnOf "rests" "Mill.rests" (defArgs (methO 111 8)) (defBody (methO 111 8)) (defScope (methO 111 8)) .none .none .none (.str "quadwords.mills" 1096) none (.ref 685) .none)),#[]⟩::tO [(.str "held" 1181),(.str "words" 1182)]::⟨(.type "dict"),none,(.dict #[(en P "__module__" 1111 (.str "quadwords.mills" 1096)),(en P "__firstlineno__" 1115 (.int (408) 1114)),(en P "__init__" 1123 (.ref 632)),(en P "read" 1132 (.ref 639)),(en P "take_back" 1139 (.ref 646)),(en P "text" 1146 (.ref 653)),(en P "table" 1153 (.ref 660)),(en P "ways" 1160 (.ref 667)),(en P "least" 1167 (.ref 674)),(en P "places" 1174 (.ref 681)),(en P "rests" 1180 (.ref 686)),(en P "__static_attributes__" 1183 (.ref 687)),(en P "__dict__" 1185 (.ref 690)),(en P "__weakref__" 1187 (.ref 691)),(en P "__doc__" 1188 .none)] 4),#[]⟩::⟨(.type "type"),none,(.cls ⟨"Mill",[(.type "object")],[(.ref 689),(.type "object")],688,"Mill",true,[],[],false,none,false⟩),#[none,none,(some (.str "Mill" 1104)),(some (.str "Mill" 1112)),(some (.builtin "object.__new__")),(some (.bool true))]⟩::⟨(.type "getset_descriptor"),none,(.fields #[(.str "__dict__" 1184),(.ref 689),(.builtin "function.__dict__"),(.builtin "function.__dict__#set")]),#[]⟩::⟨(.type "getset_descriptor"),none,(.fields #[(.str "__weakref__" 1186),(.ref 689),(.builtin "ExceptionGroup.__weakref__"),.none]),#[]⟩::sO 689::bO "object.__init_subclass__" (.ref 689)::t0::n0::tO [(.str "word" 1196),(.str "length" 1197)]::t0::gO "stem_length" "stem_length" (top 113)::cO "stem_length" 1193 1194 1195 447 1 3 (.ref 694) (.ref 695) .none (.ref 696) (.ref 697) (.ref 698) 1198 1199::fO "stem_length" (top 113) (.str "quadwords.roots" 1191) 699::t0::n0::tO [(.str "word" 1204),(.str "length" 1205)]::t0::gO "stem_and_core" "stem_and_core" (top 114)::cO "stem_and_core" 1201 1202 1203 452 1 3 (.ref 701) (.ref 702) .none (.ref 703) (.ref 704) (.ref 705) 1206 1207::fO "stem_and_core" (top 114) (.str "quadwords.roots" 1191) 706::t0::n0::tO [(.str "core" 1212)]::t0::gO "root_length" "root_length" (top 115)::cO "root_length" 1209 1210 1211 455 1 3 (.ref 708) (.ref 709) .none (.ref 710) (.ref 711) (.ref 712) 1213 1214::fO "root_length" (top 115) (.str "quadwords.roots" 1191) 713::t0::n0::tO [(.str "table" 1219),(.str "word" 1220),(.str "stem" 1221),(.str "core" 1222),(.str "length" 1223)]::t0::gO "root_of" "root_of" (top 116)::[]
noncomputable def m1_7 (P:Params):List Obj:=cO "root_of" 1216 1217 1218 457 1 3 (.ref 715) (.ref 716) .none (.ref 717) (.ref 718) (.ref 719) 1224 1225::fO "root_of" (top 116) (.str "quadwords.roots" 1191) 720::t0::n0::tO [(.str "one" 1230),(.str "other" 1231),(.str "stem" 1232),(.str "core" 1233),(.str "other_stem" 1234),(.str "other_core" 1235),(.str "start" 1236)]::t0::gO "turner" "turner" (top 117)::cO "turner" 1227 1228 1229 464 2 3 (.ref 722) (.ref 723) .none (.ref 724) (.ref 725) (.ref 726) 1237 1238::fO "turner" (top 117) (.str "quadwords.roots" 1191) 727::t0::n0::tO [(.str "number" 1249),(.str "pieces" 1250),(.str "piece" 1251)]::t0::gO "figures_of" "figures_of" (top 121)::o734 P::o735 P::t0::n0::tO [(.str "number" 1258)]::t0::gO "number_text" "number_text" (top 122)::o741 P::o742 P::t0::n0::gO "table_text" "table_text" (top 123)::o746 P::o747 P::t0::n0::tO [(.str "text" 1271)]::t0::gO "is_figures" "is_figures" (top 124)::o753 P::o754 P::t0::n0::tO [(.str "text" 1278)]::t0::gO "is_number_text" "is_number_text" (top 125)::[]
noncomputable def m1_8 (P:Params):List Obj:=o760 P::o761 P::t0::n0::gO "read_table" "read_table" (top 126)::o765 P::o766 P::o767 P::⟨(.type "dict"),none,(.dict #[(en P "kin" 1345 (.str "name name" 1346)),(en P "mill" 1347 (.str "names" 1348)),(en P "feed" 1349 (.str "name" 1350)),(en P "undo" 1351 (.str "" 1352)),(en P "text" 1353 (.str "" 1354)),(en P "now" 1355 (.str "" 1356)),(en P "rests" 1357 (.str "" 1358))] 7),#[]⟩::o769 P::t0::n0::tO [(.str "words" 1376),(.str "kinds" 1377)]::t0::gO "kinds_of" "kinds_of" (top 132)::o775 P::o776 P::t0::n0::tO [(.str "word" 1384)]::t0::gO "check_name" "check_name" (top 133)::o782 P::o783 P::t0::n0::tO [(.str "named" 1391),(.str "kind" 1392),(.str "word" 1393)]::t0::gO "thing_of" "thing_of" (top 134)::o789 P::o790 P::t0::n0::tO [(.str "truth" 1400)]::t0::gO "yes_or_no" "yes_or_no" (top 135)::cO "yes_or_no" 1397 1398 1399 524 1 3 (.ref 791) (.ref 792) .none (.ref 793) (.ref 794) (.ref 795) 1401 1402::fO "yes_or_no" (top 135) (.str "quadwords.desk" 1288) 796::t0::n0::[]
noncomputable def m1_9 (P:Params):List Obj:=tO [(.str "text" 1407)]::t0::gO "or_dash" "or_dash" (top 136)::cO "or_dash" 1404 1405 1406 526 1 3 (.ref 798) (.ref 799) .none (.ref 800) (.ref 801) (.ref 802) 1408 1409::fO "or_dash" (top 136) (.str "quadwords.desk" 1288) 803::t0::n0::gO "row_text" "row_text" (top 137)::cO "row_text" 1411 1412 1413 528 1 3 (.ref 805) (.ref 806) .none .none .none (.ref 807) 1414 1415::fO "row_text" (top 137) (.str "quadwords.desk" 1288) 808::t0::n0::gO "tables_text" "tables_text" (top 138)::cO "tables_text" 1417 1418 1419 530 1 3 (.ref 810) (.ref 811) .none .none .none (.ref 812) 1420 1421::fO "tables_text" (top 138) (.str "quadwords.desk" 1288) 813::t0::n0::tO [(.str "desk" 1426),(.str "things" 1427),(.str "name" 1428),(.str "table" 1429)]::t0::gO "say_put" "say_put" (top 139)::o820 P::o821 P::t0::n0::tO [(.str "desk" 1436),(.str "things" 1437)]::t0::gO "say_drop" "say_drop" (top 140)::o827 P::o828 P::t0::n0::tO [(.str "desk" 1444),(.str "things" 1445)]::t0::gO "say_names" "say_names" (top 141)::o834 P::o835 P::t0::n0::tO [(.str "desk" 1452),(.str "things" 1453)]::t0::[]
noncomputable def m1_10 (P:Params):List Obj:=gO "say_show" "say_show" (top 142)::o841 P::o842 P::t0::n0::tO [(.str "desk" 1460),(.str "things" 1461)]::t0::gO "say_times" "say_times" (top 143)::o848 P::o849 P::t0::n0::tO [(.str "desk" 1468),(.str "things" 1469)]::t0::gO "say_word" "say_word" (top 144)::cO "say_word" 1465 1466 1467 545 2 3 (.ref 850) (.ref 851) .none (.ref 852) (.ref 853) (.ref 854) 1470 1471::fO "say_word" (top 144) (.str "quadwords.desk" 1288) 855::t0::n0::tO [(.str "desk" 1476),(.str "things" 1477)]::t0::gO "say_wide" "say_wide" (top 145)::cO "say_wide" 1473 1474 1475 547 2 3 (.ref 857) (.ref 858) .none (.ref 859) (.ref 860) (.ref 861) 1478 1479::fO "say_wide" (top 145) (.str "quadwords.desk" 1288) 862::t0::n0::tO [(.str "desk" 1484),(.str "things" 1485)]::t0::gO "say_made" "say_made" (top 146)::cO "say_made" 1481 1482 1483 549 2 3 (.ref 864) (.ref 865) .none (.ref 866) (.ref 867) (.ref 868) 1486 1487::fO "say_made" (top 146) (.str "quadwords.desk" 1288) 869::t0::n0::tO [(.str "desk" 1492),(.str "things" 1493)]::t0::gO "say_ways" "say_ways" (top 147)::cO "say_ways" 1489 1490 1491 551 2 3 (.ref 871) (.ref 872) .none (.ref 873) (.ref 874) (.ref 875) 1494 1495::fO "say_ways" (top 147) (.str "quadwords.desk" 1288) 876::t0::n0::[]
noncomputable def m1_11 (P:Params):List Obj:=tO [(.str "desk" 1500),(.str "things" 1501)]::t0::gO "say_free" "say_free" (top 148)::cO "say_free" 1497 1498 1499 553 2 3 (.ref 878) (.ref 879) .none (.ref 880) (.ref 881) (.ref 882) 1502 1503::fO "say_free" (top 148) (.str "quadwords.desk" 1288) 883::[]
noncomputable def c1_3 (P:Params):Obj:=⟨(.type "dict"),none,(.dict #[(en P "__name__" 165 (.str "quadwords.desk" 1288)),(en P "__doc__" 166 .none),(en P "__package__" 167 .none),(en P "__loader__" 168 (.builtin "__main__.__loader__#opaque")),(en P "__spec__" 169 .none),(en P "__annotations__" 170 (.ref 6)),(en P "__builtins__" 171 (.ref 4)),(en P "__file__" 173 (.str "/claim/cut.py" 172)),(en P "__cached__" 174 .none),(en P "QuadError" 206 (.ref 24)),(en P "NoBack" 222 (.ref 37)),(en P "NoWord" 238 (.ref 49)),(en P "NoPlain" 254 (.ref 61)),(en P "NoWide" 270 (.ref 73)),(en P "TooLong" 286 (.ref 85)),(en P "NoMakers" 302 (.ref 97)),(en P "NoCount" 318 (.ref 109)),(en P "NoText" 334 (.ref 121)),(en P "NoName" 350 (.ref 133)),(en P "NoRow" 366 (.ref 145)),(en P "NoMill" 382 (.ref 157)),(en P "LETTER_PLACES" 397 (.ref 160)),(en P "back_place" 404 (.ref 167)),(en P "turned" 410 (.ref 172)),(en P "put_behind" 419 (.ref 179)),(en P "joined" 428 (.ref 186)),(en P "petal" 434 (.ref 191)),(en P "petals" 445 (.ref 198)),(en P "turned_way" 456 (.ref 205)),(en P "lay" 468 (.ref 212)),(en P "lifted" 480 (.ref 219)),(en P "moved" 494 (.ref 226)),(en P "merged" 500 (.ref 231)),(en P "meeting_of" 514 (.ref 238)),(en P "row_length" 521 (.ref 245)),(en P "folded" 537 (.ref 252)),(en P "ONE" 544 (.ref 253)),(en P "is_whole" 551 (.ref 260)),(en P "is_table" 557 (.ref 265)),(en P "product" 573 (.ref 272)),(en P "product_of" 582 (.ref 279)),(en P "worth" 593 (.ref 286)),(en P "WIDE_LETTERS" 622 (.ref 287)),(en P "LETTER_BACKS" 635 (.ref 292)),(en P "LONGEST_WIDE_WORD" 637 (.int (400) 636)),(en P "is_wide" 648 (.ref 299)),(en P "letters_table" 654 (.ref 304)),(en P "reduced_letters" 663 (.ref 311)),(en P "back_letters" 669 (.ref 316)),(en P "power" 677 (.ref 323)),(en P "wide_word_within" 693 (.ref 330)),(en P "wide_word" 701 (.ref 337)),(en P "MOST_WIDE_MAKERS" 705 (.int (8) 704)),(en P "LONGEST_WIDE_MAKER" 707 (.int (10) 706)),(en P "wide_maker_word" 715 (.ref 344)),(en P "wide_maker_words" 721 (.ref 349)),(en P "found_states" 734 (.ref 356)),(en P "numbered" 740 (.ref 361)),(en P "graph_of" 746 (.ref 366)),(en P "closes" 756 (.ref 373)),(en P "rank" 762 (.ref 378)),(en P "is_full" 768 (.ref 383)),(en P "index" 776 (.ref 390)),(en P "LETTERS_BY_PLACE" 780 (.str "uvUV" 779)),(en P "stems_of" 792 (.ref 397)),(en P "ways_onward" 798 (.ref 402)),(en P "basis_words" 804 (.ref 407)),(en P "basis_of" 810 (.ref 412)),(en P "basis" 817 (.ref 419)),(en P "LETTERS" 832 (.ref 420)),(en P "LONGEST_WORD" 834 (.int (400) 833)),(en P "is_plain" 841 (.ref 429)),(en P "is_word" 847 (.ref 434)),(en P "table_of" 853 (.ref 439)),(en P "word_within" 866 (.ref 446)),(en P "word_of" 874 (.ref 453)),(en P "MOST_MAKERS" 878 (.int (8) 877)),(en P "LONGEST_MAKER" 880 (.int (40) 879)),(en P "maker_word" 888 (.ref 460)),(en P "maker_words" 894 (.ref 465)),(en P "last_steps" 900 (.ref 470)),(en P "ways_to_places" 906 (.ref 475)),(en P "shortest_first" 913 (.ref 482)),(en P "least_to_places" 919 (.ref 487)),(en P "reached_places" 925 (.ref 492)),(en P "least_row" 935 (.ref 499)),(en P "many_rows" 945 (.ref 506)),(en P "MOST_LETTERS_TOGETHER" 949 (.int (30) 948)),(en P "rests_behind" 955 (.ref 511)),(en P "share" 961 (.ref 516)),(en P "all_rests" 967 (.ref 521)),(en P "further_rests" 980 (.ref 528)),(en P "stuck" 986 (.ref 533)),(en P "first_pairs" 994 (.ref 538)),(en P "words_within" 1000 (.ref 543)),(en P "words_beyond" 1006 (.ref 548)),(en P "first_steps" 1012 (.ref 553)),(en P "next_steps" 1018 (.ref 558)),(en P "keep_shorter" 1029 (.ref 565)),(en P "twins_of" 1043 (.ref 572)),(en P "twins" 1050 (.ref 579)),(en P "is_needed" 1056 (.ref 584)),(en P "needed_of" 1062 (.ref 589)),(en P "needed_words" 1070 (.ref 594)),(en P "left_between" 1080 (.ref 601)),(en P "hull_words" 1089 (.ref 608)),(en P "hull" 1095 (.ref 613)),(en P "begun_rests" 1103 (.ref 618)),(en P "Mill" 1190 (.ref 689)),(en P "stem_length" 1200 (.ref 700)),(en P "stem_and_core" 1208 (.ref 707)),(en P "root_length" 1215 (.ref 714)),(en P "root_of" 1226 (.ref 721)),(en P "turner" 1239 (.ref 728)),(en P "FIGURES" 1243 (.str "0123456789" 1242)),(en P "MOST_FIGURES" 1245 (.int (200) 1244)),(en P "figures_of" 1254 (.ref 735)),(en P "number_text" 1261 (.ref 742)),(en P "table_text" 1267 (.ref 747)),(en P "is_figures" 1274 (.ref 754)),(en P "is_number_text" 1281 (.ref 761)),(en P "read_table" 1287 (.ref 766)),(en P "SMALL_LETTERS" 1291 (.str "abcdefghijklmnopqrstuvwxyz" 1290)),(en P "LONGEST_NAME" 1293 (.int (8) 1292)),(en P "FORMS" 1366 (.ref 767)),(en P "MILL_ROWS" 1372 (.ref 769)),(en P "kinds_of" 1380 (.ref 776)),(en P "check_name" 1387 (.ref 783)),(en P "thing_of" 1396 (.ref 790)),(en P "yes_or_no" 1403 (.ref 797)),(en P "or_dash" 1410 (.ref 804)),(en P "row_text" 1416 (.ref 809)),(en P "tables_text" 1422 (.ref 814)),(en P "say_put" 1432 (.ref 821)),(en P "say_drop" 1440 (.ref 828)),(en P "say_names" 1448 (.ref 835)),(en P "say_show" 1456 (.ref 842)),(en P "say_times" 1464 (.ref 849)),(en P "say_word" 1472 (.ref 856)),(en P "say_wide" 1480 (.ref 863)),(en P "say_made" 1488 (.ref 870)),(en P "say_ways" 1496 (.ref 877)),(en P "say_free" 1504 (.ref 884))] 143),#[]⟩
noncomputable def c1_12 (P:Params):Obj:=⟨.none,none,(.fields #[(.int (2) 0),(.int (0) 0),(.ref 20),(.int (4) 0),(.int (0) 0),(.ref 33),(.int (6) 0),(.int (0) 0),(.ref 45),(.int (8) 0),(.int (0) 0),(.ref 57),(.int (10) 0),(.int (0) 0),(.ref 69),(.int (12) 0),(.int (0) 0),(.ref 81),(.int (14) 0),(.int (0) 0),(.ref 93),(.int (16) 0),(.int (0) 0),(.ref 105),(.int (18) 0),(.int (0) 0),(.ref 117),(.int (20) 0),(.int (0) 0),(.ref 129),(.int (22) 0),(.int (0) 0),(.ref 141),(.int (24) 0),(.int (0) 0),(.ref 153),(.int (28) 0),(.int (0) 0),(.ref 166),(.int (30) 0),(.int (0) 0),(.ref 171),(.int (32) 0),(.int (0) 0),(.ref 178),(.int (38) 0),(.int (0) 0),(.ref 185),(.int (42) 0),(.int (0) 0),(.ref 190),(.int (47) 0),(.int (0) 0),(.ref 197),(.int (52) 0),(.int (0) 0),(.ref 204),(.int (55) 0),(.int (0) 0),(.ref 211),(.int (58) 0),(.int (0) 0),(.ref 218),(.int (67) 0),(.int (0) 0),(.ref 225),(.int (74) 0),(.int (0) 0),(.ref 230),(.int (79) 0),(.int (0) 0),(.ref 237),(.int (85) 0),(.int (0) 0),(.ref 244),(.int (87) 0),(.int (0) 0),(.ref 251),(.int (106) 0),(.int (0) 0),(.ref 259),(.int (108) 0),(.int (0) 0),(.ref 264),(.int (110) 0),(.int (0) 0),(.ref 271),(.int (114) 0),(.int (0) 0),(.ref 278),(.int (119) 0),(.int (0) 0),(.ref 285),(.int (126) 0),(.int (0) 0),(.ref 298),(.int (131) 0),(.int (0) 0),(.ref 303),(.int (133) 0),(.int (0) 0),(.ref 310),(.int (141) 0),(.int (0) 0),(.ref 315),(.int (143) 0),(.int (0) 0),(.ref 322),(.int (145) 0),(.int (0) 0),(.ref 329),(.int (164) 0),(.int (0) 0),(.ref 336),(.int (174) 0),(.int (0) 0),(.ref 343),(.int (181) 0),(.int (0) 0),(.ref 348),(.int (185) 0),(.int (0) 0),(.ref 355),(.int (197) 0),(.int (0) 0),(.ref 360),(.int (200) 0),(.int (0) 0),(.ref 365),(.int (205) 0),(.int (0) 0),(.ref 372),(.int (212) 0),(.int (0) 0),(.ref 377),(.int (216) 0),(.int (0) 0),(.ref 382),(.int (218) 0),(.int (0) 0),(.ref 389),(.int (223) 0),(.int (0) 0),(.ref 396),(.int (230) 0),(.int (0) 0),(.ref 401),(.int (232) 0),(.int (0) 0),(.ref 406),(.int (237) 0),(.int (0) 0),(.ref 411),(.int (239) 0),(.int (0) 0),(.ref 418),(.int (244) 0),(.int (0) 0),(.ref 428),(.int (246) 0),(.int (0) 0),(.ref 433),(.int (250) 0),(.int (0) 0),(.ref 438),(.int (254) 0),(.int (0) 0),(.ref 445),(.int (267) 0),(.int (0) 0),(.ref 452),(.int (277) 0),(.int (0) 0),(.ref 459),(.int (284) 0),(.int (0) 0),(.ref 464),(.int (288) 0),(.int (0) 0),(.ref 469),(.int (291) 0),(.int (0) 0),(.ref 474),(.int (296) 0),(.int (0) 0),(.ref 481),(.int (298) 0),(.int (0) 0),(.ref 486),(.int (305) 0),(.int (0) 0),(.ref 491),(.int (307) 0),(.int (0) 0),(.ref 498),(.int (311) 0),(.int (0) 0),(.ref 505),(.int (317) 0),(.int (0) 0),(.ref 510),(.int (320) 0),(.int (0) 0),(.ref 515),(.int (328) 0),(.int (0) 0),(.ref 520),(.int (330) 0),(.int (0) 0),(.ref 527),(.int (339) 0),(.int (0) 0),(.ref 532),(.int (349) 0),(.int (0) 0),(.ref 537),(.int (353) 0),(.int (0) 0),(.ref 542),(.int (355) 0),(.int (0) 0),(.ref 547),(.int (357) 0),(.int (0) 0),(.ref 552),(.int (360) 0),(.int (0) 0),(.ref 557),(.int (365) 0),(.int (0) 0),(.ref 564),(.int (369) 0),(.int (0) 0),(.ref 571),(.int (382) 0),(.int (0) 0),(.ref 578),(.int (384) 0),(.int (0) 0),(.ref 583),(.int (388) 0),(.int (0) 0),(.ref 588),(.int (391) 0),(.int (0) 0),(.ref 593),(.int (393) 0),(.int (0) 0),(.ref 600),(.int (396) 0),(.int (0) 0),(.ref 607),(.int (403) 0),(.int (0) 0),(.ref 612),(.int (406) 0),(.int (0) 0),(.ref 617),(.int (408) 0),(.int (0) 0),(.ref 624),(.int (447) 0),(.int (0) 0),(.ref 699),(.int (452) 0),(.int (0) 0),(.ref 706),(.int (455) 0),(.int (0) 0),(.ref 713),(.int (457) 0),(.int (0) 0),(.ref 720),(.int (464) 0),(.int (0) 0),(.ref 727),(.int (474) 0),(.int (0) 0),(.ref 734),(.int (481) 0),(.int (0) 0),(.ref 741),(.int (483) 0),(.int (0) 0),(.ref 746),(.int (485) 0),(.int (0) 0),(.ref 753),(.int (489) 0),(.int (0) 0),(.ref 760),(.int (491) 0),(.int (0) 0),(.ref 765),(.int (503) 0),(.int (0) 0),(.ref 775),(.int (512) 0),(.int (0) 0),(.ref 782),(.int (515) 0),(.int (0) 0),(.ref 789),(.int (524) 0),(.int (0) 0),(.ref 796),(.int (526) 0),(.int (0) 0),(.ref 803),(.int (528) 0),(.int (0) 0),(.ref 808),(.int (530) 0),(.int (0) 0),(.ref 813),(.int (532) 0),(.int (0) 0),(.ref 820),(.int (536) 0),(.int (0) 0),(.ref 827),(.int (539) 0),(.int (0) 0),(.ref 834),(.int (541) 0),(.int (0) 0),(.ref 841),(.int (543) 0),(.int (0) 0),(.ref 848),(.int (545) 0),(.int (0) 0),(.ref 855),(.int (547) 0),(.int (0) 0),(.ref 862),(.int (549) 0),(.int (0) 0),(.ref 869),(.int (551) 0),(.int (0) 0),(.ref 876),(.int (553) 0),(.int (0) 0),(.ref 883)]),#[]⟩
noncomputable def T1 (P:Params):BT:=grow (m1_0 P++m1_1 P++m1_2 P++m1_3 P++m1_4 P++m1_5 P++m1_6 P++m1_7 P++m1_8 P++m1_9 P++m1_10 P++m1_11 P) 440 (((T0 P).set 3 fun _=>c1_3 P).set 12 fun _=>c1_12 P)
noncomputable def S1 (w:World) (os:OsState):SharedT:=⟨T1 w.params,885,(boot_heap w.params).life,#[],⟨0,0,0,0⟩,1505,os⟩
def h1 (den:Code→Sem Fin):Thread:=⟨den (.body ((behindTheImports pw).drop 149) env1),.body (behindTheImports pw) env1,⟨553,0,554,43⟩,[topFrame ⟨0,0,0,0⟩]⟩
theorem kA0F (w:World):GoalAQ pw 4245 first (fun _=>topStub pw) S0 h0 (w.withFollow "special-get-raises" false):=by kernel_rfl
theorem kA0T (w:World):GoalAQ pw 4245 first (fun _=>topStub pw) S0 h0 (w.withFollow "special-get-raises" true):=by kernel_rfl
theorem kA0:∀w,GoalA (denote treeTable) stepOk stepT pw 4245 first (fun _=>topStub pw) S0 h0 w:=keyA2 "special-get-raises" kA0F kA0T
theorem kA1F (w:World):GoalAQ pw 2746 S0 (h0) S1 h1 (w.withFollow "special-get-raises" false):=by kernel_rfl
theorem kA1T (w:World):GoalAQ pw 2746 S0 (h0) S1 h1 (w.withFollow "special-get-raises" true):=by kernel_rfl
theorem kA1:∀w,GoalA (denote treeTable) stepOk stepT pw 2746 S0 (h0) S1 h1 w:=keyA2 "special-get-raises" kA1F kA1T
theorem kBF (w:World):GoalBQ pw (view pw keep) loose (xt PySem.Challenge.rw_quadwords_k54_full_desks (view pw keep)) K kAs 9957 S1 h1 (w.withFollow "special-get-raises" false):=by kernel_rfl
theorem kBT (w:World):GoalBQ pw (view pw keep) loose (xt PySem.Challenge.rw_quadwords_k54_full_desks (view pw keep)) K kAs 9957 S1 h1 (w.withFollow "special-get-raises" true):=by kernel_rfl
theorem keyB:∀w,GoalB (denote treeTable) stepOk stepT openSeen pw (view pw keep) loose (xt PySem.Challenge.rw_quadwords_k54_full_desks (view pw keep)) K kAs 9957 S1 h1 w:=keyB2 "special-get-raises" kBF kBT
theorem keyA:∀w,GoalA (denote treeTable) stepOk stepT pw (4245+2746) first (fun _=>topStub pw) S1 h1 w:=chainA kA0 kA1
abbrev lw:=PySem.Challenge.rw_quadwords_k54_full_desks
theorem wc:namesResolve lw.prog=true:=by kernel_rfl
theorem we:noRoadLSs { strict:=!(importedModules lw.prog.main.body).all cThrough.contains,foot:=none,bare:=(["vars","dir","locals"]:List Str).filter (readsOut lw.prog lw.prog.main.body) } lw.prog.main.body=true:=by kernel_rfl
theorem wf:namesMeet lw.prog lw.prog.main.body (fun _ n=>attrL n)=true:=by kernel_rfl
theorem wg:lw.bound'.all (fun n=>!builtinNamed n || lw.about == [n] || !lw.reads n)=true:=by kernel_rfl
theorem wh:namesMeet lw.prog lw.above (fun _ n=>!lw.own.contains n)=true:=by kernel_rfl
theorem said:lw.wellSaid=true:=said_of (by kernel_rfl) (by kernel_rfl) wc (by kernel_rfl) we wf wg wh fun a b c=>by
 unfold OpenLaw.wellSaid OpenRow.wellSaid OpenRow.partSaid
 rw[show looksOpen lw.row.prog=true from a,b,c]
 kernel_rfl
end Hd
end
open PySem PySem.W PyProof.Rows
local macro_rules | `(tactic| walk_at "fin")=>`(tactic| ((refine' K3.FIn.of ?a ?l ?c ?k); (case a=>k_is); (case l=>k_is); (case c=>k_is); (case k=>k_is)))
local macro_rules | `(tactic| walk_at "min")=>`(tactic| ((refine' K3.MIn.of ?a ?l ?c ?k ?i); (case a=>k_is); (case l=>k_is); (case c=>k_is); (case k=>k_is); (case i=>k_is)))
set_option maxRecDepth 100000 in
set_option maxHeartbeats 0 in
theorem PySem.Challenge.cw_quadwords_k54_full_desks_holds : PySem.Challenge.rw_quadwords_k54_full_desks.Holds := by
 w_on
 refine Hd.head2 (q:=view Hd.pw Hd.keep) (loose:=Hd.loose) (K:=Hd.K) (as:=Hd.kAs) Hd.said (by kernel_rfl) (M:=16948) (by decide) (by rfl) (fun s=>rfl) Hd.keyA Hd.keyB (fun P=>by kernel_rfl) (by rfl) (by rfl) (by rfl) (by rfl) (by decide +kernel) ⟨rfl,rfl,rfl,rfl,rfl,by decide +kernel⟩ ?hw ?hc
 case hw=>w_witness2
 k_fill
 refine K3.walk (l:=PySem.Challenge.rw_quadwords_k54_full_desks) rfl rfl (fun w h Y=>Y) ?F
 case F =>
  intro w mg fa h KX G hmg
  refine' K3.all_mk KX G hmg ?a_draw ?a_draws ?a_kind ?a_prod ?a_fo ?a_nt ?a_tt ?a_fig ?a_int ?a_read ?a_chk ?a_kd ?a_th ?a_show ?l_show ?c_show ?k_show ?a_tms ?l_tms ?c_tms ?k_tms ?a_put ?l_put ?c_put ?k_put ?a_drop ?l_drop ?c_drop ?k_drop ?a_nms ?l_nms ?c_nms ?k_nms ?a_sd ?a_sh ?a_lt ?a_nm ?a_st ?a_de ?a_law ?l_law ?c_law ?k_law ?e_MF ?e_LN ?e_NoBack ?e_NoCount ?e_NoMakers ?e_NoName ?e_NoPlain ?e_NoRow ?e_NoText ?e_NoWide ?e_NoWord ?e_TooLong ?e_NoMill ?e_QuadError ?x_QuadError ?gn ?tk ?x_NoName ?sb_NoName ?ga_NoName ?gt_NoName ?ca_NoName ?mo_NoName ?mb_NoName ?ci_NoName ?o0_NoName ?o1_NoName ?o2_NoName ?o3_NoName ?o4_NoName ?o5_NoName ?o6_NoName ?o7_NoName ?o8_NoName ?o9_NoName ?o10_NoName ?o11_NoName ?x_NoMill ?sb_NoMill ?ga_NoMill ?gt_NoMill ?ca_NoMill ?mo_NoMill ?mb_NoMill ?ci_NoMill ?o0_NoMill ?o1_NoMill ?o2_NoMill ?o3_NoMill ?o4_NoMill ?o5_NoMill ?o6_NoMill ?o7_NoMill ?o8_NoMill ?o9_NoMill ?o10_NoMill ?o11_NoMill ?x_NoRow ?x_NoText ?e_FO ?l_FO ?s_FO ?e_DE ?l_DE ?s_DE ?e_MR ?l_MR ?z_MR ?v_MR ?e_FIG ?e_SL ?e_Desk ?pg_M ?hd_M ?po_M ?sa_M ?nw_M ?nh_M ?mk_M ?kp_M ?a_in ?a_say ?n_int ?n_bool ?n_isinstance ?n_tuple ?n_list ?n_str ?n_len ?n_all ?n_range ?n_max ?n_min ?n_sorted ?n_zip ?n_divmod ?n_ValueError
  (case a_draw=>walk_at "fin")
  (case a_draws=>walk_at "fin")
  (case a_kind=>walk_at "fin")
  (case a_prod=>walk_at "fin")
  (case a_fo=>walk_at "fin")
  (case a_nt=>walk_at "fin")
  (case a_tt=>walk_at "fin")
  (case a_fig=>walk_at "fin")
  (case a_int=>walk_at "fin")
  (case a_read=>walk_at "fin")
  (case a_chk=>walk_at "fin")
  (case a_kd=>walk_at "fin")
  (case a_th=>walk_at "fin")
  (case a_show=>k_is)
  (case l_show=>k_is)
  (case c_show=>k_is)
  (case k_show=>k_is)
  (case a_tms=>k_is)
  (case l_tms=>k_is)
  (case c_tms=>k_is)
  (case k_tms=>k_is)
  (case a_put=>k_is)
  (case l_put=>k_is)
  (case c_put=>k_is)
  (case k_put=>k_is)
  (case a_drop=>k_is)
  (case l_drop=>k_is)
  (case c_drop=>k_is)
  (case k_drop=>k_is)
  (case a_nms=>k_is)
  (case l_nms=>k_is)
  (case c_nms=>k_is)
  (case k_nms=>k_is)
  (case a_sd=>walk_at "fin")
  (case a_sh=>walk_at "fin")
  (case a_lt=>walk_at "fin")
  (case a_nm=>walk_at "fin")
  (case a_st=>walk_at "fin")
  (case a_de=>walk_at "fin")
  (case a_law=>k_is)
  (case l_law=>k_is)
  (case c_law=>k_is)
  (case k_law=>k_is)
  (case e_MF=>k_is)
  (case e_LN=>k_is)
  (case e_NoBack=>k_is)
  (case e_NoCount=>k_is)
  (case e_NoMakers=>k_is)
  (case e_NoName=>k_is)
  (case e_NoPlain=>k_is)
  (case e_NoRow=>k_is)
  (case e_NoText=>k_is)
  (case e_NoWide=>k_is)
  (case e_NoWord=>k_is)
  (case e_TooLong=>k_is)
  (case e_NoMill=>k_is)
  (case e_QuadError=>k_is)
  (case x_QuadError=>k_exc)
  (case gn=>k_is)
  (case tk=>k_is)
  (case x_NoName=>k_exc)
  (case sb_NoName=>kernel_rfl)
  (case ga_NoName=>k_is)
  (case gt_NoName=>k_is)
  (case ca_NoName=>k_is)
  (case mo_NoName=>k_is)
  (case mb_NoName=>k_is)
  (case ci_NoName=>k_is)
  (case o0_NoName=>kit_is)
  (case o1_NoName=>kit_is)
  (case o2_NoName=>kit_is)
  (case o3_NoName=>kit_is)
  (case o4_NoName=>kit_is)
  (case o5_NoName=>kit_is)
  (case o6_NoName=>kit_is)
  (case o7_NoName=>kit_is)
  (case o8_NoName=>kit_is)
  (case o9_NoName=>kit_is)
  (case o10_NoName=>kit_is)
  (case o11_NoName=>kit_is)
  (case x_NoMill=>k_exc)
  (case sb_NoMill=>kernel_rfl)
  (case ga_NoMill=>k_is)
  (case gt_NoMill=>k_is)
  (case ca_NoMill=>k_is)
  (case mo_NoMill=>k_is)
  (case mb_NoMill=>k_is)
  (case ci_NoMill=>k_is)
  (case o0_NoMill=>kit_is)
  (case o1_NoMill=>kit_is)
  (case o2_NoMill=>kit_is)
  (case o3_NoMill=>kit_is)
  (case o4_NoMill=>kit_is)
  (case o5_NoMill=>kit_is)
  (case o6_NoMill=>kit_is)
  (case o7_NoMill=>kit_is)
  (case o8_NoMill=>kit_is)
  (case o9_NoMill=>kit_is)
  (case o10_NoMill=>kit_is)
  (case o11_NoMill=>kit_is)
  (case x_NoRow=>k_exc)
  (case x_NoText=>k_exc)
  (case e_FO=>k_is)
  (case l_FO=>k_is)
  (case s_FO=>decide)
  (case e_DE=>k_is)
  (case l_DE=>k_is)
  (case s_DE=>decide)
  (case e_MR=>k_is)
  (case l_MR=>k_is)
  (case z_MR=>decide)
  (case v_MR=>exact .cons ⟨_,rfl⟩ (.cons ⟨_,rfl⟩ (.cons ⟨_,rfl⟩ (.cons ⟨_,rfl⟩ (.cons ⟨_,rfl⟩ .nil)))))
  (case e_FIG=>k_is)
  (case e_SL=>k_is)
  (case e_Desk=>k_is)
  (case pg_M=>kernel_rfl)
  (case hd_M=>kernel_rfl)
  (case po_M=>kernel_rfl)
  (case sa_M=>k_is)
  (case nw_M=>k_is)
  (case nh_M=>k_is)
  (case mk_M=>kernel_rfl)
  (case kp_M=>k_is)
  (case a_in=>walk_at "min")
  (case a_say=>walk_at "min")
  (case n_int=>k_is)
  (case n_bool=>k_is)
  (case n_isinstance=>k_is)
  (case n_tuple=>k_is)
  (case n_list=>k_is)
  (case n_str=>k_is)
  (case n_len=>k_is)
  (case n_all=>k_is)
  (case n_range=>k_is)
  (case n_max=>k_is)
  (case n_min=>k_is)
  (case n_sorted=>k_is)
  (case n_zip=>k_is)
  (case n_divmod=>k_is)
  (case n_ValueError=>k_is)
