import PyProof.Rows.All
import Wide.All
import OpenK.AllK
import Wide.FinOn
import Lean
import PyProof.EqAt
import PyProof.EqKinds
import PyProof.TupleCall
import PyProof.NsDelKeeps
import PyProof.RulesAs
import PyProof.SumAny
import PyProof.WalksMore
import PyProof.WalkInts
import PyProof.EnumMake
import KE.KMinKey
import PyProof.Rows.Range3
import PyProof.Rows.SortStr
import PyProof.StrLawsIn
import KE.KIntText
import PyProof.ListRange
import KE.KLam
import PyProof.SetRoads
import PyProof.Rows.SetObj
import PyProof.CollectWalk
import PyProof.DictItems
import PyProof.Rows.TupDisplay
import KE.KDictSum
import PyProof.Rows.SetFrom
import PyProof.DictCompW
import PyProof.ListStr
import OpenK.ZGo
import PySem.Challenge.RW_quadwords_k33_whole_long_mills
set_option genSizeOf false
set_option compiler.extract_closed false
set_option maxRecDepth 100000
set_option maxHeartbeats 4000000
abbrev zX:=@Nat.le_refl
abbrev zY:=@List.length_map
abbrev zZ:=@List.length_append
abbrev Aa:=@List.getElem?_eq_getElem
abbrev Ab:=@Array.length_toList
abbrev Ac:=@Nat.ne_of_lt
abbrev Ad:=@List.getElem?_eq_some_iff
abbrev Ae:=@List.mem_append_right
abbrev Af:=@List.length_take
abbrev Ag:=@List.mem_cons
abbrev Ah:=@Nat.zero_le
abbrev Ai:=@List.mem_append
abbrev Aj:=@List.getElem?_map
abbrev Ak:=@Nat.lt_of_lt_of_le
abbrev Am:=@List.mem_of_getElem?
abbrev An:=@List.size_toArray
abbrev Ao:=@Array.getElem?_toList
abbrev Ap:=@Nat.le_trans
abbrev Aq:=@List.mem_cons_self
abbrev Au:=@List.map_append
abbrev Av:=@List.take_of_length_le
abbrev Aw:=@List.getD_eq_getElem?_getD
abbrev Ax:=@List.mem_map
abbrev Ay:=@List.mem_append_left
abbrev Az:=@List.take_add_one
abbrev AA:=@List.mem_singleton
abbrev AB:=@Bool.false_ne_true
abbrev AC:=@List.append_nil
abbrev AD:=@Nat.lt_irrefl
abbrev AE:=@List.mem_cons_of_mem
abbrev AF:=@List.length_cons
abbrev AG:=@List.append_assoc
abbrev AH:=@List.map_cons
abbrev AI:=@List.getElem_mem
abbrev AJ:=@List.length_reverse
abbrev AK:=@Bool.and_eq_true
abbrev AL:=@List.take_length
abbrev AM:=@Array.getElem?_eq_getElem
abbrev AN:=@List.not_mem_nil
abbrev AO:=@List.pairwise_append
abbrev AQ:=@Int.toNat_natCast
abbrev AR:=@List.length_drop
abbrev AS:=@Array.toList_append
abbrev AU:=@List.take_append_drop
abbrev AV:=@Nat.min_eq_left
abbrev AW:=@Nat.le_of_lt
abbrev AX:=@List.mem_filterMap
abbrev AY:=@Nat.lt_succ_self
abbrev AZ:=@List.getElem?_append_right
abbrev Ba:=@Nat.succ_le_succ
abbrev Bb:=@Nat.le_succ
abbrev Bc:=@Nat.lt_succ_of_lt
abbrev Be:=@List.all_eq_true
abbrev Bf:=@List.getElem?_drop
abbrev Bh:=@List.getElem?_take_of_lt
abbrev Bi:=@List.getElem?_toArray
abbrev Bj:=@List.mem_of_mem_take
abbrev Bk:=@Nat.add_zero
abbrev Bl:=@List.mem_filter
abbrev Bm:=@List.mem_iff_getElem
abbrev Bn:=@List.map_map
abbrev Bo:=@List.mem_range
abbrev Bp:=@List.length_eq_zero_iff
abbrev Bq:=@Array.toList_push
abbrev Br:=@List.mem_of_mem_drop
abbrev Bs:=@Int.emod_nonneg
abbrev Bt:=@Int.emod_lt_of_pos
abbrev Bu:=@List.length_filter_le
abbrev Bv:=@Option.isSome_iff_exists
abbrev Bw:=@List.getElem?_append_left
abbrev Bx:=@List.length_replicate
abbrev By:=@Array.getElem?_eq_some_iff
abbrev Bz:=@Bool.eq_false_iff
abbrev BA:=@List.drop_eq_getElem_cons
abbrev BC:=@Bool.false_eq_true
abbrev BD:=@List.length_range
abbrev BE:=@List.pairwise_iff_getElem
abbrev BF:=@List.take_take
abbrev BG:=@List.filter_append
abbrev BH:=@List.filter_cons
abbrev BI:=@List.getElem?_set_self
abbrev BJ:=@List.getElem?_set_ne
abbrev BK:=@Nat.ne_of_gt
abbrev BL:=@Bool.eq_iff_iff
abbrev BM:=@List.reverse_cons
abbrev BN:=@List.find?_cons
abbrev BO:=@Option.map_eq_some_iff
abbrev BP:=@List.lookup_cons
abbrev BQ:=@Nat.zero_add
abbrev BR:=@List.perm_append_comm
abbrev BS:=@List.drop_of_length_le
abbrev BU:=@List.filterMap_cons
abbrev BV:=@List.nodup_cons
abbrev BW:=@Nat.lt_of_le_of_lt
abbrev BX:=@List.drop_zero
abbrev BY:=@Nat.zero_lt_succ
abbrev BZ:=@List.getElem?_eq_none
abbrev Ca:=@Array.toList_extract
abbrev Cc:=@List.take_zero
abbrev Cd:=@Nat.sub_self
abbrev Ce:=@Nat.le_of_eq
abbrev Cf:=@List.of_mem_zip
abbrev Cg:=@List.map_nil
abbrev Ci:=@Nat.min_le_left
abbrev Cj:=@List.replicate_succ
abbrev Ck:=@List.flatten_cons
abbrev Cm:=@List.drop_eq_nil_of_le
abbrev Co:=@List.ext_getElem?
abbrev Cp:=@Nat.sub_zero
abbrev Cq:=@List.drop_take
abbrev Cr:=@List.reverse_append
abbrev Cs:=@Array.all_toList
abbrev Ct:=@List.length_zipIdx
abbrev Cv:=@List.getElem?_replicate
abbrev Cw:=@Nat.le_of_not_lt
abbrev Cy:=@List.length_nil
abbrev Cz:=@List.map_congr_left
abbrev CA:=@List.range_succ
abbrev CB:=@List.filterMap_append
abbrev CD:=@List.foldl_cons
abbrev CF:=@List.filterMap_map
abbrev CG:=@List.getElem?_reverse
abbrev CH:=@List.pairwise_cons
abbrev CI:=@Nat.le_succ_of_le
abbrev CJ:=@Array.getElem?_eq_none
abbrev CK:=@List.drop_drop
abbrev CL:=@Array.toList_reverse
abbrev CM:=@Array.perm_iff_toList_perm
abbrev CN:=@List.eq_of_mem_replicate
abbrev CO:=@Nat.min_eq_right
abbrev CP:=@Nat.mul_le_mul
abbrev CQ:=@List.min?_eq_none_iff
abbrev CT:=@Int.eq_ofNat_of_zero_le
abbrev CU:=@Int.fdiv_eq_ediv_of_nonneg
abbrev CV:=@List.findIdx?_eq_some_iff_getElem
abbrev CW:=@List.findIdx?_eq_none_iff
abbrev CY:=@List.length_eraseIdx_of_lt
abbrev CZ:=@Int.mul_le_mul_of_nonneg_left
abbrev Da:=@Int.mul_le_mul_of_nonneg_right
abbrev Dc:=@List.mem_zipIdx_iff_getElem?
abbrev Dd:=@PySem.wpAny_bind
abbrev De:=@PySem.wpAny_pure
abbrev Df:=@PyProof.Rows.wpS_bind
abbrev Dg:=@PyProof.Rows.wpS_pure
abbrev Dh:=@if_neg
abbrev Di:=@if_pos
abbrev Dj:=@decide_eq_true
abbrev Dk:=@decide_eq_false
abbrev Dl:=@PySem.wpAny_mono
abbrev Dm:=@PySem.wpAny_holding
abbrev Do:=@of_decide_eq_true
abbrev Dp:=@PySem.Heap.lt_size
abbrev Dq:=@Option.some.inj
abbrev Dt:=@PySem.F.plainAttrs_list
abbrev Du:=@PySem.F.plainAttrs_str
abbrev Dv:=@PySem.F.type_list_append
abbrev Dw:=@PySem.F.slot_list_append
abbrev Dx:=@PyProof.Rows.KeyOrd.kle_refl
abbrev Dy:=@PyProof.Rows.KeyOrd.kle_of_klt
abbrev Dz:=@PySem.W.mg_of
abbrev DA:=@PySem.W.mg_none_of
abbrev DB:=@PySem.wpAny_setState_of
abbrev DC:=@Ne.symm
abbrev DE:=@PySem.Heap.get?_push_of_some
abbrev DG:=@PySem.Heap.get?_push_size
abbrev DH:=@Bool.eq_iff_iff
abbrev DI:=@Nat.succ_le_succ
abbrev DJ:=@PySem.wpAny_attempt
abbrev DK:=@PySem.wpAny_call_entry
abbrev DM:=@PySem.Heap.size_push
abbrev DN:=@PySem.wpAny_rule
abbrev DO:=@Int.eq_ofNat_of_zero_le
abbrev DP:=@beq_iff_eq
abbrev DQ:=@and_congr_right
local macro_rules | `(tactic| walk_at "i") => `(tactic| first | exact .inl rfl | exact .inr rfl | assumption)
local macro_rules | `(tactic| walk_at "o") => `(tactic| first | assumption | exact Ap (by assumption) (by decide) | omega)
set_option Elab.async false
set_option linter.all false
namespace L2
open PySem PySem.Spec PyProof.Rows
abbrev Key:=Sum Int Str
def GQ:Key->Value->Bool
 |.inl k,v=>Value.isInt k v
 |.inr x,v=>Value.isStrOf x v
def keyH (w:World):Key->Int
 |.inl k=>hashInt k
 |.inr x=>hashStr w x
theorem Ef:∀{k:Key}{v:Value},GQ k v=true->(∃i t,k=Sum.inl i/\v=Value.int i t)\/(∃x t,k=Sum.inr x/\v=Value.str x t)
 |.inl i,v,h=>by
  obtain⟨t,e⟩:=Value.isInt_shape (k:=i) (v:=v) h;exact .inl ⟨i,t,rfl,e⟩
 |.inr x,v,h=>by
  obtain⟨t,e⟩:=Value.isStrOf_shape (x:=x) (v:=v) h;exact .inr ⟨x,t,rfl,e⟩
theorem mW(i:Int)(t:Tok):GQ (.inl i) (.int i t)=true:=by simp[GQ,Value.isInt]
theorem mP(x:Str)(t:Tok):GQ (.inr x) (.str x t)=true:=by simp[GQ,Value.isStrOf]
theorem sL(a b:Int):decide ((Sum.inl a:Key)=Sum.inl b)=(a==b):=by
 by_cases e:a=b
 ·subst e;simp
 ·have h:¬(Sum.inl a:Key)=Sum.inl b:=fun q=>e (Sum.inl.inj q);rw[Dk h];exact(beq_eq_false_iff_ne.mpr e).symm
theorem rO(a b:Str):decide ((Sum.inr a:Key)=Sum.inr b)=decide (a=b):=by
 by_cases e:a=b
 ·subst e;simp
 ·have h:¬(Sum.inr a:Key)=Sum.inr b:=fun q=>e (Sum.inr.inj q);rw[Dk h,Dk e]
theorem tj(a:Int)(b:Str):decide ((Sum.inl a:Key)=Sum.inr b)=false:=Dk (fun q=>nomatch q)
theorem sR(a:Str)(b:Int):decide ((Sum.inr a:Key)=Sum.inl b)=false:=Dk (fun q=>nomatch q)
def bu (prog:Program)(w:World):PySem.KeyKind prog w Key where
 is:=GQ
 hash:=keyH w
 inj:=fun v a b ha hb=>by
  rcases Ef ha with ⟨i,t,rfl,rfl⟩|⟨x,t,rfl,rfl⟩
  ·rcases Ef hb with ⟨j,u,rfl,e⟩|⟨y,u,rfl,e⟩
   ·injection e with e1 _;rw[e1]
   ·exact nomatch e
  ·rcases Ef hb with ⟨j,u,rfl,e⟩|⟨y,u,rfl,e⟩
   ·exact nomatch e
   ·injection e with e1 _;rw[e1]
 byValue:=fun k v h=>by
  rcases Ef h with ⟨i,t,rfl,rfl⟩|⟨x,t,rfl,rfl⟩<;>rfl
 pyHash:=fun hv h=>by
  rcases Ef hv with ⟨i,t,rfl,rfl⟩|⟨x,t,rfl,rfl⟩
  ·exact wpAny_pyHash_int h
  ·exact wpAny_pyHash_str h
 eqBool:=fun hu hv h=>by
  rcases Ef hu with ⟨i,t,rfl,rfl⟩|⟨x,t,rfl,rfl⟩
  ·rcases Ef hv with ⟨j,u,rfl,rfl⟩|⟨y,u,rfl,rfl⟩
   ·rw[sL] at h;exact wpAny_eqBool_int h
   ·rw[tj] at h;exact SeqAt.EqAt.int_str i t y u _ _ _ _ h
  ·rcases Ef hv with ⟨j,u,rfl,rfl⟩|⟨y,u,rfl,rfl⟩
   ·rw[sR] at h;exact SeqAt.EqAt.str_int x t j u _ _ _ _ h
   ·rw[rO] at h;exact wpAny_eqBool_str h
 «strs»:=fun k x t v h=>by
  rcases Ef h with ⟨i,u,rfl,e⟩|⟨y,u,rfl,e⟩
  ·exact nomatch e
  ·injection e with e1 _;subst e1;cases v<;>rfl
theorem iQ(prog:Program)(w:World)(i:Int)(t:Tok):(bu prog w).is (.inl i) (.int i t)=true:=mW i t
theorem bS(prog:Program)(w:World)(x:Str)(t:Tok):(bu prog w).is (.inr x) (.str x t)=true:=mP x t
inductive V where
 |non|bl (b:Bool)|int(i:Int)|str(x:Str)|byt(b:Array UInt8)|flt(b:UInt64)|ref(a:Addr)|ty(n:String)
 deriving DecidableEq
def RelV:V->Value->Prop
 |.non,u=>u=Value.none
 |.bl b,u=>u=Value.bool b
 |.int i,u=>∃t,u=Value.int i t
 |.str x,u=>∃t,u=Value.str x t
 |.byt b,u=>∃t,u=Value.bytes b t
 |.flt b,u=>∃t,u=Value.float b t
 |.ref a,u=>u=Value.ref a
 |.ty n,u=>u=Value.type n
abbrev Vals:List V->List Value->Prop:=Paired RelV
theorem Vals.length{xs:List V}{us:List Value}(r:Vals xs us):xs.length=us.length:=Paired.length r
theorem Vals.get:∀{xs:List V}{us:List Value}{i:Nat}{x:V},Vals xs us->xs[i]?=some x->∃u,us[i]?=some u/\RelV x u
 |_,_,_,_,.nil,e=>by simp at e
 |_,_,0,_,.cons r _,e=>by simp at e;subst e;exact⟨_,rfl,r⟩
 |_,_,i+1,x,.cons _ t,e=>by
  obtain⟨u,h1,h2⟩:=Vals.get (i:=i) (x:=x) t (by simpa using e);exact⟨u,by simpa using h1,h2⟩
theorem Vals.set{x:V}{u:Value}(r:RelV x u):∀{xs:List V}{us:List Value}(i:Nat),Vals xs us->Vals (xs.set i x) (us.set i u)
 |_,_,_,.nil=>.nil
 |_,_,0,.cons _ t=>.cons r t
 |_,_,i+1,.cons q t=>.cons q (Vals.set r i t)
theorem Vals.append:∀{xs ys:List V}{us ws:List Value},Vals xs us->Vals ys ws->Vals (xs++ys) (us++ws)
 |_,_,_,_,.nil,s=>s
 |_,_,_,_,.cons r t,s=>.cons r (Vals.append t s)
theorem Vals.take:∀{xs:List V}{us:List Value}(n:Nat),Vals xs us->Vals (xs.take n) (us.take n)
 |_,_,0,_=>.nil
 |_,_,_+1,.nil=>.nil
 |_,_,n+1,.cons r t=>.cons r (Vals.take n t)
theorem Vals.drop:∀{xs:List V}{us:List Value}(n:Nat),Vals xs us->Vals (xs.drop n) (us.drop n)
 |_,_,0,r=>r
 |_,_,_+1,.nil=>.nil
 |_,_,n+1,.cons _ t=>Vals.drop n t
def FQ:Option V->Option Value->Prop
 |some v,some u=>RelV v u
 |none,none=>True
 |_,_=>False
def KV {κ:Type}:List (κ×V)->List (κ×Value)->Prop:=Paired fun(p:κ×V) (q:κ×Value)=>p.1=q.1/\RelV p.2 q.2
def kV:Key->V
 |.inl i=>.int i
 |.inr x=>.str x
inductive HO where
 |lst (xs:List V)
 |tup (xs:List V)
 |dK (kvs:List (Key×V))|dT(kvs:List (List Key×V))
 |set (S:Int->Bool)(n:Nat)
 |ins (C dx:Addr)(fs:List (Str×V))
 |own (x:Addr)
 |xd (fs:List (Str×V))
 |met (f x:Addr)
 |rng (lo hi:Int)
 |frz (o:Obj)(u:HO)
 |tbl (ps:Array Value)
 |ext (φ:Heap->Prop)
abbrev Hp:=Addr->Option HO
def upd (H:Hp)(a:Addr)(o:HO):Hp:=fun b=>if b=a then some o else H b
theorem DR{H:Hp}{a:Addr}{o:HO}:upd H a o a=some o:=by unfold upd;rw[Di rfl]
theorem av{H:Hp}{a b:Addr}{o:HO}(h:b≠a):upd H a o b=H b:=by unfold upd;rw[Dh h]
theorem jX{H:Hp}{a b:Addr}{o u:HO}(h:H a=some o)(h':H b=some u)(d:o≠u):a≠b:=by
 intro e;subst e;rw[h] at h';exact d (Dq h')
theorem az{H:Hp}{a b:Addr}{o:HO}(h:H a=some o)(h':H b=none):a≠b:=by
 intro e;subst e;rw[h] at h';cases h'
section
variable (P:Program)(w:World)
def El(H:Hp)(h:Heap)(a:Addr):HO->Prop
 |.lst xs=>xs.length<=sizeLine/\∃(its:List Value)(n:Nat),Vals xs its/\h.get? a=some {cls:=.type "list",data:=.seq its.toArray n}
 |.tup xs=>xs.length<=sizeLine/\∃its:List Value,Vals xs its/\IsTup h a its.toArray
 |.dK kvs=>kvs.length<=sizeLine/\(a==sysModules)=false/\∃vs,KV kvs vs/\h.DictOf (bu P w) a vs
 |.dT kvs=>kvs.length<=sizeLine/\(a==sysModules)=false/\∃xs:List (List Key×Addr×Value),
   Paired (fun(p:List Key×V) (q:List Key×Addr×Value)=>p.1=q.1/\H q.2.1=some (.tup (p.1.map kV))/\RelV p.2 q.2.2) kvs xs /\
   ∃o es ep,h.get? a=some o/\o.ExactDict/\o.data=.dict es ep/\es.toList=xs.map (entryOfKey (tupleKind (bu P w)))/\(xs.map (·.1)).Nodup
 |.set S n=>h.SetOf (intKind P w) a S n
 |.ins C dx fs=>H dx=some (.own a)/\fs.length<=1000/\dx≠a/\h.get? a=some (W.instObj C dx) /\
   ∃mA,h.Ns1 dx mA/\(∀f,FQ (fs.lookup f) (mA f))/\PySem.Within mA (fs.map (·.1))
 |.own _=>∃o,h.get? a=some o
 |.xd fs=>∃mA,h.Ns1 a mA/\∀f,FQ (fs.lookup f) (mA f)
 |.rng lo hi=>∃t u v,h.get? a=some {cls:=.type "range",data:=.fields #[.int lo t,.int hi u,.int 1 v]}
 |.frz o u=>h.get? a=some o/\El H h a u
 |.tbl ps=>h.get? a=some {cls:=.none,data:=.fields ps}
 |.met f x=>h.get? a=some (W.methodObj (.ref f) (.ref x))
 |.ext φ=>φ h/\(∃o,h.get? a=some o)/\∀h1 h2:Heap,φ h1->(∀o,h1.get? a=some o->h2.get? a=some o)->φ h2
def HOk (H:Hp)(h:Heap):Prop:=∀a o,H a=some o->El P w H h a o
end
section
variable {P:Program}{w:World}{H H':Hp}{h h':Heap}{a:Addr}{o:HO}
theorem El.lt(x:El P w H h a o):a<h.objs.size:=by
 cases o with
 |lst xs=>obtain⟨_,_,_,_,e⟩:=x;exact Dp e
 |tup xs=>obtain⟨_,_,_,p⟩:=x;exact p.lt
 |dK kvs=>obtain⟨_,_,_,_,o,_,_,e,_⟩:=x;exact Dp e
 |dT kvs=>obtain⟨_,_,_,_,o,_,_,e,_⟩:=x;exact Dp e
 |set S n=>obtain⟨o,_,_,_,e,_⟩:=x;exact Dp e
 |ins C dx fs=>obtain⟨_,_,_,e,_⟩:=x;exact Dp e
 |own y=>obtain⟨_,e⟩:=x;exact Dp e
 |xd fs=>obtain⟨_,⟨_,_,_,e,_⟩,_⟩:=x;exact Dp e
 |rng lo hi=>obtain⟨_,_,_,e⟩:=x;exact Dp e
 |frz ob u=>obtain⟨e,_⟩:=x;exact Dp e
 |tbl ps=>exact Dp (show h.get? a=some _ from x)
 |met f y=>exact Dp (show h.get? a=some _ from x)
 |ext φ=>obtain⟨_,⟨_,e⟩,_⟩:=x;exact Dp e
theorem Paired.GO{α β:Type}{F G:α->β->Prop}:∀{l₁:List α}{l₂:List β},Paired F l₁ l₂->(∀a b,F a b->G a b)->Paired G l₁ l₂
 |_,_,.nil,_=>.nil
 |_,_,.cons r t,f=>.cons (f _ _ r) (Paired.GO t f)
theorem El.HU(x:El P w H h a o)(k:∀b u,(b=a\/H b=some (.own a))->h.get? b=some u->h'.get? b=some u)
  (ho:∀b,H b=some (.own a)->H' b=some (.own a))(ht:∀b xs,H b=some (.tup xs)->H' b=some (.tup xs)):El P w H' h' a o:=by
 induction o with
 |lst xs=>obtain⟨z,its,n,r,e⟩:=x;exact⟨z,its,n,r,k _ _ (.inl rfl) e⟩
 |tup xs=>obtain⟨z,its,r,ob,e,c⟩:=x;exact⟨z,its,r,ob,k _ _ (.inl rfl) e,c⟩
 |dK kvs=>obtain⟨z,y,vs,r,ob,es,ep,e,c⟩:=x;exact⟨z,y,vs,r,ob,es,ep,k _ _ (.inl rfl) e,c⟩
 |dT kvs=>
  obtain⟨z,y,xs,r,ob,es,ep,e,c⟩:=x;exact⟨z,y,xs,Paired.GO r fun p q z=>⟨z.1,ht _ _ z.2.1,z.2.2⟩,ob,es,ep,k _ _ (.inl rfl) e,c⟩
 |set S n=>obtain⟨ob,es,ep,t,e,c⟩:=x;exact⟨ob,es,ep,t,k _ _ (.inl rfl) e,c⟩
 |ins C dx fs=>
  obtain⟨d,z,ne,e,mA,⟨od,es,ep,e2,c⟩,r⟩:=x;exact⟨ho _ d,z,ne,k _ _ (.inl rfl) e,mA,⟨od,es,ep,k _ _ (.inr d) e2,c⟩,r⟩
 |own y=>obtain⟨ob,e⟩:=x;exact⟨ob,k _ _ (.inl rfl) e⟩
 |xd fs=>obtain⟨mA,⟨od,es,ep,e,c⟩,r⟩:=x;exact⟨mA,⟨od,es,ep,k _ _ (.inl rfl) e,c⟩,r⟩
 |rng lo hi=>obtain⟨t,u,v,e⟩:=x;exact⟨t,u,v,k _ _ (.inl rfl) e⟩
 |frz ob u ih=>obtain⟨e,q⟩:=x;exact⟨k _ _ (.inl rfl) e,ih q⟩
 |tbl ps=>
  have e:h.get? a=some {cls:=.none,data:=.fields ps}:=x;show h'.get? a=some {cls:=.none,data:=.fields ps};exact k a _ (.inl rfl) e
 |met f y=>
  have e:h.get? a=some (W.methodObj (.ref f) (.ref y)):=x;show h'.get? a=some (W.methodObj (.ref f) (.ref y));exact k a _ (.inl rfl) e
 |ext φ=>obtain⟨p,⟨o,e⟩,st⟩:=x;exact⟨st _ _ p fun o q=>k _ _ (.inl rfl) q,⟨o,k _ _ (.inl rfl) e⟩,st⟩
theorem HOk.lt(x:HOk P w H h)(e:H a=some o):a<h.objs.size:=(x a o e).lt
theorem HOk.fresh(x:HOk P w H h)(e:h.objs.size<=a):H a=none:=by
 cases q:H a with
 |none=>rfl
 |some u=>exact absurd (Ak (x.lt q) e) (AD _)
theorem HOk.kept(x:HOk P w H h)(k:∀b u,h.get? b=some u->h'.get? b=some u):HOk P w H h':=fun a o e=>
 (x a o e).HU (fun b u _ q=>k b u q) (fun _ q=>q) fun _ _ q=>q
theorem HOk.laid(x:HOk P w H h)(k:∀b u,h.get? b=some u->h'.get? b=some u)(hp:h.objs.size<=a)(new:El P w (upd H a o) h' a o):HOk P w (upd H a o) h':=fun b u e=>by
 have hn:=x.fresh hp;by_cases hb:b=a
 ·subst hb;rw[DR] at e;cases e;exact new
 ·rw[av hb] at e;exact(x b u e).HU (fun c v _ q=>k c v q) (fun c q=>by rw[av (az q hn)];exact q) fun c xs q=>by rw[av (az q hn)];exact q
end
def Rd (H:Hp)(a:Addr)(u:HO):Prop:=H a=some u\/∃o,H a=some (.frz o u)
theorem Rd.ok{P:Program}{w:World}{H:Hp}{h:Heap}{a:Addr}{u:HO}(r:Rd H a u)(x:HOk P w H h):El P w H h a u:=by
 rcases r with r|⟨o,r⟩
 ·exact x a u r
 ·obtain⟨_,q⟩:=x a _ r;exact q
def Mut:Option HO->Prop
 |some (.lst _)=>True
 |some (.dK _)=>True
 |some (.dT _)=>True
 |some (.set _ _)=>True
 |some (.ins _ _ _)=>True
 |some (.ext _)=>True
 |_=>False
section
variable {P:Program}{w:World}{H:Hp}{h h':Heap}{x e:Addr}{o':HO}
theorem HOk.write(ok:HOk P w H h)(mu:Mut (H x))(he:e=x\/H e=some (.own x))(k:∀b u,b≠e->h.get? b=some u->h'.get? b=some u)(heo:∃u,h'.get? e=some u)
  (new:El P w (upd H x o') h' x o'):HOk P w (upd H x o') h':=fun b u q=>by
 have nown:∀c y,H c=some (.own y)->c≠x:=fun c y r z=>by subst z;rw[r] at mu;exact mu
 have ntup:∀c xs,H c=some (.tup xs)->c≠x:=fun c xs r z=>by subst z;rw[r] at mu;exact mu
 by_cases hb:b=x
 ·subst hb;rw[DR] at q;cases q;exact new
 ·rw[av hb] at q;by_cases hbe:b=e
  ·have q':H b=some (.own x):=by
    rcases he with z|z
    ·exact absurd (hbe.trans z) hb
    ·rw[hbe];exact z
   rw[q] at q';cases q';obtain⟨v,hv⟩:=heo;exact⟨v,by rw[hbe];exact hv⟩
  ·refine(ok b u q).HU (fun c v hc r=>k c v ?_ r) (fun c r=>by rw[av (nown c b r)];exact r) fun c xs r=>by rw[av (ntup c xs r)];exact r
   rcases hc with rfl|hc
   ·exact hbe
   ·rintro rfl;rcases he with z|z
    ·exact nown c b hc z
    ·rw[hc] at z;cases z;exact hb rfl
end
structure Un(fs ex:List Addr)(H H':Hp)(h h':Heap):Prop where
 keep:∀b o,h.get? b=some o->H b=none->b∉fs->b∉ex->h'.get? b=some o
 slot:∀b o,h.get? b=some o->H b=none->b∈fs->b∉ex->∃sl,h'.get? b=some {o with slots:=sl}
 free:∀b o,h.get? b=some o->H b=none->b∉ex->H' b=none
 there:∀b o,h.get? b=some o->b∉ex->∃o',h'.get? b=some o'
 GU:∀b xs,H b=some (.tup xs)->H' b=some (.tup xs)
 GL:∀b o u,H b=some (.frz o u)->H' b=some (.frz o u)
 GR:∀b ps,H b=some (.tbl ps)->∃more,H' b=some (.tbl (ps++more))
section
variable {fs fs' ex ex':List Addr}{H H1 H2:Hp}{h h1 h2 h':Heap}{a x e:Addr}{o:HO}
theorem Un.any(u:Un fs ex H H1 h h1){b:Addr}{ob:Obj}(q:h.get? b=some ob)(n:H b=none)(hx:b∉ex):∃sl,h1.get? b=some {ob with slots:=sl}:=by
 by_cases hb:b∈fs
 ·exact u.slot b ob q n hb hx
 ·exact⟨ob.slots,u.keep b ob q n hb hx⟩
theorem Un.kept(k:∀b u,h.get? b=some u->h'.get? b=some u):Un fs ex H H h h':=
 ⟨fun b ob q _ _ _=>k b ob q,fun b ob q _ _ _=>⟨ob.slots,k b ob q⟩,fun _ _ _ n _=>n,fun b ob q _=>⟨ob,k b ob q⟩,fun _ _ q=>q,fun _ _ _ q=>q,fun _ ps q=>⟨#[],by rw[q];simp⟩⟩
theorem Un.refl:Un fs ex H H h h:=Un.kept fun _ _ q=>q
theorem Un.laid(k:∀b u,h.get? b=some u->h'.get? b=some u)(hp:h.objs.size<=a)(hn:H a=none):Un fs ex H (upd H a o) h h' where
 keep:=fun b u q _ _ _=>k b u q
 slot:=fun b u q _ _ _=>⟨u.slots,k b u q⟩
 free:=fun b u q n _=>by rw[av (Ac (Ak (Dp q) hp))];exact n
 there:=fun b u q _=>⟨u,k b u q⟩
 GU:=fun b xs q=>by rw[av (az q hn)];exact q
 GL:=fun b u xs q=>by rw[av (az q hn)];exact q
 GR:=fun b ps q=>⟨#[],by rw[av (az q hn),q];simp⟩
theorem Un.write(mu:Mut (H x))(he:e=x\/H e=some (.own x))(k:∀b u,b≠e->h.get? b=some u->h'.get? b=some u)(heo:∃u,h'.get? e=some u):Un fs ex H (upd H x o) h h':=by
 have hx:∀b,H b=none->b≠x:=fun b n z=>by subst z;rw[n] at mu;exact mu
 have hb:∀b,H b=none->b≠e:=fun b n z=>by
  subst z;rcases he with r|r
  ·exact hx b n r
  ·rw[n] at r;cases r
 have hm:∀b u,H b=some u->¬Mut (some u)->b≠x:=fun b u q nm z=>by subst z;rw[q] at mu;exact nm mu
 refine⟨fun b u q n _ _=>k b u (hb b n) q,fun b u q n _ _=>⟨u.slots,k b u (hb b n) q⟩,fun b u q n _=>by rw[av (hx b n)]; exact n,fun b u q _=>?_,
  fun b xs q=>by rw[av (hm b _ q fun z=>z)];exact q,fun b u xs q=>by rw[av (hm b _ q fun z=>z)];exact q,fun b ps q=>⟨#[],by rw[av (hm b _ q fun z=>z),q];simp⟩⟩
 by_cases hbe:b=e
 ·subst hbe;exact heo
 ·exact⟨u,k b u hbe q⟩
end
def trk (h:Heap)(H:Hp):List Addr:=(List.range h.objs.size).filter fun a=>(H a).isSome
def nK (h:Heap)(H:Hp):Heap:=W.hideAll h (trk h H)
theorem mi(h:Heap)(H:Hp):(nK h H).objs.size=h.objs.size:=W.hideAll_size _ _
theorem pD{h:Heap}{H:Hp}{b:Addr}{o:Obj}(e:h.get? b=some o)(n:H b=none):(nK h H).get? b=some o:=
 W.hideAll_get _ e fun hm=>by
  have q:(H b).isSome=true:=(Bl.mp hm).2;rw[n] at q;simp at q
theorem qX{h:Heap}{H:Hp}{b:Addr}{o:Obj}(e:(nK h H).get? b=some o):h.get? b=some o/\H b=none:=by
 have e':h.get? b=some o:=W.of_hideAll (trk h H) e;refine⟨e',?_⟩;cases q:H b with
 |none=>rfl
 |some x=>
  have hm:b∈trk h H:=Bl.mpr ⟨Bo.mpr (Dp e'),by simp[q]⟩;have z:(nK h H).get? b=none:=W.hideAll_none (trk h H) hm;rw[z] at e;cases e
def qp (g h:Heap)(L:Addr):List (Addr×Obj):=(List.range h.objs.size).filterMap fun a=>if a=L\/(g.get? a).isSome=true then none else (h.get? a).map fun o=>(a,o)
def rest (g h:Heap)(L d:Addr):List (Addr×Obj):=(qp g h L).filter fun p=>decide (p.1≠d)
structure Mod(K:W.Frag)(mg:Str->Option Value)(base:Heap):Prop where
 kin:K.In base
 glob:base.Ns mainGlobals mg
 blt:∃mb,base.Ns builtinsNs mb/\∀x:Str,x≠"__name__"->mb x=bootBuiltins x
 nolimit:base.NoLimit
structure Cx where
 prog:Program
 w:World
 K:W.Frag
 mg:Str->Option Value
 base:Heap
 A:Around
 N:List Str
 s₀:Shared
 H₀:Hp
 env:Env
 outer:List Env
 stack:List Env
 ex:List Addr
 fn:Str->Bool
 calm:Bool
 pn:List (Addr×Obj)
 xe:Value->Shared->Prop
def frs (l:List Env):List Addr:=l.filterMap (·.frame)
abbrev Cx.fs(X:Cx):List Addr:=frs X.outer
def Vis (sc:Scope)(x:Str):Prop:=sc.names.lookup x=some .local\/sc.names.lookup x=some .cell\/sc.names.lookup x=some .free
def Loc (sc:Scope)(x:Str):Prop:=sc.names.lookup x=some .local\/sc.names.lookup x=some .cell
def Look (env:Env)(h:Heap)(m:Str->Option Value)(x:Str)(u:Value):Prop:=
 (env.kindOf x=some .local/\m x=some u)\/((env.kindOf x=some .cell\/env.kindOf x=some .free)/\∃c,env.cells.lookup x=some c/\h.IsCell c (some u))
structure Cx.Ok(X:Cx):Prop where
 mod:Mod X.K X.mg X.base
 kind:X.env.scope.kind=.function
 glob:X.env.globals=mainGlobals
 blt:X.env.builtins=builtinsNs
 above:X.s₀.heap.objs.size<=X.env.locals
 inj:∀x y c,X.env.cells.lookup x=some c->X.env.cells.lookup y=some c->x=y
 has:∀x,(X.env.kindOf x=some .cell\/X.env.kindOf x=some .free)->∃c,X.env.cells.lookup x=some c
 cab:∀x c,X.fn x=true->X.env.cells.lookup x=some c->X.s₀.heap.objs.size<=c
 hd:X.calm=true->X.A.handled=none
 frames:X.A.frames=some X.stack
 stk:X.stack=X.outer\/(X.stack=X.env::X.outer/\X.env.frame=some X.env.locals)
 exf:∀b∈X.ex,b≠X.env.locals/\∀x c,X.env.cells.lookup x=some c->c≠b
 bs:∀b o,X.base.get? b=some o->X.s₀.heap.get? b=some o/\X.H₀ b=none
 bsz:X.base.objs.size<=X.s₀.heap.objs.size
 IE:∀b o,X.base.get? b=some o->b∉X.ex
 HM:∀b∈X.ex,b∉X.fs
 FV:X.s₀.heap.FunFrames X.base X.outer
 frf:∀b∈X.fs,X.H₀ b=none
structure Inv(X:Cx)(pins:List (Addr×Obj))(σ:List (Option V))(H:Hp)(s:Shared):Prop where
 ok:X.Ok
 os:s.os=X.s₀.os
 bare:AllBare s.gens
 base:Un X.fs X.ex X.H₀ H X.s₀.heap s.heap
 loc:∃m,s.heap.Ns X.env.locals m/\∀(i:Nat)(x:Str)(v:V),X.N[i]?=some x->σ[i]?=some (some v)->Vis X.env.scope x->∃u,RelV v u/\Look X.env s.heap m x u
 cell:∀x c,X.env.cells.lookup x=some c->∃v,s.heap.IsCell c v
 free:H X.env.locals=none
 Ew:∀x c,X.env.cells.lookup x=some c->H c=none
 pin:∀p∈X.pn++pins,s.heap.get? p.1=some p.2/\H p.1=none/\p.1≠X.env.locals/\p.1∉X.fs/\∀v,p.2.data≠.cell v
 hok:HOk X.prog X.w H s.heap
 len:σ.length=X.N.length
section
variable {X:Cx}{pins:List (Addr×Obj)}{σ:List (Option V)}{H H':Hp}{s:Shared}{h':Heap}
theorem Cx.Ok.nofr(ok:X.Ok){b:Addr}{o:Obj}(e:X.base.get? b=some o):b∉X.fs:=fun hb=>by
 have:=(ok.FV.mem hb).1;rw[e] at this;cases this
theorem Inv.bs(I:Inv X pins σ H s):∀b o,X.base.get? b=some o->s.heap.get? b=some o/\H b=none:=fun b o e=>
 ⟨I.base.keep b o (I.ok.bs b o e).1 (I.ok.bs b o e).2 (I.ok.nofr e) (I.ok.IE b o e),I.base.free b o (I.ok.bs b o e).1 (I.ok.bs b o e).2 (I.ok.IE b o e)⟩
theorem Inv.bk(I:Inv X pins σ H s):∀b o,X.base.get? b=some o->s.heap.get? b=some o:=fun b o e=>(I.bs b o e).1
theorem Inv.mod(I:Inv X pins σ H s):Mod X.K X.mg X.base:=I.ok.mod
theorem Inv.kIn(I:Inv X pins σ H s):X.K.In s.heap:=I.ok.mod.kin.keeps I.bk
theorem Inv.lt(I:Inv X pins σ H s):X.env.locals<s.heap.objs.size:=let ⟨_,hn,_⟩:=I.loc;hn.lt
theorem Inv.sz(I:Inv X pins σ H s):X.s₀.heap.objs.size<=s.heap.objs.size:=Ap I.ok.above (AW I.lt)
theorem Inv.nofs(I:Inv X pins σ H s){a:Addr}(h:s.heap.objs.size<=a):a∉X.fs:=fun hb=>by
 obtain⟨_,o,ho,_⟩:=I.ok.FV.mem hb;exact absurd (Ak (Dp ho) (Ap I.sz h)) (AD _)
theorem Inv.cne(I:Inv X pins σ H s):∀x c,X.env.cells.lookup x=some c->c≠X.env.locals:=fun x c e z=>by
 obtain⟨v,o,ho,hd⟩:=I.cell x c e;obtain⟨m,⟨o',es,ep,ho',hd',_⟩,_⟩:=I.loc;rw[z,ho'] at ho;cases ho;rw[hd'] at hd;cases hd
theorem Inv.FV(I:Inv X pins σ H s):s.heap.FunFrames X.base X.outer:=by
 have all:∀(l:List Env),(∀b∈frs l,b∈X.fs)->X.s₀.heap.FunFrames X.base l->s.heap.FunFrames X.base l:=by
  intro l;induction l with
  |nil=>intro _ _;trivial
  |cons env r ih=>
   intro hs hl;obtain⟨hk,⟨L,o,hf,hn,ho,hd⟩,hr⟩:=hl;have hL:L∈X.fs:=hs L (by unfold frs;rw[BU,hf];exact Aq);obtain⟨sl,e⟩:=I.base.slot L o ho (I.ok.frf L hL) hL fun z=>I.ok.HM L z hL;exact⟨hk,⟨L,_,hf,hn,e,hd⟩,ih (fun b hb=>hs b (by unfold frs;rw[BU,hf];exact AE _ hb)) hr⟩
 exact all X.outer (fun _ hb=>hb) I.ok.FV
theorem Inv.stack(I:Inv X pins σ H s):s.heap.FunFrames X.base X.stack:=by
 rcases I.ok.stk with e|⟨e,hf⟩
 ·rw[e];exact I.FV
 ·rw[e];obtain⟨m,hn,_⟩:=I.loc;refine .cons (by rw[I.ok.kind];decide) hf hn ?_ I.FV;exact Heap.get?_none_of_le (Ap I.ok.bsz I.ok.above)
theorem Inv.FL(I:Inv X pins σ H s):∀b∈frs X.stack,b∈X.env.locals::X.fs:=fun b hb=>by
 rcases I.ok.stk with e|⟨e,hf⟩
 ·rw[e] at hb;exact AE _ hb
 ·rw[e] at hb;unfold frs at hb;rw[BU,hf] at hb;exact hb
theorem Inv.Gh(I:Inv X pins σ H s):∀b∈frs X.stack,H b=none:=fun b hb=>by
 rcases Ag.mp (I.FL b hb) with e|hb
 ·rw[e];exact I.free
 ·obtain⟨_,o,ho,_⟩:=I.ok.FV.mem hb;exact I.base.free b o ho (I.ok.frf b hb) fun z=>I.ok.HM b z hb
theorem Inv.step{g':Array GenState}{t':Nat}{d':Drawn}{ch:List Addr}(I:Inv X pins σ H s)
  (hch:∀b∈ch,(b∈X.ex\/X.s₀.heap.get? b=none)/\b≠X.env.locals/\(∀x c,X.env.cells.lookup x=some c->c≠b)/\∀p∈X.pn++pins,p.1≠b)
  (keep:∀b o,b≠X.env.locals->b∉X.fs->b∉ch->s.heap.get? b=some o->H b=none->h'.get? b=some o)
  (slot:∀b o,b≠X.env.locals->b∈X.fs->b∉ch->s.heap.get? b=some o->H b=none->∃sl,h'.get? b=some {o with slots:=sl})(free:∀b o,b∉ch->s.heap.get? b=some o->H b=none->H' b=none)
  (there:∀b o,b∉ch->s.heap.get? b=some o->∃o',h'.get? b=some o')
  (GU:∀b xs,H b=some (.tup xs)->H' b=some (.tup xs))(GL:∀b o u,H b=some (.frz o u)->H' b=some (.frz o u))(GR:∀b ps,H b=some (.tbl ps)->∃more,H' b=some (.tbl (ps++more)))
  (ns:∀m,s.heap.Ns X.env.locals m->h'.Ns X.env.locals m)(hok:HOk X.prog X.w H' h')(hg:AllBare g') :
  Inv X pins σ H' {s with heap:=h',gens:=g',drawn:=d',toks:=t'}:=by
 have neL:∀b o,X.s₀.heap.get? b=some o->b≠X.env.locals:=fun b o e=>Ac (Ak (Dp e) I.ok.above);have neC:∀b o,X.s₀.heap.get? b=some o->b∉X.ex->b∉ch:=fun b o e hx hb=>by
  rcases (hch b hb).1 with z|z
  ·exact hx z
  ·rw[z] at e;cases e
 have cellK:∀x c,X.env.cells.lookup x=some c->∀v,s.heap.IsCell c v->h'.IsCell c v:=fun x c e v hq1=>by
  obtain⟨o,ho,hd⟩:=hq1;have nch:c∉ch:=fun z=>(hch c z).2.2.1 x c e rfl;by_cases hc:c∈X.fs
  ·obtain⟨sl,q⟩:=slot c o (I.cne x c e) hc nch ho (I.Ew x c e);exact⟨_,q,hd⟩
  ·exact⟨o,keep c o (I.cne x c e) hc nch ho (I.Ew x c e),hd⟩
 refine⟨I.ok,I.os,hg,⟨fun b o e n hb hx=>?_,fun b o e n hb hx=>?_,fun b o e n hx=>?_,fun b o e hx=>?_,fun b xs e=>GU b xs (I.base.GU b xs e),fun b o xs e=>GL b o xs (I.base.GL b o xs e),fun b ps e=>?_⟩,?_,fun x c e=>?_,?_,fun x c e=>?_,fun p hp=>?_,hok,I.len⟩
 ·exact keep b o (neL b o e) hb (neC b o e hx) (I.base.keep b o e n hb hx) (I.base.free b o e n hx)
 ·obtain⟨sl,e1⟩:=I.base.slot b o e n hb hx;obtain⟨sl',e2⟩:=slot b _ (neL b o e) hb (neC b o e hx) e1 (I.base.free b o e n hx);exact⟨sl',e2⟩
 ·obtain⟨o',e1⟩:=I.base.there b o e hx;exact free b o' (neC b o e hx) e1 (I.base.free b o e n hx)
 ·obtain⟨o',e1⟩:=I.base.there b o e hx;exact there b o' (neC b o e hx) e1
 ·obtain⟨m1,e1⟩:=I.base.GR b ps e;obtain⟨m2,e2⟩:=GR b _ e1;exact⟨m1++m2,by rw[e2,Array.append_assoc]⟩
 ·obtain⟨m,hn,hl⟩:=I.loc;refine⟨m,ns m hn,fun i x v e1 e2 e3=>?_⟩;obtain⟨u,r,l⟩:=hl i x v e1 e2 e3;refine⟨u,r,?_⟩;rcases l with l|⟨k,c,e,z⟩
  ·exact .inl l
  ·exact .inr ⟨k,c,e,cellK x c e _ z⟩
 ·obtain⟨v,z⟩:=I.cell x c e;exact⟨v,cellK x c e v z⟩
 ·obtain⟨m,⟨o,_,_,ho,_⟩,_⟩:=I.loc;exact free _ o (fun z=>(hch _ z).2.1 rfl) ho I.free
 ·obtain⟨v,o,ho,hd⟩:=I.cell x c e;exact free c o (fun z=>(hch c z).2.2.1 x c e rfl) ho (I.Ew x c e)
 ·obtain⟨e,n,ne,nf,d⟩:=I.pin p hp;have nch:p.1∉ch:=fun z=>(hch p.1 z).2.2.2 p hp rfl;exact⟨keep p.1 p.2 ne nf nch e n,free p.1 p.2 nch e n,ne,nf,d⟩
theorem Inv.un{t':Nat}(I:Inv X pins σ H s)(u:Un X.fs [] H H' s.heap h')(hok:HOk X.prog X.w H' h'):Inv X pins σ H' {s with heap:=h',toks:=t'}:=by
 obtain⟨m,⟨o,es,ep,ho,r⟩,_⟩:=id I.loc;obtain⟨sl,hL⟩:=u.any ho I.free (by simp)
 exact I.step (g':=s.gens) (d':=s.drawn) (ch:=[]) (fun _ z=>nomatch z) (fun b o _ hb _ e n=>u.keep b o e n hb (by simp)) (fun b o _ hb _ e n=>u.slot b o e n hb (by simp)) (fun b o _ e n=>u.free b o e n (by simp)) (fun b o _ e=>u.there b o e (by simp)) u.GU u.GL u.GR (fun m' hm=>by
  obtain⟨o',es',ep',ho',r'⟩:=hm;rw[ho] at ho';cases ho'
  exact⟨_,es',ep',hL,r'⟩) hok I.bare
theorem Inv.call{g':Array GenState}{t':Nat}{d':Drawn}{ch:List Addr}(I:Inv X pins σ H s)(u:Un (frs X.stack) ch H H' s.heap h')(hok:HOk X.prog X.w H' h')(hg:AllBare g')
  (hch:∀b∈ch,(b∈X.ex\/X.s₀.heap.get? b=none)/\b≠X.env.locals/\(∀x c,X.env.cells.lookup x=some c->c≠b)/\∀p∈X.pn++pins,p.1≠b) :
  Inv X pins σ H' {s with heap:=h',gens:=g',drawn:=d',toks:=t'}:=by
 obtain⟨m,⟨o,es,ep,ho,r⟩,_⟩:=id I.loc;obtain⟨sl,hL⟩:=u.any ho I.free fun z=>(hch _ z).2.1 rfl
 exact I.step (ch:=ch) hch (fun b o hL hb hc e n=>u.keep b o e n (fun z=>(Ag.mp (I.FL b z)).elim hL hb) hc) (fun b o _ _ hc e n=>u.any e n hc) (fun b o hc e n=>u.free b o e n hc) (fun b o hc e=>u.there b o e hc) u.GU u.GL u.GR (fun m' hm=>by
  obtain⟨o',es',ep',ho',r'⟩:=hm;rw[ho] at ho';cases ho'
  exact⟨_,es',ep',hL,r'⟩) hok hg
theorem Inv.turned{t':Nat}{it:Addr}(I:Inv X pins σ H s)(k:∀b o,b≠it->s.heap.get? b=some o->h'.get? b=some o)(hn:H it=none)(hL:it≠X.env.locals)
  (h1:it∈X.ex\/X.s₀.heap.get? it=none)(h2:∀x c,X.env.cells.lookup x=some c->c≠it)(h3:∀p∈X.pn++pins,p.1≠it):Inv X pins σ H {s with heap:=h',toks:=t'}:=by
 have nit:∀b u,H b=some u->b≠it:=fun b u e z=>by rw[z,hn] at e;cases e
 refine I.step (g':=s.gens) (d':=s.drawn) (ch:=[it]) (fun b hb=>?_) (fun b o _ _ hc e _=>k b o (fun z=>hc (by simp[z])) e) (fun b o _ _ hc e _=>⟨o.slots,k b o (fun z=>hc (by simp[z])) e⟩) (fun _ _ _ _ n=>n)
  (fun b o hc e=>⟨o,k b o (fun z=>hc (by simp[z])) e⟩) (fun _ _ e=>e) (fun _ _ _ e=>e) (fun b ps e=>⟨#[],by rw[e];simp⟩) (fun m hm=>?_) (fun b u e=>?_) I.bare
 ·have e:b=it:=by simpa using hb
  subst e;exact⟨h1,hL,h2,h3⟩
 ·obtain⟨o,es,ep,ho,r⟩:=hm;exact⟨o,es,ep,k _ o (DC hL) ho,r⟩
 ·refine(I.hok b u e).HU (fun c v hc q=>k c v ?_ q) (fun _ q=>q) fun _ _ q=>q;rcases hc with z|z
  ·rw[z];exact nit b u e
  ·exact nit c _ z
theorem Inv.tok(I:Inv X pins σ H s)(t:Nat):Inv X pins σ H {s with toks:=t}:=I.un (h':=s.heap) (t':=t) Un.refl I.hok
theorem Inv.kept{t':Nat}(I:Inv X pins σ H s)(k:∀b u,s.heap.get? b=some u->h'.get? b=some u):Inv X pins σ H {s with heap:=h',toks:=t'}:=I.un (Un.kept k) (I.hok.kept k)
theorem Inv.laid{a:Addr}{o:HO}{t':Nat}(I:Inv X pins σ H s)(k:∀b u,s.heap.get? b=some u->h'.get? b=some u)(hp:s.heap.objs.size<=a)(new:El X.prog X.w (upd H a o) h' a o) :
  Inv X pins σ (upd H a o) {s with heap:=h',toks:=t'}:=I.un (Un.laid k hp (I.hok.fresh hp)) (I.hok.laid k hp new)
theorem Inv.write{x e:Addr}{o:HO}{t':Nat}(I:Inv X pins σ H s)(mu:Mut (H x))(he:e=x\/H e=some (.own x))(k:∀b u,b≠e->s.heap.get? b=some u->h'.get? b=some u)(heo:∃u,h'.get? e=some u)
  (new:El X.prog X.w (upd H x o) h' x o):Inv X pins σ (upd H x o) {s with heap:=h',toks:=t'}:=I.un (Un.write mu he k heo) (I.hok.write mu he k heo new)
theorem Inv.ES{pins':List (Addr×Obj)}(I:Inv X pins σ H s)(h:∀p∈pins',s.heap.get? p.1=some p.2/\H p.1=none/\p.1≠X.env.locals/\p.1∉X.fs/\∀v,p.2.data≠.cell v):Inv X pins' σ H s:=
 ⟨I.ok,I.os,I.bare,I.base,I.loc,I.cell,I.free,I.Ew,fun p hp=>(Ai.mp hp).elim (fun z=>I.pin p (Ay _ z)) (h p),I.hok,I.len⟩
theorem fN{N:List Str}(hN:N.Nodup){i j:Nat}{x:Str}(a:N[i]?=some x)(b:N[j]?=some x):i=j:=by
 obtain⟨h1,e1⟩:=Ad.mp a;obtain⟨h2,e2⟩:=Ad.mp b;exact(List.getElem_inj hN).mp (e1.trans e2.symm)
theorem gX{M:Model}{A:Around}{E:Value->Shared->Prop}{i:Nat}{x:Str}{v:V}{u:Value}{Q:Unit->Shared->Prop}(I:Inv X pins σ H s)(hN:X.N.Nodup)(hi:X.N[i]?=some x)(hx:Loc X.env.scope x)(r:RelV v u)
  (h:∀s',Inv X pins (σ.set i (some v)) H s'->(∃a,Heap.SameBut a s.heap s'.heap/\(a=X.env.locals\/X.env.cells.lookup x=some a))->Q () s')(hf:X.fn x=true\/X.env.scope.names.lookup x=some .local:=by first|exact .inl rfl|exact .inr rfl|assumption):wpAny M A (storeName X.env x u) Q E s:=by
 obtain⟨m,hn,hl⟩:=id I.loc;have hcls:(X.env.scope.kind==.class||(X.env.scope.kind==.module&&X.env.locals != X.env.globals))=false:=by rw[I.ok.kind];rfl
 have hiσ:i<σ.length:=by rw[I.len];exact(Ad.mp hi).1
 have cne:=I.cne;have tracked:∀{a:Addr}{h':Heap},(∃o,s.heap.get? a=some o/\H a=none)->Heap.SameBut a s.heap h'->HOk X.prog X.w H h':=fun {a h'} ha hs b ob e=>by
  obtain⟨_,_,hfree⟩:=ha;refine(I.hok b ob e).HU (fun c w' hc q=>(hs.2 c ?_).trans q) (fun _ q=>q) fun _ _ q=>q;rintro rfl;rcases hc with rfl|hc
  ·rw[hfree] at e;cases e
  ·rw[hfree] at hc;cases hc
 rcases hx with hk|hk
 ·refine wpAny_storeName_local hk hn (fun h' hn' hs=>?_) hcls;obtain⟨oL,_,_,hoL,_⟩:=id hn;refine h _ ⟨I.ok,I.os,I.bare,⟨fun b o e n hb hx=>?_,fun b o e n hb hx=>?_,I.base.free,fun b o e hx=>?_,I.base.GU,I.base.GL,I.base.GR⟩,⟨_,hn',fun j y v' e1 e2 e3=>?_⟩,fun y c e=>?_,I.free,I.Ew,fun p hp=>?_,tracked ⟨oL,hoL,I.free⟩ hs,by simpa using I.len⟩ ⟨_,hs,.inl rfl⟩
  ·exact(hs.2 b (Ac (Ak (Dp e) I.ok.above))).trans (I.base.keep b o e n hb hx)
  ·obtain⟨sl,e1⟩:=I.base.slot b o e n hb hx;exact⟨sl,(hs.2 b (Ac (Ak (Dp e) I.ok.above))).trans e1⟩
  ·obtain⟨o',e1⟩:=I.base.there b o e hx;exact⟨o',(hs.2 b (Ac (Ak (Dp e) I.ok.above))).trans e1⟩
  ·by_cases hj:j=i
   ·subst hj;rw[hi] at e1;cases e1;rw[BI hiσ] at e2;cases e2;exact⟨u,r,.inl ⟨hk,by simp⟩⟩
   ·rw[BJ (DC hj)] at e2;obtain⟨u',r',q⟩:=hl j y v' e1 e2 e3;refine⟨u',r',?_⟩;rcases q with ⟨k,e⟩|⟨k,c,e,z⟩
    ·refine .inl ⟨k,?_⟩;have:y≠x:=fun e=>hj (fN hN e1 (e▸hi));simp[this,e]
    ·exact .inr ⟨k,c,e,z.sameBut hs (cne y c e)⟩
  ·obtain⟨w',z⟩:=I.cell y c e;exact⟨w',z.sameBut hs (cne y c e)⟩
  ·obtain⟨e,n,ne,nf,d⟩:=I.pin p hp;exact⟨(hs.2 p.1 ne).trans e,n,ne,nf,d⟩
 ·have hfn:X.fn x=true:=by
   rcases hf with z|z
   ·exact z
   ·rw[z] at hk;cases hk
  obtain⟨c,hc⟩:=I.ok.has x (.inl hk);obtain⟨w',z⟩:=I.cell x c hc;refine wpAny_storeName_cell I.ok.kind hk hc z (fun h' hc' hs=>?_);obtain⟨oc,hoc,hocd⟩:=id z;refine h {s with heap:=h'} ⟨I.ok,I.os,I.bare,⟨fun b o e n hb hx=>?_,fun b o e n hb hx=>?_,I.base.free,fun b o e hx=>?_,I.base.GU,I.base.GL,I.base.GR⟩,⟨m,hn.sameBut hs (DC (cne x c hc)),fun j y v' e1 e2 e3=>?_⟩,fun y c' e=>?_,I.free,I.Ew,fun p hp=>?_,tracked ⟨oc,hoc,I.Ew x c hc⟩ hs,by simpa using I.len⟩ ⟨c,hs,.inr hc⟩
  ·exact(hs.2 b (Ac (Ak (Dp e) (I.ok.cab x c hfn hc)))).trans (I.base.keep b o e n hb hx)
  ·obtain⟨sl,e1⟩:=I.base.slot b o e n hb hx;exact⟨sl,(hs.2 b (Ac (Ak (Dp e) (I.ok.cab x c hfn hc)))).trans e1⟩
  ·obtain⟨o',e1⟩:=I.base.there b o e hx;exact⟨o',(hs.2 b (Ac (Ak (Dp e) (I.ok.cab x c hfn hc)))).trans e1⟩
  ·by_cases hj:j=i
   ·subst hj;rw[hi] at e1;cases e1;rw[BI hiσ] at e2;cases e2;exact⟨u,r,.inr ⟨.inl hk,c,hc,hc'⟩⟩
   ·rw[BJ (DC hj)] at e2;obtain⟨u',r',q⟩:=hl j y v' e1 e2 e3;refine⟨u',r',?_⟩;rcases q with q|⟨k,c',e,z'⟩
    ·exact .inl q
    ·refine .inr ⟨k,c',e,z'.sameBut hs ?_⟩;rintro rfl;exact hj (fN hN e1 (I.ok.inj _ _ _ e hc▸hi))
  ·by_cases hcc:c'=c
   ·subst hcc;exact⟨_,hc'⟩
   ·obtain⟨w2,z2⟩:=I.cell y c' e;exact⟨w2,z2.sameBut hs hcc⟩
  ·obtain⟨e,n,ne,nf,d⟩:=I.pin p hp;refine⟨(hs.2 p.1 ?_).trans e,n,ne,nf,d⟩;intro q;rw[q,hoc] at e;have q':oc=p.2:=Dq e;exact d w' (by rw[<- q'];exact hocd)
theorem dg{M:Model}{A:Around}{E:Value->Shared->Prop}{i:Nat}{x:Str}{v:V}{u:Value}{Q:Unit->Shared->Prop}(I:Inv X pins σ H s)(hN:X.N.Nodup)(hi:X.N[i]?=some x)(hx:Loc X.env.scope x)(r:RelV v u)
  (h:∀s',Inv X pins (σ.set i (some v)) H s'->Q () s')(hf:X.fn x=true\/X.env.scope.names.lookup x=some .local:=by first|exact .inl rfl|exact .inr rfl|assumption):wpAny M A (storeName X.env x u) Q E s:=
 gX I hN hi hx r (fun s' I' _=>h s' I') hf
theorem Inv.IK{s':Shared}{ch:List Addr}(I:Inv X pins σ H s)(ho:s'.os=s.os)(u:Un (frs X.stack) ch H H' s.heap s'.heap)(hok:HOk X.prog X.w H' s'.heap)(hg:AllBare s'.gens)
  (hch:∀b∈ch,(b∈X.ex\/X.s₀.heap.get? b=none)/\b≠X.env.locals/\(∀x c,X.env.cells.lookup x=some c->c≠b)/\∀p∈X.pn++pins,p.1≠b):Inv X pins σ H' s':=by
 obtain⟨h',g',d',t',o'⟩:=s';have e:o'=s.os:=ho;subst e;exact I.call (g':=g') (t':=t') (d':=d') u hok hg hch
end
abbrev XK:=Value->Option Addr->Hp->Prop
abbrev St:=List (Option V)
abbrev VK:=V->Hp->Prop
abbrev TE:=St->Hp->VK->Prop
abbrev TT:=St->Hp->(Bool->Hp->Prop)->Prop
abbrev TA:=St->Hp->(List V->Hp->Prop)->Prop
structure Ends where
 nx:St->Hp->Prop
 rt:VK
 bk:St->Hp->Prop:=fun _ _=>False
 ct:St->Hp->Prop:=fun _ _=>False
abbrev TS:=Ends->St->Hp->Prop
def EP (X:Cx)(pins:List (Addr×Obj))(σ:St)(Q:VK)(u:Value)(s':Shared):Prop:=∃v H',Inv X pins σ H' s'/\RelV v u/\Q v H'
def TP (X:Cx)(pins:List (Addr×Obj))(σ:St)(Q:Bool->Hp->Prop)(b:Bool)(s':Shared):Prop:=∃H',Inv X pins σ H' s'/\Q b H'
def AP (X:Cx)(pins:List (Addr×Obj))(σ:St)(Q:List V->Hp->Prop)(us:List Value)(s':Shared):Prop:=∃vs H',Inv X pins σ H' s'/\Vals vs us/\Q vs H'
def SP (X:Cx)(pins:List (Addr×Obj))(D:Ends)(f:Flow)(s':Shared):Prop:=
 match f with
 |.next=>∃σ' H',Inv X pins σ' H' s'/\D.nx σ' H'
 |.brk=>∃σ' H',Inv X pins σ' H' s'/\D.bk σ' H'
 |.cont=>∃σ' H',Inv X pins σ' H' s'/\D.ct σ' H'
 |.ret u=>∃v σ' H',Inv X pins σ' H' s'/\RelV v u/\D.rt v H'
def PE (X:Cx)(e:Expr)(t:TE):Prop:=
 ∀(pins:List (Addr×Obj))(s:Shared)(σ:St)(H:Hp)(Q:VK),Inv X pins σ H s->t σ H Q->wpAny (model X.prog X.w) X.A (eval e X.env) (EP X pins σ Q) X.xe s
def PT (X:Cx)(e:Expr)(t:TT):Prop:=
 ∀(pins:List (Addr×Obj))(s:Shared)(σ:St)(H:Hp)(Q:Bool->Hp->Prop),Inv X pins σ H s->t σ H Q->wpAny (model X.prog X.w) X.A (isTrue e X.env (eval e X.env)) (TP X pins σ Q) X.xe s
def PW (X:Cx)(e:Expr)(t:TT):Prop:=
 ∀(whole:Sem Value)(pins:List (Addr×Obj))(s:Shared)(σ:St)(H:Hp)(Q:Bool->Hp->Prop),Inv X pins σ H s->t σ H Q->wpAny (model X.prog X.w) X.A (isTrue e X.env whole) (TP X pins σ Q) X.xe s
theorem PW.pt{X:Cx}{e:Expr}{t:TT}(h:PW X e t):PT X e t:=h _
def PA (X:Cx)(es:List Expr)(t:TA):Prop:=
 ∀(pos:Pos)(pins:List (Addr×Obj))(s:Shared)(σ:St)(H:Hp)(Q:List V->Hp->Prop),Inv X pins σ H s->t σ H Q->wpAny (model X.prog X.w) X.A (spliced (backTo pos (starEach es X.env))) (AP X pins σ Q) X.xe s
def PS (X:Cx)(st:Stmt)(t:TS):Prop:=
 ∀(pins:List (Addr×Obj))(s:Shared)(σ:St)(H:Hp)(D:Ends),Inv X pins σ H s->t D σ H->wpAny (model X.prog X.w) X.A (exec st X.env) (SP X pins D) X.xe s
def PSs (X:Cx)(st:List Stmt)(t:TS):Prop:=
 ∀(pins:List (Addr×Obj))(s:Shared)(σ:St)(H:Hp)(D:Ends),Inv X pins σ H s->t D σ H->wpAny (model X.prog X.w) X.A (execs st X.env) (SP X pins D) X.xe s
theorem thn{α:Type}{t:Sem α}{Q Q':α->Shared->Prop}{M:Model}{A:Around}{E:Value->Shared->Prop}{s:Shared}(h:wpAny M A t Q E s)(hQ:∀a s,Q a s->Q' a s):wpAny M A t Q' E s:=Dl h hQ fun _ _ x=>x
section
variable {X:Cx}
def ny (i:Nat):TE:=fun σ H Q=>∃v,σ[i]?=some (some v)/\Q v H
def tC (v:V):TE:=fun _ H Q=>Q v H
theorem rZ{i:Nat}{x:Str}{pos:Pos}(hN:X.N[i]?=some x)(hv:Vis X.env.scope x)(hd:(x==("__debug__":Str))=false:=by decide)(hcd:(x==("__classdict__":Str))=false:=by decide):PE X (.Name x pos) (ny i):=by
 intro pins s σ H Q I h;obtain⟨v,e,h⟩:=h;obtain⟨m,hn,hl⟩:=I.loc;obtain⟨u,r,l⟩:=hl i x v hN e hv;have fin:EP X pins σ Q u s:=⟨v,H,I,r,h⟩
 rcases l with ⟨hk,hm⟩|⟨hk,c,hc,hcell⟩
 ·exact wpAny_Name (wpAny_loadName_local I.ok.kind hk hn hm fin) hd
 ·rcases hk with hk|hk
  ·exact wpAny_Name (wpAny_loadName_cell I.ok.kind hk hc hcell fin) hd
  ·exact wpAny_Name (wpAny_loadName_free I.ok.kind hk hc hcell fin hcd) hd
theorem ag{i j pos}:PE X (.Constant (.int i) j pos) (tC (.int i)):=fun _ _ _ H _ I h=>wpAny_Constant_int ⟨.int i,H,I.tok _,⟨_,rfl⟩,h⟩
theorem dG{b j pos}:PE X (.Constant (.bool b) j pos) (tC (.bl b)):=fun _ _ _ H _ I h=>Constant_bool ⟨.bl b,H,I,rfl,h⟩
theorem bK{j pos}:PE X (.Constant .none j pos) (tC .non):=fun _ _ _ H _ I h=>Constant_none ⟨.non,H,I,rfl,h⟩
theorem aL{x j pos}:PE X (.Constant (.str x) j pos) (tC (.str x)):=fun _ _ _ H _ I h=>Calls.Constant_str ⟨.str x,H,I.tok _,⟨_,rfl⟩,h⟩
def Gl (X:Cx)(x:Str):Prop:=X.env.kindOf x=some .globalImplicit
theorem cW{E:Value->Shared->Prop}{pins:List (Addr×Obj)}{s:Shared}{σ:St}{H:Hp}{x:Str}{u:Value}{pos:Pos}{Q:Value->Shared->Prop}(I:Inv X pins σ H s)(hg:Gl X x)(hm:X.mg x=some u)(h:Q u s)
  (hd:(x==("__debug__":Str))=false:=by decide):wpAny (model X.prog X.w) X.A (eval (.Name x pos) X.env) Q E s:=
 Calls.Name_function_global I.ok.kind hg (Calls.loadGlobal_global (by rw[I.ok.glob];exact I.mod.glob.keeps I.bk) hm h) hd
theorem cB{E:Value->Shared->Prop}{pins:List (Addr×Obj)}{s:Shared}{σ:St}{H:Hp}{x:Str}{u:Value}{pos:Pos}{Q:Value->Shared->Prop}(I:Inv X pins σ H s)(hg:Gl X x)(hm:X.mg x=none)(hv:bootBuiltins x=some u)(h:Q u s)
  (hn:x≠"__name__":=by decide)(hd:(x==("__debug__":Str))=false:=by decide):wpAny (model X.prog X.w) X.A (eval (.Name x pos) X.env) Q E s:=by
 obtain⟨mb,h1,h2⟩:=I.mod.blt;exact Calls.Name_function_global I.ok.kind hg (Calls.loadGlobal_builtin (by rw[I.ok.glob];exact I.mod.glob.keeps I.bk) hm (by rw[I.ok.blt];exact h1.keeps I.bk) ((h2 x hn).trans hv) h) hd
theorem aX{x:Str}{v:V}{u:Value}{pos:Pos}(hg:Gl X x)(hm:X.mg x=some u)(r:RelV v u)(hd:(x==("__debug__":Str))=false:=by decide):PE X (.Name x pos) (tC v):=
 fun _ _ _ H _ I h=>cW I hg hm ⟨v,H,I,r,h⟩ hd
theorem cD{x:Str}{v:V}{u:Value}{pos:Pos}(hg:Gl X x)(hm:X.mg x=none)(hv:bootBuiltins x=some u)(r:RelV v u)(hn:x≠"__name__":=by decide)(hd:(x==("__debug__":Str))=false:=by decide):PE X (.Name x pos) (tC v):=
 fun _ _ _ H _ I h=>cB I hg hm hv ⟨v,H,I,r,h⟩ hn hd
variable {a b:Expr}{ta tb:TE}{pos:Pos}
def PC (X:Cx)(op:CmpOp)(a b:Expr)(t:TE):Prop:=
 ∀(pins:List (Addr×Obj))(s:Shared)(σ:St)(H:Hp)(Q:VK),Inv X pins σ H s->t σ H Q ->
  wpAny (model X.prog X.w) X.A (eval a X.env) (fun v s₁=>wpAny (model X.prog X.w) X.A (eval b X.env) (fun u s₂=>wpAny (model X.prog X.w) X.A (compareOp op v u) (EP X pins σ Q) X.xe s₂) X.xe s₁) X.xe s
theorem ou(b:Expr){op:CmpOp}(h:op≠.In)(h2:op≠.NotIn):behindInMarks op b=false:=by
 have e1:(op==CmpOp.In)=false:=by cases op<;>first|rfl|exact absurd rfl h
 have e2:(op==CmpOp.NotIn)=false:=by cases op<;>first|rfl|exact absurd rfl h2
 cases b<;>simp[behindInMarks,e1,e2]
def tB (t:TE):TT:=fun σ H Q=>t σ H fun x H1=>∃c,x=.bl c/\Q c H1
theorem rT{op:CmpOp}{t:TE}(h:PC X op a b t)(h1:behindInMarks op b=false:=by first|exact ou _ (by decide) (by decide)|rfl):PE X (.Compare a [op] [b] pos) t:=fun pins s σ H Q I hw=>wpAny_Compare1 (h pins s σ H Q I hw) h1
theorem bL{e:Expr}{t:TE}(h:PE X e t)(he:∀whole,isTrue e X.env whole=(do let v <- whole;standAt e.pos;holding [v] (truthy v)):=by intro _;rfl):PT X e (tB t):=by
 intro pins s σ H Q I hw;refine isTrue_plain (thn (h pins s σ H _ I hw) fun v s1 hq2=>?_) (he _);obtain⟨x,H1,I1,r1,q1⟩:=hq2;obtain⟨d,rfl,q⟩:=q1;cases r1;exact wpAny_truthy_bool ⟨H1,I1,q⟩
variable {tA tB':TT}{rest:List Expr}
def tAnd (t u:TT):TT:=fun σ H Q=>t σ H fun c H1=>if c=true then u σ H1 Q else Q false H1
def tOr (t u:TT):TT:=fun σ H Q=>t σ H fun c H1=>if c=true then Q true H1 else u σ H1 Q
def tNot (t:TT):TT:=fun σ H Q=>t σ H fun c H1=>Q (!c) H1
theorem dM(ha:PT X a tA):PW X (.BoolOp .And [a] pos) tA:=by
 intro wh pins s σ H Q I h;refine isTrue_and (thn (ha pins s σ H Q I h) fun c s1 e=>?_);cases c with
 |true=>exact isTrue_and_nil e
 |false=>exact e
theorem eZ(ha:PT X a tA):PW X (.BoolOp .Or [a] pos) tA:=by
 intro wh pins s σ H Q I h;refine isTrue_or (thn (ha pins s σ H Q I h) fun c s1 e=>?_);cases c with
 |false=>exact isTrue_or_nil e
 |true=>exact e
theorem fq(ha:PT X a tA)(hb:PW X (.BoolOp .And (b::rest) pos) tB'):PW X (.BoolOp .And (a::b::rest) pos) (tAnd tA tB'):=by
 intro wh pins s σ H Q I h;refine isTrue_and (thn (ha pins s σ H _ I h) fun c s1 hq3=>?_);obtain⟨H1,I1,q1⟩:=hq3;cases c with
 |true=>exact hb wh pins s1 σ H1 Q I1 q1
 |false=>exact⟨H1,I1,q1⟩
theorem ik(ha:PT X a tA)(hb:PW X (.BoolOp .Or (b::rest) pos) tB'):PW X (.BoolOp .Or (a::b::rest) pos) (tOr tA tB'):=by
 intro wh pins s σ H Q I h;refine isTrue_or (thn (ha pins s σ H _ I h) fun c s1 hq4=>?_);obtain⟨H1,I1,q1⟩:=hq4;cases c with
 |true=>exact⟨H1,I1,q1⟩
 |false=>exact hb wh pins s1 σ H1 Q I1 q1
theorem cg(ha:PT X a tA):PT X (.UnaryOp .Not a pos) (tNot tA):=by
 intro pins s σ H Q I h;exact isTrue_not (ha pins s σ H (fun c H1=>Q (!c) H1) I h)
def uE (ta tb:TE):TE:=fun σ H Q=>ta σ H fun x H1=>∃c,x=.bl c/\if c=true then tb σ H1 Q else Q (.bl false) H1
def tU (ta:TE):TE:=fun σ H Q=>ta σ H fun x H1=>∃c,x=.bl c/\Q (.bl (!c)) H1
theorem ff{op}{t:TE}(h:PE X a t):PE X (.BoolOp op [a] pos) t:=fun pins s σ H Q I hw=>BoolOp_one (h pins s σ H Q I hw)
theorem dS(ha:PE X a ta)(hb:PE X (.BoolOp .And (b::rest) pos) tb):PE X (.BoolOp .And (a::b::rest) pos) (uE ta tb):=by
 intro pins s σ H Q I h;refine BoolOp_and (thn (ha pins s σ H _ I h) fun v s1 hq5=>?_);obtain⟨x,H1,I1,r1,q1⟩:=hq5;obtain⟨c,rfl,q1⟩:=q1;cases r1;refine wpAny_truthy_bool ?_;cases c with
 |true=>exact hb pins s1 σ H1 Q I1 q1
 |false=>exact⟨.bl false,H1,I1,rfl,q1⟩
theorem pP(ha:PE X a ta):PE X (.UnaryOp .Not a pos) (tU ta):=by
 intro pins s σ H Q I h;refine UnaryOp_ (thn (ha pins s σ H _ I h) fun v s1 hq6=>?_);obtain⟨x,H1,I1,r1,q1⟩:=hq6;obtain⟨c,rfl,q1⟩:=q1;cases r1;exact not_of (wpAny_truthy_bool ⟨.bl (!c),H1,I1,rfl,q1⟩)
def tIf (t:TT)(ta tb:TE):TE:=fun σ H Q=>t σ H fun c H1=>if c=true then ta σ H1 Q else tb σ H1 Q
theorem oq{c:Expr}(hc:PT X c tA)(ha:PE X a ta)(hb:PE X b tb):PE X (.IfExp c a b pos) (tIf tA ta tb):=by
 intro pins s σ H Q I h;refine wpAny_IfExp (thn (hc pins s σ H _ I h) fun d s1 hq7=>?_);obtain⟨H1,I1,q1⟩:=hq7;cases d with
 |true=>exact ha pins s1 σ H1 Q I1 q1
 |false=>exact hb pins s1 σ H1 Q I1 q1
end
def SqL (K:W.Frag)(H:Hp)(a:Addr)(xs:List V):Prop:=
 Rd H a (.lst xs) \/
  ∃(o:Obj)(its:Array Value)(n:Nat),K.lookup a=some o/\o.cls=.type "list"/\o.dict=none/\o.data=.seq its n/\its.size<=sizeLine/\Vals xs its.toList
def SqT (K:W.Frag)(H:Hp)(a:Addr)(xs:List V):Prop:=
 Rd H a (.tup xs) \/
  ∃(o:Obj)(its:Array Value)(n:Nat),K.lookup a=some o/\o.cls=.type "tuple"/\o.data=.seq its n/\its.size<=sizeLine/\Vals xs its.toList
def absV:Value->Option V
 |.none=>some .non
 |.bool b=>some (.bl b)
 |.int i _=>some (.int i)
 |.str x _=>some (.str x)
 |.bytes b _=>some (.byt b)
 |.float b _=>some (.flt b)
 |.ref a=>some (.ref a)
 |.type n=>some (.ty n)
 |_=>none
theorem RelV.abs{x:V}{u:Value}(r:RelV x u):absV u=some x:=by
 cases x with
 |non=>cases r;rfl
 |bl _=>cases r;rfl
 |int _=>obtain⟨t,rfl⟩:=r;rfl
 |str _=>obtain⟨t,rfl⟩:=r;rfl
 |byt _=>obtain⟨t,rfl⟩:=r;rfl
 |flt _=>obtain⟨t,rfl⟩:=r;rfl
 |ref _=>cases r;rfl
 |ty _=>cases r;rfl
theorem RelV.inj{x y:V}{u:Value}(r:RelV x u)(q:RelV y u):x=y:=Dq (r.abs.symm.trans q.abs)
theorem Vals.inj:∀{xs ys:List V}{us:List Value},Vals xs us->Vals ys us->xs=ys
 |_,_,_,.nil,.nil=>rfl
 |_,_,_,.cons r t,.cons r' t'=>by rw[r.inj r',Vals.inj t t']
section
variable {X:Cx}{pins:List (Addr×Obj)}{σ:St}{H:Hp}{s:Shared}{a:Addr}{xs ys:List V}
theorem SqL.of{K:W.Frag}(h:H a=some (.lst xs)):SqL K H a xs:=.inl (.inl h)
theorem SqT.of{K:W.Frag}(h:H a=some (.tup xs)):SqT K H a xs:=.inl (.inl h)
theorem Inv.list(I:Inv X pins σ H s)(h:SqL X.K H a xs):∃its:List Value,Vals xs its/\PlainL s.heap a its.toArray/\xs.length<=sizeLine:=by
 rcases h with h|⟨o,its,n,hk,hc,hd,hs,hz,r⟩
 ·obtain⟨z,its,n,r,e⟩:=h.ok I.hok;exact⟨its,r,⟨_,n,e,rfl,rfl,rfl⟩,z⟩
 ·refine⟨its.toList,r,⟨o,n,I.kIn a o hk,hc,hd,by simpa using hs⟩,?_⟩;have e:=r.length;simp only[Ab] at e;omega
theorem Inv.tuple(I:Inv X pins σ H s)(h:SqT X.K H a xs):∃its:List Value,Vals xs its/\IsTup s.heap a its.toArray/\xs.length<=sizeLine:=by
 rcases h with h|⟨o,its,n,hk,hc,hs,hz,r⟩
 ·obtain⟨z,its,r,p⟩:=h.ok I.hok;exact⟨its,r,p,z⟩
 ·refine⟨its.toList,r,⟨o,I.kIn a o hk,hc,n,by simpa using hs⟩,?_⟩;have e:=r.length;simp only[Ab] at e;omega
theorem Inv.GB(I:Inv X pins σ H s)(h:SqL X.K H a xs)(h':SqL X.K H a ys):xs=ys:=by
 obtain⟨its,r,⟨o,n,e,_,_,d⟩,_⟩:=I.list h;obtain⟨its',r',⟨o',n',e',_,_,d'⟩,_⟩:=I.list h';rw[e] at e';cases e';rw[d] at d';injection d' with d1 _;have:its=its':=by simpa using congrArg Array.toList d1
 subst this;exact r.inj r'
theorem Inv.HB(I:Inv X pins σ H s)(h:SqT X.K H a xs)(h':SqT X.K H a ys):xs=ys:=by
 obtain⟨its,r,⟨o,e,_,n,d⟩,_⟩:=I.tuple h;obtain⟨its',r',⟨o',e',_,n',d'⟩,_⟩:=I.tuple h';rw[e] at e';cases e';rw[d] at d';injection d' with d1 _;have:its=its':=by simpa using congrArg Array.toList d1
 subst this;exact r.inj r'
end
abbrev Cx.En(X:Cx)(E:Value->Shared->Prop):Cx:={X with xe:=E}
abbrev Cx.nox(X:Cx):Cx:=X.En fun _ _=>False
theorem Cx.Ok.En{X:Cx}(ok:X.Ok)(E:Value->Shared->Prop):(X.En E).Ok:=
 ⟨ok.mod,ok.kind,ok.glob,ok.blt,ok.above,ok.inj,ok.has,ok.cab,ok.hd,ok.frames,ok.stk,ok.exf,ok.bs,ok.bsz,ok.IE,ok.HM,ok.FV,ok.frf⟩
theorem Cx.Ok.EW{X:Cx}{E:Value->Shared->Prop}(ok:(X.En E).Ok):X.Ok:=
 ⟨ok.mod,ok.kind,ok.glob,ok.blt,ok.above,ok.inj,ok.has,ok.cab,ok.hd,ok.frames,ok.stk,ok.exf,ok.bs,ok.bsz,ok.IE,ok.HM,ok.FV,ok.frf⟩
section
variable {X:Cx}{pins:List (Addr×Obj)}{σ:St}{H:Hp}{s:Shared}{E:Value->Shared->Prop}
theorem Inv.En(I:Inv X pins σ H s)(E:Value->Shared->Prop):Inv (X.En E) pins σ H s:=⟨I.ok.En E,I.os,I.bare,I.base,I.loc,I.cell,I.free,I.Ew,I.pin,I.hok,I.len⟩
theorem Inv.EW(I:Inv (X.En E) pins σ H s):Inv X pins σ H s:=⟨I.ok.EW,I.os,I.bare,I.base,I.loc,I.cell,I.free,I.Ew,I.pin,I.hok,I.len⟩
theorem SP.EW{D:Ends}{f:Flow}{s':Shared}(h:SP (X.En E) pins D f s'):SP X pins D f s':=by
 cases f with
 |next=>obtain⟨σ',H',I,q⟩:=h;exact⟨σ',H',I.EW,q⟩
 |brk=>obtain⟨σ',H',I,q⟩:=h;exact⟨σ',H',I.EW,q⟩
 |cont=>obtain⟨σ',H',I,q⟩:=h;exact⟨σ',H',I.EW,q⟩
 |ret u=>obtain⟨v,σ',H',I,r,q⟩:=h;exact⟨v,σ',H',I.EW,r,q⟩
theorem PSs.nox{st:List Stmt}{t:TS}(h:PSs X.nox st t):PSs X st t:=fun pins s σ H D I hw=>
 Dl (h pins s σ H D (I.En _) hw) (fun _ _ q=>q.EW) fun _ _ z=>False.elim z
end
section
variable {X:Cx}{st:Stmt}{rest:List Stmt}{t u:TS}{e:Expr}{te:TE}{pos:Pos}
def Kh:TS:=fun D σ H=>D.nx σ H
def tS (t u:TS):TS:=fun D σ H=>t {D with nx:=u D} σ H
theorem DX:PSs X [] Kh:=fun _ _ σ H _ I h=>wpAny_execs_nil ⟨σ,H,I,h⟩
theorem ae(h1:PS X st t)(h2:PSs X rest u):PSs X (st::rest) (tS t u):=by
 intro pins s σ H D I h;refine wpAny_execs_cons (thn (h1 pins s σ H {D with nx:=u D} I h) fun f s1 q=>?_);cases f with
 |next=>
  obtain⟨σ',H',I',q⟩:=q;exact h2 pins s1 σ' H' D I' q
 |ret v=>exact q
 |brk=>exact q
 |cont=>exact q
theorem ah(h1:PS X st t):PSs X [st] t:=by
 intro pins s σ H D I h;refine wpAny_execs_cons (thn (h1 pins s σ H D I h) fun f s1 q=>?_);cases f with
 |next=>exact wpAny_execs_nil q
 |ret v=>exact q
 |brk=>exact q
 |cont=>exact q
theorem Inv.quiet{pins:List (Addr×Obj)}{σ:St}{H:Hp}{s:Shared}(I:Inv X pins σ H s):interactive X.env=false:=by simp[interactive,I.ok.kind]
def uw (te:TE):TS:=fun D σ H=>te σ H fun _ H1=>D.nx σ H1
theorem bH(he:PE X e te)(hs:swapsWith e none pos.line X.env=pure false:=by rfl):PS X (.Expr e pos) (uw te):=by
 intro pins s σ H D I h;refine wpAny_Expr_any (thn (he pins s σ H _ I h) fun v s1 hq8=>?_) I.quiet hs;obtain⟨x,H1,I1,r1,q1⟩:=hq8;exact⟨σ,H1,I1,q1⟩
def uP (te:TE):TS:=fun D σ H=>te σ H D.rt
theorem ay(he:PE X e te):PS X (.Return (some e) pos) (uP te):=by
 intro pins s σ H D I h;refine wpAny_Return_some (thn (he pins s σ H _ I h) fun v s1 hq9=>?_);obtain⟨x,H1,I1,r1,q1⟩:=hq9;exact⟨x,σ,H1,I1,r1,q1⟩
def tIfS (c:TT)(t u:TS):TS:=fun D σ H=>c σ H fun b H1=>if b=true then t D σ H1 else u D σ H1
theorem bp{c:Expr}{a b:List Stmt}{tc:TT}(hc:PT X c tc)(ha:PSs X a t)(hb:PSs X b u):PS X (.If c a b pos) (tIfS tc t u):=by
 intro pins s σ H D I h;refine wpAny_If (thn (hc pins s σ H _ I h) fun d s1 hq10=>?_);obtain⟨H1,I1,q1⟩:=hq10;cases d with
 |true=>exact ha pins s1 σ H1 D I1 q1
 |false=>exact hb pins s1 σ H1 D I1 q1
def JS:TS:=fun _ _ _=>False
theorem EZ:PS X st JS:=fun _ _ _ _ _ _ h=>h.elim
end
abbrev TG:=V->St->Hp->(St->Hp->Prop)->Prop
abbrev TGs:=List V->St->Hp->(St->Hp->Prop)->Prop
def PG (X:Cx)(target:Expr)(t:TG):Prop:=
 ∀(pins:List (Addr×Obj))(s:Shared)(σ:St)(H:Hp)(v:V)(u:Value)(Q:St->Hp->Prop),Inv X pins σ H s->RelV v u->t v σ H Q ->
  wpAny (model X.prog X.w) X.A (assign target X.env u) (fun _ s'=>∃σ' H',Inv X pins σ' H' s'/\Q σ' H') X.xe s
def PGs (X:Cx)(ts:List Expr)(t:TGs):Prop:=
 ∀(pins:List (Addr×Obj))(s:Shared)(σ:St)(H:Hp)(vs:List V)(us:List Value)(Q:St->Hp->Prop),Inv X pins σ H s->Vals vs us->t vs σ H Q ->
  wpAny (model X.prog X.w) X.A (assignInOrder ((assignEach ts X.env).map (·.2)) us) (fun _ s'=>∃σ' H',Inv X pins σ' H' s'/\Q σ' H') X.xe s
abbrev Kv:=V->V->V->Hp->(Hp->Prop)->Prop
def uX (X:Cx)(t:Kv):Prop:=
 ∀(pins:List (Addr×Obj))(s:Shared)(σ:St)(H:Hp)(o i v:V)(ov iv u:Value)(Q:Hp->Prop),Inv X pins σ H s->RelV o ov->RelV i iv->RelV v u->t o i v H Q ->
  wpAny (model X.prog X.w) X.A (setItem ov iv u) (fun _ s'=>∃H',Inv X pins σ H' s'/\Q H') X.xe s
section
variable {X:Cx}{pos:Pos}
def gr (i:Nat):TG:=fun v σ H Q=>Q (σ.set i (some v)) H
theorem ao{i:Nat}{x:Str}(hN:X.N.Nodup)(hi:X.N[i]?=some x)(hx:Loc X.env.scope x)(hf:X.fn x=true\/X.env.scope.names.lookup x=some .local:=by first|exact .inl rfl|exact .inr rfl|assumption):PG X (.Name x pos) (gr i):=by
 intro pins s σ H v u Q I r h;exact wpAny_assign_Name (dg I hN hi hx r (fun s' I'=>⟨_,H,I',h⟩) hf)
def gNil:TGs:=fun vs σ H Q=>vs=[]/\Q σ H
def tG (t:TG)(u:TGs):TGs:=fun vs σ H Q=>∃v r,vs=v::r/\t v σ H fun σ' H'=>u r σ' H' Q
theorem ED:PGs X [] gNil:=by
 intro pins s σ H vs us Q I r h;obtain⟨e,h⟩:=h;subst e;cases r;exact assignInOrder_nil ⟨σ,H,I,h⟩
theorem aG{e:Expr}{es:List Expr}{t:TG}{u:TGs}(h1:PG X e t)(h2:PGs X es u)
  (hs:(assignEach (e::es) X.env).map (·.2)=assign e X.env::(assignEach es X.env).map (·.2):=by rfl):PGs X (e::es) (tG t u):=by
 intro pins s σ H vs us Q I r h;obtain⟨v,vr,e1,h⟩:=h;subst e1;cases r with
 |cons r rr=>
  rw[hs];refine assignInOrder_cons (thn (h1 pins s σ H _ _ _ I r h) fun _ s1 hq11=>?_);obtain⟨σ1,H1,I1,q1⟩:=hq11;exact h2 pins s1 σ1 H1 _ _ Q I1 rr q1
def uU (K:W.Frag)(n:Nat)(t:TGs):TG:=fun v σ H Q=>∃a xs,v=.ref a/\SqT K H a xs/\xs.length=n/\t xs σ H Q
theorem iw{es:List Expr}{k:Nat}{t:TGs}{n:Nat}(hc:X.calm=true)(h:PGs X es t)
  (hn:(assignEach es X.env).length=n:=by rfl)(hst:(assignEach es X.env).findIdx? (·.1)=none:=by rfl):PG X (.Tuple es k pos) (uU X.K n t):=by
 intro pins s σ H v u Q I r hw;obtain⟨a,xs,e1,hq,hl,hw⟩:=hw;subst e1;cases r;obtain⟨its,rv,ht,hz⟩:=I.tuple hq;refine assign_Tuple_tuple (I.ok.hd hc) ht (by simp[hn,<- hl,rv.length]) hst fun h' hx=>?_;have I1:Inv X pins σ H {s with heap:=h'}:=I.kept (t':=s.toks) fun b o e=>hx b o (Ac (Dp e)) e;exact h pins _ σ H xs _ Q I1 (by simpa using rv) hw
def gSub (to ti:TE)(t:Kv):TG:=fun v σ H Q=>to σ H fun o H1=>ti σ H1 fun i H2=>t o i v H2 fun H3=>Q σ H3
theorem pT{o i:Expr}{to ti:TE}{t:Kv}(ho:PE X o to)(hi:PE X i ti)(hs:uX X t)
  (ha:∀v,assign (.Subscript o i pos) X.env v=(do
   let ov <- holding [v] (eval o X.env)
   let iv <- holding [v,ov] (eval i X.env)
   standAt pos
   holding [v,ov,iv] (setItem ov iv v)
   release [v,ov,iv] []):=by intro _; rfl):PG X (.Subscript o i pos) (gSub to ti t):=by
 intro pins s σ H v u Q I r h;rw[ha];refine Dd (Dm (thn (ho pins s σ H _ I h) fun ov s1 hq12=>?_));obtain⟨x,H1,I1,r1,q1⟩:=hq12;refine Dd (Dm (thn (hi pins s1 σ H1 _ I1 q1) fun iv s2 hq13=>?_));obtain⟨y,H2,I2,r2,q2⟩:=hq13;refine Dd (wpAny_standAt (Dd (Dm (thn (hs pins s2 σ H2 x y v ov iv u _ I2 r1 r2 r q2) fun _ s3 hq14=>?_))));obtain⟨H3,I3,q3⟩:=hq14;exact wpAny_release ⟨σ,H3,I3,q3⟩
def ug (te:TE)(g:TG):TS:=fun D σ H=>te σ H fun x H1=>g x σ H1 D.nx
theorem fu{tg e:Expr}{te:TE}{g:TG}(he:PE X e te)(hg:PG X tg g)(hs:swapsWithSole [tg] e pos.line X.env=pure false:=by rfl)(hw:swappedStores [tg] e X.env=pure none:=by rfl)
  (h1:(assignEach [tg] X.env).map (·.2)=[assign tg X.env]:=by rfl):PS X (.Assign [tg] e pos) (ug te g):=by
 intro pins s σ H D I h;refine wpAny_Assign_stores (thn (he pins s σ H _ I h) fun v s1 hq15=>?_) hs hw;obtain⟨x,H1,I1,r1,q1⟩:=hq15;rw[h1];exact thn (hg pins s1 σ H1 x v _ I1 r1 q1) fun _ s2 q=>q
theorem aq{i:Nat}{x:Str}{e:Expr}{te:TE}{pos':Pos}(hN:X.N.Nodup)(hi:X.N[i]?=some x)(hx:Loc X.env.scope x)(he:PE X e te)(hs:swapsWith e (some (.Name x pos')) pos.line X.env=pure false:=by rfl)(hf:X.fn x=true\/X.env.scope.names.lookup x=some .local:=by first|exact .inl rfl|exact .inr rfl|assumption) :
  PS X (.Assign [.Name x pos'] e pos) (ug te (gr i)):=by
 intro pins s σ H D I h;refine wpAny_Assign_Name (thn (he pins s σ H _ I h) fun v s1 hq16=>?_) hs;obtain⟨y,H1,I1,r1,q1⟩:=hq16;exact dg I1 hN hi hx r1 (fun s2 I2=>⟨_,H1,I2,q1⟩) hf
def tPar (i j:Nat)(ta:TA):TS:=fun D σ H=>ta σ H fun vs H1=>∃v w,vs=[v,w]/\D.nx ((σ.set i (some v)).set j (some w)) H1
theorem pE{i j:Nat}{x y:Str}{a b:Expr}{ta:TA}{px py pt:Pos}{kt k2 pt2}(hc:X.calm=true)(hN:X.N.Nodup)(hi:X.N[i]?=some x)(hj:X.N[j]?=some y)(hij:i≠j)
  (hx:X.env.scope.names.lookup x=some .local)(hy:X.env.scope.names.lookup y=some .local)(ha:PA X [a,b] ta)
  (hw:swappedStores [.Tuple [.Name x px,.Name y py] kt pt] (.Tuple [a,b] k2 pt2) X.env=pure (some [x,y]))
  (hs:swapsWithSole [.Tuple [.Name x px,.Name y py] kt pt] (.Tuple [a,b] k2 pt2) pos.line X.env=pure false:=by rfl) :
  PS X (.Assign [.Tuple [.Name x px,.Name y py] kt pt] (.Tuple [a,b] k2 pt2) pos) (tPar i j ta):=by
 intro pins s σ H D I h;rw[exec_Assign_arm];refine Dd (wpAny_standAt ?_);rw[hs];refine Dd (De ?_);rw[Dh (by decide)];refine Dd (Tuple_ (thn (ha _ pins s σ H _ I h) fun us s1 hq17=>?_));obtain⟨vs,H1,I1,r1,q1⟩:=hq17;obtain⟨v,w,e1,q1⟩:=q1;subst e1;obtain⟨u1,u2,rfl,rv,rw'⟩:∃u1 u2,us=[u1,u2]/\RelV v u1/\RelV w u2:=by
  cases r1 with
  |cons p q=>
   cases q with
   |cons p' q'=>
    cases q';exact⟨_,_,rfl,p,p'⟩
 refine wpAny_newObj_type ?_ (by show 2<=sizeLine;decide);have I2:Inv X pins σ H1 {s1 with heap:=s1.heap.push {cls:=.type "tuple",data:=.seq [u1,u2].toArray}}:=I1.kept (t':=s1.toks) fun b o e=>DE _ e;rw[hw];refine Dd (De ?_);show wpAny (model X.prog X.w) X.A (do rule "assign.swapped-stores";let items <- unpackItems (.ref s1.heap.objs.size) 2 none;assignInOrder [fun v=>bindName X.env y v,fun v=>bindName X.env x v] items.reverse;pure Flow.next) _ _ _;refine Dd (DN (Dd (unpackItems_tuple (items:=#[u1,u2]) (I.ok.hd hc) (IsTup.new s1.heap _) fun h' hx'=>?_)));have I3:=I2.kept (h':=h') (t':=s1.toks) fun b o e=>hx' b o (Ac (Dp e)) e;show wpAny _ _ (assignInOrder [fun v=>bindName X.env y v,fun v=>bindName X.env x v] [u2,u1] >>= fun _=>pure Flow.next) _ _ _;refine Dd (assignInOrder_cons (wpAny_bindName (dg I3 hN hj (.inl hy) rw' (fun s2 I4=>?_) (.inr hy))));refine assignInOrder_cons (wpAny_bindName (dg I4 hN hi (.inl hx) rv (fun s3 I5=>assignInOrder_nil (De ?_)) (.inr hx)));rw[List.set_comm _ _ (DC hij)] at I5;exact⟨_,H1,I5,q1⟩
def sN (c:TT)(tb:TS):TS:=fun D σ H=>∃W:Nat->St->Hp->Prop,(∃m,W m σ H)/\∀m σ H,W m σ H ->
 c σ H fun b H1=>if b=true then ∃N:St->Hp->Prop,(∀σ' H',N σ' H'->∃m',m'<m/\W m' σ' H')/\tb {D with nx:=N,ct:=N,bk:=D.nx} σ H1 else D.nx σ H1
theorem jr{c:Expr}{body:List Stmt}{tc:TT}{tb:TS}(hp:PassesOwn (model X.prog X.w) X.A X.env X.xe)(hc:PT X c tc)(hb:PSs X body tb):PS X (.While c body [] pos) (sN tc tb):=by
 intro pins s σ H D I h;obtain⟨W,⟨m0,w0⟩,turn⟩:=h;refine wpAny_While (codeAny_whileLoop (fun n s'=>∃σ' H',Inv X pins σ' H' s'/\W n σ' H') ?_ m0 ⟨σ,H,I,w0⟩);rintro n s1 ⟨σ1,H1,I1,w1⟩;refine wpAny_passesOwn hp (thn (hc pins s1 σ1 H1 _ I1 (turn n σ1 H1 w1)) fun b s2 hq18=>?_);obtain⟨H2,I2,q2⟩:=hq18;cases b with
 |true=>
  obtain⟨N,hN,q2⟩:=q2;rw[Di rfl];refine wpAny_passesOwn hp (thn (hb pins s2 σ1 H2 _ I2 q2) fun f s3 q3=>?_);cases f with
  |next=>
   obtain⟨σ3,H3,I3,n3⟩:=q3;obtain⟨m',hm,w3⟩:=hN σ3 H3 n3;exact⟨m',hm,σ3,H3,I3,w3⟩
  |cont=>
   obtain⟨σ3,H3,I3,n3⟩:=q3;obtain⟨m',hm,w3⟩:=hN σ3 H3 n3;exact⟨m',hm,σ3,H3,I3,w3⟩
  |brk=>exact q3
  |ret v=>exact q3
 |false=>
  rw[Dh AB];exact wpAny_execs_nil ⟨σ1,H2,I2,q2⟩
end
structure It where
 go:Nat->Hp->Prop
 yld:Nat->Hp->V->Hp->Prop
 stop:Nat->Hp->Prop
def Er (X:Cx)(pins:List (Addr×Obj))(H:Hp)(b:Addr):Prop:=
 H b=none/\b≠X.env.locals/\b∉X.fs/\(b∈X.ex\/X.s₀.heap.get? b=none)/\(∀x c,X.env.cells.lookup x=some c->c≠b)/\∀p∈X.pn++pins,p.1≠b
theorem Inv.HX{X:Cx}{pins:List (Addr×Obj)}{σ:St}{H H':Hp}{s:Shared}{b:Addr}(I:Inv X pins σ H s)(hb:s.heap.objs.size<=b)(hn:H' b=none):Er X pins H' b:=by
 refine⟨hn,BK (Ak I.lt hb),I.nofs hb,.inr (Heap.get?_none_of_le (Ap I.sz hb)),fun x c e z=>?_,fun p hp z=>?_⟩
 ·obtain⟨v,q⟩:=I.cell x c e;exact absurd (Ak q.lt (by rw[z];exact hb)) (AD _)
 ·exact absurd (Ak (Dp (I.pin p hp).1) (by rw[z];exact hb)) (AD _)
structure Turn(P:Program)(w:World)(K:W.Frag)(tg:Expr)(J:It)(fp:List Addr)(it:Addr)(tn:Nat->Heap->Prop):Prop where
 mem:it∈fp
 obj:∀i h,tn i h->∀b∈fp,∃o,h.get? b=some o/\∀v,o.data≠.cell v
 keep:∀i h h',tn i h->(∀b∈fp,∀o,h.get? b=some o->h'.get? b=some o)->tn i h'
 item:∀(X:Cx),X.prog=P->X.w=w->X.K=K->X.calm=true->∀(i:Nat)(pins:List (Addr×Obj))(s:Shared)(σ:St)(H:Hp)(E:Value->Shared->Prop),Inv X pins σ H s->(∀b∈fp,Er X pins H b)->tn i s.heap->J.go i H ->
  wpAny (model P w) X.A (pyNext (.ref it)) (fun r s1=>∃u,r=some u /\
   wpAny (model P w) X.A (letOwnedTupleGo tg (.ref it) u) (fun _ s2=>∃x H',Inv X pins σ H' s2/\RelV x u/\J.yld i H x H'/\tn (i+1) s2.heap/\∀b∈fp,H' b=none) E s1) E s
 done:∀(X:Cx),X.prog=P->X.w=w->X.K=K->X.calm=true->∀(i:Nat)(pins:List (Addr×Obj))(s:Shared)(σ:St)(H:Hp)(E:Value->Shared->Prop),Inv X pins σ H s->(∀b∈fp,Er X pins H b)->tn i s.heap->J.stop i H ->
  wpAny (model P w) X.A (pyNext (.ref it)) (fun r s1=>r=none/\Inv X pins σ H s1) E s
 self:∀(A:Around)(i:Nat)(s:Shared)(Q:Value->Shared->Prop)(E:Value->Shared->Prop),tn i s.heap->Q (.ref it) s->wpAny (model P w) A (pyIter (.ref it)) Q E s
abbrev TI:=St->Hp->(It->Hp->Prop)->Prop
def PIE (X:Cx)(pins:List (Addr×Obj))(σ:St)(tg:Expr)(R:It->Hp->Prop)(itv:Value)(s2:Shared):Prop:=
 ∃(it:Addr)(fp:List Addr)(tn:Nat->Heap->Prop)(J:It)(H':Hp),itv=.ref it/\Inv X pins σ H' s2/\Turn X.prog X.w X.K tg J fp it tn/\tn 0 s2.heap/\(∀b∈fp,Er X pins H' b)/\R J H'
def PI (X:Cx)(tg iter:Expr)(wi:TI):Prop:=
 ∀(pins:List (Addr×Obj))(s:Shared)(σ:St)(H:Hp)(R:It->Hp->Prop),Inv X pins σ H s->wi σ H R ->
  wpAny (model X.prog X.w) X.A (eval iter X.env) (fun v s1=>wpAny (model X.prog X.w) X.A (pyIter v) (PIE X pins σ tg R) X.xe s1) X.xe s
theorem jV{M:Model}{A:Around}{E:Value->Shared->Prop}{s:Shared}{tg:Expr}{it:Addr}{u:Value}{o:Obj}{n:String}{vs:Array Value}{Q:Unit->Shared->Prop}(ho:s.heap.get? it=some o)(hc:o.cls=.type n)(hd:o.data=.fields vs)
    (hn:["enumerate","zip","dict_itemiterator","dict_reverseitemiterator","odict_iterator","itertools.zip_longest","itertools.pairwise"].contains n=false)(hQ:Q () s):wpAny M A (letOwnedTupleGo tg (.ref it) u) Q E s:=by
  unfold letOwnedTupleGo;cases tg<;>first
    |exact De hQ
    | (cases u <;> first
        |exact De hQ
        | (refine Dd (wpAny_load ho ?_)
           rw[hc,hd];show wpAny M A (if (["enumerate","zip","dict_itemiterator","dict_reverseitemiterator","odict_iterator","itertools.zip_longest","itertools.pairwise"].contains n&&vs[0]?==some (rawInt _))=true then _ else _) Q E s;rw[Dh (by intro h;rw[hn,Bool.false_and] at h;cases h)]
           exact De hQ))
def Itl (K:W.Frag)(a:Addr):It:=
 ⟨fun i H=>∃xs x,SqL K H a xs/\xs[i]?=some x,fun i H x H'=>H'=H/\∀xs,SqL K H a xs->xs[i]?=some x,fun i H=>∃xs,SqL K H a xs/\xs.length<=i⟩
def Itt (K:W.Frag)(a:Addr):It:=
 ⟨fun i H=>∃xs x,SqT K H a xs/\xs[i]?=some x,fun i H x H'=>H'=H/\∀xs,SqT K H a xs->xs[i]?=some x,fun i H=>∃xs,SqT K H a xs/\xs.length<=i⟩
def Itr (lo:Int)(n:Nat):It:=⟨fun i _=>i<n,fun i H x H'=>H'=H/\x=.int (lo+i),fun i _=>n<=i⟩
theorem kL{P:Program}{w:World}{K:W.Frag}{tg:Expr}(a it:Addr):Turn P w K tg (Itl K a) [it] it (fun i h=>h.IsListIter it a i) where
 mem:=by simp
 obj:=fun i h st b hb=>by
  have e:b=it:=by simpa using hb
  subst e;obtain⟨o,e,c,d⟩:=st;exact⟨o,e,fun v z=>by rw[d] at z;cases z⟩
 keep:=fun i h h' st k=>st.at fun o e=>k it (by simp) o e
 item:=by
  intro X hP hw hK hc i pins s σ H E I hf st hg;subst hP hw hK;obtain⟨xs,x,hq,hx⟩:=hg;obtain⟨its,rv,p,hz⟩:=I.list hq;obtain⟨u,hu,ru⟩:=rv.get hx;obtain⟨f0,f1,f2,f3,f4,f5⟩:=hf it (by simp);refine wpAny_pyNext_list_item st p.isList (x:=u) (by simpa using hu) fun h' st' sb=>?_;have I1:Inv X pins σ H {s with heap:=h'}:=I.turned (t':=s.toks) (fun b o hb e=>(sb.2 b hb).trans e) f0 f1 f3 f4 f5;obtain⟨o,e,c,d⟩:=id st';exact⟨u,rfl,jV (s:={s with heap:=h'}) e c d (by decide) ⟨x,H,I1,ru,⟨rfl,fun ys hy=>by rw[I.GB hy hq];exact hx⟩,st',fun b hb=>(hf b hb).1⟩⟩
 done:=by
  intro X hP hw hK hc i pins s σ H E I hf st hg;subst hP hw hK;obtain⟨xs,hq,hx⟩:=hg;obtain⟨its,rv,p,hz⟩:=I.list hq;obtain⟨f0,f1,f2,f3,f4,f5⟩:=hf it (by simp);have hl:=rv.length;exact wpAny_pyNext_list_end (I.ok.hd hc) st p.isList (by simp;omega) fun h' eb=>⟨rfl,I.turned (t':=s.toks) (fun b o hb e=>eb b o hb e) f0 f1 f3 f4 f5⟩
 self:=fun _ _ _ _ _ st h=>wpAny_pyIter_listiter st h
theorem kd{P:Program}{w:World}{K:W.Frag}{tg:Expr}(a it:Addr):Turn P w K tg (Itt K a) [it] it (fun i h=>h.IsTupleIter it a i) where
 mem:=by simp
 obj:=fun i h st b hb=>by
  have e:b=it:=by simpa using hb
  subst e;obtain⟨o,e,c,d⟩:=st;exact⟨o,e,fun v z=>by rw[d] at z;cases z⟩
 keep:=fun i h h' st k=>st.at fun o e=>k it (by simp) o e
 item:=by
  intro X hP hw hK hc i pins s σ H E I hf st hg;subst hP hw hK;obtain⟨xs,x,hq,hx⟩:=hg;obtain⟨its,rv,p,hz⟩:=I.tuple hq;obtain⟨u,hu,ru⟩:=rv.get hx;obtain⟨f0,f1,f2,f3,f4,f5⟩:=hf it (by simp);refine wpAny_pyNext_tuple_item st (show s.heap.IsTuple a its.toArray from p) (x:=u) (by simpa using hu) fun h' st' sb=>?_;have I1:Inv X pins σ H {s with heap:=h'}:=I.turned (t':=s.toks) (fun b o hb e=>(sb.2 b hb).trans e) f0 f1 f3 f4 f5;obtain⟨o,e,c,d⟩:=id st';exact⟨u,rfl,jV (s:={s with heap:=h'}) e c d (by decide) ⟨x,H,I1,ru,⟨rfl,fun ys hy=>by rw[I.HB hy hq];exact hx⟩,st',fun b hb=>(hf b hb).1⟩⟩
 done:=by
  intro X hP hw hK hc i pins s σ H E I hf st hg;subst hP hw hK;obtain⟨xs,hq,hx⟩:=hg;obtain⟨its,rv,p,hz⟩:=I.tuple hq;obtain⟨f0,f1,f2,f3,f4,f5⟩:=hf it (by simp);have hl:=rv.length;exact wpAny_pyNext_tuple_end (I.ok.hd hc) st (show s.heap.IsTuple a its.toArray from p) (by simp;omega) fun h' eb=>⟨rfl,I.turned (t':=s.toks) (fun b o hb e=>eb b o hb e) f0 f1 f3 f4 f5⟩
 self:=fun _ _ _ _ _ st h=>wpAny_pyIter_tupleiter st h
theorem jQ{P:Program}{w:World}{K:PySem.W.Frag}{tg:Expr}(it:Addr)(lo:Int)(n:Nat):Turn P w K tg (Itr lo n) [it] it (fun i h=>IsRangeIter h it (lo+(i:Nat)*1) ((n:Int)-(i:Nat)) 1) where
 mem:=by simp
 obj:=fun i h st b hb=>by
  have e:b=it:=by simpa using hb
  subst e
  exact⟨_,st,fun v z=>by
   have z':Data.fields _=Data.cell v:=z
   cases z'⟩
 keep:=fun i h h' st k=>k it (by simp) _ st
 item:=by
  intro X hP hw hK hc i pins s σ H E I hf st hg;subst hP hw hK;obtain⟨f0,f1,f2,f3,f4,f5⟩:=hf it (by simp);have W:=Walks.range (prog:=X.prog) (w:=X.w) (I.ok.hd hc) it lo 1 n;refine W.item i s _ _ hg st fun v h' tk hv st' kk=>?_;obtain⟨t,rfl⟩:=hv;have I1:Inv X pins σ H {s with heap:=h',toks:=tk}:=I.turned (fun b o hb e=>kk b o (by simpa using hb) e) f0 f1 f3 f4 f5;refine⟨_,rfl,jV (s:={s with heap:=h',toks:=tk}) (n:="range_iterator") st' rfl rfl (by decide) ⟨.int (lo+i),H,I1,⟨t,?_⟩,⟨rfl,rfl⟩,st',fun b hb=>(hf b hb).1⟩⟩;rw[Int.mul_one]
 done:=by
  intro X hP hw hK hc i pins s σ H E I hf st hg;subst hP hw hK;obtain⟨f0,f1,f2,f3,f4,f5⟩:=hf it (by simp);exact wpAny_pyNext_range_end (I.ok.hd hc) st (by have:n<=i:=hg;omega) fun h' eb=>⟨rfl,I.turned (t':=s.toks) (fun b o hb e=>eb b o hb e) f0 f1 f3 f4 f5⟩
 self:=fun _ _ _ _ _ st h=>wpAny_pyIter_rangeiter st h
section
variable {X:Cx}{tg:Expr}
def pZ (K:W.Frag)(tl:TE):TI:=fun σ H R=>tl σ H fun x H1=>∃a,x=.ref a/\(∃xs,SqL K H1 a xs)/\R (Itl K a) H1
def iTup (K:W.Frag)(tl:TE):TI:=fun σ H R=>tl σ H fun x H1=>∃a,x=.ref a/\(∃xs,SqT K H1 a xs)/\R (Itt K a) H1
theorem aV{l:Expr}{tl:TE}(hl:PE X l tl):PI X tg l (pZ X.K tl):=by
 intro pins s σ H R I h;refine thn (hl pins s σ H _ I h) fun v s1 hq19=>?_;obtain⟨x,H1,I1,r1,q1⟩:=hq19;obtain⟨a,e,⟨xs,hq⟩,q⟩:=q1;subst e;cases r1;obtain⟨its,rv,p,hz⟩:=I1.list hq;refine wpAny_pyIter_list p.isList ?_;refine⟨s1.heap.objs.size,[s1.heap.objs.size],_,_,H1,rfl,I1.kept (t':=s1.toks) fun b o e=>DE _ e,kL a _,⟨_,DG _ rfl,rfl,rfl⟩,fun b hb=>?_,q⟩;have e:b=s1.heap.objs.size:=by simpa using hb
 subst e;exact I1.HX (zX _) (I1.hok.fresh (zX _))
theorem pL{l:Expr}{tl:TE}(hl:PE X l tl):PI X tg l (iTup X.K tl):=by
 intro pins s σ H R I h;refine thn (hl pins s σ H _ I h) fun v s1 hq20=>?_;obtain⟨x,H1,I1,r1,q1⟩:=hq20;obtain⟨a,e,⟨xs,hq⟩,q⟩:=q1;subst e;cases r1;obtain⟨its,rv,p,hz⟩:=I1.tuple hq;refine wpAny_pyIter_tuple (show s1.heap.IsTuple a its.toArray from p) ?_;refine⟨s1.heap.objs.size,[s1.heap.objs.size],_,_,H1,rfl,I1.kept (t':=s1.toks) fun b o e=>DE _ e,kd a _,⟨_,DG _ rfl,rfl,rfl⟩,fun b hb=>?_,q⟩;have e:b=s1.heap.objs.size:=by simpa using hb
 subst e;exact I1.HX (zX _) (I1.hok.fresh (zX _))
theorem jk{pins:List (Addr×Obj)}{σ:St}{H:Hp}{s:Shared}{R:It->Hp->Prop}{E:Value->Shared->Prop}{lo hi:Int}{t u v:Tok}{tk:Nat}(I:Inv X pins σ H s)(h1:-(2^62)<=lo)(h2:lo<2^62)(h3:-(2^62)<=hi)(h4:hi<2^62)
  (q:R (Itr lo (hi-lo).toNat) H):wpAny (model X.prog X.w) X.A (pyIter (.ref s.heap.objs.size)) (PIE X pins σ tg R) E {s with heap:=s.heap.push {cls:=.type "range",data:=.fields #[.int lo t,.int hi u,.int 1 v]},toks:=tk}:=by
 refine wpAny_pyIter_range (IsRange.new ..) (small_one h1 h2 h3 h4) ?_;have I1:Inv X pins σ H {s with heap:=s.heap.push {cls:=.type "range",data:=.fields #[.int lo t,.int hi u,.int 1 v]},toks:=tk}:=I.kept fun b o e=>DE _ e
 refine⟨(s.heap.push { cls:=.type "range",data:=.fields #[.int lo t,.int hi u,.int 1 v] }).objs.size,[(s.heap.push { cls:=.type "range",data:=.fields #[.int lo t,.int hi u,.int 1 v] }).objs.size],_,_,H,rfl,
  I1.kept (t':=tk) fun b o e=>DE _ e,jQ _ lo (hi-lo).toNat,?_,fun b hb=>?_,q⟩
 ·have e1:lo+((0:Nat):Int)*1=lo:=by simp
  have e2:(((hi-lo).toNat:Nat):Int)-((0:Nat):Int)=Builtin.Range.rangeSize lo hi 1:=by rw[rangeSize_one];split<;>omega
  show IsRangeIter _ _ (lo+((0:Nat):Int)*1) ((((hi-lo).toNat:Nat):Int)-((0:Nat):Int)) 1;rw[e1,e2];exact DG _ rfl
 ·have e:b=(s.heap.push {cls:=.type "range",data:=.fields #[.int lo t,.int hi u,.int 1 v]}).objs.size:=by simpa using hb
  subst e;exact I1.HX (zX _) (I1.hok.fresh (zX _))
def uL (ta:TA):TI:=fun σ H R=>ta σ H fun vs H1=>∃j:Int,vs=[.int j]/\-(2^62)<=j/\j<2^62/\R (Itr 0 j.toNat) H1
def uH (ta:TA):TI:=fun σ H R=>ta σ H fun vs H1=>∃i j:Int,vs=[.int i,.int j]/\(-(2^62)<=i/\i<2^62/\-(2^62)<=j/\j<2^62)/\R (Itr i (j-i).toNat) H1
theorem bU{a:Expr}{ta:TA}{p pos:Pos}(hg:Gl X "range")(hm:X.mg "range"=none)(ha:PA X [a] ta)(hs:starEach [a] X.env=[(false,eval a X.env)]:=by rfl):PI X tg (.Call (.Name "range" p) [a] [] pos) (uL ta):=by
 intro pins s σ H R I h;refine Call_ (cB I hg hm boot_range (PyProof.Rows.callWith_type1 (thn (ha pos pins s σ H _ I h) fun us s1 hq21=>?_) hs rfl));obtain⟨vs,H1,I1,r1,q1⟩:=hq21;obtain⟨j,e,q1,q2,q⟩:=q1;subst e;cases r1 with
 |cons r rr=>
  cases rr;obtain⟨t,rfl⟩:=r;exact call_range_1 (jk I1 (by omega) (by omega) q1 q2 (by simpa using q))
theorem eI{a b:Expr}{ta:TA}{p pos:Pos}(hg:Gl X "range")(hm:X.mg "range"=none)(ha:PA X [a,b] ta)(hs:starEach [a,b] X.env=[(false,eval a X.env),(false,eval b X.env)]:=by rfl)(hs2:starEach [b] X.env=[(false,eval b X.env)]:=by rfl) :
  PI X tg (.Call (.Name "range" p) [a,b] [] pos) (uH ta):=by
 intro pins s σ H R I h;refine Call_ (cB I hg hm boot_range (PyProof.Rows.callWith_type1 (thn (ha pos pins s σ H _ I h) fun us s1 hq22=>?_) (by rw[hs,hs2]) (by rw[hs2];rfl)));obtain⟨vs,H1,I1,r1,q1⟩:=hq22;obtain⟨i,j,e,⟨q1,q2,q3,q4⟩,q⟩:=q1;subst e;cases r1 with
 |cons r rr=>
  cases rr with
  |cons r' rr=>
   cases rr;obtain⟨t,rfl⟩:=r;obtain⟨t',rfl⟩:=r';exact call_range_2 (jk I1 q1 q2 q3 q4 q)
def uZ (wi:TI)(g:TG)(tb:TS):TS:=fun D σ H=>wi σ H fun J H1=>∃W:Nat->Nat->St->Hp->Prop,(∃m,W 0 m σ H1)/\∀i m σ H,W i m σ H ->
 (J.stop i H/\D.nx σ H)\/(J.go i H/\∃N:St->Hp->Prop,(∀σ' H',N σ' H'->∃m',m'<m/\W (i+1) m' σ' H')/\∀x H',J.yld i H x H'->g x σ H' fun σ2 H2=>tb {D with nx:=N,ct:=N,bk:=D.nx} σ2 H2)
def cN (fp:List Addr)(h:Heap):List (Addr×Obj):=fp.filterMap fun b=>(h.get? b).map fun o=>(b,o)
theorem bf{fp:List Addr}{h:Heap}{b:Addr}{o:Obj}(hb:b∈fp)(e:h.get? b=some o):(b,o)∈cN fp h:=AX.mpr ⟨b,hb,by rw[e];rfl⟩
theorem il{fp:List Addr}{h:Heap}{p:Addr×Obj}(hp:p∈cN fp h):p.1∈fp/\h.get? p.1=some p.2:=by
 obtain⟨b,hb,e⟩:=AX.mp hp;cases q:h.get? b with
 |none=>rw[q] at e;cases e
 |some o=>
  rw[q] at e;have e':(b,o)=p:=Dq e;subst e';exact⟨hb,q⟩
theorem Inv.pinned{pins:List (Addr×Obj)}{σ:St}{H:Hp}{s:Shared}{fp:List Addr}(I:Inv X pins σ H s)(hf:∀b∈fp,Er X pins H b)(ho:∀b∈fp,∃o,s.heap.get? b=some o/\∀v,o.data≠.cell v):Inv X (pins++cN fp s.heap) σ H s:=
 I.ES fun p hp=>(Ai.mp hp).elim (fun z=>I.pin p (Ae _ z)) fun z=>by
  obtain⟨hb,e⟩:=il z;obtain⟨f0,f1,f2,_⟩:=hf p.1 hb;obtain⟨o,e',d⟩:=ho p.1 hb;rw[e] at e';cases e';exact⟨e,f0,f1,f2,d⟩
theorem Inv.Ek{pins pl:List (Addr×Obj)}{σ:St}{H:Hp}{s:Shared}(I:Inv X (pins++pl) σ H s):Inv X pins σ H s:=I.ES fun p hp=>I.pin p (Ae _ (Ay _ hp))
theorem bR{iter:Expr}{body:List Stmt}{wi:TI}{g:TG}{tb:TS}{pos:Pos}(hp:PassesOwn (model X.prog X.w) X.A X.env X.xe)(hc:X.calm=true)(hi:PI X tg iter wi)(hg:PG X tg g)(hb:PSs X body tb)
  (hs:∀x,foldedSetIterable iter X.env x=pure x:=by intro _;rfl):PS X (.For tg iter body [] pos) (uZ wi g tb):=by
 intro pins s σ H D I h;refine wpAny_For (thn (hi pins s σ H _ I h) fun v s1 h1=>thn h1 fun itv s2 h2=>?_) hs;obtain⟨it,fp,tn,J,H2,e,I2,T,st2,f2,W,⟨m0,w0⟩,turn⟩:=h2;subst e;have stat:∀{H':Hp},(∀b∈fp,H' b=none)->∀b∈fp,Er X pins H' b:=fun hn b hb=>⟨hn b hb,(f2 b hb).2⟩
 refine codeAny_forLoop_any (fun n s'=>∃i σ' H',Inv X pins σ' H' s'/\tn i s'.heap/\(∀b∈fp,H' b=none)/\W i n σ' H') ?_ m0 ⟨0,σ,H2,I2,st2,fun b hb=>(f2 b hb).1,w0⟩;rintro n s3 ⟨i,σ3,H3,I3,st3,fr3,w3⟩;rcases turn i n σ3 H3 w3 with ⟨stop,qn⟩|⟨go,N,hN,step⟩
 ·refine wpAny_passesOwn hp (thn (T.done X rfl rfl rfl hc i pins s3 σ3 H3 X.xe I3 (stat fr3) st3 stop) fun r s4 hq23=>?_);obtain⟨hr,I4⟩:=hq23;subst hr;exact wpAny_execs_nil ⟨σ3,H3,I4,qn⟩
 ·refine wpAny_passesOwn hp (thn (T.item X rfl rfl rfl hc i pins s3 σ3 H3 X.xe I3 (stat fr3) st3 go) fun r s4 hq24=>?_);obtain⟨u,hr,h4⟩:=hq24;subst hr;refine wpAny_passesOwn hp (thn h4 fun _ s5 hq25=>?_);obtain⟨x,H5,I5,r5,y5,st5,fr5⟩:=hq25;have I5':=I5.pinned (stat fr5) (T.obj _ _ st5);refine wpAny_passesOwn hp (thn (hg _ s5 σ3 H5 x u _ I5' r5 (step x H5 y5)) fun _ s6 hq26=>?_);obtain⟨σ6,H6,I6,q6⟩:=hq26;refine wpAny_passesOwn hp (thn (hb _ s6 σ6 H6 _ I6 q6) fun f s7 q7=>?_);have again:∀{σ7:St}{H7:Hp},Inv X (pins++cN fp s5.heap) σ7 H7 s7->N σ7 H7->∃m,m<n/\∃i σ' H',Inv X pins σ' H' s7/\tn i s7.heap/\(∀b∈fp,H' b=none)/\W i m σ' H':=fun {σ7 H7} I7 n7=>by
   obtain⟨m',hm,w7⟩:=hN σ7 H7 n7;refine⟨m',hm,i+1,σ7,H7,I7.Ek,T.keep _ _ _ st5 fun b hb o e=>(I7.pin (b,o) (Ae _ (Ae _ (bf hb e)))).1,fun b hb=>?_,w7⟩;obtain⟨o,e,d⟩:=T.obj _ _ st5 b hb;exact(I7.pin (b,o) (Ae _ (Ae _ (bf hb e)))).2.1
  cases f with
  |next=>obtain⟨σ7,H7,I7,n7⟩:=q7;exact again I7 n7
  |cont=>obtain⟨σ7,H7,I7,n7⟩:=q7;exact again I7 n7
  |brk=>obtain⟨σ7,H7,I7,q7⟩:=q7;exact⟨σ7,H7,I7.Ek,q7⟩
  |ret v=>obtain⟨x7,σ7,H7,I7,r7,q7⟩:=q7;exact⟨x7,σ7,H7,I7.Ek,r7,q7⟩
end
theorem dz{K:PySem.W.Frag}{a:Addr}{xs:List V}{g:TG}{tb:TS}{D:Ends}{σ:St}{H:Hp}(Pv:Nat->St->Hp->Prop)(h0:Pv 0 σ H)(hl:∀i σ H,i<=xs.length->Pv i σ H->SqL K H a xs)
  (hs:∀i x σ H,xs[i]?=some x->Pv i σ H->g x σ H fun σ2 H2=>tb {D with nx:=Pv (i+1),ct:=Pv (i+1),bk:=D.nx} σ2 H2)(hd:∀σ H,Pv xs.length σ H->D.nx σ H) :
  ∃W:Nat->Nat->St->Hp->Prop,(∃m,W 0 m σ H)/\∀i m σ H,W i m σ H ->
   ((Itl K a).stop i H/\D.nx σ H)\/((Itl K a).go i H/\∃N:St->Hp->Prop,(∀σ' H',N σ' H'->∃m',m'<m/\W (i+1) m' σ' H')/\∀x H',(Itl K a).yld i H x H'->g x σ H' fun σ2 H2=>tb {D with nx:=N,ct:=N,bk:=D.nx} σ2 H2):=by
 refine⟨fun i m σ H=>m=xs.length-i/\i<=xs.length/\Pv i σ H,⟨xs.length,by simp,Ah _,h0⟩,?_⟩;rintro i m σ H ⟨rfl,hi,p⟩;have q:=hl i σ H hi p;by_cases hlt:i<xs.length
 ·refine .inr ⟨⟨xs,xs[i],q,by simp[hlt]⟩,Pv (i+1),fun σ' H' p'=>⟨xs.length-(i+1),by omega,rfl,hlt,p'⟩,fun x H' y=>?_⟩;obtain⟨e,y⟩:=y;subst e;exact hs i x σ _ (y xs q) p
 ·have e:i=xs.length:=by omega
  subst e;exact .inl ⟨⟨xs,q,zX _⟩,hd σ H p⟩
theorem qa{K:PySem.W.Frag}{a:Addr}{xs:List V}{g:TG}{tb:TS}{D:Ends}{σ:St}{H:Hp}(Pv:Nat->St->Hp->Prop)(h0:Pv 0 σ H)(hl:∀i σ H,i<=xs.length->Pv i σ H->SqT K H a xs)
  (hs:∀i x σ H,xs[i]?=some x->Pv i σ H->g x σ H fun σ2 H2=>tb {D with nx:=Pv (i+1),ct:=Pv (i+1),bk:=D.nx} σ2 H2)(hd:∀σ H,Pv xs.length σ H->D.nx σ H) :
  ∃W:Nat->Nat->St->Hp->Prop,(∃m,W 0 m σ H)/\∀i m σ H,W i m σ H ->
   ((Itt K a).stop i H/\D.nx σ H)\/((Itt K a).go i H/\∃N:St->Hp->Prop,(∀σ' H',N σ' H'->∃m',m'<m/\W (i+1) m' σ' H')/\∀x H',(Itt K a).yld i H x H'->g x σ H' fun σ2 H2=>tb {D with nx:=N,ct:=N,bk:=D.nx} σ2 H2):=by
 refine⟨fun i m σ H=>m=xs.length-i/\i<=xs.length/\Pv i σ H,⟨xs.length,by simp,Ah _,h0⟩,?_⟩;rintro i m σ H ⟨rfl,hi,p⟩;have q:=hl i σ H hi p;by_cases hlt:i<xs.length
 ·refine .inr ⟨⟨xs,xs[i],q,by simp[hlt]⟩,Pv (i+1),fun σ' H' p'=>⟨xs.length-(i+1),by omega,rfl,hlt,p'⟩,fun x H' y=>?_⟩;obtain⟨e,y⟩:=y;subst e;exact hs i x σ _ (y xs q) p
 ·have e:i=xs.length:=by omega
  subst e;exact .inl ⟨⟨xs,q,zX _⟩,hd σ H p⟩
theorem dv{lo:Int}{n:Nat}{g:TG}{tb:TS}{D:Ends}{σ:St}{H:Hp}(Pv:Nat->St->Hp->Prop)(h0:Pv 0 σ H)
  (hs:∀i σ H,i<n->Pv i σ H->g (.int (lo+i)) σ H fun σ2 H2=>tb {D with nx:=Pv (i+1),ct:=Pv (i+1),bk:=D.nx} σ2 H2)(hd:∀σ H,Pv n σ H->D.nx σ H) :
  ∃W:Nat->Nat->St->Hp->Prop,(∃m,W 0 m σ H)/\∀i m σ H,W i m σ H ->
   ((Itr lo n).stop i H/\D.nx σ H)\/((Itr lo n).go i H/\∃N:St->Hp->Prop,(∀σ' H',N σ' H'->∃m',m'<m/\W (i+1) m' σ' H')/\∀x H',(Itr lo n).yld i H x H'->g x σ H' fun σ2 H2=>tb {D with nx:=N,ct:=N,bk:=D.nx} σ2 H2):=by
 refine⟨fun i m σ H=>m=n-i/\i<=n/\Pv i σ H,⟨n,by simp,Ah _,h0⟩,?_⟩;rintro i m σ H ⟨rfl,hi,p⟩;by_cases hlt:i<n
 ·refine .inr ⟨hlt,Pv (i+1),fun σ' H' p'=>⟨n-(i+1),by omega,rfl,hlt,p'⟩,fun x H' y=>?_⟩;obtain⟨e,y⟩:=y;subst e y;exact hs i σ _ hlt p
 ·have e:i=n:=by omega
  subst e;exact .inl ⟨zX _,hd σ H p⟩
abbrev R2:=V->V->Hp->VK->Prop
def OpR (X:Cx)(f:Value->Value->Sem Value)(r:R2):Prop:=
 ∀(pins:List (Addr×Obj))(s:Shared)(σ:St)(H:Hp)(x y:V)(v u:Value)(Q:VK),Inv X pins σ H s->RelV x v->RelV y u->r x y H Q ->
  wpAny (model X.prog X.w) X.A (f v u) (EP X pins σ Q) X.xe s
def UnR (X:Cx)(f:Value->Sem Value)(r:V->Hp->VK->Prop):Prop:=
 ∀(pins:List (Addr×Obj))(s:Shared)(σ:St)(H:Hp)(x:V)(v:Value)(Q:VK),Inv X pins σ H s->RelV x v->r x H Q ->
  wpAny (model X.prog X.w) X.A (f v) (EP X pins σ Q) X.xe s
def dJ (X:Cx)(f:Value)(r:List V->Hp->VK->Prop):Prop:=
 ∀(pins:List (Addr×Obj))(s:Shared)(σ:St)(H:Hp)(xs:List V)(us:List Value)(Q:VK),Inv X pins σ H s->Vals xs us->r xs H Q ->
  wpAny (model X.prog X.w) X.A (call f us) (EP X pins σ Q) X.xe s
def TruR (X:Cx)(r:V->Hp->(Bool->Hp->Prop)->Prop):Prop:=
 ∀(pins:List (Addr×Obj))(s:Shared)(σ:St)(H:Hp)(x:V)(v:Value)(Q:Bool->Hp->Prop),Inv X pins σ H s->RelV x v->r x H Q ->
  wpAny (model X.prog X.w) X.A (truthy v) (TP X pins σ Q) X.xe s
def tOp (r:R2)(ta tb:TE):TE:=fun σ H Q=>ta σ H fun x H1=>tb σ H1 fun y H2=>r x y H2 Q
def tUn (r:V->Hp->VK->Prop)(ta:TE):TE:=fun σ H Q=>ta σ H fun x H1=>r x H1 Q
def rI (C:Int->Int->Prop)(g:Int->Int->V):R2:=fun x y H Q=>∃i j,x=.int i/\y=.int j/\C i j/\Q (g i j) H
def rI0 (g:Int->Int->V):R2:=fun x y H Q=>∃i j,x=.int i/\y=.int j/\Q (g i j) H
def rU (g:Int->V):V->Hp->VK->Prop:=fun x H Q=>∃i,x=.int i/\Q (g i) H
section
variable {X:Cx}{a b c:Expr}{ta tb tc:TE}{pos:Pos}
theorem tE(ha:PE X a ta)(hb:PE X b tb){pins:List (Addr×Obj)}{s:Shared}{σ:St}{H:Hp}{R:V->V->Hp->Prop}(I:Inv X pins σ H s)
  (h:ta σ H fun x H1=>tb σ H1 fun y H2=>R x y H2){Q:Value->Shared->Prop}{f:Value->Value->Sem Value}
  (hf:∀v u s2 x y H2,Inv X pins σ H2 s2->RelV x v->RelV y u->R x y H2->wpAny (model X.prog X.w) X.A (f v u) Q X.xe s2) :
  wpAny (model X.prog X.w) X.A (eval a X.env) (fun v s₁=>wpAny (model X.prog X.w) X.A (eval b X.env) (fun u s₂=>wpAny (model X.prog X.w) X.A (f v u) Q X.xe s₂) X.xe s₁) X.xe s:=by
 refine thn (ha pins s σ H _ I h) fun v s1 hq27=>?_;obtain⟨x,H1,I1,r1,q1⟩:=hq27;refine thn (hb pins s1 σ H1 _ I1 q1) fun u s2 hq28=>?_;obtain⟨y,H2,I2,r2,q2⟩:=hq28;exact hf v u s2 x y H2 I2 r1 r2 q2
theorem au{op:Operator}{r:R2}(ho:OpR X (binaryOp op) r)(ha:PE X a ta)(hb:PE X b tb):PE X (.BinOp a op b pos) (tOp r ta tb):=by
 intro pins s σ H Q I h;exact wpAny_BinOp (tE ha hb I h fun v u s2 x y H2 I2 rx ry q=>ho pins s2 σ H2 x y v u Q I2 rx ry q)
theorem dj{op:UnaryOp}{r:V->Hp->VK->Prop}(ho:UnR X (unaryOp op) r)(ha:PE X a ta):PE X (.UnaryOp op a pos) (tUn r ta):=by
 intro pins s σ H Q I h;refine UnaryOp_ (thn (ha pins s σ H _ I h) fun v s1 hq29=>?_);obtain⟨x,H1,I1,r1,q1⟩:=hq29;exact ho pins s1 σ H1 x v Q I1 r1 q1
theorem opI{f:Value->Value->Sem Value}{C:Int->Int->Prop}{g:Int->Int->Int}
  (rule:∀(i j:Int)(t u:Tok)(s:Shared)(Q:Value->Shared->Prop)(E:Value->Shared->Prop),C i j->Q (.int (g i j) s.toks) {s with toks:=s.toks+1}->wpAny (model X.prog X.w) X.A (f (.int i t) (.int j u)) Q E s) :
  OpR X f (rI C fun i j=>.int (g i j)):=by
 intro pins s σ H x y v u Q I rx ry h;obtain⟨i,j,rfl,rfl,hc,q⟩:=h;obtain⟨t,rfl⟩:=rx;obtain⟨t',rfl⟩:=ry;exact rule i j t t' s _ _ hc ⟨.int (g i j),H,I.tok _,⟨_,rfl⟩,q⟩
theorem uV{f:Value->Value->Sem Value}{g:Int->Int->Int}
  (rule:∀(i j:Int)(t u:Tok)(s:Shared)(Q:Value->Shared->Prop)(E:Value->Shared->Prop),Q (.int (g i j) s.toks) {s with toks:=s.toks+1}->wpAny (model X.prog X.w) X.A (f (.int i t) (.int j u)) Q E s) :
  OpR X f (rI0 fun i j=>.int (g i j)):=by
 intro pins s σ H x y v u Q I rx ry h;obtain⟨i,j,rfl,rfl,q⟩:=h;obtain⟨t,rfl⟩:=rx;obtain⟨t',rfl⟩:=ry;exact rule i j t t' s _ _ ⟨.int (g i j),H,I.tok _,⟨_,rfl⟩,q⟩
theorem tu{f:Value->Value->Sem Value}{g:Int->Int->Bool}
  (rule:∀(i j:Int)(t u:Tok)(s:Shared)(Q:Value->Shared->Prop)(E:Value->Shared->Prop),Q (.bool (g i j)) s->wpAny (model X.prog X.w) X.A (f (.int i t) (.int j u)) Q E s) :
  OpR X f (rI0 fun i j=>.bl (g i j)):=by
 intro pins s σ H x y v u Q I rx ry h;obtain⟨i,j,rfl,rfl,q⟩:=h;obtain⟨t,rfl⟩:=rx;obtain⟨t',rfl⟩:=ry;exact rule i j t t' s _ _ ⟨.bl (g i j),H,I,rfl,q⟩
def CDiv (i j:Int):Prop:=0<j/\j<1073741824
def CPow (i j:Int):Prop:=0<=j/\j<=1000000/\i.natAbs<2^64
def Kt (i j:Int):Prop:=(-(2^64)<i/\i<2^64)\/(-(2^64)<j/\j<2^64)
theorem Kt.ok{i j:Int}(h:Kt i j):IntMulOk i j:=by
 rcases h with ⟨h1,h2⟩|⟨h1,h2⟩
 ·exact .of_left (intBits_le_64 h1 h2)
 ·exact .of_right (intBits_le_64 h1 h2)
theorem Eb:OpR X (binaryOp .Add) (rI0 fun i j=>.int (i+j)):=uV fun _ _ _ _ _ _ _ q=>add_int q
theorem Em:OpR X (binaryOp .Sub) (rI0 fun i j=>.int (i-j)):=uV fun _ _ _ _ _ _ _ q=>sub_int q
theorem EI:OpR X (binaryOp .Mult) (rI Kt fun i j=>.int (i*j)):=opI fun _ _ _ _ _ _ _ hc q=>mul_int q hc.ok
theorem HJ:OpR X (binaryOp .FloorDiv) (rI CDiv fun i j=>.int (i/j)):=opI fun i j _ _ _ _ _ hc q=>by
 have h1:(0:Int)<j:=hc.1;have h2:j<1073741824:=hc.2;exact floordiv_int (by omega) (by rw[CU i (by omega)];exact q) (.inl (PyProof.noPylong_small (by omega)))
theorem EA:OpR X (binaryOp .Mod) (rI (fun _ j=>0<j) fun i j=>.int (i % j)):=opI fun i j _ _ _ _ _ hc q=>by
 have h1:(0:Int)<j:=hc;exact mod_int' (by omega) (by rw[Int.fmod_eq_emod_of_nonneg i (by omega)];exact q)
theorem Ft:OpR X (binaryOp .Pow) (rI CPow fun i j=>.int (i^j.toNat)):=opI fun _ _ _ _ _ _ _ hc q=>pow_int_small hc.1 hc.2.1 hc.2.2 q
theorem unI{f:Value->Sem Value}{g:Int->Int}
  (rule:∀(i:Int)(t:Tok)(s:Shared)(Q:Value->Shared->Prop)(E:Value->Shared->Prop),Q (.int (g i) s.toks) {s with toks:=s.toks+1}->wpAny (model X.prog X.w) X.A (f (.int i t)) Q E s) :
  UnR X f (rU fun i=>.int (g i)):=by
 intro pins s σ H x v Q I rx h;obtain⟨i,rfl,q⟩:=h;obtain⟨t,rfl⟩:=rx;exact rule i t s _ _ ⟨.int (g i),H,I.tok _,⟨_,rfl⟩,q⟩
theorem Ey:UnR X (unaryOp .USub) (rU fun i=>.int (-i)):=unI fun _ _ _ _ _ q=>neg_int q
end
def Kd:V->V->Bool
 |.non,.non=>true|.non,.int _=>true|.int _,.non=>true|.non,.bl _=>true|.bl _,.non=>true|.non,.str _=>true|.str _,.non=>true
 |.int _,.int _=>true|.bl _,.bl _=>true|.str _,.str _=>true|.byt _,.byt _=>true
 |.int _,.str _=>true|.str _,.int _=>true|.bl _,.str _=>true|.str _,.bl _=>true
 |_,_=>false
def rEq:R2:=fun x y H Q=>Kd x y=true/\Q (.bl (decide (x=y))) H
def rNe:R2:=fun x y H Q=>Kd x y=true/\Q (.bl (!decide (x=y))) H
theorem kW{i j:Int}:decide (V.int i=V.int j)=(i==j):=by
 rw[DH];simp
theorem pG{i j:Bool}:decide (V.bl i=V.bl j)=(i==j):=by
 rw[DH];simp
theorem lT{i j:Str}:decide (V.str i=V.str j)=(i==j):=by
 rw[DH];simp
theorem lZ{i j:Array UInt8}:decide (V.byt i=V.byt j)=(i.toList==j.toList):=by
 rw[DH];cases i;cases j;simp
section
variable {X:Cx}{a b c:Expr}{ta tb tc:TE}{pos:Pos}
theorem aT{pins:List (Addr×Obj)}{σ:St}{H:Hp}{s:Shared}{Q:VK}{k k':Bool}(I:Inv X pins σ H s)(q:Q (.bl k) H)(e:k=k'):EP X pins σ Q (.bool k') s:=by
 subst e;exact⟨.bl k,H,I,rfl,q⟩
theorem EM:OpR X (compareOp .Eq) rEq:=by
 intro pins s σ H x y v u Q I rx ry h;obtain⟨hs,q⟩:=h;cases x with
 |non=>
  cases rx;cases y with
  |non=>cases ry;exact PySem.EqNone.eq_none_none (aT I q (by simp))
  |bl j=>cases ry;exact PySem.EqNone.eq_none_bool (aT I q (by simp))
  |int j=>obtain⟨t',rfl⟩:=ry;exact PySem.EqNone.eq_none_int (aT I q (by simp))
  |str j=>obtain⟨t',rfl⟩:=ry;exact PySem.EqNone.eq_none_str (aT I q (by simp))
  |_=>exact absurd (show false=true from hs) AB
 |bl i=>
  cases rx;cases y with
  |non=>cases ry;exact PySem.EqNone.eq_bool_none (aT I q (by simp))
  |bl j=>cases ry;exact eq_bool (aT I q pG)
  |str j=>obtain⟨t',rfl⟩:=ry;exact PySem.EqMixed.eq_bool_str (aT I q (by simp))
  |_=>exact absurd (show false=true from hs) AB
 |int i=>
  obtain⟨t,rfl⟩:=rx;cases y with
  |non=>cases ry;exact PySem.EqNone.eq_int_none (aT I q (by simp))
  |int j=>obtain⟨t',rfl⟩:=ry;exact eq_int (aT I q kW)
  |str j=>obtain⟨t',rfl⟩:=ry;exact PySem.EqMixed.eq_int_str (aT I q (by simp))
  |_=>exact absurd (show false=true from hs) AB
 |str i=>
  obtain⟨t,rfl⟩:=rx;cases y with
  |non=>cases ry;exact PySem.EqNone.eq_str_none (aT I q (by simp))
  |bl j=>cases ry;exact PySem.EqMixed.eq_str_bool (aT I q (by simp))
  |int j=>obtain⟨t',rfl⟩:=ry;exact PySem.EqMixed.eq_str_int (aT I q (by simp))
  |str j=>obtain⟨t',rfl⟩:=ry;exact eq_str (aT I q lT)
  |_=>exact absurd (show false=true from hs) AB
 |byt i=>
  obtain⟨t,rfl⟩:=rx;cases y with
  |byt j=>obtain⟨t',rfl⟩:=ry;exact W.eq_bytes (aT I q lZ)
  |_=>exact absurd (show false=true from hs) AB
 |_=>cases y<;>exact absurd (show false=true from hs) AB
theorem HL:OpR X (compareOp .NotEq) rNe:=by
 intro pins s σ H x y v u Q I rx ry h;obtain⟨hs,q⟩:=h;cases x with
 |non=>
  cases rx;cases y with
  |non=>cases ry;exact PySem.EqNone.ne_none_none (aT I q (by simp))
  |bl j=>cases ry;exact PySem.EqNone.ne_none_bool (aT I q (by simp))
  |int j=>obtain⟨t',rfl⟩:=ry;exact PySem.EqNone.ne_none_int (aT I q (by simp))
  |str j=>obtain⟨t',rfl⟩:=ry;exact PySem.EqNone.ne_none_str (aT I q (by simp))
  |_=>exact absurd (show false=true from hs) AB
 |bl i=>
  cases rx;cases y with
  |non=>cases ry;exact PySem.EqNone.ne_bool_none (aT I q (by simp))
  |bl j=>cases ry;exact ne_bool (aT I q (congrArg not pG))
  |str j=>obtain⟨t',rfl⟩:=ry;exact PySem.EqMixed.ne_bool_str (aT I q (by simp))
  |_=>exact absurd (show false=true from hs) AB
 |int i=>
  obtain⟨t,rfl⟩:=rx;cases y with
  |non=>cases ry;exact PySem.EqNone.ne_int_none (aT I q (by simp))
  |int j=>obtain⟨t',rfl⟩:=ry;exact ne_int (aT I q (congrArg not kW))
  |str j=>obtain⟨t',rfl⟩:=ry;exact PySem.EqMixed.ne_int_str (aT I q (by simp))
  |_=>exact absurd (show false=true from hs) AB
 |str i=>
  obtain⟨t,rfl⟩:=rx;cases y with
  |non=>cases ry;exact PySem.EqNone.ne_str_none (aT I q (by simp))
  |bl j=>cases ry;exact PySem.EqMixed.ne_str_bool (aT I q (by simp))
  |int j=>obtain⟨t',rfl⟩:=ry;exact PySem.EqMixed.ne_str_int (aT I q (by simp))
  |str j=>obtain⟨t',rfl⟩:=ry;exact ne_str (aT I q (congrArg not lT))
  |_=>exact absurd (show false=true from hs) AB
 |byt i=>
  obtain⟨t,rfl⟩:=rx;cases y with
  |byt j=>obtain⟨t',rfl⟩:=ry;exact W.ne_bytes (aT I q (congrArg not lZ))
  |_=>exact absurd (show false=true from hs) AB
 |_=>cases y<;>exact absurd (show false=true from hs) AB
theorem IL:OpR X (compareOp .Lt) (rI0 fun i j=>.bl (decide (i<j))):=tu fun _ _ _ _ _ _ _ q=>lt_int q
theorem Jv:OpR X (compareOp .LtE) (rI0 fun i j=>.bl (decide (i<=j))):=tu fun _ _ _ _ _ _ _ q=>le_int q
theorem GP:OpR X (compareOp .Gt) (rI0 fun i j=>.bl (decide (j<i))):=tu fun _ _ _ _ _ _ _ q=>gt_int q
theorem HV:OpR X (compareOp .GtE) (rI0 fun i j=>.bl (decide (j<=i))):=tu fun _ _ _ _ _ _ _ q=>ge_int q
theorem Hg:OpR X (compareOp .Is) (fun x y H Q=>y=.non/\Q (.bl (decide (x=.non))) H):=by
 intro pins s σ H x y v u Q I rx ry h;obtain⟨rfl,q⟩:=h;cases ry;refine is_none_gen (aT I q ?_);cases x<;>first
  |(cases rx;rfl)
  |(obtain⟨t,rfl⟩:=rx;rfl)
theorem FJ:OpR X (compareOp .IsNot) (fun x y H Q=>y=.non/\Q (.bl (!decide (x=.non))) H):=by
 intro pins s σ H x y v u Q I rx ry h;obtain⟨rfl,q⟩:=h;cases ry;refine isnot_none_gen (aT I q ?_);cases x<;>first
  |(cases rx;rfl)
  |(obtain⟨t,rfl⟩:=rx;rfl)
theorem aC(b:Expr){op:CmpOp}(h:op≠.In:=by decide)(h2:op≠.NotIn:=by decide):behindInMarks op b=false:=by
 have e1:(op==CmpOp.In)=false:=by cases op<;>first|rfl|exact absurd rfl h
 have e2:(op==CmpOp.NotIn)=false:=by cases op<;>first|rfl|exact absurd rfl h2
 cases b<;>simp[behindInMarks,e1,e2]
theorem bZ{op:CmpOp}{r:R2}(ho:OpR X (compareOp op) r)(ha:PE X a ta)(hb:PE X b tb)(hm:behindInMarks op b=false):PE X (.Compare a [op] [b] pos) (tOp r ta tb):=by
 intro pins s σ H Q I h;exact wpAny_Compare1 (tE ha hb I h fun v u s2 x y H2 I2 rx ry q=>ho pins s2 σ H2 x y v u Q I2 rx ry q) hm
def rF (t:TE):TT:=fun σ H Q=>t σ H fun x H'=>∃k,x=.bl k/\Q k H'
theorem aB{op:CmpOp}{r:R2}(ho:OpR X (compareOp op) r)(ha:PE X a ta)(hb:PE X b tb)(hm:behindInMarks op b=false):PT X (.Compare a [op] [b] pos) (rF (tOp r ta tb)):=by
 intro pins s σ H Q I h
 refine wpAny_isTrue_Compare1 (thn (ha pins s σ H _ I h) fun v s1 ⟨x,H1,I1,r1,q1⟩=>thn (hb pins s1 σ H1 _ I1 q1) fun u s2 ⟨y,H2,I2,r2,q2⟩ =>
  thn (ho pins s2 σ H2 x y v u _ I2 r1 r2 q2) fun c s3 ⟨z,H3,I3,r3,k,e,q3⟩=>?_) hm
 subst e;cases r3;exact wpAny_truthy_bool ⟨H3,I3,q3⟩
def rQ (r r':R2)(ta tb tc:TE):TE:=fun σ H Q=>ta σ H fun x H1=>tb σ H1 fun y H2=>r x y H2 fun z H3=>∃k,z=.bl k /\
 (if k=true then tc σ H3 fun w' H4=>r' y w' H4 Q else Q (.bl false) H3)
theorem oY{op op':CmpOp}{r r':R2}(ho:OpR X (compareOp op) r)(ho':OpR X (compareOp op') r')(ha:PE X a ta)(hb:PE X b tb)(hc:PE X c tc)
  (hm:lastMarks [op,op'] [b,c]=false:=by with_unfolding_all rfl):PT X (.Compare a [op,op'] [b,c] pos) (rF (rQ r r' ta tb tc)):=by
 intro pins s σ H Q I h
 refine isTrue_chain (thn (ha pins s σ H _ I h) fun v s1 ⟨x,H1,I1,r1,q1⟩=>test_link (thn (hb pins s1 σ H1 _ I1 q1) fun u s2 ⟨y,H2,I2,r2,q2⟩ =>
  thn (ho pins s2 σ H2 x y v u _ I2 r1 r2 q2) fun d s3 ⟨z,H3,I3,r3,k,e,q3⟩=>?_)) hm
 subst e;cases r3;refine wpAny_truthy_bool ?_;cases k with
 |false=>
  obtain⟨k',e',q'⟩:=q3;cases e';exact ite_ff ⟨H3,I3,q'⟩
 |true=>
  refine ite_tt (test_last (thn (hc pins s3 σ H3 _ I3 q3) fun w' s4 hq30=>?_));obtain⟨z',H4,I4,r4,q4⟩:=hq30;refine thn (ho' pins s4 σ H4 y z' u w' _ I4 r2 r4 q4) fun d' s5 ⟨z2,H5,I5,r5,k2,e2,q5⟩=>?_;subst e2;cases r5;exact wpAny_truthy_bool ⟨H5,I5,q5⟩
def uW (K:W.Frag)(x:V)(H:Hp)(k:Bool):Prop:=
 match x with
 |.non=>k=false
 |.bl b=>k=b
 |.int i=>k=(i != 0)
 |.str y=>y.length<=sizeLine/\k=((y.length:Int) != 0)
 |.byt y=>y.size<=sizeLine/\k=((y.size:Int) != 0)
 |.ref p=>(∃xs,SqL K H p xs/\k=!xs.isEmpty)\/(∃xs,SqT K H p xs/\k=!xs.isEmpty)\/∃kvs,H p=some (.dK kvs)/\k=!kvs.isEmpty
 |_=>False
theorem jL{κ:Type}{kvs:List (κ×V)}{vs:List (κ×Value)}(r:KV kvs vs):(!vs.isEmpty)=!kvs.isEmpty:=by
 cases r<;>rfl
theorem fj{xs:List V}{its:List Value}(r:Vals xs its):(!its.toArray.isEmpty)=!xs.isEmpty:=by
 cases r<;>simp
theorem Fe:(sizeLine:Nat)<2^63:=by rw[sizeLine_eq];decide
theorem JK:TruR X (fun x H Q=>∃k,uW X.K x H k/\Q k H):=by
 intro pins s σ H x v Q I rx h;obtain⟨k,e,q⟩:=h;have hl:=Fe;have hs:sizeLine=16777216:=sizeLine_eq;cases x with
 |non=>
  cases rx;have e':k=false:=e;subst e';exact truthy_none ⟨H,I,q⟩
 |bl b=>
  cases rx;have e':k=b:=e;subst e';exact wpAny_truthy_bool ⟨H,I,q⟩
 |int i=>
  obtain⟨t,rfl⟩:=rx;have e':k=(i != 0):=e;subst e';exact PySem.P.truthy_int ⟨H,I,q⟩
 |str y=>
  obtain⟨t,rfl⟩:=rx;obtain⟨hy,e'⟩:y.length<=sizeLine/\k=((y.length:Int) != 0):=e;subst e';exact PySem.P.truthy_str (by omega) ⟨H,I.tok _,q⟩
 |byt y=>
  obtain⟨t,rfl⟩:=rx;obtain⟨hy,e'⟩:y.size<=sizeLine/\k=((y.size:Int) != 0):=e;subst e';exact W.truthy_bytes (by omega) ⟨H,I.tok _,q⟩
 |ref p=>
  cases rx;have e':(∃xs,SqL X.K H p xs/\k=!xs.isEmpty)\/(∃xs,SqT X.K H p xs/\k=!xs.isEmpty)\/∃kvs,H p=some (.dK kvs)/\k=!kvs.isEmpty:=e;rcases e' with ⟨xs,hx,e'⟩|⟨xs,hx,e'⟩|⟨kvs,hx,e'⟩
  ·subst e';obtain⟨its,r,pl,hz⟩:=I.list hx;have hlen:=r.length;exact wpAny_truthy_list pl.isList (by simp only[An];omega) ⟨H,I.tok _,by rw[fj r];exact q⟩
  ·subst e';obtain⟨its,r,pl,hz⟩:=I.tuple hx;have hlen:=r.length;exact truthy_tuple pl (by simp only[An];omega) ⟨H,I.tok _,by rw[fj r];exact q⟩
  ·subst e';obtain⟨hz,hS,vs,r,m⟩:kvs.length<=sizeLine/\(p==sysModules)=false/\∃vs,KV kvs vs/\s.heap.DictOf (bu X.prog X.w) p vs:=I.hok p _ hx;have hlen:kvs.length=vs.length:=Paired.length r;exact wpAny_truthy_dict hS m (by omega) ⟨H,I.tok _,by rw[jL r];exact q⟩
 |_=>exact(show False from e).elim
theorem oM(ha:PE X a ta)(he:∀whole,isTrue a X.env whole=(do let v <- whole;standAt a.pos;holding [v] (truthy v))) :
  PT X a (fun σ H Q=>ta σ H fun x H'=>∃k,uW X.K x H' k/\Q k H'):=by
 intro pins s σ H Q I h;refine isTrue_plain (thn (ha pins s σ H _ I h) fun v s1 hq31=>?_) (he _);obtain⟨x,H1,I1,r1,q1⟩:=hq31;exact JK pins s1 σ H1 x v Q I1 r1 q1
theorem Ez:OpR X (binaryOp .Add) (fun x y H Q=>∃i j,x=.str i/\y=.str j/\i.length+j.length<=sizeLine/\Q (.str (i++j)) H):=by
 intro pins s σ H x y v u Q I rx ry h;obtain⟨i,j,rfl,rfl,hz,q⟩:=h;obtain⟨t,rfl⟩:=rx;obtain⟨t',rfl⟩:=ry;exact add_str (fun t' tk=>⟨.str (i++j),H,I.tok _,⟨_,rfl⟩,q⟩) hz
def oW (b:Expr):Prop:=∀o i,subscripted b false o i=operate [o,i] (getItem o i)
theorem eM(ha:PE X a ta)(hb:PE X b tb)(hs:oW b) :
  PE X (.Subscript a b pos) (tOp (fun x y H Q=>∃z i c,x=.str z/\y=.int i/\0<=i/\i<2^63/\i<z.length/\z.cps[i.toNat]?=some c/\Q (.str ⟨#[c]⟩) H) ta tb):=by
 intro pins s σ H Q I h;refine Subscript_ (tE ha hb I h fun v u s2 x y H2 I2 rx ry q=>?_);obtain⟨z,i,c,rfl,rfl,h0,h63,h1,hc,q⟩:=q;obtain⟨t,rfl⟩:=rx;obtain⟨t',rfl⟩:=ry;have e:seqIndex? i z.length=some i.toNat:=PySem.StrLaws.seqIndex_nonneg h0 h1
 exact tail_any (typeIs_str s2 z t) slot_str_getitem.lookup (getItem_str (c:=c) (by
  have e1:decide (i < -(2^63:Int))=false:=Dk (by omega);have e2:decide (i≥2^63)=false:=Dk (by omega)
  rw[e1,e2] <;> rfl) (by rw[e]; exact hc) ⟨.str ⟨#[c]⟩,H2,I2.tok _,⟨_,rfl⟩,q⟩) (hs _ _)
theorem dX{x:V}{us:List Value}(r:Vals [x] us):∃u,us=[u]/\RelV x u:=by
 cases r with
 |cons r1 r2=>cases r2;exact⟨_,rfl,r1⟩
theorem sv{x y:V}{us:List Value}(r:Vals [x,y] us):∃u w',us=[u,w']/\RelV x u/\RelV y w':=by
 cases r with
 |cons r1 r2=>
  cases r2 with
  |cons r3 r4=>cases r4;exact⟨_,_,rfl,r1,r3⟩
theorem HI:dJ X (.type "int") (fun xs H Q=>(∃i,xs=[.int i]/\Q (.int i) H)\/∃k,xs=[.bl k]/\Q (.int (if k then 1 else 0)) H):=by
 intro pins s σ H xs us Q I r h;rcases h with ⟨i,rfl,q⟩|⟨k,rfl,q⟩
 ·obtain⟨u,rfl,t,rfl⟩:=dX r;exact call_int_int ⟨.int i,H,I,⟨_,rfl⟩,q⟩
 ·obtain⟨u,rfl,r1⟩:=dX r;cases r1;exact call_int_bool ⟨.int (if k then 1 else 0),H,I.tok _,⟨_,rfl⟩,q⟩
end
structure Jd(h:Heap)(x dx C:Addr)(mA:Str->Option Value):Prop where
 obj:h.get? x=some (W.instObj C dx)
 ns:h.Ns1 dx mA
 ne:dx≠x
theorem mZ{h:Heap}{dx:Addr}{mA:Str->Option Value}(n:h.Ns1 dx mA):∃od,h.get? dx=some od/\∀name,W.lookIn name od=some (mA name):=by
 obtain⟨o,es,ep,ho,hd,hk,_,hm⟩:=n;refine⟨o,ho,fun name=>?_⟩;have e:=hm name;unfold nsFind findBy at e;rw[<- Array.find?_toList] at e;unfold W.lookIn;rw[hd];dsimp only;split
 ·rename_i y q;rw[q] at e;exact congrArg some e
 ·rename_i q;rw[q] at e;have a:es.toList.any (·.refKey)=false:=by
   rw[List.any_eq_false];intro y hy;obtain⟨z,t,hkey⟩:=hk y (Array.mem_toList_iff.mp hy);simp[DictEntry.refKey,hkey]
  have a':¬es.toList.any (·.refKey)=true:=by rw[a];exact AB
  rw[Dh a'];exact congrArg some e
theorem Jd.look{h:Heap}{x dx C:Addr}{mA:Str->Option Value}(I:Jd h x dx C mA):∃od,W.InstAt h x (W.instObj C dx) C (some od)/\∀name,W.lookIn name od=some (mA name):=
 let ⟨od,ho,hl⟩:=mZ I.ns
 ⟨od,⟨I.obj,rfl,rfl,ho⟩,hl⟩
section
variable {prog:Program}{w:World}{A:Around}{E:Value->Shared->Prop}{s:Shared}{K:PySem.W.Frag}{x dx C f:Addr}{mA:Str->Option Value}{name:Str}{v:Value}
theorem rg{expr:Bool}{Q:Value->Shared->Prop}(X:K.In s.heap)(I:Jd s.heap x dx C mA)(hg:W.plainGet K C name=true)(hh:W.hasDictIn K C=true)
  (ha:W.findIn K (.ref C) name=some none)(hv:mA name=some v)(hv':W.handedIn v=true)(h:Q v {s with toks:=s.toks+1}) :
  wpAny (model prog w) A (getAttr (.ref x) name expr) Q E s:=by
 obtain⟨od,J,hl⟩:=I.look;exact W.get_value X J (W.plainGet_of hg).1 (W.findObj_own hh ha rfl (by rw[hl,hv])) hv' h
theorem oj{pl:Sem Bool}{Q:Value×List Value->Shared->Prop}(X:K.In s.heap)(I:Jd s.heap x dx C mA)(hg:W.plainGet K C name=true)
  (hf:W.findIn K (.ref C) name=some (some (.ref f)))(ht:W.isFn K (.ref f)=true)(hv:mA name=none)(h:Q (.ref f,[.ref x]) s) :
  wpAny (model prog w) A (getMethod (.ref x) name pl) Q E s:=by
 obtain⟨od,J,hl⟩:=I.look;exact W.method_fn X J (W.plainGet_of hg).1 (W.plainGet_of hg).2 hf (DP.mp ht) (by show(W.lookIn name od).map (·.isSome)=some false;rw[hl,hv];rfl) h
theorem rd{ns:List Str}{Q:Unit->Shared->Prop}(X:K.In s.heap)(I:Jd s.heap x dx C mA)
  (hs:W.findIn K (.ref C) "__setattr__"=some (some (.builtin "object.__setattr__")))(hp:W.plainOver K C=true)(ht:W.takerIn K C name=some none)(hh:W.hasDictIn K C=true)
  (hw:PySem.Within mA ns)(hsz:ns.length<=sizeLine)
  (h:∀h',Jd h' x dx C (fun y=>if y=name then some v else mA y)->Heap.SameBut dx s.heap h'->Q () {s with heap:=h',toks:=s.toks+2}) :
  wpAny (model prog w) A (setAttr (.ref x) name v) Q E s:=by
 obtain⟨od,J,hl⟩:=I.look;refine W.set_plain X J hs (W.osa_open (s:={s with toks:=s.toks+1}) (r:=none) X J hp ht fun b=>?_);obtain⟨cd,hc,hd'⟩:=W.any_some hh;have hx:s.heap.get? x=some ⟨.ref C,some dx,.plain,#[]⟩:=I.obj;refine Dd (De (Dd (Dd (wpAny_loadPart hx (Dd (W.Looks.here (s:={s with toks:=s.toks+1}) (W.looks_clsIn X hc) ?_))))));rw[hd'];refine De (a:=some dx) (Dd (De (Dd ?_)));refine wpAny_nsSet1 (s:={s with toks:=s.toks+1}) I.ns fun h' hn2 hs2=>?_;obtain⟨oD,esD,epD,hoD,hdD,hcD⟩:=hn2.count (PySem.Within.cons name v hw);refine Dd (wpAny_lookBehind hoD (by rw[hdD];exact pastItsLine_dict (Ap hcD (by rw[AF];omega))) ?_);exact De (h _ ⟨(hs2.2 _ (DC I.ne)).trans I.obj,hn2,I.ne⟩ hs2)
theorem nV{R:Result->Shared->Prop}{vs:List Value}{kw:List (Str×Value)}(X:K.In s.heap)(hm:W.makesIn K C=true)
  (hi:W.findIn K (.ref C) "__init__"=some (some (.ref f)))(hf:W.typeIn K (.ref f)=some (.type "function"))
  (h:codeAny (model prog w) (A.under (.builtin "type.__call__" ⟨.ref C::vs,kw⟩)) (.call (.ref f) ⟨.ref (s.heap.objs.size+1)::vs,kw⟩) (W.InitBack (s.heap.objs.size+1) R)
   { s with heap:=(s.heap.push W.emptyDict).push (W.instObj C s.heap.objs.size) }) :
  codeAny (model prog w) A (.call (.ref C) ⟨vs,kw⟩) R s:=by
 obtain⟨hh,g,d,t,os⟩:=s;exact W.make_core (W.makes_of X hm) (W.looks_findIn X hi) (fun self=>W.bind_fn X self hf) (.inl rfl) h
end
def iB (f:Str)(v:V):List (Str×V)->List (Str×V)
 |[]=>[(f,v)]
 |(g,x)::r=>if g=f then (g,v)::r else (g,x)::iB f v r
theorem eU(f g:Str)(v:V):∀fs:List (Str×V),(iB f v fs).lookup g=if g=f then some v else fs.lookup g
 |[]=>by
  show List.lookup g [(f,v)]=_;by_cases h:g=f
  ·have hb:(g==f)=true:=DP.mpr h;simp only[List.lookup,hb,Di h]
  ·have hb:(g==f)=false:=beq_eq_false_iff_ne.mpr h;simp only[List.lookup,hb,Dh h]
 |(k,x)::r=>by
  have ih:=eU f g v r;rw[show iB f v ((k,x)::r)=(if k=f then (k,v)::r else (k,x)::iB f v r) from rfl];by_cases hk:k=f
  ·rw[Di hk];by_cases h:g=k
   ·have hb:(g==k)=true:=DP.mpr h;simp only[List.lookup,hb,Di (h.trans hk)]
   ·have hb:(g==k)=false:=beq_eq_false_iff_ne.mpr h;simp only[List.lookup,hb,Dh (fun e:g=f=>h (e.trans hk.symm))]
  ·rw[Dh hk];by_cases h:g=k
   ·have hb:(g==k)=true:=DP.mpr h;simp only[List.lookup,hb,Dh (fun e:g=f=>hk (h.symm.trans e))]
   ·have hb:(g==k)=false:=beq_eq_false_iff_ne.mpr h;simp only[List.lookup,hb];exact ih
theorem eO(f:Str)(v:V):∀fs:List (Str×V),f∈(iB f v fs).map (·.1)/\∀g,g∈fs.map (·.1)->g∈(iB f v fs).map (·.1)
 |[]=>⟨by simp[iB],fun g h=>by simp at h⟩
 |(k,x)::r=>by
  obtain⟨i1,i2⟩:=eO f v r;rw[show iB f v ((k,x)::r)=(if k=f then (k,v)::r else (k,x)::iB f v r) from rfl];by_cases hk:k=f
  ·rw[Di hk];subst hk;exact⟨by simp,fun g h=>by simpa using h⟩
  ·rw[Dh hk];refine⟨?_,fun g h=>?_⟩
   ·rw[AH];exact AE _ i1
   ·rw[AH] at h ⊢;rcases Ag.mp h with e|e
    ·exact Ag.mpr (.inl e)
    ·exact AE _ (i2 g e)
theorem eN(f:Str)(v:V):∀fs:List (Str×V),(iB f v fs).length<=fs.length+1
 |[]=>by simp[iB]
 |(k,x)::r=>by
  have ih:=eN f v r;rw[show iB f v ((k,x)::r)=(if k=f then (k,v)::r else (k,x)::iB f v r) from rfl];by_cases hk:k=f
  ·rw[Di hk,AF,AF];omega
  ·rw[Dh hk,AF,AF];omega
theorem FQ.some_of{v:V}{o:Option Value}(r:FQ (some v) o):∃u,o=some u/\RelV v u:=by
 cases o with
 |none=>exact(show False from r).elim
 |some u=>exact⟨u,rfl,r⟩
theorem FQ.none_of{o:Option Value}(r:FQ none o):o=none:=by
 cases o with
 |none=>rfl
 |some u=>exact(show False from r).elim
theorem mK{v:V}{u:Value}(r:RelV v u):W.handedIn u=true:=by
 cases v with
 |non=>cases (show u=Value.none from r);rfl
 |bl b=>cases (show u=Value.bool b from r);rfl
 |int i=>obtain⟨t,e⟩:=(show ∃t,u=Value.int i t from r);cases e;rfl
 |str x=>obtain⟨t,e⟩:=(show ∃t,u=Value.str x t from r);cases e;rfl
 |byt b=>obtain⟨t,e⟩:=(show ∃t,u=Value.bytes b t from r);cases e;rfl
 |flt b=>obtain⟨t,e⟩:=(show ∃t,u=Value.float b t from r);cases e;rfl
 |ref a=>cases (show u=Value.ref a from r);rfl
 |ty n=>cases (show u=Value.type n from r);rfl
section
variable {P:Program}{w:World}{H H':Hp}{h h':Heap}{a C dx:Addr}{fs fs':List (Str×V)}
theorem gg(hok:HOk P w H h)(e:H a=some (.ins C dx fs)):∃mA,Jd h a dx C mA/\(∀f,FQ (fs.lookup f) (mA f))/\PySem.Within mA (fs.map (·.1))/\fs.length<=1000/\H dx=some (.own a):=by
 obtain⟨d,z,ne,ob,mA,n,r,q⟩:=(show El P w H h a (.ins C dx fs) from hok a _ e)
 exact⟨mA,⟨ob,n,ne⟩,r,q,z,d⟩
end
structure Cls(K:W.Frag)(C:Addr):Prop where
 pg:W.plainGet K C Str.empty=true
 hd:W.hasDictIn K C=true
 po:W.plainOver K C=true
 sa:W.findIn K (.ref C) "__setattr__"=some (some (.builtin "object.__setattr__"))
theorem Cls.get{K:W.Frag}{C:Addr}(c:Cls K C)(f:Str):W.plainGet K C f=true:=c.pg
def EY(K:W.Frag)(C:Addr)(f:Str):Prop:=W.findIn K (.ref C) f=some none
theorem EY.Ki{K:W.Frag}{C:Addr}{f:Str}(n:EY K C f):W.takerIn K C f=some none:=by
 unfold W.takerIn;rw[show W.findIn K (.ref C) f=some none from n];rfl
structure Con(K:W.Frag)(C:Addr)(f:Str)(v:V)(u:Value):Prop where
 at_:W.findIn K (.ref C) f=some (some u)
 rel:RelV v u
 get:W.specialIn K u "__get__"=some none
 cp:W.copiedNames.contains f=false
structure Meth(K:W.Frag)(C:Addr)(m:Str)(f:Addr):Prop where
 at_:W.findIn K (.ref C) m=some (some (.ref f))
 fn:W.isFn K (.ref f)=true
 kp:W.keepIn K (.ref f)=true
section
variable {X:Cx}{pins:List (Addr×Obj)}{σ:St}{H:Hp}{s:Shared}{a C dx:Addr}{fs:List (Str×V)}{f:Str}{v:V}{A:Around}{E:Value->Shared->Prop}
theorem jO{b:Bool}{Q:Value->Shared->Prop}(I:Inv X pins σ H s)(e:H a=some (.ins C dx fs))(c:Cls X.K C)(n:EY X.K C f)(l:fs.lookup f=some v)
  (h:∀u s',Inv X pins σ H s'->RelV v u->Q u s'):wpAny (model X.prog X.w) A (getAttr (.ref a) f b) Q E s:=by
 obtain⟨mA,O,r,_,_,_⟩:=gg I.hok e;obtain⟨u,hu,ru⟩:=FQ.some_of (v:=v) (o:=mA f) (by rw[<- l];exact r f);exact rg I.kIn O (c.get f) c.hd n hu (mK ru) (h u _ (I.tok _) ru)
theorem dP{m:Str}{g:Addr}{pl:Sem Bool}{Q:Value×List Value->Shared->Prop}(I:Inv X pins σ H s)(e:H a=some (.ins C dx fs))(c:Cls X.K C)(k:Meth X.K C m g)(l:fs.lookup m=none)
  (h:Q (.ref g,[.ref a]) s):wpAny (model X.prog X.w) A (getMethod (.ref a) m pl) Q E s:=by
 obtain⟨mA,O,r,_,_,_⟩:=gg I.hok e;have hn:mA m=none:=FQ.none_of (by rw[<- l];exact r m);exact oj I.kIn O (c.get m) k.at_ k.fn hn h
theorem jE{y:V}{u:Value}{Q:Unit->Shared->Prop}(I:Inv X pins σ H s)(e:H a=some (.ins C dx fs))(c:Cls X.K C)(n:EY X.K C f)(hl:fs.length<1000)(ry:RelV y u)
  (h:∀s',Inv X pins σ (upd H a (.ins C dx (iB f y fs))) s'->Q () s'):wpAny (model X.prog X.w) A (setAttr (.ref a) f u) Q E s:=by
 obtain⟨mA,O,r,wi,_,ho⟩:=gg I.hok e;have hz:(fs.map (·.1)).length<=sizeLine:=by rw[zY,sizeLine_eq];omega
 refine rd I.kIn O c.sa c.po n.Ki c.hd wi hz fun h' O' sb=>h _ ?_;have hd:∃o,h'.get? dx=some o:=let ⟨o,_,_,e',_⟩:=O'.ns;⟨o,e'⟩;refine I.write (x:=a) (e:=dx) (by rw[e];exact True.intro) (.inr ho) (fun b q hb z=>(sb.2 b hb).trans z) hd ?_;refine⟨by rw[av O.ne];exact ho,?_,O.ne,O'.obj,_,O'.ns,fun g=>?_,fun g hg=>?_⟩
 ·have:=eN f y fs;omega
 ·show FQ ((iB f y fs).lookup g) (if g=f then some u else mA g);rw[eU];by_cases q:g=f
  ·rw[Di q,Di q];exact ry
  ·rw[Dh q,Dh q];exact r g
 ·by_cases q:g=f
  ·rw[q];exact(eO f y fs).1
  ·refine(eO f y fs).2 g (wi g fun z=>hg ?_);show(if g=f then some u else mA g)=none;rw[Dh q];exact z
theorem Inv.made(I:Inv X pins σ H s):Inv X pins σ (upd (upd H s.heap.objs.size (.own (s.heap.objs.size+1))) (s.heap.objs.size+1) (.ins C s.heap.objs.size []))
  {s with heap:=(s.heap.push W.emptyDict).push (W.instObj C s.heap.objs.size)}:=by
 have e1:(s.heap.push W.emptyDict).get? s.heap.objs.size=some W.emptyDict:=DG s.heap rfl;have e2:((s.heap.push W.emptyDict).push (W.instObj C s.heap.objs.size)).get? (s.heap.objs.size+1)=some (W.instObj C s.heap.objs.size):=by
  have:=DG (s.heap.push W.emptyDict) (o:=W.instObj C s.heap.objs.size) rfl
  rwa [DM] at this
 have e3:(s.heap.push W.emptyDict).Ns s.heap.objs.size (fun _=>none):=⟨W.emptyDict,#[],_,e1,rfl,(fun e he=>absurd he (by simp)),fun _=>rfl⟩
 have I1:=I.laid (a:=s.heap.objs.size) (o:=.own (s.heap.objs.size+1)) (h':=s.heap.push W.emptyDict) (t':=s.toks) (fun b u q=>DE _ q) (zX _) ⟨_,e1⟩;refine I1.laid (a:=s.heap.objs.size+1) (o:=.ins C s.heap.objs.size []) (t':=s.toks) (fun b u q=>DE _ q) (Ce (DM _ _)) ?_;have ne:s.heap.objs.size≠s.heap.objs.size+1:=Ac (AY _);refine⟨by rw[av ne,DR],Ah _,ne,e2,fun _=>none,(Heap.Ns1.of_empty e3).at fun o q=>DE _ q,fun _=>True.intro,fun y hy=>absurd rfl hy⟩
theorem qO{prog:Program}{w:World}{env:Env}{e:Expr}{f:Str}{pos:Pos}{s:Shared}{Q:Value->Shared->Prop}(hb:attributeBase e f env (eval e env)=eval e env)
  (h:wpAny (model prog w) A (eval e env) (fun o s₁=>wpAny (model prog w) A (getAttr o f true) Q E s₁) E s):wpAny (model prog w) A (eval (.Attribute e f pos) env) Q E s:=
 Attribute_any_ h (by rw[arm_eval_Attribute,hb])
end
def vc (K:W.Frag)(ta:TE)(f:Str):TE:=fun σ H Q=>ta σ H fun x H1=>∃a C dx fs v,x=.ref a/\H1 a=some (.ins C dx fs)/\Cls K C/\EY K C f/\fs.lookup f=some v/\Q v H1
def sFld (K:W.Frag)(ta tv:TE)(f:Str):TS:=fun D σ H=>tv σ H fun y H1=>ta σ H1 fun x H2=>∃a C dx fs,x=.ref a/\H2 a=some (.ins C dx fs)/\Cls K C/\EY K C f/\fs.length<1000 /\
 D.nx σ (upd H2 a (.ins C dx (iB f y fs)))
section
variable {X:Cx}{o e value:Expr}{f:Str}{pos pos' tpos:Pos}{ta tv:TE}
theorem dW(he:PE X e ta)(hb:attributeBase e f X.env (eval e X.env)=eval e X.env):PE X (.Attribute e f pos) (vc X.K ta f):=by
 intro pins s σ H Q I h;refine qO hb (thn (he pins s σ H _ I h) fun u s1 hq32=>?_);obtain⟨x,H1,I1,rx,a,C,dx,fs,v,ex,ea,c,n,l,q⟩:=hq32;subst ex;obtain rfl:u=Value.ref a:=rx;exact jO I1 ea c n l fun u' s2 I2 ru=>⟨v,H1,I2,ru,q⟩
theorem pQ(ha:PE X o ta)(hv:PE X value tv)(hs:swapsWith value (some (.Attribute o f pos')) pos.line X.env=pure false):PS X (.Assign [.Attribute o f pos'] value pos) (sFld X.K ta tv f):=by
 intro pins s σ H D I h;refine plainObj_wpAny_Assign_Attribute (thn (hv pins s σ H _ I h) fun u s1 hq33=>?_) hs;obtain⟨y,H1,I1,ry,q⟩:=hq33;refine thn (ha pins s1 σ H1 _ I1 q) fun ov s2 ⟨x,H2,I2,rx,a,C,dx,fs,ex,ea,c,n,l,q2⟩=>?_;subst ex;obtain rfl:ov=Value.ref a:=rx;exact jE I2 ea c n l ry fun s3 I3=>⟨σ,_,I3,q2⟩
end
section
variable {X:Cx}{pins:List (Addr×Obj)}{σ:St}{H:Hp}{s:Shared}{A:Around}{E:Value->Shared->Prop}{Q:Value->Shared->Prop}{c:Value}{b:Bool}
inductive Ge(K:W.Frag)(H:Hp):V->Value->Prop where
 |non:Ge K H .non (.type "NoneType")
 |bl (x:Bool):Ge K H (.bl x) (.type "bool")
 |int (i:Int):Ge K H (.int i) (.type "int")
 |str (x:Str):Ge K H (.str x) (.type "str")
 |flt (x:UInt64):Ge K H (.flt x) (.type "float")
 |lst {a:Addr}{xs:List V} (e:H a=some (.lst xs)):Ge K H (.ref a) (.type "list")
 |frz {a:Addr}{o:Obj}{xs:List V} (e:H a=some (.frz o (.lst xs))):Ge K H (.ref a) (.type "list")
 |tup {a:Addr}{xs:List V} (e:H a=some (.tup xs)):Ge K H (.ref a) (.type "tuple")
 |dK {a:Addr}{kvs:List (Key×V)} (e:H a=some (.dK kvs)):Ge K H (.ref a) (.type "dict")
 |dT {a:Addr}{kvs:List (List Key×V)} (e:H a=some (.dT kvs)):Ge K H (.ref a) (.type "dict")
 |ins {a C dx:Addr}{fs:List (Str×V)} (e:H a=some (.ins C dx fs)) (cl:Cls K C) (ha:W.findIn K (.ref C) "__class__"=some (some (.builtin "object.__class__")))
   (hn:W.specialIn K (.builtin "object.__class__") "__get__"=some (some (.builtin "getset_descriptor.__get__"))) (htk:W.takesIn K (.builtin "object.__class__")=some true)
   (hm:W.mroIn K C (.type "object")=some true):Ge K H (.ref a) (.ref C)
theorem mv{x:V}{u t:Value}(I:Inv X pins σ H s)(rx:RelV x u)(ty:Ge X.K H x t)(e:W.kitOne X.K t c=some b)(h:∀tk,Q (.bool b) {s with toks:=tk}) :
  wpAny (model X.prog X.w) A (call (.builtin "isinstance") [u,c]) Q E s:=by
 cases ty with
 |non=>cases (show u=Value.none from rx);exact W.kia_one W.kitx_none I.kIn True.intro e (fun z=>nomatch z) h
 |bl y=>cases (show u=Value.bool y from rx);exact W.kia_one W.kitx_bool I.kIn True.intro e (fun z=>nomatch z) h
 |int i=>obtain⟨t,q⟩:=(show ∃t,u=Value.int i t from rx);cases q;exact W.kia_one W.kitx_int I.kIn True.intro e (fun z=>nomatch z) h
 |str y=>obtain⟨t,q⟩:=(show ∃t,u=Value.str y t from rx);cases q;exact W.kia_one W.kitx_str I.kIn True.intro e (fun z=>nomatch z) h
 |flt y=>obtain⟨t,q⟩:=(show ∃t,u=Value.float y t from rx);cases q;exact W.kia_one W.kitx_float I.kIn True.intro e (fun z=>nomatch z) h
 |@lst a xs ea=>
  cases (show u=Value.ref a from rx);obtain⟨_,_,n,_,h1⟩:=(show El X.prog X.w H s.heap a (.lst xs) from I.hok a _ ea)
  exact W.kia_one W.kitx_list I.kIn ⟨_,h1,rfl⟩ e (fun z=>nomatch z) h
 |@frz a ob xs ea=>
  cases (show u=Value.ref a from rx);obtain⟨_,_,_,n,_,h1⟩:=(show El X.prog X.w H s.heap a (.frz ob (.lst xs)) from I.hok a _ ea)
  exact W.kia_one W.kitx_list I.kIn ⟨_,h1,rfl⟩ e (fun z=>nomatch z) h
 |@tup a xs ea=>
  cases (show u=Value.ref a from rx);obtain⟨_,_,_,p⟩:=(show El X.prog X.w H s.heap a (.tup xs) from I.hok a _ ea)
  obtain⟨o,h1,h2,_⟩:=p;exact W.kia_one W.kitx_tuple I.kIn ⟨o,h1,h2⟩ e (fun z=>nomatch z) h
 |@dK a kvs ea=>
  cases (show u=Value.ref a from rx);obtain⟨_,_,vs,_,p⟩:=(show El X.prog X.w H s.heap a (.dK kvs) from I.hok a _ ea)
  obtain⟨o,es,ep,h1,h2,_⟩:=p;exact W.kia_one W.kitx_dict I.kIn ⟨o,h1,h2.1⟩ e (fun z=>nomatch z) h
 |@dT a kvs ea=>
  cases (show u=Value.ref a from rx);obtain⟨_,_,xs,_,o,es,ep,h1,h2,_⟩:=(show El X.prog X.w H s.heap a (.dT kvs) from I.hok a _ ea)
  exact W.kia_one W.kitx_dict I.kIn ⟨o,h1,h2.1⟩ e (fun z=>nomatch z) h
 |@ins a C dx fs ea cl ha hn htk hm=>
  cases (show u=Value.ref a from rx);obtain⟨mA,O,_⟩:=gg I.hok ea;obtain⟨od,J,_⟩:=O.look;exact W.kia_one (W.kitx_own (cl.get _) cl.hd ha hn htk hm) I.kIn J e (fun z=>nomatch z) h
end
structure EB(k:Nat)(A:Around):Prop where
 hd:A.handled=none
 dp:A.depth+3*k+5<recursionLimit
 un:A.units+16*k+200<cLine
theorem EB.mono{j k:Nat}{A:Around}(r:EB k A)(h:j<=k):EB j A:=⟨r.hd,by have:=r.dp;omega,by have:=r.un;omega⟩
theorem EB.deeper{k:Nat}{A:Around}(r:EB (k+1) A)(env:Env):EB k (A.deeper env):=
 ⟨r.hd,by have:=r.dp;show A.depth+1+3*k+5<_;omega,by have:=r.un;show A.units+3+16*k+200<_;omega⟩
theorem EB.in1{k:Nat}{A:Around}(r:EB (k+1) A):EB k A.in1:=
 ⟨r.hd,by have:=r.dp;show A.depth+3*k+5<_;omega,by have:=r.un;show A.units+1+16*k+200<_;omega⟩
theorem jT{A:Around}{C:Addr}{us:List Value}{kw:List (Str×Value)}:(A.under (.builtin "type.__call__" ⟨.ref C::us,kw⟩)).depth=A.depth+1:=by
 first|rfl|simp[Around.under,Code.weight,Code.isCreation,Code.isGuard,Code.isCaller,Code.frames,Code.isFrame,guardIds]
theorem jZ{A:Around}{C:Addr}{us:List Value}{kw:List (Str×Value)}:(A.under (.builtin "type.__call__" ⟨.ref C::us,kw⟩)).units=A.units+1:=by
 first|rfl|simp[Around.under,Code.cUnits,Code.frames,Code.isFrame]
theorem EB.make{k:Nat}{A:Around}(r:EB (k+1) A)(C:Addr)(us:List Value)(kw:List (Str×Value)):EB k (A.under (.builtin "type.__call__" ⟨.ref C::us,kw⟩)):=
 ⟨r.hd,by have:=r.dp;rw[jT];omega,by have:=r.un;rw[jZ];omega⟩
theorem EB.depth{k:Nat}{A:Around}(r:EB k A):A.depth<recursionLimit:=by have:=r.dp;omega
theorem EB.units{k:Nat}{A:Around}(r:EB k A):A.units+64<cLine:=by have:=r.un;omega
def He:TA:=fun _ H Q=>Q [] H
def fX (ta:TE)(tr:TA):TA:=fun σ H Q=>ta σ H fun x H1=>tr σ H1 fun xs H2=>Q (x::xs) H2
section
variable {X:Cx}{e:Expr}{es:List Expr}{te:TE}{t:TA}{pos:Pos}
theorem Ed:PA X [] He:=fun _ _ _ _ H Q I h=>Calls.spliced_nil ⟨[],H,I,.nil,h⟩
theorem aa(ha:PE X e te)(hr:PA X es t)(hs:starEach (e::es) X.env=(false,eval e X.env)::starEach es X.env:=by rfl):PA X (e::es) (fX te t):=by
 intro pos pins s σ H Q I h;rw[hs];show wpAny _ _ (spliced ((false,eval e X.env)::backTo pos (starEach es X.env))) _ _ s;refine Calls.spliced_cons (thn (ha pins s σ H _ I h) fun u s1 hq34=>?_);obtain⟨x,H1,I1,r1,q1⟩:=hq34;refine thn (hr pos pins s1 σ H1 _ I1 q1) fun us s2 hq35=>?_;obtain⟨xs,H2,I2,r2,q2⟩:=hq35;exact⟨x::xs,H2,I2,.cons r1 r2,q2⟩
def tTup (t:TA):TE:=fun σ H Q=>t σ H fun xs H1=>xs.length<=sizeLine/\∀p,H1 p=none->Q (.ref p) (upd H1 p (.tup xs))
def tLst (t:TA):TE:=fun σ H Q=>t σ H fun xs H1=>xs.length<=sizeLine/\∀p,H1 p=none->Q (.ref p) (upd H1 p (.lst xs))
theorem aP{x1}(h:PA X es t):PE X (.Tuple es x1 pos) (tTup t):=by
 intro pins s σ H Q I hq;refine wpAny_Tuple_spliced (thn (h pos pins s σ H _ I hq) fun us s1 hq36=>?_);obtain⟨xs,H1,I1,r,z,q⟩:=hq36;refine⟨by rw[<- r.length];exact z,?_⟩;have hf:H1 s1.heap.objs.size=none:=I1.hok.fresh (zX _);refine⟨.ref s1.heap.objs.size,upd H1 s1.heap.objs.size (.tup xs),I1.laid (t':=s1.toks) (fun b u e=>DE _ e) (zX _) ?_,rfl,q _ hf⟩;exact⟨z,us,r,⟨_,DG _ rfl,rfl,_,rfl⟩⟩
theorem bb(h:PA X es t):PE X (.List es pos) (tLst t):=by
 intro pins s σ H Q I hq;refine wpAny_List_spliced (thn (h pos pins s σ H _ I hq) fun us s1 hq37=>?_);obtain⟨xs,H1,I1,r,z,q⟩:=hq37;refine⟨by rw[<- r.length];exact z,?_⟩;have hf:H1 s1.heap.objs.size=none:=I1.hok.fresh (zX _);refine⟨.ref s1.heap.objs.size,upd H1 s1.heap.objs.size (.lst xs),I1.laid (t':=s1.toks) (fun b u e=>DE _ e) (zX _) ?_,rfl,q _ hf⟩;exact⟨z,us,0,r,DG _ rfl⟩
end
abbrev Sp:=List V->Hp->VK->XK->Prop
abbrev CXT:=List Env->Hp->Shared->XK->Value->Shared->Prop
structure Hy(P:Program)(w:World)(K:W.Frag)(mg:Str->Option Value)(base:Heap)(A:Around)(outer:List Env)(s:Shared)(H:Hp):Prop where
 frames:A.frames=some outer
 mod:Mod K mg base
 bs:∀b o,base.get? b=some o->s.heap.get? b=some o/\H b=none
 bsz:base.objs.size<=s.heap.objs.size
 FV:s.heap.FunFrames base outer
 frf:∀b∈frs outer,H b=none
 hok:HOk P w H s.heap
 bare:AllBare s.gens
def CE (outer:List Env)(P:Program)(w:World)(H:Hp)(s:Shared)(Q:VK)(u:Value)(s':Shared):Prop:=
 ∃v H',s'.os=s.os/\AllBare s'.gens/\Un (frs outer) [] H H' s.heap s'.heap/\HOk P w H' s'.heap/\RelV v u/\Q v H'
def CR (CX:CXT)(outer:List Env)(P:Program)(w:World)(H:Hp)(s:Shared)(Q:VK)(E:XK)(r:Result)(s':Shared):Prop:=
 match r with
 |.ok (.ret u)=>CE outer P w H s Q u s'
 |.ok _=>False
 |.error e=>CX outer H s E e s'
structure DY(P:Program)(w:World)(K:W.Frag)(mg:Str->Option Value)(base:Heap)(CX:CXT)(k:Nat)(f:Addr)(fd:FuncData)(ps:List Str)(sp:Sp):Prop where
 len:∀vs H Q E,sp vs H Q E->vs.length=ps.length
 run:∀(A:Around)(outer:List Env)(s:Shared)(H:Hp)(args:Args)(us:List Value)(vs:List V)(Q:VK)(E:XK),EB k A->Hy P w K mg base A outer s H->BindsTo s fd args (ps.zip us)->Vals vs us->sp vs H Q E ->
  codeAny (model P w) A (.call (.ref f) args) (CR CX outer P w H s Q E) s
theorem DY.mono{P:Program}{w:World}{K:W.Frag}{mg:Str->Option Value}{base:Heap}{CX:CXT}{j k:Nat}{f:Addr}{fd:FuncData}{ps:List Str}{sp:Sp}(F:DY P w K mg base CX j f fd ps sp)(h:j<=k) :
  DY P w K mg base CX k f fd ps sp:=⟨F.len,fun A outer s H args us vs Q E hr=>F.run A outer s H args us vs Q E (hr.mono h)⟩
theorem Hy.make{P:Program}{w:World}{K:W.Frag}{mg:Str->Option Value}{base:Heap}{A:Around}{outer:List Env}{s:Shared}{H:Hp}(e:Hy P w K mg base A outer s H)(C:Addr)(us:List Value)(kw:List (Str×Value)) :
  Hy P w K mg base (A.under (.builtin "type.__call__" ⟨.ref C::us,kw⟩)) outer s H:=⟨by first|exact e.frames|(simpa [Around.under,Code.envs,Code.isFrame,pushEnvs] using e.frames),e.mod,e.bs,e.bsz,e.FV,e.frf,e.hok,e.bare⟩
theorem Hy.in1{P:Program}{w:World}{K:W.Frag}{mg:Str->Option Value}{base:Heap}{A:Around}{outer:List Env}{s:Shared}{H:Hp}(e:Hy P w K mg base A outer s H) :
  Hy P w K mg base A.in1 outer s H:=⟨e.frames,e.mod,e.bs,e.bsz,e.FV,e.frf,e.hok,e.bare⟩
section
variable {X:Cx}{pins:List (Addr×Obj)}{σ:St}{H:Hp}{s s':Shared}
theorem Inv.Jg(I:Inv X pins σ H s):Hy X.prog X.w X.K X.mg X.base X.A X.stack s H:=
 ⟨I.ok.frames,I.ok.mod,I.bs,Ap I.ok.bsz I.sz,I.stack,I.Gh,I.hok,I.bare⟩
theorem Inv.after{Q:VK}{u:Value}(I:Inv X pins σ H s)(h:CE X.stack X.prog X.w H s Q u s'):EP X pins σ Q u s':=by
 obtain⟨v,H',os,bare,un,hok,r,q⟩:=h;obtain⟨hh,g,d,t,os'⟩:=s';obtain rfl:os'=s.os:=os;exact⟨v,H',I.call (h':=hh) (g':=g) (d':=d) (t':=t) (ch:=[]) un hok bare (fun b z=>absurd z (by simp)),r,q⟩
end
def oo (sp:Sp)(dvs:List V)(E:XK)(t:TA):TE:=fun σ H Q=>t σ H fun vs H1=>sp (vs++dvs) H1 Q E
def ub (C:Addr)(m:Str)(sp:Sp)(dvs:List V)(E:XK)(ta:TE)(t:TA):TE:=fun σ H Q=>ta σ H fun x H1=>∃a dx fs,x=.ref a/\H1 a=some (.ins C dx fs)/\fs.lookup m=none /\
 t σ H1 fun vs H2=>sp (x::(vs++dvs)) H2 Q E
def uC (C:Addr)(sp:Sp)(dvs:List V)(E:XK)(t:TA):TE:=fun σ H Q=>t σ H fun vs H1=>∀x dx,H1 x=none->H1 dx=none->dx≠x ->
 sp (.ref x::(vs++dvs)) (upd (upd H1 dx (.own x)) x (.ins C dx [])) (fun v H2=>v=.non/\Q (.ref x) H2) E
def Binds(K:W.Frag)(fd:FuncData)(ps:List Str)(ds:List Value):Prop:=
 ∀(s:Shared)(us:List Value),K.In s.heap->(us++ds).length=ps.length->BindsTo s fd ⟨us,[]⟩ (ps.zip (us++ds))
theorem Binds.all{K:W.Frag}{fd:FuncData}{ps:List Str}(h:∀us:List Value,us.length=ps.length->bindArgs fd ⟨us,[]⟩=pure (ps.zip us)):Binds K fd ps []:=fun s us _ hl=>by
 rw[AC] at hl ⊢;exact .of_eq (h us hl)
def eX (CX:CXT)(X:Cx)(E:XK):Prop:=∀(pins:List (Addr×Obj))(σ:St)(H:Hp)(s:Shared)(e:Value)(s':Shared),Inv X pins σ H s->CX X.stack H s E e s'->X.xe e s'
section
variable {X:Cx}{CX:CXT}{k:Nat}{f C:Addr}{fd:FuncData}{ps:List Str}{sp:Sp}{dvs:List V}{ds:List Value}{E:XK}{x m:Str}{p pos apos:Pos}{e o:Expr}{es:List Expr}{ta:TE}{t:TA}
theorem pV{pins:List (Addr×Obj)}{σ:St}{H:Hp}{s:Shared}{Q:VK}{us:List Value}{vs:List V}(F:DY X.prog X.w X.K X.mg X.base CX k f fd ps sp)(hr:EB k X.A)(hb:Binds X.K fd ps ds)(hd:Vals dvs ds)(hx:eX CX X E)
  (I:Inv X pins σ H s)(r:Vals vs us)(h:sp (vs++dvs) H Q E):wpAny (model X.prog X.w) X.A (call (.ref f) us) (EP X pins σ Q) X.xe s:=by
 have r2:Vals (vs++dvs) (us++ds):=r.append hd;have hl:(us++ds).length=ps.length:=by rw[<- r2.length];exact F.len _ _ _ _ h
 refine wpAny_call (codeAny_mono (F.run X.A X.stack s H ⟨us,[]⟩ (us++ds) (vs++dvs) Q E hr I.Jg (hb s us I.kIn hl) r2 h) fun r s' hq=>?_);cases r with
 |error e=>exact hx pins σ H s e s' I hq
 |ok fl=>
  cases fl with
  |ret u=>exact I.after hq
  |next=>exact False.elim hq
  |brk=>exact False.elim hq
  |cont=>exact False.elim hq
theorem jb(F:DY X.prog X.w X.K X.mg X.base CX k f fd ps sp)(hr:EB k X.A)(hg:Gl X x)(hm:X.mg x=some (.ref f))(hk:W.keepIn X.K (.ref f)=true)(hb:Binds X.K fd ps ds)(hd:Vals dvs ds)(hx:eX CX X E)
  (ha:PA X (e::es) t)(hdb:(x==("__debug__":Str))=false:=by decide)(he:starEach (e::es) X.env=(false,eval e X.env)::starEach es X.env:=by rfl)(hpl:(backTo pos (starEach es X.env)).any (·.1)=false:=by rfl) :
  PE X (.Call (.Name x p) (e::es) [] pos) (oo sp dvs E t):=by
 intro pins s σ H Q I h;refine wpAny_Call_Name_kw (cW I hg hm ?_ hdb);refine W.callWith_K (h₀:=X.base) I.ok.mod.kin hk (thn (ha pos pins s σ H _ I h) fun us s1 hq38=>?_) he hpl;obtain⟨vs,H1,I1,r,q⟩:=hq38;refine⟨I1.kIn,?_⟩;exact pV F hr hb hd hx I1 r q
theorem aW{pl:Sem Bool}(he:PE X o ta)(c:Cls X.K C)(hm:Meth X.K C m f)(F:DY X.prog X.w X.K X.mg X.base CX k f fd ps sp)(hr:EB k X.A)(hb:Binds X.K fd ps ds)(hd:Vals dvs ds)(hx:eX CX X E)
  (ht:eval (.Call (.Attribute o m apos) [] [] pos) X.env=(do
   let ov <- eval o X.env
   standAt apos.atName
   let (f,first) <- holding [ov] (getMethod ov m pl)
   callWith pos f first (backTo pos (starEach [] X.env)) (backToKw pos (keywordEach [] X.env))):=by rfl) :
  PE X (.Call (.Attribute o m apos) [] [] pos) (ub C m sp dvs E ta He):=by
 intro pins s σ H Q I h;refine W.methodCall_KW (pl:=pl) (thn (he pins s σ H _ I h) fun u s1 hq39=>?_) ht;obtain⟨x,H1,I1,rx,a,dx,fs,ex,ea,l,q⟩:=hq39;subst ex;obtain rfl:u=Value.ref a:=rx;refine dP I1 ea c hm l ?_;exact W.callWith_K0 (first:=[.ref a]) I1.kIn hm.kp (pV (us:=[.ref a]) (vs:=[.ref a]) F hr hb hd hx I1 (.cons rfl .nil) q)
structure Mk(K:W.Frag)(C f:Addr):Prop where
 makes:W.makesIn K C=true
 init:W.findIn K (.ref C) "__init__"=some (some (.ref f))
 fn:W.isFn K (.ref f)=true
 kp:W.keepIn K (.ref C)=true
theorem nU{pins:List (Addr×Obj)}{σ:St}{H:Hp}{s:Shared}{Q:VK}{us:List Value}{vs:List V}(M:Mk X.K C f)(F:DY X.prog X.w X.K X.mg X.base CX k f fd ps sp)(hr:EB (k+1) X.A)(hb:Binds X.K fd ps ds)(hd:Vals dvs ds)
  (hx:eX CX X E)(I:Inv X pins σ H s)(r:Vals vs us)
  (h:∀x dx,H x=none->H dx=none->dx≠x->sp (.ref x::(vs++dvs)) (upd (upd H dx (.own x)) x (.ins C dx [])) (fun v H2=>v=.non/\Q (.ref x) H2) E) :
  wpAny (model X.prog X.w) X.A (call (.ref C) us) (EP X pins σ Q) X.xe s:=by
 have hq:=h (s.heap.objs.size+1) s.heap.objs.size (I.hok.fresh (Bb _)) (I.hok.fresh (zX _)) (Ac (AY _));have I2:=Inv.made (C:=C) I;have r2:Vals (V.ref (s.heap.objs.size+1)::(vs++dvs)) (Value.ref (s.heap.objs.size+1)::(us++ds)):=.cons rfl (r.append hd);have hl:(Value.ref (s.heap.objs.size+1)::us++ds).length=ps.length:=by
  have e:=r2.length;rw[F.len _ _ _ _ hq] at e;exact e.symm
 refine wpAny_call (nV (f:=f) I.kIn M.makes M.init (DP.mp M.fn) (codeAny_mono (F.run _ X.stack _ _ ⟨Value.ref (s.heap.objs.size+1)::us,[]⟩ (Value.ref (s.heap.objs.size+1)::(us++ds)) _ _ E (hr.make C us [])
  (I2.Jg.make C us []) (hb _ (Value.ref (s.heap.objs.size+1)::us) I2.kIn hl) r2 hq) fun r s' hq'=>?_))
 cases r with
 |error e=>exact hx pins σ _ _ e s' I2 hq'
 |ok fl=>
  cases fl with
  |ret u=>
   obtain⟨v,H',I3,rv,ev,q3⟩:=I2.after hq';subst ev;exact⟨rv,⟨V.ref (s.heap.objs.size+1),H',I3,rfl,q3⟩⟩
  |next=>exact False.elim hq'
  |brk=>exact False.elim hq'
  |cont=>exact False.elim hq'
theorem kJ(M:Mk X.K C f)(F:DY X.prog X.w X.K X.mg X.base CX k f fd ps sp)(hr:EB (k+1) X.A)(hg:Gl X x)(hm:X.mg x=some (.ref C))(hb:Binds X.K fd ps ds)(hd:Vals dvs ds)(hx:eX CX X E)
  (ha:PA X (e::es) t)(hdb:(x==("__debug__":Str))=false:=by decide)(he:starEach (e::es) X.env=(false,eval e X.env)::starEach es X.env:=by rfl)(hpl:(backTo pos (starEach es X.env)).any (·.1)=false:=by rfl) :
  PE X (.Call (.Name x p) (e::es) [] pos) (uC C sp dvs E t):=by
 intro pins s σ H Q I h;refine wpAny_Call_Name_kw (cW I hg hm ?_ hdb);refine W.callWith_K (h₀:=X.base) I.ok.mod.kin M.kp (thn (ha pos pins s σ H _ I h) fun us s1 hq40=>?_) he hpl;obtain⟨vs,H1,I1,r,q⟩:=hq40;refine⟨I1.kIn,?_⟩;exact nU M F hr hb hd hx I1 r q
end
def PK (X:Cx)(kws:List Keyword)(t:TA):Prop:=
 ∀(pos:Pos)(pins:List (Addr×Obj))(s:Shared)(σ:St)(H:Hp)(Q:List V->Hp->Prop),Inv X pins σ H s->t σ H Q->wpAny (model X.prog X.w) X.A (evalAll ((backToKw pos (keywordEach kws X.env)).map (·.2))) (AP X pins σ Q) X.xe s
section
variable {X:Cx}{CX:CXT}{k:Nat}{f C:Addr}{fd:FuncData}{ps ks:List Str}{sp:Sp}{E:XK}{x m:Str}{p pos apos kpos:Pos}{e o:Expr}{es:List Expr}{kws:List Keyword}{te ta:TE}{t tk:TA}{nm:Option Str}
theorem JL:PK X [] He:=fun _ _ _ _ H Q I h=>wpAny_evalAll_nil ⟨[],H,I,.nil,h⟩
theorem lW(ha:PE X e te)(hr:PK X kws t):PK X (⟨nm,e,kpos⟩::kws) (fX te t):=by
 intro pos pins s σ H Q I h;show wpAny _ _ (evalAll ((do let v <- eval e X.env;standAt pos;pure v)::(backToKw pos (keywordEach kws X.env)).map (·.2))) _ _ s;refine wpAny_evalAll_cons (Dd (thn (ha pins s σ H _ I h) fun u s1 hq41=>?_));obtain⟨x,H1,I1,r1,q1⟩:=hq41;refine Dd (wpAny_standAt (De ?_));refine thn (hr pos pins s1 σ H1 _ I1 q1) fun us s2 hq42=>?_;obtain⟨xs,H2,I2,r2,q2⟩:=hq42;exact⟨x::xs,H2,I2,.cons r1 r2,q2⟩
structure KD(K:W.Frag)(fd:FuncData)(ps ks:List Str)(g:List Value->List Value->List Value)(gV:List V->List V->List V):Prop where
 to:∀(s:Shared)(us ws:List Value),K.In s.heap->(g us ws).length=ps.length->BindsTo s fd ⟨us,ks.zip ws⟩ (ps.zip (g us ws))
 rel:∀{vs:List V}{us:List Value}{zs:List V}{ws:List Value},Vals vs us->Vals zs ws->Vals (gV vs zs) (g us ws)
variable {g:List Value->List Value->List Value}{gV:List V->List V->List V}
end
structure DT(N P:List Str)(sc:Scope):Prop where
 kind:sc.kind=.function
 co:sc.isCoroutine=false
 gen:sc.isGenerator=false
 nd:N.Nodup
 pre:N.take P.length=P
 par:∀x∈P,sc.names.lookup x=some .local\/sc.names.lookup x=some .cell
 Jz:∀y∈sc.names,y.2≠.free
theorem hU{kindOf:Str->Option NameKind}{x:Str}:∀{binds:List (Str×Value)}{m:Str->Option Value},(∀v,(x,v)∉binds)->bindL kindOf binds m x=m x
 |[],_,_=>rfl
 |(n,v)::r,m,h=>by
  unfold bindL;rw[hU fun w hw=>h w (AE _ hw)];split
  ·have:x≠n:=by rintro rfl;exact h v Aq
   simp[this]
  ·rfl
theorem gq{kindOf:Str->Option NameKind}{x:Str}:∀{binds:List (Str×Value)}{m:Str->Option Value},(∀v,(x,v)∉binds)->bindC kindOf binds m x=m x
 |[],_,_=>rfl
 |(n,v)::r,m,h=>by
  unfold bindC;rw[gq fun w hw=>h w (AE _ hw)];split
  ·rfl
  ·have:x≠n:=by rintro rfl;exact h v Aq
   simp[this]
theorem gy{kindOf:Str->Option NameKind}{x:Str}{v:Value}:∀{P:List Str}{vs:List Value}{i:Nat}{m:Str->Option Value},P.Nodup->P[i]?=some x->vs[i]?=some v->kindOf x=some .local ->
  bindL kindOf (P.zip vs) m x=some v
 |[],_,_,_,_,h,_,_=>by simp at h
 |_::_,[],_,_,_,_,h,_=>by simp at h
 |p::P,w::vs,0,m,nd,h1,h2,hk=>by
  simp at h1 h2;subst h1;subst h2;show bindL kindOf ((p,w)::P.zip vs) m p=_;unfold bindL;rw[hU fun v hv=>(BV.mp nd).1 (Cf hv).1,Di hk];simp
 |p::P,w::vs,i+1,m,nd,h1,h2,hk=>by
  show bindL kindOf ((p,w)::P.zip vs) m x=_;unfold bindL;exact gy (i:=i) (BV.mp nd).2 (by simpa using h1) (by simpa using h2) hk
theorem gQ{kindOf:Str->Option NameKind}{x:Str}{v:Value}:∀{P:List Str}{vs:List Value}{i:Nat}{m:Str->Option Value},P.Nodup->P[i]?=some x->vs[i]?=some v->kindOf x≠some .local ->
  bindC kindOf (P.zip vs) m x=some v
 |[],_,_,_,_,h,_,_=>by simp at h
 |_::_,[],_,_,_,_,h,_=>by simp at h
 |p::P,w::vs,0,m,nd,h1,h2,hk=>by
  simp at h1 h2;subst h1;subst h2;show bindC kindOf ((p,w)::P.zip vs) m p=_;unfold bindC;rw[gq fun v hv=>(BV.mp nd).1 (Cf hv).1,Dh hk];simp
 |p::P,w::vs,i+1,m,nd,h1,h2,hk=>by
  show bindC kindOf ((p,w)::P.zip vs) m x=_;unfold bindC;exact gQ (i:=i) (BV.mp nd).2 (by simpa using h1) (by simpa using h2) hk
def start(N:List Str)(vs:List V):St:=vs.map some++List.replicate (N.length-vs.length) none
def bD (CX:CXT)(P:Program)(w:World)(K:W.Frag)(mg:Str->Option Value)(base:Heap)(N:List Str)(qual:Str)(scope:Scope)(f:Addr)(cd:Value)(A:Around)(outer:List Env)(s:Shared)(H:Hp)(E:XK):Cx where
 prog:=P
 w:=w
 K:=K
 mg:=mg
 base:=base
 A:=A.deeper (envOfC qual scope s.heap.objs.size f cd)
 N:=N
 s₀:=s
 H₀:=H
 env:=envOfC qual scope s.heap.objs.size f cd
 outer:=outer
 stack:=envOfC qual scope s.heap.objs.size f cd::outer
 ex:=[]
 calm:=A.handled.isNone
 fn:=fun _=>true
 pn:=[]
 xe:=fun e s'=>wpAny (model P w) (A.deeper (envOfC qual scope s.heap.objs.size f cd)) (leaving (envOfC qual scope s.heap.objs.size f cd) e) (fun _ s''=>CX outer H s E e s'') (fun e' s''=>CX outer H s E e' s'') s'
theorem jl{sc:Scope}{n:Nat}{x:Str}(h:sc.names.lookup x=some .cell):∃c,(cellsFrom n sc.names []).lookup x=some c:=by
 have q:=W.cellsFrom_some sc.names n [] (.inl h);exact Bv.mp q
theorem iy{CX:CXT}{P:Program}{w:World}{K:W.Frag}{mg:Str->Option Value}{base:Heap}{N ps:List Str}{qual:Str}{scope:Scope}{f:Addr}{cd:Value}{A:Around}{outer:List Env}{s s1:Shared}{H:Hp}{E:XK}{us:List Value}{vs:List V}
  (S:DT N ps scope)(e0:Hy P w K mg base A outer s H)(hl:vs.length=ps.length)(r:Vals vs us)
  (x:InCallC s s.heap.objs.size (bindL (envOfC qual scope s.heap.objs.size f cd).kindOf (ps.zip us) fun _=>none) (cellsFrom (s.heap.objs.size+1) scope.names []) (bindC (envOfC qual scope s.heap.objs.size f cd).kindOf (ps.zip us) fun _=>none) s1) :
  Inv (bD CX P w K mg base N qual scope f cd A outer s H E) [] (start N vs) H s1:=by
 have hpl:ps.length<=N.length:=by have:=congrArg List.length S.pre;rw[Af] at this;omega
 obtain⟨h1,tk,rfl,hk⟩:=x.done;have noA:∀b:Addr,b∉(bD CX P w K mg base N qual scope f cd A outer s H E).ex:=fun b z=>absurd (show b∈([]:List Addr) from z) (by simp)
 refine⟨⟨e0.mod,S.kind,rfl,rfl,zX _,fun y z c h1 h2=>?_,fun y hy=>?_,fun y c _ h=>?_,fun h=>Option.isNone_iff_eq_none.mp h,Around.frames_deeper e0.frames,.inr ⟨rfl,rfl⟩,fun b z=>absurd z (noA b),e0.bs,e0.bsz,fun b _ _=>noA b,fun b z=>absurd z (noA b),e0.FV,e0.frf⟩,
  rfl,e0.bare,Un.kept hk,⟨_,x.toInCall.ns,fun i y v h1 h2 h3=>?_⟩,fun y c h=>⟨_,x.cell y c h⟩,e0.hok.fresh (zX _),fun y c h=>?_,fun p hp=>absurd (show p∈([]:List (Addr×Obj)) from hp) (by simp),e0.hok.kept hk,?_⟩
 ·exact name_of_addr x.apart (PySem.mem_of_lookup h1) (PySem.mem_of_lookup h2)
 ·have hy:scope.names.lookup y=some .cell\/scope.names.lookup y=some .free:=hy;rcases hy with hy|hy
  ·exact jl hy
  ·exact absurd rfl (S.Jz _ (PySem.mem_of_lookup hy))
 ·exact AW (x.above y c (PySem.mem_of_lookup h))
 ·have hi:i<vs.length:=by
   unfold start at h2;by_cases hi:i<vs.length
   ·exact hi
   ·rw[AZ (by simpa using hi)] at h2;rw[Cv] at h2;split at h2<;>cases h2
  have ha:vs[i]?=some v:=by
   unfold start at h2;rw[Bw (by simpa using hi),Aj] at h2;cases e:vs[i]? with
   |none=>rw[e] at h2;cases h2
   |some a=>rw[e] at h2;cases h2;rfl
  obtain⟨u,hu,rv⟩:=r.get ha;have hp:ps[i]?=some y:=by
   rw[<- S.pre,Bh (by omega)];exact h1
  have ndP:ps.Nodup:=by rw[<- S.pre];exact S.nd.sublist (List.take_sublist _ _)
  refine⟨u,rv,?_⟩;rcases S.par y (Am hp) with k|k
  ·exact .inl ⟨k,gy ndP hp hu k⟩
  ·obtain⟨c,e⟩:=jl (n:=s.heap.objs.size+1) k;refine .inr ⟨.inl k,c,e,?_⟩;have q:=x.cell y c e;rw[gQ ndP hp hu (by show scope.names.lookup y≠_;rw[k];decide)] at q;exact q
 ·exact e0.hok.fresh (AW (x.above y c (PySem.mem_of_lookup h)))
 ·unfold start;show _=N.length;rw[zZ,zY,Bx];omega
theorem rE{CX:CXT}{P:Program}{w:World}{K:W.Frag}{mg:Str->Option Value}{base:Heap}{k:Nat}{f:Addr}{name qual:Str}{params:Arguments}{body:List Stmt}{scope:Scope}{dV kV doc pm cdv ct oc:Value}{an od:Option Addr}
  {osl:Array (Option Value)}{N ps:List Str}{sp:Sp}(lk:K.lookup f=some ⟨oc,od,.func (W.fnOf name qual params body scope dV kV doc pm an cdv ct),osl⟩)(hcd:W.codeIn K cdv qual=true)(S:DT N ps scope)
  (len:∀vs H Q E,sp vs H Q E->vs.length=ps.length)
  (hbody:∀(A:Around) (outer:List Env) (s:Shared) (H:Hp) (vs:List V) (Q:VK) (E:XK),EB k (A.deeper (envOfC qual scope s.heap.objs.size f cdv))->sp vs H Q E ->
   ∃t,PSs (bD CX P w K mg base N qual scope f cdv A outer s H E) body t/\t { nx:=fun _ H'=>Q .non H',rt:=Q } (start N vs) H) :
  DY P w K mg base CX (k+1) f (W.fnOf name qual params body scope dV kV doc pm an cdv ct) ps sp:=by
 refine⟨len,fun A outer s H args us vs Q E hr e0 hb r hsp=>?_⟩;have hl:=len _ _ _ _ hsp;have KX:K.In s.heap:=e0.mod.kin.keeps fun b o e=>(e0.bs b o e).1;have lim:s.heap.NoLimit:=e0.mod.nolimit.keeps fun b o e=>(e0.bs b o e).1;have hkind:∀y∈ps.zip us,scope.names.lookup y.1=some .local\/(scope.names.lookup y.1=some .cell/\((cellsFrom (s.heap.objs.size+1) scope.names []).lookup y.1).isSome=true):=fun⟨n,v⟩ hy=>by
  rcases S.par n (Cf hy).1 with q|q
  ·exact .inl q
  ·exact .inr ⟨q,W.cellsFrom_some _ _ _ (.inl q)⟩
 refine codeAny_call_function hr.depth (KX _ _ lk) rfl S.co S.gen rfl (W.codeRec_of KX hcd) (hb _ _ _ _ ?_);refine wpAny_newFunctionEnv_cells S.kind hkind fun env he s1 x=>?_;subst he;refine⟨lim.keeps x.toInCall.keep,codeAny_func ?_⟩;obtain⟨t,ht,hq⟩:=hbody A outer s H vs Q E (hr.deeper _) hsp;have I:Inv (bD CX P w K mg base N qual scope f cdv A outer s H E) [] (start N vs) H s1:=iy S e0 hl r x;refine Dl (ht [] s1 (start N vs) H _ I hq) (fun fl s' hs=>?_) fun e s' hs=>hs;have fin:∀{σ':St}{H':Hp}{v:V}{u:Value},Inv (bD CX P w K mg base N qual scope f cdv A outer s H E) [] σ' H' s'->RelV v u->Q v H'->CE outer P w H s Q u s':=
  fun {σ' H' v u} J rv q=>⟨v,H',J.os,J.bare,J.base,J.hok,rv,q⟩
 cases fl with
 |ret u=>
  obtain⟨v,σ',H',J,rv,q⟩:=hs;exact fin J rv q
 |next=>
  obtain⟨σ',H',J,q⟩:=hs;exact fin (v:=V.non) (u:=Value.none) J rfl q
 |brk=>
  obtain⟨_,_,_,q⟩:=hs;exact False.elim q
 |cont=>
  obtain⟨_,_,_,q⟩:=hs;exact False.elim q
section
variable {X:Cx}{x:Str}{p pos:Pos}{e:Expr}{es:List Expr}{t:TA}{id T:String}{r:List V->Hp->VK->Prop}
def tCB (r:List V->Hp->VK->Prop)(t:TA):TE:=fun σ H Q=>t σ H fun vs H1=>r vs H1 Q
theorem aF(hc:dJ X (.builtin id) r)(hg:Gl X x)(hm:X.mg x=none)(hv:bootBuiltins x=some (.builtin id))(ha:PA X (e::es) t)(hn:x≠"__name__":=by decide)(hdb:(x==("__debug__":Str))=false:=by decide)
  (he:starEach (e::es) X.env=(false,eval e X.env)::starEach es X.env:=by rfl)(hpl:(backTo pos (starEach es X.env)).any (·.1)=false:=by rfl):PE X (.Call (.Name x p) (e::es) [] pos) (tCB r t):=by
 intro pins s σ H Q I h;refine wpAny_Call_Name_kw (cB I hg hm hv ?_ hn hdb);refine PyProof.Rows.callWith_builtin1 (thn (ha pos pins s σ H _ I h) fun us s1 hq43=>?_) he hpl;obtain⟨vs,H1,I1,r1,q1⟩:=hq43;exact hc pins s1 σ H1 vs us Q I1 r1 q1
theorem gZ(hc:dJ X (.type T) r)(hg:Gl X x)(hm:X.mg x=none)(hv:bootBuiltins x=some (.type T))(ha:PA X (e::es) t)(hn:x≠"__name__":=by decide)(hdb:(x==("__debug__":Str))=false:=by decide)
  (he:starEach (e::es) X.env=(false,eval e X.env)::starEach es X.env:=by rfl)(hpl:(backTo pos (starEach es X.env)).any (·.1)=false:=by rfl):PE X (.Call (.Name x p) (e::es) [] pos) (tCB r t):=by
 intro pins s σ H Q I h;refine wpAny_Call_Name_kw (cB I hg hm hv ?_ hn hdb);refine PyProof.Rows.callWith_type1 (thn (ha pos pins s σ H _ I h) fun us s1 hq44=>?_) he hpl;obtain⟨vs,H1,I1,r1,q1⟩:=hq44;exact hc pins s1 σ H1 vs us Q I1 r1 q1
end
end L2
namespace HT
open PySem PyProof.Rows
def lexLt:List Int->List Int->Bool
 |[],[]=>false
 |[],_::_=>true
 |_::_,[]=>false
 |x::xs,y::ys=>if x=y then lexLt xs ys else decide (x<y)
theorem Ej(x y:Int)(xs ys:List Int):lexLt (x::xs) (y::ys)=if x=y then lexLt xs ys else decide (x<y):=rfl
theorem Fz:lexLt [] []=false:=rfl
theorem Fn(y:Int)(ys:List Int):lexLt [] (y::ys)=true:=rfl
theorem Fl(x:Int)(xs:List Int):lexLt (x::xs) []=false:=rfl
theorem Gy(A:Around)(s:Shared)(a:Int)(t:Tok)(c:Int)(u:Tok):∃e,SeqAt.EqAt A s (.int a t) (.int c u) e/\(e=true↔a=c):=
 ⟨(a==c),SeqAt.EqAt.int_int a t c u,by simp⟩
theorem Gr(A:Around)(s:Shared)(a:Int)(t:Tok)(c:Int)(u:Tok)(prog:Program)(w:World)(E:Value->Shared->Prop)(Q:Value->Shared->Prop)(h:Q (.bool (decide (a<c))) s) :
  wpAny (model prog w) A (richCompare .Lt (.int a t) (.int c u)) Q E s:=
 (PyProof.Rows.lt_int h:wpAny (model prog w) A (compareOp .Lt (.int a t) (.int c u)) Q E s)
section
open PySem.SeqAt
open PySem.AutoSeq1 (wpAny_loadPart')
open PySem.MeetsSeq PySem.MeetsSeq2 PySem.MeetsSeq3
end
section
variable {prog:Program}{w:World}{A:Around}{E:Value->Shared->Prop}{s:Shared}
def sIx (n d:Nat):Option Int->Nat
 |none=>d
 |some v=>if v<0 then (v+(n:Int)).toNat else min v.toNat n
theorem GI(n d:Nat):sIx n d none=d:=rfl
theorem FH(n d k:Nat):sIx n d (some (k:Int))=min k n:=by
 show(if (k:Int)<0 then ((k:Int)+(n:Int)).toNat else min (k:Int).toNat n)=min k n;rw[Dh (by omega),AQ]
theorem Iz(n d:Nat)(hd:d<=n)(o:Option Int):sIx n d o<=n:=by
 cases o with
 |none=>exact hd
 |some v=>
  show(if v<0 then (v+(n:Int)).toNat else min v.toNat n)<=n;by_cases hv:v<0
  ·rw[Di hv];omega
  ·rw[Dh hv];exact Nat.min_le_right _ _
end
end HT
namespace L2
open PySem PySem.Spec PyProof.Rows
abbrev TO:=St->Hp->(Option Int->Hp->Prop)->Prop
def PO (X:Cx)(e:Option Expr)(t:TO):Prop:=
 ∀(pins:List (Addr×Obj))(s:Shared)(σ:St)(H:Hp)(Q:Option Int->Hp->Prop),Inv X pins σ H s->t σ H Q ->
  wpAny (model X.prog X.w) X.A (evalPart e X.env) (fun u s'=>∃o H',Inv X pins σ H' s'/\IsPart u o/\Q o H') X.xe s
def IX:TO:=fun _ H Q=>Q none H
def uK (t:TE):TO:=fun σ H Q=>t σ H fun x H1=>∃i,x=.int i/\Q (some i) H1
theorem fv{ns:List Int}:∀{us:List Value},Vals (ns.map V.int) us->IntsAre us ns:=by
 induction ns with
 |nil=>intro us r;rw[Cg] at r;cases r;exact .nil
 |cons n ns ih=>
  intro us r;rw[AH] at r;cases r with
  |cons r1 r2=>
   obtain⟨t,e⟩:=r1;subst e;exact .cons n t (ih r2)
section
variable {X:Cx}{e:Expr}{te:TE}{lo hi:Option Expr}{tl th:TO}{pos p2:Pos}
theorem Ei:PO X none IX:=by
 intro pins s σ H Q I h;rw[evalPart_none];exact De ⟨none,H,I,.none,h⟩
theorem br(h:PE X e te):PO X (some e) (uK te):=by
 intro pins s σ H Q I hw;rw[evalPart_some];refine thn (h pins s σ H _ I hw) fun u s1 hq45=>?_;obtain⟨x,H1,I1,r1,q1⟩:=hq45;obtain⟨i,rfl,q⟩:=q1;obtain⟨t,rfl⟩:=r1;exact⟨some i,H1,I1,.int i t,q⟩
def SlR (X:Cx)(r:V->Option Int->Option Int->Hp->VK->Prop):Prop:=
 ∀(pins:List (Addr×Obj))(s:Shared)(σ:St)(H:Hp)(x:V)(v vl vu:Value)(lo hi:Option Int)(sl:Addr)(Q:VK),Inv X pins σ H s->RelV x v->s.heap.IsSliceOf sl vl vu .none->IsPart vl lo->IsPart vu hi->r x lo hi H Q ->
  ∃T id,typeLookup (.type T) "__getitem__"=pure (some (.builtin id))/\s.TypeIs v T/\wpAny (model X.prog X.w) X.A (getItem v (.ref sl)) (EP X pins σ Q) X.xe s
def tSl (r:V->Option Int->Option Int->Hp->VK->Prop)(te:TE)(tl th:TO):TE:=fun σ H Q=>te σ H fun x H1=>tl σ H1 fun l H2=>th σ H2 fun u H3=>r x l u H3 Q
theorem aZ{r:V->Option Int->Option Int->Hp->VK->Prop}(hr:SlR X r)(he:PE X e te)(hl:PO X lo tl)(hu:PO X hi th):PE X (.Subscript e (.Slice lo hi none p2) pos) (tSl r te tl th):=by
 intro pins s σ H Q I h;refine Subscript_ (thn (he pins s σ H _ I h) fun v s1 hq46=>?_);obtain⟨x,H1,I1,r1,q1⟩:=hq46;refine wpAny_Slice (thn (hl pins s1 σ H1 _ I1 q1) fun vl s2 hq47=>?_);obtain⟨l,H2,I2,pl,q2⟩:=hq47;refine thn (hu pins s2 σ H2 _ I2 q2) fun vu s3 ⟨u,H3,I3,pu,q3⟩=>?_;rw[evalPart_none];refine De ?_;have I4:Inv X pins σ H3 {s3 with heap:=s3.heap.push {cls:=.type "slice",data:=.fields #[vl,vu,.none]}}:=I3.kept (t':=s3.toks) fun b ob q=>DE _ q;obtain⟨T,id,hT,ht,hg⟩:=hr pins {s3 with heap:=s3.heap.push {cls:=.type "slice",data:=.fields #[vl,vu,.none]}} σ H3 x v vl vu l u s3.heap.objs.size Q I4 r1 (Heap.IsSliceOf.new ..) pl pu q3;show wpAny (model X.prog X.w) X.A (subscriptTail e (.Slice lo hi none p2) v (.ref s3.heap.objs.size)) (EP X pins σ Q) X.xe {s3 with heap:=s3.heap.push {cls:=.type "slice",data:=.fields #[vl,vu,.none]}};exact tail_any (ops:=[.ref s3.heap.objs.size,v]) ht hT hg (by with_unfolding_all rfl)
def rA (xs:List V)(lo hi:Option Int):List V:=(xs.drop (HT.sIx xs.length 0 lo)).take (HT.sIx xs.length xs.length hi-HT.sIx xs.length 0 lo)
theorem iT(xs:List V)(lo hi:Option Int):(rA xs lo hi).length<=xs.length:=by
 unfold rA;rw[Af,AR];omega
end
def ixN (n:Nat)(i:Int):Option Nat:=if 0<=i then (if i<n then some i.toNat else none) else if -(n:Int)<=i then some (i+n).toNat else none
def atI {α:Type}(xs:List α)(i:Int):Option α:=(ixN xs.length i).bind fun j=>xs[j]?
theorem lI{n:Nat}{i:Int}{j:Nat}(h:ixN n i=some j):seqIndex? i n=some j/\j<n/\-(n:Int)<=i/\i<n:=by
 unfold ixN at h;by_cases h0:0<=i
 ·rw[Di h0] at h;by_cases h1:i<n
  ·rw[Di h1] at h;have e:i.toNat=j:=Dq h;exact⟨by rw[seqIndex_of h0 h1,e],by omega,by omega,h1⟩
  ·rw[Dh h1] at h;cases h
 ·rw[Dh h0] at h;by_cases h1:-(n:Int)<=i
  ·rw[Di h1] at h;have e:(i+n).toNat=j:=Dq h;exact⟨by rw[seqIndex_neg (by omega) h1,e],by omega,h1,by omega⟩
  ·rw[Dh h1] at h;cases h
theorem iR{α:Type}{xs:List α}{i:Int}{v:α}(h:atI xs i=some v):∃j,seqIndex? i xs.length=some j/\xs[j]?=some v/\j<xs.length/\-(xs.length:Int)<=i/\i<xs.length:=by
 unfold atI at h;cases e:ixN xs.length i with
 |none=>rw[e] at h;cases h
 |some j=>
  rw[e] at h;obtain⟨h1,h2,h3,h4⟩:=lI e;exact⟨j,h1,h,h2,h3,h4⟩
theorem aQ{α:Type}{xs:List α}{j:Nat}{v:α}(h:xs[j]?=some v):atI xs (j:Int)=some v:=by
 have hj:j<xs.length:=(Ad.mp h).1;have e:ixN xs.length (j:Int)=some j:=by
  unfold ixN;rw[Di (by omega),Di (by omega)];simp
 unfold atI;rw[e];exact h
def qI (b:Expr):Prop:=∀o i,subscripted b false o i=operate [o,i] (getItem o i)
def IxR (X:Cx)(r:R2):Prop:=
 ∀(value slice:Expr)(pins:List (Addr×Obj))(s:Shared)(σ:St)(H:Hp)(x y:V)(v u:Value)(Q:VK),Inv X pins σ H s->RelV x v->RelV y u->r x y H Q ->
  subscripted slice false v u=operate [v,u] (getItem v u)->wpAny (model X.prog X.w) X.A (subscriptTail value slice v u) (EP X pins σ Q) X.xe s
def MtR (X:Cx)(id:String)(r:V->List V->Hp->VK->Prop):Prop:=
 ∀(pins:List (Addr×Obj))(s:Shared)(σ:St)(H:Hp)(x:V)(xs:List V)(v:Value)(us:List Value)(Q:VK),Inv X pins σ H s->RelV x v->Vals xs us->r x xs H Q ->
  wpAny (model X.prog X.w) X.A (call (.builtin id) (v::us)) (EP X pins σ Q) X.xe s
section
variable {X:Cx}{a b:Expr}{ta tb:TE}{pos:Pos}
theorem aO{r:R2}(hr:IxR X r)(ha:PE X a ta)(hb:PE X b tb)(hs:qI b):PE X (.Subscript a b pos) (tOp r ta tb):=by
 intro pins s σ H Q I h;exact Subscript_ (tE ha hb I h fun v u s2 x y H2 I2 rx ry q=>hr a b pins s2 σ H2 x y v u Q I2 rx ry q (hs _ _))
def ke (K:W.Frag):R2:=fun x y H Q=>∃p xs i v,x=.ref p/\y=.int i/\SqL K H p xs/\atI xs i=some v/\Q v H
def rP (K:W.Frag):R2:=fun x y H Q=>∃p xs i v,x=.ref p/\y=.int i/\SqT K H p xs/\atI xs i=some v/\Q v H
def rIxS:R2:=fun x y H Q=>∃z i c,x=.str z/\y=.int i/\z.length<=sizeLine/\atI z.cps.toList i=some c/\Q (.str ⟨#[c]⟩) H
theorem DW:IxR X (ke X.K):=by
 intro value slice pins s σ H x y v u Q I rx ry h hs;obtain⟨p,xs,i,z,rfl,rfl,hq,he,q⟩:=h;cases rx;obtain⟨t,rfl⟩:=ry;obtain⟨its,r,pl,hz⟩:=I.list hq;obtain⟨j,h1,h2,h3,h4,h5⟩:=iR he;obtain⟨w,ew,rw'⟩:=r.get h2;have hl:=r.length;have hn:=Fe;have fin:EP X pins σ Q w s:=⟨z,H,I,rw',q⟩
 by_cases h0:0<=i
 ·have hj:i.toNat=j:=by
   rw[seqIndex_of h0 h5] at h1;exact Dq h1
  exact item_listR pl.isList h0 (by omega) (by rw[hj];simpa using ew) fin hs
 ·have hj:(i+(its.toArray.size:Int)).toNat=j:=by
   rw[seqIndex_neg (by omega) h4] at h1;rw[An,<- hl];exact Dq h1
  exact subscriptTail_builtinR (x:=w) pl.isList.typeIs slot_list_getitem.lookup
   (wpAny_getItem_list_neg (Q:=fun r s'=>r=w/\EP X pins σ Q r s') pl.isList (by omega) (by rw[An]<;>omega) (by omega) (by rw[hj];simpa using ew) ⟨rfl,fin⟩) hs
theorem Ex:IxR X (rP X.K):=by
 intro value slice pins s σ H x y v u Q I rx ry h hs;obtain⟨p,xs,i,z,rfl,rfl,hq,he,q⟩:=h;cases rx;obtain⟨t,rfl⟩:=ry;obtain⟨its,r,pl,hz⟩:=I.tuple hq;obtain⟨j,h1,h2,h3,h4,h5⟩:=iR he;obtain⟨w,ew,rw'⟩:=r.get h2;have hl:=r.length;have hn:=Fe;have fin:EP X pins σ Q w s:=⟨z,H,I,rw',q⟩
 exact subscriptTail_builtinR (x:=w) pl.typeIs slot_tuple_getitem.lookup
  (getItem_tuple (j:=j) (Q:=fun r s'=>r=w/\EP X pins σ Q r s') pl (by omega) (by omega) (by rw[An,<- hl];exact h1) (by simpa using ew) ⟨rfl,fin⟩) hs
theorem IB:IxR X rIxS:=by
 intro value slice pins s σ H x y v u Q I rx ry h hs;obtain⟨z,i,c,rfl,rfl,hz,he,q⟩:=h;obtain⟨t,rfl⟩:=rx;obtain⟨t',rfl⟩:=ry;obtain⟨j,h1,h2,h3,h4,h5⟩:=iR he;have hl:z.cps.toList.length=z.length:=by simp[Str.length]
 rw[hl] at h1 h4 h5;have hn:=Fe
 exact tail_any (typeIs_str s z t) slot_str_getitem.lookup (getItem_str (c:=c) (by
  have e1:decide (i < -(2^63:Int))=false:=Dk (by omega);have e2:decide (i≥2^63)=false:=Dk (by omega)
  rw[e1,e2,Bool.or_false]) (by rw[h1]; simpa using h2) ⟨.str ⟨#[c]⟩,H,I.tok _,⟨_,rfl⟩,q⟩) hs
theorem jY(its:List Value)(n j:Nat)(u:Value):Obj.mapSeq (·.setIfInBounds j u) {cls:=.type "list",data:=.seq its.toArray n}={cls:=.type "list",data:=.seq (its.set j u).toArray n}:=by
 simp[Obj.mapSeq]
theorem Inv.lst{pins:List (Addr×Obj)}{σ:St}{H:Hp}{s:Shared}{p:Addr}{xs:List V}(I:Inv X pins σ H s)(h:H p=some (.lst xs)) :
  ∃(its:List Value)(n:Nat),Vals xs its/\s.heap.get? p=some {cls:=.type "list",data:=.seq its.toArray n}/\xs.length<=sizeLine:=by
 obtain⟨z,its,n,r,e⟩:=I.hok p _ h;exact⟨its,n,r,e,z⟩
theorem Inv.JM{pins:List (Addr×Obj)}{σ:St}{H:Hp}{s:Shared}{p:Addr}{xs ys:List V}{its its':List Value}{n n':Nat}{f:Obj->Obj}(I:Inv X pins σ H s)(h:H p=some (.lst xs))
  (ho:s.heap.get? p=some {cls:=.type "list",data:=.seq its.toArray n})(hf:f {cls:=.type "list",data:=.seq its.toArray n}={cls:=.type "list",data:=.seq its'.toArray n'})(r:Vals ys its')(hz:ys.length<=sizeLine)(t:Nat) :
  Inv X pins σ (upd H p (.lst ys)) {s with heap:=s.heap.update p f,toks:=t}:=by
 have e:(s.heap.update p f).get? p=some {cls:=.type "list",data:=.seq its'.toArray n'}:=by
  rw[Heap.get?_update_self f ho (by rw[hf]<;>rfl),hf]
 refine I.write (x:=p) (e:=p) (by rw[h];trivial) (.inl rfl) (fun b u hb q=>(Heap.get?_update_other _ _ (DC hb)).trans q) ⟨_,e⟩ ?_;exact⟨hz,its',n',r,e⟩
def Kl:V->V->V->Hp->(Hp->Prop)->Prop:=fun o i v H Q=>∃p xs k j,o=.ref p/\i=.int k/\H p=some (.lst xs)/\ixN xs.length k=some j/\Q (upd H p (.lst (xs.set j v)))
theorem set_list:uX X Kl:=by
 intro pins s σ H o i v ov iv u Q I ro ri rv h;obtain⟨p,xs,k,j,rfl,rfl,hp,hj,q⟩:=h;cases ro;obtain⟨t,rfl⟩:=ri;obtain⟨its,n,r,ho,hz⟩:=I.lst hp;obtain⟨h1,h2,h3,h4⟩:=lI hj;have hl:=r.length;have hn:=Fe;have I':Inv X pins σ (upd H p (.lst (xs.set j v))) {s with heap:=s.heap.update p (Obj.mapSeq (·.setIfInBounds j u))}:=
  I.JM hp ho (jY its n j u) (r.set rv j) (by rw[List.length_set];exact hz) s.toks
 by_cases h0:0<=k
 ·have hk:k.toNat=j:=by
   rw[seqIndex_of h0 h4] at h1;exact Dq h1
  exact W.ki_setAt ho h0 (by omega) (by rw[An,<- hl];exact h4) (by rw[hk];exact⟨_,I',q⟩)
 ·have hk:(k+(its.toArray.size:Int)).toNat=j:=by
   rw[seqIndex_neg (by omega) h3] at h1;rw[An,<- hl];exact Dq h1
  exact W.ki_setBack ho (by omega) (by rw[An,<- hl];exact h3) (by omega) (by rw[hk];exact⟨_,I',q⟩)
theorem ie(lo hi:Option Int)(n:Nat):(sliceBounds lo hi none n).1=((HT.sIx n 0 lo:Nat):Int)/\(sliceBounds lo hi none n).2.1=((HT.sIx n n hi:Nat):Int)/\(sliceBounds lo hi none n).2.2=1:=by
 refine⟨?_,?_,rfl⟩
 ·cases lo with
  |none=>simp[sliceBounds,HT.sIx]
  |some i=>
   simp only[sliceBounds,HT.sIx,Option.getD_none,show(1:Int)>0 by decide,if_true];by_cases h:i<0
   ·simp only[h,if_true]<;>omega
   ·simp only[h,if_false]<;>omega
 ·cases hi with
  |none=>simp[sliceBounds,HT.sIx]
  |some i=>
   simp only[sliceBounds,HT.sIx,Option.getD_none,show(1:Int)>0 by decide,if_true];by_cases h:i<0
   ·simp only[h,if_true]<;>omega
   ·simp only[h,if_false]<;>omega
theorem fY(its:List Value)(lo hi:Option Int):slicePick its.toArray lo hi none=((its.drop (HT.sIx its.length 0 lo)).take (HT.sIx its.length its.length hi-HT.sIx its.length 0 lo)).toArray:=by
 obtain⟨h1,h2,h3⟩:=ie lo hi its.toArray.size;unfold slicePick;rw[h1,h2,h3];simp only[sliceRange_one,pick_run,An]<;>rfl
def rSlL (K:W.Frag):V->Option Int->Option Int->Hp->VK->Prop:=fun x lo hi H Q=>∃a xs,x=.ref a/\SqL K H a xs/\∀p,H p=none->Q (.ref p) (upd H p (.lst (rA xs lo hi)))
theorem Je:SlR X (rSlL X.K):=by
 intro pins s σ H x v vl vu lo hi sl Q I rx hs pl pu h;obtain⟨a,xs,rfl,hx,q⟩:=h;cases rx;obtain⟨its,r,ht,hz⟩:=I.list hx;have hlen:=r.length;refine⟨"list",_,slot_list_getitem.lookup,ht.isList.typeIs,?_⟩;refine wpAny_getItem_list_slice ht.isList hs pl pu .none (by simp) ?_ (by rw[An]<;>omega);rw[fY,<- hlen];refine⟨.ref s.heap.objs.size,_,I.laid (t':=s.toks) (o:=.lst (rA xs lo hi)) (fun b ob q=>DE _ q) (zX _) ?_,rfl,q _ (I.hok.fresh (zX _))⟩;exact⟨Ap (iT xs lo hi) hz,_,0,(r.drop (HT.sIx xs.length 0 lo)).take (HT.sIx xs.length xs.length hi-HT.sIx xs.length 0 lo),DG _ rfl⟩
theorem Ea:dJ X (.builtin "len") (fun xs H Q=>∃p ys,xs=[.ref p]/\(SqL X.K H p ys\/SqT X.K H p ys)/\Q (.int ys.length) H):=by
 intro pins s σ H xs us Q I r h;obtain⟨p,ys,rfl,hq,q⟩:=h;obtain⟨u,rfl,rx⟩:=dX r;cases rx;have hn:=Fe;rcases hq with hq|hq
 ·obtain⟨its,r',pl,hz⟩:=I.list hq;have hlen:=r'.length;exact Calls.call_len_list pl.isList (by simp only[An]<;>omega) ⟨.int ys.length,H,I.tok _,⟨s.toks+1,by rw[An,hlen]⟩,q⟩
 ·obtain⟨its,r',pl,hz⟩:=I.tuple hq;have hlen:=r'.length;exact len_tuple pl (by simp only[An]<;>omega) ⟨.int ys.length,H,I.tok _,⟨s.toks+1,by rw[An,hlen]⟩,q⟩
theorem DS:dJ X (.builtin "len") (fun xs H Q=>∃z,xs=[.str z]/\z.length<=sizeLine/\Q (.int z.length) H):=by
 intro pins s σ H xs us Q I r h;obtain⟨z,rfl,hz,q⟩:=h;obtain⟨u,rfl,t,rfl⟩:=dX r;have hn:=Fe;exact len_str (by omega) ⟨.int z.length,H,I.tok _,⟨_,rfl⟩,q⟩
theorem FE:dJ X (.type "tuple") (fun xs H Q=>∃p ys,xs=[.ref p]/\((SqL X.K H p ys/\∀l,H l=none->Q (.ref l) (upd H l (.tup ys)))\/(SqT X.K H p ys/\Q (.ref p) H))):=by
 intro pins s σ H xs us Q I r h;obtain⟨p,ys,rfl,h⟩:=h;obtain⟨u,rfl,rx⟩:=dX r;cases rx;rcases h with ⟨hq,q⟩|⟨hq,q⟩
 ·obtain⟨its,r',pl,hz⟩:=I.list hq;have hlen:=r'.length;refine call_tuple_list pl.isList (fun h' kp=>?_) (by simp only[An]<;>omega);have I1:Inv X pins σ H {s with heap:=h'}:=I.kept (t':=s.toks) kp;have I2:Inv X pins σ (upd H h'.objs.size (.tup ys)) {s with heap:=h'.push {cls:=.type "tuple",data:=.seq its.toArray}}:=
   I1.laid (t':=s.toks) (fun b o e=>DE _ e) (zX _) (show El X.prog X.w _ _ _ (.tup ys) from⟨hz,its,r',IsTup.new _ _⟩)
  exact⟨.ref h'.objs.size,_,I2,rfl,q _ (I1.hok.fresh (zX _))⟩
 ·obtain⟨its,r',pl,hz⟩:=I.tuple hq;exact call_tuple_same pl ⟨.ref p,H,I,rfl,q⟩
def tyV (K:W.Frag)(T:String)(x:V)(H:Hp):Prop:=match x with
 |.str _=>T="str"
 |.int _=>T="int"
 |.ref p=>(T="list"/\∃xs,SqL K H p xs)\/(T="tuple"/\∃o,K.lookup p=some o/\o.cls=.type "tuple"/\o.dict=none) \/
   (T="dict"/\((∃kvs,H p=some (.dK kvs))\/∃kvs,H p=some (.dT kvs)))\/(T="set"/\∃S n,H p=some (.set S n))
 |_=>False
theorem pW{pins:List (Addr×Obj)}{σ:St}{H:Hp}{s:Shared}{T:String}{x:V}{v:Value}(I:Inv X pins σ H s)(r:RelV x v)(ty:tyV X.K T x H) :
  s.TypeIs v T/\∀a,v=.ref a->∃ob,s.heap.get? a=some ob/\ob.dict=none:=by
 cases x with
 |str z=>
  obtain⟨t,rfl⟩:=r;cases (show T="str" from ty);exact⟨typeIs_str s z t,fun _ e=>nomatch e⟩
 |int i=>
  obtain⟨t,rfl⟩:=r;cases (show T="int" from ty);exact⟨typeIs_int s i t,fun _ e=>nomatch e⟩
 |ref p=>
  cases r;rcases ty with ⟨rfl,xs,hq⟩|⟨rfl,o,hk,hc,hd⟩|⟨rfl,hk⟩|⟨rfl,S,n,hk⟩
  ·obtain⟨its,_,pl,_⟩:=I.list hq;refine⟨pl.isList.typeIs,fun a e=>?_⟩;cases e;obtain⟨o,n,e,c,hd,_⟩:=pl;exact⟨o,e,hd⟩
  ·refine⟨⟨o,I.kIn p o hk,hc⟩,fun a e=>?_⟩;cases e;exact⟨o,I.kIn _ o hk,hd⟩
  ·have z:∃o,s.heap.get? p=some o/\o.ExactDict:=by
    rcases hk with ⟨kvs,hk⟩|⟨kvs,hk⟩
    ·obtain⟨_,_,_,_,o,_,_,e,ex,_⟩:=I.hok p _ hk;exact⟨o,e,ex⟩
    ·obtain⟨_,_,_,_,o,_,_,e,ex,_⟩:=I.hok p _ hk;exact⟨o,e,ex⟩
   obtain⟨o,e,ex⟩:=z;refine⟨⟨o,e,ex.1⟩,fun a e2=>?_⟩;cases e2;exact⟨o,e,ex.2.1⟩
  ·obtain⟨o,_,_,_,e,ex,_⟩:=I.hok p _ hk;refine⟨⟨o,e,ex.1⟩,fun a e2=>?_⟩;cases e2;exact⟨o,e,ex.2.1⟩
 |_=>exact False.elim ty
def tBM0 (K:W.Frag)(T:String)(r:V->List V->Hp->VK->Prop)(to:TE):TE:=fun σ H Q=>to σ H fun x H1=>tyV K T x H1/\r x [] H1 Q
def tBM (K:W.Frag)(T:String)(r:V->List V->Hp->VK->Prop)(to:TE)(t:TA):TE:=fun σ H Q=>to σ H fun x H1=>tyV K T x H1/\t σ H1 fun xs H2=>r x xs H2 Q
variable {o e:Expr}{es:List Expr}{to:TE}{t:TA}{name:Str}{apos cpos:Pos}{T id:String}{r:V->List V->Hp->VK->Prop}
theorem sV(pa:PlainAttrs T)(slot:Slot T name id)(hty:typeOf (.builtin id)=pure (.type "method_descriptor"))(hm:MtR X id r)(ho:PE X o to)
  (hbase:attributeBase o name X.env (eval o X.env)=eval o X.env:=by rfl)(hline:(apos.endLine==cpos.line)=true:=by rfl):PE X (.Call (.Attribute o name apos) [] [] cpos) (tBM0 X.K T r to):=by
 intro pins s σ H Q I h;refine wpAny_Call_method0_late hbase hline (thn (ho pins s σ H _ I h) fun v s1 hq48=>?_);obtain⟨x,H1,I1,r1,ty,q1⟩:=hq48;obtain⟨h1,h2⟩:=pW I1 r1 ty;exact⟨T,id,pa,slot,hty,h1,h2,Calls.callWith_builtin rfl (PySem.evalArgs_none (hm pins s1 σ H1 x [] v [] Q I1 r1 .nil q1))⟩
theorem mV(pa:PlainAttrs T)(slot:Slot T name id)(hty:typeOf (.builtin id)=pure (.type "method_descriptor"))(hm:MtR X id r)(ho:PE X o to)(ha:PA X (e::es) t)
  (hbase:attributeBase o name X.env (eval o X.env)=eval o X.env:=by rfl)
  (hfew:((backTo cpos (starEach (e::es) X.env)).all (fun x=>!x.1) && (backToKw cpos (keywordEach [] X.env)).all (fun x=>x.1.isSome)
   && decide ((e::es).length+([]:List Keyword).length+(if ([]:List Keyword).isEmpty then 0 else 1) < 30))=true:=by rfl)
  (hline:(apos.endLine==cpos.line)=true:=by rfl) (hs:starEach (e::es) X.env=(false,eval e X.env)::starEach es X.env:=by rfl) (hplain:(backTo cpos (starEach es X.env)).any (·.1)=false:=by rfl) :
  PE X (.Call (.Attribute o name apos) (e::es) [] cpos) (tBM X.K T r to t):=by
 intro pins s σ H Q I h;refine wpAny_Call_method_late hbase hfew hline rfl (thn (ho pins s σ H _ I h) fun v s1 hq49=>?_);obtain⟨x,H1,I1,r1,ty,q1⟩:=hq49;obtain⟨h1,h2⟩:=pW I1 r1 ty;refine⟨T,id,pa,slot,hty,h1,h2,?_⟩;have hA:=ha cpos pins s1 σ H1 _ I1 q1;rw[hs] at hA ⊢;refine Calls.callWith_builtin (by show(false||(backTo cpos (starEach es X.env)).any (·.1))=false;rw[hplain]<;>rfl) (Calls.evalArgs_plain ?_);refine thn hA fun us s2 hq50=>?_;obtain⟨vs,H2,I2,r2,q2⟩:=hq50;exact hm pins s2 σ H2 x vs v us Q I2 r1 r2 q2
end
def MtM (X:Cx)(id:String)(r:V->List V->Hp->VK->Prop):Prop:=
 ∀(pins:List (Addr×Obj))(s:Shared)(σ:St)(H:Hp)(x:V)(xs:List V)(v:Value)(us:List Value)(Q:VK),Inv X pins σ H s->RelV x v->Vals xs us->r x xs H Q ->
  wpAny (model X.prog X.w) X.A (call (.builtin id) (v::us)) (EP X pins σ Q) X.xe s
theorem Vals.one:∀{x:V}{us:List Value},Vals [x] us->∃u,us=[u]/\RelV x u
 |_,_,.cons r .nil=>⟨_,rfl,r⟩
theorem Vals.zero:∀{us:List Value},Vals [] us->us=[]
 |_,.nil=>rfl
theorem Vals.dropLast{xs:List V}{us:List Value}(h:Vals xs us):Vals xs.dropLast us.dropLast:=by
 induction h with
 |nil=>exact .nil
 |cons r t ih=>
  cases t with
  |nil=>exact .nil
  |cons q t'=>exact .cons r ih
theorem Vals.reverse{xs:List V}{us:List Value}(h:Vals xs us):Vals xs.reverse us.reverse:=by
 induction h with
 |nil=>exact .nil
 |cons r t ih=>rw[BM,BM];exact Vals.append ih (.cons r .nil)
theorem jF{α:Type}(l:List α):l.eraseIdx (l.length-1)=l.dropLast:=by
 induction l with
 |nil=>rfl
 |cons a r ih=>
  cases r with
  |nil=>rfl
  |cons b r=>
   have e:(a::b::r).length-1=((b::r).length-1)+1:=by
    have h1:(a::b::r).length=r.length+2:=rfl;have h2:(b::r).length=r.length+1:=rfl;omega
   rw[e,List.eraseIdx_cons_succ,ih]
   all_goals rfl
section
variable {X:Cx}{pins:List (Addr×Obj)}{σ:St}{H:Hp}{s:Shared}{l b:Addr}{xs ys zs:List V}
theorem Inv.Kz{its its':List Value}{n:Nat}{f:Array Value->Array Value}{t':Nat}(I:Inv X pins σ H s)(hH:H l=some (.lst xs))
  (e:s.heap.get? l=some {cls:=.type "list",data:=.seq its.toArray n})(hf:f its.toArray=its'.toArray)(hv:Vals ys its')(hz:ys.length<=sizeLine) :
  Inv X pins σ (upd H l (.lst ys)) {s with heap:=s.heap.update l (Obj.mapSeq f),toks:=t'}:=by
 have q:=PySem.IsL.update e f;rw[hf] at q;refine I.write (x:=l) (e:=l) (by rw[hH];exact trivial) (.inl rfl) (fun b' u hb hu=>(Heap.get?_update_other s.heap (Obj.mapSeq f) (DC hb)).trans hu) ⟨_,q⟩ ?_;exact⟨hz,its',_,hv,q⟩
theorem Inv.lnew{its:List Value}{t':Nat}(I:Inv X pins σ H s)(hv:Vals ys its)(hz:ys.length<=sizeLine) :
  Inv X pins σ (upd H s.heap.objs.size (.lst ys)) {s with heap:=s.heap.push {cls:=.type "list",data:=.seq its.toArray},toks:=t'}:=
 I.laid (fun _ _ q=>DE _ q) (zX _) ⟨hz,its,0,hv,DG _ rfl⟩
theorem Inv.fresh(I:Inv X pins σ H s):H s.heap.objs.size=none:=I.hok.fresh (zX _)
theorem Inv.HW(I:Inv X pins σ H s)(hH:H l=some (.lst xs)):xs.length<=sizeLine/\∃(its:List Value)(n:Nat),Vals xs its/\xs.length=its.length/\s.heap.get? l=some {cls:=.type "list",data:=.seq its.toArray n}:=by
 obtain⟨z,its,n,r,e⟩:=I.hok l _ hH;exact⟨z,its,n,r,r.length,e⟩
end
section
variable {X:Cx}
def HK:V->List V->Hp->VK->Prop:=fun x vs H Q=>∃l xs y,x=.ref l/\vs=[y]/\H l=some (.lst xs)/\xs.length<sizeLine/\Q .non (upd H l (.lst (xs++[y])))
theorem FX:MtM X "list.append" HK:=by
 intro pins s σ H x vs v us Q I rx rv h;obtain⟨l,xs,y,rfl,rfl,hH,hz,q⟩:=h;cases rx;obtain⟨u,rfl,ru⟩:=rv.one;obtain⟨z,its,n,r,hl,e⟩:=I.HW hH;refine call_meets F.slot_list_append ⟨_,e,rfl⟩ F.entry_list_append (F.args_list_append_2 _ _) (PySem.list_append l its.toArray n u (by rw[An];omega)) ⟨e,?_⟩;refine⟨.non,_,I.Kz (its':=its++[u]) hH e (by simp) (r.append (.cons ru .nil)) ?_,rfl,q⟩;rw[zZ,List.length_singleton];omega
def rPop:V->List V->Hp->VK->Prop:=fun x vs H Q=>∃l xs y,x=.ref l/\vs=[]/\H l=some (.lst xs)/\xs[xs.length-1]?=some y/\Q y (upd H l (.lst xs.dropLast))
theorem Jm:MtM X "list.pop" rPop:=by
 intro pins s σ H x vs v us Q I rx rv h;obtain⟨l,xs,y,rfl,rfl,hH,hy,q⟩:=h;cases rx;have hus:=rv.zero;subst hus;obtain⟨z,its,n,r,hl,e⟩:=I.HW hH;obtain⟨u,hu,ru⟩:=r.get hy;have hy':its.toArray[its.toArray.size-1]?=some u:=by
  show its.toArray[its.length-1]?=some u;rw[<- Ao,<- hl];exact hu
 refine call_meets F.slot_list_pop ⟨_,e,rfl⟩ F.entry_list_pop (F.args_list_pop_1 _) (MeetsSeq.list_pop_last l its.toArray n u hy' (by rw[An];omega)) ⟨e,?_⟩;refine⟨y,_,I.Kz (its':=its.dropLast) hH e ?_ r.dropLast ?_,ru,q⟩
 ·show its.toArray.eraseIdxIfInBounds (its.toArray.size-1)=its.dropLast.toArray;rw[An,List.eraseIdxIfInBounds_toArray,jF]
 ·rw[List.length_dropLast];omega
def rCat:R2:=fun x y H Q=>∃l b xs zs,x=.ref l/\y=.ref b/\H l=some (.lst xs)/\H b=some (.lst zs)/\xs.length+zs.length<=sizeLine/\∀p,H p=none->Q (.ref p) (upd H p (.lst (xs++zs)))
theorem Ga:OpR X (binaryOp .Add) rCat:=by
 intro pins s σ H x y v u Q I rx ry h;obtain⟨l,b,xs,zs,rfl,rfl,hH,hB,hz,q⟩:=h;cases rx;cases ry;obtain⟨z,its,n,r,hl,e⟩:=I.HW hH;obtain⟨z2,its2,n2,r2,hl2,e2⟩:=I.HW hB;refine PySem.P.add_list e e2 ?_ (by rw[An,An];omega);have ea:its.toArray++its2.toArray=(its++its2).toArray:=by simp
 rw[ea];exact⟨.ref _,_,I.lnew (t':=s.toks) (r.append r2) (by rw[zZ];omega),rfl,q _ I.fresh⟩
end
section
variable {prog:Program}{w:World}{A:Around}{E:Value->Shared->Prop}{s:Shared}
end
section
variable {X:Cx}
end
end L2
namespace Att
open PySem PySem.W PySem.Calls PyProof.Rows
theorem eK{P:Params}{h:Heap}:∀(ns:List Int)(vs:List Value),WellAll P h vs (ns.map WData.int)->IntsAre vs ns:=by
 intro ns;induction ns with
 |nil=>
  intro vs w;rw[Cg] at w;cases w;exact .nil
 |cons n ns ih=>
  intro vs w;rw[AH] at w;cases w with
  |cons a b=>
   cases a;exact .cons _ _ (ih _ b)
theorem nv{l:OpenLaw}{n:Nat}(hn:l.most=some n){P:Params}{h:Heap}{args:List WData}{vals:List Value}
  (hpre:l.row.toRowW.claim.pre args=true)(hwl:WellAll P h vals args) :
  ∃a vs ns,vals=[Value.ref a]/\args=[WData.list (ns.map WData.int)]/\h.get? a=some {cls:=.type "list",data:=.seq vs.toArray}/\IntsAre vs ns/\ns.length<=n:=by
 have hsh:WShape.hasAll [] args [.list .int]=true:=(pre_splitW hpre).1;have hc:l.pre.holds [] {args:=args}=true:=(pre_splitW hpre).2;obtain⟨d,r,rfl,h1,h2⟩:=hasAllW_cons hsh;obtain rfl:=hasAllW_nil h2;obtain⟨xs,rfl,h3⟩:=hasW_list h1;obtain⟨ns,rfl⟩:=items_int h3;have hlen:ns.length<=n:=by
  unfold OpenLaw.pre at hc;have h4:(WTm.not (.lt (.lit (.int (n:Int))) (.len (.arg 0)))).holds [] {args:=[.list (ns.map .int)]}=true:=by
   have h4:=(holds_andW hc).1;rw[hn] at h4;exact h4
  have h5:=condW_of h4 (w_not (w_lt w_lit (w_len_list (w_arg rfl))));rw[zY] at h5;refine Cw fun q=>?_;have q':(n:Int)<((ns.length:Nat):Int):=by omega
  first
   |(rw[Dj q'] at h5;exact absurd h5 (by decide))
   |(simp at h5;omega)
 cases hwl with
 |cons w1 w2=>
  cases w2;cases w1 with
  |list ho hall=>exact⟨_,_,ns,rfl,rfl,ho,eK ns _ hall,hlen⟩
theorem kM(l:OpenLaw)(args:List WData):l.row.toRowW.claim.post args (.bool true) args=true:=
 postW_of (r:=l.row.toRowW) (X:=(true==true))
  (show WShape.has [] (.bool true) .bool=true by first|rfl|decide|simp[WShape.has,WShape.arms,WShape.armsAll])
  (show(WTm.eq .res (.lit (.bool true))).value [] {args:=args,res:=some (.bool true),after:=args}=some (.bool (true==true)) from w_eq_bool (w_res rfl) w_lit) rfl
theorem Gg{l:OpenLaw}{n:Nat}{q:Program}{loose:List Str}{XP:(Str->Option Value)->Heap->Prop}{YP:World->Heap->Prop}{d:DefRec}
  (hn:l.most=some n)(hdf:d.params.defaults=[])
  (call:∀(w:World) (s₀ s₁:Shared) (mg mb:Str->Option Value) (fa:Addr) (o:Obj) (pm cd doc:Value) (a:Addr) (vs:List Value) (ns:List Int),
   Ground q loose [] XP w s₀ mg mb s₁.heap->YP w s₁.heap ->
   s₁.heap.get? fa=some o->o.data=.func (docDef d.name d.params d.body d.scope pm cd doc)->s₁.heap.CodeRec cd d.name->mg d.name=some (.ref fa) ->
   s₁.heap.get? a=some {cls:=.type "list",data:=.seq vs.toArray}->IntsAre vs ns->ns.length<=n->s₁.gens=#[] ->
   codeAny (model l.prog w) callerA (.call (.ref fa) ⟨[.ref a],[]⟩) (fun r s'=>r=.ok (.ret (.bool true))/\OldK s₁.heap s'.heap/\s'.os=s₁.os/\AllBare s'.gens) s₁) :
  WalkO q loose XP YP l.row.toRowW d [] (fun f vs=>PySem.call f vs):=by
 intro w s₀ s₁ mg mb G Y fa o pm cd doc dV kV ho hd hcd hD hmg hg args vals as hpre hlay hrd hwl hlo;obtain rfl:dV=.none:=Dflts.none hD hdf;obtain rfl:kV=.none:=Dflts.noKw hD;obtain⟨a,vs,ns,rfl,rfl,hobj,hints,hlen⟩:=nv hn hpre hwl;refine enter_call (codeAny_mono (call w s₀ s₁ mg mb fa o pm cd doc a vs ns G Y ho (fd_plain hd) hcd hmg hobj hints hlen hg) fun r s' hq=>?_);obtain⟨rfl,h2,h3,h4⟩:=hq;exact⟨.inl ⟨.bool true,.bool true,[],rfl,fun _=>rfl,.bool true,kM l _,fun _=>⟨List.Pairwise.nil,fun _ hm=>(nomatch hm)⟩⟩,h2,h3,h4⟩
section
variable {prog:Program}{w:World}{A:Around}{E:Value->Shared->Prop}{s:Shared}{K:Frag}
end
end Att
namespace L2
open PySem PySem.Spec PyProof.Rows
theorem FY:∀{vs:List Value}{ns:List Int},IntsAre vs ns->Vals (ns.map V.int) vs
 |_,_,.nil=>.nil
 |_,_,.cons n t h=>.cons ⟨t,rfl⟩ (FY h)
def ud (H:Hp):Prop:=∀b,H b=none\/∃o xs,H b=some (.frz o (.lst xs))
theorem nY{P:Program}{w:World}{K:W.Frag}{mg mb:Str->Option Value}{CX:CXT}{k:Nat}{fa a:Addr}{fd:FuncData}{x:Str}{sp:Sp}{s₁:Shared}{vs:List Value}{ns:List Int}
  (KX:K.In s₁.heap)(hns:s₁.heap.Ns mainGlobals mg)(hb:s₁.heap.Ns builtinsNs mb)(hbb:∀x:Str,x≠"__name__"->mb x=bootBuiltins x)(hlim:s₁.heap.NoLimit)(hg:s₁.gens=#[])
  (ha:s₁.heap.get? a=some {cls:=.type "list",data:=.seq vs.toArray})(hi:IntsAre vs ns)(hl:ns.length<=sizeLine)(hr:EB k callerA)
  (F:∀base:Heap,K.In base->base.Ns mainGlobals mg->DY P w K mg base CX k fa fd [x] sp)(hbind:∀(s:Shared)(u:Value),BindsTo s fd ⟨[u],[]⟩ [(x,u)])
  (hsp:∀H:Hp,ud H->SqL K H a (ns.map V.int)->sp [.ref a] H (fun v _=>v=.bl true) fun _ _ _=>False)
  (hCX:∀H e s',CX [] H s₁ (fun _ _ _=>False) e s'->False) :
  codeAny (model P w) callerA (.call (.ref fa) ⟨[.ref a],[]⟩) (fun r s'=>r=.ok (.ret (.bool true))/\OldK s₁.heap s'.heap/\s'.os=s₁.os/\AllBare s'.gens) s₁:=by
 have rv:=FY hi;have lenV:=hi.length;have core:∀H:Hp,ud H->SqL K H a (ns.map V.int)->HOk P w H s₁.heap->(∀b,H b≠none->b=a)->(H a≠none->K.lookup a=none) ->
   codeAny (model P w) callerA (.call (.ref fa) ⟨[.ref a],[]⟩) (fun r s'=>r=.ok (.ret (.bool true))/\OldK s₁.heap s'.heap/\s'.os=s₁.os/\AllBare s'.gens) s₁:=by
  intro H hO hS hok hA hK;have base_of:∀{b:Addr}{o:Obj},s₁.heap.get? b=some o->H b=none->(nK s₁.heap H).get? b=some o:=fun e n=>pD e n;have noA:∀{b:Addr}{o:Obj}{es:Array DictEntry}{ep:Nat},s₁.heap.get? b=some o->o.data=.dict es ep->H b=none:=fun {b o es ep} e d=>by
   cases q:H b with
   |none=>rfl
   |some u=>
    have e':b=a:=hA b (by rw[q];simp);subst e';rw[ha] at e;cases e;have d':Data.seq vs.toArray _=Data.dict es ep:=d;cases d'
  have nsK:∀{b:Addr}{m:Str->Option Value},s₁.heap.Ns b m->(nK s₁.heap H).Ns b m:=fun {b m} ⟨o,es,ep,e,d,r⟩=>⟨o,es,ep,base_of e (noA e d),d,r⟩
  have hKb:K.In (nK s₁.heap H):=fun b o e=>base_of (KX b o e) (by
   cases q:H b with
   |none=>rfl
   |some u=>
    have e':b=a:=hA b (by rw[q];simp);subst e'
    rw[hK (by rw[q]; simp)] at e; cases e)
  have hM:Mod K mg (nK s₁.heap H):=⟨hKb,nsK hns,⟨mb,nsK hb,hbb⟩,let ⟨mc,h1,h2⟩:=hlim;⟨mc,nsK h1,h2⟩⟩
  have e0:Hy P w K mg (nK s₁.heap H) callerA [] s₁ H:=⟨rfl,hM,fun b o e=>qX e,Ce (mi _ _),trivial,fun b hb=>absurd (show b∈([]:List Addr) from hb) (by simp),hok,.of_eq hg⟩
  refine codeAny_mono ((F _ hKb (nsK hns)).run callerA [] s₁ H ⟨[.ref a],[]⟩ [.ref a] [.ref a] _ _ hr e0 (hbind s₁ (.ref a)) (.cons rfl .nil) (hsp H hO hS)) fun r s' h=>?_;cases r with
  |error e=>exact(hCX H e s' h).elim
  |ok fl=>
   cases fl with
   |next=>exact False.elim h
   |brk=>exact False.elim h
   |cont=>exact False.elim h
   |ret u=>
    obtain⟨v,H',os,bare,un,hok',r',q⟩:=h;have q':v=.bl true:=q;subst q';obtain rfl:u=Value.bool true:=r';refine⟨rfl,OldK.of_keep fun b o e=>?_,os,bare⟩;cases q:H b with
    |none=>exact un.keep b o e q (by intro z;exact absurd (show b∈([]:List Addr) from z) (by simp)) (by simp)
    |some u=>
     rcases hO b with z|⟨ob,xs,z⟩
     ·rw[q] at z;cases z
     ·have z2:=un.GL b ob _ z;obtain⟨e1,_⟩:=hok b _ z;obtain⟨e2,_⟩:=hok' b _ z2;rw[e] at e1;cases e1;exact e2
 cases hk:K.lookup a with
 |some o=>
  have e:=KX a o hk;rw[ha] at e;cases e;refine core (fun _=>none) (fun _=>.inl rfl) (.inr ⟨_,vs.toArray,_,hk,rfl,rfl,rfl,by rw[An,lenV];exact hl,by simpa using rv⟩) (fun b u z=>by have z':(none:Option HO)=some u:=z;cases z') (fun b z=>absurd rfl z) fun z=>absurd rfl z
 |none=>
  refine core (fun b=>if b=a then some (.frz {cls:=.type "list",data:=.seq vs.toArray} (.lst (ns.map V.int))) else none) (fun b=>?_) (.inl (.inr ⟨{cls:=.type "list",data:=.seq vs.toArray},Di rfl⟩)) (fun b u z=>?_) (fun b z=>?_) fun _=>hk
  ·by_cases hb:b=a
   ·exact .inr ⟨_,_,Di hb⟩
   ·exact .inl (Dh hb)
  ·by_cases hb:b=a
   ·have z':=(Di hb).symm.trans z;cases z';subst hb;exact⟨ha,by rw[zY];exact hl,vs,_,rv,ha⟩
   ·have z':=(Dh hb).symm.trans z;cases z'
  ·by_cases hb:b=a
   ·exact hb
   ·exact absurd (Dh hb) z
theorem IS{l:W.OpenLaw}{n k:Nat}{q:Program}{loose:List Str}{XP:(Str->Option Value)->Heap->Prop}{YP:World->Heap->Prop}{d:DefRec}{K:Params->W.Frag}{CX:World->CXT}{sp:World->Sp}{x:Str}
  (hn:l.most=some n)(hn2:n<=sizeLine)(hdf:d.params.defaults=[])(hr:EB k callerA)
  (hY:∀(w:World)(h:Heap),YP w h->(K w.params).In h)
  (F:∀(w:World) (mg:Str->Option Value) (fa:Addr) (h:Heap),(K w.params).In h->h.Ns mainGlobals mg->mg d.name=some (.ref fa) ->
   ∃fd:FuncData,(∀(s:Shared)(u:Value),BindsTo s fd ⟨[u],[]⟩ [(x,u)]) /\
    ∀base:Heap,(K w.params).In base->base.Ns mainGlobals mg->DY l.prog w (K w.params) mg base (CX w) k fa fd [x] (sp w))
  (hsp:∀(w:World)(H:Hp)(a:Addr)(ns:List Int),ns.length<=n->ud H->SqL (K w.params) H a (ns.map V.int)->sp w [.ref a] H (fun v _=>v=.bl true) fun _ _ _=>False)
  (hCX:∀(w:World)(H:Hp)(s:Shared)(e:Value)(s':Shared),CX w [] H s (fun _ _ _=>False) e s'->False) :
  W.WalkO q loose XP YP l.row.toRowW d [] (fun f vs=>PySem.call f vs):=by
 refine Att.Gg hn hdf fun w s₀ s₁ mg mb fa o pm cd doc a vs ns G Y ho hd hcd hmg hobj hints hlen hg=>?_;have KX:=hY w _ Y;obtain⟨fd,hb,hF⟩:=F w mg fa _ KX G.T.g hmg;exact nY KX G.T.g G.T.b G.T.builtins G.T.nolimit hg hobj hints (Ap hlen hn2) hr hF hb (fun H hO hS=>hsp w H a ns hlen hO hS) fun H e s'=>hCX w H s₁ e s'
def aU (s:Stmt):Arguments:=match s with
 |.FunctionDef _ a _ _ _ _ _ _ _ _=>a
 |_=>{posonlyargs:=[],args:=[],vararg:=none,kwonlyargs:=[],kw_defaults:=[],kwarg:=none,defaults:=[]}
def aN (s:Stmt):List Stmt:=match s with
 |.FunctionDef _ _ b _ _ _ _ _ _ _=>b
 |_=>[]
def ai (s:Stmt):Scope:=match s with
 |.FunctionDef _ _ _ _ _ _ sc _ _ _=>sc
 |_=>{kind:=.function,names:=[],isGenerator:=false,isCoroutine:=false}
abbrev CX0:CXT:=fun _ _ _ _ _ _=>False
abbrev E0:XK:=fun _ _ _=>False
theorem bW{X:Cx}:eX CX0 X E0:=fun _ _ _ _ _ _ _ h=>h.elim
structure Fun(K:W.Frag)(x qual:Str)(st:Stmt)(f:Addr)(fd:FuncData):Prop where
 ex:∃(oc:Value)(od:Option Addr)(kV doc pm:Value)(an:Option Addr)(cdv ct:Value)(osl:Array (Option Value)),
  fd=W.fnOf x qual (aU st) (aN st) (ai st) .none kV doc pm an cdv ct/\K.lookup f=some ⟨oc,od,.func fd,osl⟩/\W.codeIn K cdv qual=true
 kp:W.keepIn K (.ref f)=true
section
variable {P:Program}{w:World}{K:PySem.W.Frag}{mg:Str->Option Value}{base:Heap}
theorem Fun.ok{x qual:Str}{st:Stmt}{f:Addr}{fd:FuncData}{N ps:List Str}{k:Nat}{sp:Sp}(F:Fun K x qual st f fd)(S:DT N ps (ai st))(len:∀vs H Q E,sp vs H Q E->vs.length=ps.length)
  (hbody:∀(cdv:Value) (A:Around) (outer:List Env) (s:Shared) (H:Hp) (vs:List V) (Q:VK) (E:XK),EB k (A.deeper (envOfC qual (ai st) s.heap.objs.size f cdv))->sp vs H Q E ->
   ∃t,PSs (bD CX0 P w K mg base N qual (ai st) f cdv A outer s H E).nox (aN st) t/\t { nx:=fun _ H'=>Q .non H',rt:=Q } (start N vs) H):DY P w K mg base CX0 (k+1) f fd ps sp:=by
 obtain⟨oc,od,kV,doc,pm,an,cdv,ct,osl,rfl,lk,hcd⟩:=F.ex;refine rE lk hcd S len fun A outer s H vs Q E hr hsp=>?_;obtain⟨t,h,q⟩:=hbody cdv A outer s H vs Q E hr hsp;exact⟨t,h.nox,q⟩
theorem Fun.binds{x qual:Str}{st:Stmt}{f:Addr}{fd:FuncData}{ps:List Str}(F:Fun K x qual st f fd)
  (h:∀(kV doc pm:Value)(an:Option Addr)(cdv ct:Value)(us:List Value),us.length=ps.length->bindArgs (W.fnOf x qual (aU st) (aN st) (ai st) .none kV doc pm an cdv ct) ⟨us,[]⟩=pure (ps.zip us)):Binds K fd ps []:=by
 obtain⟨oc,od,kV,doc,pm,an,cdv,ct,osl,rfl,lk,hcd⟩:=F.ex;exact .all (h kV doc pm an cdv ct)
theorem kh{x qual:Str}{st:Stmt}{f:Addr}{oc:Value}{od an:Option Addr}{osl:Array (Option Value)}{kV doc pm cdv ct:Value}(l:K.lookup f=some ⟨oc,od,.func (W.fnOf x qual (aU st) (aN st) (ai st) .none kV doc pm an cdv ct),osl⟩)
  (c:W.codeIn K cdv qual=true)(k:W.keepIn K (.ref f)=true):Fun K x qual st f (W.fnOf x qual (aU st) (aN st) (ai st) .none kV doc pm an cdv ct):=⟨⟨oc,od,kV,doc,pm,an,cdv,ct,osl,rfl,l,c⟩,k⟩
end
theorem uf{A:Around}{k:Nat}(hr:EB k A):A.units+1<cLine:=BW (Nat.add_le_add_left (by decide:1<=64) _) hr.units
section
variable {X:Cx}
theorem pv(i:Nat){x:Str}{pos:Pos}(hN:X.N[i]?=some x:=by rfl)(hv:Vis X.env.scope x:=by first|exact Or.inl rfl|exact Or.inr (Or.inl rfl)|exact Or.inr (Or.inr rfl))(hd:(x==("__debug__":Str))=false:=by decide)
  (hcd:(x==("__classdict__":Str))=false:=by decide):PE X (.Name x pos) (ny i):=rZ hN hv hd hcd
end
theorem uJ{A B:Prop}(h:B):if false=true then A else B:=by
 rw[Dh AB];exact h
theorem tO{A B:Prop}(h:A):if true=true then A else B:=by
 rw[Di rfl];exact h
theorem pK{c A B:Prop} [Decidable c](h1:c->A)(h2:¬c->B):if c then A else B:=by
 by_cases h:c
 ·rw[Di h];exact h1 h
 ·rw[Dh h];exact h2 h
def DV (H H':Hp):Prop:=∀b o,H b=some o->H' b=some o
theorem DV.refl(H:Hp):DV H H:=fun _ _ h=>h
theorem DV.trans{H H1 H2:Hp}(a:DV H H1)(b:DV H1 H2):DV H H2:=fun c o h=>b c o (a c o h)
theorem DV.free{H H':Hp}(e:DV H H'){l:Addr}(h:H' l=Option.none):H l=Option.none:=by
 cases q:H l with
 |none=>rfl
 |some o=>
  rw[e l o q] at h;cases h
theorem DV.seq{K:W.Frag}{H H':Hp}{a:Addr}{xs:List V}(e:DV H H')(h:SqL K H a xs):SqL K H' a xs:=by
 rcases h with (h|⟨o,h⟩)|h
 ·exact .inl (.inl (e _ _ h))
 ·exact .inl (.inr ⟨o,e _ _ h⟩)
 ·exact .inr h
section
variable {κ:Type} [DecidableEq κ]
def ir (kvs:List (κ×V))(k:κ):Option V:=(kvs.find? fun kv=>decide (kv.1=k)).map (·.2)
def pO (kvs:List (κ×V))(k:κ)(v:V):List (κ×V):=
 if (kvs.any fun kv=>decide (kv.1=k))=true then kvs.map (fun kv=>if kv.1=k then (kv.1,v) else kv) else kvs++[(k,v)]
theorem nI{k:κ}:ir ([]:List (κ×V)) k=none:=rfl
theorem cK{p:κ×V}{r:List (κ×V)}{k:κ}(e:p.1=k):ir (p::r) k=some p.2:=by simp[ir,BN,e]
theorem du{p:κ×V}{r:List (κ×V)}{k:κ}(e:¬p.1=k):ir (p::r) k=ir r k:=by simp[ir,BN,e]
theorem iD(kvs:List (κ×V))(k:κ)(v:V):(pO kvs k v).length<=kvs.length+1:=by
 unfold pO;split
 ·rw[zY];lia
 ·rw[zZ,AF,Cy];lia
theorem FQ.Fc{o:Option V}{u:Option Value}(r:FQ o u):o.isSome=u.isSome:=by
 cases o with
 |none=>cases u with
  |none=>rfl
  |some _=>exact(show False from r).elim
 |some _=>cases u with
  |none=>exact(show False from r).elim
  |some _=>rfl
theorem KV.val{kvs:List (κ×V)}{vs:List (κ×Value)}(r:KV kvs vs)(k:κ):FQ (ir kvs k) (valueAt vs k):=by
 unfold KV at r;induction r with
 |nil=>exact True.intro
 |@cons p q ps qs h t ih=>
  obtain⟨h1,h2⟩:=h;by_cases e:p.1=k
  ·have e':q.1=k:=h1.symm.trans e;have b:valueAt (q::qs) k=some q.2:=by simp[valueAt,BN,e']
   rw[cK e,b];exact h2
  ·have e':¬q.1=k:=fun z=>e (h1.trans z);have b:valueAt (q::qs) k=valueAt qs k:=by simp[valueAt,BN,e']
   rw[du e,b];exact ih
theorem KV.any{kvs:List (κ×V)}{vs:List (κ×Value)}(r:KV kvs vs)(k:κ):(kvs.any fun kv=>decide (kv.1=k))=vs.any fun kv=>decide (kv.1=k):=by
 unfold KV at r;induction r with
 |nil=>rfl
 |cons h t ih=>rw[List.any_cons,List.any_cons,ih,h.1]
theorem KV.repl{kvs:List (κ×V)}{vs:List (κ×Value)}(r:KV kvs vs)(k:κ){y:V}{u:Value}(ry:RelV y u) :
  KV (kvs.map fun kv=>if kv.1=k then (kv.1,y) else kv) (vs.map fun kv=>if kv.1=k then (kv.1,u) else kv):=by
 unfold KV at r ⊢;induction r with
 |nil=>exact .nil
 |@cons p q ps qs h t ih=>
  rw[AH,AH];refine .cons ?_ ih;obtain⟨h1,h2⟩:=h;by_cases e:p.1=k
  ·rw[Di e,Di (h1.symm.trans e)];exact⟨h1,ry⟩
  ·rw[Dh e,Dh (fun z=>e (h1.trans z))];exact⟨h1,h2⟩
theorem KV.put{kvs:List (κ×V)}{vs:List (κ×Value)}(r:KV kvs vs)(k:κ){y:V}{u:Value}(ry:RelV y u):KV (pO kvs k y) (stored vs k u):=by
 unfold pO stored;rw[r.any k];by_cases e:(vs.any fun kv=>decide (kv.1=k))=true
 ·rw[Di e,Di e];exact r.repl k ry
 ·rw[Dh e,Dh e];exact Paired.snoc r ⟨rfl,ry⟩
end
theorem jJ{P:Program}{w:World}{k:Key}{u:Value}(r:RelV (kV k) u):(bu P w).is k u=true:=by
 cases k with
 |inl i=>obtain⟨t,e⟩:=(show ∃t,u=Value.int i t from r);subst e;exact iQ P w i t
 |inr x=>obtain⟨t,e⟩:=(show ∃t,u=Value.str x t from r);subst e;exact bS P w x t
theorem hZ{P:Program}{w:World}:∀{ks:List Key}{us:List Value},Vals (ks.map kV) us->ItemsAre (bu P w) ks us
 |[],_,r=>by rw[Cg] at r;cases r;exact .nil
 |k::ks,_,r=>by
  rw[AH] at r;cases r with
  |cons h t=>exact .cons (jJ h) (hZ t)
abbrev KT(H:Hp):List (List Key×V)->List (List Key×Addr×Value)->Prop:=Paired fun p q=>p.1=q.1/\H q.2.1=some (.tup (p.1.map kV))/\RelV p.2 q.2.2
theorem KT.val{H:Hp}{kvs:List (List Key×V)}{xs:List (List Key×Addr×Value)}(r:KT H kvs xs)(k:List Key):FQ (ir kvs k) ((atKey xs k).map (·.2)):=by
 induction r with
 |nil=>exact True.intro
 |@cons p q ps qs h t ih=>
  obtain⟨h1,_,h2⟩:=h;by_cases e:p.1=k
  ·have e':q.1=k:=h1.symm.trans e;have b:atKey (q::qs) k=some q.2:=by simp[atKey,BN,e']
   rw[cK e,b];exact h2
  ·have e':¬q.1=k:=fun z=>e (h1.trans z);have b:atKey (q::qs) k=atKey qs k:=by simp[atKey,BN,e']
   rw[du e,b];exact ih
section
variable {P:Program}{w:World}{H:Hp}{h:Heap}{a:Addr}
theorem se{u:HO}(ok:HOk P w H h)(e:Rd H a u):El P w H h a u:=e.ok ok
theorem nJ{kvs:List (Key×V)}(ok:HOk P w H h)(e:Rd H a (.dK kvs)):kvs.length<=sizeLine/\(a==sysModules)=false/\∃vs,KV kvs vs/\h.DictOf (bu P w) a vs:=
 show El P w H h a (.dK kvs) from se ok e
theorem tT{kvs:List (Key×V)}(ok:HOk P w H h)(e:H a=some (.dK kvs)):kvs.length<=sizeLine/\(a==sysModules)=false/\∃vs,KV kvs vs/\h.DictOf (bu P w) a vs:=nJ ok (.inl e)
theorem mR{ks:List Key}(ok:HOk P w H h)(e:H a=some (.tup (ks.map kV))):(tupleKind (bu P w)).is h ks a:=by
 obtain⟨_,its,r,o,h1,h2,n,h3⟩:=(show El P w H h a (.tup (ks.map kV)) from ok a _ e)
 exact⟨o,its.toArray,n,h1,h2,h3,by simpa using hZ r⟩
theorem qW{kvs:List (List Key×V)}(ok:HOk P w H h)(e:Rd H a (.dT kvs)):kvs.length<=sizeLine/\(a==sysModules)=false /\
  ∃xs,KT H kvs xs/\h.DictOfH (tupleKind (bu P w)) a xs:=by
 obtain⟨z,y,xs,r,o,es,ep,h1,h2,h3,h4,h5⟩:=(show El P w H h a (.dT kvs) from se ok e)
 refine⟨z,y,xs,r,o,es,ep,h1,h2,h3,h4,fun x hx=>?_,h5⟩;have all:∀{l:List (List Key×V)}{m:List (List Key×Addr×Value)},KT H l m->∀x∈m,(tupleKind (bu P w)).is h x.1 x.2.1:=by
  intro l m q;induction q with
  |nil=>intro x hx;exact nomatch hx
  |@cons p q ps qs hq t ih=>
   intro x hx;rcases Ag.mp hx with e|hx
   ·subst e;exact mR ok (by rw[<- hq.1];exact hq.2.1)
   ·exact ih x hx
 exact all r x hx
end
def IM (H:Hp)(a:Addr)(y:V)(r:Option V):Prop:=
 (∃kvs k,Rd H a (.dK kvs)/\y=kV k/\r=ir kvs k)\/∃kvs k b,Rd H a (.dT kvs)/\y=.ref b/\H b=some (.tup (k.map kV))/\r=ir kvs k
theorem IM.k{H:Hp}{a:Addr}{kvs:List (Key×V)}{k:Key}(e:H a=some (.dK kvs)):IM H a (kV k) (ir kvs k):=.inl ⟨kvs,k,.inl e,rfl,rfl⟩
section
variable {X:Cx}{pins:List (Addr×Obj)}{σ:St}{H:Hp}{s:Shared}{a:Addr}{y v:V}{u r:Value}{o:Option V}{A:Around}{E:Value->Shared->Prop}
theorem Inv.big(I:Inv X pins σ H s):sysModules<s.heap.objs.size:=by
 have h:mainGlobals<s.heap.objs.size:=(I.mod.glob.keeps I.bk).lt;exact Nat.lt_trans (by decide) h
theorem nq{Q:Value->Shared->Prop}(hu:A.units+1<cLine)(I:Inv X pins σ H s)(g:IM H a y (some v))(ry:RelV y u)(h:∀w' s',Inv X pins σ H s'->RelV v w'->Q w' s') :
  wpAny (model X.prog X.w) A (getItem (.ref a) u) Q E s:=by
 rcases g with ⟨kvs,k,e,ey,l⟩|⟨kvs,k,b,e,ey,eb,l⟩
 ·subst ey;obtain⟨z,hd,vs,rel,dd⟩:=nJ I.hok e;obtain⟨w',hw,rw'⟩:=FQ.some_of (v:=v) (o:=valueAt vs k) (by rw[l];exact rel.val k);exact wpAny_getItem_of (jJ ry) dd.mapOf hw (h w' _ (I.tok _) rw')
 ·subst ey;cases (show u=Value.ref b from ry);obtain⟨z,hd,xs,rel,dd⟩:=qW I.hok e;obtain⟨w',hw,rw'⟩:=FQ.some_of (v:=v) (o:=(atKey xs k).map (·.2)) (by rw[l];exact rel.val k);obtain⟨p,hp,hp2⟩:=BO.mp hw;refine wpAny_getItem_heap (tupleKind_room_in1 hu) (mR I.hok eb) dd hp ?_;rw[hp2];exact h w' _ (I.tok _) rw'
theorem Ks{Q:Value->Shared->Prop}(hu:A.units+1<cLine)(I:Inv X pins σ H s)(g:IM H a y o)(ry:RelV y u)(h:∀s',Inv X pins σ H s'->Q (.bool o.isSome) s') :
  wpAny (model X.prog X.w) A (compareOp .In u (.ref a)) Q E s:=by
 rcases g with ⟨kvs,k,e,ey,l⟩|⟨kvs,k,b,e,ey,eb,l⟩
 ·subst ey;obtain⟨z,hd,vs,rel,dd⟩:=nJ I.hok e;refine wpAny_in_of (jJ ry) hd dd.mapOf ?_;rw[<- (rel.val k).Fc,<- l];exact h _ (I.tok _)
 ·subst ey;cases (show u=Value.ref b from ry);obtain⟨z,hd,xs,rel,dd⟩:=qW I.hok e;refine wpAny_in_heap (tupleKind_room_in1 hu) (mR I.hok eb) hd dd ?_;have q:=(rel.val k).Fc;rw[Option.isSome_map] at q;rw[<- q,<- l];exact h _ (I.tok _)
theorem rh{h':Heap}{t':Nat}{ob:HO}(I:Inv X pins σ H s)(mu:Mut (H a))(hs:Heap.SameBut a s.heap h')(he:∃q,h'.get? a=some q)(new:El X.prog X.w (upd H a ob) h' a ob) :
  Inv X pins σ (upd H a ob) {s with heap:=h',toks:=t'}:=
 I.write (x:=a) (e:=a) mu (.inl rfl) (fun b q hb z=>(hs.2 b hb).trans z) he new
theorem sU{P:Program}{w:World}{H':Hp}{h':Heap}{kvs:List (Key×V)}{vs:List (Key×Value)}(z:kvs.length<=sizeLine)(hd:(a==sysModules)=false)(rel:KV kvs vs)(dd:h'.DictOf (bu P w) a vs) :
  El P w H' h' a (.dK kvs):=⟨z,hd,vs,rel,dd⟩
end
section
variable {X:Cx}{pins:List (Addr×Obj)}{σ:St}{H:Hp}{s:Shared}{a:Addr}{kvs:List (Key×V)}{k:Key}{u:Value}{A:Around}{E:Value->Shared->Prop}
end
def tK (i:Expr):Prop:=∀ov iv,subscripted i false ov iv=operate [ov,iv] (getItem ov iv)
theorem kR{prog:Program}{w:World}{A:Around}{E:Value->Shared->Prop}{s:Shared}{env:Env}{value slice:Expr}{pos:Pos}{T id:String}{Q:Value->Shared->Prop}
  (hl:typeLookup (.type T) "__getitem__"=pure (some (.builtin id)))(hs:tK slice)
  (h:wpAny (model prog w) A (eval value env) (fun o s₁=>wpAny (model prog w) A (eval slice env) (fun i s₂=>s₂.TypeIs o T/\wpAny (model prog w) A (getItem o i) Q E s₂) E s₁) E s) :
  wpAny (model prog w) A (eval (.Subscript value slice pos) env) Q E s:=by
 refine Subscript_ (Dl h (fun o s₁ h₁=>Dl h₁ (fun i s₂ h₂=>?_) fun _ _ x=>x) fun _ _ x=>x);obtain⟨hT,h₂⟩:=h₂;unfold subscriptTail;refine Dd ?_;rw[getitemInPython_of_ne hT.not_modules];refine Dd (wpAny_specialOf hT hl ?_);have fin:wpAny (model prog w) A (subscripted slice false o i) (fun r s₃=>wpAny (model prog w) A (letTemporaryGo value o r >>= fun _=>pure r) Q E s₃) E s₂:=by
  rw[hs o i];exact wpAny_operating (Dl h₂ (fun r s₃ h₃=>Dd (wpAny_letTemporaryGo (De h₃))) fun _ _ x=>x)
 first
  |exact De (Dd fin)
  |exact Dd (De (Dd fin))
  |exact Dd fin
theorem jd{X:Cx}{pins:List (Addr×Obj)}{σ:St}{H:Hp}{s:Shared}{a:Addr}{y:V}{o:Option V}(I:Inv X pins σ H s)(g:IM H a y o):s.TypeIs (.ref a) "dict":=by
 rcases g with ⟨kvs,k,e,_,_⟩|⟨kvs,k,b,e,_,_,_⟩
 ·obtain⟨_,_,vs,_,dd⟩:=nJ I.hok e;exact dd.typeIs
 ·obtain⟨_,_,xs,_,dd⟩:=qW I.hok e;exact dd.typeIs
def uu (td ty:TE):TE:=fun σ H Q=>td σ H fun x H1=>ty σ H1 fun y H2=>∃a v,x=.ref a/\IM H2 a y (some v)/\Q v H2
section
variable {X:Cx}{o i e value:Expr}{pos pos' tpos:Pos}{td ty tv:TE}
theorem qJ(hu:X.A.units+1<cLine)(ho:PE X o td)(hi:PE X i ty)(hs:tK i):PE X (.Subscript o i pos) (uu td ty):=by
 intro pins s σ H Q I h;refine kR PySem.F.slot_dict_getitem.lookup hs (thn (ho pins s σ H _ I h) fun u s1 hq51=>?_);obtain⟨x,H1,I1,rx,q1⟩:=hq51;refine thn (hi pins s1 σ H1 _ I1 q1) fun iv s2 ⟨y,H2,I2,ry,a,v,ex,g,q2⟩=>?_;subst ex;obtain rfl:u=Value.ref a:=rx;exact⟨jd I2 g,nq hu I2 g ry fun w' s3 I3 rw'=>⟨v,H2,I3,rw',q2⟩⟩
end
theorem oE{P:Program}{w:World}{H:Hp}(h:Heap)(hb:sysModules<h.objs.size):El P w H (h.push {cls:=.type "dict",data:=.dict #[]}) h.objs.size (.dK []):=
 ⟨Ah _,beq_eq_false_iff_ne.mpr (DC (Ac hb)),[],.nil,Heap.DictOf.new h⟩
section
variable {X:Cx}{pos:Pos}
end
def Ha:List (TE×TE)->St->Hp->(List (V×V)->Hp->Prop)->Prop
 |[],_,H,Q=>Q [] H
 |(tk,tv)::r,σ,H,Q=>tk σ H fun x H1=>tv σ H1 fun y H2=>Ha r σ H2 fun ps H3=>Q ((x,y)::ps) H3
abbrev VV:List (V×V)->List (Value×Value)->Prop:=Paired fun p q=>RelV p.1 q.1/\RelV p.2 q.2
def PPs (X:Cx)(pos:Pos)(keys:List (Option Expr))(values:List Expr)(trs:List (TE×TE)):Prop:=
 ∀(pins:List (Addr×Obj))(s:Shared)(σ:St)(H:Hp)(Q:List (V×V)->Hp->Prop),Inv X pins σ H s->Ha trs σ H Q ->
  wpAny (model X.prog X.w) X.A (evalPairs (pairTrees keys values X.env pos)) (fun vs s'=>∃ps H',Inv X pins σ H' s'/\VV ps vs/\Q ps H') X.xe s
theorem kz{X:Cx}{pos:Pos}:PPs X pos [] [] []:=fun pins s σ H Q I h=>pairTrees_nil_walk ⟨[],H,I,.nil,h⟩
theorem cI{X:Cx}{pos:Pos}{k v:Expr}{ks:List (Option Expr)}{vs:List Expr}{tk tv:TE}{trs:List (TE×TE)}(hk:PE X k tk)(hv:PE X v tv)(hr:PPs X pos ks vs trs) :
  PPs X pos (some k::ks) (v::vs) ((tk,tv)::trs):=fun pins s σ H Q I h=>
 pairTrees_cons_walk (thn (hk pins s σ H _ I h) fun u s1 ⟨x,H1,I1,rx,q1⟩=>thn (hv pins s1 σ H1 _ I1 q1) fun w2 s2 ⟨y,H2,I2,ry,q2⟩ =>
  thn (hr pins s2 σ H2 _ I2 q2) fun ws s3 ⟨ps,H3,I3,rel,q3⟩=>⟨(x,y)::ps,H3,I3,.cons ⟨rx,ry⟩ rel,q3⟩)
def cu (kvs more:List (Key×V)):List (Key×V):=more.foldl (fun acc kv=>pO acc kv.1 kv.2) kvs
theorem KV.merge:∀{more:List (Key×V)}{rs:List (Key×Value)}{kvs:List (Key×V)}{vs:List (Key×Value)},KV more rs->KV kvs vs->KV (cu kvs more) (merged vs rs):=by
 intro more rs kvs vs r;unfold KV at r;induction r generalizing kvs vs with
 |nil=>intro q;exact q
 |@cons p q ps qs h t ih=>
  intro r0;have e:KV (pO kvs p.1 p.2) (stored vs q.1 q.2):=by
   have:=r0.put p.1 h.2;rw[<- h.1];exact this
  exact ih e
theorem EG:∀(more kvs:List (Key×V)),(cu kvs more).length<=kvs.length+more.length
 |[],kvs=>by show kvs.length<=kvs.length+0;lia
 |p::r,kvs=>by
  have h1:=EG r (pO kvs p.1 p.2);have h2:=iD kvs p.1 p.2;show(cu (pO kvs p.1 p.2) r).length<=_;rw[AF];lia
theorem fh{P:Program}{w:World}:∀{kvs:List (Key×V)}{ws:List (Value×Value)},VV (kvs.map fun kv=>(kV kv.1,kv.2)) ws->∃rs,Carries (bu P w) ws rs/\KV kvs rs
 |[],_,r=>by rw[Cg] at r;cases r;exact⟨[],True.intro,.nil⟩
 |p::kvs,_,r=>by
  rw[AH] at r;cases r with
  |@cons a b as bs h t=>
   obtain⟨rs,c,q⟩:=fh (P:=P) (w:=w) t;obtain⟨b1,b2⟩:=b;exact⟨(p.1,b2)::rs,⟨jJ h.1,rfl,c⟩,.cons ⟨rfl,h.2⟩ q⟩
def uc (trs:List (TE×TE)):TE:=fun σ H Q=>∀p,H p=none->Ha trs σ (upd H p (.dK [])) fun ps H2=>H2 p=some (.dK [])/\∃kvs:List (Key×V),ps=kvs.map (fun kv=>(kV kv.1,kv.2))/\kvs.length<=15/\Q (.ref p) (upd H2 p (.dK (cu [] kvs)))
theorem kF{X:Cx}{pos:Pos}{keys:List (Option Expr)}{values:List Expr}{trs:List (TE×TE)}(h:PPs X pos keys values trs)(hall:keys.all (·.isSome)=true)(hl:keys.length=values.length)(h0:keys≠[])
  (h15:keys.length<=15):PE X (.Dict keys values pos) (uc trs):=by
 intro pins s σ H Q I q;have hn:=I.hok.fresh (zX s.heap.objs.size);have I1:=I.laid (a:=s.heap.objs.size) (o:=.dK []) (h':=s.heap.push {cls:=.type "dict",data:=.dict #[]}) (t':=s.toks) (fun _ _ q=>DE _ q) (zX _) (oE s.heap I.big);refine wpAny_Dict_walk (knd:=bu X.prog X.w) hall hl h0 h15 (thn (h pins _ σ _ _ I1 (q _ hn)) fun ws s2 hq52=>?_);obtain⟨ps,H2,I2,rel,e,kvs,ep,lk,q2⟩:=hq52;subst ep;obtain⟨rs,c,rk⟩:=fh (P:=X.prog) (w:=X.w) rel;obtain⟨z,hd,vs0,r0,dd⟩:=tT I2.hok e;cases r0;refine⟨rs,c,dd,fun h' dd' hs=>⟨.ref s.heap.objs.size,_,?_,rfl,q2⟩⟩;have hz:(cu [] kvs).length<=sizeLine:=by
  have h1:=EG kvs [];rw[Cy] at h1;rw[sizeLine_eq];lia
 have he:∃q,h'.get? s.heap.objs.size=some q:=let ⟨q,_,_,hq,_⟩:=dd';⟨q,hq⟩;exact rh I2 (by rw[e];exact True.intro) hs he (sU hz hd (rk.merge .nil) dd')
structure M1(X:Cx)(o:Expr)(m:Str)(apos:Pos)(e:Expr)(cpos:Pos):Prop where
 base:attributeBase o m X.env (eval o X.env)=eval o X.env
 few:((backTo cpos (starEach [e] X.env)).all (fun x=>!x.1) && (backToKw cpos (keywordEach [] X.env)).all (fun x=>x.1.isSome)
  && decide (([e]:List Expr).length+([]:List Keyword).length+(if ([]:List Keyword).isEmpty then 0 else 1) < 30))=true
 line:(apos.endLine==cpos.line)=true
 trees:backTo cpos (starEach [e] X.env)=[(false,eval e X.env)]
structure M2(X:Cx)(o:Expr)(m:Str)(apos:Pos)(e f:Expr)(cpos:Pos):Prop where
 base:attributeBase o m X.env (eval o X.env)=eval o X.env
 few:((backTo cpos (starEach [e,f] X.env)).all (fun x=>!x.1) && (backToKw cpos (keywordEach [] X.env)).all (fun x=>x.1.isSome)
  && decide (([e,f]:List Expr).length+([]:List Keyword).length+(if ([]:List Keyword).isEmpty then 0 else 1) < 30))=true
 line:(apos.endLine==cpos.line)=true
 trees:backTo cpos (starEach [e,f] X.env)=[(false,eval e X.env),(false,eval f X.env)]
section
variable {X:Cx}{pins:List (Addr×Obj)}{σ:St}{H:Hp}{s:Shared}{a:Addr}{y d:V}{u r:Value}{o:Option V}{A:Around}{E:Value->Shared->Prop}
end
section
variable {X:Cx}{o e f:Expr}{apos cpos:Pos}{td ty tx:TE}
end
section
variable {X:Cx}{pins:List (Addr×Obj)}{σ:St}{H:Hp}{s:Shared}{a:Addr}{kvs:List (Key×V)}{A:Around}{E:Value->Shared->Prop}
end
section
variable {X:Cx}{pins:List (Addr×Obj)}{σ:St}{H:Hp}{s:Shared}{a:Addr}{y:V}{u:Value}{A:Around}{E:Value->Shared->Prop}
end
section
variable {κ:Type} [DecidableEq κ]
end
def eW (cells:List (Str×Addr)):List (Str×NameKind)->List (Str×Addr)->List (Str×Addr)
 |[],acc=>acc
 |(n,k)::r,acc=>eW cells r (if k==.free then (n,(cells.lookup n).getD 0)::acc else acc)
theorem bM{scope:Scope}{env:Env}(h:∀y∈scope.names,y.2=.free->∃c,env.cells.lookup y.1=some c):closureFor scope env=pure (eW env.cells scope.names []):=by
 unfold closureFor;have key:∀(l:List (Str×NameKind))(acc:List (Str×Addr)),(∀y∈l,y.2=.free->∃c,env.cells.lookup y.1=some c) ->
   (forIn l acc (fun x r=>match x with
    | (name,kind)=>if (kind == NameKind.free)=true then do let a <- cellOf env name; pure (ForInStep.yield ((name,a)::r)) else pure (ForInStep.yield r)):Sem (List (Str×Addr)))=pure (eW env.cells l acc):=by
  intro l;induction l with
  |nil=>intro acc _;rfl
  |cons y r ih=>
   intro acc hl;obtain⟨n,k⟩:=y;rw[List.forIn_cons];have ih':=fun acc=>ih acc fun y hy=>hl y (AE _ hy);by_cases hk:(k==NameKind.free)=true
   ·obtain⟨c,hc⟩:=hl (n,k) Aq (by simpa using hk);have e1:cellOf env n=pure c:=by unfold cellOf;have hc':env.cells.lookup n=some c:=hc;rw[hc']
    dsimp only;rw[Di hk,e1];simp only[pure_bind];rw[ih'];unfold eW;rw[Di hk];have hc':env.cells.lookup n=some c:=hc;rw[hc']
    conv=>rhs;unfold eW
    rfl
   ·dsimp only;rw[Dh hk];simp only[pure_bind];rw[ih']
    conv=>rhs;unfold eW
    rw[Dh hk]
 have:=key scope.names [] h;simp only[bind_pure] at *;exact this
theorem gE{cells:List (Str×Addr)}:∀{l:List (Str×NameKind)}{acc:List (Str×Addr)}{x:Str}{c:Addr},(∀y∈l,y.2=.free->∃c,cells.lookup y.1=some c)->(∀x c,acc.lookup x=some c->cells.lookup x=some c) ->
  (eW cells l acc).lookup x=some c->cells.lookup x=some c
 |[],_,_,_,_,ha,e=>ha _ _ e
 |(n,k)::r,acc,x,c,h,ha,e=>by
  unfold eW at e;refine gE (fun y hy=>h y (AE _ hy)) ?_ e;intro x c e;by_cases hk:(k==NameKind.free)=true
  ·rw[Di hk] at e;obtain⟨c',hc⟩:=h (n,k) Aq (by simpa using hk);have hc':cells.lookup n=some c':=hc;rw[BP] at e;by_cases hx:(x==n)=true
   ·rw[hx] at e;have hxn:x=n:=by simpa using hx
    subst hxn;simp only[hc',Option.getD_some] at e;rw[hc'];exact e
   ·have hx':(x==n)=false:=by simpa using hx
    rw[hx'] at e;exact ha _ _ e
  ·rw[Dh hk] at e;exact ha _ _ e
theorem eD{cells:List (Str×Addr)}:∀{l:List (Str×NameKind)}{acc:List (Str×Addr)}{x:Str},((x,NameKind.free)∈l\/(acc.lookup x).isSome=true)->((eW cells l acc).lookup x).isSome=true
 |[],_,_,h=>by
  rcases h with h|h
  ·cases h
  ·exact h
 |(n,k)::r,acc,x,h=>by
  unfold eW;refine eD ?_;rcases h with h|h
  ·rcases Ag.mp h with e|h
   ·right
    cases e;simp[BP]
   ·exact .inl h
  ·right
   split
   ·rw[BP];split
    ·rfl
    ·exact h
   ·exact h
theorem cG{env:Env}{x:Str}{k:NameKind}:∀{names:List (Str×NameKind)},(∀y∈names,y.2≠.cell) ->
  (names.map fun(n,k)=>if (k==NameKind.free&&env.scope.kind==.function&&env.kindOf n==some .cell) then (n,NameKind.cell) else (n,k)).lookup x=some k->(k=.cell\/k=.free)->(x,NameKind.free)∈names
 |[],_,h,_=>by simp at h
 |(n,k')::r,hc,h,hk=>by
  rw[AH,BP] at h;have ih:=@cG env x k r (fun y hy=>hc y (AE _ hy));by_cases c:(k'==NameKind.free&&env.scope.kind==.function&&env.kindOf n==some .cell)=true
  ·rw[Di c] at h;have hf:k'=.free:=by
    have:=(AK _ _▸(AK _ _▸c).1).1;simpa using this
   by_cases hx:(x==n)=true
   ·have:x=n:=by simpa using hx
    subst this;subst hf;exact Aq
   ·have hx':(x==n)=false:=by simpa using hx
    simp only[hx'] at h;exact AE _ (ih h hk)
  ·rw[Dh c] at h;by_cases hx:(x==n)=true
   ·simp only[hx] at h;have:x=n:=by simpa using hx
    subst this;have hkk:k'=k:=Dq h;subst hkk;rcases hk with hk|hk
    ·exact absurd hk (hc (x,k') Aq)
    ·subst hk;exact Aq
   ·have hx':(x==n)=false:=by simpa using hx
    simp only[hx'] at h;exact AE _ (ih h hk)
theorem cX{env:Env}{x:Str}:∀{names:List (Str×NameKind)},names.lookup x=some .free ->
  (names.map fun(n,k)=>if (k==NameKind.free&&env.scope.kind==.function&&env.kindOf n==some .cell) then (n,NameKind.cell) else (n,k)).lookup x=some .cell \/
  (names.map fun(n,k)=>if (k==NameKind.free&&env.scope.kind==.function&&env.kindOf n==some .cell) then (n,NameKind.cell) else (n,k)).lookup x=some .free
 |[],h=>by simp at h
 |(n,k')::r,h=>by
  have ih:=@cX env x r;rw[BP] at h;rw[AH,BP];by_cases hx:(x==n)=true
  ·simp only[hx] at h;have hk:k'=.free:=Dq h;by_cases c:(k'==NameKind.free&&env.scope.kind==.function&&env.kindOf n==some .cell)=true
   ·rw[Di c];simp only[hx];exact .inl trivial
   ·rw[Dh c];simp only[hx,hk];exact .inr trivial
  ·have hx':(x==n)=false:=by simpa using hx
   simp only[hx'] at h;by_cases c:(k'==NameKind.free&&env.scope.kind==.function&&env.kindOf n==some .cell)=true
   ·rw[Di c];simp only[hx'];exact ih h
   ·rw[Dh c];simp only[hx'];exact ih h
def aw (X:Cx)(scope:Scope)(C:Addr)(fp:List Addr)(N:List Str)(s:Shared)(H:Hp):Cx:=
 {X with N:=N,s₀:=s,H₀:=H,env:=compEnvC scope (eW X.env.cells scope.names []) C X.env,outer:=X.stack,stack:=X.stack,ex:=fp,fn:=fun _=>false,xe:=fun _ _=>False}
def dq (js:List Nat)(σ:St):St:=js.map fun j=>(σ[j]?).join
structure Ec(X:Cx)(scope:Scope)(ts:List Str)(cap:List Str)(js:List Nat):Prop where
 kind:scope.kind=.function
 FT:∀y∈scope.names,y.2≠.cell
 names:∀y∈scope.names,y.2=.local->scope.names.lookup y.1=some .local
 free:∀y∈scope.names,y.2=.free->X.env.kindOf y.1=some .cell\/X.env.kindOf y.1=some .free
 JG:cap.map some=js.map fun j=>X.N[j]?
 Kq:∀y∈cap,scope.names.lookup y=some .free
 nd:(ts++cap).Nodup
theorem cm{names:List (Str×NameKind)}{y:Str}{k:NameKind}(h:names.lookup y=some k):(y,k)∈names:=PySem.mem_of_lookup h
section
variable {X:Cx}{pins:List (Addr×Obj)}{σ:St}{H:Hp}{s:Shared}{scope:Scope}{ts cap:List Str}{js:List Nat}{fp:List Addr}{C:Addr}
theorem Ec.cells(CS:Ec X scope ts cap js)(ok:X.Ok):∀y∈scope.names,y.2=.free->∃c,X.env.cells.lookup y.1=some c:=fun y hy hf=>ok.has _ (CS.free y hy hf)
theorem Ec.look(CS:Ec X scope ts cap js)(ok:X.Ok){x:Str}{c:Addr}(e:(eW X.env.cells scope.names []).lookup x=some c):X.env.cells.lookup x=some c:=
 gE (CS.cells ok) (fun _ _ z=>by simp at z) e
theorem iW(I:Inv X pins σ H s)(CS:Ec X scope ts cap js)(hf:∀b∈fp,Er X pins H b)(hfl:∀b∈fp,b<s.heap.objs.size)(hC:s.heap.objs.size<=C):(aw X scope C fp (ts++cap) s H).Ok where
 mod:=I.ok.mod
 kind:=CS.kind
 glob:=I.ok.glob
 blt:=I.ok.blt
 above:=hC
 inj:=fun x y c h1 h2=>I.ok.inj x y c (CS.look I.ok h1) (CS.look I.ok h2)
 has:=fun x hx=>by
  have:(x,NameKind.free)∈scope.names:=by
   rcases hx with hx|hx
   ·exact cG (env:=X.env) CS.FT hx (.inl rfl)
   ·exact cG (env:=X.env) CS.FT hx (.inr rfl)
  exact Bv.mp (eD (.inl this))
 cab:=fun x c h _=>by cases (show false=true from h)
 hd:=I.ok.hd
 frames:=I.ok.frames
 stk:=.inl rfl
 exf:=fun b hb=>⟨Ac (Ak (hfl b hb) hC),fun x c e=>(hf b hb).2.2.2.2.1 x c (CS.look I.ok e)⟩
 bs:=I.bs
 bsz:=Ap I.ok.bsz I.sz
 IE:=fun b o e hb=>by
  rcases (hf b hb).2.2.2.1 with z|z
  ·exact I.ok.IE b o e z
  ·have q:=(I.ok.bs b o e).1;rw[z] at q;cases q
 HM:=fun b hb z=>by
  rcases Ag.mp (I.FL b z) with q|q
  ·exact(hf b hb).2.1 q
  ·exact(hf b hb).2.2.1 q
 FV:=I.stack
 frf:=I.Gh
theorem jt{s₄:Shared}{m:Str->Option Value}{pins':List (Addr×Obj)}(I:Inv X pins σ H s)(CS:Ec X scope ts cap js)(hf:∀b∈fp,Er X pins H b)(hfl:∀b∈fp,b<s.heap.objs.size)(hC:s.heap.objs.size<=C)
  (old:∀b o,s.heap.get? b=some o->s₄.heap.get? b=some o)(hn:s₄.heap.Ns C m)(hos:s₄.os=s.os)(hb:AllBare s₄.gens)
  (hp:∀p∈pins',s₄.heap.get? p.1=some p.2/\H p.1=none/\p.1≠C/\p.1∉frs X.stack/\∀v,p.2.data≠.cell v) :
  Inv (aw X scope C fp (ts++cap) s H) pins' (List.replicate ts.length none++dq js σ) H s₄ where
 ok:=iW I CS hf hfl hC
 os:=hos
 bare:=hb
 base:=Un.kept old
 loc:=⟨m,hn,fun i x v h1 h2 h3=>by
  by_cases hi:i<ts.length
  ·rw[Bw (by simpa using hi)] at h2;rw[Cv] at h2;split at h2<;>cases h2
  ·have h1':cap[i-ts.length]?=some x:=by
    have:=h1;show cap[i-ts.length]?=some x;rw[show(aw X scope C fp (ts++cap) s H).N=ts++cap from rfl,AZ (by lia)] at this;exact this
   rw[AZ (by simpa using hi),Bx] at h2;unfold dq at h2;rw[Aj] at h2;cases hj:js[i-ts.length]? with
   |none=>rw[hj] at h2;cases h2
   |some j=>
    rw[hj] at h2;have h2':(σ[j]?).join=some v:=Dq h2;have hσ:σ[j]?=some (some v):=by
     cases e:σ[j]? with
     |none=>rw[e] at h2';cases h2'
     |some o=>rw[e] at h2';rw[show o=some v from h2']
    have hN:X.N[j]?=some x:=by
     have:=congrArg (fun l=>l[i-ts.length]?) CS.JG;simp only[Aj,h1',hj] at this;exact(Dq this).symm
    have hfr:=CS.Kq x (Am h1');have hk:=CS.free _ (cm hfr) rfl;obtain⟨m0,hn0,hl⟩:=I.loc;obtain⟨u,r,l⟩:=hl j x v hN hσ (.inr hk);refine⟨u,r,?_⟩;rcases l with ⟨k,_⟩|⟨k,c,e,z⟩
    ·rcases hk with q|q<;>(rw[q] at k;cases k)
    ·obtain⟨c',e'⟩:=Bv.mp (eD (cells:=X.env.cells) (acc:=[]) (.inl (cm hfr)));have e2:=CS.look I.ok e';have e3:X.env.cells.lookup x=some c:=e;rw[e3] at e2;cases e2;obtain⟨o,ho,hd⟩:=z
     exact .inr ⟨cX hfr,c,e',⟨o,old _ _ ho,hd⟩⟩⟩
 cell:=fun x c e=>by
  obtain⟨v,o,ho,hd⟩:=I.cell x c (CS.look I.ok e);exact⟨v,o,old _ _ ho,hd⟩
 free:=I.hok.fresh hC
 Ew:=fun x c e=>I.Ew x c (CS.look I.ok e)
 pin:=fun p hp'=>by
  rcases Ai.mp hp' with z|z
  ·obtain⟨e,n,ne,nf,d⟩:=I.pin p (Ay _ z);refine⟨old _ _ e,n,Ac (Ak (Dp e) hC),fun q=>?_,d⟩;rcases Ag.mp (I.FL _ q) with q|q
   ·exact ne q
   ·exact nf q
  ·exact hp p z
 hok:=I.hok.kept old
 len:=by
  show(List.replicate ts.length none++dq js σ).length=(ts++cap).length;have:=congrArg List.length CS.JG;simp only[zY] at this;rw[zZ,zZ,Bx,dq,zY,this]
end
def Kr:TT:=fun _ H Q=>Q true H
def iz (J:It)(k:Nat)(js:List Nat)(g:TG)(tc:TT)(te:TE)(σ:St)(H1:Hp)(Q:VK):Prop:=
 ∃W:Nat->Nat->List V->Hp->Prop,(∃m,W 0 m [] H1)/\∀i m ys H,W i m ys H ->
  (J.stop i H/\ys.length<=sizeLine/\∀p,H p=none->Q (.ref p) (upd H p (.lst ys))) \/
  (J.go i H/\ys.length<sizeLine/\∀x H',J.yld i H x H'->g x (List.replicate k none++dq js σ) H' fun σ2 H2=>tc σ2 H2 fun b H3=>if b=true then te σ2 H3 fun y H4=>∃m',m'<m/\W (i+1) m' (ys++[y]) H4 else ∃m',m'<m/\W (i+1) m' ys H3)
def qM (wi:TI)(k:Nat)(js:List Nat)(g:TG)(tc:TT)(te:TE):TE:=fun σ H Q=>wi σ H fun J H1=>iz J k js g tc te σ H1 Q
def PTs (X:Cx)(ifs:List Expr)(t:TT):Prop:=
 ∀(pins:List (Addr×Obj))(s:Shared)(σ:St)(H:Hp)(Q:Bool->Hp->Prop),Inv X pins σ H s->t σ H Q ->
  wpAny (model X.prog X.w) X.A (forIn ifs true fun c r=>if r=true then do let ok <- isTrue c X.env (eval c X.env);pure (ForInStep.yield ok) else pure (ForInStep.yield r)) (TP X pins σ Q) X.xe s
theorem bq{X:Cx}:PTs X [] Kr:=fun _ _ _ H _ I h=>wpAny_tests_nil ⟨H,I,h⟩
theorem ck{X:Cx}{c:Expr}{t:TT}(h:PT X c t):PTs X [c] t:=fun pins s σ H Q I hw=>wpAny_tests_one (h pins s σ H Q I hw)
theorem jH{prog:Program}{w:World}{A:Around}{R:Result->Shared->Prop}{s:Shared}{elt target iter:Expr}{ifs:List Expr}{scope:Scope}{pos:Pos}{it acc:Value}{env:Env}(I:Nat->Shared->Prop)
  (turn:∀n s,I n s->wpAny (model prog w) A (pyNext it) (fun r s₁=>match r with
   |none=>R (.ok .next) s₁
   | some v=>wpAny (model prog w) A (letOwnedTupleGo target it v) (fun _ s₁'=>wpAny (model prog w) A (assign target env v) (fun _ s₂ =>
     wpAny (model prog w) A (forIn ifs true fun c r=>if r=true then do let ok <- isTrue c env (eval c env); pure (ForInStep.yield ok) else pure (ForInStep.yield r)) (fun ok s₃ =>
      if ok=true then wpAny (model prog w) A (eval elt env) (fun x s₄ =>
       wpAny (model prog w) A (call (.builtin "list.append") [acc,x]) (fun _ s₅=>∃m,m < n/\I m s₅) (fun _ _=>False) s₄) (fun _ _=>False) s₃
      else ∃m,m < n/\I m s₃) (fun _ _=>False) s₂) (fun _ _=>False) s₁') (fun _ _=>False) s₁) (fun _ _=>False) s)
  (n:Nat) (h:I n s):codeAny (model prog w) A (.compLoop (.ListComp elt [⟨target,iter,ifs,0⟩] scope pos) 0 it acc env) R s:=by
 refine codeAny_loop rfl I (fun n s hI=>?_) n h;show wpAny _ A ((compTurn (.ListComp elt [⟨target,iter,ifs,0⟩] scope pos) 0 it acc env).onRaise (fun x=>do noteFrame x env;theTreesLotGoes x)) _ _ s;refine wpAny_noted ?_;rw[compTurn_list];refine Dd (wpAny_standAt (Dd (Dl (turn n s hI) (fun r s₁ h₁=>?_) fun _ _ h'=>h'.elim)));cases r with
 |none=>exact De h₁
 |some v=>
  refine Dd (Dl h₁ (fun _ s₁' h₁'=>?_) fun _ _ h'=>h'.elim);refine Dd (Dl h₁' (fun _ s₂ h₂=>Dd (Dl h₂ (fun ok s₃ h₃=>?_) fun _ _ h'=>h'.elim)) fun _ _ h'=>h'.elim);cases ok with
  |false=>exact De ⟨rfl,h₃⟩
  |true=>
   exact Dd (Dd (Dl h₃ (fun x s₄ h₄=>Dd (Dl h₄ (fun _ s₅ h₅=>De (De ⟨rfl,h₅⟩)) fun _ _ h'=>h'.elim)) fun _ _ h'=>h'.elim))
abbrev jy(its:List Value)(n:Nat):Obj:={cls:=.type "list",data:=.seq its.toArray n}
section
variable {X:Cx}{pins:List (Addr×Obj)}{σ:St}{H:Hp}{s:Shared}{scope:Scope}{ts cap:List Str}{js:List Nat}{fp:List Addr}{C D:Addr}
theorem mX{s':Shared}{σ':St}{H':Hp}{ys:List V}{its:List Value}{n:Nat}(I:Inv X pins σ H s)(hf:∀b∈fp,Er X pins H b)
  (hC:s.heap.objs.size<=C)(hD:s.heap.objs.size<=D)(I':Inv (aw X scope C fp (ts++cap) s H) [(D,jy its n)] σ' H' s')(hv:Vals ys its)(hz:ys.length<=sizeLine):Inv X pins σ (upd H' D (.lst ys)) s':=by
 obtain⟨hDg,hDn,hDC,hDs,hDd⟩:=I'.pin (D,jy its n) (Ae _ Aq);have nD:∀b o,s.heap.get? b=some o->b≠D:=fun b o e=>Ac (Ak (Dp e) hD);have nDt:∀b o,H b=some o->b≠D:=fun b o e=>Ac (Ak (I.hok.lt e) hD);have u:=I'.base;refine I.IK (ch:=fp) I'.os ⟨fun b o e n hb hx=>u.keep b o e n hb hx,fun b o e n hb hx=>u.slot b o e n hb hx,fun b o e n hx=>?_,fun b o e hx=>u.there b o e hx,fun b xs e=>?_,fun b o xs e=>?_,fun b ps e=>?_⟩ ?_ I'.bare fun b hb=>?_
 ·rw[av (nD b o e)];exact u.free b o e n hx
 ·rw[av (nDt b _ e)];exact u.GU b xs e
 ·rw[av (nDt b _ e)];exact u.GL b o xs e
 ·rw[av (nDt b _ e)];exact u.GR b ps e
 ·intro b o e;by_cases hb:b=D
  ·subst hb;rw[DR] at e;cases e;exact⟨hz,its,n,hv,hDg⟩
  ·rw[av hb] at e;refine(I'.hok b o e).HU (fun _ _ _ q=>q) (fun c q=>?_) fun c xs q=>?_
   ·by_cases hc:c=D
    ·subst hc;rw[hDn] at q;cases q
    ·rw[av hc];exact q
   ·by_cases hc:c=D
    ·subst hc;rw[hDn] at q;cases q
    ·rw[av hc];exact q
 ·obtain⟨f0,f1,f2,f3,f4,f5⟩:=hf b hb;exact⟨f3,f1,f4,f5⟩
theorem cL{pins':List (Addr×Obj)}{σ':St}{H':Hp}{s':Shared}(I:Inv X pins σ H s)(CS:Ec X scope ts cap js)(hf:∀b∈fp,Er X pins H b)(I':Inv (aw X scope C fp (ts++cap) s H) pins' σ' H' s') :
  Inv (aw X scope C fp (ts++cap) s H) pins' (List.replicate ts.length none++dq js σ) H' s':=by
 refine⟨I'.ok,I'.os,I'.bare,I'.base,?_,I'.cell,I'.free,I'.Ew,I'.pin,I'.hok,?_⟩
 ·obtain⟨m,hn,_⟩:=I'.loc;refine⟨m,hn,fun i x v h1 h2 h3=>?_⟩;by_cases hi:i<ts.length
  ·rw[Bw (by simpa using hi)] at h2;rw[Cv] at h2;split at h2<;>cases h2
  ·have h1':cap[i-ts.length]?=some x:=by
    have:=h1;rw[show(aw X scope C fp (ts++cap) s H).N=ts++cap from rfl,AZ (by lia)] at this;exact this
   rw[AZ (by simpa using hi),Bx] at h2;unfold dq at h2;rw[Aj] at h2;cases hj:js[i-ts.length]? with
   |none=>rw[hj] at h2;cases h2
   |some j=>
    rw[hj] at h2;have h2':(σ[j]?).join=some v:=Dq h2;have hσ:σ[j]?=some (some v):=by
     cases e:σ[j]? with
     |none=>rw[e] at h2';cases h2'
     |some o=>rw[e] at h2';rw[show o=some v from h2']
    have hN:X.N[j]?=some x:=by
     have:=congrArg (fun l=>l[i-ts.length]?) CS.JG;simp only[Aj,h1',hj] at this;exact(Dq this).symm
    have hfr:=CS.Kq x (Am h1');have hk:=CS.free _ (cm hfr) rfl;obtain⟨m0,hn0,hl⟩:=I.loc;obtain⟨u,r,l⟩:=hl j x v hN hσ (.inr hk);refine⟨u,r,?_⟩;rcases l with ⟨k,_⟩|⟨k,c,e,z⟩
    ·rcases hk with q|q<;>(rw[q] at k;cases k)
    ·obtain⟨c',e'⟩:=Bv.mp (eD (cells:=X.env.cells) (acc:=[]) (.inl (cm hfr)));have e2:=CS.look I.ok e';have e3:X.env.cells.lookup x=some c:=e;rw[e3] at e2;cases e2;obtain⟨o,ho,hd⟩:=z;have nfp:c∉fp:=fun q=>(hf c q).2.2.2.2.1 x c e rfl;obtain⟨sl,hg⟩:=I'.base.any ho (I.Ew x c e) nfp;exact .inr ⟨cX hfr,c,e',⟨_,hg,hd⟩⟩
 ·show(List.replicate ts.length none++dq js σ).length=(ts++cap).length;have:=congrArg List.length CS.JG;simp only[zY] at this;rw[zZ,zZ,Bx,dq,zY,this]
structure HG(X:Cx)(tg:Expr)(J:It)(fp:List Addr)(it:Addr)(tn:Nat->Heap->Prop):Prop where
 item:∀(i:Nat)(pins:List (Addr×Obj))(s:Shared)(σ:St)(H:Hp)(E:Value->Shared->Prop),Inv X pins σ H s->(∀b∈fp,Er X pins H b)->tn i s.heap->J.go i H ->
  wpAny (model X.prog X.w) X.A (pyNext (.ref it)) (fun r s1=>∃u,r=some u /\
   wpAny (model X.prog X.w) X.A (letOwnedTupleGo tg (.ref it) u) (fun _ s2=>∃x H',Inv X pins σ H' s2/\RelV x u/\J.yld i H x H'/\tn (i+1) s2.heap/\∀b∈fp,H' b=none) E s1) E s
 done:∀(i:Nat)(pins:List (Addr×Obj))(s:Shared)(σ:St)(H:Hp)(E:Value->Shared->Prop),Inv X pins σ H s->(∀b∈fp,Er X pins H b)->tn i s.heap->J.stop i H ->
  wpAny (model X.prog X.w) X.A (pyNext (.ref it)) (fun r s1=>r=none/\Inv X pins σ H s1) E s
structure TurnOk(P:Program)(w:World)(fp:List Addr)(it:Addr)(tn:Nat->Heap->Prop):Prop where
 obj:∀i h,tn i h->∀b∈fp,∃o,h.get? b=some o/\∀v,o.data≠.cell v
 keep:∀i h h',tn i h->(∀b∈fp,∀o,h.get? b=some o->h'.get? b=some o)->tn i h'
 self:∀(A:Around)(i:Nat)(s:Shared)(Q:Value->Shared->Prop)(E:Value->Shared->Prop),tn i s.heap->Q (.ref it) s->wpAny (model P w) A (pyIter (.ref it)) Q E s
theorem eV{tg elt iter:Expr}{ifs:List Expr}{pos:Pos}{g:TG}{tc:TT}{te:TE}{J:It}{it:Addr}{tn:Nat->Heap->Prop}{W:Nat->Nat->List V->Hp->Prop}{m0:Nat}{E:Value->Shared->Prop}
  {RR:Value->Addr->Result->Shared->Prop}{Fin:List V->Hp->Prop}
  (I:Inv X pins σ H s)(T:TurnOk X.prog X.w fp it tn)(TA:∀C,HG (aw X scope C fp (ts++cap) s H) tg J fp it tn)(st:tn 0 s.heap)(hf:∀b∈fp,Er X pins H b)(CS:Ec X scope ts cap js)
  (hg:∀C fp s H,PG (aw X scope C fp (ts++cap) s H) tg g)(ht:∀C fp s H,PTs (aw X scope C fp (ts++cap) s H) ifs tc)(he:∀C fp s H,PE (aw X scope C fp (ts++cap) s H) elt te)
  (w0:W 0 m0 [] H)
  (turn:∀i m ys H,W i m ys H->(J.stop i H/\ys.length<=sizeLine/\Fin ys H)\/(J.go i H/\ys.length < sizeLine/\∀x H',J.yld i H x H'->g x (List.replicate ts.length none++dq js σ) H' fun σ2 H2=>tc σ2 H2 fun b H3 =>
   if b=true then te σ2 H3 fun y H4=>∃m',m' < m/\W (i+1) m' (ys++[y]) H4 else ∃m',m' < m/\W (i+1) m' ys H3))
  (hRR:∀D C s' H' ys m,Inv X pins σ (upd H' D (.lst ys)) s'->s'.heap.Ns C m->s.heap.objs.size<=C->s.heap.objs.size<=D->C≠D->H' C=none->H' D=none->Fin ys H'->RR (.ref D) C (.ok .next) s') :
  wpAny (model X.prog X.w) X.A (newList []) (fun acc s₃=>wpAny (model X.prog X.w) X.A (newFunctionEnv scope X.env.globals (eW X.env.cells scope.names []) [] X.env.qual none .none (some X.env)) (fun cenv s₄ =>
   codeAny (model X.prog X.w) X.A (.compStart (.ListComp elt [⟨tg,iter,ifs,0⟩] scope pos) 0 (.ref it) acc { cenv with scope:=relabel scope X.env }) (RR acc cenv.locals) s₄) E s₃) E s:=by
 refine wpAny_newObj_type (wpAny_newFunctionEnv CS.FT (by intro y hy;simp at hy) (fun h₁ hns₁ hsb₁=>?_) CS.kind);dsimp only at hns₁ hsb₁ ⊢;generalize hH2:s.heap.push {cls:=.type "list",dict:=none,data:=.seq ([]:List Value).toArray}=H2 at hns₁ hsb₁ ⊢;have hCs:H2.objs.size=s.heap.objs.size+1:=by rw[<- hH2,DM]
 have hDC:s.heap.objs.size≠H2.objs.size:=by rw[hCs];exact Ac (AY _)
 have hCle:s.heap.objs.size<=H2.objs.size:=by rw[hCs];exact Bb _
 have below:∀b,b<s.heap.objs.size->b≠H2.objs.size:=fun b hb=>by rw[hCs];exact Ac (Bc hb)
 have old:∀b o,s.heap.get? b=some o->h₁.get? b=some o:=fun b o e=>hsb₁.extBut b o (below b (Dp e)) (DE _ (hH2▸DE _ e));have hacc:h₁.get? s.heap.objs.size=some (jy [] 0):=hsb₁.extBut _ _ hDC (DE _ (hH2▸DG _ rfl));have hfl:∀b∈fp,b<s.heap.objs.size:=fun b hb=>by obtain⟨o,e,_⟩:=T.obj _ _ st b hb;exact Dp e
 have st₁:tn 0 h₁:=T.keep _ _ _ st fun b _ o e=>old b o e;have hDstk:s.heap.objs.size∉frs X.stack:=fun z=>by
  obtain⟨_,o,ho,_⟩:=I.stack.mem z;exact absurd (Dp ho) (AD _)
 have I0:Inv (aw X scope H2.objs.size fp (ts++cap) s H) [(s.heap.objs.size,jy [] 0)] (List.replicate ts.length none++dq js σ) H {s with heap:=h₁,toks:=s.toks+([]:List (Str×Value)).length}:=
  jt I CS hf hfl hCle old hns₁ rfl I.bare fun p hp=>by
   have e:p=(s.heap.objs.size,jy [] 0):=by simpa using hp
   subst e;exact⟨hacc,I.hok.fresh (zX _),hDC,hDstk,fun v z=>by cases z⟩
 have stat:∀{H':Hp}{ys:List Value}{n:Nat},(∀b∈fp,H' b=none)->∀b∈fp,Er (aw X scope H2.objs.size fp (ts++cap) s H) [(s.heap.objs.size,jy ys n)] H' b:=fun {H' ys n} hn b hb=>by
  obtain⟨f0,f1,f2,f3,f4,f5⟩:=hf b hb;refine⟨hn b hb,below b (hfl b hb),?_,.inl hb,fun x c e=>f4 x c (CS.look I.ok e),fun p hp=>?_⟩
  ·exact(iW I CS hf hfl hCle).HM b hb
  ·rcases Ai.mp hp with z|z
   ·exact f5 p (Ay _ z)
   ·have e:p=(s.heap.objs.size,jy ys n):=by simpa using z
    subst e;intro q;have q':s.heap.objs.size=b:=q;exact absurd (hfl b hb) (by rw[<- q'];exact AD _)
 have loop:∀s₃:Shared,s₃={s with heap:=h₁,toks:=s.toks+([]:List (Str×Value)).length} ->
   codeAny (model X.prog X.w) X.A (.compLoop (.ListComp elt [⟨tg,iter,ifs,0⟩] scope pos) 0 (.ref it) (.ref s.heap.objs.size) (compEnvC scope (eW X.env.cells scope.names []) H2.objs.size X.env))
    (RR (.ref s.heap.objs.size) H2.objs.size) s₃:=by
  rintro s₃ rfl;refine jH (fun k s'=>∃i H' ys its n,Inv (aw X scope H2.objs.size fp (ts++cap) s H) [(s.heap.objs.size,jy its n)] (List.replicate ts.length none++dq js σ) H' s'/\Vals ys its/\tn i s'.heap/\(∀b∈fp,H' b=none)/\W i k ys H') ?_ m0
   ⟨0,H,[],[],0,I0,.nil,st₁,fun b hb=>(hf b hb).1,w0⟩
  rintro k s3 ⟨i,H3,ys,its,n,I3,v3,st3,fr3,w3⟩;rcases turn i k ys H3 w3 with ⟨stop,hz,fin⟩|⟨go,hz,step⟩
  ·refine thn ((TA _).done i _ s3 _ H3 _ I3 (stat fr3) st3 stop) fun r s4 hq53=>?_;obtain⟨hr,I4⟩:=hq53;subst hr;obtain⟨m4,hn4,_⟩:=I4.loc;exact hRR _ _ s4 H3 ys m4 (mX I hf hCle (zX _) I4 v3 hz) hn4 hCle (zX _) (DC hDC) I4.free (I4.pin (s.heap.objs.size,jy its n) (Ae _ Aq)).2.1 fin
  ·refine thn ((TA _).item i _ s3 _ H3 _ I3 (stat fr3) st3 go) fun r s4 hq54=>?_;obtain⟨u,hr,h4⟩:=hq54;subst hr;refine thn h4 fun _ s5 hq55=>?_;obtain⟨x,H5,I5,r5,y5,st5,fr5⟩:=hq55;have I5':=I5.pinned (stat fr5) (T.obj _ _ st5);refine thn (hg _ _ _ _ _ s5 _ H5 x u _ I5' r5 (step x H5 y5)) fun _ s6 hq56=>?_;obtain⟨σ6,H6,I6,q6⟩:=hq56;refine thn (ht _ _ _ _ _ s6 σ6 H6 _ I6 q6) fun ok s7 hq57=>?_;obtain⟨H7,I7,q7⟩:=hq57;have pinned:∀{σ':St}{H':Hp}{s':Shared},Inv (aw X scope H2.objs.size fp (ts++cap) s H) ([(s.heap.objs.size,jy its n)]++cN fp s5.heap) σ' H' s'->tn (i+1) s'.heap/\∀b∈fp,H' b=none:=fun {σ' H' s'} J=>by
    refine⟨T.keep _ _ _ st5 fun b hb o e=>(J.pin (b,o) (Ae _ (Ae _ (bf hb e)))).1,fun b hb=>?_⟩;obtain⟨o,e,d⟩:=T.obj _ _ st5 b hb;exact(J.pin (b,o) (Ae _ (Ae _ (bf hb e)))).2.1
   cases ok with
   |false=>
    rw[Dh AB] at q7 ⊢;obtain⟨m',hm,w7⟩:=q7;obtain⟨st7,fr7⟩:=pinned I7;exact⟨m',hm,i+1,H7,ys,its,n,cL I CS hf I7.Ek,v3,st7,fr7,w7⟩
   |true=>
    rw[Di rfl] at q7 ⊢;refine thn (he _ _ _ _ _ s7 σ6 H7 _ I7 q7) fun yv s8 hq58=>?_;obtain⟨y,H8,I8,r8,m',hm,w8⟩:=hq58;obtain⟨st8,fr8⟩:=pinned I8;have I8':=cL I CS hf I8.Ek;obtain⟨hDg,hDn,hDC',hDs,hDd⟩:=I8'.pin (s.heap.objs.size,jy its n) (Ae _ Aq);have hl:=v3.length;refine append_at (hsz:=by rw[An];lia) hDg fun h9 hs9 hD9=>?_;have tracked:∀b o,b≠s.heap.objs.size->s8.heap.get? b=some o->h9.get? b=some o:=fun b o hb e=>hs9.extBut b o hb e;have I9:Inv (aw X scope H2.objs.size fp (ts++cap) s H) [(s.heap.objs.size,jy (its++[yv]) (n+1))] (List.replicate ts.length none++dq js σ) H8 {s8 with heap:=h9}:=by
     have J0:Inv (aw X scope H2.objs.size fp (ts++cap) s H) [] (List.replicate ts.length none++dq js σ) H8 s8:=I8'.ES (fun p hp=>absurd hp (by simp))
     have J:Inv (aw X scope H2.objs.size fp (ts++cap) s H) [] (List.replicate ts.length none++dq js σ) H8 { s8 with heap:=h9,toks:=s8.toks }:=J0.turned (it:=s.heap.objs.size) tracked hDn hDC' (.inr (Heap.get?_none_of_le (zX _))) (fun x c e q=>by
      obtain⟨v,o,ho,_⟩:=I.cell x c (CS.look I.ok e);rw[q] at ho;exact absurd (Dp ho) (AD _)) (fun p hp q=>by
       rw[AC] at hp;obtain⟨e,_⟩:=I.pin p (Ay _ hp);rw[q] at e
       exact absurd (Dp e) (AD _))
     refine J.ES fun p hp=>?_;have e:p=(s.heap.objs.size,jy (its++[yv]) (n+1)):=by simpa using hp
     subst e;refine⟨?_,hDn,hDC',hDs,fun v z=>by cases z⟩;show h9.get? s.heap.objs.size=_;rw[hD9];simp[jy,List.push_toArray]
    have st9:tn (i+1) h9:=T.keep _ _ _ st8 fun b hb o e=>tracked b o (Ac (hfl b hb)) e;exact⟨m',hm,i+1,H8,ys++[y],its++[yv],n+1,I9,v3.append (.cons r8 .nil),st9,fr8,w8⟩
 exact codeAny_compStart_list (loop _ rfl) (T.self _ _ _ _ _ st₁ (loop _ rfl))
theorem eY{tg elt iter:Expr}{ifs:List Expr}{pos:Pos}{g:TG}{tc:TT}{te:TE}{J:It}{it:Addr}{tn:Nat->Heap->Prop}{W:Nat->Nat->List V->Hp->Prop}{m0:Nat}{E:Value->Shared->Prop}
  {RR:Value->Addr->Result->Shared->Prop}{Fin:List V->Hp->Prop}
  (I:Inv X pins σ H s)(hc:X.calm=true)(T:Turn X.prog X.w X.K tg J fp it tn)(st:tn 0 s.heap)(hf:∀b∈fp,Er X pins H b)(CS:Ec X scope ts cap js)
  (hg:∀C fp s H,PG (aw X scope C fp (ts++cap) s H) tg g)(ht:∀C fp s H,PTs (aw X scope C fp (ts++cap) s H) ifs tc)(he:∀C fp s H,PE (aw X scope C fp (ts++cap) s H) elt te)
  (w0:W 0 m0 [] H)
  (turn:∀i m ys H,W i m ys H->(J.stop i H/\ys.length<=sizeLine/\Fin ys H)\/(J.go i H/\ys.length < sizeLine/\∀x H',J.yld i H x H'->g x (List.replicate ts.length none++dq js σ) H' fun σ2 H2=>tc σ2 H2 fun b H3 =>
   if b=true then te σ2 H3 fun y H4=>∃m',m' < m/\W (i+1) m' (ys++[y]) H4 else ∃m',m' < m/\W (i+1) m' ys H3))
  (hRR:∀D C s' H' ys m,Inv X pins σ (upd H' D (.lst ys)) s'->s'.heap.Ns C m->s.heap.objs.size<=C->s.heap.objs.size<=D->C≠D->H' C=none->H' D=none->Fin ys H'->RR (.ref D) C (.ok .next) s') :
  wpAny (model X.prog X.w) X.A (newList []) (fun acc s₃=>wpAny (model X.prog X.w) X.A (newFunctionEnv scope X.env.globals (eW X.env.cells scope.names []) [] X.env.qual none .none (some X.env)) (fun cenv s₄ =>
   codeAny (model X.prog X.w) X.A (.compStart (.ListComp elt [⟨tg,iter,ifs,0⟩] scope pos) 0 (.ref it) acc { cenv with scope:=relabel scope X.env }) (RR acc cenv.locals) s₄) E s₃) E s :=
 eV I ⟨T.obj,T.keep,T.self⟩ (fun C=>⟨T.item (aw X scope C fp (ts++cap) s H) rfl rfl rfl hc,T.done (aw X scope C fp (ts++cap) s H) rfl rfl rfl hc⟩) st hf CS hg ht he w0 turn hRR
end
section
variable {X:Cx}{scope:Scope}{ts cap:List Str}{js:List Nat}{tg elt iter:Expr}{ifs:List Expr}{pos:Pos}{wi:TI}{g:TG}{tc:TT}{te:TE}
theorem de{pins:List (Addr×Obj)}{σ:St}{H:Hp}{s:Shared}{C:Addr}{h':Heap}{n0:Nat}(I:Inv X pins σ H s)(hC0:X.s₀.heap.get? C=none)(hCL:X.env.locals≠C)(hcell:∀x c,X.env.cells.lookup x=some c->c≠C)(hpin:∀p∈X.pn++pins,p.1≠C)(hn:H C=none)(hs:Heap.SameBut C s.heap h'):Inv X pins σ H {s with heap:=h'}:=
 I.turned (t':=s.toks) (fun b o hb e=>hs.extBut b o hb e) hn (DC hCL) (.inr hC0) hcell hpin
theorem bB(hc:X.calm=true)(CS:Ec X scope ts cap js)(hi:PI X tg iter wi)(hg:∀C fp s H,PG (aw X scope C fp (ts++cap) s H) tg g)
  (ht:∀C fp s H,PTs (aw X scope C fp (ts++cap) s H) ifs tc)(he:∀C fp s H,PE (aw X scope C fp (ts++cap) s H) elt te)
  (hs:∀x,foldedSetIterable iter X.env x=pure x:=by intro _;rfl):PE X (.ListComp elt [⟨tg,iter,ifs,0⟩] scope pos) (qM wi ts.length js g tc te):=by
 intro pins s σ H Q I h;rw[eval_ListComp];refine wpAny_comprehension_free (use:=none) rfl hs (bM (CS.cells I.ok)) CS.kind CS.names (thn (hi pins s σ H _ I h) fun v s1 h1=>thn h1 fun itv s2 h2=>?_);obtain⟨it,fp,tn,J,H2,e,I2,T,st2,f2,W,⟨m0,w0⟩,turn⟩:=h2;subst e;refine eY (RR:=fun acc C=>compPost (model X.prog X.w) X.A X.xe none (EP X pins σ Q) acc C) I2 hc T st2 f2 CS hg ht he w0 turn ?_;intro D C s' H' ys m I' hn hC hD hCD hHC hHD fin;have szL:=I2.lt;have low:∀b o,s2.heap.get? b=some o->b≠C:=fun b o e=>Ac (Ak (Dp e) hC);refine⟨m,hn,fun h' hs'=>⟨.ref D,_,de (n0:=0) I' (Heap.get?_none_of_le (Ap I2.sz hC)) (Ac (Ak szL hC)) (fun x c e=>?_) (fun p hp=>?_) (by rw[av hCD];exact hHC) hs',rfl,fin D hHD⟩⟩
 ·obtain⟨v,o,ho,_⟩:=I2.cell x c e;exact low c o ho
 ·exact low _ _ (I2.pin p hp).1
def tP (te:TE)(i:Nat):TS:=fun D σ H=>te σ H fun x H1=>D.nx (σ.set i (some x)) H1
theorem cC{i:Nat}{y:Str}{py spos:Pos}(hc:X.calm=true)(CS:Ec X scope ts cap js)(hi:PI X tg iter wi)(hg:∀C fp s H,PG (aw X scope C fp (ts++cap) s H) tg g)
  (ht:∀C fp s H,PTs (aw X scope C fp (ts++cap) s H) ifs tc)(he:∀C fp s H,PE (aw X scope C fp (ts++cap) s H) elt te)
  (hN:X.N.Nodup)(hy:X.N[i]?=some y)(hx:Loc X.env.scope y)(hsw:swapsWith (.ListComp elt [⟨tg,iter,ifs,0⟩] scope pos) (some (.Name y py)) spos.line X.env=pure true)
  (hs:∀x,foldedSetIterable iter X.env x=pure x:=by intro _;rfl)(hf:X.fn y=true\/X.env.scope.names.lookup y=some .local:=by first|exact .inl rfl|exact .inr rfl|assumption) :
  PS X (.Assign [.Name y py] (.ListComp elt [⟨tg,iter,ifs,0⟩] scope pos) spos) (tP (qM wi ts.length js g tc te) i):=by
 intro pins s σ H D I h;rw[exec_Assign_Name_used _ _ _ _ hsw];refine Dd (wpAny_standAt (Dd ?_));show wpAny _ X.A (do let _ <- comprehension (.ListComp elt [⟨tg,iter,ifs,0⟩] scope pos) scope X.env _ (newList []) false (eval iter X.env) (some (assign (.Name y py) X.env))) _ _ s
 refine Dd (Dl (wpAny_comprehension_free (use:=some (assign (.Name y py) X.env)) (Q:=fun _ s'=>SP X pins D .next s') rfl hs (bM (CS.cells I.ok)) CS.kind CS.names
  (thn (hi pins s σ H _ I h) fun v s1 h1=>thn h1 fun itv s2 h2=>?_)) (fun _ s' hq=>De (De hq)) fun _ _ e=>e)
 obtain⟨it,fp,tn,J,H2,e,I2,T,st2,f2,W,⟨m0,w0⟩,turn⟩:=h2;subst e;refine eY (RR:=fun acc C=>compPost (model X.prog X.w) X.A X.xe (some (assign (.Name y py) X.env)) (fun _ s'=>SP X pins D .next s') acc C) I2 hc T st2 f2 CS hg ht he w0 turn ?_;intro D' C s' H' ys m I' hn hC hD hCD hHC hHD fin;have szL:=I2.lt;have low:∀b o,s2.heap.get? b=some o->b≠C:=fun b o e=>Ac (Ak (Dp e) hC);have hCL:X.env.locals≠C:=Ac (Ak szL hC);have hcell:∀x c,X.env.cells.lookup x=some c->c≠C:=fun x c e=>by
  obtain⟨v,o,ho,_⟩:=I2.cell x c e;exact low c o ho
 show wpAny _ X.A (assign (.Name y py) X.env (.ref D')) _ _ _;refine wpAny_assign_Name (gX (v:=.ref D') I' hN hy hx rfl (fun s'' I'' hch=>?_) hf);obtain⟨a,hsb,ha⟩:=hch;have hCa:C≠a:=by
  rcases ha with z|z
  ·rw[z];exact DC hCL
  ·exact DC (hcell _ _ z)
 refine⟨m,hn.sameBut hsb hCa,fun h' hs'=>⟨_,_,de (n0:=0) I'' (Heap.get?_none_of_le (Ap I2.sz hC)) hCL hcell (fun p hp=>low _ _ (I2.pin p hp).1) (by rw[av hCD];exact hHC) hs',fin D' hHD⟩⟩
end
mutual
inductive EK(K:W.Frag)(H:Hp):V->PyData->Prop
 |non:EK K H .non .none
 |bl (b:Bool):EK K H (.bl b) (.bool b)
 |int (i:Int):EK K H (.int i) (.int i)
 |str (x:Str):EK K H (.str x) (.str x)
 |lst {a:Addr}{xs:List V}{ds:List PyData}:SqL K H a xs->DatAll K H xs ds->EK K H (.ref a) (.list ds)
 |tup {a:Addr}{xs:List V}{ds:List PyData}:SqT K H a xs->DatAll K H xs ds->EK K H (.ref a) (.tuple ds)
inductive DatAll(K:W.Frag)(H:Hp):List V->List PyData->Prop
 |nil:DatAll K H [] []
 |cons {v:V}{d:PyData}{vs:List V}{ds:List PyData}:EK K H v d->DatAll K H vs ds->DatAll K H (v::vs) (d::ds)
end
theorem DV.Kg{K:W.Frag}{H H':Hp}{a:Addr}{xs:List V}(e:DV H H')(h:SqT K H a xs):SqT K H' a xs:=by
 rcases h with (h|⟨o,h⟩)|h
 ·exact .inl (.inl (e _ _ h))
 ·exact .inl (.inr ⟨o,e _ _ h⟩)
 ·exact .inr h
theorem af{H:Hp}{p:Addr}(h:H p=none)(o:HO):DV H (upd H p o):=fun b u q=>by rw[av (az q h)];exact q
section
variable {X:Cx}{pins:List (Addr×Obj)}{σ:St}{H:Hp}{s:Shared}
mutual
theorem Inv.reads(I:Inv X pins σ H s):∀{v:V}{d:PyData}{u:Value},EK X.K H v d->RelV v u->∃as,Reads s.heap u d as
 |_,_,_,.non,r=>by cases r;exact⟨_,.none⟩
 |_,_,_,.bl b,r=>by cases r;exact⟨_,.bool b⟩
 |_,_,_,.int i,r=>by obtain⟨t,rfl⟩:=r;exact⟨_,.int i t⟩
 |_,_,_,.str x,r=>by obtain⟨t,rfl⟩:=r;exact⟨_,.str x t⟩
 |_,_,_,.lst h q,r=>by
  cases r;obtain⟨its,rv,⟨o,n,e,c,dd,d⟩,hz⟩:=I.list h;obtain⟨as,z⟩:=I.readsAll q rv;exact⟨_,.list e c d (by simpa using z)⟩
 |_,_,_,.tup h q,r=>by
  cases r;obtain⟨its,rv,⟨o,e,c,n,d⟩,hz⟩:=I.tuple h;obtain⟨as,z⟩:=I.readsAll q rv;exact⟨_,.tuple e c d (by simpa using z)⟩
theorem Inv.readsAll(I:Inv X pins σ H s):∀{vs:List V}{ds:List PyData}{us:List Value},DatAll X.K H vs ds->Vals vs us->∃as,ReadsAll s.heap us ds as
 |_,_,_,.nil,.nil=>⟨_,.nil⟩
 |_,_,_,.cons h q,.cons r t=>by
  obtain⟨as,z⟩:=I.reads h r;obtain⟨bs,y⟩:=I.readsAll q t;exact⟨_,.cons z y⟩
end
def tH (K:W.Frag)(neg:Bool):R2:=fun x y H Q=>∃d e,EK K H x d/\EK K H y e/\d.canLay0=true/\e.canLay0=true/\d.depth<=60/\Q (.bl (if neg then !PyData.eqv d e else PyData.eqv d e)) H
theorem kD(hu:X.A.units+64<cLine):OpR X (compareOp .Eq) (tH X.K false):=by
 intro pins s σ H x y v u Q I rx ry h;obtain⟨d,e,hd,he,c1,c2,hp,q⟩:=h;obtain⟨as,ra⟩:=I.reads hd rx;obtain⟨bs,rb⟩:=I.reads he ry;exact SeqAt.compareEq_reads ra rb c1 c2 (by have:=Ci d.depth e.depth;lia) ⟨.bl _,H,I,rfl,q⟩
theorem cf(hu:X.A.units+64<cLine):OpR X (compareOp .NotEq) (tH X.K true):=by
 intro pins s σ H x y v u Q I rx ry h;obtain⟨d,e,hd,he,c1,c2,hp,q⟩:=h;obtain⟨as,ra⟩:=I.reads hd rx;obtain⟨bs,rb⟩:=I.reads he ry;exact SeqAt.compareNe_reads ra rb c1 c2 (by have:=Ci d.depth e.depth;lia) ⟨.bl _,H,I,rfl,q⟩
end
def tD (i j:Int):Prop:=Builtin.Int.intBits i<=2^20/\Builtin.Int.intBits j<=2^20
theorem bI{X:Cx}:OpR X (binaryOp .Mult) (rI tD fun i j=>.int (i*j)):=opI fun _ _ _ _ _ _ _ hc q=>mul_int q (IntMulOk.of_bits hc.1 hc.2)
def Its (x:Str):It:=⟨fun i _=>i<x.cps.size,fun i H v H'=>H'=H/\∃c,x.cps[i]?=some c/\v=.str ⟨#[c]⟩,fun i _=>x.cps.size<=i⟩
theorem nQ{P:Program}{w:World}{K:W.Frag}{tg:Expr}(it:Addr)(x:Str)(t:Tok):Turn P w K tg (Its x) [it] it (fun i h=>h.IsStrIter it "str_ascii_iterator" x t i) where
 mem:=by simp
 obj:=fun i h st b hb=>by
  have e:b=it:=by simpa using hb
  subst e;obtain⟨o,e,c,d⟩:=st;exact⟨o,e,fun v z=>by rw[d] at z;cases z⟩
 keep:=fun i h h' st k=>by
  obtain⟨o,e,r⟩:=st;exact⟨o,k it (by simp) o e,r⟩
 item:=by
  intro X hP hw hK hc i pins s σ H E I hf st hg;subst hP hw hK;obtain⟨f0,f1,f2,f3,f4,f5⟩:=hf it (by simp);have hi:i<x.cps.size:=hg;refine wpAny_pyNext_ascii_item st (c:=x.cps[i]) (by simp[hi]) fun h' st' sb=>?_;have I1:Inv X pins σ H {s with heap:=h',toks:=s.toks+1}:=I.turned (fun b o hb e=>(sb.2 b hb).trans e) f0 f1 f3 f4 f5;obtain⟨o,e,c,d⟩:=id st';exact⟨_,rfl,jV (s:={s with heap:=h',toks:=s.toks+1}) e c d (by decide) ⟨.str ⟨#[x.cps[i]]⟩,H,I1,⟨_,rfl⟩,⟨rfl,_,by simp[hi],rfl⟩,st',fun b hb=>(hf b hb).1⟩⟩
 done:=by
  intro X hP hw hK hc i pins s σ H E I hf st hg;subst hP hw hK;obtain⟨f0,f1,f2,f3,f4,f5⟩:=hf it (by simp);have hi:x.cps.size<=i:=hg;exact wpAny_pyNext_ascii_end (I.ok.hd hc) st (by simp;lia) fun h' eb=>⟨rfl,I.turned (t':=s.toks) (fun b o hb e=>eb b o hb e) f0 f1 f3 f4 f5⟩
 self:=fun A i s Q E st h=>by
  obtain⟨o,e,c,d⟩:=id st;refine wpAny_pyIter_slot (Heap.IsStrIter.typeIs st) F.slot_str_ascii_iterator_iter (DK F.slot_str_ascii_iterator_iter (Heap.IsStrIter.typeIs st) F.entry_str_ascii_iterator_iter ?_ (F.args_str_ascii_iterator_iter_1 _));show wpAny _ _ (ret (.ref it)) _ _ s;exact De ⟨_,rfl,"str_ascii_iterator",_,Heap.IsStrIter.typeIs st,F.slot_str_ascii_iterator_next.lookup,h⟩
section
variable {X:Cx}{tg:Expr}
def iStr (tl:TE):TI:=fun σ H R=>tl σ H fun x H1=>∃z,x=.str z/\z.cps.all (·<128)=true/\R (Its z) H1
theorem ki{l:Expr}{tl:TE}(hl:PE X l tl):PI X tg l (iStr tl):=by
 intro pins s σ H R I h;refine thn (hl pins s σ H _ I h) fun v s1 hq59=>?_;obtain⟨x,H1,I1,r1,q1⟩:=hq59;obtain⟨z,e,ha,q⟩:=q1;subst e;obtain⟨t,rfl⟩:=r1;refine wpAny_pyIter_ascii ha ?_;refine⟨s1.heap.objs.size,[s1.heap.objs.size],_,_,H1,rfl,I1.kept (t':=s1.toks) fun b o e=>DE _ e,nQ _ z t,⟨_,DG _ rfl,rfl,rfl⟩,fun b hb=>?_,q⟩;have e:b=s1.heap.objs.size:=by simpa using hb
 subst e;exact I1.HX (zX _) (I1.hok.fresh (zX _))
def Nx (n i:Nat)(P:Nat->List V->Hp->Prop)(ys:List V)(H:Hp):Prop:=∃m',m'<n-i/\(m'=n-(i+1)/\i+1<=n/\P (i+1) ys H)
theorem Nx.mk{n i:Nat}{P:Nat->List V->Hp->Prop}{ys:List V}{H:Hp}(hi:i<n)(h:P (i+1) ys H):Nx n i P ys H:=⟨n-(i+1),by lia,rfl,hi,h⟩
theorem dD{J:It}{n k:Nat}{js:List Nat}{g:TG}{tc:TT}{te:TE}{σ:St}{H:Hp}{Q:VK}(P:Nat->List V->Hp->Prop)(h0:P 0 [] H)(hz:∀i ys H,i<=n->P i ys H->ys.length<=i)(hn:n<=sizeLine)
  (hgo:∀i ys H,i<n->P i ys H->J.go i H)(hstop:∀ys H,P n ys H->J.stop n H)
  (hs:∀i ys H x H',i<n->P i ys H->J.yld i H x H'->g x (List.replicate k none++dq js σ) H' fun σ2 H2=>tc σ2 H2 fun b H3=>if b=true then te σ2 H3 fun y H4=>Nx n i P (ys++[y]) H4 else Nx n i P ys H3)
  (hd:∀ys H,P n ys H->∀p,H p=none->Q (.ref p) (upd H p (.lst ys))) :
  iz J k js g tc te σ H Q:=by
 refine⟨fun i m ys H=>m=n-i/\i<=n/\P i ys H,⟨n,by simp,Ah _,h0⟩,?_⟩;rintro i m ys H ⟨rfl,hi,p⟩;have hy:=hz i ys H hi p;by_cases hlt:i<n
 ·exact .inr ⟨hgo i ys H hlt p,by lia,fun x H' y=>hs i ys H x H' hlt p y⟩
 ·have e:i=n:=by lia
  subst e;exact .inl ⟨hstop ys H p,by lia,hd ys H p⟩
theorem sF{lo:Int}{n k:Nat}{js:List Nat}{g:TG}{tc:TT}{te:TE}{σ:St}{H:Hp}{Q:VK}(P:Nat->List V->Hp->Prop)(h0:P 0 [] H)(hz:∀i ys H,i<=n->P i ys H->ys.length<=i)(hn:n<=sizeLine)
  (hs:∀i ys H,i<n->P i ys H->g (.int (lo+i)) (List.replicate k none++dq js σ) H fun σ2 H2=>tc σ2 H2 fun b H3=>if b=true then te σ2 H3 fun y H4=>Nx n i P (ys++[y]) H4 else Nx n i P ys H3)
  (hd:∀ys H,P n ys H->∀p,H p=none->Q (.ref p) (upd H p (.lst ys))) :
  iz (Itr lo n) k js g tc te σ H Q:=
 dD P h0 hz hn (fun _ _ _ h _=>h) (fun _ _ _=>zX _) (fun i ys H x H' hi p y=>by obtain⟨e,y⟩:=y;subst e y;exact hs i ys _ hi p) hd
theorem cM{K:W.Frag}{a:Addr}{xs:List V}{k:Nat}{js:List Nat}{g:TG}{tc:TT}{te:TE}{σ:St}{H:Hp}{Q:VK}(P:Nat->List V->Hp->Prop)(h0:P 0 [] H)(hz:∀i ys H,i<=xs.length->P i ys H->ys.length<=i)(hn:xs.length<=sizeLine)
  (hl:∀i ys H,i<=xs.length->P i ys H->SqL K H a xs)
  (hs:∀i x ys H,xs[i]?=some x->P i ys H->g x (List.replicate k none++dq js σ) H fun σ2 H2=>tc σ2 H2 fun b H3=>if b=true then te σ2 H3 fun y H4=>Nx xs.length i P (ys++[y]) H4 else Nx xs.length i P ys H3)
  (hd:∀ys H,P xs.length ys H->∀p,H p=none->Q (.ref p) (upd H p (.lst ys))) :
  iz (Itl K a) k js g tc te σ H Q:=
 dD P h0 hz hn (fun i ys H hi p=>⟨xs,xs[i],hl i ys H (AW hi) p,by simp[hi]⟩) (fun ys H p=>⟨xs,hl _ ys H (zX _) p,zX _⟩)
  (fun i ys H x H' hi p y=>by obtain⟨e,y⟩:=y;subst e;exact hs i x ys _ (y xs (hl i ys _ (AW hi) p)) p) hd
theorem ui{K:W.Frag}{a:Addr}{xs:List V}{k:Nat}{js:List Nat}{g:TG}{tc:TT}{te:TE}{σ:St}{H:Hp}{Q:VK}(P:Nat->List V->Hp->Prop)(h0:P 0 [] H)(hz:∀i ys H,i<=xs.length->P i ys H->ys.length<=i)(hn:xs.length<=sizeLine)
  (hl:∀i ys H,i<=xs.length->P i ys H->SqT K H a xs)
  (hs:∀i x ys H,xs[i]?=some x->P i ys H->g x (List.replicate k none++dq js σ) H fun σ2 H2=>tc σ2 H2 fun b H3=>if b=true then te σ2 H3 fun y H4=>Nx xs.length i P (ys++[y]) H4 else Nx xs.length i P ys H3)
  (hd:∀ys H,P xs.length ys H->∀p,H p=none->Q (.ref p) (upd H p (.lst ys))) :
  iz (Itt K a) k js g tc te σ H Q:=
 dD P h0 hz hn (fun i ys H hi p=>⟨xs,xs[i],hl i ys H (AW hi) p,by simp[hi]⟩) (fun ys H p=>⟨xs,hl _ ys H (zX _) p,zX _⟩)
  (fun i ys H x H' hi p y=>by obtain⟨e,y⟩:=y;subst e;exact hs i x ys _ (y xs (hl i ys _ (AW hi) p)) p) hd
theorem qk{z:Str}{k:Nat}{js:List Nat}{g:TG}{tc:TT}{te:TE}{σ:St}{H:Hp}{Q:VK}(P:Nat->List V->Hp->Prop)(h0:P 0 [] H)(hz:∀i ys H,i<=z.cps.size->P i ys H->ys.length<=i)(hn:z.cps.size<=sizeLine)
  (hs:∀i c ys H,z.cps[i]?=some c->P i ys H->g (.str ⟨#[c]⟩) (List.replicate k none++dq js σ) H fun σ2 H2=>tc σ2 H2 fun b H3=>if b=true then te σ2 H3 fun y H4=>Nx z.cps.size i P (ys++[y]) H4 else Nx z.cps.size i P ys H3)
  (hd:∀ys H,P z.cps.size ys H->∀p,H p=none->Q (.ref p) (upd H p (.lst ys))) :
  iz (Its z) k js g tc te σ H Q:=
 dD P h0 hz hn (fun i ys H hi p=>hi) (fun ys H p=>zX _)
  (fun i ys H x H' hi p y=>by obtain⟨e,c,y,rfl⟩:=y;subst e;exact hs i c ys _ y p) hd
theorem boolsOf:∀{bs:List Bool}{us:List Value},Vals (bs.map V.bl) us->us=bs.map Value.bool
 |[],_,.nil=>rfl
 |b::r,_,.cons h t=>by cases h;rw[boolsOf t];rfl
theorem jv(hc:X.calm=true):dJ X (.builtin "all") (fun xs H Q=>∃(p:Addr)(bs:List Bool),xs=[.ref p]/\SqL X.K H p (bs.map V.bl)/\Q (.bl (bs.all id)) H):=by
 intro pins s σ H xs us Q I r h;obtain⟨p,bs,rfl,hq,q⟩:=h;obtain⟨u,rfl,rx⟩:=dX r;cases rx;obtain⟨its,rv,pl,hz⟩:=I.list hq;have hh:X.A.in1.handled=none:=I.ok.hd hc;have e:=boolsOf rv;subst e;have hp:p<s.heap.objs.size:=by obtain⟨o,n,e,_⟩:=pl;exact Dp e
 refine call_all_walk (wpAny_pyIter_list pl.isList ⟨s.heap.objs.size,_,_,_,_,_,fun i=>bs.getD i false,rfl,Walks.list hh s.heap.objs.size p (Ac hp) _,⟨⟨_,DG _ rfl,rfl,rfl⟩,pl.isList.push _⟩,?_,fun h' tk hk=>?_⟩)
 ·intro i v s' Q' E' hv q';have hv':(bs.map Value.bool)[i]?=some v:=by simpa using hv
  rw[Aj] at hv';cases eb:bs[i]? with
  |none=>rw[eb] at hv';cases hv'
  |some b=>
   rw[eb] at hv';cases hv';refine wpAny_truthy_bool ?_;have q2:Q' (bs.getD i false) s':=q';rw[Aw,eb] at q2;exact q2
 ·have e:(List.range (bs.map Value.bool).toArray.size).all (fun i=>bs.getD i false)=bs.all id:=by
   rw[DH,Be,Be];constructor
   ·intro h b hb;obtain⟨i,hi,rfl⟩:=Bm.mp hb;have:=h i (Bo.mpr (by simpa using hi));rw[Aw,Aa hi] at this;exact this
   ·intro h i hi;have hi':i<bs.length:=by simpa using Bo.mp hi
    rw[Aw,Aa hi'];exact h _ (AI hi')
  rw[e];refine⟨.bl _,H,?_,rfl,q⟩;have I1:Inv X pins σ H {s with heap:=s.heap.push {cls:=.type "list_iterator",data:=.fields #[.ref p,.int 0 0]},toks:=s.toks}:=I.kept fun b o e=>DE _ e;refine I1.turned (it:=s.heap.objs.size) (fun b o hb e=>hk b o (by simpa using hb) e) (I.hok.fresh (zX _)) (BK I.lt) (.inr (Heap.get?_none_of_le I.sz)) (fun x c e z=>?_) fun p hp z=>?_
  ·obtain⟨v,o,ho,_⟩:=I.cell x c e;rw[z] at ho;exact absurd (Dp ho) (AD _)
  ·have:=(I.pin p hp).1;rw[z] at this;exact absurd (Dp this) (AD _)
theorem strsOf:∀{zs:List Str}{us:List Value},Vals (zs.map V.str) us->StrsAre us zs
 |[],_,.nil=>.nil
 |z::r,_,.cons h t=>by obtain⟨tk,rfl⟩:=h;exact .cons z tk (strsOf t)
def qm (K:W.Frag):V->List V->Hp->VK->Prop:=fun x vs H Q=>∃(z:Str)(p:Addr)(zs:List Str),x=.str z/\vs=[.ref p]/\SqL K H p (zs.map V.str)/\(zs.map (·.length)).sum+zs.length*z.length<=16777216/\Q (.str (Txt.join z zs)) H
theorem Jb:MtR X "str.join" (qm X.K):=by
 intro pins s σ H x vs v us Q I rx rv h;obtain⟨z,p,zs,rfl,rfl,hq,hz,q⟩:=h;obtain⟨t,rfl⟩:=rx;obtain⟨u,rfl,ru⟩:=rv.one;cases ru;obtain⟨its,r',pl,_⟩:=I.list hq;exact join_list pl.isList (by simpa using strsOf r') hz fun t' k=>⟨.str _,H,I.tok _,⟨_,rfl⟩,q⟩
def Ky:V->Option Value
 |.ty T=>some (.type T)
 |.ref a=>some (.ref a)
 |_=>none
def rIsT (K:W.Frag):List V->Hp->VK->Prop:=fun xs H Q=>∃x y t c b,xs=[x,y]/\Ky y=some c/\Ge K H x t/\W.kitOne K t c=some b/\Q (.bl b) H
theorem EC:dJ X (.builtin "isinstance") (rIsT X.K):=by
 intro pins s σ H xs us Q I r h;obtain⟨x,y,t,c,b,rfl,ec,ty,e,q⟩:=h;obtain⟨u,u',rfl,rx,ry⟩:=sv r;have:u'=c:=by
  cases y with
  |ref _=>cases ry;exact Dq ec
  |ty _=>cases ry;exact Dq ec
  |_=>cases ec
 subst this;exact mv I rx ty e fun tk=>⟨.bl b,H,I.tok _,rfl,q⟩
def IU:V->List V->Hp->VK->Prop:=fun x vs H Q=>∃d o kvs more,x=.ref d/\vs=[.ref o]/\d≠o/\H d=some (.dK kvs)/\H o=some (.dK more)/\kvs.length+more.length<=sizeLine/\Q .non (upd H d (.dK (cu kvs more)))
theorem Hx:MtR X "dict.update" IU:=by
 intro pins s σ H x vs v us Q I rx rv h;obtain⟨d,o,kvs,more,rfl,rfl,hne,hd,ho,hz,q⟩:=h;cases rx;obtain⟨u,rfl,ru⟩:=rv.one;cases ru;obtain⟨z1,y1,ws1,r1,d1⟩:=(show El X.prog X.w H s.heap d (.dK kvs) from I.hok d _ hd)
 obtain⟨z2,y2,ws2,r2,d2⟩:=(show El X.prog X.w H s.heap o (.dK more) from I.hok o _ ho)
 have l1:kvs.length=ws1.length:=Paired.length r1;have l2:more.length=ws2.length:=Paired.length r2;refine PySem.call_meetsIn F.slot_dict_update d1.typeIs F.entry_dict_update (F.args_dict_update_2 _ _) (meets_dict_update (bu X.prog X.w) d o hne y2) ⟨ws1,ws2,d1,d2,by lia,fun h' e1 e2 hs=>?_⟩;refine⟨.non,_,I.write (x:=d) (e:=d) (o:=.dK (cu kvs more)) (t':=s.toks) (by rw[hd];trivial) (.inl rfl) (fun b u hb e=>hs.extBut b u hb e) ?_ ?_,rfl,q⟩
 ·obtain⟨o',es,ep,g,_⟩:=e1;exact⟨o',g⟩
 ·exact⟨Ap (EG more kvs) hz,y1,_,r2.merge r1,e1⟩
end
def Kp (F:Addr->Prop)(fs:List Addr)(h h':Heap):Prop:=
 (∀b o,h.get? b=some o->¬F b->b∉fs->h'.get? b=some o)/\(∀b o,h.get? b=some o->¬F b->∃sl,h'.get? b=some {o with slots:=sl})/\∀b o,h.get? b=some o->∃o',h'.get? b=some o'
theorem Kp.trans{F:Addr->Prop}{fs:List Addr}{h h1 h2:Heap}(a:Kp F fs h h1)(b:Kp F fs h1 h2):Kp F fs h h2:=
 ⟨fun c o e n m=>b.1 c o (a.1 c o e n m) n m,fun c o e n=>by
  obtain⟨sl,e1⟩:=a.2.1 c o e n;obtain⟨sl2,e2⟩:=b.2.1 c _ e1 n;exact⟨sl2,e2⟩,fun c o e=>by
  obtain⟨o1,e1⟩:=a.2.2 c o e
  exact b.2.2 c o1 e1⟩
structure ExcAt(h:Heap)(x:Addr)(cls:Value)(vs:Array Value):Prop where
 get:∃oe,h.get? x=some oe/\oe.cls=cls/\oe.dict=none/\oe.data=.fields vs
 ctx:vs[2]?=some .none
def Flt (F:Addr->Prop)(h:Heap)(x:Addr)(cls fl:Value):Prop:=
 ∃vs T oT ts,ExcAt h x cls vs/\vs[1]?=some (.ref T)/\T≠x/\h.get? T=some oT/\oT.data=.fields ts/\ts[3]?=some fl/\F x/\F T
def va (F:Addr->Prop)(h:Heap)(x:Addr)(cls:Value):Prop:=∃vs,ExcAt h x cls vs/\vs[1]?=some .none/\F x
section
variable {M:Model}{A:Around}{E:Value->Shared->Prop}{s:Shared}{F:Addr->Prop}{base:Heap}{env:Env}{outer:List Env}{L x:Addr}{cls:Value}
theorem mG{fl:Value}{Q:Unit->Shared->Prop}(t:Flt F s.heap x cls fl){fs:List Addr}(h:∀h',Kp F fs s.heap h'->Flt F h' x cls .none->Q () {s with heap:=h'}):wpAny M A (setFlight (.ref x) none) Q E s:=by
 obtain⟨vs,T,oT,ts,⟨⟨oe,he,hc,hdd,hd⟩,h2⟩,h1,hTx,hT,hdT,h3,fx,fT⟩:=t;have z3:3<ts.size:=(By.mp h3).1;unfold setFlight;refine Dd (wpAny_field he hd h1 ?_);rw[Di (show(Value.ref T != Value.none)=true from by simp)];have oth:∀b,b≠T->(s.heap.update T (Obj.mapFields (·.setIfInBounds 3 Value.none))).get? b=s.heap.get? b:=fun b hb=>Heap.get?_update_other _ _ (DC hb);have slf:=Heap.get?_update_self (Obj.mapFields (·.setIfInBounds 3 Value.none)) hT (Obj.isFreed_of_fields (Obj.data_mapFields hdT _));refine wpAny_setField hT hdT z3 (h _ ⟨fun b o e n _=>?_,fun b o e n=>⟨o.slots,?_⟩,fun b o e=>?_⟩ ?_)
 ·exact(oth b fun z=>n (z▸fT)).trans e
 ·exact(oth b fun z=>n (z▸fT)).trans e
 ·by_cases z:b=T
  ·subst z;exact⟨_,slf⟩
  ·exact⟨o,(oth b z).trans e⟩
 ·exact⟨vs,T,_,_,⟨⟨oe,(oth x (DC hTx)).trans he,hc,hdd,hd⟩,h2⟩,h1,hTx,slf,Obj.data_mapFields hdT _,by simp[z3],fx,fT⟩
theorem fw{vs:Array Value}{head:Value}{hn:Bool}{Q:Unit->Shared->Prop}(hfr:A.frames=some (env::outer))(hl:s.heap.FunFrames base (env::outer))(hf:env.frame=some L)
  (t:ExcAt s.heap x cls vs)(z1:1<vs.size)(fx:F x)(hF:∀b,s.heap.objs.size<=b->F b)
  (h:∀h',Kp F (frs (env::outer)) s.heap h'->Flt F h' x cls (rawInt L)->Q () {s with heap:=h'}) :
  wpAny M A (do let a <- frameOf env;let pl <- entryPlaceOf L hn;let b <- EntryCells.newEntry head a .none (rawInt L) .none pl;setField (.ref x) 1 b) Q E s:=by
 obtain⟨⟨oe,he,hc,hdd,hd⟩,h2⟩:=t;have hx:x∉frs (env::outer):=fun hm=>by
  obtain⟨_,o,ho,hnf⟩:=hl.mem hm;rw[he] at ho;cases ho;exact hnf vs hd
 refine Dd (wpAny_frameOf_fun hfr hl hf fun g hs=>?_);obtain⟨g0,g1,g2⟩:=hs;refine Dd (wpAny_entryPlaceOf fun pl hpl=>?_);unfold EntryCells.newEntry newFields;refine Dd (wpAny_newObj_type ?_ (hpl.sizeOk5 _ _ _ _ _));have he1:g.get? x=some oe:=(g1 x hx).trans he;generalize hob:({cls:=.type "traceback",dict:=none,data:=.fields ([head,.ref L,.none,rawInt L,.none]++(if pl.isEmpty then List.replicate 6 Value.none else pl)).toArray}:Obj)=ob;have hobd:ob.data=.fields ([head,.ref L,.none,rawInt L,.none]++(if pl.isEmpty then List.replicate 6 Value.none else pl)).toArray:=by rw[<- hob]
 have hobf:ob.isFreed=false:=Obj.isFreed_of_fields hobd;have he2:(g.push ob).get? x=some oe:=DE _ he1;have hTx:g.objs.size≠x:=BK (Dp he1);have hd3:=Obj.data_mapFields hd (·.setIfInBounds 1 (Value.ref g.objs.size));have slf:=Heap.get?_update_self (Obj.mapFields (·.setIfInBounds 1 (Value.ref g.objs.size))) he2 (Obj.isFreed_of_fields hd3);have oth:∀b o,b≠x->g.get? b=some o->((g.push ob).update x (Obj.mapFields (·.setIfInBounds 1 (Value.ref g.objs.size)))).get? b=some o:=fun b o hb e=>by
  rw[Heap.get?_update_other _ _ (DC hb)];exact DE _ e
 refine wpAny_setField he2 hd z1 (h _ ⟨fun b o e n m=>?_,fun b o e n=>?_,fun b o e=>?_⟩ ?_)
 ·exact oth b o (fun z=>n (z▸fx)) ((g1 b m).trans e)
 ·obtain⟨sl,q⟩:=g2 b o e;exact⟨sl,oth b _ (fun z=>n (z▸fx)) q⟩
 ·obtain⟨sl,q⟩:=g2 b o e;by_cases z:b=x
  ·subst z;exact⟨_,slf⟩
  ·exact⟨_,oth b _ z q⟩
 ·refine⟨_,g.objs.size,ob,_,⟨⟨_,slf,by rw[Obj.cls_mapFields];exact hc,?_,hd3⟩,?_⟩,by simp[z1],hTx,?_,hobd,?_,fx,hF _ (Ce g0.symm)⟩
  ·obtain⟨c,d,dt,sl⟩:=oe;cases dt<;>exact hdd
  ·rw[Array.getElem?_setIfInBounds_ne (by decide)];exact h2
  ·rw[Heap.get?_update_other _ _ (DC hTx)];exact DG g (by exact hobf)
  ·simp
theorem nN{Q:Unit->Shared->Prop}(hfr:A.frames=some (env::outer))(hl:s.heap.FunFrames base (env::outer))(hf:env.frame=some L)(t:va F s.heap x cls)(hF:∀b,s.heap.objs.size<=b->F b)
  (h:∀h',Kp F (frs (env::outer)) s.heap h'->Flt F h' x cls (rawInt L)->Q () {s with heap:=h'}):wpAny M A (noteFrame (.ref x) env) Q E s:=by
 obtain⟨vs,ea,h1,fx⟩:=t;obtain⟨oe,he,hc,hdd,hd⟩:=ea.get;unfold noteFrame;simp only[hf];refine Dd (wpAny_field he hd h1 ?_);rw[Dh (by decide)];exact fw hfr hl hf ea (By.mp h1).1 fx hF h
theorem mx{Q:Unit->Shared->Prop}(hfr:A.frames=some (env::outer))(hl:s.heap.FunFrames base (env::outer))(hf:env.frame=some L)(t:Flt F s.heap x cls .none)(hF:∀b,s.heap.objs.size<=b->F b)
  (h:∀h',Kp F (frs (env::outer)) s.heap h'->Flt F h' x cls (rawInt L)->Q () {s with heap:=h'}):wpAny M A (noteFrame (.ref x) env) Q E s:=by
 obtain⟨vs,T,oT,ts,⟨⟨oe,he,hc,hdd,hd⟩,h2⟩,h1,hTx,hT,hdT,h3,fx,fT⟩:=t;have z3:3<ts.size:=(By.mp h3).1;unfold noteFrame;simp only[hf];refine Dd (wpAny_field he hd h1 ?_);rw[Di (show(Value.ref T != Value.none)=true from by simp)];refine Dd (wpAny_field hT hdT h3 ?_);rw[Dh (show ¬((Value.none==rawInt L)=true) from by simp[rawInt])];have oth:∀b,b≠T->(s.heap.update T (Obj.mapFields (·.setIfInBounds 3 Value.none))).get? b=s.heap.get? b:=fun b hb=>Heap.get?_update_other _ _ (DC hb);have slf:=Heap.get?_update_self (Obj.mapFields (·.setIfInBounds 3 Value.none)) hT (Obj.isFreed_of_fields (Obj.data_mapFields hdT _));have nrec:∀b o,s.heap.get? b=some o->(∀vs,o.data≠.fields vs)->b≠T:=fun b o e nf z=>by
  rw[z,hT] at e;cases e;exact nf ts hdT
 have k1:Kp F (frs (env::outer)) s.heap (s.heap.update T (Obj.mapFields (·.setIfInBounds 3 Value.none))):=⟨fun b o e n _=>(oth b fun z=>n (z ▸ fT)).trans e,fun b o e n=>⟨o.slots,(oth b fun z=>n (z ▸ fT)).trans e⟩,fun b o e=>by
  by_cases z:b=T
  ·subst z;exact⟨_,slf⟩
  ·exact⟨o,(oth b z).trans e⟩⟩
 refine Dd (wpAny_setField hT hdT z3 ?_);refine fw (s:={s with heap:=s.heap.update T (Obj.mapFields (·.setIfInBounds 3 Value.none))}) hfr (hl.of_keeps fun b o e nf=>⟨o,(oth b (nrec b o e nf)).trans e,rfl⟩) hf (vs:=vs) ⟨⟨oe,(oth x (DC hTx)).trans he,hc,hdd,hd⟩,h2⟩ (By.mp h1).1 fx (fun b hb=>hF b (by rwa [Heap.size_update] at hb)) ?_;intro h' k2 t2;exact h h' (k1.trans k2) t2
end
section
variable {X:Cx}{pins:List (Addr×Obj)}{σ:St}{H:Hp}{s:Shared}{h':Heap}
theorem Inv.Gq{t':Nat}(I:Inv X pins σ H s)(k:Kp (Er X pins H) (frs X.stack) s.heap h'):Inv X pins σ H {s with heap:=h',toks:=t'}:=by
 classical
 have nf:∀b o,H b=some o->¬Er X pins H b:=fun b o e f=>by rw[f.1] at e;cases e
 have ns:∀b o,H b=some o->b∉frs X.stack:=fun b o e z=>by rw[I.Gh b z] at e;cases e
 have hch:∀b∈(List.range s.heap.objs.size).filter (fun b=>decide (Er X pins H b)),Er X pins H b:=fun b hb=>Do (Bl.mp hb).2;have nch:∀b o,s.heap.get? b=some o->b∉(List.range s.heap.objs.size).filter (fun b=>decide (Er X pins H b))->¬Er X pins H b:=fun b o e n f=>
  n (Bl.mpr ⟨Bo.mpr (Dp e),Dj f⟩)
 have stk:∀b,b≠X.env.locals->b∉X.fs->b∉frs X.stack:=fun b h1 h2 z=>(Ag.mp (I.FL b z)).elim h1 h2;refine I.step (g':=s.gens) (d':=s.drawn) (ch:=(List.range s.heap.objs.size).filter (fun b=>decide (Er X pins H b))) (fun b hb=>?_) (fun b o hL hb hc e n=>k.1 b o e (nch b o e hc) (stk b hL hb)) (fun b o hL hb hc e n=>k.2.1 b o e (nch b o e hc))
  (fun b o hc e n=>n) (fun b o hc e=>k.2.2 b o e) (fun _ _ e=>e) (fun _ _ _ e=>e) (fun b ps e=>⟨#[],by rw[e];simp⟩) (fun m hm=>?_) (fun b o e=>?_) I.bare
 ·obtain⟨f0,f1,f2,f3,f4,f5⟩:=hch b hb;exact⟨f3,f1,f4,f5⟩
 ·obtain⟨o,es,ep,ho,r⟩:=hm;obtain⟨sl,q⟩:=k.2.1 _ o ho fun f=>f.2.1 rfl;exact⟨_,es,ep,q,r⟩
 ·refine(I.hok b o e).HU (fun c u hc q=>?_) (fun _ q=>q) fun _ _ q=>q;rcases hc with z|z
  ·subst z;exact k.1 _ u q (nf _ o e) (ns _ o e)
  ·exact k.1 c u q (nf c _ z) (ns c _ z)
theorem Inv.Ir{H':Hp}(I:Inv X pins σ H s){b:Addr}(hb:s.heap.get? b=none)(hn:H' b=none):Er X pins H' b:=by
 refine⟨hn,fun z=>?_,fun z=>?_,?_,fun x c e z=>?_,fun p hp z=>?_⟩
 ·obtain⟨m,⟨o,_,_,ho,_⟩,_⟩:=I.loc;rw[z,ho] at hb;cases hb
 ·obtain⟨_,o,ho,_⟩:=I.FV.mem z;rw[ho] at hb;cases hb
 ·by_cases hx:b∈X.ex
  ·exact .inl hx
  ·refine .inr ?_;cases e:X.s₀.heap.get? b with
   |none=>rfl
   |some o=>
    obtain⟨o',e'⟩:=I.base.there b o e hx;rw[e'] at hb;cases hb
 ·obtain⟨v,o,ho,_⟩:=I.cell x c e;rw[z,hb] at ho;cases ho
 ·have:=(I.pin p hp).1;rw[z,hb] at this;cases this
theorem Inv.Hw(I:Inv X pins σ H s):∀b,s.heap.objs.size<=b->Er X pins H b:=fun b hb=>I.HX hb (I.hok.fresh hb)
end
def CXe (P:Program)(w:World):CXT:=fun outer H s E e s'=>∃x cls H',e=.ref x/\s'.os=s.os/\AllBare s'.gens/\Un (frs outer) [] H H' s.heap s'.heap/\HOk P w H' s'.heap /\
 Flt (fun b=>s.heap.get? b=none/\H' b=none) s'.heap x cls .none/\E cls none H'
def Out (X:Cx)(pins:List (Addr×Obj))(x:Addr)(cls:Value)(σ:St)(H:Hp)(s:Shared):Prop:=Inv X pins σ H s/\(va (Er X pins H) s.heap x cls\/Flt (Er X pins H) s.heap x cls .none)
section
variable {X:Cx}{pins:List (Addr×Obj)}{σ:St}{H:Hp}{s:Shared}
theorem Flt.imp{F G:Addr->Prop}{h:Heap}{x:Addr}{cls fl:Value}(f:∀b,F b->G b)(t:Flt F h x cls fl):Flt G h x cls fl:=by
 obtain⟨vs,T,oT,ts,a,b,c,d,e,g,fx,fT⟩:=t;exact⟨vs,T,oT,ts,a,b,c,d,e,g,f _ fx,f _ fT⟩
theorem Out.GW{E:XK}{e:Value}{s':Shared}(I:Inv X pins σ H s)(c:CXe X.prog X.w X.stack H s E e s'):∃x cls H',e=.ref x/\E cls none H'/\Out X pins x cls σ H' s':=by
 obtain⟨x,cls,H',rfl,os,bare,un,hok,t,q⟩:=c;have I':Inv X pins σ H' s':=I.IK (ch:=[]) os un hok bare (fun b z=>absurd z (by simp));refine⟨x,cls,H',rfl,q,I',.inr (t.imp fun b hq60=>?_)⟩;obtain⟨hb,hn⟩:=hq60;exact I.Ir hb hn
theorem Out.note{E:Value->Shared->Prop}{x L:Addr}{cls:Value}{Q:Unit->Shared->Prop}(o:Out X pins x cls σ H s)(hst:X.stack=X.env::X.outer)(hf:X.env.frame=some L)
  (h:∀h',Kp (Er X pins H) (frs X.stack) s.heap h'->Flt (Er X pins H) h' x cls (rawInt L)->Q () {s with heap:=h'}):wpAny (model X.prog X.w) X.A (noteFrame (.ref x) X.env) Q E s:=by
 obtain⟨I,t⟩:=o;have hfr:X.A.frames=some (X.env::X.outer):=by rw[I.ok.frames,hst]
 have hl:s.heap.FunFrames X.base (X.env::X.outer):=by rw[<- hst];exact I.stack
 rw[hst] at h;rcases t with t|t
 ·exact nN hfr hl hf t I.Hw h
 ·exact mx hfr hl hf t I.Hw h
theorem Out.leave{P:Program}{w:World}{K:W.Frag}{mg:Str->Option Value}{base:Heap}{N:List Str}{qual:Str}{scope:Scope}{f:Addr}{cd:Value}{A:Around}{outer:List Env}{s0:Shared}{H0:Hp}{E:XK}{x:Addr}{cls:Value}
  {EE:Value->Shared->Prop}(o:Out {bD (CXe P w) P w K mg base N qual scope f cd A outer s0 H0 E with xe:=EE} pins x cls σ H s)(q:E cls none H):(bD (CXe P w) P w K mg base N qual scope f cd A outer s0 H0 E).xe (.ref x) s:=by
 have I:=o.1;show wpAny (model P w) (A.deeper (envOfC qual scope s0.heap.objs.size f cd)) (leaving (envOfC qual scope s0.heap.objs.size f cd) (.ref x)) _ _ s;unfold leaving;refine Dd ?_;refine Out.note (X:={bD (CXe P w) P w K mg base N qual scope f cd A outer s0 H0 E with xe:=EE}) (L:=s0.heap.objs.size) o rfl rfl fun h1 k1 t1=>?_;refine mG (s:={s with heap:=h1}) (fs:=frs (envOfC qual scope s0.heap.objs.size f cd::outer)) t1 fun h2 k2 t2=>?_;have I2:Inv {bD (CXe P w) P w K mg base N qual scope f cd A outer s0 H0 E with xe:=EE} pins σ H {s with heap:=h2,toks:=s.toks}:=I.Gq (k1.trans k2);refine⟨x,cls,H,rfl,I2.os,I2.bare,I2.base,I2.hok,t2.imp fun b fb=>⟨?_,fb.1⟩,q⟩;rcases fb.2.2.2.1 with z|z
 ·exact absurd (show b∈([]:List Addr) from z) (by simp)
 ·exact z
end
abbrev XS:=Value->St->Hp->Prop
def Xok (X:Cx)(EX:XS):Prop:=∀(pins:List (Addr×Obj))(σ:St)(H:Hp)(s:Shared)(x:Addr)(cls:Value),Out X pins x cls σ H s->EX cls σ H->X.xe (.ref x) s
theorem eE{P:Program}{w:World}{K:W.Frag}{mg:Str->Option Value}{base:Heap}{N:List Str}{qual:Str}{scope:Scope}{f:Addr}{cd:Value}{A:Around}{outer:List Env}{s0:Shared}{H0:Hp}{E:XK} :
  Xok (bD (CXe P w) P w K mg base N qual scope f cd A outer s0 H0 E) (fun cls _ H=>E cls none H):=fun pins σ H s x cls o q=>
 Out.leave (EE:=(bD (CXe P w) P w K mg base N qual scope f cd A outer s0 H0 E).xe) o q
theorem jf{K:W.Frag}{h:Heap}{C:Addr}{bmB:List Value}{newId:String}(X:K.In h)(q:W.excIn K C bmB newId=true) :
  ∃bm N nm qn bs hdct sn sub ab col dd k0 k1 k2 k3 k5 mN,h.get? C=some (excClassObj nm qn C N bs bm hdct sn sub ab col dd k0 k1 k2 k3 k5 newId)/\h.Ns N mN/\mN "__init__"=none/\OwnTail h bmB bm:=by
 unfold W.excIn at q;split at q
 ·rename_i dd cd sl ho;split at q
  ·rename_i C' bm k0 k1 k2 k3 n k5 hm hs;simp only[AK,DP,Bool.not_eq_true'] at q;obtain⟨⟨⟨⟨⟨rfl,rfl⟩,hdel⟩,ht⟩,hok⟩,hni⟩:=q;obtain⟨nm,bs,mro,ns,qn,hd,sn,sub,ab,col,del⟩:=cd;dsimp only at hm hdel hok hni;subst hm;subst hdel;obtain⟨l⟩:=sl;have hl:l=[k0,k1,k2,k3,some (.builtin n),k5]:=hs;subst hl;exact⟨bm,ns,nm,qn,bs,hd,sn,sub,ab,col,dd,k0,k1,k2,k3,k5,_,X _ _ ho,.of_isNs (W.isNs_of_in X hok),W.nsMap_none_of_in X hok hni,W.tail_of_in X ht⟩
  ·cases q
 ·cases q
abbrev Gs:List Value:=[.type "ValueError",.type "Exception",.type "BaseException",.type "object"]
def sW (t:TA)(EX:St->Hp->Prop):TS:=fun D σ H=>t σ H fun vs H1=>vs.length<=sizeLine/\EX σ H1
theorem dZ{X:Cx}{x:Str}{C:Addr}{np cpos pos:Pos}{e:Expr}{es:List Expr}{t:TA}{EX:XS}(hc:X.calm=true)(hg:Gl X x)(hm:X.mg x=some (.ref C))(hK:W.excIn X.K C Gs "ValueError.__new__"=true)(ha:PA X (e::es) t)(hx:Xok X EX)
  (hdb:(x==("__debug__":Str))=false:=by decide)(he:starEach (e::es) X.env=(false,eval e X.env)::starEach es X.env:=by rfl)(hpl:(backTo cpos (starEach es X.env)).any (·.1)=false:=by rfl) :
  PS X (.Raise (some (.Call (.Name x np) (e::es) [] cpos)) none pos) (sW t (EX (.ref C))):=by
 intro pins s σ H D I h;obtain⟨bm,N,nm,q,bs,hdct,sn,sub,ab,col,dd,k0,k1,k2,k3,k5,mN,hC,hN,hni,T⟩:=jf I.mod.kin hK;refine wpAny_Raise_call_subT (C:=C) (nm:=nm) (q:=q) (N:=N) (bs:=bs) (bm:=bm) (hdct:=hdct) (sn:=sn) (sub:=sub) (ab:=ab) (col:=col) (dd:=dd) (k0:=k0) (k1:=k1) (k2:=k2) (k3:=k3) (k5:=k5)
  PySem.F.excBase_ValueError (mN:=mN) (T.hasType PySem.F.excBase_ValueError.hasBase) (I.ok.hd hc) (by rw[he];show(false||(backTo cpos (starEach es X.env)).any (·.1))=false;rw[hpl];rfl) hni (cW I hg hm ⟨rfl,?_⟩ hdb)
 have hA:=ha cpos pins s σ H _ I h;rw[he] at hA ⊢;refine Calls.evalArgs_plain (thn hA fun us s2 hq61=>?_);obtain⟨vs,H1,I1,r1,hz,q1⟩:=hq61;refine⟨rfl,by rw[<- r1.length];exact hz,I1.bk _ _ hC,hN.keeps I1.bk,T.keeps I1.bk,fun h' x' hm'=>?_⟩;have I2:Inv X pins σ H1 {s2 with heap:=h',toks:=s2.toks}:=I1.kept hm'.keeps;refine hx pins σ H1 _ x' (.ref C) ⟨I2,.inl ?_⟩ q1;obtain⟨tt,h1,h2,h3⟩:=hm'.there;refine⟨_,⟨⟨_,h1,rfl,rfl,rfl⟩,rfl⟩,rfl,I1.Ir hm'.new ?_⟩;cases e2:H1 x' with
 |none=>rfl
 |some o=>
  obtain⟨ob,g⟩:∃ob,s2.heap.get? x'=some ob:=by
   have z:=(I1.hok x' o e2)
   clear q1
   revert z
   induction o with
   |lst xs=>exact fun hq62=>by obtain⟨_,its,n,r,e⟩:=hq62;exact⟨_,e⟩
   |tup xs=>exact fun hq63=>by obtain⟨_,its,r,ob,e,_⟩:=hq63;exact⟨_,e⟩
   |dK kvs=>exact fun hq64=>by obtain⟨_,_,_,_,ob,_,_,e,_⟩:=hq64;exact⟨_,e⟩
   |dT kvs=>exact fun hq65=>by obtain⟨_,_,_,_,ob,_,_,e,_⟩:=hq65;exact⟨_,e⟩
   |set S n=>exact fun hq66=>by obtain⟨ob,_,_,_,e,_⟩:=hq66;exact⟨_,e⟩
   |ins C dx fs=>exact fun hq67=>by obtain⟨_,_,_,e,_⟩:=hq67;exact⟨_,e⟩
   |own x=>exact fun hq68=>by obtain⟨ob,e⟩:=hq68;exact⟨_,e⟩
   |xd fs=>exact fun hq69=>by obtain⟨mA,⟨ob,_,_,e,_⟩,_⟩:=hq69;exact⟨_,e⟩
   |met f x=>exact fun e=>⟨_,e⟩
   |rng lo hi=>exact fun hq70=>by obtain⟨_,_,_,e⟩:=hq70;exact⟨_,e⟩
   |frz o u _=>exact fun hq71=>by obtain⟨e,_⟩:=hq71;exact⟨_,e⟩
   |tbl ps=>exact fun e=>⟨_,e⟩
   |ext φ=>exact fun hq72=>by obtain⟨_,⟨ob,e⟩,_⟩:=hq72;exact⟨_,e⟩
  rw[hm'.new] at g;cases g
def sk (sp:Sp)(EX:XS)(t:TA):TE:=fun σ H Q=>t σ H fun vs H1=>sp vs H1 Q fun cls _ H'=>EX cls σ H'
theorem oN{X:Cx}{k:Nat}{f:Addr}{fd:FuncData}{ps:List Str}{sp:Sp}{EX:XS}{x:Str}{p pos:Pos}{e:Expr}{es:List Expr}{t:TA}(F:DY X.prog X.w X.K X.mg X.base (CXe X.prog X.w) k f fd ps sp)(hr:EB k X.A)(hg:Gl X x)(hm:X.mg x=some (.ref f))(hk:W.keepIn X.K (.ref f)=true)(hb:Binds X.K fd ps [])(hx:Xok X EX)
  (ha:PA X (e::es) t)(hdb:(x==("__debug__":Str))=false:=by decide)(he:starEach (e::es) X.env=(false,eval e X.env)::starEach es X.env:=by rfl)(hpl:(backTo pos (starEach es X.env)).any (·.1)=false:=by rfl) :
  PE X (.Call (.Name x p) (e::es) [] pos) (sk sp EX t):=by
 intro pins s σ H Q I h;refine wpAny_Call_Name_kw (cW I hg hm ?_ hdb);refine W.callWith_K (h₀:=X.base) I.ok.mod.kin hk (thn (ha pos pins s σ H _ I h) fun us s1 hq73=>?_) he hpl;obtain⟨vs,H1,I1,r,q⟩:=hq73;refine⟨I1.kIn,?_⟩;have hl:(us++[]).length=ps.length:=by rw[AC,<- r.length];exact F.len _ _ _ _ q
 have hb':=hb s1 us I1.kIn hl;rw[AC] at hb';refine wpAny_call (codeAny_mono (F.run X.A X.stack s1 H1 ⟨us,[]⟩ us vs Q _ hr I1.Jg hb' r q) fun r s' hq=>?_);cases r with
 |error e=>
  obtain⟨x,cls,H',rfl,q',o⟩:=Out.GW (E:=fun cls _ H'=>EX cls σ H') (e:=e) (s':=s') I1 hq;exact hx pins σ H' s' x cls o q'
 |ok fl=>
  cases fl with
  |ret u=>exact I1.after hq
  |next=>exact False.elim hq
  |brk=>exact False.elim hq
  |cont=>exact False.elim hq
section
variable {P:Program}{w:World}{K:PySem.W.Frag}{mg:Str->Option Value}{base:Heap}
theorem Fun.okE{x qual:Str}{st:Stmt}{f:Addr}{fd:FuncData}{N ps:List Str}{k:Nat}{sp:Sp}(F:Fun K x qual st f fd)(S:DT N ps (ai st))(len:∀vs H Q E,sp vs H Q E->vs.length=ps.length)
  (hbody:∀(cdv:Value) (A:Around) (outer:List Env) (s:Shared) (H:Hp) (vs:List V) (Q:VK) (E:XK),EB k (A.deeper (envOfC qual (ai st) s.heap.objs.size f cdv))->sp vs H Q E ->
   ∃t,PSs (bD (CXe P w) P w K mg base N qual (ai st) f cdv A outer s H E) (aN st) t/\t { nx:=fun _ H'=>Q .non H',rt:=Q } (start N vs) H):DY P w K mg base (CXe P w) (k+1) f fd ps sp:=by
 obtain⟨oc,od,kV,doc,pm,an,cdv,ct,osl,rfl,lk,hcd⟩:=F.ex;exact rE lk hcd S len fun A outer s H vs Q E hr hsp=>hbody cdv A outer s H vs Q E hr hsp
theorem EB.calm{k:Nat}{A:Around}{env:Env}(r:EB k (A.deeper env)):A.handled.isNone=true:=by
 have:=r.hd;have h2:A.handled=none:=this;rw[h2];rfl
end
section
variable {M:Model}{A:Around}{E:Value->Shared->Prop}
theorem iN{h:Heap}{g:Array GenState}{d:Drawn}{t:Nat}{os:OsState}{x C B:Addr}{oe:Obj}{nm q:Str}{N:Addr}{bs bm:List Value}{hdct:Bool}{sn:List Str}{sub:List Value}{ab:Bool}{col:Option Bool}{dd:Option Addr}{k0 k1 k2 k3 k5:Option Value}{newId:String}
  {nmb qb:Str}{Nb:Addr}{bsb bmb:List Value}{hdctb:Bool}{snb:List Str}{subb:List Value}{abb:Bool}{colb:Option Bool}{ddb:Option Addr}{j0 j1 j2 j3 j5:Option Value}{newIdb:String}{Q:Bool->Shared->Prop}
  (hC:h.get? C=some (excClassObj nm q C N bs bm hdct sn sub ab col dd k0 k1 k2 k3 k5 newId))(hB:h.get? B=some (excClassObj nmb qb B Nb bsb bmb hdctb snb subb abb colb ddb j0 j1 j2 j3 j5 newIdb))
  (he:h.get? x=some oe)(hcls:oe.cls=.ref C)(hbase:bmb.contains (.type "BaseException")=true)(hs:(Value.ref C::bm).contains (.ref B)=true)
  (hq:Q true ⟨h,g,d,t,os⟩):wpAny M A (excMatches (.ref x) (.ref B)) Q E ⟨h,g,d,t,os⟩:=by
 have hcB:(Value.ref B::bmb).contains (.type "BaseException")=true:=by rw[List.contains_cons,hbase,Bool.or_true]
 have f:=tc_notTuple;unfold excMatches
 repeat (first|(with_reducible refine wpAny_loadPart_at he ?_;rw[hcls])|with_reducible refine wpAny_loadPart_at hB ?_|(with_reducible refine wpAny_isSubtype_exc hB ?_;rw[hcB])|(with_reducible refine wpAny_isSubtype_exc hC ?_;rw[hs])|wp_step)
 exact hq
end
def subIn(K:W.Frag)(C B:Addr):Bool:=match K.lookup C with
 |some ⟨_,_,.cls cd,_⟩=>cd.mro.contains (.ref B)
 |_=>false
def qu (x:Addr)(cls:Value):HO:=.ext fun h=>∃vs,ExcAt h x cls vs
section
variable {X:Cx}{pins:List (Addr×Obj)}{σ:St}{H:Hp}{s:Shared}
theorem Inv.Jw{b:Addr}{o:HO}(I:Inv X pins σ H s)(f:Er X pins H b)(ob:El X.prog X.w (upd H b o) s.heap b o):Inv X pins σ (upd H b o) s:=by
 obtain⟨f0,f1,f2,f3,f4,f5⟩:=f;have nb:∀c u,H c=some u->c≠b:=fun c u e z=>by rw[z,f0] at e;cases e
 refine⟨I.ok,I.os,I.bare,⟨I.base.keep,I.base.slot,fun c u e n hx=>?_,I.base.there,fun c xs e=>?_,fun c u xs e=>?_,fun c ps e=>?_⟩,I.loc,I.cell,?_,fun x c e=>?_,fun p hp=>?_,fun c u e=>?_,I.len⟩
 ·have z:c≠b:=fun z=>by
   subst z;rcases f3 with q|q
   ·exact hx q
   ·rw[q] at e;cases e
  rw[av z];exact I.base.free c u e n hx
 ·have q:=I.base.GU c xs e;rw[av (nb c _ q)];exact q
 ·have q:=I.base.GL c u xs e;rw[av (nb c _ q)];exact q
 ·obtain⟨more,q⟩:=I.base.GR c ps e;exact⟨more,by rw[av (nb c _ q)];exact q⟩
 ·rw[av (DC f1)];exact I.free
 ·rw[av (f4 x c e)];exact I.Ew x c e
 ·obtain⟨a1,a2,a3⟩:=I.pin p hp;exact⟨a1,by rw[av (f5 p hp)];exact a2,a3⟩
 ·by_cases z:c=b
  ·subst z;rw[DR] at e;cases e;exact ob
  ·rw[av z] at e;refine(I.hok c u e).HU (fun _ _ _ q=>q) (fun a q=>?_) fun a xs q=>?_
   ·rw[av (nb a _ q)];exact q
   ·rw[av (nb a _ q)];exact q
abbrev Cx.hold(X:Cx)(pn:List (Addr×Obj)):Cx:={X with pn:=X.pn++pn}
def lR (X:Cx)(pn:List (Addr×Obj))(EX:XS):Cx:={X with pn:=X.pn++pn,xe:=fun e s'=>∃x cls σ' H',e=.ref x/\Out (X.hold pn) [] x cls σ' H' s'/\EX cls σ' H'}
def jo (X:Cx)(x:Addr):Cx:={X with A:=X.A.mark (some (.ref x)),calm:=false,xe:=fun _ _=>False}
theorem Cx.Ok.same{X Y:Cx}(ok:X.Ok)(h:Y={X with pn:=Y.pn,xe:=Y.xe}):Y.Ok:=by
 rw[h];exact⟨ok.mod,ok.kind,ok.glob,ok.blt,ok.above,ok.inj,ok.has,ok.cab,ok.hd,ok.frames,ok.stk,ok.exf,ok.bs,ok.bsz,ok.IE,ok.HM,ok.FV,ok.frf⟩
theorem Inv.hold{EX:XS}(I:Inv X pins σ H s):Inv (lR X pins EX) [] σ H s:=
 ⟨I.ok.same rfl,I.os,I.bare,I.base,I.loc,I.cell,I.free,I.Ew,fun p hp=>I.pin p (by rw[AC] at hp;exact hp),I.hok,I.len⟩
theorem Inv.ER{EX:XS}{p:List (Addr×Obj)}(I:Inv (lR X pins EX) p σ H s):Inv X pins σ H s:=
 ⟨I.ok.same rfl,I.os,I.bare,I.base,I.loc,I.cell,I.free,I.Ew,fun q hq=>I.pin q (Ay _ hq),I.hok,I.len⟩
theorem Inv.Jc{p:List (Addr×Obj)}(I:Inv (X.hold pins) p σ H s):Inv X pins σ H s:=
 ⟨I.ok.same rfl,I.os,I.bare,I.base,I.loc,I.cell,I.free,I.Ew,fun q hq=>I.pin q (Ay _ hq),I.hok,I.len⟩
theorem Er.ER{b:Addr}(f:Er (X.hold pins) [] H b):Er X pins H b:=by
 obtain⟨f0,f1,f2,f3,f4,f5⟩:=f;exact⟨f0,f1,f2,f3,f4,fun p hp=>f5 p (Ay _ hp)⟩
theorem Out.ER{x:Addr}{cls:Value}(o:Out (X.hold pins) [] x cls σ H s):Out X pins x cls σ H s:=by
 obtain⟨I,t⟩:=o;refine⟨I.Jc,?_⟩;rcases t with ⟨vs,a,b,c⟩|t
 ·exact .inl ⟨vs,a,b,c.ER⟩
 ·exact .inr (t.imp fun _ f=>f.ER)
theorem kT{pn:List (Addr×Obj)}{EX:XS}:Xok (lR X pn EX) EX:=fun pins σ H s x cls o q=>by
 obtain⟨I,t⟩:=o;have lift:∀b,Er (lR X pn EX) pins H b->Er (X.hold pn) [] H b:=fun b hq74=>by obtain⟨f0,f1,f2,f3,f4,f5⟩:=hq74;exact⟨f0,f1,f2,f3,f4,fun p hp=>f5 p (Ay _ (by rw[AC] at hp;exact hp))⟩
 refine⟨x,cls,σ,H,rfl,⟨⟨I.ok.same rfl,I.os,I.bare,I.base,I.loc,I.cell,I.free,I.Ew,fun p hp=>I.pin p (Ay _ (by rw[AC] at hp;exact hp)),I.hok,I.len⟩,?_⟩,q⟩;rcases t with ⟨vs,a,b,c⟩|t
 ·exact .inl ⟨vs,a,b,lift _ c⟩
 ·exact .inr (t.imp lift)
theorem Inv.hand{x:Addr}(I:Inv X pins σ H s):Inv (jo X x) pins σ H s:=
 ⟨⟨I.ok.mod,I.ok.kind,I.ok.glob,I.ok.blt,I.ok.above,I.ok.inj,I.ok.has,I.ok.cab,fun z=>absurd (show false=true from z) AB,I.ok.frames,I.ok.stk,I.ok.exf,I.ok.bs,I.ok.bsz,I.ok.IE,I.ok.HM,I.ok.FV,I.ok.frf⟩,
  I.os,I.bare,I.base,I.loc,I.cell,I.free,I.Ew,I.pin,I.hok,I.len⟩
theorem Inv.Gp{x:Addr}(ok:X.Ok)(I:Inv (jo X x) pins σ H s):Inv X pins σ H s:=
 ⟨ok,I.os,I.bare,I.base,I.loc,I.cell,I.free,I.Ew,I.pin,I.hok,I.len⟩
theorem dA{M:Model}{A:Around}{E:Value->Shared->Prop}{i:Nat}{n:Str}{pos:Pos}{Q:Unit->Shared->Prop}(I:Inv X pins σ H s)(hN:X.N.Nodup)(hi:X.N[i]?=some n)(hx:X.env.scope.names.lookup n=some .local)
  (h:∀s',Inv X pins (σ.set i none) H s'->Q () s'):wpAny M A (do bindName X.env n .none;unbindBehindTheSuite X.env n pos) Q E s:=by
 obtain⟨m,hn,hl⟩:=id I.loc;refine wpAny_nameGoes_keeps (m:=m) hx hn (by rw[I.ok.kind];rfl) fun h' v hn' hs=>?_;have iσ:i<σ.length:=by rw[I.len];exact(Ad.mp hi).1
 obtain⟨oL,_,_,hoL,_⟩:=id hn;have nL:∀b o,X.s₀.heap.get? b=some o->b≠X.env.locals:=fun b o e=>Ac (Ak (Dp e) I.ok.above);refine h {s with heap:=h',toks:=s.toks+1} ⟨I.ok,I.os,I.bare,⟨fun b o e n hb hx=>?_,fun b o e n hb hx=>?_,I.base.free,fun b o e hx=>?_,I.base.GU,I.base.GL,I.base.GR⟩,⟨_,hn',fun j y u e1 e2 e3=>?_⟩,fun y c e=>?_,I.free,I.Ew,fun p hp=>?_,fun b o e=>?_,by rw[List.length_set];exact I.len⟩
 ·exact(hs.2 b (nL b o e)).trans (I.base.keep b o e n hb hx)
 ·obtain⟨sl,e1⟩:=I.base.slot b o e n hb hx;exact⟨sl,(hs.2 b (nL b o e)).trans e1⟩
 ·obtain⟨o',e1⟩:=I.base.there b o e hx;exact⟨o',(hs.2 b (nL b o e)).trans e1⟩
 ·by_cases hj:j=i
  ·subst hj;rw[BI iσ] at e2;cases e2
  ·rw[BJ (DC hj)] at e2;obtain⟨u',r',q⟩:=hl j y u e1 e2 e3;refine⟨u',r',?_⟩;rcases q with ⟨k,e⟩|⟨k,c,e,z⟩
   ·refine .inl ⟨k,?_⟩;have:y≠n:=fun e=>hj (fN hN e1 (e▸hi));simp[this,e]
   ·exact .inr ⟨k,c,e,z.sameBut hs (I.cne y c e)⟩
 ·obtain⟨v',z⟩:=I.cell y c e;exact⟨v',z.sameBut hs (I.cne y c e)⟩
 ·obtain⟨e,n,ne,nf,d⟩:=I.pin p hp;exact⟨(hs.2 p.1 ne).trans e,n,ne,nf,d⟩
 ·refine(I.hok b o e).HU (fun c u hc q=>(hs.2 c ?_).trans q) (fun _ q=>q) fun _ _ q=>q;rintro rfl;rcases hc with rfl|hc
  ·rw[I.free] at e;cases e
  ·rw[I.free] at hc;cases hc
end
section
variable {X:Cx}
def tTry (K:W.Frag)(B:Addr)(i:Nat)(tb:XS->TS)(th:Addr->TS):TS:=fun D σ H=>∃EX:XS,tb EX D σ H/\∀cls σ' H' x,EX cls σ' H'->H' x=none ->
 ∃C,cls=.ref C/\W.excIn K C Gs "ValueError.__new__"=true/\subIn K C B=true /\
  th x {nx:=fun σ2 H2=>D.nx (σ2.set i none) H2,rt:=D.rt,bk:=fun σ2 H2=>D.bk (σ2.set i none) H2,ct:=fun σ2 H2=>D.ct (σ2.set i none) H2} (σ'.set i (some (.ref x))) (upd H' x (qu x (.ref C)))
theorem pX{i:Nat}{n bn:Str}{B:Addr}{np hpos pos:Pos}{body suite:List Stmt}{b0:Stmt}{tb:XS->TS}{th:Addr->TS}(hst:X.stack=X.env::X.outer)(hfr:X.env.frame=some X.env.locals)(hN:X.N.Nodup)(hi:X.N[i]?=some n)(hl:X.env.scope.names.lookup n=some .local)
  (hg:Gl X bn)(hm:X.mg bn=some (.ref B))(hB:W.excIn X.K B Gs "ValueError.__new__"=true)
  (hb:∀pn EX,PSs (lR X pn EX) body (tb EX))(hh:∀x,PSs (jo X x) (b0::suite) (th x))(hdb:(bn==("__debug__":Str))=false:=by decide) :
  PS X (.Try body [.ExceptHandler (some (.Name bn np)) (some n) (b0::suite) hpos] [] [] pos) (tTry X.K B i tb th):=by
 intro pins s σ H D I h;obtain⟨EX,h1,h2⟩:=h;refine wpAny_Try_except (Dl (hb pins EX [] s σ H D I.hold h1) (fun f s1 q1=>?_) fun e s1 q1=>?_)
 ·cases f with
  |next=>obtain⟨σ1,H1,I1,q⟩:=q1;exact wpAny_execs_nil ⟨σ1,H1,I1.ER,q⟩
  |brk=>obtain⟨σ1,H1,I1,q⟩:=q1;exact⟨σ1,H1,I1.ER,q⟩
  |cont=>obtain⟨σ1,H1,I1,q⟩:=q1;exact⟨σ1,H1,I1.ER,q⟩
  |ret u=>obtain⟨v,σ1,H1,I1,r,q⟩:=q1;exact⟨v,σ1,H1,I1.ER,r,q⟩
 ·obtain⟨x,cls,σ1,H1,rfl,o1,e1⟩:=q1;have o1:=o1.ER;have I1:=o1.1;refine o1.note hst hfr fun h2' k2 t2=>?_;refine mG (s:={s1 with heap:=h2'}) (fs:=frs X.stack) t2 fun h3 k3 t3=>?_;have I3:Inv X pins σ1 H1 {s1 with heap:=h3,toks:=s1.toks}:=I1.Gq (k2.trans k3);obtain⟨vs,T,oT,ts,ea,_,_,_,_,_,fx,_⟩:=id t3;obtain⟨C,rfl,hC,hsub,q⟩:=h2 cls σ1 H1 x e1 fx.1;obtain⟨bm,N,nm,qn,bs,hdct,sn,sub,ab,col,dd,k0,k1,k2',k3',k5,mN,gC,_,_,TC⟩:=jf I3.mod.kin hC;obtain⟨bmb,Nb,nmb,qb,bsb,hdctb,snb,subb,abb,colb,ddb,j0,j1,j2,j3,j5,mNb,gB,_,_,TB⟩:=jf I3.mod.kin hB;have gC3:=I3.bk _ _ gC;have gB3:=I3.bk _ _ gB;have hmro:(Value.ref C::bm).contains (.ref B)=true:=by
   unfold subIn at hsub;split at hsub
   ·rename_i ho;have z:=I3.mod.kin _ _ ho;rw[gC] at z;cases z;exact hsub
   ·cases hsub
  refine wpAny_handleBy_cons (codeAny_handlers_test ?_) (by intro q;cases q);refine cW (X:=jo X x) I3.hand hg hm ?_ hdb;obtain⟨oe,hoe,hoc,_,_⟩:=ea.get;refine iN gC3 gB3 hoe hoc (TB.hasType PySem.F.excBase_ValueError.hasBase) hmro ?_;refine codeAny_handlers_suite_as ?_;refine mG (s:={s1 with heap:=h3,toks:=s1.toks}) (fs:=frs X.stack) t3 fun h4 k4 t4=>?_;have I4:Inv X pins σ1 H1 {s1 with heap:=h4,toks:=s1.toks}:=I1.Gq ((k2.trans k3).trans k4);obtain⟨vs4,T4,oT4,ts4,ea4,_,_,_,_,_,fx4,_⟩:=id t4
  have I5:Inv X pins σ1 (upd H1 x (qu x (.ref C))) { s1 with heap:=h4,toks:=s1.toks }:=I4.Jw fx4 ⟨⟨vs4,ea4⟩,by obtain⟨oe,g,_⟩:=ea4.get; exact⟨oe,g⟩,fun ha hb ⟨ws,w⟩ kk=>by
   obtain⟨⟨oe,g,r⟩,c⟩:=w
   exact⟨ws,⟨⟨oe,kk oe g,r⟩,c⟩⟩⟩
  refine dg (v:=.ref x) I5 hN hi (.inl hl) rfl (fun s6 I6=>?_) (.inr hl);refine Dl (hh x pins s6 _ _ _ I6.hand q) (fun f s7 q7=>?_) fun _ _ z=>z.elim;cases f with
  |next=>obtain⟨σ7,H7,I7,q⟩:=q7;exact dA (I7.Gp I.ok) hN hi hl fun s8 I8=>⟨_,H7,I8,q⟩
  |brk=>obtain⟨σ7,H7,I7,q⟩:=q7;exact dA (I7.Gp I.ok) hN hi hl fun s8 I8=>⟨_,H7,I8,q⟩
  |cont=>obtain⟨σ7,H7,I7,q⟩:=q7;exact dA (I7.Gp I.ok) hN hi hl fun s8 I8=>⟨_,H7,I8,q⟩
  |ret u=>obtain⟨v,σ7,H7,I7,r,q⟩:=q7;exact dA (I7.Gp I.ok) hN hi hl fun s8 I8=>⟨v,_,H7,I8,r,q⟩
end
theorem Fv:entryFor table "proto.unchain"=some Builtin.«proto.unchain»:=entryFor_of_tree (by kernel_rfl)
section
variable {prog:Program}{w:World}{A:Around}{E:Value->Shared->Prop}{s:Shared}
theorem nX{α:Type}{x e:Addr}{cls:Value}{vs es:Array Value}{oe:Obj}{Q:α->Shared->Prop}(hh:A.handled=some (.ref x))(ea:ExcAt s.heap x cls vs)(he:s.heap.get? e=some oe)(hd:oe.data=.fields es)(z2:2<es.size)(hne:x≠e)
  (h:∀h',(∀b o,b≠e->s.heap.get? b=some o->h'.get? b=some o)->(∃o',h'.get? e=some o'/\o'.cls=oe.cls)->E (.ref e) {s with heap:=h'}):wpAny (model prog w) A (raiseNew (.ref e):Sem α) Q E s:=by
 obtain⟨⟨ox,hx,_,_,hxd⟩,hc⟩:=ea;unfold raiseNew;refine Dd (wpAny_handled ?_);rw[hh];dsimp only;have n1:((Value.ref x:Value) != Value.ref e)=true:=by simp[hne]
 rw[Di n1];refine Dd (Dm (wpAny_runValue (codeAny_builtin Fv ?_)));unfold Builtin.«proto.unchain»;dsimp only;refine Dd (wpAny_field hx hxd hc ?_);rw[Di (by rfl)];refine Dd (De ?_);refine De ?_;refine Dd ?_;show wpAny _ A (setField (.ref e) 2 (.ref x)) _ _ s;refine wpAny_setField he hd z2 (wpAny_throw (h _ (fun b o hb g=>?_) ⟨_,Heap.get?_update_self _ he (Obj.isFreed_of_fields (Obj.data_mapFields hd _)),Obj.cls_mapFields _ _⟩));rw[Heap.get?_update_other _ _ (DC hb)];exact g
theorem gT{x it:Addr}{cls:Value}{vs:Array Value}{lo left step:Int}{Q:Option Value->Shared->Prop}(hh:A.handled=some (.ref x))(ea:ExcAt s.heap x cls vs)(hit:IsRangeIter s.heap it lo left step)(hleft:left<=0)
  (hQ:∀h',(∀b o,s.heap.get? b=some o->h'.get? b=some o)->Q none {s with heap:=h'}):wpAny (model prog w) A (pyNext (.ref it)) Q E s:=by
 have hT:s.TypeIs (.ref it) "range_iterator":=⟨_,hit,rfl⟩
 obtain⟨ox,gx,_⟩:=ea.get;have xlt:=Dp gx;unfold pyNext
 refine Dd (DJ (wpAny_callSpecial?_slot (name:=Str.ofString "__next__") hT F.slot_range_iterator_next
  (DK F.slot_range_iterator_next hT F.entry_range_iterator_next ?_ (F.args_range_iterator_next_1 _))))
 show wpAny _ _ (field (.ref it) 0 >>= _) _ _ s;refine Dd (wpAny_field hit rfl (x:=rawInt lo) rfl ?_);show wpAny _ _ (field (.ref it) 1 >>= _) _ _ s;refine Dd (wpAny_field hit rfl (x:=rawInt left) rfl ?_);show wpAny _ _ (field (.ref it) 2 >>= _) _ _ s;refine Dd (wpAny_field hit rfl (x:=rawInt step) rfl ?_);show wpAny _ _ (if left<=0 then _ else _) _ _ s;rw[Di hleft];refine Dd (DN ?_);refine Dd ?_;show wpAny _ _ (newExc (.type "StopIteration") [] >>= _) _ _ _;refine Dd ?_;simp only[newExc,newTuple];refine Dd (wpAny_newObj_type ?_ (by size_fits));refine Dd (m:=firstArgMember _ _) (wpAny_of_eq (a:=Value.none) (by first|rfl|(simp only[firstArgMember];rfl)) ?_);refine wpAny_newObj_type ?_ (by size_fits);have up:∀(o1 o2:Obj) b o,s.heap.get? b=some o->((s.heap.push o1).push o2).get? b=some o:=fun o1 o2 b o e=>DE _ (DE _ e);obtain⟨⟨oe,g1,g2,g3,g4⟩,c2⟩:=ea;refine nX (x:=x) (cls:=cls) (vs:=vs) (show A.in1.handled=some (.ref x) from hh) ⟨⟨oe,up _ _ x oe g1,g2,g3,g4⟩,c2⟩ (DG _ rfl) rfl (by simp[ownMembersOf]) (by rw[DM];exact Ac (Bc xlt)) fun h' kk hc'=>?_;obtain⟨o',e',ec⟩:=hc';refine Dd (wpAny_isInstance (T:="StopIteration") (b:=true) ⟨o',e',ec⟩ isSubtype_stop ?_);refine De (hQ _ fun b o e=>kk b o ?_ (up _ _ b o e));have:=Dp e;rw[DM];exact Ac (Bc this)
end
structure Gm(k:Nat)(A:Around)(x:Addr):Prop where
 hd:A.handled=some (.ref x)
 dp:A.depth+3*k+5<recursionLimit
 un:A.units+16*k+200<cLine
theorem Gm.deeper{k:Nat}{A:Around}{x:Addr}(r:Gm (k+1) A x)(env:Env):Gm k (A.deeper env) x:=
 ⟨r.hd,by have:=r.dp;show A.depth+1+3*k+5<_;lia,by have:=r.un;show A.units+3+16*k+200<_;lia⟩
theorem EB.hand{k:Nat}{A:Around}(r:EB k A)(x:Addr):Gm k (A.mark (some (.ref x))) x:=⟨rfl,r.dp,r.un⟩
structure FnX(P:Program)(w:World)(K:W.Frag)(mg:Str->Option Value)(base:Heap)(k:Nat)(f:Addr)(fd:FuncData)(ps:List Str)(sp:Addr->List V->Hp->VK->Prop):Prop where
 len:∀x vs H Q,sp x vs H Q->vs.length=ps.length
 run:∀(x:Addr)(A:Around)(outer:List Env)(s:Shared)(H:Hp)(args:Args)(us:List Value)(vs:List V)(Q:VK),Gm k A x->Hy P w K mg base A outer s H->BindsTo s fd args (ps.zip us)->Vals vs us->sp x vs H Q ->
  codeAny (model P w) A (.call (.ref f) args) (CR CX0 outer P w H s Q E0) s
theorem Fun.okX{P:Program}{w:World}{K:W.Frag}{mg:Str->Option Value}{base:Heap}{y qual:Str}{st:Stmt}{f:Addr}{fd:FuncData}{N ps:List Str}{k:Nat}{sp:Addr->List V->Hp->VK->Prop}(F:Fun K y qual st f fd)(S:DT N ps (ai st))
  (len:∀x vs H Q,sp x vs H Q->vs.length=ps.length)
  (hbody:∀(x:Addr) (cdv:Value) (A:Around) (outer:List Env) (s:Shared) (H:Hp) (vs:List V) (Q:VK),Gm k (A.deeper (envOfC qual (ai st) s.heap.objs.size f cdv)) x->sp x vs H Q ->
   ∃t,PSs (bD CX0 P w K mg base N qual (ai st) f cdv A outer s H E0).nox (aN st) t/\t { nx:=fun _ H'=>Q .non H',rt:=Q } (start N vs) H):FnX P w K mg base (k+1) f fd ps sp:=by
 obtain⟨oc,od,kV,doc,pm,an,cdv,ct,osl,rfl,lk,hcd⟩:=F.ex;refine⟨len,fun x A outer s H args us vs Q hr e0 hb r hsp=>?_⟩;have hl:=len _ _ _ _ hsp;have KX:K.In s.heap:=e0.mod.kin.keeps fun b o e=>(e0.bs b o e).1;have lim:s.heap.NoLimit:=e0.mod.nolimit.keeps fun b o e=>(e0.bs b o e).1;have hkind:∀z∈ps.zip us,(ai st).names.lookup z.1=some .local\/((ai st).names.lookup z.1=some .cell/\((cellsFrom (s.heap.objs.size+1) (ai st).names []).lookup z.1).isSome=true):=fun⟨n,v⟩ hy=>by
  rcases S.par n (Cf hy).1 with q|q
  ·exact .inl q
  ·exact .inr ⟨q,W.cellsFrom_some _ _ _ (.inl q)⟩
 refine codeAny_call_function (by have:=hr.dp;lia) (KX _ _ lk) rfl S.co S.gen rfl (W.codeRec_of KX hcd) (hb _ _ _ _ ?_);refine wpAny_newFunctionEnv_cells S.kind hkind fun env he s1 x1=>?_;subst he;refine⟨lim.keeps x1.toInCall.keep,codeAny_func ?_⟩;obtain⟨t,ht,hq⟩:=hbody x cdv A outer s H vs Q (hr.deeper _) hsp;have I:Inv (bD CX0 P w K mg base N qual (ai st) f cdv A outer s H E0) [] (start N vs) H s1:=iy S e0 hl r x1;refine Dl (ht.nox [] s1 (start N vs) H _ I hq) (fun fl s' hs=>?_) fun e s' hs=>hs;cases fl with
 |ret u=>
  obtain⟨v,σ',H',J,rv,q⟩:=hs;exact⟨v,H',J.os,J.bare,J.base,J.hok,rv,q⟩
 |next=>
  obtain⟨σ',H',J,q⟩:=hs;exact⟨.non,H',J.os,J.bare,J.base,J.hok,rfl,q⟩
 |brk=>
  obtain⟨_,_,_,q⟩:=hs;exact False.elim q
 |cont=>
  obtain⟨_,_,_,q⟩:=hs;exact False.elim q
def sA (sp:Addr->List V->Hp->VK->Prop)(x:Addr)(t:TA):TE:=fun σ H Q=>t σ H fun vs H1=>sp x vs H1 Q
theorem jD{X:Cx}{k:Nat}{f x:Addr}{fd:FuncData}{ps:List Str}{sp:Addr->List V->Hp->VK->Prop}{y:Str}{p pos:Pos}{e:Expr}{es:List Expr}{t:TA}(F:FnX X.prog X.w X.K X.mg X.base k f fd ps sp)(hr:Gm k X.A x)(hg:Gl X y)(hm:X.mg y=some (.ref f))(hk:W.keepIn X.K (.ref f)=true)(hb:Binds X.K fd ps [])
  (ha:PA X (e::es) t)(hdb:(y==("__debug__":Str))=false:=by decide)(he:starEach (e::es) X.env=(false,eval e X.env)::starEach es X.env:=by rfl)(hpl:(backTo pos (starEach es X.env)).any (·.1)=false:=by rfl) :
  PE X (.Call (.Name y p) (e::es) [] pos) (sA sp x t):=by
 intro pins s σ H Q I h;refine wpAny_Call_Name_kw (cW I hg hm ?_ hdb);refine W.callWith_K (h₀:=X.base) I.ok.mod.kin hk (thn (ha pos pins s σ H _ I h) fun us s1 hq75=>?_) he hpl;obtain⟨vs,H1,I1,r,q⟩:=hq75;refine⟨I1.kIn,?_⟩;have hl:(us++[]).length=ps.length:=by rw[AC,<- r.length];exact F.len _ _ _ _ q
 have hb':=hb s1 us I1.kIn hl;rw[AC] at hb';refine wpAny_call (codeAny_mono (F.run x X.A X.stack s1 H1 ⟨us,[]⟩ us vs Q hr I1.Jg hb' r q) fun r s' hq=>?_);cases r with
 |error e=>exact False.elim hq
 |ok fl=>
  cases fl with
  |ret u=>exact I1.after hq
  |next=>exact False.elim hq
  |brk=>exact False.elim hq
  |cont=>exact False.elim hq
def Itx (x:Addr)(cls:Value)(n:Nat):It:=⟨fun i _=>i<n,fun i H v H'=>H'=H/\v=.int i,fun i H=>n<=i/\H x=some (qu x cls)⟩
theorem oy{X:Cx}{tg:Expr}{x it:Addr}{cls:Value}{n:Nat}(hh:X.A.handled=some (.ref x)) :
  HG X tg (Itx x cls n) [it] it (fun i h=>IsRangeIter h it (i:Int) ((n:Int)-(i:Nat)) 1) where
 item:=by
  intro i pins s σ H E I hf st hg;obtain⟨f0,f1,f2,f3,f4,f5⟩:=hf it (by simp);have hi:i<n:=hg;refine wpAny_pyNext_range_item st (by lia) fun h' st' sb=>?_;have I1:Inv X pins σ H {s with heap:=h',toks:=s.toks+1}:=I.turned (fun b o hb e=>(sb.2 b hb).trans e) f0 f1 f3 f4 f5;have st2:IsRangeIter h' it ((i+1:Nat):Int) ((n:Int)-((i+1:Nat):Int)) 1:=by
   have e1:((i+1:Nat):Int)=(i:Int)+1:=by lia
   have e2:(n:Int)-((i:Int)+1)=(n:Int)-(i:Int)-1:=by lia
   rw[e1,e2];exact st'
  exact⟨_,rfl,jV (s:={s with heap:=h',toks:=s.toks+1}) (n:="range_iterator") st' rfl rfl (by decide) ⟨.int i,H,I1,⟨_,rfl⟩,⟨rfl,rfl⟩,st2,fun b hb=>(hf b hb).1⟩⟩
 done:=by
  intro i pins s σ H E I hf st hg;obtain⟨hi,hx⟩:=hg;obtain⟨⟨vs,ea⟩,_⟩:=I.hok x _ hx;exact gT hh ea st (by lia) fun h' kk=>⟨rfl,I.kept (t':=s.toks) kk⟩
theorem kA{X:Cx}{pins:List (Addr×Obj)}{σ:St}{H:Hp}{s:Shared}{E:Value->Shared->Prop}{hi:Int}{t u v:Tok}{tk:Nat}{Q:Value->Shared->Prop}(I:Inv X pins σ H s)(h3:-(2^62)<=hi)(h4:hi<2^62)
  (q:∀it s2,Inv X pins σ H s2->IsRangeIter s2.heap it 0 ((hi.toNat:Nat):Int) 1->(∀b∈[it],Er X pins H b)->Q (.ref it) s2) :
  wpAny (model X.prog X.w) X.A (pyIter (.ref s.heap.objs.size)) Q E {s with heap:=s.heap.push {cls:=.type "range",data:=.fields #[.int 0 t,.int hi u,.int 1 v]},toks:=tk}:=by
 refine wpAny_pyIter_range (IsRange.new ..) (small_one (by decide) (by decide) h3 h4) ?_;have I1:Inv X pins σ H {s with heap:=s.heap.push {cls:=.type "range",data:=.fields #[.int 0 t,.int hi u,.int 1 v]},toks:=tk}:=I.kept fun b o e=>DE _ e;refine q _ _ (I1.kept (t':=tk) fun b o e=>DE _ e) ?_ fun b hb=>?_
 ·have e2:((hi.toNat:Nat):Int)=Builtin.Range.rangeSize 0 hi 1:=by rw[rangeSize_one];split<;>lia
  rw[e2];exact DG _ rfl
 ·have e:b=(s.heap.push {cls:=.type "range",data:=.fields #[.int 0 t,.int hi u,.int 1 v]}).objs.size:=by simpa using hb
  subst e;exact I1.HX (zX _) (I1.hok.fresh (zX _))
theorem oQ{X:Cx}{scope:Scope}{ts cap:List Str}{js:List Nat}{tg elt a:Expr}{ifs:List Expr}{p pos cpos:Pos}{g:TG}{tc:TT}{te:TE}{ta:TA}{x:Addr}(hh:X.A.handled=some (.ref x))(CS:Ec X scope ts cap js)
  (hgl:Gl X "range")(hm:X.mg "range"=none)(ha:PA X [a] ta)(hg:∀C fp s H,PG (aw X scope C fp (ts++cap) s H) tg g)
  (ht:∀C fp s H,PTs (aw X scope C fp (ts++cap) s H) ifs tc)(he:∀C fp s H,PE (aw X scope C fp (ts++cap) s H) elt te)
  (hst:starEach [a] X.env=[(false,eval a X.env)]:=by rfl)(hs:∀v,foldedSetIterable (.Call (.Name "range" p) [a] [] cpos) X.env v=pure v:=by intro _;rfl) :
  PE X (.ListComp elt [⟨tg,.Call (.Name "range" p) [a] [] cpos,ifs,0⟩] scope pos)
   (qM (fun σ H R=>ta σ H fun vs H1=>∃(j:Int)(cls:Value),vs=[.int j]/\-(2^62)<=j/\j<2^62/\R (Itx x cls j.toNat) H1) ts.length js g tc te):=by
 intro pins s σ H Q I h;rw[eval_ListComp];refine wpAny_comprehension_free (use:=none) rfl hs (bM (CS.cells I.ok)) CS.kind CS.names ?_;show wpAny _ _ (eval (.Call (.Name "range" p) [a] [] cpos) X.env) _ _ s;refine Call_ (cB I hgl hm boot_range (PyProof.Rows.callWith_type1 (thn (ha cpos pins s σ H _ I h) fun us s1 hq76=>?_) hst rfl));obtain⟨vs,H1,I1,r1,q1⟩:=hq76;obtain⟨j,cls,e,q2,q3,W,⟨m0,w0⟩,turn⟩:=q1;subst e;obtain⟨u,rfl,ru⟩:=dX r1;obtain⟨tk,rfl⟩:=ru;refine call_range_1 (kA I1 q2 q3 fun it s2 I2 st2 f2=>?_)
 have T:TurnOk X.prog X.w [it] it (fun i h=>IsRangeIter h it (i:Int) (((j.toNat:Nat):Int) - (i:Nat)) 1):=⟨fun i h st b hb=>by
   have e:b=it:=by simpa using hb
   subst e
   exact⟨_,st,fun v z=>by cases z⟩,fun i h h' st k=>k it (by simp) _ st,fun _ _ _ _ _ st h=>wpAny_pyIter_rangeiter st h⟩
 refine eV (J:=Itx x cls j.toNat) (RR:=fun acc C=>compPost (model X.prog X.w) X.A X.xe none (EP X pins σ Q) acc C) I2 T (fun C=>oy (X:=aw X scope C [it] (ts++cap) s2 H1) hh) (by simpa using st2) f2 CS hg ht he w0 turn ?_;intro D C s' H' ys m I' hn hC hD hCD hHC hHD fin;have low:∀b o,s2.heap.get? b=some o->b≠C:=fun b o e=>Ac (Ak (Dp e) hC);refine⟨m,hn,fun h' hs'=>⟨.ref D,_,de (n0:=0) I' (Heap.get?_none_of_le (Ap I2.sz hC)) (Ac (Ak I2.lt hC)) (fun x c e=>?_) (fun p hp=>?_) (by rw[av hCD];exact hHC) hs',rfl,fin D hHD⟩⟩
 ·obtain⟨v,o,ho,_⟩:=I2.cell x c e;exact low c o ho
 ·exact low _ _ (I2.pin p hp).1
end L2
namespace L2
open PySem PySem.Spec PyProof.Rows PySem.W
section
variable {prog:Program}{w:World}{A:Around}{E:Value->Shared->Prop}{s:Shared}{K:Frag}{x C:Addr}{ox:Obj}
structure IQ(K:Frag)(C:Addr):Prop where
 ga:findIn K (.ref C) "__getattribute__"=some (some (.builtin "BaseException.__getattribute__"))
 gt:findIn K (.ref C) "__getattr__"=some none
 ca:findIn K (.ref C) "__class__"=some (some (.builtin "object.__class__"))
 gn:specialIn K (.builtin "object.__class__") "__get__"=some (some (.builtin "getset_descriptor.__get__"))
 tk:takesIn K (.builtin "object.__class__")=some true
 mo:mroIn K C (.type "object")=some true
 mb:mroIn K C (.type "BaseException")=some true
 cl:(clsIn K C).isSome=true
theorem ic{M:Model}{nameV:Value}{Q:Unit->Shared->Prop}(Z:IQ K C)(X:K.In s.heap)(I:InstAt s.heap x ox C none)(hq:Q () s):wpAny M A (checkBuiltinCall "BaseException.__getattribute__" ⟨[.ref x,nameV],[]⟩) Q E s:=by
 have hk:builtinKind "BaseException.__getattribute__"=some .slot:=by decide +kernel
 have hsplit:splitId "BaseException.__getattribute__"=some ("BaseException","__getattribute__"):=by decide +kernel
 have ha:=F.args_bexc_ga (.ref x) nameV;have L0:=I.type (M:=M);have L1:=looks_mroIn (M:=M) X Z.mb;obtain⟨h,g,d,t,os⟩:=s;simp only[checkBuiltinCall,hk,hsplit];refine Dd ?_;unfold isInstance;refine Dd (L0.at (L1.at ?_))
 repeat (first|wp_step)
 exact hq
theorem kr{tk:Tok}{Q:Fin->Shared->Prop}(Z:IQ K C)(X:K.In s.heap)(I:InstAt s.heap x ox C none)(hq:Q (.done (.ret (.ref C))) s) :
  wpAny (model prog w) A (Builtin.«object.__getattribute__» ⟨[.ref x,.str "__class__" tk],[]⟩) Q E s:=by
 have f5:typeOf (.builtin "object.__class__")=pure (.type "getset_descriptor"):=by show builtinType _=_;rw[builtinType_eq_fast];kernel_rfl
 have f6:=F.slot_gs_get.lookup;have f7:=F.slot_gs_set.lookup;have L0:=I.type (M:=model prog w);have L1:=looks_findIn (M:=model prog w) X Z.ca;obtain⟨h,g,d,t,os⟩:=s;have ho:=I.at_;have hc:=I.cls
 repeat (any_goals (first|assumption|with_reducible refine L0.at ?_|with_reducible refine L1.at ?_|(with_reducible refine wpAny_loadPart_at ho ?_;rw[hc])|wp_step))
 exact class_get (ox:=ox) (od:=none) X I Z.mo (De hq)
theorem oH{Q:Option Value->Shared->Prop}(Z:IQ K C)(X:K.In s.heap)(I:InstAt s.heap x ox C none)(hq:Q (some (.ref C)) {s with toks:=s.toks+1}):wpAny (model prog w) A (getAttr? (.ref x) "__class__") Q E s:=by
 have f3:=PySem.F.attr_ValueError.ga.bind (.ref x);have hx2:(Value.builtin "BaseException.__getattribute__" == Value.builtin "object.__getattribute__")=false:=by decide +kernel
 have hx1:(onTheHeap (Value.ref C)&&Value.builtin "BaseException.__getattribute__" == Value.builtin "object.__getattribute__")=false:=by rw[hx2];rfl
 have hx0:(false&&onTheHeap (Value.builtin "BaseException.__getattribute__"))=false:=rfl;have L0:=I.type (M:=model prog w);have L1:=looks_findIn (M:=model prog w) X Z.ga;have L2:=looks_findIn (M:=model prog w) X Z.gt;obtain⟨h,g,d,t,os⟩:=s;have ho:=I.at_;have hc:=I.cls;unfold getAttr? getAttrBy?;refine Dd (wpAny_mkText (Dd (DJ ?_)));unfold getAttrBy;refine Dm (Dd (L0.at (Dd (L1.at ?_))));dsimp only;rw[Dh (by rw[hx1];exact AB)]
 repeat (any_goals (first|assumption|with_reducible refine L2.at ?_|wp_step))
 refine codeAny_call_builtin PySem.F.attr_ValueError.ga.plain F.entry_bexc_ga (ic (s:=⟨h,g,d,t+1,os⟩) Z X I (kr (s:=⟨h,g,d,t+1,os⟩) Z X I ?_));exact handed_on rfl (De hq)
theorem oK(Z:IQ K C):KitX K (.ref x) (.ref C) (fun h=>∃ox,InstAt h x ox C none) where
 ty:=fun _ _ _ hq77=>by obtain⟨_,I⟩:=hq77;exact I.type
 it:=fun _ _ X _=>by
  obtain⟨cd,hc⟩:=Bv.mp Z.cl;unfold clsIn at hc;split at hc
  ·rename_i c' d' cd' sl' ho;intro A' Q' E' s' k q;unfold isType loadHead;exact Dd (wpAny_loadPart (k _ _ (X _ _ ho)) (De q))
  ·cases hc
 ne:=fun h tp dd its n sl X htp=>by
  obtain⟨cd,hc⟩:=Bv.mp Z.cl;refine Bz.mpr fun q=>?_;have e:C=tp:=Value.ref.inj (DP.mp q);subst e;unfold clsIn at hc;split at hc
  ·rename_i c' d' cd' sl' ho;have z:=(X _ _ ho).symm.trans htp;cases z
  ·cases hc
 ca:=fun X ⟨_,I⟩ k=>oH Z X I k
def rIsX (K:Frag):List V->Hp->VK->Prop:=fun xs H Q=>∃x y C c b,xs=[.ref x,y]/\Ky y=some c/\H x=some (qu x (.ref C))/\IQ K C/\kitOne K (.ref C) c=some b/\Q (.bl b) H
theorem bA{X:Cx}:dJ X (.builtin "isinstance") (rIsX X.K):=by
 intro pins s σ H xs us Q I r h;obtain⟨x,y,C,c,b,rfl,ec,hx,Z,e,q⟩:=h;obtain⟨u,u',rfl,rx,ry⟩:=sv r;cases rx;have:u'=c:=by
  cases y with
  |ref _=>cases ry;exact Dq ec
  |ty _=>cases ry;exact Dq ec
  |_=>cases ec
 subst this;obtain⟨⟨vs,⟨⟨oe,g1,g2,g3,g4⟩,_⟩⟩,_⟩:=I.hok x _ hx;have J:InstAt s.heap x oe C none:=⟨g1,g2,by unfold notCls;rw[g4],by rw[g3];trivial⟩
 exact kia_one (oK Z) I.kIn ⟨oe,J⟩ e (fun z=>nomatch z) fun tk=>⟨.bl b,H,I.tok _,rfl,q⟩
end
end L2
namespace L2
open PySem PySem.Spec PyProof.Rows
section
variable {X:Cx}
end
def nE {α:Type}(xs:List α)(lo hi:Option Int):List α:=(xs.drop (HT.sIx xs.length 0 lo)).take (HT.sIx xs.length xs.length hi-HT.sIx xs.length 0 lo)
theorem rB(lo hi:Option Int)(n:Nat):Builtin.Str.strSliceIndices lo hi 1 n=(List.range (HT.sIx n n hi-HT.sIx n 0 lo)).map fun k=>HT.sIx n 0 lo+k:=by
 have clipA:∀v:Int,max 0 (min (if v<0 then v+(n:Int) else v) (n:Int))=(((if v<0 then (v+(n:Int)).toNat else min v.toNat n):Nat):Int):=fun v=>by
  split<;>lia
 have key:∀i j:Nat,sliceRange (i:Int) (j:Int) 1=(List.range (j-i)).map fun k=>i+k:=fun i j=>by
  unfold sliceRange;simp only[show(1:Int)>0 by decide,if_true];have e:(if (i:Int)<(j:Int) then ((j:Int)-(i:Int)+1-1)/1 else 0).toNat=j-i:=by
   split<;>lia
  rw[e];apply Cz;intro k _
  lia
 have lo':(match lo with|none=>(0:Int)|some i=>max 0 (min (if i<0 then i+(n:Int) else i) (n:Int)))=((HT.sIx n 0 lo:Nat):Int):=by
  cases lo with
  |none=>rfl
  |some v=>exact clipA v
 have hi':(match hi with|none=>(n:Int)|some i=>max 0 (min (if i<0 then i+(n:Int) else i) (n:Int)))=((HT.sIx n n hi:Nat):Int):=by
  cases hi with
  |none=>rfl
  |some v=>exact clipA v
 rw[<- key,<- lo',<- hi'];rfl
theorem gL{α:Type}(xs:List α)(i m:Nat)(h:i+m<=xs.length):((List.range m).map fun k=>i+k).filterMap (fun j=>xs[j]?)=(xs.drop i).take m:=by
 induction m with
 |zero=>simp
 |succ m ih=>
  have hm:i+m<xs.length:=by lia
  rw[CA,Au,CB,ih (by lia),Az,Bf,Aa hm];simp[hm]
theorem cb(z:Str)(lo hi:Option Int):(Txt.slice z lo hi).cps.toList=nE z.cps.toList lo hi:=by
 have hn:z.length=z.cps.toList.length:=rfl;unfold Txt.slice;have e:=rB lo hi z.length;have h1:=HT.Iz z.length 0 (Ah _) lo;have h2:=HT.Iz z.length z.length (zX _) hi;rw[e];split
 ·rename_i c;have c':(HT.sIx z.length z.length hi-HT.sIx z.length 0 lo)=z.length:=by
   have:=(AK _ _▸c).2;simpa using this
  unfold nE;rw[<- hn];have a0:HT.sIx z.length 0 lo=0\/z.length=0:=by lia
  rcases a0 with a0|a0
  ·rw[c',a0,BX];exact(Av (by rw[<- hn];exact zX _)).symm
  ·have:z.cps.toList=[]:=Bp.mp (by rw[<- hn];exact a0);rw[this];simp
 ·show((List.map _ _).filterMap _).toArray.toList=_;unfold nE;rw[<- hn];have e2:(fun j:Nat=>z.cps[j]?)=fun j:Nat=>z.cps.toList[j]?:=by funext j;rw[Ao]
  rw[List.toList_toArray,e2];by_cases hle:HT.sIx z.length 0 lo<=HT.sIx z.length z.length hi
  ·exact gL _ _ _ (by rw[<- hn];lia)
  ·have:HT.sIx z.length z.length hi-HT.sIx z.length 0 lo=0:=by lia
   rw[this];simp
section
variable {X:Cx}
def rSlS:V->Option Int->Option Int->Hp->VK->Prop:=fun x lo hi H Q=>∃z,x=.str z/\z.length<=sizeLine/\Q (.str (Txt.slice z lo hi)) H
theorem Es:SlR X rSlS:=by
 intro pins s σ H x v vl vu lo hi sl Q I rx hs pl pu q;obtain⟨z,rfl,hz,q⟩:=q;obtain⟨t,rfl⟩:=rx;refine⟨"str",_,PySem.F.slot_str_getitem.lookup,typeIs_str _ _ _,?_⟩;obtain⟨l',e1,e1'⟩:∃l':Option (Int×Tok),vl=partValue l'/\l'.map (·.1)=lo:=by
  cases pl with
  |none=>exact⟨none,rfl,rfl⟩
  |int i t=>exact⟨some (i,t),rfl,rfl⟩
 obtain⟨u',e2,e2'⟩:∃l':Option (Int×Tok),vu=partValue l'/\l'.map (·.1)=hi:=by
  cases pu with
  |none=>exact⟨none,rfl,rfl⟩
  |int i t=>exact⟨some (i,t),rfl,rfl⟩
 subst e1 e2 e1' e2';refine wpAny_getItem_str_slice (l:=l') (u:=u') (st:=none) hs rfl (post_val_or_str ⟨?_,fun t' k=>⟨.str (Txt.slice z (l'.map (·.1)) (u'.map (·.1))),H,I.tok _,⟨_,rfl⟩,q⟩⟩);exact Ap (Txt.slice_le z (l'.map (·.1)) (u'.map (·.1))) hz
def Km:R2:=fun x y H Q=>∃z n,x=.str z/\y=.int n/\-(2^63)<=n/\n<2^63/\z.length*n.toNat<=16777216/\Q (.str (Txt.mul z n)) H
theorem EL:OpR X (binaryOp .Mult) Km:=by
 intro pins s σ H x y v u Q I rx ry h;obtain⟨z,n,rfl,rfl,h0,h1,hz,q⟩:=h;obtain⟨t,rfl⟩:=rx;obtain⟨t',rfl⟩:=ry;refine SB.mul ⟨?_,fun hn _ hc=>?_,fun hn _=>?_⟩ fun tk k=>⟨.str _,H,I.tok _,⟨_,rfl⟩,q⟩
 ·rw[Dk (by lia),Dk (by lia)];rfl
 ·have hn':1<=n:=by lia
  have e:((z.length*n.toNat:Nat):Int)=(z.length:Int)*n:=by
   rw[Int.natCast_mul,Int.toNat_of_nonneg (by lia)]
  have h3:(z.length:Int)*n<=16777216:=by rw[<- e];lia
  have h4:(z.length:Int)<=(2^63-1)/n:=by
   rw[Int.le_ediv_iff_mul_le (by lia)]
   lia
  lia
 ·unfold Builtin.Str.tooLong;exact Dk (by rw[sizeLine_eq];lia)
end
theorem ji(a:Array Nat):∀(n:Nat)(acc:Array Nat),((List.replicate n a).foldl (·++·) acc).toList=acc.toList++(List.replicate n a.toList).flatten
 |0,acc=>by simp
 |n+1,acc=>by
  rw[Cj,CD,ji a n,Cj,Ck,AS,AG]
theorem mul_list(z:Str)(n:Int):(Txt.mul z n).cps.toList=(List.replicate n.toNat z.cps.toList).flatten:=by
 unfold Txt.mul;split
 ·have:n.toNat=0:=by lia
  rw[this];rfl
 ·split
  ·rename_i hn c;have c':n=1\/z.length=0:=by simpa using c
   rcases c' with rfl|c'
   ·simp
   ·have:z.cps.toList=[]:=Bp.mp c';rw[this];simp
  ·show((List.replicate n.toNat z.cps).foldl (·++·) #[]).toList=_;rw[ji];simp
section
variable {X:Cx}
theorem Fp:∀{ns:List Int}{us:List Value}{i:Nat}{v:Value},Vals (ns.map V.int) us->us[i]?=some v->∃t,v=.int (ns.getD i 0) t
 |[],_,_,_,.nil,e=>by simp at e
 |n::r,_,0,_,.cons h _,e=>by
  simp at e;subst e;obtain⟨t,rfl⟩:=h;exact⟨t,rfl⟩
 |n::r,_,i+1,v,.cons _ t,e=>by
  obtain⟨tk,q⟩:=Fp (i:=i) (v:=v) t (by simpa using e);exact⟨tk,by simpa using q⟩
theorem Inv.FC{pins:List (Addr×Obj)}{σ:St}{H:Hp}{s:Shared}{h':Heap}{tk:Nat}{o:Obj}(I:Inv X pins σ H s)(hk:∀b u,b∉[s.heap.objs.size]->(s.heap.push o).get? b=some u->h'.get? b=some u):Inv X pins σ H {s with heap:=h',toks:=tk}:=by
 have I1:Inv X pins σ H {s with heap:=s.heap.push o,toks:=s.toks}:=I.kept fun b o e=>DE _ e;refine Inv.turned (s:={s with heap:=s.heap.push o,toks:=s.toks}) (it:=s.heap.objs.size) I1 (fun b o hb e=>hk b o (by simpa using hb) e) (I.hok.fresh (zX _)) (BK I.lt) (.inr (Heap.get?_none_of_le I.sz)) (fun x c e z=>?_) fun p hp z=>?_
 ·obtain⟨v,o,ho,_⟩:=I.cell x c e;rw[z] at ho;exact absurd (Dp ho) (AD _)
 ·have:=(I.pin p hp).1;rw[z] at this;exact absurd (Dp this) (AD _)
theorem iK(val:Nat->Int):∀k,argBest (fun i j=>decide (val i<val j)) k<=k/\∀j,j<=k->val (argBest (fun i j=>decide (val i<val j)) k)<=val j
 |0=>⟨zX _,fun j hj=>by cases Nat.le_zero.mp hj;exact Int.le_refl _⟩
 |k+1=>by
  obtain⟨h1,h2⟩:=iK val k;show(if decide (val (k+1)<val (argBest _ k))=true then k+1 else argBest _ k)<=k+1/\∀j,j<=k+1->val (if decide (val (k+1)<val (argBest _ k))=true then k+1 else argBest _ k)<=val j;by_cases c:val (k+1)<val (argBest (fun i j=>decide (val i<val j)) k)
  ·rw[Di (Dj c)];refine⟨zX _,fun j hj=>?_⟩;by_cases e:j=k+1
   ·subst e;exact Int.le_refl _
   ·have:=h2 j (by lia);lia
  ·rw[Dh (by rw[Dk c];decide)];refine⟨by lia,fun j hj=>?_⟩;by_cases e:j=k+1
   ·subst e;lia
   ·exact h2 j (by lia)
def ue (K:W.Frag):List V->Hp->VK->Prop:=fun xs H Q=>∃(p:Addr)(ns:List Int),xs=[.ref p]/\SqT K H p (ns.map V.int)/\ns≠[]/\∀m,m∈ns->(∀n∈ns,m<=n)->Q (.int m) H
theorem mH(hc:X.calm=true):dJ X (.builtin "min") (ue X.K):=by
 intro pins s σ H xs us Q I r h;obtain⟨p,ns,rfl,hq,hne,q⟩:=h;obtain⟨u,rfl,rx⟩:=dX r;cases rx;obtain⟨its,rv,pl,hz⟩:=I.tuple hq;have hl:=rv.length;rw[zY] at hl;have hh:X.A.in1.handled=none:=I.ok.hd hc;obtain⟨ob,ho,hcl,n0,hd⟩:=id pl;have hp:p<s.heap.objs.size:=Dp ho;have it:s.heap.IsTuple p its.toArray:=pl;refine call_min_walk (wpAny_pyIter_tuple it ⟨s.heap.objs.size,_,_,_,_,_,fun i j=>decide (ns.getD i 0<ns.getD j 0),rfl,Walks.tuple hh s.heap.objs.size p (Ac hp) _,⟨⟨_,DG _ rfl,rfl,rfl⟩,it.push _⟩,?_,?_,CmpOf.ints_lt (fun i=>ns.getD i 0) fun i v hv=>Fp rv (by rw[Bi] at hv;exact hv),fun v h' tk hv hk=>?_⟩)
 ·intro b hb;show b<(s.heap.push _).objs.size;rw[DM];simp only[Ag,AN,or_false] at hb;rcases hb with e|e
  ·rw[e];exact AY _
  ·rw[e];exact Bc hp
 ·rw[An];cases ns with
  |nil=>exact absurd rfl hne
  |cons _ _=>rw[<- hl];exact BY _
 ·obtain⟨t,rfl⟩:=Fp rv (by rw[Bi] at hv;exact hv);obtain⟨h1,h2⟩:=iK (fun i=>ns.getD i 0) (its.toArray.size-1);have hs:its.toArray.size=ns.length:=by rw[An,hl]
  have pos:0<ns.length:=by
   cases ns with
   |nil=>exact absurd rfl hne
   |cons _ _=>exact BY _
  refine⟨.int _,H,I.FC hk,⟨_,rfl⟩,q _ ?_ fun n hn=>?_⟩
  ·have hi:argBest (fun i j=>decide (ns.getD i 0<ns.getD j 0)) (its.toArray.size-1)<ns.length:=by lia
   rw[Aw,Aa hi];exact AI hi
  ·obtain⟨j,hj,rfl⟩:=Bm.mp hn;have:=h2 j (by lia);rw[Aw (i:=j),Aa hj] at this;exact this
theorem ix(ns:List Int):∀k,k<=ns.length->preSum (fun i=>ns.getD i 0) k=(ns.take k).sum
 |0,_=>rfl
 |k+1,h=>by
  have hk:k<ns.length:=by lia
  show preSum (fun i=>ns.getD i 0) k+ns.getD k 0=_;rw[ix ns k (by lia),Az,Aa hk,Aw,Aa hk,List.sum_append];show(ns.take k).sum+ns[k]=(ns.take k).sum+(ns[k]+0)
  lia
end
def uF (_ j:Int):Prop:=0<j/\j<1000000000000000000000000000000000
theorem oh{X:Cx}:OpR X (binaryOp .FloorDiv) (rI uF fun i j=>.int (i/j)):=opI fun i j _ _ _ _ _ hc q=>by
 have h1:(0:Int)<j:=hc.1;have h2:j<1000000000000000000000000000000000:=hc.2;refine floordiv_int (by omega) (by rw[CU i (by omega)];exact q) (.inl (PyProof.noPylong_of_log2 ?_));refine Ak ((Nat.log2_lt (by omega)).mpr (show j.natAbs<2^111 by omega)) (by decide)
def rm (P:Program)(w:World)(K:W.Frag)(a:Addr)(kvs:List (Key×V)):Prop:=∀h:Heap,K.In h->(a==sysModules)=false/\∃vs,KV kvs vs/\h.DictOf (bu P w) a vs
def rM (a:Addr)(kvs:List (Key×V))(td ty:TE):TE:=fun σ H Q=>td σ H fun x H1=>ty σ H1 fun y H2=>∃k v,x=.ref a/\y=kV k/\ir kvs k=some v/\Q v H2
def uk (a:Addr)(kvs:List (Key×V))(ty td:TE):TE:=fun σ H Q=>ty σ H fun y H1=>td σ H1 fun x H2=>∃k,x=.ref a/\y=kV k/\Q (.bl (ir kvs k).isSome) H2
section
variable {X:Cx}{o i:Expr}{pos:Pos}{td ty:TE}{a:Addr}{kvs:List (Key×V)}
theorem og(M:rm X.prog X.w X.K a kvs)(ho:PE X o td)(hi:PE X i ty)(hs:tK i):PE X (.Subscript o i pos) (rM a kvs td ty):=by
 intro pins s σ H Q I h;refine kR PySem.F.slot_dict_getitem.lookup hs (thn (ho pins s σ H _ I h) fun u s1 hq78=>?_);obtain⟨x,H1,I1,rx,q1⟩:=hq78;refine thn (hi pins s1 σ H1 _ I1 q1) fun iv s2 ⟨y,H2,I2,ry,k,v,ex,ey,l,q2⟩=>?_;subst ex ey;obtain rfl:u=Value.ref a:=rx;obtain⟨_,vs,rel,dd⟩:=M s2.heap I2.kIn;obtain⟨w',hw,rw'⟩:=FQ.some_of (v:=v) (o:=valueAt vs k) (by rw[<- l];exact rel.val k);exact⟨dd.typeIs,wpAny_getItem_of (jJ ry) dd.mapOf hw ⟨v,H2,I2.tok _,rw',q2⟩⟩
theorem qF(M:rm X.prog X.w X.K a kvs)(hi:PE X i ty)(ho:PE X o td):PC X .In i o (uk a kvs ty td):=by
 intro pins s σ H Q I h;refine thn (hi pins s σ H _ I h) fun iv s1 hq79=>?_;obtain⟨y,H1,I1,ry,q1⟩:=hq79;refine thn (ho pins s1 σ H1 _ I1 q1) fun u s2 ⟨x,H2,I2,rx,k,ex,ey,q2⟩=>?_;subst ex ey;obtain rfl:u=Value.ref a:=rx;obtain⟨hd,vs,rel,dd⟩:=M s2.heap I2.kIn;refine wpAny_in_of (jJ ry) hd dd.mapOf ?_;rw[<- (rel.val k).Fc];exact⟨.bl _,H2,I2.tok _,rfl,q2⟩
end
theorem uo{P:Program}{w:World}{K:W.Frag}{a a1 a2:Addr}{x y:Str}{t u:Tok}{n:Nat}(hxy:x≠y)(ha:(a==sysModules)=false)
  (l:K.lookup a=some ⟨.type "dict",none,.dict #[⟨PyData.keyHash w.params x,.str x t,.ref a1⟩,⟨PyData.keyHash w.params y,.str y u,.ref a2⟩] n,#[]⟩):rm P w K a [(.inr x,.ref a1),(.inr y,.ref a2)]:=fun h X=>by
 refine⟨ha,[(.inr x,.ref a1),(.inr y,.ref a2)],.cons ⟨rfl,rfl⟩ (.cons ⟨rfl,rfl⟩ .nil),_,_,_,X _ _ l,?_,rfl,?_,.cons (bS P w x t) rfl (.cons (bS P w y u) rfl .nil),?_⟩
 ·exact⟨rfl,rfl,rfl⟩
 ·intro e he;have he':e∈[(⟨PyData.keyHash w.params x,.str x t,.ref a1⟩:DictEntry),⟨PyData.keyHash w.params y,.str y u,.ref a2⟩]:=by simpa using he
  simp only[Ag,AN,or_false] at he';rcases he' with rfl|rfl
  ·exact⟨.inr x,bS P w x t,rfl⟩
  ·exact⟨.inr y,bS P w y u,rfl⟩
 ·simp[hxy]
def Ite (K:W.Frag)(a:Addr):It:=
 ⟨fun i H=>∃xs x,SqL K H a xs/\xs[i]?=some x,fun i H v H'=>∃p x,H p=none/\v=.ref p/\H'=upd H p (.tup [.int i,x])/\∀xs,SqL K H a xs->xs[i]?=some x,fun i H=>∃xs,SqL K H a xs/\xs.length<=i⟩
theorem lE{P:Program}{w:World}{K:W.Frag}{elts:List Expr}{x1}{pos:Pos}(a e it:Addr)(hne:e≠it) :
  Turn P w K (.Tuple elts x1 pos) (Ite K a) [e,it] e (fun i h=>(∃old,IsEnum h e it ((i:Nat):Int) old)/\h.IsListIter it a i) where
 mem:=by simp
 obj:=fun i h st b hb=>by
  obtain⟨⟨old,s1⟩,s2⟩:=st;simp only[Ag,AN,or_false] at hb;rcases hb with rfl|rfl
  ·exact⟨_,s1,fun v z=>by cases z⟩
  ·obtain⟨o,e,c,d⟩:=s2;exact⟨o,e,fun v z=>by rw[d] at z;cases z⟩
 keep:=fun i h h' st k=>by
  obtain⟨⟨old,s1⟩,s2⟩:=st;exact⟨⟨old,k e (by simp) _ s1⟩,s2.at fun o z=>k it (by simp) o z⟩
 item:=by
  intro X hP hw hK hc i pins s σ H E I hf st hg;subst hP hw hK;obtain⟨⟨old,s1⟩,s2⟩:=st;obtain⟨xs,x,hq,hx⟩:=hg;obtain⟨its,rv,p,hz⟩:=I.list hq;obtain⟨u,hu,ru⟩:=rv.get hx;have fe:=hf e (by simp);have fi:=hf it (by simp);refine wpAny_pyNext_enum_item s1 s2 p.isList (x:=u) (by simpa using hu) hne fun h₁ heo hit₁ ht₁ hz₁ hk₁=>?_;refine⟨_,rfl,wpAny_letOwnedTupleGo_enum heo fun h₂ he₂ hs₂=>?_⟩;have he0:e<s.heap.objs.size:=Dp s1;have kk:∀b o,b≠e->b≠it->s.heap.get? b=some o->h₂.get? b=some o:=fun b o b1 b2 q=>hs₂.extBut b o b1 (hk₁ b o b1 b2 q);have hit₂:=hit₁.extBut hs₂.extBut (DC hne)
  have I1:Inv X pins σ H { s with heap:=h₂,toks:=s.toks+1 }:=I.Gq ⟨fun b o q n _=>kk b o (fun z=>n (z ▸ fe)) (fun z=>n (z ▸ fi)) q,fun b o q n=>⟨o.slots,kk b o (fun z=>n (z ▸ fe)) (fun z=>n (z ▸ fi)) q⟩,fun b o q=>by
   by_cases z1:b=e
   ·subst z1;exact⟨_,he₂⟩
   ·by_cases z2:b=it
    ·subst z2;obtain⟨oi,g,_⟩:=hit₂;exact⟨oi,g⟩
    ·exact⟨o,kk b o z1 z2 q⟩⟩
  have hn:=I.hok.fresh (zX s.heap.objs.size);have ht₂:h₂.get? s.heap.objs.size=some {cls:=.type "tuple",data:=.seq #[.int i s.toks,u]}:=(hs₂.2 _ (BK he0)).trans ht₁;have I2:Inv X pins σ (upd H s.heap.objs.size (.tup [.int i,x])) {s with heap:=h₂,toks:=s.toks+1}:=I1.Jw (I.Hw _ (zX _)) ⟨by show 2<=sizeLine;decide,[.int i s.toks,u],.cons ⟨_,rfl⟩ (.cons ru .nil),_,ht₂,rfl,_,rfl⟩;refine⟨.ref s.heap.objs.size,_,I2,rfl,⟨_,x,hn,rfl,rfl,fun ys hy=>by rw[I.GB hy hq];exact hx⟩,⟨⟨u,?_⟩,hit₂⟩,fun b hb=>?_⟩
  ·have z:((i+1:Nat):Int)=(i:Int)+1:=by lia
   rw[z];exact he₂
  ·have hb':b≠s.heap.objs.size:=by
    simp only[Ag,AN,or_false] at hb;rcases hb with rfl|rfl
    ·exact Ac he0
    ·obtain⟨oi,g,_⟩:=s2;exact Ac (Dp g)
   rw[av hb'];exact(hf b hb).1
 done:=by
  intro X hP hw hK hc i pins s σ H E I hf st hg;subst hP hw hK;obtain⟨⟨old,s1⟩,s2⟩:=st;obtain⟨xs,hq,hx⟩:=hg;obtain⟨its,rv,p,hz⟩:=I.list hq;obtain⟨f0,f1,f2,f3,f4,f5⟩:=hf it (by simp);have hl:=rv.length;exact wpAny_pyNext_enum_end (I.ok.hd hc) s1 s2 p.isList (by simp;lia) fun h' eb=>⟨rfl,I.turned (t':=s.toks) (fun b o hb e=>eb b o hb e) f0 f1 f3 f4 f5⟩
 self:=fun _ _ _ _ _ st h=>wpAny_pyIter_enum st.1.choose_spec h
section
variable {X:Cx}
theorem FO:bootBuiltins "enumerate"=some (.type "enumerate"):=by decide +kernel
def tI (K:W.Frag)(ta:TA):TI:=fun σ H R=>ta σ H fun vs H1=>∃a,vs=[.ref a]/\(∃xs,SqL K H1 a xs)/\R (Ite K a) H1
theorem nu{elts:List Expr}{x1}{tpos:Pos}{a:Expr}{ta:TA}{p pos:Pos}(hg:Gl X "enumerate")(hm:X.mg "enumerate"=none)(ha:PA X [a] ta)(hs:starEach [a] X.env=[(false,eval a X.env)]:=by rfl) :
  PI X (.Tuple elts x1 tpos) (.Call (.Name "enumerate" p) [a] [] pos) (tI X.K ta):=by
 intro pins s σ H R I h;refine Call_ (cB I hg hm FO (PyProof.Rows.callWith_type1 (thn (ha pos pins s σ H _ I h) fun us s1 hq80=>?_) hs rfl));obtain⟨vs,H1,I1,r1,q1⟩:=hq80;obtain⟨l,e,⟨xs,hq⟩,q⟩:=q1;subst e;obtain⟨u,rfl,ru⟩:=dX r1;cases ru;obtain⟨its,rv,pl,hz⟩:=I1.list hq;refine call_enumerate_list pl.isList fun h' he hit hsz hk=>?_;refine wpAny_pyIter_enum he ?_;have I2:Inv X pins σ H1 {s1 with heap:=h',toks:=s1.toks}:=I1.kept hk;refine⟨s1.heap.objs.size+1,[s1.heap.objs.size+1,s1.heap.objs.size],_,Ite X.K l,H1,rfl,I2,lE l _ _ (Nat.succ_ne_self _),⟨⟨_,he⟩,hit⟩,fun b hb=>?_,q⟩;simp only[Ag,AN,or_false] at hb;rcases hb with rfl|rfl
 ·exact I1.HX (Bb _) (I1.hok.fresh (Bb _))
 ·exact I1.HX (zX _) (I1.hok.fresh (zX _))
theorem sO{K:W.Frag}{a:Addr}{xs:List V}{k:Nat}{js:List Nat}{g:TG}{tc:TT}{te:TE}{σ:St}{H:Hp}{Q:VK}(P:Nat->List V->Hp->Prop)(h0:P 0 [] H)(hz:∀i ys H,i<=xs.length->P i ys H->ys.length<=i)(hn:xs.length<=sizeLine)
  (hl:∀i ys H,i<=xs.length->P i ys H->SqL K H a xs)
  (hs:∀i x ys H p,xs[i]?=some x->P i ys H->H p=none->g (.ref p) (List.replicate k none++dq js σ) (upd H p (.tup [.int i,x])) fun σ2 H2=>tc σ2 H2 fun b H3=>if b=true then te σ2 H3 fun y H4=>Nx xs.length i P (ys++[y]) H4 else Nx xs.length i P ys H3)
  (hd:∀ys H,P xs.length ys H->∀p,H p=none->Q (.ref p) (upd H p (.lst ys))) :
  iz (Ite K a) k js g tc te σ H Q:=
 dD P h0 hz hn (fun i ys H hi p=>⟨xs,xs[i],hl i ys H (AW hi) p,by simp[hi]⟩) (fun ys H p=>⟨xs,hl _ ys H (zX _) p,zX _⟩)
  (fun i ys H v H' hi p y=>by obtain⟨q,x,hq,rfl,rfl,y⟩:=y;exact hs i x ys H q (y xs (hl i ys _ (AW hi) p)) p hq) hd
def Kw:V->List V->Hp->VK->Prop:=fun x vs H Q=>∃z y,x=.str z/\vs=[.str y]/\Q (.bl (Txt.endswith z y)) H
theorem Hl:MtR X "str.endswith" Kw:=by
 intro pins s σ H x vs v us Q I rx rv h;obtain⟨z,y,rfl,rfl,q⟩:=h;obtain⟨t,rfl⟩:=rx;obtain⟨u,rfl,t',rfl⟩:=rv.one;exact SC.endswith ⟨.bl _,H,I,rfl,q⟩
def IH:V->List V->Hp->VK->Prop:=fun x vs H Q=>∃z y,x=.str z/\vs=[.str y]/\Q (.bl (Txt.startswith z y)) H
theorem HH:MtR X "str.startswith" IH:=by
 intro pins s σ H x vs v us Q I rx rv h;obtain⟨z,y,rfl,rfl,q⟩:=h;obtain⟨t,rfl⟩:=rx;obtain⟨u,rfl,t',rfl⟩:=rv.one;exact SC.startswith ⟨.bl _,H,I,rfl,q⟩
end
end L2
namespace L2
open PySem PySem.Spec PyProof.Rows
open PySem.SeqAt
open PySem.AutoSeq1 (wpAny_loadPart')
open PySem.MeetsSeq PySem.MeetsSeq2 PySem.MeetsSeq3
theorem Gj:∀{vs:List Value}{ns:List Int}{i:Nat},IntsAre vs ns->i<vs.length->∃t,vs[i]?=some (.int (ns.getD i 0) t)
 |_,_,_,.nil,h=>by simp at h
 |_,_,0,.cons n t _,_=>⟨t,rfl⟩
 |_,_,i+1,.cons n t r,h=>by
  obtain⟨t',e⟩:=Gj (i:=i) r (by simpa using h);exact⟨t',by simpa using e⟩
theorem qB(l b:Addr)(items items2:Array Value)(n n2:Nat)(dd dd2:Option Addr)(sl sl2:Array (Option Value))(ns ms:List Int)(hi:IntsAre items.toList ns)(hj:IntsAre items2.toList ms)(k:Nat) :
  ∀i:Nat,items.size-i=k->i<=items.size->i<=items2.size->Meets (Builtin.«list.__eq__.loop» ⟨[.ref l,.ref b,rawInt i,rawInt 0],[]⟩)
   (fun A R s=>s.heap.get? l=some { cls:=.type "list",dict:=dd,data:=.seq items n,slots:=sl }/\s.heap.get? b=some { cls:=.type "list",dict:=dd2,data:=.seq items2 n2,slots:=sl2 } /\
    R (.ok (.ret (.bool (HT.lexLt (ns.drop i) (ms.drop i))))) s):=by
 have z1:items.size=ns.length:=by rw[<- hi.length];simp
 have z2:items2.size=ms.length:=by rw[<- hj.length];simp
 induction k with
 |zero=>
  intro i hk h1 h2 prog w A R s h;obtain⟨hp,g,d,tk,os⟩:=s;obtain⟨hl,hb,h⟩:=h
  wp_walk using wpAny_loadPart' hl,wpAny_loadPart' hb
  have hi1:items[((i:Nat):Int).toNat]?=none:=by simp;lia
  rw[hi1];have e1:ns.drop i=[]:=Cm (by lia);rw[e1] at h
  wp_walk using wpAny_loadPart' hl,wpAny_loadPart' hb
  show R (.ok (.ret (.bool (decide (items.size<items2.size))))) _;have e2:HT.lexLt [] (ms.drop i)=decide (items.size<items2.size):=by
   by_cases q:i<ms.length
   ·rw[BA q,HT.Fn];exact(Dj (by lia)).symm
   ·rw[Cm (by lia),HT.Fz];exact(Dk (by lia)).symm
  rw[<- e2];exact h
 |succ k ih=>
  intro i hk h1 h2 prog w A R s h;obtain⟨hp,g,d,tk,os⟩:=s;obtain⟨hl,hb,h⟩:=h
  wp_walk using wpAny_loadPart' hl,wpAny_loadPart' hb
  have hlt:i<items.size:=by lia
  obtain⟨t,et⟩:=Gj (i:=i) hi (by simpa using hlt);have et':items[((i:Nat):Int).toNat]?=some (.int (ns.getD i 0) t):=by simpa using et
  have hn:i<ns.length:=by lia
  have d1:ns.drop i=ns.getD i 0::ns.drop (i+1):=by rw[BA hn,Aw,Aa hn];rfl
  rw[d1] at h;by_cases hlt2:i<items2.size
  ·obtain⟨u,eu⟩:=Gj (i:=i) hj (by simpa using hlt2);have eu':items2[((i:Nat):Int).toNat]?=some (.int (ms.getD i 0) u):=by simpa using eu
   have hm:i<ms.length:=by lia
   have d2:ms.drop i=ms.getD i 0::ms.drop (i+1):=by rw[BA hm,Aw,Aa hm];rfl
   rw[d2,HT.Ej] at h;rw[et',eu'];obtain⟨e,he,hiff⟩:=HT.Gy A.in1 ⟨hp,g,d,tk,os⟩ (ns.getD i 0) t (ms.getD i 0) u;refine Dd (he prog w _ _ ?_);have hc:((i:Int)+1)=((i+1:Nat):Int):=by lia
   cases e with
   |true=>
    rw[Di (hiff.mp rfl)] at h
    wp_walk
    rw[hc]
    exact⟨plainId_quiet plain_eq_loop _,codeAny_builtin entry_eq_loop (by
     rw[Around.under_plainId plain_eq_loop _]
     exact ih (i+1) (by lia) (by lia) (by lia) prog w A R _ ⟨hl,hb,h⟩)⟩
   |false=>
    rw[Dh (fun q=>absurd (hiff.mpr q) AB)] at h
    wp_walk using wpAny_loadPart' hl,wpAny_loadPart' hb
    rw[et',eu'];have hri:=HT.Gr A.in1 ⟨hp,g,d,tk,os⟩ (ns.getD i 0) t (ms.getD i 0) u prog w
    wp_walk using hri
    exact h
  ·have eu':items2[((i:Nat):Int).toNat]?=none:=by simp;lia
   have d2:ms.drop i=[]:=Cm (by lia);rw[d2,HT.Fl] at h;rw[et',eu']
   wp_walk using wpAny_loadPart' hl,wpAny_loadPart' hb
   show R (.ok (.ret (.bool (decide (items.size<items2.size))))) _;rw[Dk (by lia)];exact h
theorem gu(l b:Addr)(items items2:Array Value)(n n2:Nat)(dd dd2:Option Addr)(sl sl2:Array (Option Value))(ns ms:List Int)(hi:IntsAre items.toList ns)(hj:IntsAre items2.toList ms) :
  Meets (Builtin.«list.__lt__» ⟨[.ref l,.ref b],[]⟩)
   (fun A R s=>s.heap.get? l=some { cls:=.type "list",dict:=dd,data:=.seq items n,slots:=sl }/\s.heap.get? b=some { cls:=.type "list",dict:=dd2,data:=.seq items2 n2,slots:=sl2 } /\
    R (.ok (.ret (.bool (HT.lexLt ns ms)))) s):=by
 intro prog w A R s h;obtain⟨hp,g,d,tk,os⟩:=s;obtain⟨hl,hb,h⟩:=h;have f3:=AutoSeq1.sub_list_list
 wp_walk using wpAny_loadPart' hl,wpAny_loadPart' hb
 exact⟨plainId_quiet plain_eq_loop _,codeAny_builtin entry_eq_loop (by
  rw[Around.under_plainId plain_eq_loop _]
  exact qB l b items items2 n n2 dd dd2 sl sl2 ns ms hi hj _ 0 rfl (Ah _) (Ah _) prog w A R _ ⟨hl,hb,h⟩)⟩
theorem kB{prog:Program}{w:World}{A:Around}{E:Value->Shared->Prop}{s:Shared}{l b:Addr}{o o2:Obj}{items items2:Array Value}{n n2:Nat}{ns ms:List Int}{Q:Value->Shared->Prop}
  (hl:s.heap.get? l=some o)(hc:o.cls=.type "list")(hd:o.data=.seq items n)(hb:s.heap.get? b=some o2)(hc2:o2.cls=.type "list")(hd2:o2.data=.seq items2 n2)(hi:IntsAre items.toList ns)(hj:IntsAre items2.toList ms)
  (hu:A.units<cLine)(h:Q (.bool (HT.lexLt ns ms)) s):wpAny (model prog w) A (richCompare .Lt (.ref l) (.ref b)) Q E s:=by
 obtain⟨cls,dd,data,sl⟩:=o;obtain⟨cls2,dd2,data2,sl2⟩:=o2;simp only at hc hd hc2 hd2;subst hc hd hc2 hd2;exact richCompare_meets_room (op:=.Lt) ⟨_,hl,rfl⟩ ⟨_,hb,rfl⟩ PySem.F.slot_list_lt PySem.F.entry_list_lt (PySem.F.args_list_lt_2 _ _) (gu l b items items2 n n2 dd dd2 sl sl2 ns ms hi hj)
  ⟨hl,hb,show Value.bool (HT.lexLt ns ms)≠Value.notImplemented/\Q (.bool (HT.lexLt ns ms)) s from⟨(fun x=>nomatch x),h⟩⟩ hu
def bC (a c:Int)(ns ms:List Int):Bool:=if a=c then HT.lexLt ns ms else decide (a<c)
theorem Ee:∀ns:List Int,HT.lexLt ns ns=false
 |[]=>rfl
 |n::r=>by rw[HT.Ej,Di rfl];exact Ee r
theorem fH(p q l b:Addr)(a c:Int)(t u:Tok)(n n2:Nat)(dd dd2:Option Addr)(sl sl2:Array (Option Value))(ns ms:List Int) :
  Meets (Builtin.«tuple.__lt__» ⟨[.ref p,.ref q],[]⟩)
   (fun A R s=>s.heap.get? p=some { cls:=.type "tuple",dict:=dd,data:=.seq #[.int a t,.ref l] n,slots:=sl }/\s.heap.get? q=some { cls:=.type "tuple",dict:=dd2,data:=.seq #[.int c u,.ref b] n2,slots:=sl2 } /\
    EqAt A.in1 s (.ref l) (.ref b) (decide (ns=ms))/\(∀(prog:Program)(w:World)(E:Value->Shared->Prop)(Q:Value->Shared->Prop),Q (.bool (HT.lexLt ns ms)) s->wpAny (model prog w) A.in1 (richCompare .Lt (.ref l) (.ref b)) Q E s) /\
    R (.ok (.ret (.bool (bC a c ns ms)))) s) :=
 .of_wp fun prog w A R s h=>by
  obtain⟨hp,g,d,tk,os⟩:=s;obtain⟨hl,hb,hE,hL,h⟩:=h;have f2:=AutoSeq1.sub_tuple_tuple;obtain⟨e,he,hiff⟩:=HT.Gy A.in1 ⟨hp,g,d,tk,os⟩ a t c u;have hri:=HT.Gr A.in1 ⟨hp,g,d,tk,os⟩ a t c u prog w;have hrl:=hL prog w
  wp_walk using wpAny_loadPart' hl,wpAny_loadPart' hb,wpAny_forIn_list _ (fun rest b' s'=>b'.1=none/\s'=⟨hp,g,d,tk,os⟩/\(rest=[(.int a t,.int c u),(.ref l,.ref b)]\/(a=c/\rest=[(.ref l,.ref b)])\/(a=c/\ns=ms/\rest=[]))) _
  case turn=>
   rintro⟨y,x⟩ rest b' s' ⟨hb',rfl,hcase⟩;rcases hcase with hc|⟨hac,hc⟩|⟨_,_,hc⟩
   ·injection hc with h1 h2;injection h1 with h1 h3;subst h1 h3 h2;refine Dd (he prog w _ _ ?_);cases e with
    |true=>
     wp_walk
     exact⟨rfl,rfl,.inr (.inl ⟨hiff.mp rfl,rfl⟩)⟩
    |false=>
     have hne:¬a=c:=fun q=>absurd (hiff.mpr q) AB
     wp_walk using hri
     refine⟨_,rfl,?_⟩;have e1:bC a c ns ms=decide (a<c):=by unfold bC;rw[Dh hne]
     rw[e1] at h;simpa using h
   ·injection hc with h1 h2;injection h1 with h1 h3;subst h1 h3 h2;have e1:bC a c ns ms=HT.lexLt ns ms:=by unfold bC;rw[Di hac]
    rw[e1] at h;refine Dd (hE prog w _ _ ?_);by_cases hm:ns=ms
    ·rw[Dj hm]
     wp_walk
     exact⟨rfl,rfl,.inr (.inr ⟨hac,hm,rfl⟩)⟩
    ·rw[Dk hm]
     wp_walk using hrl
     exact⟨_,rfl,by simpa using h⟩
   ·cases hc
  case fin=>
   rintro⟨b1,b2⟩ s' ⟨hb',rfl,hcase⟩;simp only at hb';subst hb';rcases hcase with hc|⟨_,hc⟩|⟨hac,hm,_⟩
   ·cases hc
   ·cases hc
   ·have e1:bC a c ns ms=false:=by unfold bC;rw[Di hac,hm];exact Ee ms
    rw[e1] at h
    wp_walk
    exact⟨_,rfl,by simpa [Builtin.Tuple.tupleCompareSizes] using h⟩
  case h=>
   exact⟨rfl,rfl,.inl rfl⟩
theorem nr{prog:Program}{w:World}{A:Around}{E:Value->Shared->Prop}{s:Shared}{p q l b:Addr}{a c:Int}{t u:Tok}{ns ms:List Int}{Q:Value->Shared->Prop}
  (hp:IsTup s.heap p #[.int a t,.ref l])(hq:IsTup s.heap q #[.int c u,.ref b])(hE:EqAt A.in1 s (.ref l) (.ref b) (decide (ns=ms)))
  (hL:∀(prog:Program)(w:World)(E:Value->Shared->Prop)(Q:Value->Shared->Prop),Q (.bool (HT.lexLt ns ms)) s->wpAny (model prog w) A.in1 (richCompare .Lt (.ref l) (.ref b)) Q E s)
  (hu:A.units<cLine)(h:Q (.bool (bC a c ns ms)) s):wpAny (model prog w) A (richCompare .Lt (.ref p) (.ref q)) Q E s:=by
 obtain⟨⟨cls,dd,data,sl⟩,ho,hc,n,hd⟩:=id hp;obtain⟨⟨cls2,dd2,data2,sl2⟩,ho2,hc2,n2,hd2⟩:=id hq;simp only at hc hd hc2 hd2;subst hc hd hc2 hd2;exact richCompare_meets_room (op:=.Lt) ⟨_,ho,rfl⟩ ⟨_,ho2,rfl⟩ PySem.F.slot_tuple_lt PySem.F.entry_tuple_lt (PySem.F.args_tuple_lt_2 _ _) (fH p q l b a c t u n n2 dd dd2 sl sl2 ns ms)
  ⟨ho,ho2,hE,hL,show Value.bool (bC a c ns ms)≠Value.notImplemented/\Q (.bool (bC a c ns ms)) s from⟨(fun x=>nomatch x),h⟩⟩ hu
end L2
namespace L2
open PySem PySem.Spec PyProof.Rows
theorem cZ{M:Model}{A:Around}{E:Value->Shared->Prop}{s:Shared}{pos:Pos}{id:String}{first:List Value}{args:List (Bool×Sem Value)}{keywords:List (Option Str×Sem Value)}{Q:Value->Shared->Prop}
  (hplain:(args.any (·.1)||keywords.any (·.1.isNone))=false)
  (h:wpAny M A (evalArgs (.builtin id) true args keywords) (fun a s₁=>wpAny M A (call (.builtin id) (first++a.pos) a.kw) Q E s₁) E s) :
  wpAny M A (callWith pos (.builtin id) first args keywords) Q E s:=by
 unfold callWith;refine Dd (Dm (Dl h (fun a s₁ h₁=>Dd (wpAny_standAt ?_)) fun _ _ x=>x));simp only[hplain];refine Dd (De ?_);exact Dd (Dl h₁ (fun r s₂ hr=>Dd (Dm (wpAny_point (De hr)))) fun _ _ x=>x)
def sM (X:Cx)(f:Value)(ks:List Str)(r:List V->List V->Hp->VK->Prop):Prop:=
 ∀(pins:List (Addr×Obj))(s:Shared)(σ:St)(H:Hp)(xs zs:List V)(us ws:List Value)(Q:VK),Inv X pins σ H s->Vals xs us->Vals zs ws->r xs zs H Q ->
  wpAny (model X.prog X.w) X.A (call f us (ks.zip ws)) (EP X pins σ Q) X.xe s
def tCBK (r:List V->List V->Hp->VK->Prop)(t tk:TA):TE:=fun σ H Q=>t σ H fun vs H1=>tk σ H1 fun zs H2=>r vs zs H2 Q
theorem kg{X:Cx}{x:Str}{p pos:Pos}{e:Expr}{es:List Expr}{kws:List Keyword}{t tk:TA}{id:String}{ks:List Str}{r:List V->List V->Hp->VK->Prop}(hc:sM X (.builtin id) ks r)(hg:Gl X x)(hm:X.mg x=none)(hv:bootBuiltins x=some (.builtin id))(ha:PA X (e::es) t)(hkw:PK X kws tk)
  (hall:(backToKw pos (keywordEach kws X.env)).all (·.1.isSome)=true:=by rfl)(hks:(backToKw pos (keywordEach kws X.env)).filterMap (·.1)=ks:=by rfl)
  (hn:x≠"__name__":=by decide)(hdb:(x==("__debug__":Str))=false:=by decide)(he:starEach (e::es) X.env=(false,eval e X.env)::starEach es X.env:=by rfl)
  (hpl:((backTo pos (starEach (e::es) X.env)).any (·.1)||(backToKw pos (keywordEach kws X.env)).any (·.1.isNone))=false:=by rfl):PE X (.Call (.Name x p) (e::es) kws pos) (tCBK r t tk):=by
 intro pins s σ H Q I h;refine wpAny_Call_Name_kw (cB I hg hm hv ?_ hn hdb);refine cZ hpl ?_;have hA:=ha pos pins s σ H _ I h;rw[he] at hA ⊢;refine evalArgs_kw hall (thn hA fun us s1 hq81=>?_);obtain⟨vs,H1,I1,r1,q1⟩:=hq81;refine thn (hkw pos pins s1 σ H1 _ I1 q1) fun ws s2 hq82=>?_;obtain⟨zs,H2,I2,rz,q2⟩:=hq82;rw[hks];exact hc pins s2 σ H2 vs zs us ws Q I2 r1 rz q2
theorem Fi:∀{a b c:List Int},a.length=b.length->b.length=c.length->HT.lexLt a b=true->HT.lexLt b c=true->HT.lexLt a c=true
 |[],[],_,_,_,h,_=>by exact absurd h (by simp[Ee])
 |x::a,y::b,z::c,e,f,h,g=>by
  rw[HT.Ej] at h g ⊢;have e':a.length=b.length:=by simpa using e
  have f':b.length=c.length:=by simpa using f
  by_cases xy:x=y
  ·rw[Di xy] at h;by_cases yz:y=z
   ·rw[Di yz] at g;rw[Di (xy.trans yz)];exact Fi e' f' h g
   ·rw[Dh yz] at g;rw[Dh (by rw[xy];exact yz),xy];exact g
  ·rw[Dh xy] at h;have h':x<y:=Do h;by_cases yz:y=z
   ·rw[<- yz,Dh xy];exact h
   ·rw[Dh yz] at g;have g':y<z:=Do g;rw[Dh (by lia)];exact Dj (by lia)
def kLt (a b:List Int):Bool:=bC a.length b.length a b
theorem gU{a b c:List Int}(h:kLt a b=true)(g:kLt b c=true):kLt a c=true:=by
 unfold kLt bC at *;by_cases e:(a.length:Int)=b.length
 ·rw[Di e] at h;by_cases f:(b.length:Int)=c.length
  ·rw[Di f] at g;rw[Di (e.trans f)];exact Fi (by lia) (by lia) h g
  ·rw[Dh f] at g;rw[Dh (by rw[e];exact f),e];exact g
 ·rw[Dh e] at h;have h':=Do h;by_cases f:(b.length:Int)=c.length
  ·rw[<- f,Dh e];exact h
  ·rw[Dh f] at g;have g':=Do g;rw[Dh (by lia)];exact Dj (by lia)
def lN (X:Cx)(q:Addr):Prop:=
 ∀(pins:List (Addr×Obj))(s:Shared)(σ:St)(H:Hp)(r:Addr)(ns:List Int),Inv X pins σ H s->H r=some (.lst (ns.map V.int)) ->
  wpAny (model X.prog X.w) X.A.in1 (call (.ref q) [.ref r]) (EP X pins σ fun v H'=>∃p,v=.ref p/\H p=none/\H'=upd H p (.tup [.int ns.length,.ref r])) (fun _ _=>False) s
theorem nh{X:Cx}{k:Nat}{f:Addr}{fd:FuncData}{ps:List Str}{sp:Sp}(F:DY X.prog X.w X.K X.mg X.base CX0 k f fd ps sp)(hr:EB (k+1) X.A)(hb:Binds X.K fd ps [])
  (hsp:∀(r:Addr)(ns:List Int)(H:Hp)(Q:VK),H r=some (.lst (ns.map V.int))->(∀p,H p=none->Q (.ref p) (upd H p (.tup [.int ns.length,.ref r])))->sp [.ref r] H Q E0):lN X f:=by
 intro pins s σ H r ns I hn;have h:=hsp r ns H (fun v H'=>∃p,v=.ref p/\H p=none/\H'=upd H p (.tup [.int ns.length,.ref r])) hn fun p hp=>⟨p,rfl,hp,rfl⟩
 have hl:([Value.ref r]++[]).length=ps.length:=F.len _ _ _ _ h;have r2:Vals [V.ref r] [Value.ref r]:=.cons rfl .nil;refine wpAny_call (codeAny_mono (F.run X.A.in1 X.stack s H ⟨[.ref r],[]⟩ [.ref r] [.ref r] _ E0 hr.in1 I.Jg.in1 (hb s [.ref r] I.kIn hl) r2 h) fun r s' hq=>?_);cases r with
 |error e=>exact False.elim hq
 |ok fl=>
  cases fl with
  |ret u=>exact I.after hq
  |next=>exact False.elim hq
  |brk=>exact False.elim hq
  |cont=>exact False.elim hq
theorem EF:∀(ns ms:List Int),PyData.eqv (.list (ns.map PyData.int)) (.list (ms.map PyData.int))=decide (ns=ms):=by
 intro ns;induction ns with
 |nil=>intro ms;cases ms<;>rfl
 |cons n ns ih=>
  intro ms;cases ms with
  |nil=>rfl
  |cons m ms=>
   have h:=ih ms;show(PyData.eqv (.int n) (.int m)&&PyData.eqv (.list (ns.map PyData.int)) (.list (ms.map PyData.int)))=_;rw[h];show(decide (n=m)&&decide (ns=ms))=_;by_cases e:n=m<;>by_cases f:ns=ms<;>simp[e,f]
end L2
namespace L2
open PySem PySem.Spec PyProof.Rows SeqAt
theorem bw{K:W.Frag}{H:Hp}:∀ns:List Int,DatAll K H (ns.map V.int) (ns.map PyData.int)
 |[]=>.nil
 |n::r=>.cons (.int n) (bw r)
theorem Fg:∀ns:List Int,PyData.canLayAll0 (ns.map PyData.int)=true
 |[]=>rfl
 |n::r=>by
  show((PyData.int n).canLay0&&PyData.canLayAll0 (r.map PyData.int))=true;rw[Fg r];rfl
theorem cn(ns:List Int):(PyData.list (ns.map PyData.int)).canLay0=true:=Fg ns
theorem depthAll_ints:∀ns:List Int,PyData.depthAll (ns.map PyData.int)<=1
 |[]=>by show 0<=1;decide
 |n::r=>by
  have h:=depthAll_ints r;show max (PyData.int n).depth (PyData.depthAll (r.map PyData.int))<=1;have e:(PyData.int n).depth=0:=rfl
  lia
theorem cJ(ns:List Int):(PyData.list (ns.map PyData.int)).depth<=2:=by
 have h:=depthAll_ints ns;have e:(PyData.list (ns.map PyData.int)).depth=PyData.depthAll (ns.map PyData.int)+1:=by simp[PyData.depth]
 lia
theorem jx{n:Int}{a:Addr}:∀{us:List Value},Vals [V.int n,V.ref a] us->∃t,us=[Value.int n t,Value.ref a]
 |_,.cons r (.cons q .nil)=>by obtain⟨t,rfl⟩:=r;cases q;exact⟨t,rfl⟩
section
variable {X:Cx}{pins:List (Addr×Obj)}{σ:St}{H:Hp}{s:Shared}
theorem lP{A:Around}{E:Value->Shared->Prop}{p q a b:Addr}{ns ms:List Int}{Q:Value->Shared->Prop}(I:Inv X pins σ H s)(hp:H p=some (.tup [.int ns.length,.ref a]))(hq:H q=some (.tup [.int ms.length,.ref b]))
  (ha:H a=some (.lst (ns.map V.int)))(hb:H b=some (.lst (ms.map V.int)))(hu:A.units+32<cLine)(h:Q (.bool (kLt ns ms)) s):wpAny (model X.prog X.w) A (richCompare .Lt (.ref p) (.ref q)) Q E s:=by
 obtain⟨ip,rp,pp,_⟩:=I.tuple (SqT.of hp);obtain⟨iq,rq,pq,_⟩:=I.tuple (SqT.of hq);obtain⟨tp,rfl⟩:=jx rp;obtain⟨tq,rfl⟩:=jx rq;obtain⟨_,ia,na,ra,_,ga⟩:=I.HW ha;obtain⟨_,ib,nb,rb,_,gb⟩:=I.HW hb;obtain⟨as,hA⟩:=I.reads (.lst (SqL.of ha) (bw ns)) (rfl:RelV (.ref a) (.ref a));obtain⟨bs,hB⟩:=I.reads (.lst (SqL.of hb) (bw ms)) (rfl:RelV (.ref b) (.ref b));have hd:=cJ ns;have hE:EqAt A.in1 s (.ref a) (.ref b) (decide (ns=ms)):=by
  have:=SeqAt.eqAt_reads _ _ A.in1 s _ _ as bs hA hB (cn ns) (cn ms) (by show A.units+1+_<cLine;lia);rw[EF] at this;exact this
 exact nr pp pq hE (fun prog w E Q h=>kB ga rfl rfl gb rfl rfl (fv ra) (fv rb) (by show A.units+1<cLine;lia) h) (by lia) h
theorem dh{α:Type}(f:α->Addr):∀{xs:List α}{us:List Value},Vals (xs.map fun x=>V.ref (f x)) us->us=xs.map fun x=>Value.ref (f x)
 |[],_,.nil=>rfl
 |x::xs,_,.cons r t=>by cases r;rw[dh f t];rfl
end
section
variable {X:Cx}{pins:List (Addr×Obj)}{σ:St}
theorem Er.turn{t':Nat}{H:Hp}{s:Shared}{it:Addr}{h':Heap}(f:Er X pins H it)(I:Inv X pins σ H s)(k:∀b o,b≠it->s.heap.get? b=some o->h'.get? b=some o):Inv X pins σ H {s with heap:=h',toks:=t'}:=
 I.turned k f.1 f.2.1 f.2.2.2.1 f.2.2.2.2.1 f.2.2.2.2.2
theorem iM{q l IT S:Addr}(hq:lN X q)(hc:X.calm=true)(hu:X.A.units+64<cLine)(hIS:IT≠S)(hlI:l≠IT){ps:List (Addr×List Int)}{R:Result->Shared->Prop} :
  ∀(n j:Nat)(s:Shared)(H:Hp)(rb:Addr×List Int)(pb:Addr)(c:Nat),ps.length-j=n->j<=ps.length->Inv X pins σ H s->H l=some (.lst (ps.map fun p=>V.ref p.1))->(∀p∈ps,H p.1=some (.lst (p.2.map V.int))) ->
   Er X pins H IT->Er X pins H S->s.heap.IsListIter IT l j->s.heap.get? S=some (seqObj "list" #[.ref rb.1,.ref pb] c)->rb∈ps->H pb=some (.tup [.int rb.2.length,.ref rb.1])->(∀p∈ps.take j,kLt p.2 rb.2=false) ->
   (∀(p:Addr×List Int)(H':Hp)(s':Shared),p∈ps->(∀p'∈ps,kLt p'.2 p.2=false)->DV H H'->Inv X pins σ H' s'->R (.ok (.ret (.ref p.1))) s') ->
   codeAny (model X.prog X.w) X.A (.builtin "min.loop" ⟨[.ref IT,.ref q,.ref S],[("default",.none)]⟩) R s:=by
 have hname:(toString "min"++toString ".loop":String)="min.loop":=by decide
 intro n;induction n with
 |zero=>
  intro j s H rb pb c hn hj I hl hp fI fS hit hS hrb hpb hbest hR;obtain rfl:j=ps.length:=by lia
  obtain⟨_,its,nl,rl,el,gl⟩:=I.HW hl;have ei:=dh _ rl;have W:=Walks.list (prog:=X.prog) (w:=X.w) (A:=X.A.in1) (I.ok.hd hc) IT l hlI its.toArray;have hsz:its.toArray.size=ps.length:=by rw[An,ei,zY]
  refine codeAny_builtin PySem.F.entry_min_loop ?_;rw[Around.under_plainId PySem.F.plain_min_loop _];show wpAny _ X.A.in1 (seqItems? (.ref S) >>= _) _ _ _;refine Dd (wpAny_seqItems hS rfl ?_);show wpAny _ X.A.in1 (tryCatch (pyNext (.ref IT)) _ >>= _) _ _ _;refine Dd (wpAny_tryCatch (W.done _ _ _ ⟨by rw[hsz];exact hit,⟨_,gl,rfl,_,rfl⟩⟩ fun h' tk' hk'=>?_));have I1:Inv X pins σ H {s with heap:=h',toks:=tk'}:=fI.turn I fun b o hb e=>hk' b o (by simpa using hb) e;have hS':=hk' S _ (by simpa using DC hIS) hS;have s1:=Heap.SameBut.update h' S (Obj.mapSeq fun _=>(#[]:Array Value));show wpAny _ X.A.in1 (updateSeq S (fun _=>#[]) >>= _) _ _ _;refine Dd ?_;refine wpAny_updateSeq hS' rfl (Dd (wpAny_letGo (De ?_)));exact hR rb H _ hrb (fun p hp'=>hbest p (by rw[AL];exact hp')) (DV.refl H) (fS.turn I1 fun b o hb e=>by rw[s1.2 b hb];exact e)
 |succ n ih=>
  intro j s H rb pb c hn hj I hl hp fI fS hit hS hrb hpb hbest hR;have hlt:j<ps.length:=by lia
  obtain⟨_,its,nl,rl,el,gl⟩:=I.HW hl;have ei:=dh _ rl;have W:=Walks.list (prog:=X.prog) (w:=X.w) (A:=X.A.in1) (I.ok.hd hc) IT l hlI its.toArray;have hsz:its.toArray.size=ps.length:=by rw[An,ei,zY]
  refine codeAny_builtin PySem.F.entry_min_loop ?_;rw[Around.under_plainId PySem.F.plain_min_loop _];show wpAny _ X.A.in1 (seqItems? (.ref S) >>= _) _ _ _;refine Dd (wpAny_seqItems hS rfl ?_);show wpAny _ X.A.in1 (tryCatch (pyNext (.ref IT)) _ >>= _) _ _ _;refine Dd (wpAny_tryCatch (W.item j _ _ _ (by rw[hsz];exact hlt) ⟨hit,⟨_,gl,rfl,_,rfl⟩⟩ fun v h' tk' hP hst' hk'=>?_));have hv:v=.ref (ps[j]).1:=by
   rw[Bi,ei,Aj,Aa hlt] at hP;exact(Dq hP).symm
  subst hv;have hmem:ps[j]∈ps:=AI hlt;obtain⟨oI,hoI,hoc,hod⟩:=id hst'.1;have I1:Inv X pins σ H {s with heap:=h',toks:=tk'}:=fI.turn I fun b o hb e=>hk' b o (by simpa using hb) e;have hS':=hk' S _ (by simpa using DC hIS) hS
  have IP:=I1.pinned (fp:=[IT,S]) (fun b hb=>by
   rcases Ag.mp hb with rfl|hb
   ·exact fI
   ·rw[AA.mp hb];exact fS) (fun b hb=>by
   rcases Ag.mp hb with rfl|hb
   ·exact⟨oI,hoI,fun v e=>by rw[hod] at e;cases e⟩
   ·rw[AA.mp hb]; exact⟨_,hS',fun v e=>by cases e⟩)
  show wpAny _ X.A.in1 (tryCatch (holding [_] (call (.ref q) [_])) _ >>= _) _ _ _;refine Dd (wpAny_tryCatch (Dm (Dl (hq _ _ σ H (ps[j]).1 (ps[j]).2 IP (hp _ hmem)) (fun x s2 he=>?_) fun _ _ hF=>hF.elim)));obtain⟨_,_,I2,r2,p2,rfl,hp2,rfl⟩:=he;cases r2;have pin:∀b o,b∈[IT,S]->h'.get? b=some o->s2.heap.get? b=some o/\upd H p2 (.tup [.int (ps[j]).2.length,.ref (ps[j]).1]) b=none:=fun b o hb e=>by
   have m:(b,o)∈cN [IT,S] h':=AX.mpr ⟨b,hb,by rw[e];rfl⟩;have:=I2.pin (b,o) (Ae _ (Ae _ m));exact⟨this.1,this.2.1⟩
  obtain⟨gI2,nI2⟩:=pin IT oI (.head _) hoI;obtain⟨gS2,nS2⟩:=pin S _ (.tail _ (.head _)) hS';have fI2:Er X pins (upd H p2 (.tup [.int (ps[j]).2.length,.ref (ps[j]).1])) IT:=⟨nI2,fI.2⟩
  have fS2:Er X pins (upd H p2 (.tup [.int (ps[j]).2.length,.ref (ps[j]).1])) S:=⟨nS2,fS.2⟩
  have I3:=I2.Ek;have SM:DV H (upd H p2 (.tup [.int (ps[j]).2.length,.ref (ps[j]).1])):=af hp2 _;show wpAny _ X.A.in1 (tryCatch (holding [_,.ref p2] (richCompare .Lt (.ref p2) (.ref pb) >>= _)) _ >>= _) _ _ _;refine Dd (wpAny_tryCatch (Dm (Dd (lP I3 (ns:=(ps[j]).2) (ms:=rb.2) DR (SM _ _ hpb) (SM _ _ (hp _ hmem)) (SM _ _ (hp _ hrb)) (by show X.A.units+1+32<cLine;lia) ?_))));refine Dd (Dm (wpAny_truthy_bool ?_));refine Dd (wpAny_letGo (De ?_));have htake:ps.take (j+1)=ps.take j++[ps[j]]:=by rw[Az,Aa hlt];rfl
  by_cases hb':kLt (ps[j]).2 rb.2=true
  ·have s1:=Heap.SameBut.update s2.heap S (Obj.mapSeq fun _=>#[.ref (ps[j]).1,.ref p2]);obtain⟨c2,hc2⟩:∃c2,(s2.heap.update S (Obj.mapSeq fun _=>#[.ref (ps[j]).1,.ref p2])).get? S=some (seqObj "list" #[.ref (ps[j]).1,.ref p2] c2):=⟨_,get?_update_seq gS2 fun _=>#[.ref (ps[j]).1,.ref p2]⟩
   simp only[hb',if_true];refine Dd ?_;refine wpAny_updateSeq gS2 rfl (Dd (wpAny_letGo ?_));rw[hname]
   refine De ⟨plainId_quiet PySem.F.plain_min_loop _,ih (j+1) _ _ (ps[j]) p2 c2 (by lia) hlt (fS2.turn (t':=s2.toks) I3 fun b o hb e=>by rw[s1.2 b hb]; exact e) (SM _ _ hl) (fun p h=>SM _ _ (hp p h)) fI2 fS2 ⟨oI,(s1.2 IT hIS).trans gI2,hoc,hod⟩ hc2 hmem DR (fun p h=>?_)
    fun p H' s' h1 h2 h3 h4=>hR p H' s' h1 h2 (SM.trans h3) h4⟩
   rw[htake] at h;rcases Ai.mp h with h|h
   ·have h0:=hbest p h;cases e:kLt p.2 (ps[j]).2 with
    |false=>rfl
    |true=>rw[gU e hb'] at h0;cases h0
   ·rw[AA.mp h];unfold kLt bC;rw[Di rfl];exact Ee _
  ·have hb'':kLt (ps[j]).2 rb.2=false:=by simpa using hb'
   simp only[hb'',BC,if_false];refine Dd (wpAny_letGo ?_);rw[hname]
   refine De ⟨plainId_quiet PySem.F.plain_min_loop _,ih (j+1) s2 _ rb pb c (by lia) hlt I3 (SM _ _ hl) (fun p h=>SM _ _ (hp p h)) fI2 fS2 ⟨oI,gI2,hoc,hod⟩ gS2 hrb (SM _ _ hpb) (fun p h=>?_)
    fun p H' s' h1 h2 h3 h4=>hR p H' s' h1 h2 (SM.trans h3) h4⟩
   rw[htake] at h;rcases Ai.mp h with h|h
   ·exact hbest p h
   ·rw[AA.mp h];exact hb''
end
theorem oz(a v d:Value):argsOk "min" ⟨[a],[("key",v),("default",d)]⟩:=by unfold argsOk;kernel_rfl
def qH (q:Addr):List V->List V->Hp->VK->Prop:=fun xs zs H Q=>∃(l:Addr)(ps:List (Addr×List Int)),xs=[.ref l]/\zs=[.ref q,.non]/\H l=some (.lst (ps.map fun p=>V.ref p.1))/\(∀p∈ps,H p.1=some (.lst (p.2.map V.int))) /\
 (ps=[]->Q .non H)/\∀(p:Addr×List Int)(H':Hp),p∈ps->(∀p'∈ps,kLt p'.2 p.2=false)->DV H H'->Q (.ref p.1) H'
theorem md{X:Cx}{q:Addr}(hq:lN X q)(hc:X.calm=true)(hu:X.A.units+64<cLine):sM X (.builtin "min") ["key","default"] (qH q):=by
 intro pins s σ H xs zs us ws Q I r rz h;obtain⟨l,ps,rfl,rfl,hl,hp,h0,h1⟩:=h;obtain⟨u,rfl,rx⟩:=dX r;cases rx;obtain⟨rfl⟩:ws=[.ref q,.none]:=by
  cases rz with
  |cons a b=>cases b with
   |cons c d=>cases d;cases a;cases c;rfl
 have hname:(toString "min"++toString ".loop":String)="min.loop":=by decide
 show wpAny (model X.prog X.w) X.A (call (.builtin "min") [.ref l] [("key",.ref q),("default",.none)]) _ _ s;obtain⟨_,its,nl,rl,el,gl⟩:=I.HW hl;have ei:=dh _ rl;have hll:l<s.heap.objs.size:=Dp gl;have hls:s.heap.IsList l its.toArray:=⟨_,gl,rfl,_,rfl⟩
 refine kmk_tree PySem.F.kind_min PySem.F.plain_min PySem.F.entry_min (oz _ _ _) ?_;show wpAny _ X.A.in1 (Builtin.Builtins.bindParams "min" ["key","default"] 0 ⟨[],[("key",.ref q),("default",.none)]⟩ >>= _) _ _ s;refine Dd (wpAny_of_eq (show Builtin.Builtins.bindParams "min" ["key","default"] 0 ⟨[],[("key",.ref q),("default",.none)]⟩=pure [some (.ref q),some .none] from rfl) ?_);refine Dd (De ?_);refine Dd (wpAny_pyIter_list hls ?_);refine Dd (wpAny_newList ?_ (Ah _));rw[hname];have hS:(s.heap.push {cls:=.type "list_iterator",data:=.fields #[.ref l,.int 0 0]}).objs.size=s.heap.objs.size+1:=size_push' ..;have hlI:l≠s.heap.objs.size:=Ac hll;have hIS:s.heap.objs.size≠(s.heap.push {cls:=.type "list_iterator",data:=.fields #[.ref l,.int 0 0]}).objs.size:=by rw[hS];exact Ac (AY _)
 refine De ⟨plainId_quiet PySem.F.plain_min_loop _,?_⟩;have K0:∀b o,s.heap.get? b=some o->((s.heap.push {cls:=.type "list_iterator",data:=.fields #[.ref l,.int 0 0]}).push (seqObj "list" #[] 0)).get? b=some o:=fun b x e=>DE _ (DE _ e);have gI:((s.heap.push {cls:=.type "list_iterator",data:=.fields #[.ref l,.int 0 0]}).push (seqObj "list" #[] 0)).get? s.heap.objs.size=some {cls:=.type "list_iterator",data:=.fields #[.ref l,.int 0 0]}:=
  DE _ (DG _ rfl)
 have gS:((s.heap.push {cls:=.type "list_iterator",data:=.fields #[.ref l,.int 0 0]}).push (seqObj "list" #[] 0)).get? (s.heap.push {cls:=.type "list_iterator",data:=.fields #[.ref l,.int 0 0]}).objs.size=some (seqObj "list" #[] 0):=DG _ rfl;have fI:Er X pins H s.heap.objs.size:=I.Hw _ (zX _);have fS:Er X pins H (s.heap.push {cls:=.type "list_iterator",data:=.fields #[.ref l,.int 0 0]}).objs.size:=I.Hw _ (by rw[hS];exact Bb _);have I0:Inv X pins σ H {s with heap:=(s.heap.push {cls:=.type "list_iterator",data:=.fields #[.ref l,.int 0 0]}).push (seqObj "list" #[] 0)}:=I.kept (t':=s.toks) K0;generalize (s.heap.push {cls:=.type "list_iterator",data:=.fields #[.ref l,.int 0 0]}).objs.size=S at *;generalize (s.heap.push {cls:=.type "list_iterator",data:=.fields #[.ref l,.int 0 0]}).push (seqObj "list" #[] 0)=hh at *;have W:=Walks.list (prog:=X.prog) (w:=X.w) (A:=X.A.in1) (I.ok.hd hc) s.heap.objs.size l hlI its.toArray;have hsz:its.toArray.size=ps.length:=by rw[An,ei,zY]
 have hlH:hh.IsList l its.toArray:=⟨_,K0 _ _ gl,rfl,_,rfl⟩
 refine codeAny_builtin PySem.F.entry_min_loop ?_;rw[Around.under_plainId PySem.F.plain_min_loop _];show wpAny _ X.A.in1 (seqItems? (.ref _) >>= _) _ _ _;refine Dd (wpAny_seqItems gS rfl ?_);show wpAny _ X.A.in1 (tryCatch (pyNext (.ref s.heap.objs.size)) _ >>= _) _ _ _;cases ps with
 |nil=>
  refine Dd (wpAny_tryCatch (W.done _ _ _ ⟨by rw[hsz];exact⟨_,gI,rfl,rfl⟩,hlH⟩ fun h' tk' hk'=>?_));have I1:Inv X pins σ H {s with heap:=h',toks:=tk'}:=fI.turn (s:={s with heap:=hh}) I0 fun b o hb e=>hk' b o (by simpa using hb) e;refine Dd (DN (De ?_));exact⟨.non,H,I1,rfl,h0 rfl⟩
 |cons p0 pr=>
  refine Dd (wpAny_tryCatch (W.item 0 _ _ _ (by rw[hsz];exact BY _) ⟨⟨_,gI,rfl,rfl⟩,hlH⟩ fun v h' tk' hP hst' hk'=>?_));have hv:v=.ref p0.1:=by
   rw[Bi,ei] at hP;exact(Dq hP).symm
  subst hv;obtain⟨oI,hoI,hoc,hod⟩:=id hst'.1;have I1:Inv X pins σ H {s with heap:=h',toks:=tk'}:=fI.turn (s:={s with heap:=hh}) I0 fun b o hb e=>hk' b o (by simpa using hb) e;have hS':=hk' S _ (by simpa using DC hIS) gS
  have IP:=I1.pinned (fp:=[s.heap.objs.size,S]) (fun b hb=>by
   rcases Ag.mp hb with rfl|hb
   ·exact fI
   ·rw[AA.mp hb];exact fS) (fun b hb=>by
   rcases Ag.mp hb with rfl|hb
   ·exact⟨oI,hoI,fun v e=>by rw[hod] at e;cases e⟩
   ·rw[AA.mp hb]; exact⟨_,hS',fun v e=>by cases e⟩)
  show wpAny _ X.A.in1 (tryCatch (holding [_] (call (.ref q) [_])) _ >>= _) _ _ _;refine Dd (wpAny_tryCatch (Dm (Dl (hq _ _ σ H p0.1 p0.2 IP (hp _ (.head _))) (fun x s2 he=>?_) fun _ _ hF=>hF.elim)));obtain⟨_,_,I2,r2,p2,rfl,hp2,rfl⟩:=he;cases r2;have pin:∀b o,b∈[s.heap.objs.size,S]->h'.get? b=some o->s2.heap.get? b=some o/\upd H p2 (.tup [.int p0.2.length,.ref p0.1]) b=none:=fun b o hb e=>by
   have m:(b,o)∈cN [s.heap.objs.size,S] h':=AX.mpr ⟨b,hb,by rw[e];rfl⟩;have:=I2.pin (b,o) (Ae _ (Ae _ m));exact⟨this.1,this.2.1⟩
  obtain⟨gI2,nI2⟩:=pin _ oI (.head _) hoI;obtain⟨gS2,nS2⟩:=pin S _ (.tail _ (.head _)) hS';have fI2:Er X pins (upd H p2 (.tup [.int p0.2.length,.ref p0.1])) s.heap.objs.size:=⟨nI2,fI.2⟩
  have fS2:Er X pins (upd H p2 (.tup [.int p0.2.length,.ref p0.1])) S:=⟨nS2,fS.2⟩
  have I3:=I2.Ek;have SM:DV H (upd H p2 (.tup [.int p0.2.length,.ref p0.1])):=af hp2 _;have s1:=Heap.SameBut.update s2.heap S (Obj.mapSeq fun _=>#[.ref p0.1,.ref p2]);obtain⟨c2,hc2⟩:∃c2,(s2.heap.update S (Obj.mapSeq fun _=>#[.ref p0.1,.ref p2])).get? S=some (seqObj "list" #[.ref p0.1,.ref p2] c2):=⟨_,get?_update_seq gS2 fun _=>#[.ref p0.1,.ref p2]⟩
  show wpAny _ X.A.in1 (updateSeq S (fun _=>#[.ref p0.1,.ref p2]) >>= _) _ _ _;refine Dd ?_;refine wpAny_updateSeq gS2 rfl ?_;rw[hname]
  refine De ⟨plainId_quiet PySem.F.plain_min_loop _,iM (pins:=pins) (σ:=σ) hq hc hu hIS hlI _ 1 _ _ p0 p2 c2 rfl (by simp) (fS2.turn (t':=s2.toks) I3 fun b o hb e=>by rw[s1.2 b hb]; exact e) (SM _ _ hl) (fun p h=>SM _ _ (hp p h)) fI2 fS2 ⟨oI,(s1.2 _ hIS).trans gI2,hoc,hod⟩ hc2 (.head _) DR (fun p h=>?_)
   fun p H' s' a1 a2 a3 a4=>⟨.ref p.1,H',a4,rfl,h1 p H' a1 a2 (SM.trans a3)⟩⟩
  have e:p=p0:=by simpa using h
  rw[e];unfold kLt bC;rw[Di rfl];exact Ee _
end L2
namespace L2
open PySem PySem.Spec PyProof.Rows
section
variable {X:Cx}
def tV (K:W.Frag):List V->Hp->VK->Prop:=fun xs H Q=>∃(p:Addr)(ns:List Int),xs=[.ref p]/\SqL K H p (ns.map V.int)/\ns≠[]/\∀m,m∈ns->(∀n∈ns,m<=n)->Q (.int m) H
theorem lh(hc:X.calm=true):dJ X (.builtin "min") (tV X.K):=by
 intro pins s σ H xs us Q I r h;obtain⟨p,ns,rfl,hq,hne,q⟩:=h;obtain⟨u,rfl,rx⟩:=dX r;cases rx;obtain⟨its,rv,pl,hz⟩:=I.list hq;have hl:=rv.length;rw[zY] at hl;have hh:X.A.in1.handled=none:=I.ok.hd hc;obtain⟨ob,ho,hcl,n0,hd⟩:=id pl.isList;have hp:p<s.heap.objs.size:=Dp ho;have it:s.heap.IsList p its.toArray:=pl.isList;refine call_min_walk (wpAny_pyIter_list it ⟨s.heap.objs.size,_,_,_,_,_,fun i j=>decide (ns.getD i 0<ns.getD j 0),rfl,Walks.list hh s.heap.objs.size p (Ac hp) _,⟨⟨_,DG _ rfl,rfl,rfl⟩,it.push _⟩,?_,?_,CmpOf.ints_lt (fun i=>ns.getD i 0) fun i v hv=>Fp rv (by rw[Bi] at hv;exact hv),fun v h' tk hv hk=>?_⟩)
 ·intro b hb;show b<(s.heap.push _).objs.size;rw[DM];simp only[Ag,AN,or_false] at hb;rcases hb with e|e
  ·rw[e];exact AY _
  ·rw[e];exact Bc hp
 ·rw[An];cases ns with
  |nil=>exact absurd rfl hne
  |cons _ _=>rw[<- hl];exact BY _
 ·obtain⟨t,rfl⟩:=Fp rv (by rw[Bi] at hv;exact hv);obtain⟨h1,h2⟩:=iK (fun i=>ns.getD i 0) (its.toArray.size-1);have hs:its.toArray.size=ns.length:=by rw[An,hl]
  have pos:0<ns.length:=by
   cases ns with
   |nil=>exact absurd rfl hne
   |cons _ _=>exact BY _
  refine⟨.int _,H,I.FC hk,⟨_,rfl⟩,q _ ?_ fun n hn=>?_⟩
  ·have hi:argBest (fun i j=>decide (ns.getD i 0<ns.getD j 0)) (its.toArray.size-1)<ns.length:=by lia
   rw[Aw,Aa hi];exact AI hi
  ·obtain⟨j,hj,rfl⟩:=Bm.mp hn;have:=h2 j (by lia);rw[Aw (i:=j),Aa hj] at this;exact this
def tR (K:W.Frag):List V->Hp->VK->Prop:=fun xs H Q=>∃(p:Addr)(ns:List Int),xs=[.ref p]/\SqL K H p (ns.map V.int)/\Q (.int ns.sum) H
theorem gv(hc:X.calm=true):dJ X (.builtin "sum") (tR X.K):=by
 intro pins s σ H xs us Q I r h;obtain⟨p,ns,rfl,hq,q⟩:=h;obtain⟨u,rfl,rx⟩:=dX r;cases rx;obtain⟨its,rv,pl,hz⟩:=I.list hq;have hl:=rv.length;rw[zY] at hl;have hh:X.A.in1.handled=none:=I.ok.hd hc;obtain⟨ob,ho,hcl,n0,hd⟩:=id pl.isList;have hp:p<s.heap.objs.size:=Dp ho;have it:s.heap.IsList p its.toArray:=pl.isList;refine call_sum_walkAnyS (wpAny_pyIter_list it ⟨s.heap.objs.size,_,_,_,_,_,_,fun i=>ns.getD i 0,rfl,(Walks.list hh s.heap.objs.size p (Ac hp) _).toS,⟨⟨_,DG _ rfl,rfl,rfl⟩,it.push _⟩,?_,fun i v hv=>Fp rv (by rw[Bi] at hv;exact hv),fun s' t' hm=>?_⟩)
 ·intro b hb;show b<(s.heap.push _).objs.size;rw[DM];simp only[Ag,AN,or_false] at hb;rcases hb with e|e
  ·rw[e];exact AY _
  ·rw[e];exact Bc hp
 ·have e:preSum (fun i=>ns.getD i 0) its.toArray.size=ns.sum:=by
   rw[ix ns _ (by rw[An];lia),Av (by rw[An];lia)]
  rw[e];obtain⟨hp1,g1,d1,o1,t1⟩:=hm;obtain⟨h',g',d',tk',os'⟩:=s';have eg:g'=s.gens:=g1;have ed:d'=s.drawn:=d1;have eo:os'=s.os:=o1;subst eg ed eo;exact⟨.int _,H,I.FC (o:=_) hp1,⟨_,rfl⟩,q⟩
end
theorem gk(n:Nat):sliceRange ((n:Int)-1) (-1) (-1)=(List.range n).map fun k=>n-1-k:=by
 unfold sliceRange;simp only[show ¬((-1:Int)>0) by decide,if_false];have e:(if (n:Int)-1 > -1 then ((n:Int)-1 - -1 - -1-1)/(- -1) else 0).toNat=n:=by
  split
  ·have:((n:Int)-1 - -1 - -1-1)/(- -1)=n:=by
    rw[show(- -1:Int)=1 by decide,Int.ediv_one];lia
   rw[this];rfl
  ·have:n=0:=by lia
   subst this;rfl
 rw[e];apply Cz;intro k hk;have:=Bo.mp hk
 lia
theorem eh{α β:Type}{f g:α->Option β}:∀{l:List α},(∀x∈l,f x=g x)->l.filterMap f=l.filterMap g
 |[],_=>rfl
 |a::l,h=>by rw[BU,BU,h a (.head _),eh fun x hx=>h x (.tail _ hx)]
theorem jC{α:Type}(xs:List α):((List.range xs.length).map fun k=>xs.length-1-k).filterMap (fun j=>xs[j]?)=xs.reverse:=by
 have h:=gL xs.reverse 0 xs.length (by simp);rw[BX,Av (by simp)] at h;rw[<- h,CF,CF];apply eh;intro k hk;have hk':=Bo.mp hk;show xs[xs.length-1-k]?=xs.reverse[0+k]?;rw[BQ,CG hk']
section
variable {X:Cx}
def RvR (X:Cx)(r:V->Hp->VK->Prop):Prop:=
 ∀(pins:List (Addr×Obj))(s:Shared)(σ:St)(H:Hp)(x:V)(v:Value)(t:Tok)(sl:Addr)(Q:VK),Inv X pins σ H s->RelV x v->s.heap.IsSliceOf sl .none .none (.int (-1) t)->r x H Q ->
  ∃T id,typeLookup (.type T) "__getitem__"=pure (some (.builtin id))/\s.TypeIs v T/\wpAny (model X.prog X.w) X.A (getItem v (.ref sl)) (EP X pins σ Q) X.xe s
def tRv (r:V->Hp->VK->Prop)(te ts:TE):TE:=fun σ H Q=>te σ H fun x H1=>ts σ H1 fun y H2=>y=.int (-1)/\r x H2 Q
theorem ju{e st:Expr}{te ts:TE}{pos p2:Pos}{r:V->Hp->VK->Prop}(hr:RvR X r)(he:PE X e te)(hst:PE X st ts):PE X (.Subscript e (.Slice none none (some st) p2) pos) (tRv r te ts):=by
 intro pins s σ H Q I h;refine Subscript_ (thn (he pins s σ H _ I h) fun v s1 hq83=>?_);obtain⟨x,H1,I1,r1,q1⟩:=hq83;refine wpAny_Slice ?_;rw[evalPart_none];refine De (De ?_);rw[evalPart_some];refine thn (hst pins s1 σ H1 _ I1 q1) fun vs s3 hq84=>?_;obtain⟨y,H3,I3,ry,ey,q3⟩:=hq84;subst ey;obtain⟨t,rfl⟩:=ry;have I4:Inv X pins σ H3 {s3 with heap:=s3.heap.push {cls:=.type "slice",data:=.fields #[.none,.none,.int (-1) t]}}:=I3.kept (t':=s3.toks) fun b ob q=>DE _ q;obtain⟨T,id,hT,ht,hg⟩:=hr pins {s3 with heap:=s3.heap.push {cls:=.type "slice",data:=.fields #[.none,.none,.int (-1) t]}} σ H3 x v t s3.heap.objs.size Q I4 r1 (Heap.IsSliceOf.new ..) q3;show wpAny (model X.prog X.w) X.A (subscriptTail e (.Slice none none (some st) p2) v (.ref s3.heap.objs.size)) (EP X pins σ Q) X.xe {s3 with heap:=s3.heap.push {cls:=.type "slice",data:=.fields #[.none,.none,.int (-1) t]}};exact tail_any (ops:=[v,.ref s3.heap.objs.size]) ht hT hg (by with_unfolding_all rfl)
def rRvL (K:W.Frag):V->Hp->VK->Prop:=fun x H Q=>∃a xs,x=.ref a/\SqL K H a xs/\∀p,H p=none->Q (.ref p) (upd H p (.lst xs.reverse))
theorem Hf:RvR X (rRvL X.K):=by
 intro pins s σ H x v t sl Q I rx hs h;obtain⟨a,xs,rfl,hx,q⟩:=h;cases rx;obtain⟨its,r,ht,hz⟩:=I.list hx;have hlen:=r.length;refine⟨"list",_,slot_list_getitem.lookup,ht.isList.typeIs,?_⟩;refine wpAny_getItem_list_slice ht.isList hs .none .none (.int (-1) t) (by decide) ?_ (by rw[An]<;>lia);have e:slicePick its.toArray none none (some (-1))=its.reverse.toArray:=by
  unfold slicePick;show((sliceRange ((its.toArray.size:Int)-1) (-1) (-1)).filterMap (its.toArray[·]?)).toArray=_;rw[gk,An,<- jC its]
  congr 1
  apply eh;intro k _;exact Bi ..
 rw[e];refine⟨.ref s.heap.objs.size,_,I.laid (t':=s.toks) (o:=.lst xs.reverse) (fun b ob q=>DE _ q) (zX _) ?_,rfl,q _ (I.hok.fresh (zX _))⟩;exact⟨by rw[AJ];exact hz,its.reverse,0,r.reverse,DG _ rfl⟩
def Txt.rev(z:Str):Str:=⟨z.cps.toList.reverse.toArray⟩
def KA:V->Hp->VK->Prop:=fun x H Q=>∃z,x=.str z/\z.length<=sizeLine/\Q (.str (Txt.rev z)) H
theorem Il:RvR X KA:=by
 intro pins s σ H x v t sl Q I rx hs q;obtain⟨z,rfl,hz,q⟩:=q;obtain⟨t0,rfl⟩:=rx;refine⟨"str",_,PySem.F.slot_str_getitem.lookup,typeIs_str _ _ _,?_⟩;refine wpAny_getItem_str_slice (l:=none) (u:=none) (st:=some (-1,t)) hs rfl ?_;have e:sliceMade z t0 none none (some (-1,t))=.str (Txt.rev z):=by
  unfold sliceMade;rw[Dh (by simp)]
  congr 1
  unfold Txt.rev slicePicked;show Str.mk ((sliceRange ((z.length:Int)-1) (-1) (-1)).filterMap (z.cps[·]?)).toArray=_;rw[gk]
  congr 1
  rw[show z.length=z.cps.toList.length from rfl,<- jC z.cps.toList]
  congr 1
  apply eh;intro k _;exact(Ao ..).symm
 rw[e];refine⟨?_,⟨.str (Txt.rev z),H,I.tok _,⟨_,rfl⟩,q⟩⟩;show(Txt.rev z).cps.size<=sizeLine;unfold Txt.rev;rw[An,AJ];exact hz
end
def Itd (lo:Int)(n:Nat):It:=⟨fun i _=>i<n,fun i H x H'=>H'=H/\x=.int (lo-i),fun i _=>n<=i⟩
theorem kj{P:Program}{w:World}{K:PySem.W.Frag}{tg:Expr}(it:Addr)(lo:Int)(n:Nat):Turn P w K tg (Itd lo n) [it] it (fun i h=>IsRangeIter h it (lo+(i:Nat)*(-1)) ((n:Int)-(i:Nat)) (-1)) where
 mem:=by simp
 obj:=fun i h st b hb=>by
  have e:b=it:=by simpa using hb
  subst e
  exact⟨_,st,fun v z=>by
   have z':Data.fields _=Data.cell v:=z
   cases z'⟩
 keep:=fun i h h' st k=>k it (by simp) _ st
 item:=by
  intro X hP hw hK hc i pins s σ H E I hf st hg;subst hP hw hK;obtain⟨f0,f1,f2,f3,f4,f5⟩:=hf it (by simp);have W:=Walks.range (prog:=X.prog) (w:=X.w) (I.ok.hd hc) it lo (-1) n;refine W.item i s _ _ hg st fun v h' tk hv st' kk=>?_;obtain⟨t,rfl⟩:=hv;have I1:Inv X pins σ H {s with heap:=h',toks:=tk}:=I.turned (fun b o hb e=>kk b o (by simpa using hb) e) f0 f1 f3 f4 f5;refine⟨_,rfl,jV (s:={s with heap:=h',toks:=tk}) (n:="range_iterator") st' rfl rfl (by decide) ⟨.int (lo-i),H,I1,⟨t,?_⟩,⟨rfl,rfl⟩,st',fun b hb=>(hf b hb).1⟩⟩;have e:lo+(i:Int) * -1=lo-i:=by lia
  rw[e]
 done:=by
  intro X hP hw hK hc i pins s σ H E I hf st hg;subst hP hw hK;obtain⟨f0,f1,f2,f3,f4,f5⟩:=hf it (by simp);exact wpAny_pyNext_range_end (I.ok.hd hc) st (by have:n<=i:=hg;lia) fun h' eb=>⟨rfl,I.turned (t':=s.toks) (fun b o hb e=>eb b o hb e) f0 f1 f3 f4 f5⟩
 self:=fun _ _ _ _ _ st h=>wpAny_pyIter_rangeiter st h
theorem gJ(a b:Int):Builtin.Range.rangeSize a b (-1)=((a-b).toNat:Nat):=by
 unfold Builtin.Range.rangeSize;rw[Dh (by decide),show(- (-1:Int))=1 by decide];split
 ·rw[Int.ediv_one];lia
 ·lia
theorem jG{a b:Int}(h1:-(2^62)<=a)(h2:a<2^62)(h3:-(2^62)<=b)(h4:b<2^62):Builtin.Range.small a b (-1)=true:=by
 unfold Builtin.Range.small;rw[gJ];simp only[Builtin.Range.rangeFitsLong,AK,Bool.or_eq_true,decide_eq_true_eq,DP,show ¬((-1:Int)>0) by decide,if_false]
 lia
section
variable {X:Cx}{tg:Expr}
theorem qy{pins:List (Addr×Obj)}{σ:St}{H:Hp}{s:Shared}{R:It->Hp->Prop}{E:Value->Shared->Prop}{lo hi:Int}{t u v:Tok}{tk:Nat}(I:Inv X pins σ H s)(h1:-(2^62)<=lo)(h2:lo<2^62)(h3:-(2^62)<=hi)(h4:hi<2^62)
  (q:R (Itd lo (lo-hi).toNat) H):wpAny (model X.prog X.w) X.A (pyIter (.ref s.heap.objs.size)) (PIE X pins σ tg R) E {s with heap:=s.heap.push {cls:=.type "range",data:=.fields #[.int lo t,.int hi u,.int (-1) v]},toks:=tk}:=by
 refine wpAny_pyIter_range (IsRange.new ..) (jG h1 h2 h3 h4) ?_;have I1:Inv X pins σ H {s with heap:=s.heap.push {cls:=.type "range",data:=.fields #[.int lo t,.int hi u,.int (-1) v]},toks:=tk}:=I.kept fun b o e=>DE _ e
 refine⟨(s.heap.push { cls:=.type "range",data:=.fields #[.int lo t,.int hi u,.int (-1) v] }).objs.size,[(s.heap.push { cls:=.type "range",data:=.fields #[.int lo t,.int hi u,.int (-1) v] }).objs.size],_,_,H,rfl,
  I1.kept (t':=tk) fun b o e=>DE _ e,kj _ lo (lo-hi).toNat,?_,fun b hb=>?_,q⟩
 ·have e1:lo+((0:Nat):Int) * -1=lo:=by simp
  have e2:(((lo-hi).toNat:Nat):Int)-((0:Nat):Int)=Builtin.Range.rangeSize lo hi (-1):=by rw[gJ];lia
  show IsRangeIter _ _ (lo+((0:Nat):Int) * -1) ((((lo-hi).toNat:Nat):Int)-((0:Nat):Int)) (-1);rw[e1,e2];exact DG _ rfl
 ·have e:b=(s.heap.push {cls:=.type "range",data:=.fields #[.int lo t,.int hi u,.int (-1) v]}).objs.size:=by simpa using hb
  subst e;exact I1.HX (zX _) (I1.hok.fresh (zX _))
def tW (ta:TA):TI:=fun σ H R=>ta σ H fun vs H1=>∃i j:Int,vs=[.int i,.int j,.int (-1)]/\(-(2^62)<=i/\i<2^62/\-(2^62)<=j/\j<2^62)/\R (Itd i (i-j).toNat) H1
theorem kG{a b c:Expr}{ta:TA}{p pos:Pos}(hg:Gl X "range")(hm:X.mg "range"=none)(ha:PA X [a,b,c] ta)(hs:starEach [a,b,c] X.env=(false,eval a X.env)::starEach [b,c] X.env:=by rfl)(hs2:(backTo pos (starEach [b,c] X.env)).any (·.1)=false:=by rfl) :
  PI X tg (.Call (.Name "range" p) [a,b,c] [] pos) (tW ta):=by
 intro pins s σ H R I h;refine Call_ (cB I hg hm boot_range (PyProof.Rows.callWith_type1 (thn (ha pos pins s σ H _ I h) fun us s1 hq85=>?_) hs hs2));obtain⟨vs,H1,I1,r1,q1⟩:=hq85;obtain⟨i,j,e,⟨q1,q2,q3,q4⟩,q⟩:=q1;subst e;cases r1 with
 |cons r rr=>
  cases rr with
  |cons r' rr=>
   cases rr with
   |cons r'' rr=>
    cases rr;obtain⟨t,rfl⟩:=r;obtain⟨t',rfl⟩:=r';obtain⟨t'',rfl⟩:=r'';exact call_range_3 (by decide) (qy I1 q1 q2 q3 q4 q) (Or.inl (PyProof.noPylong_small (by lia)))
end
theorem kn{X:Cx}{o e:Expr}{es:List Expr}{to:TE}{t:TA}{name:Str}{apos cpos:Pos}{T id:String}{r:V->List V->Hp->VK->Prop}(K':W.Frag)(hK:X.K=K')(pa:PlainAttrs T)(slot:Slot T name id)(hty:typeOf (.builtin id)=pure (.type "method_descriptor"))(hm:MtR X id r)(ho:PE X o to)(ha:PA X (e::es) t)
  (hbase:attributeBase o name X.env (eval o X.env)=eval o X.env:=by rfl)
  (hfew:((backTo cpos (starEach (e::es) X.env)).all (fun x=>!x.1) && (backToKw cpos (keywordEach [] X.env)).all (fun x=>x.1.isSome)
   && decide ((e::es).length+([]:List Keyword).length+(if ([]:List Keyword).isEmpty then 0 else 1) < 30))=true:=by rfl)
  (hline:(apos.endLine==cpos.line)=true:=by rfl) (hs:starEach (e::es) X.env=(false,eval e X.env)::starEach es X.env:=by rfl) (hplain:(backTo cpos (starEach es X.env)).any (·.1)=false:=by rfl) :
  PE X (.Call (.Attribute o name apos) (e::es) [] cpos) (tBM K' T r to t):=by
 subst hK;exact mV pa slot hty hm ho ha hbase hfew hline hs hplain
theorem eQ{X:Cx}{pos:Pos}{es:List Expr}{k:Nat}{t:TGs}{n:Nat}(K':W.Frag)(hK:X.K=K')(hc:X.calm=true)(h:PGs X es t)
  (hn:(assignEach es X.env).length=n:=by rfl)(hst:(assignEach es X.env).findIdx? (·.1)=none:=by rfl):PG X (.Tuple es k pos) (uU K' n t):=by
 subst hK;exact iw hc h hn hst
section
variable {X:Cx}
theorem Ih:∀{us:List Value}{zs:List Str},StrsAre us zs->Vals (zs.map V.str) us
 |_,_,.nil=>.nil
 |_,_,.cons x t h=>.cons ⟨t,rfl⟩ (Ih h)
theorem Fu:∀{l:List Str},sortedS l=true->l.Pairwise (fun a b=>¬b.cps.toList<a.cps.toList)
 |[],_=>.nil
 |x::r,h=>by
  have go:∀(p:Str)(l:List Str),risingS p l=true->(p::l).Pairwise (fun a b=>¬b.cps.toList<a.cps.toList):=by
   intro p l;induction l generalizing p with
   |nil=>intro _;exact List.pairwise_singleton _ _
   |cons y r ih=>
    intro h;have h':(!ltCps y.cps.toList p.cps.toList&&risingS y r)=true:=h;rw[AK,Bool.not_eq_true',ltCps_eq,decide_eq_false_iff_not] at h';have i:=ih y h'.2;refine CH.mpr ⟨fun b hb=>?_,i⟩;rcases Ag.mp hb with rfl|hb
    ·exact h'.1
    ·have:=(CH.mp i).1 b hb;intro hlt;have h1:p.cps.toList<=y.cps.toList:=h'.1;have h2:y.cps.toList<=b.cps.toList:=this;exact(List.le_trans h1 h2) hlt
  exact go x r h
theorem FR:∀{a b:List Str},a.Perm b->sortedS a=true->sortedS b=true->a=b:=by
 intro a b p ha hb;refine List.Perm.eq_of_pairwise (le:=fun a b=>¬b.cps.toList<a.cps.toList) (fun x y _ _ h1 h2=>?_) (Fu ha) (Fu hb) p;have e:x.cps.toList=y.cps.toList:=List.le_antisymm h1 h2;obtain⟨x⟩:=x;obtain⟨y⟩:=y;rw[Str.mk.injEq];exact Array.toList_inj.mp e
end
section
variable {prog:Program}{w:World}{A:Around}{E:Value->Shared->Prop}{s:Shared}
end
section
variable {X:Cx}{pins:List (Addr×Obj)}{σ:St}{H:Hp}{s:Shared}
end
section
variable {X:Cx}{tg:Expr}
end
structure Ent where
 k:Str
 t:Tok
 v:Value
 x:V
section
variable {X:Cx}{a b:Expr}{rest:List Expr}{pos:Pos}{ta tb:TE}
theorem nZ{X:Cx}{tg}{l:Expr}{tl:TE}(K':W.Frag)(hK:X.K=K')(hl:PE X l tl):PI X tg l (pZ K' tl):=by
 subst hK;exact aV hl
end
section
variable {X:Cx}
end
section
variable {prog:Program}{w:World}{A:Around}{R:Result->Shared->Prop}{s:Shared}{elt tg0 iter0 tg1 iter1:Expr}{ifs0 ifs1:List Expr}{scope:Scope}{pos:Pos}{it acc:Value}{env:Env}
end
section
variable {X:Cx}{scope:Scope}{ts cap:List Str}{js:List Nat}{elt tg0 iter0 tg1 iter1:Expr}{ifs0 ifs1:List Expr}{pos:Pos}
end
section
variable {X:Cx}
end
def CdO (c:Addr)(q:Str):HO:=.ext fun h=>∃o vs t,h.get? c=some o/\o.data=.fields vs/\vs[1]?=some (.str q t)
structure LamT(pos:Pos)(q:Str)(P:Addr)(H:Hp):Prop where
 ex:∃ps,H P=some (.tbl ps)/\TriplesOk ps.toList/\(codeAmong pos ps.toList=none\/∃c,codeAmong pos ps.toList=some (.ref c)/\H c=some (CdO c q))
structure LamK(K:W.Frag)(mg:Str->Option Value)(c P:Addr):Prop where
 hd:∀h:Heap,K.In h->W.CodeHd h c P
 bt:∀h:Heap,K.In h->h.BuiltinsAt mg P
 ne:mainGlobals≠P
def SmB (P:Addr)(H H':Hp):Prop:=∀b o,b≠P->H b=some o->H' b=some o
theorem SmB.trans{P:Addr}{H H1 H2:Hp}(a:SmB P H H1)(b:SmB P H1 H2):SmB P H H2:=fun c o n e=>b c o n (a c o n e)
theorem SmB.of{P:Addr}{H H':Hp}(a:DV H H'):SmB P H H':=fun c o _ e=>a c o e
section
variable {X:Cx}{pins:List (Addr×Obj)}{σ:St}{H:Hp}{s:Shared}{scope:Scope}{cap:List Str}{js:List Nat}{A:Around}{q y:Str}{f:Addr}{cd:Value}
end
end L2
namespace L2
open PySem PySem.Spec PyProof.Rows SeqAt
section
variable {X:Cx}{pins:List (Addr×Obj)}{σ:St}{H:Hp}
end
end L2
namespace L2
open PySem PySem.Spec PyProof.Rows
section
variable {X:Cx}{scope:Scope}{ts cap:List Str}{js:List Nat}{tg0 tg1 elt iter0 iter1:Expr}{ifs0 ifs1:List Expr}{pos:Pos}
end
def tMid (t:TS):TS:=fun D σ H=>∃M:St->Hp->Prop,t {D with nx:=M} σ H/\∀σ' H',M σ' H'->D.nx σ' H'
theorem eS{X:Cx}{st:Stmt}{t:TS}(h:PS X st t):PS X st (tMid t):=by
 intro pins s σ H D I hw;obtain⟨M,h1,h2⟩:=hw;refine Dl (h pins s σ H {D with nx:=M} I h1) (fun fl s' hs=>?_) fun _ _ e=>e;cases fl with
 |next=>
  obtain⟨σ',H',J,q⟩:=hs;exact⟨σ',H',J,h2 σ' H' q⟩
 |ret u=>exact hs
 |brk=>exact hs
 |cont=>exact hs
theorem cz{prog:Program}{w:World}{A:Around}{R:Result->Shared->Prop}{s:Shared}{elt target iter:Expr}{ifs:List Expr}{rest:List Comprehension}{scope:Scope}{pos:Pos}{it acc:Value}{env:Env}
  (h0:codeAny (model prog w) A (.compLoop (.SetComp elt (⟨target,iter,ifs,0⟩::rest) scope pos) 0 it acc env) R s)
  (h:wpAny (model prog w) A (pyIter it) (fun it' s'=>codeAny (model prog w) A (.compLoop (.SetComp elt (⟨target,iter,ifs,0⟩::rest) scope pos) 0 it' acc env) R s')
   (notedBy (model prog w) A env fun x s'=>R (.error x) s') s) :
  codeAny (model prog w) A (.compStart (.SetComp elt (⟨target,iter,ifs,0⟩::rest) scope pos) 0 it acc env) R s:=by
 refine codeAny_of_tree (show wpAny _ A (Sem.onRaise (compStart (.SetComp elt (⟨target,iter,ifs,0⟩::rest) scope pos) 0 it acc env) _) _ _ s from wpAny_notedAt ?_);unfold compStart;refine Dd (m:=ask) (wpAny_askSetting (wpAny_ite ?_));split
 ·first|exact De ⟨rfl,h0⟩|exact Dd (De (De ⟨rfl,h0⟩))
 ·refine Dd (DN ?_)
  first
   |exact Dd (wpAny_standAt (Dd (thn h fun _ _ h'=>De ⟨rfl,h'⟩)))
   |(show wpAny _ _ (standAt iter.pos >>= _) _ _ s;exact Dd (wpAny_standAt (Dd (thn h fun _ _ h'=>De ⟨rfl,h'⟩))))
def ddS:List Str->List Str
 |[]=>[]
 |x::r=>if x∈ddS r then ddS r else x::ddS r
theorem Eu{x:Str}:∀{l:List Str},x∈ddS l↔x∈l
 |[]=>Iff.rfl
 |y::r=>by
  unfold ddS;split
  ·rename_i h;rw[Eu,Ag];exact⟨.inr,fun z=>z.elim (fun e=>by rw[e];exact Eu.mp h) id⟩
  ·rw[Ag,Ag,Eu]
theorem GC:∀l:List Str,(ddS l).Nodup
 |[]=>.nil
 |y::r=>by
  unfold ddS;split
  ·exact GC r
  ·rename_i h;exact BV.mpr ⟨h,GC r⟩
theorem Fh:∀l:List Str,(ddS l).length<=l.length
 |[]=>zX _
 |y::r=>by
  unfold ddS;have:=Fh r;split
  ·exact CI this
  ·exact DI this
section
variable {X:Cx}{pins:List (Addr×Obj)}{σ:St}{H:Hp}{s:Shared}{scope:Scope}{ts cap:List Str}{js:List Nat}{fp:List Addr}{C D:Addr}
theorem jS{s':Shared}{σ':St}{H':Hp}{o:Obj}(I:Inv X pins σ H s)(hf:∀b∈fp,Er X pins H b)
  (I':Inv (aw X scope C fp (ts++cap) s H) [(D,o)] σ' H' s'):Inv X pins σ H' s':=by
 have u:=I'.base;refine I.IK (ch:=fp) I'.os ⟨fun b o e n hb hx=>u.keep b o e n hb hx,fun b o e n hb hx=>u.slot b o e n hb hx,fun b o e n hx=>u.free b o e n hx,fun b o e hx=>u.there b o e hx,fun b xs e=>u.GU b xs e,fun b o xs e=>u.GL b o xs e,fun b ps e=>u.GR b ps e⟩ I'.hok I'.bare fun b hb=>?_;obtain⟨f0,f1,f2,f3,f4,f5⟩:=hf b hb;exact⟨f3,f1,f4,f5⟩
end
theorem iO(t:SetTable)(n:Nat):(t.orStandIn n).led=t.led/\((t.orStandIn n).plain=t.plain\/(t.orStandIn n).plain=false):=by
 unfold SetTable.orStandIn;split
 ·exact⟨rfl,.inl rfl⟩
 ·exact⟨rfl,.inr rfl⟩
theorem fg(t:SetTable)(es:Array (Int×Value))(h:Int)(x:Value):(layNew t es h x).2.1.led=t.led:=by
 unfold layNew;split
 ·exact(iO _ _).1
 ·rfl
theorem nM{mask finger moves:Nat}{led plain:Bool}{hashes:Array Int}{r:SetTable×Array Nat}(h:SetTable.laid mask finger moves led plain hashes=some r):r.1.led=led/\r.1.plain=plain:=by
 unfold SetTable.laid at h;simp only[Option.bind_eq_bind,Option.pure_def,Option.bind_eq_some_iff] at h;obtain⟨_,_,h⟩:=h;cases h;exact⟨rfl,rfl⟩
theorem kQ(t:SetTable)(es:Array (Int×Value))(n:Nat):(relayAll t es n).2.1.led=t.led/\(t.plain=false->(relayAll t es n).2.1.plain=false):=by
 unfold relayAll;split
 ·rename_i t' order h;obtain⟨h1,h2⟩:=nM h;dsimp only;split
  ·exact⟨h1,fun z=>h2.trans z⟩
  ·exact⟨rfl,fun _=>rfl⟩
 ·exact⟨rfl,fun _=>rfl⟩
def EO (P:Program)(w:World)(L:Bool)(o:Obj)(ys:List Str):Prop:=o.ExactSet/\∃es ep t,o.data=.set es ep t/\ElemsOf (strKind P w) es.toList/\(es.toList.map fun e=>strOf e.2).Perm (ddS ys)/\t.fits es.size=true/\t.led=L/\(0<es.size->t.plain=false)
theorem EO.fresh(P:Program)(w:World)(L:Bool):EO P w L {cls:=.type "set",dict:=none,data:=.set #[] 0 (.fresh 0 0 L)} []:=
 ⟨⟨rfl,rfl,rfl⟩,#[],0,_,rfl,fun e he=>by simp at he,.refl _,by rfl,rfl,fun h=>absurd h (AD _)⟩
section
variable {prog:Program}{w:World}{A:Around}{E:Value->Shared->Prop}{s:Shared}{a:Addr}{o:Obj}{L:Bool}{ys:List Str}{z:Str}{tz:Tok}
theorem EO.nc(h:EO prog w L o ys):∀v,o.data≠.cell v:=fun v q=>by
 obtain⟨_,es,ep,t,hd,_⟩:=h;rw[hd] at q;cases q
theorem kN{e:Int×Value}{l:List (Int×Value)}(h:ElemsOf (strKind prog w) l)(he:e∈l):∃x t,e.2=.str x t:=by
 obtain⟨k,hk⟩:=h.keys e he;obtain⟨t,ht⟩:=Value.isStrOf_shape hk;exact⟨k,t,ht⟩
theorem isz(x y:Str)(t:Tok):Value.isStrOf x (.str y t)=decide (x=y):=by
 cases h:Value.isStrOf x (.str y t) with
 |true=>
  obtain⟨u,e⟩:=Value.isStrOf_shape h;cases e;exact(Dj rfl).symm
 |false=>
  refine(Dk fun e=>?_).symm;subst e;have:Value.isStrOf x (.str x t)=true:=Dj rfl;rw[this] at h;cases h
theorem oX{g:Bool->Sem Unit}(hg:∀(b:Bool)(s₁:Shared)(Q':Unit->Shared->Prop),Q' () s₁->wpAny (model prog w) A (g b) Q' E s₁){es:Array (Int×Value)}{ep:Nat}{t:SetTable}(ho:s.heap.get? a=some o)(hex:o.ExactSet)(hd:o.data=.set es ep t)
  {es1:Array (Int×Value)}{t2:SetTable}(hel1:ElemsOf (strKind prog w) es1.toList)(hp1:(es1.toList.map fun e=>strOf e.2).Perm (ddS ys))(hb1:es1.size<scanBound)(hf2:t2.fits es1.size=true)(hl2:t2.led=L)(hpl2:t2.plain=false){wasDummy:Bool}{R:Option Bool->Shared->Prop}
  (h:∀h' o',Heap.SameBut a s.heap h'->h'.get? a=some o'->EO prog w L o' ys->R (some true) {s with heap:=h'}) :
  wpAny (model prog w) A (storeSet a es1 t2 >>= fun _=>if (!wasDummy&&t2.tooFull)=true then g (relayAll t2 es1 (SetTable.grown es1.size)).2.2 >>= fun _=>storeSet a (relayAll t2 es1 (SetTable.grown es1.size)).1 (relayAll t2 es1 (SetTable.grown es1.size)).2.1 >>= fun _=>pure (some true) else pure (some true)) R E s:=by
 have at1:∀(h0:Heap)(o0:Obj)(es0:Array (Int×Value))(ep0:Nat)(t0:SetTable)(es':Array (Int×Value))(t':SetTable),h0.get? a=some o0->o0.data=.set es0 ep0 t0->(h0.update a (Obj.putSet es' t')).get? a=some {o0 with data:=.set es' (ep0+1) t'}:=fun h0 o0 es0 ep0 t0 es' t' h1 h2=>by
  have:=Heap.get?_update_self (Obj.putSet es' t') h1 (by rw[putSet_of es' t' h2];rfl);rw[putSet_of es' t' h2] at this;exact this
 refine Dd (wpAny_storeSet_of ho hd ?_ (fits_of_scanBound hb1));have g1:=at1 _ _ _ _ _ es1 t2 ho hd;have b1:=Heap.SameBut.update s.heap a (Obj.putSet es1 t2);split
 ·have hp:=relayAll_perm t2 es1 (SetTable.grown es1.size);have hfr:=relayAll_fits t2 es1 (SetTable.grown es1.size);obtain⟨hlr,hpr⟩:=kQ t2 es1 (SetTable.grown es1.size);generalize relayAll t2 es1 (SetTable.grown es1.size)=Rl at hp hfr hlr hpr ⊢;obtain⟨es2,t3,gave2⟩:=Rl;dsimp only at hp hfr hlr hpr ⊢;have hsz:es2.size=es1.size:=by rw[<- Ab,hp.length_eq,Ab]
  refine Dd (hg _ _ _ (Dd (wpAny_storeSet_of g1 rfl ?_ (fits_of_scanBound (by rw[hsz];exact hb1)))));refine De (h _ _ (b1.trans (Heap.SameBut.update _ a _)) (at1 _ _ _ _ _ es2 t3 g1 rfl) ⟨hex,es2,_,t3,rfl,hel1.perm hp,(hp.map _).trans hp1,hfr,hlr.trans hl2,fun _=>hpr hpl2⟩)
 ·exact De (h _ _ b1 g1 ⟨hex,es1,_,t2,rfl,hel1,hp1,hf2,hl2,fun _=>hpl2⟩)
theorem addL{Q:Value->Shared->Prop}(ho:s.heap.get? a=some o)(h:EO prog w L o ys)(hb:(ddS ys).length+1<scanBound)
  (hQ:∀h' o',Heap.SameBut a s.heap h'->h'.get? a=some o'->EO prog w L o' (z::ys)->Q .none {s with heap:=h',toks:=s.toks+1}) :
  wpAny (model prog w) A (call (.builtin "set.add") [.ref a,.str z tz]) Q E s:=by
 obtain⟨hex,es,ep,t,hd,hel,hp,hf,hl,hpl⟩:=h;have hn:es.size=(ddS ys).length:=by rw[<- hp.length_eq,zY,Ab]
 have hkey:(strKind prog w).is z (.str z tz)=true:=Dj rfl;have hsc:(Value.str z tz).scannable=true:=rfl;refine DK F.slot_set_add ⟨o,ho,hex.1⟩ F.entry_set_add ?_ (F.args_set_add_2 _ _);unfold Builtin.«set.add» Builtin.Frozenset.oneOther;simp only[List.isEmpty_nil,bind_assoc];unfold Builtin.Frozenset.addrOf setAdd setAddHashed setAddHashedIn;refine Dd (De (Dd (De ?_)));refine Dd (Dm (Dd ((strKind prog w).pyHash hkey (Dm (Dd (DB (s:={s with toks:=s.toks+1}) ho hd hf ?_))))));dsimp only;rw[byScan_of hsc (by rw[hn];lia) hel];simp only[↓reduceIte];unfold setAddByScan;refine Dd (Dd (DN (Dd (wpAny_setScan_of hkey ho hd hf hel ?_))));have hfind:∀e∈es.toList,((strKind prog w).is z e.2=true↔strOf e.2=z):=fun e he=>by
  obtain⟨x,t,ex⟩:=kN hel he;rw[ex];show Value.isStrOf z (.str x t)=true↔x=z;rw[isz,decide_eq_true_iff];exact eq_comm
 have hmem:z∈ys↔∃e∈es.toList,strOf e.2=z:=by
  rw[<- Eu,<- hp.mem_iff,Ax]
 cases hr:List.findIdx? (fun e=>(strKind prog w).is z e.2) es.toList with
 |some j=>
  obtain⟨hj,hpj,_⟩:=CV.mp hr;have hz:z∈ys:=hmem.mpr ⟨_,AI hj,(hfind _ (AI hj)).mp hpj⟩;have e1:ddS (z::ys)=ddS ys:=by
   show(if z∈ddS ys then ddS ys else z::ddS ys)=_;rw[Di (Eu.mpr hz)]
  refine De (De (show wpAny _ _ (ret Value.none) _ _ _ from De ⟨_,rfl,?_⟩));exact hQ s.heap o (Heap.SameBut.refl a s.heap) ho ⟨hex,es,ep,t,hd,hel,by rw[e1];exact hp,hf,hl,hpl⟩
 |none=>
  have hz:z∉ys:=fun hz=>by
   obtain⟨e,he,ez⟩:=hmem.mp hz;have:=CW.mp hr e he;rw[(hfind e he).mpr ez] at this;cases this
  have e1:ddS (z::ys)=z::ddS ys:=by
   show(if z∈ddS ys then ddS ys else z::ddS ys)=_;rw[Dh (fun q=>hz (Eu.mp q))]
  have hperm:=layNew_perm t es ((strKind prog w).hash z) (.str z tz);have hfits:=layNew_fits t es ((strKind prog w).hash z) (.str z tz);have hled:=fg t es ((strKind prog w).hash z) (.str z tz);dsimp only;generalize layNew t es ((strKind prog w).hash z) (.str z tz)=Ln at hperm hfits hled ⊢;obtain⟨es1,t1,wasDummy,gave⟩:=Ln;dsimp only at hperm hfits hled ⊢;rw[Bq] at hperm;have hsz:es1.size=(ddS ys).length+1:=by rw[<- Ab,hperm.length_eq,zZ,Ab,hn];rfl
  have hp1:(es1.toList.map fun e=>strOf e.2).Perm (ddS (z::ys)):=by
   rw[e1];refine(hperm.map _).trans ?_;rw[Au];exact(BR).trans (hp.cons z)
  have gw:∀(b:Bool)(s₁:Shared)(Q':Unit->Shared->Prop),Q' () s₁->wpAny (model prog w) A.in1 (match b with|true=>rule "set.scan.the-table-gave-way" |false=>pure ()) Q' E s₁:=fun b s₁ Q' hq=>by
   cases b
   ·exact De hq
   ·exact DN hq
  refine Dd (gw _ _ _ ?_);have fin:∀h' o',Heap.SameBut a s.heap h'->h'.get? a=some o'->EO prog w L o' (z::ys)->wpAny (model prog w) A.in1 (pure true) (fun _ s'=>wpAny (model prog w) A.in1 (ret Value.none) (fun fin s'=>∃v,fin=Fin.done (Flow.ret v)/\Q v s') E s') E {s with heap:=h',toks:=s.toks+1}:=fun h' o' h1 h2 h3=>De (De ⟨_,rfl,hQ h' o' h1 h2 h3⟩);split
  ·refine Dd ?_;rw[hashByValue_scannable 8 hsc];refine De (oX (s:={s with toks:=s.toks+1}) gw ho hex hd ((hel.push hkey hsc).perm hperm) hp1 (by lia) (SetTable.fits_plain_off hfits) (hled.trans hl) rfl fin)
  ·rename_i npl;refine Dd (De ?_);exact oX (s:={s with toks:=s.toks+1}) gw ho hex hd ((hel.push hkey hsc).perm hperm) hp1 (by lia) hfits (hled.trans hl) (by cases hq:t1.plain with|false=>rfl|true=>exact absurd hq npl) fin
def bV (w:World):Bool:=!w.params.followText "set-order"
theorem qA{Q:Value->Shared->Prop}(h:Q (.ref s.heap.objs.size) {s with heap:=s.heap.push {cls:=.type "set",dict:=none,data:=.set #[] 0 (.fresh 0 0 (bV w))}}):wpAny (model prog w) A (newSet (.type "set")) Q E s:=by
 unfold newSet setsByText;refine Dd (Dd (wpAny_askSetting (De ?_)));simp only[newObj];exact Dd (wpAny_alloc (De h))
end
section
variable {X:Cx}{pins:List (Addr×Obj)}{σ:St}{H:Hp}{s:Shared}{scope:Scope}{ts cap:List Str}{js:List Nat}{fp:List Addr}{C D:Addr}
end
section
variable {X:Cx}{scope:Scope}{ts cap:List Str}{js:List Nat}{tg elt iter:Expr}{ifs:List Expr}{pos:Pos}{wi:TI}{g:TG}{tc:TT}{te:TE}
abbrev GN:=St->Hp->(List Str->Hp->Prop)->Prop
def qD (X:Cx)(e:Expr)(t:GN):Prop:=
 ∀(pins:List (Addr×Obj))(s:Shared)(σ:St)(H:Hp)(Q:List Str->Hp->Prop),Inv X pins σ H s->t σ H Q ->
  wpAny (model X.prog X.w) X.A (eval e X.env) (fun v s'=>∃D o ys H',v=.ref D/\Inv X pins σ H' s'/\s'.heap.get? D=some o/\EO X.prog X.w (bV X.w) o ys/\(ddS ys).length<scanBound/\Q ys H') X.xe s
end
theorem Et:Slot "set_iterator" "__next__" "set_iterator.__next__":=.of (owner:="set_iterator") (n:="__next__") (by rw[typeLookup_type,builtinLookup_eq_fast];kernel_rfl) (by decide +kernel) (by decide +kernel) (by decide +kernel) (by first|exact .inl (by decide +kernel)|exact .inr (by decide +kernel)) (by rw[isSubtype_type];kernel_rfl)
theorem Fb:entryFor table "set_iterator.__next__"=some Builtin.«set_iterator.__next__»:=entryFor_of_tree (by kernel_rfl)
theorem Gi:entryFor table "set.__iter__"=some Builtin.«frozenset.__iter__»:=entryFor_alias (id':="frozenset.__iter__") (by kernel_rfl) rfl (by decide +kernel) (by kernel_rfl)
theorem gf(a:Value):argsOk "set_iterator.__next__" ⟨[a],[]⟩:=by unfold argsOk;kernel_rfl
abbrev siO(first:Value)(i:Nat)(D:Addr)(n ep:Nat):Obj:={cls:=.type "set_iterator",data:=.fields #[first,rawInt i,.ref D,rawInt n,rawInt ep]}
section
variable {prog:Program}{w:World}{A:Around}{E:Value->Shared->Prop}{s:Shared}{a:Addr}{o:Obj}{ys:List Str}
theorem dH{α:Type}:∀(l:List α)(i:Nat)(h:i<l.length),(l[i]::l.eraseIdx i).Perm l
 |x::xs,0,_=>.refl _
 |x::xs,i+1,h=>(List.Perm.swap x (xs[i]'(Nat.lt_of_succ_lt_succ h)) (xs.eraseIdx i)).trans ((dH xs i (Nat.lt_of_succ_lt_succ h)).cons x)
theorem jM{M:Model}{src:Source}{n:Nat}{Q:Nat->Shared->Prop}(hn:n≠0)(h:∀i d,i<n->Q i {s with drawn:=d}):wpAny M A (choose src n) Q E s:=fun Γ p _=>⟨hn,h _ _ (Nat.mod_lt _ (Nat.pos_of_ne_zero hn))⟩
theorem fy{α:Type}:∀(n:Nat)(xs:List α)(s:Shared)(Q:List α->Shared->Prop),xs.length=n->(∀ys d,ys.Perm xs->Q ys {s with drawn:=d})->wpAny (model prog w) A (drawOrder n xs) Q E s
 |0,xs,s,Q,hl,h=>by
  rw[Bp.mp hl];have:=h [] s.drawn (by rw[Bp.mp hl]);exact De this
 |n+1,[],s,Q,hl,h=>by cases hl
 |n+1,x::xs,s,Q,hl,h=>by
  show wpAny _ _ (choose .order (x::xs).length >>= _) _ _ _;refine Dd (jM (by simp) fun i d hi=>?_);rw[Aa hi];refine Dd (fy n ((x::xs).eraseIdx i) _ _ (by rw[CY hi,hl];rfl) fun ys d' hy=>?_);refine De (h _ _ ?_);exact(hy.cons _).trans (dH _ i hi)
theorem nH{es:Array (Int×Value)}{ep:Nat}{t:SetTable}{Q:Value->Shared->Prop}(ho:s.heap.get? a=some o)(hex:o.ExactSet)(hd:o.data=.set es ep t)(hf:t.fits es.size=true)(hz:es.size<=sizeLine)
  (hA:(w.params.followText "set-order"=true\/t.plain=true\/es.size<=1)->Q (.ref s.heap.objs.size) {s with heap:=s.heap.push (siO (rawInt 0) 0 a es.size ep)})
  (hB:w.params.followText "set-order"=false->t.plain=false->1<es.size->∀(ps:List Nat) d,ps.Perm (List.range es.size)->Q (.ref (s.heap.objs.size+1)) {s with heap:=(s.heap.push (seqObj "tuple" (ps.map fun i=>rawInt (i:Nat)).toArray 0)).push (siO (.ref s.heap.objs.size) 0 a es.size ep),drawn:=d}) :
  wpAny (model prog w) A (pyIter (.ref a)) Q E s:=by
 have hT:s.TypeIs (.ref a) "set":=⟨o,ho,hex.1⟩
 refine wpAny_pyIter_slot hT F.slot_set_iter (DK F.slot_set_iter hT Gi ?_ (F.args_set_iter_1 _));unfold Builtin.«frozenset.__iter__» Builtin.Frozenset.slot0 Builtin.Frozenset.sizeOf Builtin.Frozenset.addrOf setDrawn setEpoch setEntries setsByText;refine Dd (Dd (De (De ?_)));refine Dd (Dd (Dd (DB ho hd hf (De (De ?_)))));refine Dd (Dd (DB ho hd hf (Dd (Dd (wpAny_askSetting (De (De ?_)))))));dsimp only;split
 ·rename_i hc;have h2:(!w.params.followText "set-order" && (!t.plain&&decide (es.size>1)))=true:=hc;rw[AK,AK,decide_eq_true_eq] at h2;obtain⟨h3,h4,h5⟩:=h2;refine Dd (fy _ _ _ _ BD fun ps d hp=>?_);refine Dd (wpAny_newTuple ?_ (by rw[zY,hp.length_eq,BD];exact hz));refine Dd (Dd (DB (DE _ ho) hd hf (De ?_)));refine Dd (wpAny_newObj_type (De ⟨_,rfl,"set_iterator",_,⟨_,DG _ rfl,rfl⟩,Et.lookup,?_⟩));have:=hB (by cases q:w.params.followText "set-order" with|false=>rfl|true=>rw[q] at h3;cases h3) (by cases q:t.plain with|false=>rfl|true=>rw[q] at h4;cases h4) h5 ps d hp;rw[show s.heap.objs.size+1=(s.heap.push (seqObj "tuple" (ps.map fun i=>rawInt (i:Nat)).toArray 0)).objs.size by rw[DM]] at this;exact this
 ·rename_i hc;have h2:¬(!w.params.followText "set-order" && (!t.plain&&decide (es.size>1)))=true:=hc;refine Dd (De (Dd (Dd (DB ho hd hf (De ?_)))));refine Dd (wpAny_newObj_type (De ⟨_,rfl,"set_iterator",_,⟨_,DG _ rfl,rfl⟩,Et.lookup,hA ?_⟩));by_cases h3:w.params.followText "set-order"=true
  ·exact .inl h3
  ·by_cases h4:t.plain=true
   ·exact .inr (.inl h4)
   ·refine .inr (.inr (Cw fun h5=>h2 ?_));rw[Bz.mpr h3,Bz.mpr h4,Dj h5];rfl
theorem jR{I D Pl:Addr}{ps:List Nat}{i p n ep:Nat}{es:Array (Int×Value)}{t:SetTable}{e:Int×Value}{Q:Option Value->Shared->Prop}(hI:s.heap.get? I=some (siO (.ref Pl) i D n ep))(hP:s.heap.get? Pl=some (seqObj "tuple" (ps.map fun i=>rawInt (i:Nat)).toArray 0))(ho:s.heap.get? D=some o)(hd:o.data=.set es ep t)(hf:t.fits es.size=true)(hn:es.size=n)(hi:ps[i]?=some p)(he:es[p]?=some e)
  (hQ:∀h',Heap.SameBut I s.heap h'->h'.get? I=some (siO (.ref Pl) (i+1) D n ep)->Q (some e.2) {s with heap:=h'}):wpAny (model prog w) A (pyNext (.ref I)) Q E s:=by
 have hT:s.TypeIs (.ref I) "set_iterator":=⟨_,hI,rfl⟩
 unfold pyNext;refine Dd (DJ (wpAny_callSpecial?_slot (name:=Str.ofString "__next__") hT Et (DK Et hT Fb ?_ (gf _))));unfold Builtin.«set_iterator.__next__» setEntries;refine Dd (De ?_);refine Dd (wpAny_fieldsOf hI rfl ?_);refine Dd (Dd (DB ho hd hf (De ?_)));dsimp only;rw[Dh (by rw[hn];simp)];have hpl:(ps.map fun i=>rawInt (i:Nat)).toArray[((i:Nat):Int).toNat]?=some (rawInt (p:Nat)):=by rw[AQ,Bi,Aj,hi];rfl
 refine Dd (wpAny_seqItems hP rfl ?_);dsimp only;rw[hpl];show wpAny _ _ (setNextDrawn D ((p:Nat):Int).toNat ((ep:Nat):Int).toNat >>= _) _ _ _;rw[AQ,AQ];unfold setNextDrawn;refine Dd (Dd (DB ho hd hf ?_));dsimp only;rw[Dh (by simp),he];refine De ?_;refine Dd (wpAny_setField hI rfl (by simp) ?_);refine De ⟨_,rfl,De (hQ _ (Heap.SameBut.update ..) ?_)⟩;exact Heap.get?_update_self (Obj.mapFields (·.setIfInBounds 1 (rawInt ((i:Nat)+1)))) hI rfl
theorem hJ{F:PySem.Fin->Shared->Prop}{Q:Option Value->Shared->Prop}(hh:A.handled=none)(hQ:∀h',(∀b u,s.heap.get? b=some u->h'.get? b=some u)->Q none {s with heap:=h'}) :
  wpAny (model prog w) A.in1 (newExc (.type "StopIteration") [] >>= fun e=>raiseNew e) F (fun e s'=>wpAny (model prog w) A (isInstance e (.type "StopIteration") >>= fun b=>if b=true then pure none else throw e) Q E s') s:=by
 refine Dd ?_;simp only[newExc,newTuple];refine Dd (wpAny_newObj_type (Dd (m:=firstArgMember _ _) (wpAny_of_eq (a:=Value.none) (by first|rfl|(simp only[firstArgMember];rfl)) (wpAny_newObj_type ?_ (by size_fits)))) (by size_fits));simp only[raiseNew];refine Dd (wpAny_handled ?_);rw[show A.in1.handled=none from hh];refine Dd (De (wpAny_throw ?_));refine Dd (wpAny_isInstance (T:="StopIteration") (b:=true) ⟨_,DG _ rfl,rfl⟩ isSubtype_stop (De (hQ _ fun b u e=>?_)));exact DE _ (DE _ e)
theorem lY{I D Pl:Addr}{ps:List Nat}{i n ep:Nat}{es:Array (Int×Value)}{t:SetTable}{Q:Option Value->Shared->Prop}(hh:A.handled=none)(hI:s.heap.get? I=some (siO (.ref Pl) i D n ep))(hP:s.heap.get? Pl=some (seqObj "tuple" (ps.map fun i=>rawInt (i:Nat)).toArray 0))(ho:s.heap.get? D=some o)(hd:o.data=.set es ep t)(hf:t.fits es.size=true)(hn:es.size=n)(hi:ps[i]?=none)
  (hQ:∀h',(∀b u,b≠I->s.heap.get? b=some u->h'.get? b=some u)->Q none {s with heap:=h'}):wpAny (model prog w) A (pyNext (.ref I)) Q E s:=by
 have hT:s.TypeIs (.ref I) "set_iterator":=⟨_,hI,rfl⟩
 unfold pyNext;refine Dd (DJ (wpAny_callSpecial?_slot (name:=Str.ofString "__next__") hT Et (DK Et hT Fb ?_ (gf _))));unfold Builtin.«set_iterator.__next__» setEntries;refine Dd (De ?_);refine Dd (wpAny_fieldsOf hI rfl ?_);refine Dd (Dd (DB ho hd hf (De ?_)));dsimp only;rw[Dh (by rw[hn];simp)];have hpl:(ps.map fun i=>rawInt (i:Nat)).toArray[((i:Nat):Int).toNat]?=none:=by rw[AQ,Bi,Aj,hi];rfl
 refine Dd (wpAny_seqItems hP rfl ?_);dsimp only;rw[hpl];dsimp only;refine Dd (wpAny_setField hI rfl (by simp) ?_);have h1:=Heap.get?_update_self (Obj.mapFields (·.setIfInBounds 0 (rawInt 0))) hI rfl;refine Dd (wpAny_setField h1 rfl (by simp) ?_);refine hJ hh fun h' hk=>?_;refine hQ h' fun b u nb e=>hk b u ?_;exact(Heap.SameBut.update _ I _).extBut b u nb ((Heap.SameBut.update _ I _).extBut b u nb e)
theorem gh{I D:Addr}{i n ep slot nxt:Nat}{x:Value}{es:Array (Int×Value)}{t:SetTable}{Q:Option Value->Shared->Prop}(hI:s.heap.get? I=some (siO (rawInt (slot:Nat)) i D n ep))(ho:s.heap.get? D=some o)(hd:o.data=.set es ep t)(hf:t.fits es.size=true)(hn:es.size=n)
  (hx:∀(B:Around)(E':Value->Shared->Prop)(Q':Option (Value×Nat)->Shared->Prop),Q' (some (x,nxt)) s->wpAny (model prog w) B (setNext D slot i ep) Q' E' s)
  (hQ:∀h',Heap.SameBut I s.heap h'->h'.get? I=some (siO (rawInt (nxt:Nat)) (i+1) D n ep)->Q (some x) {s with heap:=h'}):wpAny (model prog w) A (pyNext (.ref I)) Q E s:=by
 have hT:s.TypeIs (.ref I) "set_iterator":=⟨_,hI,rfl⟩
 unfold pyNext;refine Dd (DJ (wpAny_callSpecial?_slot (name:=Str.ofString "__next__") hT Et (DK Et hT Fb ?_ (gf _))));unfold Builtin.«set_iterator.__next__» setEntries;refine Dd (De ?_);refine Dd (wpAny_fieldsOf hI rfl ?_);refine Dd (Dd (DB ho hd hf (De ?_)));dsimp only;rw[Dh (by rw[hn];simp)];show wpAny _ _ (setNext D ((slot:Nat):Int).toNat ((i:Nat):Int).toNat ((ep:Nat):Int).toNat >>= _) _ _ _;rw[AQ,AQ,AQ];refine Dd (hx _ _ _ ?_);dsimp only;refine Dd (wpAny_setField hI rfl (by simp) ?_);have h1:=Heap.get?_update_self (Obj.mapFields (·.setIfInBounds 0 (rawInt (nxt:Nat)))) hI rfl;refine Dd (wpAny_setField h1 rfl (by simp) ?_);refine De ⟨_,rfl,De (hQ _ ((Heap.SameBut.update ..).trans (Heap.SameBut.update ..)) ?_)⟩;exact Heap.get?_update_self (Obj.mapFields (·.setIfInBounds 1 (rawInt ((i:Nat)+1)))) h1 rfl
theorem jn{I D:Addr}{i n ep slot:Nat}{es:Array (Int×Value)}{t:SetTable}{Q:Option Value->Shared->Prop}(hh:A.handled=none)(hI:s.heap.get? I=some (siO (rawInt (slot:Nat)) i D n ep))(ho:s.heap.get? D=some o)(hd:o.data=.set es ep t)(hf:t.fits es.size=true)(hn:es.size=n)
  (hx:∀(B:Around)(E':Value->Shared->Prop)(Q':Option (Value×Nat)->Shared->Prop),Q' none s->wpAny (model prog w) B (setNext D slot i ep) Q' E' s)
  (hQ:∀h',(∀b u,b≠I->s.heap.get? b=some u->h'.get? b=some u)->Q none {s with heap:=h'}):wpAny (model prog w) A (pyNext (.ref I)) Q E s:=by
 have hT:s.TypeIs (.ref I) "set_iterator":=⟨_,hI,rfl⟩
 unfold pyNext;refine Dd (DJ (wpAny_callSpecial?_slot (name:=Str.ofString "__next__") hT Et (DK Et hT Fb ?_ (gf _))));unfold Builtin.«set_iterator.__next__» setEntries;refine Dd (De ?_);refine Dd (wpAny_fieldsOf hI rfl ?_);refine Dd (Dd (DB ho hd hf (De ?_)));dsimp only;rw[Dh (by rw[hn];simp)];show wpAny _ _ (setNext D ((slot:Nat):Int).toNat ((i:Nat):Int).toNat ((ep:Nat):Int).toNat >>= _) _ _ _;rw[AQ,AQ,AQ];refine Dd (hx _ _ _ ?_);dsimp only;refine Dd (wpAny_setField hI rfl (by simp) ?_);exact hJ hh fun h' hk=>hQ h' fun b u nb e=>hk b u ((Heap.SameBut.update _ I _).extBut b u nb e)
theorem gj{D:Addr}{es:Array (Int×Value)}{t:SetTable}{ep slot i:Nat}{Q:Option (Value×Nat)->Shared->Prop}(hb:w.params.followText "set-order"=true)(ho:s.heap.get? D=some o)(hd:o.data=.set es ep t)(hf:t.fits es.size=true)
  (h:Q (((pickOrder (w.params.setOrder D ep) es)[i]?).map fun e=>(e.2,slot)) s):wpAny (model prog w) A (setNext D slot i ep) Q E s:=by
 unfold setNext setWalk setsByText;refine Dd (DB ho hd hf (Dd (Dd (wpAny_askSetting (De ?_)))));dsimp only;rw[Di (show(model prog w).w.params.followText "set-order"=true from hb),Dh (by simp)];refine Dd (Dd (DB ho hd hf (Dd (Dd (wpAny_askSetting (De ?_))))));dsimp only;rw[Di (show(model prog w).w.params.followText "set-order"=true from hb)];refine Dd (wpAny_askSetting (De (De ?_)));exact h
theorem jz{D:Addr}{es:Array (Int×Value)}{t:SetTable}{ep ep' slot i:Nat}{Q:Option (Value×Nat)->Shared->Prop}(hb:w.params.followText "set-order"=false)(hl:t.led=true)(h1:es.size<=1)(ho:s.heap.get? D=some o)(hd:o.data=.set es ep t)(hf:t.fits es.size=true)
  (h:Q (match es[SetTable.below t.place slot]?,t.place[SetTable.below t.place slot]? with|some (_,x),some j=>some (x,j+1)|_,_=>none) s):wpAny (model prog w) A (setNext D slot i ep') Q E s:=by
 unfold setNext setsByText;refine Dd (DB ho hd hf (Dd (Dd (wpAny_askSetting (De ?_)))));dsimp only;rw[Dh (show ¬(model prog w).w.params.followText "set-order"=true from fun q=>by rw[show(model prog w).w.params.followText "set-order"=false from hb] at q;cases q)];split
 ·rename_i q;have q':(!t.plain&&decide (es.size>1))=true:=q;rw[AK,decide_eq_true_eq] at q';exact absurd q'.2 (by omega)
 ·refine Dd (show wpAny (model prog w) A (if (!t.led && !es.isEmpty)=true then unsupported "set:maker-not-led" else pure ()) _ E s from ?_);rw[hl];exact De (De h)
theorem lK{α:Type}(next:Nat->Nat):∀(fuel k:Nat)(left:List α)(out:Array α),left.length=fuel->(pickOrder.go next fuel k left out).toList.Perm (out.toList++left)
 |0,k,left,out,h=>by
  rw[Bp.mp h,AC];exact .refl _
 |fuel+1,k,left,out,h=>by
  have hi:next k % left.length<left.length:=Nat.mod_lt _ (by omega);unfold pickOrder.go;rw[Aa hi];refine(lK next fuel (k+1) (left.eraseIdx _) (out.push _) (by rw[CY hi,h];rfl)).trans ?_;rw[Bq,AG];exact(List.Perm.refl _).append (dH _ _ hi)
theorem eG{α:Type}(next:Nat->Nat)(xs:Array α):(pickOrder next xs).toList.Perm xs.toList:=by
 have:=lK next xs.size 0 xs.toList #[] (by rw[Ab]);exact this
end
theorem Gz:Slot "set_iterator" "__iter__" "set_iterator.__iter__":=.of (owner:="set_iterator") (n:="__iter__") (by rw[typeLookup_type,builtinLookup_eq_fast];kernel_rfl) (by decide +kernel) (by decide +kernel) (by decide +kernel) (by first|exact .inl (by decide +kernel)|exact .inr (by decide +kernel)) (by rw[isSubtype_type];kernel_rfl)
theorem pf(a:Value):argsOk "set_iterator.__iter__" ⟨[a],[]⟩:=by unfold argsOk;kernel_rfl
section
variable {prog:Program}{w:World}{A:Around}{E:Value->Shared->Prop}{s:Shared}{o:Obj}{I D Pl:Addr}{ps:List Nat}{n ep:Nat}{es:Array (Int×Value)}{t:SetTable}
theorem jW(hh:A.handled=none)(nD:D≠I)(nP:Pl≠I)(hd:o.data=.set es ep t)(hf:t.fits es.size=true)(hn:es.size=n)(hp:ps.Perm (List.range n))(self:∀(i:Nat)(s:Shared)(Q:Value->Shared->Prop)(E:Value->Shared->Prop),s.heap.get? I=some (siO (.ref Pl) i D n ep)->Q (.ref I) s->wpAny (model prog w) A (pyIter (.ref I)) Q E s) :
  WalksS prog w A I [I,D,Pl] [I] (fun a b=>b=a) n (fun i v=>∃p e,ps[i]?=some p/\es[p]?=some e/\v=e.2) (fun i s=>s.heap.get? I=some (siO (.ref Pl) i D n ep)/\s.heap.get? D=some o/\s.heap.get? Pl=some (seqObj "tuple" (ps.map fun i=>rawInt (i:Nat)).toArray 0)) where
 sub:=fun b hb=>by rw[AA.mp hb];exact Aq
 grefl:=fun _=>rfl
 gtrans:=fun a b c h1 h2=>h2.trans h1
 frame:=fun _ _ _ _ st _ hk=>⟨hk I (by simp) _ st.1,hk D (by simp) _ st.2.1,hk Pl (by simp) _ st.2.2⟩
 item:=fun i s Q E hi st hQ=>by
  have hl:ps.length=n:=by rw[hp.length_eq,BD]
  have hi':i<ps.length:=by omega
  have hm:ps[i]<n:=Bo.mp (hp.mem_iff.mp (AI hi'));have e1:ps[i]?=some ps[i]:=Aa hi';have e2:es[ps[i]]?=some es[ps[i]]:=AM (by omega);refine jR st.1 st.2.2 st.2.1 hd hf hn e1 e2 fun h' hs' hI'=>?_;exact hQ _ {s with heap:=h'} ⟨_,_,e1,e2,rfl⟩ ⟨hI',hs'.extBut _ _ nD st.2.1,hs'.extBut _ _ nP st.2.2⟩ ⟨fun b u hb e=>hs'.extBut b u (fun q=>hb (by simp[q])) e,rfl,rfl,rfl,zX _⟩
 done:=fun s Q E st hQ=>lY hh st.1 st.2.2 st.2.1 hd hf hn (BZ (by rw[hp.length_eq,BD];exact zX _)) fun h' hk=>hQ {s with heap:=h'} ⟨fun b u hb e=>hk b u (fun q=>hb (by simp[q])) e,rfl,rfl,rfl,zX _⟩
 self:=fun i s Q E st hQ=>self i s Q E st.1 hQ
theorem GX:entryFor table "set_iterator.__iter__"=some Builtin.«dict_keyiterator.__iter__»:=entryFor_alias (id':="dict_keyiterator.__iter__") (by kernel_rfl) rfl (by decide +kernel) (by kernel_rfl)
theorem iG{f:Value}{i:Nat}{Q:Value->Shared->Prop}(hI:s.heap.get? I=some (siO f i D n ep))(h:Q (.ref I) s):wpAny (model prog w) A (pyIter (.ref I)) Q E s:=by
 have hT:s.TypeIs (.ref I) "set_iterator":=⟨_,hI,rfl⟩
 refine wpAny_pyIter_slot hT Gz (DK Gz hT GX (show wpAny _ _ (ret (.ref I)) _ _ s from De ⟨_,rfl,"set_iterator",_,hT,Et.lookup,h⟩) (pf _))
theorem lj(hh:A.handled=none)(nD:D≠I)(hb:w.params.followText "set-order"=true)(hd:o.data=.set es ep t)(hf:t.fits es.size=true)(hn:es.size=n) :
  WalksS prog w A I [I,D] [I] (fun a b=>b=a) n (fun i v=>∃e,(pickOrder (w.params.setOrder D ep) es)[i]?=some e/\v=e.2) (fun i s=>s.heap.get? I=some (siO (rawInt ((0:Nat):Int)) i D n ep)/\s.heap.get? D=some o) where
 sub:=fun b hb=>by rw[AA.mp hb];exact Aq
 grefl:=fun _=>rfl
 gtrans:=fun a b c h1 h2=>h2.trans h1
 frame:=fun _ _ _ _ st _ hk=>⟨hk I (by simp) _ st.1,hk D (by simp) _ st.2⟩
 item:=fun i s Q E hi st hQ=>by
  have hl:(pickOrder (w.params.setOrder D ep) es).size=n:=by rw[<- Ab,(eG _ _).length_eq,Ab,hn]
  have e1:(pickOrder (w.params.setOrder D ep) es)[i]?=some (pickOrder (w.params.setOrder D ep) es)[i]:=AM (by omega);refine gh (nxt:=0) st.1 st.2 hd hf hn (fun B E' Q' q=>gj hb st.2 hd hf (by rw[e1];exact q)) fun h' hs' hI'=>?_;exact hQ _ {s with heap:=h'} ⟨_,e1,rfl⟩ ⟨hI',hs'.extBut _ _ nD st.2⟩ ⟨fun b u hb e=>hs'.extBut b u (fun q=>hb (by simp[q])) e,rfl,rfl,rfl,zX _⟩
 done:=fun s Q E st hQ=>jn hh st.1 st.2 hd hf hn (fun B E' Q' q=>gj hb st.2 hd hf (by
  rw[CJ (by rw[<- Ab,(eG _ _).length_eq,Ab,hn]; exact zX _)]; exact q)) fun h' hk=>hQ { s with heap:=h' } ⟨fun b u hb e=>hk b u (fun q=>hb (by simp [q])) e,rfl,rfl,rfl,zX _⟩
 self:=fun i s Q E st hQ=>iG st.1 hQ
theorem iu(pl:Array Nat)(h:pl.size<=1):SetTable.below pl 0=0/\∀j,pl[0]?=some j->SetTable.below pl (j+1)=1:=by
 obtain⟨l⟩:=pl
 match l,h with
 |[],_=>exact⟨rfl,fun j e=>by cases e⟩
 |[j],_=>
  refine⟨by simp[SetTable.below,SetTable.below.go],fun k e=>?_⟩;have:k=j:=by simpa using e.symm
  subst this;simp[SetTable.below,SetTable.below.go]
theorem oJ(hh:A.handled=none)(nD:D≠I)(hb:w.params.followText "set-order"=false)(hl:t.led=true)(h1:es.size<=1)(hd:o.data=.set es ep t)(hf:t.fits es.size=true)(hn:es.size=n) :
  WalksS prog w A I [I,D] [I] (fun a b=>b=a) n (fun i v=>∃e,es[i]?=some e/\v=e.2) (fun i s=>(∃slot:Nat,s.heap.get? I=some (siO (rawInt (slot:Nat)) i D n ep)/\SetTable.below t.place slot=i)/\s.heap.get? D=some o) where
 sub:=fun b hb=>by rw[AA.mp hb];exact Aq
 grefl:=fun _=>rfl
 gtrans:=fun a b c h1 h2=>h2.trans h1
 frame:=fun _ _ _ _ st _ hk=>by
  obtain⟨⟨sl,h1,h2⟩,h3⟩:=st;exact⟨⟨sl,hk I (by simp) _ h1,h2⟩,hk D (by simp) _ h3⟩
 item:=fun i s Q E hi st hQ=>by
  obtain⟨⟨sl,hI,hbl⟩,hD⟩:=st;have hps:t.place.size=es.size:=by
   have:=hf;unfold SetTable.fits at this;rw[AK,DP] at this;exact this.1
  have i0:i=0:=by omega
  subst i0;have e1:es[0]?=some es[0]:=AM (by omega);have e2:t.place[0]?=some t.place[0]:=AM (by omega);refine gh (nxt:=t.place[0]+1) hI hD hd hf hn (fun B E' Q' q=>jz hb hl h1 hD hd hf (by rw[hbl,e1,e2];exact q)) fun h' hs' hI'=>?_;exact hQ _ {s with heap:=h'} ⟨_,e1,rfl⟩ ⟨⟨_,hI',(iu t.place (by omega)).2 _ e2⟩,hs'.extBut _ _ nD hD⟩ ⟨fun b u hb e=>hs'.extBut b u (fun q=>hb (by simp[q])) e,rfl,rfl,rfl,zX _⟩
 done:=fun s Q E st hQ=>by
  obtain⟨⟨sl,hI,hbl⟩,hD⟩:=st;refine jn hh hI hD hd hf hn (fun B E' Q' q=>jz hb hl h1 hD hd hf ?_) fun h' hk=>hQ {s with heap:=h'} ⟨fun b u hb e=>hk b u (fun q=>hb (by simp[q])) e,rfl,rfl,rfl,zX _⟩;rw[hbl,CJ (by omega)];exact q
 self:=fun i s Q E st hQ=>by
  obtain⟨⟨sl,hI,hbl⟩,hD⟩:=st;exact iG hI hQ
end
section
variable {prog:Program}{w:World}{A B:Around}{E:Value->Shared->Prop}{s:Shared}{o:Obj}{D:Addr}{ys:List Str}
theorem fZ{P:Nat->Value->Prop}{acc:Array Value}{n:Nat}{vs:List Value}(h:ItemsOf P acc n)(hl:vs.length=n)(hP:∀j v,P j v->vs[j]?=some v):acc.toList=vs:=by
 refine Co fun j=>?_;by_cases hj:j<n
 ·have hj':j<acc.size:=by rw[h.1];exact hj
  have e:acc[j]?=some (acc[j]'hj'):=AM hj';rw[Ao,e,hP j _ (h.2 j _ e)]
 ·rw[BZ (by rw[Ab,h.1];lia),BZ (by lia)]
theorem qZ{es:List (Int×Value)}(hel:ElemsOf (strKind prog w) es){vs:List Value}(hp:vs.Perm (es.map (·.2))):∀v∈vs,∃x t,v=.str x t:=fun v hv=>by
 obtain⟨e,he,rfl⟩:=Ax.mp (hp.mem_iff.mp hv);exact kN hel he
theorem me{Q:Value->Shared->Prop}(hh:B.handled=none)(ho:s.heap.get? D=some o)(hS:EO prog w (bV w) o ys)(hb:(ddS ys).length<scanBound)
  (hQ:∀(I n:Nat)(fp:List Addr)(P:Nat->Value->Prop)(St:Nat->Shared->Prop)(s1:Shared),n<=sizeLine->WalksS prog w B I fp [I] (fun a b=>b=a) n P St->St 0 s1->s.heap.objs.size<=I->(∀b∈fp,b=D\/s.heap.objs.size<=b)->(∀b u,s.heap.get? b=some u->s1.heap.get? b=some u)->s1.gens=s.gens->s1.os=s.os->(∀acc:Array Value,ItemsOf P acc n->(acc.toList.map strOf).Perm (ddS ys)/\∀v∈acc.toList,∃x t,v=.str x t)->Q (.ref I) s1) :
  wpAny (model prog w) A (pyIter (.ref D)) Q E s:=by
 obtain⟨hex,es,ep,t,hd,hel,hp,hf,hl,hpl⟩:=hS;have hz:es.size<=sizeLine:=fits_of_scanBound (by rw[<- Ab,<- zY (f:=fun e=>strOf e.2),hp.length_eq];exact hb);have hlt:=Dp ho;have told:∀vs:List Value,vs.Perm (es.toList.map (·.2))->(vs.map strOf).Perm (ddS ys)/\∀v∈vs,∃x t,v=.str x t:=fun vs hv=>⟨((hv.map strOf).trans (by rw[Bn];exact .refl _)).trans hp,qZ hel hv⟩
 refine nH ho hex hd hf hz (fun hc=>?_) (fun h1 h2 h3 ps d hps=>?_)
 ·have g1:(s.heap.push (siO (rawInt 0) 0 D es.size ep)).get? s.heap.objs.size=some (siO (rawInt 0) 0 D es.size ep):=DG _ rfl;have g2:(s.heap.push (siO (rawInt 0) 0 D es.size ep)).get? D=some o:=DE _ ho;have nD:D≠s.heap.objs.size:=fun e=>absurd hlt (by rw[<- e];exact AD _);have hfp:∀b∈[s.heap.objs.size,D],b=D\/s.heap.objs.size<=b:=fun b hb=>by
   simp only[Ag,AN,or_false] at hb;rcases hb with rfl|rfl
   ·exact .inr (zX _)
   ·exact .inl rfl
  by_cases hbt:w.params.followText "set-order"=true
  ·refine hQ _ es.size _ _ _ _ hz (lj hh nD hbt hd hf rfl) ⟨g1,g2⟩ (zX _) hfp (fun b u e=>DE _ e) rfl rfl fun acc ha=>?_;have:=eG (w.params.setOrder D ep) es;rw[fZ (vs:=(pickOrder (w.params.setOrder D ep) es).toList.map (·.2)) ha (by rw[zY,this.length_eq,Ab]) (fun j v ⟨e,h1,h2⟩=>by rw[Aj,Ao,h1,h2];rfl)];exact told _ (this.map _)
  ·have hbf:w.params.followText "set-order"=false:=Bz.mpr hbt;have h1:es.size<=1:=by
    rcases hc with h|h|h
    ·exact absurd h hbt
    ·refine Cw fun q=>?_;rw[hpl (by lia)] at h;cases h
    ·exact h
   refine hQ _ es.size _ _ _ _ hz (oJ hh nD hbf (by rw[hl];unfold bV;rw[hbf];rfl) h1 hd hf rfl) ⟨⟨0,g1,?_⟩,g2⟩ (zX _) hfp (fun b u e=>DE _ e) rfl rfl fun acc ha=>?_
   ·refine(iu t.place ?_).1;have:=hf;unfold SetTable.fits at this;rw[AK,DP] at this;rw[this.1];exact h1
   ·rw[fZ (vs:=es.toList.map (·.2)) ha (by rw[zY,Ab]) (fun j v ⟨e,h1,h2⟩=>by rw[Aj,Ao,h1,h2];rfl)];exact told _ (.refl _)
 ·generalize hH1:s.heap.push (seqObj "tuple" (ps.map fun i=>rawInt (i:Nat)).toArray 0)=hp1;have z1:hp1.objs.size=s.heap.objs.size+1:=by rw[<- hH1,DM]
  have k1:∀b u,s.heap.get? b=some u->hp1.get? b=some u:=fun b u e=>by rw[<- hH1];exact DE _ e
  have gP:hp1.get? s.heap.objs.size=some (seqObj "tuple" (ps.map fun i=>rawInt (i:Nat)).toArray 0):=by rw[<- hH1];exact DG _ rfl
  have g1:(hp1.push (siO (.ref s.heap.objs.size) 0 D es.size ep)).get? (s.heap.objs.size+1)=some (siO (.ref s.heap.objs.size) 0 D es.size ep):=by rw[<- z1];exact DG _ rfl
  refine hQ _ es.size _ _ _ _ hz (jW (I:=s.heap.objs.size+1) (Pl:=s.heap.objs.size) hh (fun e=>absurd hlt (by rw[e];exact Nat.not_lt.mpr (Bb _))) (Ac (AY _)) hd hf rfl hps fun i s Q E h q=>iG h q) ⟨g1,DE _ (k1 _ _ ho),DE _ gP⟩ (Bb _) (fun b hb=>?_) (fun b u e=>DE _ (k1 b u e)) rfl rfl fun acc ha=>?_
  ·simp only[Ag,AN,or_false] at hb;rcases hb with rfl|rfl|rfl
   ·exact .inr (Bb _)
   ·exact .inl rfl
   ·exact .inr (zX _)
  ·rw[fZ (vs:=ps.map fun p=>(es.toList.getD p (0,.none)).2) ha (by rw[zY,hps.length_eq,BD]) (fun j v hq86=>by
    obtain⟨p,e,h1,h2,h3⟩:=hq86;rw[Aj,h1,h3];show some (es.toList.getD p (0,.none)).2=_
    rw[Aw,Ao,h2]; rfl)]
   refine told _ ((hps.map _).trans ?_);have:(List.range es.size).map (fun p=>(es.toList.getD p (0,.none)).2)=es.toList.map (·.2):=by
    refine Co fun j=>?_;rw[Aj,Aj];by_cases hj:j<es.size
    ·rw[List.getElem?_range hj];show some (es.toList.getD j (0,.none)).2=_;rw[Aw,Ao,AM hj];rfl
    ·rw[BZ (by rw[BD];lia),Ao,CJ (by lia)];rfl
   rw[this]
end
theorem HY:splitId "set.__len__"=some ("set","__len__"):=by kernel_rfl
section
variable {prog:Program}{w:World}{A:Around}{E:Value->Shared->Prop}{s:Shared}{o:Obj}{D:Addr}
theorem pd{Q:Bool->Shared->Prop}(hT:s.TypeIs (.ref D) "set")(h:Q false s):wpAny (model prog w) A (Builtin.List.listLengthHint (.ref D)) Q E s:=by
 unfold Builtin.List.listLengthHint;refine Dd (wpAny_specialOf hT F.slot_set_len.lookup ?_);dsimp only;rw[HY];dsimp only;refine Dd (wpAny_isInstance hT sub_set_self ?_);refine wpAny_ite ?_;rw[Dh (show ¬(!true)=true from AB)];refine wpAny_ite ?_;rw[Di]
 ·exact Dd (wpAny_typeOf hT (De h))
 ·kernel_rfl
theorem jh{ys:List Str}{Q:List Value->Shared->Prop}(hh:A.handled=none)(ho:s.heap.get? D=some o)(hS:EO prog w (bV w) o ys)(hb:(ddS ys).length<scanBound)
  (hQ:∀s' vs,(∀b u,s.heap.get? b=some u->s'.heap.get? b=some u)->s.heap.objs.size<=s'.heap.objs.size->s'.gens=s.gens->s'.os=s.os->(vs.map strOf).Perm (ddS ys)->(∀v∈vs,∃x t,v=.str x t)->Q vs s'):wpAny (model prog w) A (collect (.ref D)) Q E s:=by
 have hex:=hS.1;have hT:∀h' tk d,(∀b u,s.heap.get? b=some u->h'.get? b=some u)->({s with heap:=h',toks:=tk,drawn:=d}:Shared).TypeIs (.ref D) "set":=fun h' tk d hk=>⟨o,hk _ _ ho,hex.1⟩
 unfold collect;refine Dd (wpAny_runValue (codeAny_builtin F.entry_proto_collect ?_));rw[Around.under_plainId F.plain_proto_collect _];show wpAny _ A.in1 (newList [] >>= fun l=>again (.builtin "list.__iadd__" ⟨[l,.ref D],[]⟩)) _ _ s;refine Dd (wpAny_newObj_type (De ⟨plainId_quiet F.plain_list_iadd _,codeAny_builtin F.entry_list_iadd ?_⟩));rw[Around.under_plainId F.plain_list_iadd _];show wpAny _ A.in1 (Builtin.List.listExtendWith (.ref s.heap.objs.size) (.ref D) (.ref s.heap.objs.size)) _ _ _;unfold Builtin.List.listExtendWith;have k1:∀b u,s.heap.get? b=some u->(s.heap.push {cls:=.type "list",data:=.seq ([]:List Value).toArray}).get? b=some u:=fun b u e=>DE _ e;refine Dd (wpAny_typeOf (hT _ _ _ k1) ?_);have hSD:s.heap.objs.size≠D:=fun e=>absurd (Dp ho) (by rw[e];exact AD _);have h1:Builtin.List.listSameRef (.ref s.heap.objs.size) (.ref D)=false:=by simp[Builtin.List.listSameRef,hSD]
 have h2:(Value.type "set" == Value.type "list")=false:=by decide
 have h3:(Value.type "set" == Value.type "tuple")=false:=by decide
 simp only[h1,h2,h3,Bool.or_false,BC,if_false];generalize hH1:s.heap.push {cls:=.type "list",data:=.seq ([]:List Value).toArray}=h1' at k1 ⊢;have hS1:h1'.get? s.heap.objs.size=some {cls:=.type "list",data:=.seq ([]:List Value).toArray}:=by rw[<- hH1];exact DG _ rfl
 have hz1:h1'.objs.size=s.heap.objs.size+1:=by rw[<- hH1,DM]
 refine Dd (me (B:=A.in1) (s:={s with heap:=h1'}) hh (k1 _ _ ho) hS hb fun I n fp P St s1 hn W st0 hI hfp hk hg hos hacc=>?_);have hSf:s.heap.objs.size∉fp:=fun hm=>by
  rcases hfp _ hm with e|e
  ·exact hSD e
  ·rw[show({s with heap:=h1'}:Shared).heap.objs.size=s.heap.objs.size+1 from hz1] at e;exact absurd e (Nat.not_le.mpr (AY _))
 refine Dd (Dm (pd ⟨o,hk _ _ (k1 _ _ ho),hex.1⟩ (wpAny_ite ?_)));rw[Di]
 ·have g1:=hk _ _ hS1;have g2:=Heap.get?_update_self (Obj.mapSeq (·.push Value.none)) g1 rfl;have g3:=Heap.get?_update_self (Obj.mapSeq (·.pop)) g2 rfl;refine Dd (DN (Dd (show wpAny _ A.in1 (updateSeq s.heap.objs.size (·.push .none) >>= fun _=>updateSeq s.heap.objs.size (·.pop)) _ _ _ from Dd (wpAny_updateSeq g1 rfl (wpAny_updateSeq g2 rfl ?_)))));refine De ⟨plainId_quiet F.plain_extend_loop _,codeAny_extend_loopS W hn _ hSf _ n 0 _ _ _ rfl (Ah _) (W.frame 0 s1 _ s1.toks st0 (zX _) fun b hb u e=>?_) g3 (ItemsOf.nil P) fun s' acc c' hm hS' ha=>?_⟩
  ·have nb:s.heap.objs.size≠b:=fun q=>hSf (by rw[q];exact hb);exact(Heap.get?_update_other _ _ nb).trans ((Heap.get?_update_other _ _ nb).trans e)
  ·obtain⟨a1,a2⟩:=hacc acc ha;refine Dd (wpAny_load hS' (De (hQ s' acc.toList (fun b u e=>?_) (AW (Dp hS')) ?_ ?_ a1 a2)))
   ·have hlt:b<s.heap.objs.size:=Dp e;have nb:s.heap.objs.size≠b:=DC (Ac hlt);refine hm.heap b u (fun q=>?_) ((Heap.get?_update_other _ _ nb).trans ((Heap.get?_update_other _ _ nb).trans (hk b u (k1 b u e))));rcases Ag.mp q with q|q
    ·exact nb q.symm
    ·rw[AA.mp q] at hlt;have:s.heap.objs.size+1<=I:=by rw[<- hz1];exact hI
     exact absurd hlt (Nat.not_lt.mpr (Nat.le_of_succ_le this))
   ·exact hm.gens.trans hg
   ·exact hm.os.trans hos
 ·kernel_rfl
end
section
variable {prog:Program}{w:World}{A:Around}{E:Value->Shared->Prop}{s:Shared}{o:Obj}{D:Addr}{ys:List Str}
end
section
variable {X:Cx}{x:Str}{p pos:Pos}{e:Expr}{t:GN}
end
abbrev NxS(n i:Nat)(P:Nat->List Str->Hp->Prop)(ys:List Str)(H:Hp):Prop:=∃m',m'<n-i/\(m'=n-(i+1)/\i+1<=n/\P (i+1) ys H)
theorem NxS.mk{n i:Nat}{P:Nat->List Str->Hp->Prop}{ys:List Str}{H:Hp}(hi:i<n)(h:P (i+1) ys H):NxS n i P ys H:=⟨n-(i+1),by lia,rfl,hi,h⟩
section
variable {prog:Program}{w:World}{A:Around}{E:Value->Shared->Prop}{s:Shared}
end
section
variable {X:Cx}
end
section
variable {X:Cx}{k v:Expr}{pos:Pos}{tk tv:TE}
end
end L2
namespace SG
open PySem PyProof.Rows
def kf (κ:KeyKind)(p:Keyed):κ.α:=(κ.keyOf p.1).getD κ.dflt
def Has (κ:KeyKind)(p:Keyed):Prop:=∃a,κ.keyOf p.1=some a
def IY:Bool->Keyed->Array Keyed->Nat->Nat->Nat->StateT SortSt Sem (Option Nat):=sortPriv% PySem.Builtin.gallop
section
variable {prog:Program}{w:World}{A:Around}{E:Value->Shared->Prop}{s:Shared}{κ:KeyKind}{st:SortSt}
theorem aH{arr:Array Keyed}{i:Nat}{p:Keyed}{Q:Keyed->SortSt->Prop}(e:arr[i]?=some p)(h:Q p st):wpS (model prog w) A E s (elem' arr i) Q st:=by
 rw[elem'_eq,e];exact Dg h
theorem fF{x y:Keyed}{Q:Option Bool->SortSt->Prop}(hO:κ.OneLt)(hk:kindOf st=oneType')(hx:Has κ x)(hy:Has κ y)(h:Q (some (κ.blt (kf κ x) (kf κ y))) st):wpS (model prog w) A E s (lt' x y) Q st:=by
 obtain⟨a,ha⟩:=hx;obtain⟨b,hb⟩:=hy;unfold kf at h;rw[ha,hb] at h;rw[lt'_eq];refine Df (wpS_get ?_);rw[hk,keyLt'_oneType];exact Df (wpS_lift (DJ (hO prog w A _ s x.1 y.1 a b ha hb ⟨rfl,Dg h⟩)))
theorem bN{left:Bool}{key:Keyed}{arr:Array Keyed}{base n hint:Nat}{Q:Option Nat->SortSt->Prop}(hO:κ.OneLt)(hk:kindOf st=oneType')(hkey:Has κ key)(ps:Nat->Keyed)(harr:∀i,i<n->arr[base+i]?=some (ps i)/\Has κ (ps i))(hn:hint<n)(B:Nat->Bool)
  (hB:∀i,B i=if left=true then κ.blt (kf κ (ps i)) (kf κ key) else !κ.blt (kf κ key) (kf κ (ps i)))(mono:∀i j,i<=j->j<n->B j=true->B i=true)
  (h:∀k,k<=n->(∀i,i<k->B i=true)->(∀i,k<=i->i<n->B i=false)->Q (some k) st):wpS (model prog w) A E s (IY left key arr base n hint) Q st:=by
 have anti:∀i j,i<=j->j<n->B i=false->B j=false:=fun i j hij hj hi=>by
  cases e:B j with
  |false=>rfl
  |true=>rw[mono i j hij hj e] at hi;cases hi
 have hb:∀i,i < n->∀Q':Option Bool->SortSt->Prop,Q' (some (B i)) st->wpS (model prog w) A E s (do
   let x <- elem' arr (base+i)
   if left=true then lt' x key else do
    let r <- lt' key x
    pure (Option.map (fun x=>!x) r)) Q' st:=fun i hi Q' q=>by
  obtain⟨e,hp⟩:=harr i hi;refine Df (aH e ?_);rw[hB i] at q;cases left with
  |true=>
   simp only[if_true] at q ⊢;exact fF hO hk hp hkey q
  |false=>
   simp only[BC,if_false] at q ⊢;exact Df (fF hO hk hkey hp (Dg q))
 refine Df (hb hint hn _ ?_);cases hr:B hint with
 |true=>
  refine Df (wpS_mono (wpS_forRange (I:=fun x c st'=>st'=st/\c.1=none/\x+1<=c.2.2/\c.2.1 < c.2.2/\hint+c.2.1 < n/\B (hint+c.2.1)=true)
   (Q:=fun c st'=>st'=st/\c.1=none/\c.2.1 < c.2.2/\hint+c.2.1 < n/\B (hint+c.2.1)=true/\(n - hint<=c.2.2\/B (hint+c.2.2)=false)) ?step ?fin ⟨rfl,rfl,by show 0+1<=1; lia,by show 0 < 1; lia,by show hint+0 < n; exact hn,by show B (hint+0)=true; exact hr⟩) ?post)
  case fin=>
   rintro⟨c0,l,o⟩ st' ⟨rfl,e0,a1,a2,a3,a4⟩;exact⟨rfl,e0,a2,a3,a4,.inl (by have:max 0 n+1<=o:=a1;show n-hint<=o;lia)⟩
  case post=>
   rintro⟨c0,l,o⟩ st' ⟨rfl,e0,a2,a3,a4,a5⟩;cases e0;dsimp only at a2 a3 a4 a5 ⊢;have h1:hint+l+1<=hint+min o (n-hint):=by lia
   have h2:hint+min o (n-hint)<=n:=by lia
   have h3:∀i,i<hint+l+1->B i=true:=fun i hi=>mono i _ (by lia) a3 a4;have h4:∀i,hint+min o (n-hint)<=i->i<n->B i=false:=fun i hi hn'=>by
    rcases a5 with a5|a5
    ·lia
    ·by_cases hm:o<=n-hint
     ·exact anti _ i (by lia) hn' a5
     ·lia
   generalize hint+l+1=lo at h1 h3 ⊢;generalize hint+min o (n-hint)=hi at h1 h2 h4 ⊢
   refine Df (wpS_mono (wpS_forRange (I:=fun x c st''=>st''=st'/\c.1=none/\c.2.1<=c.2.2/\c.2.2<=n/\c.2.2 - c.2.1<=n - x/\(∀i,i < c.2.1->B i=true)/\(∀i,c.2.2<=i->i < n->B i=false))
    (Q:=fun c st''=>st''=st'/\c.1=none/\c.2.1=c.2.2/\c.2.2<=n/\(∀i,i < c.2.2->B i=true)/\(∀i,c.2.2<=i->i < n->B i=false)) ?step2 ?fin2 ⟨rfl,rfl,h1,h2,(by show hi - lo<=n - 0; lia),h3,h4⟩) ?post2)
   case fin2=>
    rintro⟨c0,l,r⟩ st' ⟨rfl,e0,a1,a2,a3,a4,a5⟩;have a3':r-l<=n-max 0 n:=a3;have e:l=r:=by
     have:l<=r:=a1
     lia
    exact⟨rfl,e0,e,a2,by rw[e] at a4;exact a4,a5⟩
   case post2=>
    rintro⟨c0,l,r⟩ st' ⟨rfl,e0,a1,a2,a4,a5⟩;cases e0;exact Dg (h r a2 a4 a5)
   case step2=>
    rintro x ⟨c0,l,r⟩ st' _ hx ⟨rfl,e0,a1,a2,a3,a4,a5⟩;cases e0;dsimp only at a1 a2 a3 a4 a5 ⊢;by_cases hge:l≥r
    ·rw[Di hge];have e:l=r:=by lia
     subst e;exact Dg ⟨rfl,rfl,rfl,a2,a4,a5⟩
    ·rw[Dh hge];refine Df (hb _ (by lia) _ ?_);cases hm:B (l+(r-l)/2) with
     |true=>
      simp only[if_true];exact Dg ⟨rfl,rfl,by show l+(r-l)/2+1<=r;lia,a2,by show r-(l+(r-l)/2+1)<=n-(x+1);lia,fun i hi=>mono i _ (by have:i<l+(r-l)/2+1:=hi;lia) (by lia) hm,a5⟩
     |false=>
      simp only[BC,if_false];exact Dg ⟨rfl,rfl,by show l<=l+(r-l)/2;lia,by show l+(r-l)/2<=n;lia,by show l+(r-l)/2-l<=n-(x+1);lia,a4,fun i hi hn'=>anti _ i hi hn' hm⟩
  case step=>
   rintro x ⟨c0,l,o⟩ st' _ hx ⟨rfl,e0,a1,a2,a3,a4⟩;cases e0;dsimp only at a1 a2 a3 a4 ⊢;by_cases hge:o≥n-hint
   ·rw[Di hge];exact Dg ⟨rfl,rfl,a2,a3,a4,.inl hge⟩
   ·rw[Dh hge];refine Df (hb _ (by lia) _ ?_);cases hm:B (hint+o) with
    |true=>exact Dg ⟨rfl,rfl,by show x+1+1<=2*o+1;lia,by show o<2*o+1;lia,by show hint+o<n;lia,hm⟩
    |false=>exact Dg ⟨rfl,rfl,a2,a3,a4,.inr hm⟩
 |false=>
  refine Df (wpS_mono (wpS_forRange (I:=fun x c st'=>st'=st/\c.1=none/\x+1<=c.2.2/\c.2.1 < c.2.2/\c.2.1<=hint/\B (hint - c.2.1)=false)
   (Q:=fun c st'=>st'=st/\c.1=none/\c.2.1 < c.2.2/\c.2.1<=hint/\B (hint - c.2.1)=false/\(hint+1<=c.2.2\/B (hint - c.2.2)=true)) ?step ?fin ⟨rfl,rfl,by show 0+1<=1; lia,by show 0 < 1; lia,by show 0<=hint; lia,by show B (hint - 0)=false; exact hr⟩) ?post)
  case fin=>
   rintro⟨c0,l,o⟩ st' ⟨rfl,e0,a1,a2,a3,a4⟩;exact⟨rfl,e0,a2,a3,a4,.inl (by have:max 0 n+1<=o:=a1;show hint+1<=o;lia)⟩
  case post=>
   rintro⟨c0,l,o⟩ st' ⟨rfl,e0,a2,a3,a4,a5⟩;cases e0;dsimp only at a2 a3 a4 a5 ⊢;have h1:hint+1-min o (hint+1)<=hint-l:=by lia
   have h2:hint-l<=n:=by lia
   have h3:∀i,i<hint+1-min o (hint+1)->B i=true:=fun i hi=>by
    rcases a5 with a5|a5
    ·lia
    ·by_cases hm:o<=hint
     ·exact mono i _ (by lia) (by lia) a5
     ·lia
   have h4:∀i,hint-l<=i->i<n->B i=false:=fun i hi hn'=>anti _ i (by lia) hn' a4;generalize hint+1-min o (hint+1)=lo at h1 h3 ⊢;generalize hint-l=hi at h1 h2 h4 ⊢
   refine Df (wpS_mono (wpS_forRange (I:=fun x c st''=>st''=st'/\c.1=none/\c.2.1<=c.2.2/\c.2.2<=n/\c.2.2 - c.2.1<=n - x/\(∀i,i < c.2.1->B i=true)/\(∀i,c.2.2<=i->i < n->B i=false))
    (Q:=fun c st''=>st''=st'/\c.1=none/\c.2.1=c.2.2/\c.2.2<=n/\(∀i,i < c.2.2->B i=true)/\(∀i,c.2.2<=i->i < n->B i=false)) ?step2 ?fin2 ⟨rfl,rfl,h1,h2,(by show hi - lo<=n - 0; lia),h3,h4⟩) ?post2)
   case fin2=>
    rintro⟨c0,l,r⟩ st' ⟨rfl,e0,a1,a2,a3,a4,a5⟩;have a3':r-l<=n-max 0 n:=a3;have e:l=r:=by
     have:l<=r:=a1
     lia
    exact⟨rfl,e0,e,a2,by rw[e] at a4;exact a4,a5⟩
   case post2=>
    rintro⟨c0,l,r⟩ st' ⟨rfl,e0,a1,a2,a4,a5⟩;cases e0;exact Dg (h r a2 a4 a5)
   case step2=>
    rintro x ⟨c0,l,r⟩ st' _ hx ⟨rfl,e0,a1,a2,a3,a4,a5⟩;cases e0;dsimp only at a1 a2 a3 a4 a5 ⊢;by_cases hge:l≥r
    ·rw[Di hge];have e:l=r:=by lia
     subst e;exact Dg ⟨rfl,rfl,rfl,a2,a4,a5⟩
    ·rw[Dh hge];refine Df (hb _ (by lia) _ ?_);cases hm:B (l+(r-l)/2) with
     |true=>
      simp only[if_true];exact Dg ⟨rfl,rfl,by show l+(r-l)/2+1<=r;lia,a2,by show r-(l+(r-l)/2+1)<=n-(x+1);lia,fun i hi=>mono i _ (by have:i<l+(r-l)/2+1:=hi;lia) (by lia) hm,a5⟩
     |false=>
      simp only[BC,if_false];exact Dg ⟨rfl,rfl,by show l<=l+(r-l)/2;lia,by show l+(r-l)/2<=n;lia,by show l+(r-l)/2-l<=n-(x+1);lia,a4,fun i hi hn'=>anti _ i hi hn' hm⟩
  case step=>
   rintro x ⟨c0,l,o⟩ st' _ hx ⟨rfl,e0,a1,a2,a3,a4⟩;cases e0;dsimp only at a1 a2 a3 a4 ⊢;by_cases hge:o≥hint+1
   ·rw[Di hge];exact Dg ⟨rfl,rfl,a2,a3,a4,.inl hge⟩
   ·rw[Dh hge];refine Df (hb _ (by lia) _ ?_);cases hm:B (hint-o) with
    |true=>exact Dg ⟨rfl,rfl,a2,a3,a4,.inr hm⟩
    |false=>exact Dg ⟨rfl,rfl,by show x+1+1<=2*o+1;lia,by show o<2*o+1;lia,by show o<=hint;lia,hm⟩
end
def kl (κ:KeyKind)(x y:Keyed):Prop:=κ.kle (kf κ x) (kf κ y)
theorem kl.trans{κ:KeyKind}{x y z:Keyed}(a:kl κ x y)(b:kl κ y z):kl κ x z:=KeyOrd.kle_trans a b
structure MI(κ:KeyKind)(A B out ra rb:List Keyed):Prop where
 perm:(out++(ra++rb)).Perm (A++B)
 so:out.Pairwise (kl κ)
 sa:ra.Pairwise (kl κ)
 sb:rb.Pairwise (kl κ)
 le:∀x∈out,∀y∈ra++rb,kl κ x y
def Fin (κ:KeyKind)(A B r:List Keyed):Prop:=r.Perm (A++B)/\r.Pairwise (kl κ)
section
variable {κ:KeyKind}{A B out ra rb:List Keyed}
theorem lJ{l:List Keyed}{p:Keyed}(h:l.Pairwise (kl κ))(e:l[0]?=some p):∀y∈l,kl κ p y:=fun y hy=>by
 cases l with
 |nil=>cases e
 |cons a r=>
  cases e;rcases Ag.mp hy with rfl|hy
  ·exact Dx _
  ·exact(CH.mp h).1 y hy
theorem MI.HQ(h:MI κ A B out ra rb)(k:Nat)(hk:∀x∈ra.take k,∀y∈rb,kl κ x y):MI κ A B (out++ra.take k) (ra.drop k) rb:=by
 have e:ra=ra.take k++ra.drop k:=(AU k ra).symm;have sa:=h.sa;rw[e] at sa;obtain⟨s1,s2,s3⟩:=AO.mp sa;refine⟨?_,AO.mpr ⟨h.so,s1,fun x hx y hy=>h.le x hx y (Ay _ (Bj hy))⟩,s2,h.sb,fun x hx y hy=>?_⟩
 ·rw[AG,<- AG (ra.take k),AU];exact h.perm
 ·rcases Ai.mp hx with hx|hx
  ·rcases Ai.mp hy with hy|hy
   ·exact h.le x hx y (Ay _ (Br hy))
   ·exact h.le x hx y (Ae _ hy)
  ·rcases Ai.mp hy with hy|hy
   ·exact s3 x hx y hy
   ·exact hk x hx y hy
theorem MI.HP(h:MI κ A B out ra rb)(k:Nat)(hk:∀x∈rb.take k,∀y∈ra,kl κ x y):MI κ A B (out++rb.take k) ra (rb.drop k):=by
 have e:rb=rb.take k++rb.drop k:=(AU k rb).symm;have sb:=h.sb;rw[e] at sb;obtain⟨s1,s2,s3⟩:=AO.mp sb;refine⟨?_,AO.mpr ⟨h.so,s1,fun x hx y hy=>h.le x hx y (Ae _ (Bj hy))⟩,h.sa,s2,fun x hx y hy=>?_⟩
 ·refine List.Perm.trans ?_ h.perm;rw[AG];refine List.Perm.append_left _ ?_;rw[<- AG];refine(BR.append_right _).trans ?_;rw[AG,AU]
 ·rcases Ai.mp hx with hx|hx
  ·rcases Ai.mp hy with hy|hy
   ·exact h.le x hx y (Ay _ hy)
   ·exact h.le x hx y (Ae _ (Br hy))
  ·rcases Ai.mp hy with hy|hy
   ·exact hk x hx y hy
   ·exact s3 x hx y hy
theorem MI.last(h:MI κ A B out ra rb)(hk:∀x∈rb,∀y∈ra,kl κ x y):Fin κ A B (out++rb++ra):=by
 refine⟨?_,AO.mpr ⟨AO.mpr ⟨h.so,h.sb,fun x hx y hy=>h.le x hx y (Ae _ hy)⟩,h.sa,fun x hx y hy=>?_⟩⟩
 ·rw[AG];exact(BR.append_left _).trans h.perm
 ·rcases Ai.mp hx with hx|hx
  ·exact h.le x hx y (Ay _ hy)
  ·exact hk x hx y hy
theorem MI.done(h:MI κ A B out ra rb)(hk:∀x∈ra,∀y∈rb,kl κ x y):Fin κ A B (out++ra++rb):=by
 refine⟨by rw[AG];exact h.perm,AO.mpr ⟨AO.mpr ⟨h.so,h.sa,fun x hx y hy=>h.le x hx y (Ay _ hy)⟩,h.sb,fun x hx y hy=>?_⟩⟩;rcases Ai.mp hx with hx|hx
 ·exact h.le x hx y (Ae _ hy)
 ·exact hk x hx y hy
end
section
variable {α:Type}
theorem dO(a:Array α)(i:Nat):(a.extract i a.size).toList=a.toList.drop i:=by
 rw[Ca];show(a.toList.drop i).take (a.size-i)=_;exact Av (by rw[AR,Ab];exact zX _)
theorem kI(a:Array α)(i k:Nat):(a.extract i (i+k)).toList=(a.toList.drop i).take k:=by
 rw[Ca];show(a.toList.drop i).take (i+k-i)=_;rw[Nat.add_sub_cancel_left]
theorem cT{l:List α}{i:Nat}{p:α}(e:l[i]?=some p):(l.drop i).take 1=[p]:=by
 have hi:=(Ad.mp e).1;rw[BA hi,List.take_succ_cons,Cc];exact congrArg (fun x=>[x]) (Ad.mp e).2
theorem drop_zero{l:List α}{i:Nat}:(l.drop i)[0]?=l[i]?:=by rw[Bf,Bk]
end
section
variable {prog:Program}{w:World}{A:Around}{E:Value->Shared->Prop}{s:Shared}{κ:KeyKind}{st:SortSt}
theorem aA{α:Type}{c:Prop} [Decidable c]{m n:StateT SortSt Sem α}{Q:α->SortSt->Prop}(h1:c->wpS (model prog w) A E s m Q st)(h2:¬c->wpS (model prog w) A E s n Q st):wpS (model prog w) A E s (if c then m else n) Q st:=by
 by_cases h:c
 ·rw[Di h];exact h1 h
 ·rw[Dh h];exact h2 h
structure Ep(st st':SortSt):Prop where
 kind:kindOf st'=kindOf st
 arr:arrOf st'=arrOf st
 pend:pendingOf st'=pendingOf st
 fail:failedOf st'=failedOf st
theorem Ep.refl(st:SortSt):Ep st st:=⟨rfl,rfl,rfl,rfl⟩
theorem Ep.trans{a b c:SortSt}(h:Ep a b)(g:Ep b c):Ep a c:=⟨g.kind.trans h.kind,g.arr.trans h.arr,g.pend.trans h.pend,g.fail.trans h.fail⟩
theorem Ep.set(st:SortSt)(g:Nat):Ep st (SortSt.mk' (kindOf st) (arrOf st) (pendingOf st) g (failedOf st)):=⟨rfl,rfl,rfl,rfl⟩
theorem fG{g:Nat}{Q:Unit->SortSt->Prop}(h:∀st',Ep st st'->Q () st'):wpS (model prog w) A E s ((sortPriv% PySem.Builtin.setMinGallop) g) Q st:=wpS_modify (h _ (Ep.set st g))
def HS:Array Keyed->Array Keyed->StateT SortSt Sem (Array Keyed):=sortPriv% PySem.Builtin.mergeLo
theorem jg{a b:Array Keyed}{Q:Array Keyed->SortSt->Prop}(hO:κ.OneLt)(hk:kindOf st=oneType')(ka:∀p∈a.toList,Has κ p)(kb:∀p∈b.toList,Has κ p)(sa:a.toList.Pairwise (kl κ))(sb:b.toList.Pairwise (kl κ))
  (na:1<=a.size)(nb:1<=b.size)(h0:∀y∈a.toList,∀p,b[0]?=some p->kl κ p y)(hl:∀x∈b.toList,∀p,a[a.size-1]?=some p->kl κ x p)
  (h:∀r st',Ep st st'->Fin κ a.toList b.toList r.toList->Q r st'):wpS (model prog w) A E s (HS a b) Q st:=by
 have ea:∀i,i<a.size->∃p,a[i]?=some p/\a.toList[i]?=some p/\Has κ p:=fun i hi=>by
  have e:a.toList[i]?=some a[i]:=by rw[Ao];exact AM hi
  exact⟨a[i],AM hi,e,ka _ (Am e)⟩
 have eb:∀i,i<b.size->∃p,b[i]?=some p/\b.toList[i]?=some p/\Has κ p:=fun i hi=>by
  have e:b.toList[i]?=some b[i]:=by rw[Ao];exact AM hi
  exact⟨b[i],AM hi,e,kb _ (Am e)⟩
 have last1:∀{ia:Nat},ia+1=a.size->∀x∈b.toList,∀y∈a.toList.drop ia,kl κ x y:=fun {ia} hi x hx y hy=>by
  obtain⟨p,e1,e2,_⟩:=ea ia (by lia);have hd:a.toList.drop ia=[p]:=by
   rw[<- cT e2,Av (by rw[AR,Ab];lia)]
  rw[hd] at hy;rw[AA.mp hy];exact hl x hx p (by rw[show a.size-1=ia by lia];exact e1)
 have finL:∀{out:Array Keyed}{ia ib:Nat},MI κ a.toList b.toList out.toList (a.toList.drop ia) (b.toList.drop ib)->ia+1=a.size->Fin κ a.toList b.toList (out++b.extract ib b.size++a.extract ia a.size).toList:=fun {out ia ib} m hi=>by
  rw[AS,AS,dO,dO];exact m.last fun x hx y hy=>last1 hi x (Br hx) y hy
 have finD:∀{out:Array Keyed}{ia ib:Nat},MI κ a.toList b.toList out.toList (a.toList.drop ia) (b.toList.drop ib)->ib=b.size->Fin κ a.toList b.toList (out++a.extract ia a.size++b.extract ib b.size).toList:=fun {out ia ib} m hi=>by
  rw[AS,AS,dO,dO];refine m.done fun x hx y hy=>?_;rw[BS (by rw[Ab];lia)] at hy;cases hy
 have goA:∀{out:Array Keyed}{ia ib k:Nat}{q:Keyed},MI κ a.toList b.toList out.toList (a.toList.drop ia) (b.toList.drop ib)->b.toList[ib]?=some q->(∀i x,i<k->a.toList[ia+i]?=some x->kl κ x q)->MI κ a.toList b.toList (out.toList++(a.toList.drop ia).take k) (a.toList.drop (ia+k)) (b.toList.drop ib):=fun {out ia ib k q} m eq hk=>by
  have:=m.HQ k fun x hx y hy=>by
   obtain⟨i,hi,e⟩:=Bm.mp hx;rw[Af] at hi;have e':a.toList[ia+i]?=some x:=by
    rw[<- Bf,<- e,List.getElem_take];exact Aa (by lia)
   exact(hk i x (by lia) e').trans (lJ m.sb (drop_zero.trans eq) y hy)
  rwa [CK] at this
 have goB:∀{out:Array Keyed}{ia ib k:Nat}{q:Keyed},MI κ a.toList b.toList out.toList (a.toList.drop ia) (b.toList.drop ib)->a.toList[ia]?=some q->(∀i x,i<k->b.toList[ib+i]?=some x->kl κ x q)->MI κ a.toList b.toList (out.toList++(b.toList.drop ib).take k) (a.toList.drop ia) (b.toList.drop (ib+k)):=fun {out ia ib k q} m eq hk=>by
  have:=m.HP k fun x hx y hy=>by
   obtain⟨i,hi,e⟩:=Bm.mp hx;rw[Af] at hi;have e':b.toList[ib+i]?=some x:=by
    rw[<- Bf,<- e,List.getElem_take];exact Aa (by lia)
   exact(hk i x (by lia) e').trans (lJ m.sa (drop_zero.trans eq) y hy)
  rwa [CK] at this
 have pushA:∀{out:Array Keyed}{ia ib:Nat}{p q:Keyed},MI κ a.toList b.toList out.toList (a.toList.drop ia) (b.toList.drop ib)->a.toList[ia]?=some p->b.toList[ib]?=some q->kl κ p q->MI κ a.toList b.toList (out.push p).toList (a.toList.drop (ia+1)) (b.toList.drop ib):=fun {out ia ib p q} m ep eq hk=>by
  have:=goA (k:=1) m eq fun i x hi e=>by
   have:i=0:=by lia
   subst this;rw[Bk,ep] at e;cases e;exact hk
  rwa [cT ep,<- Bq] at this
 have pushB:∀{out:Array Keyed}{ia ib:Nat}{p q:Keyed},MI κ a.toList b.toList out.toList (a.toList.drop ia) (b.toList.drop ib)->a.toList[ia]?=some p->b.toList[ib]?=some q->kl κ q p->MI κ a.toList b.toList (out.push q).toList (a.toList.drop ia) (b.toList.drop (ib+1)):=fun {out ia ib p q} m ep eq hk=>by
  have:=goB (k:=1) m ep fun i x hi e=>by
   have:i=0:=by lia
   subst this;rw[Bk,eq] at e;cases e;exact hk
  rwa [cT eq,<- Bq] at this
 refine Df (wpS_lift (DN ⟨rfl,?_⟩));obtain⟨q0,f1,f2,f3⟩:=eb 0 (by lia);refine Df (aH f1 ?_);have m0:MI κ a.toList b.toList (#[q0]:Array Keyed).toList (a.toList.drop 0) (b.toList.drop 1):=by
  have start:MI κ a.toList b.toList (#[]:Array Keyed).toList (a.toList.drop 0) (b.toList.drop 0):=⟨.refl _,.nil,sa,sb,fun x hx=>by cases hx⟩
  have:=start.HP 1 fun x hx y hy=>by
   have:(b.toList.drop 0).take 1=[q0]:=cT f2;rw[this] at hx;rw[AA.mp hx];exact h0 y hy q0 f1
  rw[cT f2,CK] at this;exact this
 refine aA (fun e=>Dg (h _ st (.refl st) (finD m0 (by simpa using e)))) fun e1=>aA (fun e=>Dg (h _ st (.refl st) (finL m0 (by simpa using e)))) fun e2=>?_;have hb1:1<b.size:=by
  have:¬1=b.size:=by simpa using e1
  lia
 have ha1:0+1<a.size:=by
  have:¬0+1=a.size:=by simpa using e2
  lia
 refine Df (wpS_get ?_)
 refine Df (wpS_mono (wpS_forRange (I:=fun x c st'=>Ep st st'/\c.1=none/\MI κ a.toList b.toList c.2.1.toList (a.toList.drop c.2.2.1) (b.toList.drop c.2.2.2.1)/\c.2.2.1+1 < a.size/\c.2.2.2.1 < b.size/\x < c.2.2.1+c.2.2.2.1)
  (Q:=fun c st'=>Ep st st'/\∃r,c.1=some r/\Fin κ a.toList b.toList r.toList) ?step ?fin ⟨.refl st,rfl,m0,ha1,hb1,by show 0 < 0+1; lia⟩) ?post)
 case fin=>
  rintro⟨c0,out,ia,ib,mg⟩ st' ⟨_,_,_,a1,a2,a3⟩;exfalso;have a1':ia+1<a.size:=a1;have a2':ib<b.size:=a2;have a3':max 0 (a.size+b.size)<ia+ib:=a3
  lia
 case post=>
  rintro⟨c0,out,ia,ib,mg⟩ st' ⟨g,r,e,f⟩;cases e;exact Dg (h r st' g f)
 case step=>
  rintro x ⟨c0,out,ia,ib,mg⟩ st1 _ hx ⟨g1,e0,m1,a1,a2,a3⟩;cases e0;dsimp only at m1 a1 a2 a3
  refine Df (wpS_mono (wpS_forRange (I:=fun y c st'=>Ep st st'/\c.1=none/\MI κ a.toList b.toList c.2.1.toList (a.toList.drop c.2.2.1) (b.toList.drop c.2.2.2.1)/\c.2.2.1+1 < a.size/\c.2.2.2.1 < b.size/\x+y < c.2.2.1+c.2.2.2.1)
   (Q:=fun c st'=>Ep st st'/\((∃r,c.1=some r/\Fin κ a.toList b.toList r.toList)\/(c.1=none/\MI κ a.toList b.toList c.2.1.toList (a.toList.drop c.2.2.1) (b.toList.drop c.2.2.2.1)/\c.2.2.1+1 < a.size/\c.2.2.2.1 < b.size/\x < c.2.2.1+c.2.2.2.1))) ?stepA ?finA ⟨g1,rfl,m1,a1,a2,by show x+0 < ia+ib; lia⟩) ?postA)
  case finA=>
   rintro⟨c0,out,ia,ib,ac,bc⟩ st' ⟨_,_,_,a1,a2,a3⟩;exfalso;have a1':ia+1<a.size:=a1;have a2':ib<b.size:=a2;have a3':x+max 0 (a.size+b.size)<ia+ib:=a3
   lia
  case stepA=>
   rintro y ⟨c0,out,ia,ib,ac,bc⟩ st2 _ hy ⟨g2,e0,m2,a1,a2,a3⟩;cases e0;dsimp only at m2 a1 a2 a3;obtain⟨q,q1,q2,q3⟩:=eb ib a2;obtain⟨p,p1,p2,p3⟩:=ea ia (by lia);refine Df (aH q1 (Df (aH p1 (Df (fF hO (g2.kind.trans hk) q3 p3 ?_)))));cases hlt:κ.blt (kf κ q) (kf κ p) with
   |true=>
    refine Df (aH q1 ?_);have m3:=pushB m2 p2 q2 (Dy hlt);refine aA (fun e=>Dg ⟨g2,.inl ⟨_,rfl,finD m3 (by simpa using e)⟩⟩) fun e=>?_;have e':ib+1<b.size:=by
     have:¬ib+1=b.size:=by simpa using e
     lia
    exact aA (fun _=>Dg ⟨g2,.inr ⟨rfl,m3,a1,e',by show x<ia+(ib+1);lia⟩⟩) fun _=>Dg ⟨g2,rfl,m3,a1,e',by show x+(y+1)<ia+(ib+1);lia⟩
   |false=>
    refine Df (aH p1 ?_);have m3:=pushA m2 p2 q2 hlt;refine aA (fun e=>Dg ⟨g2,.inl ⟨_,rfl,finL m3 (by simpa using e)⟩⟩) fun e=>?_;have e':ia+1+1<a.size:=by
     have:¬ia+1+1=a.size:=by simpa using e
     lia
    exact aA (fun _=>Dg ⟨g2,.inr ⟨rfl,m3,e',a2,by show x<ia+1+ib;lia⟩⟩) fun _=>Dg ⟨g2,rfl,m3,e',a2,by show x+(y+1)<ia+1+ib;lia⟩
  case postA=>
   rintro⟨c0,out,ia,ib,ac,bc⟩ st2 ⟨g2,z⟩;rcases z with ⟨r,e,f⟩|⟨e0,m2,a1,a2,a3⟩
   ·cases e;exact Dg ⟨g2,r,rfl,f⟩
   cases e0;dsimp only at m2 a1 a2 a3;refine Df (wpS_lift (DN ⟨rfl,?_⟩))
   refine Df (wpS_mono (wpS_forRange (I:=fun y c st'=>Ep st st'/\c.1=none/\MI κ a.toList b.toList c.2.1.toList (a.toList.drop c.2.2.1) (b.toList.drop c.2.2.2.1)/\c.2.2.1+1 < a.size/\c.2.2.2.1 < b.size/\x+y < c.2.2.1+c.2.2.2.1)
    (Q:=fun c st'=>Ep st st'/\((∃r,c.1=some r/\Fin κ a.toList b.toList r.toList)\/(c.1=none/\MI κ a.toList b.toList c.2.1.toList (a.toList.drop c.2.2.1) (b.toList.drop c.2.2.2.1)/\c.2.2.1+1 < a.size/\c.2.2.2.1 < b.size/\x+1 < c.2.2.1+c.2.2.2.1))) ?stepB ?finB ⟨g2,rfl,m2,a1,a2,by show x+0 < ia+ib; lia⟩) ?postB)
   case finB=>
    rintro⟨c0,out,ia,ib,mg',ac,bc⟩ st' ⟨_,_,_,a1,a2,a3⟩;exfalso;have a1':ia+1<a.size:=a1;have a2':ib<b.size:=a2;have a3':x+max 0 (a.size+b.size)<ia+ib:=a3
    lia
   case postB=>
    rintro⟨c0,out,ia,ib,mg',ac,bc⟩ st3 ⟨g3,z⟩;rcases z with ⟨r,e,f⟩|⟨e0,m3,a1,a2,a3⟩
    ·cases e;exact Dg ⟨g3,r,rfl,f⟩
    cases e0;exact Df (wpS_modify (Dg ⟨g3.trans (Ep.set st3 _),rfl,m3,a1,a2,a3⟩))
   case stepB=>
    rintro y ⟨c0,out,ia,ib,mg',ac,bc⟩ st3 _ hy ⟨g3,e0,m3,a1,a2,a3⟩;cases e0;dsimp only at m3 a1 a2 a3;obtain⟨q,q1,q2,q3⟩:=eb ib a2;refine aA (fun _=>?_) fun _=>?_
    all_goals (
     refine Df (fG fun st4 g4'=>?_);have g4:=g3.trans g4';refine Df (aH q1 (Df (bN (κ:=κ) (base:=ia) (n:=a.size-ia) (hint:=0) hO (g4.kind.trans hk) q3 (fun i=>(a[ia+i]?).getD q) (fun i hi=>?_) (by lia) (fun i=>!κ.blt (kf κ q) (kf κ ((a[ia+i]?).getD q))) (fun i=>rfl) (fun i j hij hj hB=>?_) fun k hkn hk1 hk2=>?_)))
     ·obtain⟨p,p1,p2,p3⟩:=ea (ia+i) (by lia);rw[p1];exact⟨rfl,p3⟩
     ·obtain⟨p,p1,p2,p3⟩:=ea (ia+i) (by lia);obtain⟨r,r1,r2,r3⟩:=ea (ia+j) (by lia);rw[r1] at hB;rw[p1];have hr:kl κ r q:=by
       show κ.blt (kf κ q) (kf κ r)=false;simpa using hB
      have hp:kl κ p r:=by
       by_cases e:i=j
       ·subst e;rw[p1] at r1;cases r1;exact Dx _
       ·have h1:=BE.mp sa (ia+i) (ia+j) (by rw[Ab];lia) (by rw[Ab];lia) (by lia);rw[(Ad.mp p2).2,(Ad.mp r2).2] at h1;exact h1
      have:=hp.trans hr;show(!κ.blt (kf κ q) (kf κ p))=true;have h2:κ.blt (kf κ q) (kf κ p)=false:=this;rw[h2];rfl
     have hkA:∀i x,i<k->a.toList[ia+i]?=some x->kl κ x q:=fun i x hi e=>by
      have:=hk1 i hi;rw[<- Ao,e] at this;show κ.blt (kf κ q) (kf κ x)=false;simpa using this
     have mA:=goA m3 q2 hkA;have hq:∀p,a.toList[ia+k]?=some p->kl κ q p:=fun p e=>by
      have hi:=(Ad.mp e).1;rw[Ab] at hi;have:=hk2 k (zX _) (by lia);rw[<- Ao,e] at this;exact Dy (show κ.blt (kf κ q) (kf κ p)=true by simpa using this)
     apply aA
     case' h1=>
      intro hk0;rw[<- kI,<- AS] at mA;refine aA (fun e=>Dg ⟨g4,.inl ⟨_,rfl,finL mA (by simpa using e)⟩⟩) fun e=>aA (fun e2=>Dg ⟨g4,.inl ⟨_,rfl,?_⟩⟩) fun e2=>?_;have e2':ia+k=a.size:=by simpa using e2
      ·rw[AS,AS,dO,dO];refine mA.done fun x hx y hy=>?_;rw[BS (by rw[Ab];lia)] at hx;cases hx
      have hi2:ia+k+1<a.size:=by
       have:¬ia+k+1=a.size:=by simpa using e
       have:¬ia+k=a.size:=by simpa using e2
       lia
      have hs2:x+y<ia+k+ib:=by lia
      generalize out++a.extract ia (ia+k)=o2 at mA ⊢;generalize ia+k=i2 at mA hi2 hs2 hq ⊢
     case' h2=>
      intro hk0;have k0:k=0:=by lia
      subst k0;rw[Cc,AC,Bk] at mA;rw[Bk] at hq;have hi2:ia+1<a.size:=a1;have hs2:x+y<ia+ib:=a3;generalize out=o2 at mA ⊢;generalize ia=i2 at mA hi2 hs2 hq ⊢
     all_goals (
      obtain⟨p,p1,p2,p3⟩:=ea i2 (by lia);refine Df (aH q1 ?_);have mB:=pushB mA p2 q2 (hq p p2);refine aA (fun e=>Dg ⟨g4,.inl ⟨_,rfl,finD mB (by simpa using e)⟩⟩) fun e=>?_;have e':ib+1<b.size:=by
       have:¬ib+1=b.size:=by simpa using e
       lia
      refine Df (aH p1 (Df (bN (κ:=κ) (base:=ib+1) (n:=b.size-(ib+1)) (hint:=0) hO (g4.kind.trans hk) p3 (fun i=>(b[ib+1+i]?).getD p) (fun i hi=>?_) (by lia) (fun i=>κ.blt (kf κ ((b[ib+1+i]?).getD p)) (kf κ p)) (fun i=>rfl) (fun i j hij hj hB=>?_) fun k2 hkn2 hj1 hj2=>?_)))
      ·obtain⟨r,r1,r2,r3⟩:=eb (ib+1+i) (by lia);rw[r1];exact⟨rfl,r3⟩
      ·obtain⟨u,u1,u2,u3⟩:=eb (ib+1+i) (by lia);obtain⟨r,r1,r2,r3⟩:=eb (ib+1+j) (by lia);rw[r1] at hB;rw[u1];have hp:kl κ u r:=by
        by_cases e:i=j
        ·subst e;rw[u1] at r1;cases r1;exact Dx _
        ·have h1:=BE.mp sb (ib+1+i) (ib+1+j) (by rw[Ab];lia) (by rw[Ab];lia) (by lia);rw[(Ad.mp u2).2,(Ad.mp r2).2] at h1;exact h1
       exact KeyOrd.klt_of_kle_of_klt hp hB
      have hkB:∀i x,i<k2->b.toList[ib+1+i]?=some x->kl κ x p:=fun i x hi e=>by
       have:=hj1 i hi;rw[<- Ao,e] at this;exact Dy this
      have mC:=goB mB p2 hkB;have hp:∀r,b.toList[ib+1+k2]?=some r->kl κ p r:=fun r e=>by
       have hi:=(Ad.mp e).1;rw[Ab] at hi;have:=hj2 k2 (zX _) (by lia);rw[<- Ao,e] at this;exact this
      apply aA
      case' h1=>
       intro hk0;rw[<- kI,<- AS] at mC;refine aA (fun e=>Dg ⟨g4,.inl ⟨_,rfl,finD mC (by simpa using e)⟩⟩) fun e=>?_;have hj:ib+1+k2<b.size:=by
        have:¬ib+1+k2=b.size:=by simpa using e
        lia
       have hs3:x+y+1<i2+(ib+1+k2):=by lia
       generalize o2.push q++b.extract (ib+1) (ib+1+k2)=o3 at mC ⊢;generalize ib+1+k2=j2 at mC hj hs3 hp ⊢
      case' h2=>
       intro hk0;have k0:k2=0:=by lia
       subst k0;rw[Cc,AC,Bk] at mC;rw[Bk] at hp;have hj:ib+1<b.size:=e';have hs3:x+y+1<i2+(ib+1):=by lia
       generalize o2.push q=o3 at mC ⊢;generalize ib+1=j2 at mC hj hs3 hp ⊢
      all_goals (
       obtain⟨r,r1,r2,r3⟩:=eb j2 hj;refine Df (aH p1 ?_);have mD:=pushA mC p2 r2 (hp r r2);refine aA (fun e=>Dg ⟨g4,.inl ⟨_,rfl,finL mD (by simpa using e)⟩⟩) fun e=>?_;have e3:i2+1+1<a.size:=by
        have:¬i2+1+1=a.size:=by simpa using e
        lia
       exact aA (fun _=>Dg ⟨g4,.inr ⟨rfl,mD,e3,hj,by show x+1 < i2+1+j2; lia⟩⟩) fun _=>Dg ⟨g4,rfl,mD,e3,hj,by show x+(y+1) < i2+1+j2; lia⟩)))
end
structure MH(κ:KeyKind)(A B ra rb suf:List Keyed):Prop where
 perm:(ra++rb++suf).Perm (A++B)
 so:suf.Pairwise (kl κ)
 sa:ra.Pairwise (kl κ)
 sb:rb.Pairwise (kl κ)
 le:∀x∈ra++rb,∀y∈suf,kl κ x y
section
variable {κ:KeyKind}{A B ra rb suf:List Keyed}
theorem mn{l:List Keyed}{p:Keyed}(h:l.Pairwise (kl κ))(e:l[l.length-1]?=some p):∀x∈l,kl κ x p:=fun x hx=>by
 obtain⟨i,hi,rfl⟩:=Bm.mp hx;obtain⟨hj,rfl⟩:=Ad.mp e;by_cases q:i=l.length-1
 ·subst q;exact Dx _
 ·exact BE.mp h i (l.length-1) hi hj (by lia)
theorem MH.HQ(h:MH κ A B ra rb suf)(k:Nat)(hk:∀x∈rb,∀y∈ra.drop k,kl κ x y):MH κ A B (ra.take k) rb (ra.drop k++suf):=by
 have sa:=h.sa;rw[<- AU k ra] at sa;obtain⟨s1,s2,s3⟩:=AO.mp sa;refine⟨?_,AO.mpr ⟨s2,h.so,fun x hx y hy=>h.le x (Ay _ (Br hx)) y hy⟩,s1,h.sb,fun x hx y hy=>?_⟩
 ·refine List.Perm.trans ?_ h.perm;rw[<- AG];refine List.Perm.append_right _ ?_;rw[AG];refine(BR.append_left _).trans ?_;rw[<- AG,AU]
 ·rcases Ai.mp hy with hy|hy
  ·rcases Ai.mp hx with hx|hx
   ·exact s3 x hx y hy
   ·exact hk x hx y hy
  ·rcases Ai.mp hx with hx|hx
   ·exact h.le x (Ay _ (Bj hx)) y hy
   ·exact h.le x (Ae _ hx) y hy
theorem MH.HP(h:MH κ A B ra rb suf)(k:Nat)(hk:∀x∈ra,∀y∈rb.drop k,kl κ x y):MH κ A B ra (rb.take k) (rb.drop k++suf):=by
 have sb:=h.sb;rw[<- AU k rb] at sb;obtain⟨s1,s2,s3⟩:=AO.mp sb;refine⟨?_,AO.mpr ⟨s2,h.so,fun x hx y hy=>h.le x (Ae _ (Br hx)) y hy⟩,h.sa,s1,fun x hx y hy=>?_⟩
 ·refine List.Perm.trans ?_ h.perm;rw[<- AG,AG ra,AU]
 ·rcases Ai.mp hy with hy|hy
  ·rcases Ai.mp hx with hx|hx
   ·exact hk x hx y hy
   ·exact s3 x hx y hy
  ·rcases Ai.mp hx with hx|hx
   ·exact h.le x (Ay _ hx) y hy
   ·exact h.le x (Ae _ (Bj hx)) y hy
theorem MH.done(h:MH κ A B ra rb suf)(hk:∀x∈ra,∀y∈rb,kl κ x y):Fin κ A B (ra++rb++suf):=⟨h.perm,AO.mpr ⟨AO.mpr ⟨h.sa,h.sb,hk⟩,h.so,h.le⟩⟩
theorem MH.first(h:MH κ A B ra rb suf)(hk:∀x∈rb,∀y∈ra,kl κ x y):Fin κ A B (rb++ra++suf):=
 ⟨(BR.append_right _).trans h.perm,AO.mpr ⟨AO.mpr ⟨h.sb,h.sa,hk⟩,h.so,fun x hx y hy=>h.le x (Ai.mpr ((Ai.mp hx).symm)) y hy⟩⟩
end
theorem fU{α:Type}(a:Array α)(n:Nat):(a.extract 0 n).toList=a.toList.take n:=by
 rw[Ca];show(a.toList.drop 0).take (n-0)=_;rw[BX,Cp]
theorem cA{α:Type}(a:Array α)(i n:Nat):(a.extract i n).toList=(a.toList.take n).drop i:=by
 rw[Ca,Cq]
theorem kP{α:Type}(o x:Array α):(o++x.reverse).toList.reverse=x.toList++o.toList.reverse:=by rw[AS,Cr,CL,List.reverse_reverse]
theorem fR{α:Type}{l:List α}{n:Nat}{p:α}(h:1<=n)(e:l[n-1]?=some p):(l.take n).drop (n-1)=[p]:=by
 rw[Cq,show n-(n-1)=1 by lia];exact cT e
section
variable {prog:Program}{w:World}{A:Around}{E:Value->Shared->Prop}{s:Shared}{κ:KeyKind}{st:SortSt}
def Ic:Array Keyed->Array Keyed->StateT SortSt Sem (Array Keyed):=sortPriv% PySem.Builtin.mergeHi
theorem iH{a b:Array Keyed}{Q:Array Keyed->SortSt->Prop}(hO:κ.OneLt)(hk:kindOf st=oneType')(ka:∀p∈a.toList,Has κ p)(kb:∀p∈b.toList,Has κ p)(sa:a.toList.Pairwise (kl κ))(sb:b.toList.Pairwise (kl κ))
  (na1:1<=a.size)(nb1:1<=b.size)(h0:∀y∈a.toList,∀p,b[0]?=some p->kl κ p y)(hl:∀x∈b.toList,∀p,a[a.size-1]?=some p->kl κ x p)
  (h:∀r st',Ep st st'->Fin κ a.toList b.toList r.toList->Q r st'):wpS (model prog w) A E s (Ic a b) Q st:=by
 have ea:∀i,i<a.size->∃p,a[i]?=some p/\a.toList[i]?=some p/\Has κ p:=fun i hi=>by
  have e:a.toList[i]?=some a[i]:=by rw[Ao];exact AM hi
  exact⟨a[i],AM hi,e,ka _ (Am e)⟩
 have eb:∀i,i<b.size->∃p,b[i]?=some p/\b.toList[i]?=some p/\Has κ p:=fun i hi=>by
  have e:b.toList[i]?=some b[i]:=by rw[Ao];exact AM hi
  exact⟨b[i],AM hi,e,kb _ (Am e)⟩
 have la:a.toList.length=a.size:=Ab;have lb:b.toList.length=b.size:=Ab;have finF:∀{out:Array Keyed}{na nb:Nat},MH κ a.toList b.toList (a.toList.take na) (b.toList.take nb) out.toList.reverse->nb=1->Fin κ a.toList b.toList (b.extract 0 nb++a.extract 0 na++out.reverse).toList:=fun {out na nb} m hi=>by
  rw[AS,AS,fU,fU,CL];refine m.first fun x hx y hy=>?_;obtain⟨q,q1,q2,_⟩:=eb 0 (by lia);have e:b.toList.take nb=[q]:=by rw[hi];exact cT (i:=0) q2
  rw[e] at hx;rw[AA.mp hx];exact h0 y (Bj hy) q q1
 have finD:∀{out:Array Keyed}{na nb:Nat},MH κ a.toList b.toList (a.toList.take na) (b.toList.take nb) out.toList.reverse->na=0\/nb=0->Fin κ a.toList b.toList (a.extract 0 na++b.extract 0 nb++out.reverse).toList:=fun {out na nb} m hi=>by
  rw[AS,AS,fU,fU,CL];refine m.done fun x hx y hy=>?_;rcases hi with hi|hi
  ·rw[hi,Cc] at hx;cases hx
  ·rw[hi,Cc] at hy;cases hy
 have goA:∀{out:Array Keyed}{na nb at':Nat}{q:Keyed},MH κ a.toList b.toList (a.toList.take na) (b.toList.take nb) out.toList.reverse->1<=nb->nb<=b.size->at'<=na->b.toList[nb-1]?=some q->(∀i x,at'<=i->i<na->a.toList[i]?=some x->kl κ q x)->MH κ a.toList b.toList (a.toList.take at') (b.toList.take nb) ((a.toList.take na).drop at'++out.toList.reverse):=fun {out na nb at' q} m h1 h2 h3 eq hk=>by
  have:=m.HQ at' fun x hx y hy=>by
   obtain⟨i,hi,e⟩:=Bm.mp hy;rw[AR,Af] at hi;have e':a.toList[at'+i]?=some y:=by
    have:((a.toList.take na).drop at')[i]?=some y:=by rw[<- e];exact Aa _
    rw[Bf,Bh (by lia)] at this;exact this
   refine(mn m.sb ?_ x hx).trans (hk (at'+i) y (by lia) (by lia) e');rw[Af,lb,AV h2,Bh (by lia)];exact eq
  rwa [BF,AV h3] at this
 have goB:∀{out:Array Keyed}{na nb at':Nat}{q:Keyed},MH κ a.toList b.toList (a.toList.take na) (b.toList.take nb) out.toList.reverse->1<=na->na<=a.size->at'<=nb->a.toList[na-1]?=some q->(∀i x,at'<=i->i<nb->b.toList[i]?=some x->kl κ q x)->MH κ a.toList b.toList (a.toList.take na) (b.toList.take at') ((b.toList.take nb).drop at'++out.toList.reverse):=fun {out na nb at' q} m h1 h2 h3 eq hk=>by
  have:=m.HP at' fun x hx y hy=>by
   obtain⟨i,hi,e⟩:=Bm.mp hy;rw[AR,Af] at hi;have e':b.toList[at'+i]?=some y:=by
    have:((b.toList.take nb).drop at')[i]?=some y:=by rw[<- e];exact Aa _
    rw[Bf,Bh (by lia)] at this;exact this
   refine(mn m.sa ?_ x hx).trans (hk (at'+i) y (by lia) (by lia) e');rw[Af,la,AV h2,Bh (by lia)];exact eq
  rwa [BF,AV h3] at this
 have pushA:∀{out:Array Keyed}{na nb:Nat}{p q:Keyed},MH κ a.toList b.toList (a.toList.take na) (b.toList.take nb) out.toList.reverse->1<=na->1<=nb->nb<=b.size->a.toList[na-1]?=some p->b.toList[nb-1]?=some q->kl κ q p->MH κ a.toList b.toList (a.toList.take (na-1)) (b.toList.take nb) (out.push p).toList.reverse:=fun {out na nb p q} m h1 h2 h3 ep eq hk=>by
  have:=goA (at':=na-1) m h2 h3 (by lia) eq fun i x h4 h5 e=>by
   have:i=na-1:=by lia
   subst this;rw[ep] at e;cases e;exact hk
  rw[fR h1 ep] at this;rw[Bq,Cr];exact this
 have pushB:∀{out:Array Keyed}{na nb:Nat}{p q:Keyed},MH κ a.toList b.toList (a.toList.take na) (b.toList.take nb) out.toList.reverse->1<=na->na<=a.size->1<=nb->a.toList[na-1]?=some p->b.toList[nb-1]?=some q->kl κ p q->MH κ a.toList b.toList (a.toList.take na) (b.toList.take (nb-1)) (out.push q).toList.reverse:=fun {out na nb p q} m h1 h2 h3 ep eq hk=>by
  have:=goB (at':=nb-1) m h1 h2 (by lia) ep fun i x h4 h5 e=>by
   have:i=nb-1:=by lia
   subst this;rw[eq] at e;cases e;exact hk
  rw[fR h3 eq] at this;rw[Bq,Cr];exact this
 refine Df (wpS_lift (DN ⟨rfl,?_⟩));obtain⟨p0,f1,f2,f3⟩:=ea (a.size-1) (by lia);refine Df (aH f1 ?_);have m0:MH κ a.toList b.toList (a.toList.take (a.size-1)) (b.toList.take b.size) (#[p0]:Array Keyed).toList.reverse:=by
  have ta:a.toList.take a.size=a.toList:=Av (by lia);have tb:b.toList.take b.size=b.toList:=Av (by lia);have start:MH κ a.toList b.toList (a.toList.take a.size) (b.toList.take b.size) []:=by
   rw[ta,tb];exact⟨by rw[AC],.nil,sa,sb,fun x _ y hy=>by cases hy⟩
  have:=start.HQ (a.size-1) fun x hx y hy=>by
   rw[fR na1 f2] at hy;rw[AA.mp hy];exact hl x (Bj hx) p0 f1
  rw[fR na1 f2,BF,AV (by lia)] at this;exact this
 refine aA (fun e=>Dg (h _ st (.refl st) (finD m0 (.inl (by simpa using e))))) fun e1=>aA (fun e=>Dg (h _ st (.refl st) (finF m0 (by simpa using e)))) fun e2=>?_;have ha1:1<=a.size-1:=by
  have:¬a.size-1=0:=fun z=>e1 (by rw[z];rfl)
  lia
 have hb1:2<=b.size:=by
  have:¬b.size=1:=fun z=>e2 (by rw[z];rfl)
  lia
 refine Df (wpS_get ?_)
 refine Df (wpS_mono (wpS_forRange (I:=fun x c st'=>Ep st st'/\c.1=none/\MH κ a.toList b.toList (a.toList.take c.2.1) (b.toList.take c.2.2.1) c.2.2.2.1.toList.reverse/\1<=c.2.1/\2<=c.2.2.1/\c.2.1<=a.size/\c.2.2.1<=b.size/\x+c.2.1+c.2.2.1 < a.size+b.size)
  (Q:=fun c st'=>Ep st st'/\∃r,c.1=some r/\Fin κ a.toList b.toList r.toList) ?step ?fin ⟨.refl st,rfl,m0,ha1,hb1,by show a.size - 1<=a.size; lia,zX _,by show 0+(a.size - 1)+b.size < a.size+b.size; lia⟩) ?post)
 case fin=>
  rintro⟨c0,na,nb,out,mg⟩ st' ⟨_,_,_,a1,a2,_,_,a3⟩;exfalso;have a3':max 0 (a.size+b.size)+na+nb<a.size+b.size:=a3
  lia
 case post=>
  rintro⟨c0,na,nb,out,mg⟩ st' ⟨g,r,e,f⟩;cases e;exact Dg (h r st' g f)
 case step=>
  rintro x ⟨c0,na,nb,out,mg⟩ st1 _ hx ⟨g1,e0,m1,a1,a2,a4,a5,a3⟩;cases e0;dsimp only at m1 a1 a2 a3 a4 a5
  refine Df (wpS_mono (wpS_forRange (I:=fun y c st'=>Ep st st'/\c.1=none/\MH κ a.toList b.toList (a.toList.take c.2.1) (b.toList.take c.2.2.1) c.2.2.2.1.toList.reverse/\1<=c.2.1/\2<=c.2.2.1/\c.2.1<=a.size/\c.2.2.1<=b.size/\x+y+c.2.1+c.2.2.1 < a.size+b.size)
   (Q:=fun c st'=>Ep st st'/\((∃r,c.1=some r/\Fin κ a.toList b.toList r.toList)\/(c.1=none/\MH κ a.toList b.toList (a.toList.take c.2.1) (b.toList.take c.2.2.1) c.2.2.2.1.toList.reverse/\1<=c.2.1/\2<=c.2.2.1/\c.2.1<=a.size/\c.2.2.1<=b.size/\x+c.2.1+c.2.2.1 < a.size+b.size))) ?stepA ?finA ⟨g1,rfl,m1,a1,a2,a4,a5,by show x+0+na+nb < _; lia⟩) ?postA)
  case finA=>
   rintro⟨c0,na,nb,out,ac,bc⟩ st' ⟨_,_,_,_,_,_,_,a3⟩;exfalso;have a3':x+max 0 (a.size+b.size)+na+nb<a.size+b.size:=a3
   lia
  case stepA=>
   rintro y ⟨c0,na,nb,out,ac,bc⟩ st2 _ hy ⟨g2,e0,m2,a1,a2,a4,a5,a3⟩;cases e0;dsimp only at m2 a1 a2 a3 a4 a5;obtain⟨q,q1,q2,q3⟩:=eb (nb-1) (by lia);obtain⟨p,p1,p2,p3⟩:=ea (na-1) (by lia);refine Df (aH q1 (Df (aH p1 (Df (fF hO (g2.kind.trans hk) q3 p3 ?_)))));cases hlt:κ.blt (kf κ q) (kf κ p) with
   |true=>
    refine Df (aH p1 ?_);have m3:=pushA m2 a1 (by lia) a5 p2 q2 (Dy hlt);refine aA (fun e=>Dg ⟨g2,.inl ⟨_,rfl,finD m3 (.inl (by simpa using e))⟩⟩) fun e=>?_;have e':1<=na-1:=by
     have:¬na-1=0:=fun z=>e (by show((na-1:Nat)==0)=true;rw[z];rfl)
     lia
    exact aA (fun _=>Dg ⟨g2,.inr ⟨rfl,m3,e',a2,by show na-1<=a.size;lia,a5,by show x+(na-1)+nb<_;lia⟩⟩) fun _=>Dg ⟨g2,rfl,m3,e',a2,by show na-1<=a.size;lia,a5,by show x+(y+1)+(na-1)+nb<_;lia⟩
   |false=>
    refine Df (aH q1 ?_);have m3:=pushB m2 a1 a4 (by lia) p2 q2 hlt;refine aA (fun e=>Dg ⟨g2,.inl ⟨_,rfl,finF m3 (by simpa using e)⟩⟩) fun e=>?_;have e':2<=nb-1:=by
     have:¬nb-1=1:=fun z=>e (by show((nb-1:Nat)==1)=true;rw[z];rfl)
     lia
    exact aA (fun _=>Dg ⟨g2,.inr ⟨rfl,m3,a1,e',a4,by show nb-1<=b.size;lia,by show x+na+(nb-1)<_;lia⟩⟩) fun _=>Dg ⟨g2,rfl,m3,a1,e',a4,by show nb-1<=b.size;lia,by show x+(y+1)+na+(nb-1)<_;lia⟩
  case postA=>
   rintro⟨c0,na,nb,out,ac,bc⟩ st2 ⟨g2,z⟩;rcases z with ⟨r,e,f⟩|⟨e0,m2,a1,a2,a4,a5,a3⟩
   ·cases e;exact Dg ⟨g2,r,rfl,f⟩
   cases e0;dsimp only at m2 a1 a2 a3 a4 a5;refine Df (wpS_lift (DN ⟨rfl,?_⟩))
   refine Df (wpS_mono (wpS_forRange (I:=fun y c st'=>Ep st st'/\c.1=none/\MH κ a.toList b.toList (a.toList.take c.2.1) (b.toList.take c.2.2.1) c.2.2.2.1.toList.reverse/\1<=c.2.1/\2<=c.2.2.1/\c.2.1<=a.size/\c.2.2.1<=b.size/\x+y+c.2.1+c.2.2.1 < a.size+b.size)
    (Q:=fun c st'=>Ep st st'/\((∃r,c.1=some r/\Fin κ a.toList b.toList r.toList)\/(c.1=none/\MH κ a.toList b.toList (a.toList.take c.2.1) (b.toList.take c.2.2.1) c.2.2.2.1.toList.reverse/\1<=c.2.1/\2<=c.2.2.1/\c.2.1<=a.size/\c.2.2.1<=b.size/\x+1+c.2.1+c.2.2.1 < a.size+b.size))) ?stepB ?finB ⟨g2,rfl,m2,a1,a2,a4,a5,by show x+0+na+nb < _; lia⟩) ?postB)
   case finB=>
    rintro⟨c0,na,nb,out,mg',ac,bc⟩ st' ⟨_,_,_,_,_,_,_,a3⟩;exfalso;have a3':x+max 0 (a.size+b.size)+na+nb<a.size+b.size:=a3
    lia
   case postB=>
    rintro⟨c0,na,nb,out,mg',ac,bc⟩ st3 ⟨g3,z⟩;rcases z with ⟨r,e,f⟩|⟨e0,m3,a1,a2,a4,a5,a3⟩
    ·cases e;exact Dg ⟨g3,r,rfl,f⟩
    cases e0;exact Df (fG fun st4 g4=>Dg ⟨g3.trans g4,rfl,m3,a1,a2,a4,a5,a3⟩)
   case stepB=>
    rintro y ⟨c0,na,nb,out,mg',ac,bc⟩ st3 _ hy ⟨g3,e0,m3,a1,a2,a4,a5,a3⟩;cases e0;dsimp only at m3 a1 a2 a3 a4 a5;obtain⟨q,q1,q2,q3⟩:=eb (nb-1) (by lia);refine aA (fun _=>?_) fun _=>?_
    all_goals (
     refine Df (fG fun st4 g4'=>?_);have g4:=g3.trans g4';refine Df (aH q1 (Df (bN (κ:=κ) (base:=0) (n:=na) (hint:=na-1) hO (g4.kind.trans hk) q3 (fun i=>(a[0+i]?).getD q) (fun i hi=>?_) (by lia) (fun i=>!κ.blt (kf κ q) (kf κ ((a[0+i]?).getD q))) (fun i=>rfl) (fun i j hij hj hB=>?_) fun at' hkn hk1 hk2=>?_)))
     ·obtain⟨p,p1,p2,p3⟩:=ea (0+i) (by lia);rw[p1];exact⟨rfl,p3⟩
     ·obtain⟨p,p1,p2,p3⟩:=ea (0+i) (by lia);obtain⟨r,r1,r2,r3⟩:=ea (0+j) (by lia);rw[r1] at hB;rw[p1];have hr:kl κ r q:=by
       show κ.blt (kf κ q) (kf κ r)=false;simpa using hB
      have hp:kl κ p r:=by
       by_cases e:i=j
       ·subst e;rw[p1] at r1;cases r1;exact Dx _
       ·have h1:=BE.mp sa (0+i) (0+j) (by lia) (by lia) (by lia);rw[(Ad.mp p2).2,(Ad.mp r2).2] at h1;exact h1
      have h2:κ.blt (kf κ q) (kf κ p)=false:=hp.trans hr;show(!κ.blt (kf κ q) (kf κ p))=true;rw[h2];rfl
     have hkA:∀i x,at'<=i->i<na->a.toList[i]?=some x->kl κ q x:=fun i x h1 h2 e=>by
      have:=hk2 i h1 h2;rw[BQ,<- Ao,e] at this;exact Dy (show κ.blt (kf κ q) (kf κ x)=true by simpa using this)
     have mA:=goA m3 (by lia) a5 hkn q2 hkA;have hq:∀p,1<=at'->a.toList[at'-1]?=some p->kl κ p q:=fun p h1 e=>by
      have:=hk1 (at'-1) (by lia);rw[BQ,<- Ao,e] at this;show κ.blt (kf κ q) (kf κ p)=false;simpa using this
     apply aA
     case' h1=>
      intro hk0;rw[<- cA,<- kP] at mA;refine aA (fun e=>Dg ⟨g4,.inl ⟨_,rfl,finD mA (.inl (by simpa using e))⟩⟩) fun e=>?_;have hi2:1<=at':=by
       have:¬at'=0:=fun z=>e (by show((at':Nat)==0)=true;rw[z];rfl)
       lia
      have hi3:at'<=a.size:=by lia
      have hs2:x+y+at'+nb<a.size+b.size:=by lia
      generalize out++(a.extract at' na).reverse=o2 at mA ⊢
     case' h2=>
      intro hk0;have k0:at'=na:=by have:¬na-at' > 0:=hk0;lia
      subst k0;rw[BS (by rw[Af];lia),List.nil_append] at mA;have hi2:1<=at':=a1;have hi3:at'<=a.size:=a4;have hs2:x+y+at'+nb<a.size+b.size:=a3;generalize out=o2 at mA ⊢
     all_goals (
      obtain⟨p,p1,p2,p3⟩:=ea (at'-1) (by lia);refine Df (aH q1 ?_);have mB:=pushB mA hi2 hi3 (by lia) p2 q2 (hq p hi2 p2);refine aA (fun e=>Dg ⟨g4,.inl ⟨_,rfl,finF mB (by simpa using e)⟩⟩) fun e=>?_;have e':2<=nb-1:=by
       have:¬nb-1=1:=fun z=>e (by show((nb-1:Nat)==1)=true;rw[z];rfl)
       lia
      refine Df (aH p1 (Df (bN (κ:=κ) (base:=0) (n:=nb-1) (hint:=nb-1-1) hO (g4.kind.trans hk) p3 (fun i=>(b[0+i]?).getD p) (fun i hi=>?_) (by lia) (fun i=>κ.blt (kf κ ((b[0+i]?).getD p)) (kf κ p)) (fun i=>rfl) (fun i j hij hj hB=>?_) fun k2 hkn2 hj1 hj2=>?_)))
      ·obtain⟨r,r1,r2,r3⟩:=eb (0+i) (by lia);rw[r1];exact⟨rfl,r3⟩
      ·obtain⟨u,u1,u2,u3⟩:=eb (0+i) (by lia);obtain⟨r,r1,r2,r3⟩:=eb (0+j) (by lia);rw[r1] at hB;rw[u1];have hp:kl κ u r:=by
        by_cases e:i=j
        ·subst e;rw[u1] at r1;cases r1;exact Dx _
        ·have h1:=BE.mp sb (0+i) (0+j) (by lia) (by lia) (by lia);rw[(Ad.mp u2).2,(Ad.mp r2).2] at h1;exact h1
       exact KeyOrd.klt_of_kle_of_klt hp hB
      have hkB:∀i x,k2<=i->i<nb-1->b.toList[i]?=some x->kl κ p x:=fun i x h1 h2 e=>by
       have:=hj2 i h1 h2;rw[BQ,<- Ao,e] at this;exact this
      have mC:=goB mB hi2 hi3 hkn2 p2 hkB;have hp:∀r,1<=k2->b.toList[k2-1]?=some r->kl κ r p:=fun r h1 e=>by
       have:=hj1 (k2-1) (by lia);rw[BQ,<- Ao,e] at this;exact Dy this
      apply aA
      case' h1=>
       intro hk0;rw[<- cA,<- kP] at mC;refine aA (fun e=>Dg ⟨g4,.inl ⟨_,rfl,finF mC (by simpa using e)⟩⟩) fun e=>aA (fun e2=>Dg ⟨g4,.inl ⟨_,rfl,finD mC (.inr (by simpa using e2))⟩⟩) fun e2=>?_;have hj:2<=k2:=by
        have:¬k2=1:=fun z=>e (by show((k2:Nat)==1)=true;rw[z];rfl);have:¬k2=0:=fun z=>e2 (by show((k2:Nat)==0)=true;rw[z];rfl)
        lia
       have hj3:k2<=b.size:=by lia
       have hs3:x+y+1+at'+k2<a.size+b.size:=by lia
       generalize o2.push q++(b.extract k2 (nb-1)).reverse=o3 at mC ⊢
      case' h2=>
       intro hk0;have k0:k2=nb-1:=by have:¬nb-1-k2>0:=hk0;lia
       subst k0;rw[BS (by rw[Af];lia),List.nil_append] at mC;have hj:2<=nb-1:=e';have hj3:nb-1<=b.size:=by lia
       have hs3:x+y+1+at'+(nb-1)<a.size+b.size:=by lia
       generalize o2.push q=o3 at mC ⊢;generalize nb-1=k2 at mC hj hj3 hs3 hp ⊢
      all_goals (
       obtain⟨r,r1,r2,r3⟩:=eb (k2-1) (by lia);refine Df (aH p1 ?_);have mD:=pushA mC hi2 (by lia) hj3 p2 r2 (hp r (by lia) r2);refine aA (fun e=>Dg ⟨g4,.inl ⟨_,rfl,finD mD (.inl (by simpa using e))⟩⟩) fun e=>?_;have e3:1<=at'-1:=by
        have:¬at'-1=0:=fun z=>e (by show((at'-1:Nat)==0)=true;rw[z];rfl)
        lia
       exact aA (fun _=>Dg ⟨g4,.inr ⟨rfl,mD,e3,hj,by show at' - 1<=a.size; lia,hj3,by show x+1+(at' - 1)+k2 < _; lia⟩⟩) fun _=>Dg ⟨g4,rfl,mD,e3,hj,by show at' - 1<=a.size; lia,hj3,by show x+(y+1)+(at' - 1)+k2 < _; lia⟩)))
end
def Seg (κ:KeyKind)(xs:Array Keyed)(lo hi:Nat):Prop:=∀i j p q,lo<=i->i<=j->j<hi->xs[i]?=some p->xs[j]?=some q->kl κ p q
theorem Seg.list{κ:KeyKind}{xs:Array Keyed}{lo hi:Nat}(h:Seg κ xs lo hi)(hh:hi<=xs.size):(xs.extract lo hi).toList.Pairwise (kl κ):=by
 refine BE.mpr fun i j hi' hj hij=>?_;rw[cA,AR,Af,Ab] at hi' hj;have at':∀k (hk:k<(xs.extract lo hi).toList.length),xs[lo+k]?=some (xs.extract lo hi).toList[k]:=fun k hk=>by
  have e:(xs.extract lo hi).toList[k]?=some (xs.extract lo hi).toList[k]:=Aa hk;rw[cA,AR,Af,Ab] at hk;have e2:(xs.extract lo hi).toList[k]?=xs[lo+k]?:=by
   rw[cA,Bf,Bh (by lia),Ao]
  rw[<- e2];exact e
 exact h (lo+i) (lo+j) _ _ (by lia) (by lia) (by lia) (at' i _) (at' j _)
def wr (sa:Nat)(L:List (Keyed×Nat))(a:Array Keyed):Array Keyed:=L.foldl (fun a x=>match x with|(p,j)=>a.setIfInBounds (sa+j) p) a
theorem mq(sa:Nat):∀(L:List Keyed)(n:Nat)(a:Array Keyed)(k:Nat),sa+n+L.length<=a.size->(wr sa (L.zipIdx n) a)[k]?=if sa+n<=k/\k<sa+n+L.length then L[k-(sa+n)]? else a[k]?
 |[],n,a,k,_=>by rw[Dh (by rw[Cy];lia)];rfl
 |p::r,n,a,k,h=>by
  rw[AF] at h;show(wr sa (r.zipIdx (n+1)) (a.setIfInBounds (sa+n) p))[k]?=_;rw[mq sa r (n+1) _ k (by rw[Array.size_setIfInBounds];lia),Array.getElem?_setIfInBounds,AF];by_cases h1:k=sa+n
  ·subst h1;rw[Dh (by lia),Di rfl,Di (by lia),Di (by lia),Cd];rfl
  ·by_cases h2:sa+(n+1)<=k/\k<sa+(n+1)+r.length
   ·rw[Di h2,Di (by lia),show k-(sa+n)=(k-(sa+(n+1)))+1 by lia];rfl
   ·rw[Dh h2,Dh (fun z=>h1 z.symm),Dh (by lia)]
theorem qL(sa:Nat)(L:List Keyed)(a:Array Keyed)(h:sa+L.length<=a.size):(wr sa (L.zipIdx 0) a).toList=a.toList.take sa++L++a.toList.drop (sa+L.length):=by
 refine Co fun k=>?_;rw[Ao,mq sa L 0 a k (by lia),Bk,AG];have lt:(a.toList.take sa).length=sa:=by rw[Af,Ab];lia
 by_cases h1:k<sa
 ·rw[Dh (by lia),Bw (by lia),Bh h1,Ao]
 ·rw[AZ (by lia),lt];by_cases h2:k<sa+L.length
  ·rw[Di ⟨by lia,h2⟩,Bw (by lia)]
  ·rw[Dh (by lia),AZ (by lia),Bf,<- Ao]
   congr 1;lia
structure SB(κ:KeyKind)(a₀:Array Keyed)(st:SortSt):Prop where
 perm:(arrOf st).Perm a₀
 kind:kindOf st=oneType'
 failed:failedOf st=none
theorem SB.size{κ:KeyKind}{a₀:Array Keyed}{st:SortSt}(h:SB κ a₀ st):(arrOf st).size=a₀.size:=h.perm.size_eq
theorem SB.at{κ:KeyKind}{a₀:Array Keyed}{st:SortSt}(h:SB κ a₀ st)(h0:KeysOf κ a₀){i:Nat}(hi:i<a₀.size):∃p,(arrOf st)[i]?=some p/\Has κ p:=by
 have hi':i<(arrOf st).size:=by rw[h.size];exact hi
 exact⟨(arrOf st)[i],AM hi',h0 _ ((CM.mp h.perm).mem_iff.mp (by simp))⟩
section
variable {prog:Program}{w:World}{A:Around}{E:Value->Shared->Prop}{s:Shared}{κ:KeyKind}{st:SortSt}{a₀:Array Keyed}
theorem qV{Q:PUnit->SortSt->Prop}{st':SortSt}(h:Q ⟨⟩ st'):wpS (model prog w) A E s (set st':StateT SortSt Sem PUnit) Q st:=by
 unfold wpS;rw[StateT.run_set];exact De ⟨rfl,h⟩
theorem iL{i sa na sb nb pw pw2:Nat}{Q:Bool->SortSt->Prop}(hO:κ.OneLt)(h0:KeysOf κ a₀)(hB:SB κ a₀ st)(e1:(pendingOf st)[i]?=some (sa,na,pw))(e2:(pendingOf st)[i+1]?=some (sb,nb,pw2))(es:sb=sa+na)(n1:1<=na)(n2:1<=nb)(hz:sb+nb<=a₀.size)
  (s1:Seg κ (arrOf st) sa (sa+na))(s2:Seg κ (arrOf st) sb (sb+nb))
  (h:∀st',SB κ a₀ st'->pendingOf st'=((pendingOf st).setIfInBounds i (sa,na+nb,pw)).eraseIdxIfInBounds (i+1)->Seg κ (arrOf st') sa (sa+(na+nb))->(∀k,k<sa\/sb+nb<=k->(arrOf st')[k]?=(arrOf st)[k]?)->Q true st'):wpS (model prog w) A E s (mergeAt' i) Q st:=by
 refine Df (wpS_get ?_);have e1':(sortPriv% PySem.Builtin.SortState.pending) st=pendingOf st:=rfl;rw[e1',e1,e2];refine Df (qV ?_);have hX:(arrOf st).size=a₀.size:=hB.size;have kk:∀p∈(arrOf st).toList,Has κ p:=fun p hp=>h0 _ ((CM.mp hB.perm).mem_iff.mp hp);have whole:∀{q:Keyed},(arrOf st)[sb]?=some q->(∀i x,sa<=i->i<sb->(arrOf st)[i]?=some x->kl κ x q)->Seg κ (arrOf st) sa (sa+(na+nb)):=fun {q} eq hq i j p r h1 h2 h3 e3 e4=>by
  by_cases c1:j<sb
  ·exact s1 i j p r h1 h2 (by lia) e3 e4
  ·by_cases c2:i<sb
   ·exact(hq i p h1 c2 e3).trans (s2 sb j q r (zX _) (by lia) (by lia) eq e4)
   ·exact s2 i j p r (by lia) h2 (by lia) e3 e4
 obtain⟨q,q1,q3⟩:=hB.at h0 (i:=sb) (by lia);refine Df (aH q1 (Df (bN (κ:=κ) (base:=sa) (n:=na) (hint:=0) hO hB.kind q3 (fun i=>((arrOf st)[sa+i]?).getD q) (fun i hi=>?_) (by lia) (fun i=>!κ.blt (kf κ q) (kf κ (((arrOf st)[sa+i]?).getD q))) (fun i=>rfl) (fun i j hij hj hBj=>?_) fun k hkn hk1 hk2=>?_)))
 ·obtain⟨p,p1,p3⟩:=hB.at h0 (i:=sa+i) (by lia);rw[p1];exact⟨rfl,p3⟩
 ·obtain⟨p,p1,p3⟩:=hB.at h0 (i:=sa+i) (by lia);obtain⟨r,r1,r3⟩:=hB.at h0 (i:=sa+j) (by lia);rw[r1] at hBj;rw[p1];have hr:kl κ r q:=by
   show κ.blt (kf κ q) (kf κ r)=false;simpa using hBj
  have h2:κ.blt (kf κ q) (kf κ p)=false:=(s1 (sa+i) (sa+j) p r (by lia) (by lia) (by lia) p1 r1).trans hr;show(!κ.blt (kf κ q) (kf κ p))=true;rw[h2];rfl
 have lo:∀i x,sa<=i->i<sa+k->(arrOf st)[i]?=some x->kl κ x q:=fun i x h1 h2 e=>by
  have:=hk1 (i-sa) (by lia);rw[show sa+(i-sa)=i by lia,e] at this;show κ.blt (kf κ q) (kf κ x)=false;simpa using this
 have hi':∀i x,sa+k<=i->i<sb->(arrOf st)[i]?=some x->kl κ q x:=fun i x h1 h2 e=>by
  have:=hk2 (i-sa) (by lia) (by lia);rw[show sa+(i-sa)=i by lia,e] at this;exact Dy (show κ.blt (kf κ q) (kf κ x)=true by simpa using this)
 refine aA (fun e=>Dg (h _ ⟨hB.perm,hB.kind,hB.failed⟩ rfl ?_ fun _ _=>rfl)) fun e=>?_
 ·have e':na-k=0:=by simpa using e
  exact whole q1 fun i x h1 h2 ex=>lo i x h1 (by lia) ex
 have k1:1<=na-k:=by
  have:¬na-k=0:=fun z=>e (by show((na-k:Nat)==0)=true;rw[z];rfl)
  lia
 obtain⟨p,p1,p3⟩:=hB.at h0 (i:=sa+k+(na-k)-1) (by lia);have p1':(arrOf st)[sb-1]?=some p:=by rw[<- p1];congr 1;lia
 refine Df (aH p1 (Df (bN (κ:=κ) (base:=sb) (n:=nb) (hint:=nb-1) hO hB.kind p3 (fun i=>((arrOf st)[sb+i]?).getD p) (fun i hi=>?_) (by lia) (fun i=>κ.blt (kf κ (((arrOf st)[sb+i]?).getD p)) (kf κ p)) (fun i=>rfl) (fun i j hij hj hBj=>?_) fun k2 hkn2 hj1 hj2=>?_)))
 ·obtain⟨r,r1,r3⟩:=hB.at h0 (i:=sb+i) (by lia);rw[r1];exact⟨rfl,r3⟩
 ·obtain⟨u,u1,u3⟩:=hB.at h0 (i:=sb+i) (by lia);obtain⟨r,r1,r3⟩:=hB.at h0 (i:=sb+j) (by lia);rw[r1] at hBj;rw[u1];exact KeyOrd.klt_of_kle_of_klt (s2 (sb+i) (sb+j) u r (by lia) (by lia) (by lia) u1 r1) hBj
 have lo2:∀i x,sb<=i->i<sb+k2->(arrOf st)[i]?=some x->kl κ x p:=fun i x h1 h2 e=>by
  have:=hj1 (i-sb) (by lia);rw[show sb+(i-sb)=i by lia,e] at this;exact Dy this
 have hi2:∀i x,sb+k2<=i->i<sb+nb->(arrOf st)[i]?=some x->kl κ p x:=fun i x h1 h2 e=>by
  have:=hj2 (i-sb) (by lia) (by lia);rw[show sb+(i-sb)=i by lia,e] at this;exact this
 refine aA (fun e=>Dg (h _ ⟨hB.perm,hB.kind,hB.failed⟩ rfl ?_ fun _ _=>rfl)) fun e=>?_
 ·have e':k2=0:=by simpa using e
  exact whole q1 fun i x h1 h2 ex=>(s1 i (sb-1) x p h1 (by lia) (by lia) ex p1').trans (hi2 sb q (by lia) (by lia) q1)
 have k21:1<=k2:=by
  have:¬k2=0:=fun z=>e (by show((k2:Nat)==0)=true;rw[z];rfl)
  lia
 have mem:∀{lo hi:Nat}{v:Keyed},v∈((arrOf st).extract lo hi).toList->∃i,lo<=i/\i<hi/\(arrOf st)[i]?=some v:=fun {lo hi v} hv=>by
  obtain⟨i,hi'',e⟩:=Bm.mp hv;have e1:((arrOf st).extract lo hi).toList[i]?=some v:=by rw[<- e];exact Aa _
  rw[cA,AR,Af] at hi'';rw[cA,Bf,Bh (by lia),Ao] at e1;exact⟨lo+i,by lia,by lia,e1⟩
 have kx:∀{lo hi:Nat},∀v∈((arrOf st).extract lo hi).toList,Has κ v:=fun {lo hi} v hv=>by
  obtain⟨i,_,_,e⟩:=mem hv;exact kk v (Am (by rw[Ao];exact e))
 have zx:((arrOf st).extract (sa+k) sb).size=na-k:=by rw[Array.size_extract];lia
 have zy:((arrOf st).extract sb (sb+k2)).size=k2:=by rw[Array.size_extract];lia
 have sx:((arrOf st).extract (sa+k) sb).toList.Pairwise (kl κ):=Seg.list (fun i j p q a1 a2 a3=>s1 i j p q (by lia) a2 (by lia)) (by lia);have sy:((arrOf st).extract sb (sb+k2)).toList.Pairwise (kl κ):=Seg.list (fun i j p q a1 a2 a3=>s2 i j p q a1 a2 (by lia)) (by lia);have hx0:∀y∈((arrOf st).extract (sa+k) sb).toList,∀p,((arrOf st).extract sb (sb+k2))[0]?=some p->kl κ p y:=fun y hy p' e=>by
  rw[<- Ao,cA,Bf,Bh (by lia),Ao,Bk,q1] at e;cases e;obtain⟨i,a1,a2,a3⟩:=mem hy;exact hi' i y a1 a2 a3
 have hyl:∀x∈((arrOf st).extract sb (sb+k2)).toList,∀p,((arrOf st).extract (sa+k) sb)[((arrOf st).extract (sa+k) sb).size-1]?=some p->kl κ x p:=fun x hx p' e=>by
  rw[zx,<- Ao,cA,Bf,Bh (by lia),Ao,show sa+k+(na-k-1)=sb-1 by lia,p1'] at e;cases e;obtain⟨i,a1,a2,a3⟩:=mem hx;exact lo2 i x a1 a2 a3
 have tail:∀(r:Array Keyed)(st2:SortSt),kindOf st2=oneType'->arrOf st2=arrOf st->pendingOf st2=((pendingOf st).setIfInBounds i (sa,na+nb,pw)).eraseIdxIfInBounds (i+1)->failedOf st2=none->Fin κ ((arrOf st).extract (sa+k) sb).toList ((arrOf st).extract sb (sb+k2)).toList r.toList->Q true (setArr st2 (wr (sa+k) (r.toList.zipIdx 0) (arrOf st2))):=fun r st2 c1 c2 c3 c4 f=>by
  have lr:r.toList.length=(na-k)+k2:=by
   have:=f.1.length_eq;rw[zZ,Ab (xs:=(arrOf st).extract (sa+k) sb),Ab (xs:=(arrOf st).extract sb (sb+k2)),zx,zy] at this;exact this
  have wl:=qL (sa+k) r.toList (arrOf st) (by lia);have wg:∀t,(wr (sa+k) (r.toList.zipIdx 0) (arrOf st))[t]?=if sa+k<=t/\t<sb+k2 then r.toList[t-(sa+k)]? else (arrOf st)[t]?:=fun t=>by
   rw[mq (sa+k) r.toList 0 (arrOf st) t (by lia),Bk,show sa+k+r.toList.length=sb+k2 by lia]
  have rmem:∀v∈r.toList,(∃i,sa+k<=i/\i<sb/\(arrOf st)[i]?=some v)\/∃i,sb<=i/\i<sb+k2/\(arrOf st)[i]?=some v:=fun v hv=>by
   rcases Ai.mp (f.1.mem_iff.mp hv) with h1|h1
   ·exact .inl (mem h1)
   ·exact .inr (mem h1)
  have up:∀v∈r.toList,∀i u,sa<=i->i<sa+k->(arrOf st)[i]?=some u->kl κ u v:=fun v hv i u a1 a2 a3=>by
   rcases rmem v hv with ⟨t,b1,b2,b3⟩|⟨t,b1,b2,b3⟩
   ·exact s1 i t u v a1 (by lia) (by lia) a3 b3
   ·exact(lo i u a1 a2 a3).trans (s2 sb t q v (zX _) b1 (by lia) q1 b3)
  have dn:∀v∈r.toList,∀i u,sb+k2<=i->i<sb+nb->(arrOf st)[i]?=some u->kl κ v u:=fun v hv i u a1 a2 a3=>by
   rcases rmem v hv with ⟨t,b1,b2,b3⟩|⟨t,b1,b2,b3⟩
   ·exact(s1 t (sb-1) v p (by lia) (by lia) (by lia) b3 p1').trans (hi2 i u a1 a2 a3)
   ·exact s2 t i v u b1 (by lia) a2 b3 a3
  rw[c2];refine h _ ⟨?_,c1,c4⟩ c3 ?_ fun t ht=>?_
  ·refine Array.Perm.trans ?_ hB.perm;show(wr (sa+k) (r.toList.zipIdx 0) (arrOf st)).Perm (arrOf st);refine CM.mpr ?_;rw[wl];have eo:(arrOf st).toList=(arrOf st).toList.take (sa+k)++(((arrOf st).extract (sa+k) sb).toList++((arrOf st).extract sb (sb+k2)).toList)++(arrOf st).toList.drop (sa+k+r.toList.length):=by
    rw[cA,cA,show sa+k+r.toList.length=sb+k2 by lia];have a1:(arrOf st).toList.take (sa+k)++((arrOf st).toList.take sb).drop (sa+k)=(arrOf st).toList.take sb:=by
     have:=AU (sa+k) ((arrOf st).toList.take sb)
     rwa [BF,AV (by lia)] at this
    have a2:(arrOf st).toList.take sb++((arrOf st).toList.take (sb+k2)).drop sb=(arrOf st).toList.take (sb+k2):=by
     have:=AU sb ((arrOf st).toList.take (sb+k2))
     rwa [BF,AV (by lia)] at this
    rw[<- AG,a1,a2,AU]
   conv=>rhs;rw[eo]
   exact((f.1.append_left _).append_right _)
  ·intro i' j' u v a1 a2 a3 a4 a5;have a4':(wr (sa+k) (r.toList.zipIdx 0) (arrOf st))[i']?=some u:=a4;have a5':(wr (sa+k) (r.toList.zipIdx 0) (arrOf st))[j']?=some v:=a5;rw[wg] at a4' a5';by_cases d1:sa+k<=i'/\i'<sb+k2
   ·rw[Di d1] at a4';by_cases d2:sa+k<=j'/\j'<sb+k2
    ·rw[Di d2] at a5';obtain⟨w1,w2⟩:=Ad.mp a4';obtain⟨w3,w4⟩:=Ad.mp a5';rw[<- w2,<- w4];by_cases ee:i'=j'
     ·subst ee;exact Dx _
     ·exact BE.mp f.2 _ _ w1 w3 (by lia)
    ·rw[Dh d2] at a5';exact dn u (Am a4') j' v (by lia) (by lia) a5'
   ·rw[Dh d1] at a4';by_cases d2:sa+k<=j'/\j'<sb+k2
    ·rw[Di d2] at a5';exact up v (Am a5') i' u a1 (by lia) a4'
    ·rw[Dh d2] at a5';by_cases d3:j'<sa+k
     ·exact s1 i' j' u v a1 a2 (by lia) a4' a5'
     ·by_cases d4:i'<sa+k
      ·exact(lo i' u a1 d4 a4').trans (s2 sb j' q v (zX _) (by lia) (by lia) q1 a5')
      ·exact s2 i' j' u v (by lia) a2 (by lia) a4' a5'
  ·show(wr (sa+k) (r.toList.zipIdx 0) (arrOf st))[t]?=_;rw[wg,Dh (by lia)]
 have fin:∀(r:Array Keyed)(st2:SortSt),Ep (setPending st (((pendingOf st).setIfInBounds i (sa,na+nb,pw)).eraseIdxIfInBounds (i+1))) st2->Fin κ ((arrOf st).extract (sa+k) sb).toList ((arrOf st).extract sb (sb+k2)).toList r.toList->kindOf st2=oneType'/\arrOf st2=arrOf st/\pendingOf st2=((pendingOf st).setIfInBounds i (sa,na+nb,pw)).eraseIdxIfInBounds (i+1)/\failedOf st2=none:=fun r st2 g f=>⟨g.kind.trans hB.kind,g.arr,g.pend,g.fail.trans hB.failed⟩
 refine aA (fun _=>?_) fun _=>?_
 ·refine Df (jg hO hB.kind kx kx sx sy (show 1<=((arrOf st).extract (sa+k) sb).size by rw[zx];exact k1) (show 1<=((arrOf st).extract sb (sb+k2)).size by rw[zy];exact k21) hx0 hyl fun r st2 g f=>?_);obtain⟨c1,c2,c3,c4⟩:=fin r st2 g f;refine Df (wpS_modify (Df (wpS_get (Dg ?_))));have:=tail r st2 c1 c2 c3 c4 f;show Q (failedOf st2).isNone _;rw[c4];exact this
 ·refine Df (iH hO hB.kind kx kx sx sy (show 1<=((arrOf st).extract (sa+k) sb).size by rw[zx];exact k1) (show 1<=((arrOf st).extract sb (sb+k2)).size by rw[zy];exact k21) hx0 hyl fun r st2 g f=>?_);obtain⟨c1,c2,c3,c4⟩:=fin r st2 g f;refine Df (wpS_modify (Df (wpS_get (Dg ?_))));have:=tail r st2 c1 c2 c3 c4 f;show Q (failedOf st2).isNone _;rw[c4];exact this
end
structure Frm(κ:KeyKind)(a₀:Array Keyed)(st0:SortSt)(lo hi:Nat)(st:SortSt):Prop where
 sb:SB κ a₀ st
 pend:pendingOf st=pendingOf st0
 out:∀k,k<lo\/hi<=k->(arrOf st)[k]?=(arrOf st0)[k]?
section
variable {κ:KeyKind}{a₀:Array Keyed}{st0 st:SortSt}{lo hi:Nat}
theorem Frm.refl(h:SB κ a₀ st):Frm κ a₀ st lo hi st:=⟨h,rfl,fun _ _=>rfl⟩
theorem Frm.put(h:Frm κ a₀ st0 lo hi st){xs:Array Keyed}(p:xs.Perm (arrOf st))(o:∀k,k<lo\/hi<=k->xs[k]?=(arrOf st)[k]?):Frm κ a₀ st0 lo hi (setArr st xs):=⟨⟨p.trans h.sb.perm,h.sb.kind,h.sb.failed⟩,h.pend,fun k hk=>(o k hk).trans (h.out k hk)⟩
theorem Frm.mirror(h:Frm κ a₀ st0 lo hi st){i j:Nat}(h1:lo<=i)(h2:j<=hi)(h3:hi<=a₀.size):Frm κ a₀ st0 lo hi (setArr st (mirror (arrOf st) i j ((j-i)/2))):=h.put (mirror_perm _ _ _ _) fun k hk=>by
 rw[getElem?_mirror_all (by rw[h.sb.size];lia),Dh (by lia)]
theorem Frm.bubble(h:Frm κ a₀ st0 lo hi st){src d:Nat}(h1:lo<=src-d)(h2:src<hi)(h3:hi<=a₀.size)(h4:d<=src):Frm κ a₀ st0 lo hi (setArr st (bubble (arrOf st) src d)):=h.put (bubble_perm _ _ _) fun k hk=>by
 rw[getElem?_bubble (by rw[h.sb.size];lia) d h4,Dh (by lia),Dh (by lia)]
end
def Up (κ:KeyKind)(xs:Array Keyed)(lo n:Nat):Prop:=∀i j,i<=j->j<n->κ.kle (KK κ xs (lo+i)) (KK κ xs (lo+j))
def Dn (κ:KeyKind)(xs:Array Keyed)(lo n:Nat):Prop:=∀i j,i<=j->j<n->κ.kle (KK κ xs (lo+j)) (KK κ xs (lo+i))
theorem Up.seg{κ:KeyKind}{xs:Array Keyed}{lo n:Nat}(h:Up κ xs lo n):Seg κ xs lo (lo+n):=fun i j p q h1 h2 h3 e1 e2=>by
 have:=h (i-lo) (j-lo) (by lia) (by lia);rw[show lo+(i-lo)=i by lia,show lo+(j-lo)=j by lia] at this;unfold KK at this;rw[e1,e2] at this;exact this
theorem Up.more{κ:KeyKind}{xs:Array Keyed}{lo n:Nat}(h:Up κ xs lo n)(h1:1<=n)(hl:κ.kle (KK κ xs (lo+n-1)) (KK κ xs (lo+n))):Up κ xs lo (n+1):=fun i j hij hj=>by
 by_cases c:j<n
 ·exact h i j hij c
 ·have e:j=n:=by lia
  subst e;by_cases d:i=j
  ·subst d;exact Dx _
  ·refine KeyOrd.kle_trans (h i (j-1) (by lia) (by lia)) ?_;rw[show lo+(j-1)=lo+j-1 by lia];exact hl
theorem Dn.more{κ:KeyKind}{xs:Array Keyed}{lo n:Nat}(h:Dn κ xs lo n)(h1:1<=n)(hl:κ.kle (KK κ xs (lo+n)) (KK κ xs (lo+n-1))):Dn κ xs lo (n+1):=fun i j hij hj=>by
 by_cases c:j<n
 ·exact h i j hij c
 ·have e:j=n:=by lia
  subst e;by_cases d:i=j
  ·subst d;exact Dx _
  ·refine KeyOrd.kle_trans ?_ (h i (j-1) (by lia) (by lia));rw[show lo+(j-1)=lo+j-1 by lia];exact hl
section
variable {prog:Program}{w:World}{A:Around}{E:Value->Shared->Prop}{s:Shared}{κ:KeyKind}{st:SortSt}{a₀:Array Keyed}
theorem dI{i j:Nat}{Q:Option Bool->SortSt->Prop}(hO:κ.OneLt)(hB:SB κ a₀ st)(h0:KeysOf κ a₀)(hi:i<a₀.size)(hj:j<a₀.size)(h:Q (some (κ.blt (KK κ (arrOf st) i) (KK κ (arrOf st) j))) st):wpS (model prog w) A E s (ltAt' i j) Q st:=by
 obtain⟨⟨x,p⟩,e1,a,ha⟩:=hB.at h0 hi;obtain⟨⟨y,q⟩,e2,b,hb⟩:=hB.at h0 hj;have ka:KK κ (arrOf st) i=a:=by unfold KK;rw[e1];simp[ha]
 have kb:KK κ (arrOf st) j=b:=by unfold KK;rw[e2];simp[hb]
 rw[ka,kb] at h;exact wpS_ltAtK hO hB.kind e1 e2 ha hb h
theorem fD{i j:Nat}{Q:Unit->SortSt->Prop}(h:∀st',st'=setArr st (mirror (arrOf st) i j ((j-i)/2))->Q () st'):wpS (model prog w) A E s (reverseSlice' i j) Q st:=by
 rw[reverseSlice'_eq];exact wpS_modify (h _ rfl)
def JN:Nat->Nat->StateT SortSt Sem (Option Nat):=sortPriv% PySem.Builtin.countRun
def IZ:Nat->Nat->Nat->StateT SortSt Sem Bool:=sortPriv% PySem.Builtin.binarySort
theorem jI{lo nrem:Nat}{Q:Option Nat->SortSt->Prop}(hO:κ.OneLt)(h0:KeysOf κ a₀)(hn:lo+nrem<=a₀.size)(h1:1<=nrem)(hB:SB κ a₀ st)
  (h:∀m st',Frm κ a₀ st lo (lo+nrem) st'->1<=m->m<=nrem->Up κ (arrOf st') lo m->Q (some m) st'):wpS (model prog w) A E s (JN lo nrem) Q st:=by
 have fin:∀st1,Frm κ a₀ st lo (lo+nrem) st1->∀n,1<=n->n<=nrem->Dn κ (arrOf st1) lo n->Up κ (arrOf (setArr st1 (mirror (arrOf st1) lo (lo+n) ((lo+n-lo)/2)))) lo n:=fun st1 F n n1 n2 hd i j hij hj=>by
  have hz:lo+n<=(arrOf st1).size:=by rw[F.sb.size];lia
  show κ.kle (KK κ (mirror (arrOf st1) lo (lo+n) ((lo+n-lo)/2)) (lo+i)) (KK κ (mirror (arrOf st1) lo (lo+n) ((lo+n-lo)/2)) (lo+j));rw[KK_mirror hz,KK_mirror hz,Di (by lia),Di (by lia)];have:=hd (n-1-j) (n-1-i) (by lia) (by lia);rw[show lo+(n-1-j)=lo+(lo+n)-1-(lo+j) by lia,show lo+(n-1-i)=lo+(lo+n)-1-(lo+i) by lia] at this;exact this
 have init:Up κ (arrOf st) lo 1:=fun i j hij hj=>by
  have:i=j:=by lia
  subst this;exact Dx _
 refine Df (wpS_mono (wpS_forRange (I:=fun x c st'=>st'=st/\c=(none,x)/\Up κ (arrOf st) lo x) (Q:=fun c st'=>st'=st/\∃n,c=(none,n)/\1<=n/\n<=nrem/\Up κ (arrOf st) lo n/\(n=nrem\/κ.klt (KK κ (arrOf st) (lo+n)) (KK κ (arrOf st) (lo+n-1)))) ?step ?fin ⟨rfl,rfl,init⟩) ?post)
 case fin=>
  rintro c st' ⟨rfl,rfl,u⟩;rw[show max 1 nrem=nrem by lia] at u ⊢;exact⟨rfl,nrem,rfl,h1,zX _,u,.inl rfl⟩
 case step=>
  rintro x c st' hx1 hx2 ⟨rfl,rfl,u⟩;refine Df (dI (i:=lo+x) (j:=lo+x-1) hO hB h0 (by lia) (by lia) ?_);cases hl:κ.blt (KK κ (arrOf st') (lo+x)) (KK κ (arrOf st') (lo+x-1)) with
  |true=>
   exact Dg ⟨rfl,x,rfl,hx1,by lia,u,.inr hl⟩
  |false=>
   exact Dg ⟨rfl,rfl,u.more hx1 hl⟩
 case post=>
  rintro c st' ⟨rfl,n,rfl,n1,n2,u,hor⟩;refine aA (fun e=>Dg (h n st' (.refl hB) n1 n2 u)) fun e=>?_;have hne:n≠nrem:=fun z=>e (by show((n:Nat)==nrem)=true;rw[z];exact beq_self_eq_true _);have hlt:κ.klt (KK κ (arrOf st') (lo+n)) (KK κ (arrOf st') (lo+n-1)):=hor.resolve_left hne;apply aA
  case' h1=>
   intro hgt;have hgt':n>1:=hgt;refine Df (dI (i:=lo) (j:=lo+n-1) hO hB h0 (by lia) (by lia) ?_);cases hrose:κ.blt (KK κ (arrOf st') lo) (KK κ (arrOf st') (lo+n-1))
   case true=>exact Dg (h n st' (.refl hB) n1 n2 u)
   have hall:∀k,lo<=k->k<lo+n->KK κ (arrOf st') k=KK κ (arrOf st') (lo+n-1):=fun k k1 k2=>by
    have a1:=u 0 (k-lo) (by lia) (by lia);have a2:=u (k-lo) (n-1) (by lia) (by lia);rw[show lo+(k-lo)=k by lia] at a1 a2;rw[show lo+(n-1)=lo+n-1 by lia] at a2;exact KeyOrd.kle_antisymm a2 (KeyOrd.kle_trans hrose a1)
   refine Df (fD (i:=lo) (j:=lo+n) fun st1 hst=>?_);have hz:lo+n<=(arrOf st').size:=by rw[hB.size];lia
   have F1:Frm κ a₀ st' lo (lo+nrem) st1:=by rw[hst];exact(Frm.refl hB).mirror (zX _) (by lia) hn
   have D1:Dn κ (arrOf st1) lo (n+1):=by
    rw[hst];have e0:∀k,KK κ (arrOf (setArr st' (mirror (arrOf st') lo (lo+n) ((lo+n-lo)/2)))) k=KK κ (arrOf st') k:=KK_mirror_equal hz hall;have d0:Dn κ (arrOf (setArr st' (mirror (arrOf st') lo (lo+n) ((lo+n-lo)/2)))) lo n:=fun i j hij hj=>by
     rw[e0,e0,hall (lo+i) (by lia) (by lia),hall (lo+j) (by lia) (by lia)];exact Dx _
    refine d0.more n1 ?_;rw[e0,e0];exact Dy hlt
  case' h2=>
   intro hgt;have hn1:n=1:=by
    have:¬n>1:=hgt
    lia
   obtain⟨st1,e1⟩:∃st1,st1=st':=⟨_,rfl⟩
   have F1:Frm κ a₀ st' lo (lo+nrem) st1:=by rw[e1];exact .refl hB
   have D1:Dn κ (arrOf st1) lo (n+1):=by
    rw[e1];have d0:Dn κ (arrOf st') lo n:=fun i j hij hj=>by
     have:i=j:=by lia
     subst this;exact Dx _
    exact d0.more n1 (Dy hlt)
   rw[<- e1]
  all_goals (
   clear hlt hor u;refine Df (wpS_lift (DN ⟨rfl,?_⟩))
   refine Df (wpS_mono (wpS_forRange (I:=fun x c st2=>∃neq,c=(none,x,neq)/\Frm κ a₀ st' lo (lo+nrem) st2/\Dn κ (arrOf st2) lo x/\neq+1<=x/\∀k,lo+x - (neq+1)<=k->k < lo+x->KK κ (arrOf st2) k=KK κ (arrOf st2) (lo+x - 1))
    (Q:=fun c st2=>∃m neq,c=(none,m,neq)/\Frm κ a₀ st' lo (lo+nrem) st2/\n+1<=m/\m<=nrem/\Dn κ (arrOf st2) lo m/\neq+1<=m/\∀k,lo+m - (neq+1)<=k->k < lo+m->KK κ (arrOf st2) k=KK κ (arrOf st2) (lo+m - 1)) (fun x c st2 hx1 hx2 z=>?_) (fun c st2 z=>?_) ⟨0,rfl,F1,D1,by lia,fun k k1 k2=>by congr 1; lia⟩) fun c st2 z=>?_)
   ·obtain⟨neq,rfl,F2,D2,q1,q2⟩:=z;have hz:lo+x<=(arrOf st2).size:=by rw[F2.sb.size];lia
    refine Df (dI (i:=lo+x) (j:=lo+x-1) hO F2.sb h0 (by lia) (by lia) ?_);cases hl:κ.blt (KK κ (arrOf st2) (lo+x)) (KK κ (arrOf st2) (lo+x-1)) with
    |true=>
     refine aA (fun _=>aA (fun hq=>?_) fun hq=>?_) fun z=>absurd rfl z
     ·refine Df (fD (i:=lo+x-(neq+1)) (j:=lo+x) fun st3 hst=>Dg ?_);have e0:∀k,KK κ (arrOf st3) k=KK κ (arrOf st2) k:=by rw[hst];exact KK_mirror_equal hz q2
      have d0:Dn κ (arrOf st3) lo x:=fun i j hij hj=>by rw[e0,e0];exact D2 i j hij hj
      exact⟨0,rfl,by rw[hst];exact F2.mirror (by lia) (by lia) hn,d0.more (by lia) (by rw[e0,e0];exact Dy hl),by lia,fun k k1 k2=>by congr 1;lia⟩
     ·exact Dg ⟨0,rfl,F2,D2.more (by lia) (Dy hl),by lia,fun k k1 k2=>by congr 1;lia⟩
    |false=>
     refine Df (dI (i:=lo+x-1) (j:=lo+x) hO F2.sb h0 (by lia) (by lia) ?_);cases hg:κ.blt (KK κ (arrOf st2) (lo+x-1)) (KK κ (arrOf st2) (lo+x)) with
     |true=>exact Dg ⟨x,neq,rfl,F2,hx1,by lia,D2,q1,q2⟩
     |false=>
      have heq:KK κ (arrOf st2) (lo+x)=KK κ (arrOf st2) (lo+x-1):=KeyOrd.kle_antisymm hg hl;refine Dg ⟨neq+1,rfl,F2,D2.more (by lia) (by rw[heq];exact Dx _),by lia,fun k k1 k2=>?_⟩;rw[show lo+(x+1)-1=lo+x by lia];by_cases c:k=lo+x
      ·rw[c]
      ·rw[heq];exact q2 k (by lia) (by lia)
   ·obtain⟨neq,rfl,F2,D2,q1,q2⟩:=z;rw[show max (n+1) nrem=nrem by lia] at D2 q1 q2 ⊢;exact⟨nrem,neq,rfl,F2,by lia,zX _,D2,q1,q2⟩
   ·obtain⟨m,neq,rfl,F2,m1,m2,D2,q1,q2⟩:=z;have hz:lo+m<=(arrOf st2).size:=by rw[F2.sb.size];lia
    apply aA
    case' h1=>
     intro hq;refine Df (fD (i:=lo+m-(neq+1)) (j:=lo+m) fun st3 hst=>?_);have e0:∀k,KK κ (arrOf st3) k=KK κ (arrOf st2) k:=by rw[hst];exact KK_mirror_equal hz q2
     have D3:Dn κ (arrOf st3) lo m:=fun i j hij hj=>by rw[e0,e0];exact D2 i j hij hj
     have F3:Frm κ a₀ st' lo (lo+nrem) st3:=by rw[hst];exact F2.mirror (by lia) (by lia) hn
     clear hst e0
    case' h2=>
     intro hq;obtain⟨st3,e3⟩:∃st3,st3=st2:=⟨_,rfl⟩
     have D3:Dn κ (arrOf st3) lo m:=by rw[e3];exact D2
     have F3:Frm κ a₀ st' lo (lo+nrem) st3:=by rw[e3];exact F2
     rw[<- e3];clear e3
    all_goals (
     refine Df (fD (i:=lo) (j:=lo+m) fun st4 hst=>?_);have U4:Up κ (arrOf st4) lo m:=by rw[hst];exact fin st3 F3 m (by lia) m2 D3
     have F4:Frm κ a₀ st' lo (lo+nrem) st4:=by rw[hst];exact F3.mirror (zX _) (by lia) hn
     refine Df (wpS_mono (wpS_forRange (I:=fun x c st5=>st5=st4/\c=(none,x)/\Up κ (arrOf st4) lo x) (Q:=fun c st5=>st5=st4/\∃n,c=(none,n)/\1<=n/\n<=nrem/\Up κ (arrOf st4) lo n) (fun x c st5 hx1 hx2 z=>?_) (fun c st5 z=>?_) ⟨rfl,rfl,U4⟩) fun c st5 z=>?_)
     ·obtain⟨rfl,rfl,u⟩:=z;have hx1':m<=x:=hx1;have hx2':x<nrem:=hx2;refine Df (dI (i:=lo+x) (j:=lo+x-1) hO F4.sb h0 (by lia) (by lia) ?_);cases hl:κ.blt (KK κ (arrOf st5) (lo+x)) (KK κ (arrOf st5) (lo+x-1)) with
      |true=>exact Dg ⟨rfl,x,rfl,by lia,by lia,u⟩
      |false=>exact Dg ⟨rfl,rfl,u.more (by lia) hl⟩
     ·obtain⟨rfl,rfl,u⟩:=z;rw[show max m nrem=nrem by lia] at u ⊢;exact⟨rfl,nrem,rfl,h1,zX _,u⟩
     ·obtain⟨rfl,n',rfl,b1,b2,u⟩:=z
      exact Dg (h n' st5 F4 b1 b2 u)))
theorem iS{lo n ok:Nat}{Q:Bool->SortSt->Prop}(hO:κ.OneLt)(h0:KeysOf κ a₀)(hn:lo+n<=a₀.size)(hok:ok<=n)(hB:SB κ a₀ st)(hs:Up κ (arrOf st) lo ok)
  (h:∀st',Frm κ a₀ st lo (lo+n) st'->Up κ (arrOf st') lo n->Q true st'):wpS (model prog w) A E s (IZ lo n ok) Q st:=by
 refine Df (wpS_mono (wpS_forRange (I:=fun k c st'=>c=(none,())/\Frm κ a₀ st lo (lo+n) st'/\Up κ (arrOf st') lo (min k n)) (Q:=fun c st'=>c=(none,())/\Frm κ a₀ st lo (lo+n) st'/\Up κ (arrOf st') lo n) (fun k c st1 hk1 hk2 z=>?_) (fun c st' z=>?_) ⟨rfl,.refl hB,?_⟩) fun c st' z=>?_)
 rotate_left
 ·obtain⟨hc,F,u⟩:=z;rw[show min (max (max ok 1) n) n=n by lia] at u;exact⟨hc,F,u⟩
 ·intro i j hij hj;by_cases c:ok=0
  ·have:i=j:=by lia
   subst this;exact Dx _
  ·exact hs i j hij (by lia)
 ·obtain⟨rfl,F,u⟩:=z;exact Dg (h st' F u)
 obtain⟨rfl,F1,u⟩:=z;rw[show min k n=k by lia] at u;have hk:lo+k<a₀.size:=by lia
 refine Df (wpS_mono (wpS_forRange (I:=fun x c st2=>st2=st1/\∃l r,c=(none,l,r)/\l<=r/\r<=k/\r - l<=k - x/\(∀i,i < l->κ.kle (KK κ (arrOf st1) (lo+i)) (KK κ (arrOf st1) (lo+k)))/\(∀i,r<=i->i < k->κ.klt (KK κ (arrOf st1) (lo+k)) (KK κ (arrOf st1) (lo+i))))
  (Q:=fun c st2=>st2=st1/\∃l r,c=(none,l,r)/\l<=k/\(∀i,i < l->κ.kle (KK κ (arrOf st1) (lo+i)) (KK κ (arrOf st1) (lo+k)))/\(∀i,l<=i->i < k->κ.klt (KK κ (arrOf st1) (lo+k)) (KK κ (arrOf st1) (lo+i)))) (fun x c st2 hx1 hx2 z=>?_) (fun c st2 z=>?_) ⟨rfl,0,k,rfl,Ah _,zX _,by lia,fun i hi=>by lia,fun i h1 h2=>by lia⟩) fun c st2 z=>?_)
 ·obtain⟨rfl,l,r,rfl,b1,b2,b3,b4,b5⟩:=z;refine aA (fun hge=>?_) fun hge=>?_
  ·have hge':l≥r:=hge;have:l=r:=by lia
   subst this;exact Dg ⟨rfl,l,l,rfl,b2,b4,b5⟩
  have hge':¬l≥r:=hge;refine Df (dI (i:=lo+k) (j:=lo+(l+r)/2) hO F1.sb h0 hk (by lia) ?_);cases hl:κ.blt (KK κ (arrOf st2) (lo+k)) (KK κ (arrOf st2) (lo+(l+r)/2)) with
  |true=>exact Dg ⟨rfl,l,(l+r)/2,rfl,by lia,by lia,by lia,b4,fun i h1 h2=>KeyOrd.klt_of_klt_of_kle hl (u _ _ h1 h2)⟩
  |false=>exact Dg ⟨rfl,(l+r)/2+1,r,rfl,by lia,by lia,by lia,fun i h1=>KeyOrd.kle_trans (u i ((l+r)/2) (by lia) (by lia)) hl,b5⟩
 ·obtain⟨rfl,l,r,rfl,b1,b2,b3,b4,b5⟩:=z;have b3':r-l<=k-max 0 k:=b3;have:l=r:=by lia
  subst this;exact⟨rfl,l,l,rfl,b2,b4,b5⟩
 ·obtain⟨rfl,l,r,rfl,b1,b4,b5⟩:=z;have hz:lo+k<(arrOf st2).size:=by rw[F1.sb.size];exact hk
  refine Df (wpS_modify (Dg ⟨rfl,F1.bubble (src:=lo+k) (d:=lo+k-(lo+l)) (by lia) (by lia) hn (by lia),?_⟩));rw[show min (k+1) n=k+1 by lia];intro i j hij hj;show κ.kle (KK κ (bubble (arrOf st2) (lo+k) (lo+k-(lo+l))) (lo+i)) (KK κ (bubble (arrOf st2) (lo+k) (lo+k-(lo+l))) (lo+j));rw[KK_bubble hz (by lia),KK_bubble hz (by lia),show lo+k-(lo+k-(lo+l))=lo+l by lia];by_cases c1:lo+j=lo+l
  ·rw[Di c1];by_cases c2:lo+i=lo+l
   ·rw[Di c2];exact Dx _
   ·rw[Dh c2,Dh (by lia)];exact b4 i (by lia)
  ·rw[Dh c1];by_cases c3:lo+l<lo+j/\lo+j<=lo+k
   ·rw[Di c3,show lo+j-1=lo+(j-1) by lia];by_cases c2:lo+i=lo+l
    ·rw[Di c2];exact Dy (b5 _ (by lia) (by lia))
    ·rw[Dh c2];by_cases c4:lo+l<lo+i/\lo+i<=lo+k
     ·rw[Di c4,show lo+i-1=lo+(i-1) by lia];exact u _ _ (by lia) (by lia)
     ·rw[Dh c4];exact u _ _ (by lia) (by lia)
   ·rw[Dh c3,Dh (by lia),Dh (by lia)];exact u _ _ (by lia) (by lia)
end
abbrev Rn:=Nat×Nat×Nat
def Chain(κ:KeyKind)(xs:Array Keyed):List Rn->Nat->Nat->Prop
 |[],s,e=>s=e
 |t::r,s,e=>t.1=s/\1<=t.2.1/\Seg κ xs s (s+t.2.1)/\Chain κ xs r (s+t.2.1) e
section
variable {κ:KeyKind}{xs ys:Array Keyed}
theorem Chain.app:∀{L M:List Rn}{s e:Nat},Chain κ xs (L++M) s e↔∃m,Chain κ xs L s m/\Chain κ xs M m e
 |[],M,s,e=>⟨fun h=>⟨s,rfl,h⟩,fun⟨m,h1,h2⟩=>by cases h1;exact h2⟩
 |t::r,M,s,e=>by
  constructor
  ·rintro⟨h1,h2,h3,h4⟩;obtain⟨m,a,b⟩:=Chain.app.mp h4;exact⟨m,⟨h1,h2,h3,a⟩,b⟩
  ·rintro⟨m,⟨h1,h2,h3,a⟩,b⟩;exact⟨h1,h2,h3,Chain.app.mpr ⟨m,a,b⟩⟩
theorem Chain.len:∀{L:List Rn}{s e:Nat},Chain κ xs L s e->s+L.length<=e
 |[],s,e,h=>by cases h;exact zX _
 |t::r,s,e,⟨_,h2,_,h4⟩=>by
  have:=h4.len;rw[AF];lia
theorem Chain.keep:∀{L:List Rn}{s e:Nat},Chain κ xs L s e->(∀k,s<=k->k<e->ys[k]?=xs[k]?)->Chain κ ys L s e
 |[],s,e,h,_=>h
 |t::r,s,e,⟨h1,h2,h3,h4⟩,hk=>by
  have:=h4.len;exact⟨h1,h2,fun i j p q a1 a2 a3 e1 e2=>h3 i j p q a1 a2 a3 (by rw[<- hk i (by lia) (by lia)];exact e1) (by rw[<- hk j (by lia) (by lia)];exact e2),h4.keep fun k a b=>hk k (by lia) b⟩
theorem Chain.pow(pw:Nat):∀{L:List Rn}{s e:Nat}(i:Nat),Chain κ xs L s e->Chain κ xs (L.modify i fun t=>(t.1,t.2.1,pw)) s e
 |[],s,e,i,h=>by cases i<;>exact h
 |t::r,s,e,0,⟨h1,h2,h3,h4⟩=>⟨h1,h2,h3,h4⟩
 |t::r,s,e,i+1,⟨h1,h2,h3,h4⟩=>⟨h1,h2,h3,h4.pow pw i⟩
theorem ku{L:List Rn}{i:Nat}(h:i+1<L.length):∃L1 x y L2,L=L1++x::y::L2/\L1.length=i:=by
 refine⟨L.take i,L[i],L[i+1],L.drop (i+2),?_,by rw[Af];lia⟩
 conv=>lhs;rw[<- AU i L]
 rw[BA (show i<L.length by lia),BA h]
end
structure RR(κ:KeyKind)(a₀:Array Keyed)(lo:Nat)(st:SortSt):Prop where
 sb:SB κ a₀ st
 ch:Chain κ (arrOf st) (pendingOf st).toList 0 lo
section
variable {prog:Program}{w:World}{A:Around}{E:Value->Shared->Prop}{s:Shared}{κ:KeyKind}{st:SortSt}{a₀:Array Keyed}
theorem fA{i lo:Nat}{Q:Bool->SortSt->Prop}(hO:κ.OneLt)(h0:KeysOf κ a₀)(R:RR κ a₀ lo st)(hi:i+1<(pendingOf st).size)(hl:lo<=a₀.size)
  (h:∀st',RR κ a₀ lo st'->(pendingOf st').size+1=(pendingOf st).size->(∀k,lo<=k->(arrOf st')[k]?=(arrOf st)[k]?)->Q true st'):wpS (model prog w) A E s (mergeAt' i) Q st:=by
 obtain⟨L1,x,y,L2,eL,l1⟩:=ku (L:=(pendingOf st).toList) (i:=i) (by rw[Ab];exact hi);obtain⟨sa,na,pw⟩:=x;obtain⟨sb,nb,pw2⟩:=y;have ch:=R.ch;rw[eL] at ch;obtain⟨m,c1,b1,b2,b3,b4,b5,b6,c2⟩:=Chain.app.mp ch;have b1:sa=m:=b1;have b4:sb=m+na:=b4;have b2:1<=na:=b2;have b5:1<=nb:=b5;subst b1;have z1:=c1.len;have z2:=c2.len;have z2:sa+na+nb+L2.length<=lo:=z2;have e1:(pendingOf st)[i]?=some (sa,na,pw):=by rw[<- Ao,eL,AZ (by lia),l1,Cd];rfl
 have e2:(pendingOf st)[i+1]?=some (sb,nb,pw2):=by rw[<- Ao,eL,AZ (by lia),show i+1-L1.length=1 by lia];rfl
 refine iL hO h0 R.sb e1 e2 b4 b2 b5 (by lia) b3 (by rw[b4];exact b6) fun st' B' p' s' o'=>?_;have eP:(pendingOf st').toList=L1++(sa,na+nb,pw)::L2:=by
  rw[p',Array.toList_eraseIdxIfInBounds,Array.toList_setIfInBounds,eL,List.set_append_right _ _ (by lia),List.eraseIdx_append_of_length_le (by lia),show i-L1.length=0 by lia,show i+1-L1.length=1 by lia];rfl
 refine h st' ⟨B',?_⟩ ?_ fun k hk=>o' k (.inr (by lia))
 ·rw[eP];refine Chain.app.mpr ⟨sa,c1.keep fun k _ hk=>o' k (.inl hk),rfl,?_,s',?_⟩
  ·show 1<=na+nb;lia
  ·have:=c2.keep (ys:=arrOf st') fun k hk _=>o' k (.inr (by have:sa+na+nb<=k:=hk;lia));show Chain κ (arrOf st') L2 (sa+(na+nb)) lo;rw[<- Nat.add_assoc];exact this
 ·have h1:=congrArg List.length eP;have h2:=congrArg List.length eL;rw[Ab,zZ,AF] at h1;rw[Ab,zZ,AF,AF] at h2
  lia
theorem less{N:Nat}(h:¬N<=1){c:Prop} [Decidable c]:(if c then N-2-1 else N-2)+1<N:=by split<;>lia
theorem iZ{Q:Unit->SortSt->Prop}(hO:κ.OneLt)(h0:KeysOf κ a₀)(hB:SB κ a₀ st)(hp:pendingOf st=#[])
  (h:∀st',SB κ a₀ st'->Seg κ (arrOf st') 0 a₀.size->Q () st'):wpS (model prog w) A E s sortRuns' Q st:=by
 refine Df (wpS_get ?_);have hsz:(arrOf st).size=a₀.size:=hB.size;refine Df (wpS_mono (wpS_forRange (I:=fun x c st'=>c.1=none/\RR κ a₀ c.2 st'/\c.2<=a₀.size/\(x<=c.2\/c.2=a₀.size)) (Q:=fun c st'=>c.1=none/\RR κ a₀ a₀.size st') (fun x c st1 hx1 hx2 z=>?_) (fun c st' z=>?_) ⟨rfl,⟨hB,?_⟩,Ah _,.inl (zX _)⟩) fun c st' z=>?_)
 rotate_left
 ·obtain⟨e,R,l1,l2⟩:=z;refine⟨e,?_⟩;have:c.2=a₀.size:=by
   rcases l2 with l2|l2
   ·have l2':max 0 (arrOf st).size<=c.2:=l2
    lia
   ·exact l2
  rw[this] at R;exact R
 ·rw[hp];rfl
 ·obtain⟨c0,lo⟩:=c;obtain⟨e,R⟩:=z;cases e;refine Df (wpS_mono (wpS_forRange (I:=fun x c st2=>c=(none,())/\RR κ a₀ a₀.size st2/\((pendingOf st2).size+x<=a₀.size+0\/(pendingOf st2).size<=1)) (Q:=fun c st2=>c=(none,())/\RR κ a₀ a₀.size st2/\(pendingOf st2).size<=1) (fun x c st2 hx1 hx2 z=>?_) (fun c st2 z=>?_) ⟨rfl,R,?_⟩) fun c st2 z=>?_)
  rotate_left
  ·obtain⟨e,R2,l⟩:=z;refine⟨e,R2,?_⟩;have l':(pendingOf st2).size+max 0 (arrOf st).size<=a₀.size+0\/(pendingOf st2).size<=1:=l
   lia
  ·have:=R.ch.len;rw[Ab] at this;exact .inl (by lia)
  ·obtain⟨rfl,R2,l⟩:=z;refine Dg (h st2 R2.sb ?_);have ch:=R2.ch;have ll:(pendingOf st2).toList.length<=1:=by rw[Ab];exact l
   cases eL:(pendingOf st2).toList with
   |nil=>
    rw[eL] at ch;have ch:0=a₀.size:=ch;intro i j p q a1 a2 a3
    lia
   |cons t r=>
    rw[eL,AF] at ll;have hr:r=[]:=Bp.mp (by lia);rw[eL,hr] at ch;obtain⟨_,_,sg,ee⟩:=ch;have ee:0+t.2.1=a₀.size:=ee;rw[ee] at sg;exact sg
  obtain⟨rfl,R2,l⟩:=z;refine Df (wpS_get ?_);refine aA (fun e=>Dg ⟨rfl,R2,e⟩) fun e=>?_;have e':¬(pendingOf st2).size<=1:=e;refine Df (fA hO h0 R2 (less e') (zX _) fun st3 R3 l3 _=>?_);exact Dg ⟨rfl,R3,by lia⟩
 obtain⟨c0,lo⟩:=c;obtain⟨e,R,l1,l2⟩:=z;cases e;dsimp only at R l1 l2;refine aA (fun e=>Dg ⟨rfl,?_⟩) fun e=>?_
 ·have e':lo≥(arrOf st).size:=e;rw[show lo=a₀.size by lia] at R;exact R
 have e':¬lo≥(arrOf st).size:=e;refine Df (jI (lo:=lo) (nrem:=(arrOf st).size-lo) hO h0 (by lia) (by lia) R.sb fun m st2 F2 m1 m2 U2=>?_);apply aA
 case' h1=>
  intro hm;refine Df (wpS_lift (DN ⟨rfl,?_⟩));have hm':m<minRun' (arrOf st).size (arrOf st).size 0:=hm;refine Df (iS (lo:=lo) (n:=min ((arrOf st).size-lo) (minRun' (arrOf st).size (arrOf st).size 0)) (ok:=m) hO h0 (by generalize minRun' (arrOf st).size (arrOf st).size 0=mr;lia) (by generalize minRun' (arrOf st).size (arrOf st).size 0=mr at hm' ⊢;lia) F2.sb U2 fun st3 F3 U3=>?_);have hmm:1<=min ((arrOf st).size-lo) (minRun' (arrOf st).size (arrOf st).size 0)/\lo+min ((arrOf st).size-lo) (minRun' (arrOf st).size (arrOf st).size 0)<=a₀.size:=by
   generalize minRun' (arrOf st).size (arrOf st).size 0=mr at hm' ⊢
   lia
  refine aA (fun z=>absurd z (by decide)) fun _=>?_;have R3:RR κ a₀ lo st3:=⟨F3.sb,by rw[F3.pend,F2.pend];exact R.ch.keep fun k _ hk=>(F3.out k (.inl hk)).trans (F2.out k (.inl hk))⟩
  obtain⟨n1,n2⟩:=hmm;have S3:=U3.seg;clear F3 U3;obtain⟨n,hn⟩:∃n,n=min ((arrOf st).size-lo) (minRun' (arrOf st).size (arrOf st).size 0):=⟨_,rfl⟩
  rw[<- hn] at n1 n2 S3
 case' h2=>
  intro hm;obtain⟨st3,e3⟩:∃st3,st3=st2:=⟨_,rfl⟩
  have R3:RR κ a₀ lo st3:=by rw[e3];exact⟨F2.sb,by rw[F2.pend];exact R.ch.keep fun k _ hk=>F2.out k (.inl hk)⟩
  have n1:1<=m:=m1;have n2:lo+m<=a₀.size:=by lia
  have S3:Seg κ (arrOf st3) lo (lo+m):=by rw[e3];exact U2.seg
  rw[<- e3];clear e3;obtain⟨n,hn⟩:∃n,n=m:=⟨_,rfl⟩
  rw[<- hn] at n1 n2 S3
 all_goals (
  have push:∀st4,RR κ a₀ lo st4->Seg κ (arrOf st4) lo (lo+n)->RR κ a₀ (lo+n) (setPending st4 ((pendingOf st4).push (lo,n,0))):=fun st4 R4 S4=>⟨⟨R4.sb.perm,R4.sb.kind,R4.sb.failed⟩,by
   show Chain κ (arrOf st4) ((pendingOf st4).push (lo,n,0)).toList 0 (lo+n);rw[Bq]
   exact Chain.app.mpr ⟨lo,R4.ch,rfl,n1,S4,rfl⟩⟩
  refine Df (wpS_get ?_);cases eb:(pendingOf st3).back? with
  |none=>
   subst hn;exact Df (wpS_modify (Dg ⟨rfl,push st3 R3 S3,n2,.inl (by lia)⟩))
  |some t=>
   obtain⟨s1,n0,pw0⟩:=t;refine Df (wpS_mono (wpS_forRange (I:=fun y c st4=>c=(none,())/\RR κ a₀ lo st4/\∀k,lo<=k->(arrOf st4)[k]?=(arrOf st3)[k]?) (Q:=fun c st4=>c=(none,())/\RR κ a₀ lo st4/\∀k,lo<=k->(arrOf st4)[k]?=(arrOf st3)[k]?) (fun y c st4 hy1 hy2 z=>?_) (fun c st4 z=>z) ⟨rfl,R3,fun _ _=>rfl⟩) fun c st4 z=>?_)
   ·obtain⟨rfl,R4,o4⟩:=z;refine Df (wpS_get ?_);dsimp only;by_cases hp1:(pendingOf st4).size>1
    ·have e5:(if (pendingOf st4).size>1 then (pendingOf st4)[(pendingOf st4).size-2]? else none)=some ((pendingOf st4)[(pendingOf st4).size-2]'(by lia)):=by rw[Di hp1];exact AM _
     generalize (pendingOf st4)[(pendingOf st4).size-2]'(by lia)=u at e5;obtain⟨u1,u2,u3⟩:=u;rw[show(if ((sortPriv% PySem.Builtin.SortState.pending) st4).size>1 then ((sortPriv% PySem.Builtin.SortState.pending) st4)[((sortPriv% PySem.Builtin.SortState.pending) st4).size-2]? else none)=some (u1,u2,u3) from e5];refine aA (fun _=>Dg ⟨rfl,R4,o4⟩) fun _=>?_;refine Df (fA hO h0 R4 (show(pendingOf st4).size-2+1<(pendingOf st4).size by lia) l1 fun st5 R5 l5 o5=>?_);exact Dg ⟨rfl,R5,fun k hk=>(o5 k hk).trans (o4 k hk)⟩
    ·rw[show(if ((sortPriv% PySem.Builtin.SortState.pending) st4).size>1 then ((sortPriv% PySem.Builtin.SortState.pending) st4)[((sortPriv% PySem.Builtin.SortState.pending) st4).size-2]? else none)=none from Dh hp1];exact Dg ⟨rfl,R4,o4⟩
   ·obtain⟨rfl,R4,o4⟩:=z;refine Df (wpS_modify (Df (wpS_modify ?_)));subst hn;refine Dg ⟨rfl,push _ ⟨⟨R4.sb.perm,R4.sb.kind,R4.sb.failed⟩,?_⟩ (fun i j p q a1 a2 a3 e1 e2=>S3 i j p q a1 a2 a3 (by rw[<- o4 i a1];exact e1) (by rw[<- o4 j (by lia)];exact e2)),n2,.inl (by lia)⟩;show Chain κ (arrOf st4) ((pendingOf st4).modify ((pendingOf st4).size-1) _).toList 0 lo;rw[Array.toList_modify]
    exact R4.ch.pow _ _)
end
section
variable {prog:Program}{w:World}{A:Around}{E:Value->Shared->Prop}{s:Shared}
theorem kc{κ:KeyKind}{a₀:Array Keyed}{st:SortSt}(B:SB κ a₀ st)(h:Seg κ (arrOf st) 0 a₀.size):SortedToK κ (arrOf st) a₀.size:=fun i j hij hj=>by
 have z:=B.size;have e1:(arrOf st)[i]?=some ((arrOf st)[i]'(by lia)):=AM _;have e2:(arrOf st)[j]?=some ((arrOf st)[j]'(by lia)):=AM _;have:=h i j _ _ (Ah _) hij hj e1 e2;unfold KK;rw[e1,e2];exact this
theorem FG{κ:KeyKind}(hO:κ.OneLt){a:Addr}{vs:List Value}{n:Nat}{P:PySem.Fin->Shared->Prop}(ho:s.heap.get? a=some (seqObj "list" vs.toArray n))(h0:KeysOf κ (pairsOf vs))(hkk:∀v₁ v₂ rest,vs=v₁::v₂::rest->keyKind' (v₁::v₂::rest).toArray=pure oneType')(hz:vs.length<=sizeLine)
  (h:∀st':SortSt,(arrOf st').Perm (pairsOf vs)->SortedToK κ (arrOf st') (pairsOf vs).size->P (.done (.ret .none)) {s with heap:=sortedHeap s.heap a vs ((arrOf st').map (·.2))}):wpAny (model prog w) A (Builtin.«list.sort» ⟨[.ref a],[]⟩) P E s:=by
 rw[list_sort_plain];have ha:a<s.heap.objs.size:=Dp ho;refine Dd (listItems_at ho rfl (Dd (listUpdate_at ho rfl ?_)));obtain⟨e1,ho1⟩:∃e1,(s.heap.update a (Obj.mapSeq fun _=>#[])).get? a=some (seqObj "list" #[] e1):=⟨_,get?_update_seq ho (fun _=>#[])⟩
 refine Dd (seqEpoch_at ho1 rfl (Dd (wpAny_newTuple (Dd (wpAny_newList (Dm ?_))) (by show vs.toArray.size<=sizeLine;rw[An];exact hz))));have ho6:(((s.heap.update a (Obj.mapSeq fun _=>#[])).push (seqObj "tuple" vs.toArray 0)).push (seqObj "list" #[] 0)).get? a=some (seqObj "list" #[] e1):=by rw[Heap.get?_push_ne _ _ _ (by rw[size_push',Heap.size_update];exact Ac (Bc ha)),Heap.get?_push_ne _ _ _ (by rw[Heap.size_update];exact Ac ha)];exact ho1
 show wpAny (model prog w) A _ P E {s with heap:=((s.heap.update a (Obj.mapSeq fun _=>#[])).push (seqObj "tuple" vs.toArray 0)).push (seqObj "list" #[] 0)};dsimp only;have hsz:vs.toArray.size=vs.length:=by simp
 by_cases h2:vs.toArray.size<2
 ·rw[Di h2,Di h2];refine Dd (De ?_);rw[StateT.run_pure];refine Dd (De ?_);dsimp only;refine Dd (seqEpoch_at ho6 rfl (Dd (listUpdate_at ho6 rfl ?_ (hsz2:=by rw[Array.size_map];show(pairsOf vs).size<=_;rw[pairsOf_size];exact CI hz))));simp only[bne_self_eq_false,BC,if_false];refine De (h (SortSt.mk' general' (vs.toArray.zip vs.toArray) #[] 7 none) (Array.Perm.refl _) fun i j hij hj=>?_);have:i=j:=by rw[pairsOf_size] at hj;lia
  subst this;exact Dx _
 ·rw[Dh h2,Dh h2];obtain⟨v₁,v₂,rest,rfl⟩:∃v₁ v₂ rest,vs=v₁::v₂::rest:=match vs,hsz,h2 with
   |[],_,h2=>absurd (show 0<2 by decide) h2
   |[_],_,h2=>absurd (show 1<2 by decide) h2
   |v₁::v₂::rest,_,_=>⟨v₁,v₂,rest,rfl⟩
  rw[hkk _ _ _ rfl];refine Dd (De ?_);refine Dd (Dl (iZ (κ:=κ) hO (a₀:=pairsOf (v₁::v₂::rest)) (st:=SortSt.mk' oneType' ((v₁::v₂::rest).toArray.zip (v₁::v₂::rest).toArray) #[] 7 none) (Q:=fun _ st'=>SB κ (pairsOf (v₁::v₂::rest)) st'/\Seg κ (arrOf st') 0 (pairsOf (v₁::v₂::rest)).size) h0 ⟨Array.Perm.refl _,rfl,rfl⟩ rfl fun st' a1 a2=>⟨a1,a2⟩) ?_ fun _ _ e=>e);rintro⟨⟨⟩,st'⟩ s' ⟨rfl,hp,hs⟩;dsimp only;refine Dd (seqEpoch_at ho6 rfl (Dd (listUpdate_at ho6 rfl ?_ (hsz2:=by refine Ap (Ce ((Array.size_map ..).trans (hp.perm.size_eq.trans (pairsOf_size _)))) (CI hz)))));rw[hp.failed];simp only[bne_self_eq_false,BC,if_false];exact De (h st' hp.perm (kc hp hs))
end
end SG
namespace L2
open PySem PySem.Spec PyProof.Rows
section
variable {prog:Program}{w:World}{A:Around}{E:Value->Shared->Prop}{s:Shared}{o:Obj}{D:Addr}{ys:List Str}
theorem iV{Q:Value->Shared->Prop}(hh:A.handled=none)(ho:s.heap.get? D=some o)(hS:EO prog w (bV w) o ys)(hb:(ddS ys).length<scanBound)(hb2:scanBound<=sizeLine)
  (hQ:∀s' l zs out e,(∀b u,s.heap.get? b=some u->s'.heap.get? b=some u)->s'.gens=s.gens->s'.os=s.os->zs.Perm (ddS ys)->sortedS zs=true->s.heap.objs.size<=l->s'.heap.get? l=some (seqObj "list" out e)->StrsAre out.toList zs->Q (.ref l) s') :
  wpAny (model prog w) A (call (.builtin "sorted") [.ref D]) Q E s:=by
 refine Calls.call_function_entry kind_sorted plain_sorted entry_sorted (args_sorted1 _) ?_;unfold Builtin.«sorted»;refine Dd (m:=checkCount "sorted" 1 1 _) (De (Dd (jh hh ho hS hb fun s1 vs hk hle hg hos hp ha=>?_)));have hst:=strsAre_map vs ha;have hl:vs.length=(ddS ys).length:=by rw[<- hp.length_eq,zY]
 have hz:vs.length<=sizeLine:=by lia
 have hoL:(s1.heap.push (seqObj "list" vs.toArray 0)).get? s1.heap.objs.size=some (seqObj "list" vs.toArray 0):=DG _ rfl;refine Dd (wpAny_newList ?_ hz);refine Dd (Dm (DK slot_list_sort ⟨_,hoL,rfl⟩ entry_list_sort (SG.FG strKind_oneLt hoL hst.keysOf (fun v₁ v₂ rest e=>keyKind_strs (by rw[<- e];exact hst)) hz fun st' a1 a2=>⟨_,rfl,?_⟩) (args_list_sort _)));obtain⟨ss',b1,b2,b3⟩:=sorted_out_str hst a1 a2;obtain⟨e,he⟩:=sortedHeap_at (out:=(arrOf st').map (·.2)) hoL;refine De ⟨_,rfl,hQ _ _ ss' _ e (fun b u q=>?_) hg hos (b2.trans hp) b3 hle he b1⟩;have q1:=hk b u q;have lt1:=Dp q1;exact(sortedHeap_old (Ac lt1) (by rw[DM];exact Bc lt1)).trans (DE _ q1)
end
section
variable {X:Cx}{x:Str}{p pos:Pos}{e:Expr}{t:GN}
def ni (t:GN):TE:=fun σ H Q=>t σ H fun ys H1=>∀l zs,zs.Perm (ddS ys)->sortedS zs=true->H1 l=none->Q (.ref l) (upd H1 l (.lst (zs.map V.str)))
theorem eT(hc:X.A.handled=none)(he:qD X e t)(hg:Gl X "sorted")(hm:X.mg "sorted"=none)(hv:bootBuiltins "sorted"=some (.builtin "sorted"))(hs:starEach [e] X.env=(false,eval e X.env)::starEach [] X.env:=by rfl):PE X (.Call (.Name "sorted" p) [e] [] pos) (ni t):=by
 intro pins s σ H Q I h;refine wpAny_Call_Name_kw (cB I hg hm hv ?_ (by decide) (by decide));refine PyProof.Rows.callWith_builtin1 ?_ hs rfl;rw[hs];refine Calls.spliced_cons (thn (he pins s σ H _ I h) fun v s1 z=>?_);obtain⟨D,o,ys,H1,rfl,I1,ho,hS,hb,q⟩:=z;refine Calls.spliced_nil ?_;have sb:scanBound<=sizeLine:=by decide
 refine iV hc ho hS hb sb fun s' l zs out ep hk hg' hos hp hso hle hl hst=>?_;have I2:Inv X pins σ (upd H1 l (.lst (zs.map V.str))) {s1 with heap:=s'.heap,toks:=s'.toks}:=I1.laid hk hle ⟨by rw[zY,hp.length_eq];lia,out.toList,ep,Ih hst,by rw[Array.toArray_toList];exact hl⟩;have e3:s'={s1 with heap:=s'.heap,toks:=s'.toks,drawn:=s'.drawn}:=by
  obtain⟨a1,a2,a3,a4,a5⟩:=s';cases hg';cases hos;rfl
 rw[e3];exact⟨.ref l,_,⟨I2.ok,I2.os,I2.bare,I2.base,I2.loc,I2.cell,I2.free,I2.Ew,I2.pin,I2.hok,I2.len⟩,rfl,q l zs hp hso (I1.hok.fresh hle)⟩
end
section
variable {prog:Program}{w:World}{A:Around}{E:Value->Shared->Prop}{s:Shared}{a:Addr}{o:Obj}{L:Bool}{ys:List Str}{z:Str}{tz:Tok}
theorem qr{Q:Bool->Shared->Prop}(ho:s.heap.get? a=some o)(h:EO prog w L o ys)(hb:(ddS ys).length+1<scanBound)
  (hQ:∀h' o',Heap.SameBut a s.heap h'->h'.get? a=some o'->EO prog w L o' (z::ys)->∀c,Q c {s with heap:=h',toks:=s.toks+1}) :
  wpAny (model prog w) A (setAdd a (.str z tz)) Q E s:=by
 obtain⟨hex,es,ep,t,hd,hel,hp,hf,hl,hpl⟩:=h;have hn:es.size=(ddS ys).length:=by rw[<- hp.length_eq,zY,Ab]
 have hkey:(strKind prog w).is z (.str z tz)=true:=Dj rfl;have hsc:(Value.str z tz).scannable=true:=rfl;unfold setAdd setAddHashed setAddHashedIn;refine Dm (Dd ((strKind prog w).pyHash hkey (Dm (Dd (DB (s:={s with toks:=s.toks+1}) ho hd hf ?_)))));dsimp only;rw[byScan_of hsc (by rw[hn];lia) hel];simp only[↓reduceIte];unfold setAddByScan;refine Dd (Dd (DN (Dd (wpAny_setScan_of hkey ho hd hf hel ?_))));have hfind:∀e∈es.toList,((strKind prog w).is z e.2=true↔strOf e.2=z):=fun e he=>by
  obtain⟨x,t,ex⟩:=kN hel he;rw[ex];show Value.isStrOf z (.str x t)=true↔x=z;rw[isz,decide_eq_true_iff];exact eq_comm
 have hmem:z∈ys↔∃e∈es.toList,strOf e.2=z:=by
  rw[<- Eu,<- hp.mem_iff,Ax]
 cases hr:List.findIdx? (fun e=>(strKind prog w).is z e.2) es.toList with
 |some j=>
  obtain⟨hj,hpj,_⟩:=CV.mp hr;have hz:z∈ys:=hmem.mpr ⟨_,AI hj,(hfind _ (AI hj)).mp hpj⟩;have e1:ddS (z::ys)=ddS ys:=by
   show(if z∈ddS ys then ddS ys else z::ddS ys)=_;rw[Di (Eu.mpr hz)]
  refine De (De ?_);exact hQ s.heap o (Heap.SameBut.refl a s.heap) ho ⟨hex,es,ep,t,hd,hel,by rw[e1];exact hp,hf,hl,hpl⟩ _
 |none=>
  have hz:z∉ys:=fun hz=>by
   obtain⟨e,he,ez⟩:=hmem.mp hz;have:=CW.mp hr e he;rw[(hfind e he).mpr ez] at this;cases this
  have e1:ddS (z::ys)=z::ddS ys:=by
   show(if z∈ddS ys then ddS ys else z::ddS ys)=_;rw[Dh (fun q=>hz (Eu.mp q))]
  have hperm:=layNew_perm t es ((strKind prog w).hash z) (.str z tz);have hfits:=layNew_fits t es ((strKind prog w).hash z) (.str z tz);have hled:=fg t es ((strKind prog w).hash z) (.str z tz);dsimp only;generalize layNew t es ((strKind prog w).hash z) (.str z tz)=Ln at hperm hfits hled ⊢;obtain⟨es1,t1,wasDummy,gave⟩:=Ln;dsimp only at hperm hfits hled ⊢;rw[Bq] at hperm;have hsz:es1.size=(ddS ys).length+1:=by rw[<- Ab,hperm.length_eq,zZ,Ab,hn];rfl
  have hp1:(es1.toList.map fun e=>strOf e.2).Perm (ddS (z::ys)):=by
   rw[e1];refine(hperm.map _).trans ?_;rw[Au];exact(BR).trans (hp.cons z)
  have gw:∀(b:Bool)(s₁:Shared)(Q':Unit->Shared->Prop),Q' () s₁->wpAny (model prog w) A (match b with|true=>rule "set.scan.the-table-gave-way" |false=>pure ()) Q' E s₁:=fun b s₁ Q' hq=>by
   cases b
   ·exact De hq
   ·exact DN hq
  refine Dd (gw _ _ _ ?_);have fin:∀h' o',Heap.SameBut a s.heap h'->h'.get? a=some o'->EO prog w L o' (z::ys)->wpAny (model prog w) A (pure true) Q E {s with heap:=h',toks:=s.toks+1}:=fun h' o' h1 h2 h3=>De (hQ h' o' h1 h2 h3 true);split
  ·refine Dd ?_;rw[hashByValue_scannable 8 hsc];refine De (oX (s:={s with toks:=s.toks+1}) gw ho hex hd ((hel.push hkey hsc).perm hperm) hp1 (by lia) (SetTable.fits_plain_off hfits) (hled.trans hl) rfl fin)
  ·rename_i npl;refine Dd (De ?_);exact oX (s:={s with toks:=s.toks+1}) gw ho hex hd ((hel.push hkey hsc).perm hperm) hp1 (by lia) hfits (hled.trans hl) (by cases hq:t1.plain with|false=>rfl|true=>exact absurd hq npl) fin
end
def cS (val:Nat->Str):Nat->List Str
 |0=>[]
 |i+1=>val i::cS val i
theorem gO(val:Nat->Str):∀i,(cS val i).length=i
 |0=>rfl
 |i+1=>by show(cS val i).length+1=_;rw[gO val i]
section
variable {prog:Program}{w:World}{A:Around}{R:Result->Shared->Prop}{I:Addr}{fp wr:List Addr}{G:Array GenState->Array GenState->Prop}{n:Nat}{P:Nat->Value->Prop}{St:Nat->Shared->Prop}{L:Bool}
theorem kC(W:WalksS prog w A.in1 I fp wr G n P St)(S:Addr)(hSf:S∉fp)(val:Nat->Str)(hval:∀i v,P i v->∃t,v=.str (val i) t)(hb:n+1<scanBound):∀(k i:Nat)(s:Shared)(o:Obj),n-i=k->i<=n->St i s->s.heap.get? S=some o->EO prog w L o (cS val i) ->
  (∀s' o',Moved (S::wr) G s s'->s'.heap.get? S=some o'->EO prog w L o' (cS val n)->R (.ok (.ret .none)) s')->codeAny (model prog w) A (.builtin "set.update.loop" ⟨[.ref S,.ref I],[]⟩) R s:=by
 have hSw:S∉wr:=fun h=>hSf (W.sub _ h);have hsub:∀b∈wr,b∈S::wr:=fun b hb=>AE _ hb;intro k;induction k with
 |zero=>
  intro i s o hk hi hst ho hS hR;have hin:i=n:=by lia
  subst hin;refine codeAny_builtin PyProof.Rows.F.entry_set_update_loop ?_;rw[Around.under_plainId PyProof.Rows.F.plain_set_update_loop _];show wpAny _ A.in1 (pyNext (.ref I) >>= _) _ _ s;refine Dd (W.done s _ _ hst fun s' hm=>?_);show wpAny _ A.in1 (ret Value.none) _ _ s';exact De (hR s' o (hm.mono hsub) (hm.heap S _ hSw ho) hS)
 |succ k ih=>
  intro i s o hk hi hst ho hS hR;have hlt:i<n:=by lia
  refine codeAny_builtin PyProof.Rows.F.entry_set_update_loop ?_;rw[Around.under_plainId PyProof.Rows.F.plain_set_update_loop _];show wpAny _ A.in1 (pyNext (.ref I) >>= _) _ _ s;refine Dd (W.item i s _ _ hlt hst fun v s' hP hst' hm=>?_);obtain⟨t,rfl⟩:=hval i v hP;have ho':=hm.heap S _ hSw ho;show wpAny _ A.in1 (PySem.holding [Value.str (val i) t] (setAdd S (.str (val i) t)) >>= _) _ _ s';have hd:=Fh (cS val i);rw[gO] at hd;refine Dd (Dm (qr ho' hS (by lia) fun h' o2 hsb ho2 hS2 c=>?_));refine De ⟨plainId_quiet PyProof.Rows.F.plain_set_update_loop _,ih (i+1) _ o2 (by lia) hlt (W.frame _ s' _ _ hst' (Bb _) fun b hb o e=>?_) ho2 hS2 fun s'' o3 hm'' ho3 hS3=>?_⟩
  ·rw[hsb.2 b (fun h:b=S=>hSf (by rw[<- h];exact hb))];exact e
  ·refine hR s'' o3 (Moved.trans W.gtrans ((hm.mono hsub).then_heap (Bb _) fun b o hb e=>?_) hm'') ho3 hS3;rw[hsb.2 b (fun h:b=S=>hb (by rw[h];exact Aq))];exact e
end
section
variable {prog:Program}{w:World}{A:Around}{E:Value->Shared->Prop}{s:Shared}
theorem oR(a:Value){Q₁:Value->Shared->Prop}(h:Q₁ (.ref s.heap.objs.size) {s with heap:=s.heap.push {cls:=.type "set",dict:=none,data:=.set #[] 0 (.fresh 0 0 (bV w))}}):codeAny (model prog w) A (.call (.builtin "set.__new__") ⟨[.type "set",a],[]⟩) (wants Q₁ E) s:=by
 refine codeAny_of_tree ?_;show wpAny _ A.in1 (do checkBuiltinCall "set.__new__" ⟨[.type "set",a],[]⟩;again (.builtin "set.__new__" ⟨[.type "set",a],[]⟩)) _ _ s;refine Dd (wpAny_of_eq (PySem.F.newCall_set_1 a) (De ⟨plainId_quiet PySem.F.plain_set_new _,codeAny_builtin PySem.F.entry_set_new ?_⟩));rw[Around.under_plainId PySem.F.plain_set_new _];unfold Builtin.«set.__new__» Builtin.Frozenset.newClass;have hsub:=sub_set_self;obtain⟨hp,g,d,tk,os⟩:=s;dsimp only;wp_walk;refine wpAny_askSetting (De ?_);dsimp only;simp only[newObj];exact Dd (wpAny_alloc (De (De h)))
end
theorem strAt:∀{vs:List Value}{zs:List Str},StrsAre vs zs->∀(i:Nat)(v:Value),vs[i]?=some v->∃t,v=.str (zs.getD i "") t
 |_,_,.nil,i,v,h=>by simp at h
 |_,_,.cons z t r,0,v,h=>by simp at h;exact⟨t,by rw[<- h];rfl⟩
 |_,_,.cons z t r,i+1,v,h=>by
  rw[List.getElem?_cons_succ] at h;obtain⟨t',e⟩:=strAt r i v h;exact⟨t',by rw[e];rfl⟩
theorem gp{f g:Nat->Str}:∀i,(∀j,j<i->f j=g j)->cS f i=cS g i
 |0,_=>rfl
 |i+1,h=>by show f i::cS f i=g i::cS g i;rw[h i (AY i),gp i fun j hj=>h j (Bc hj)]
theorem kZ(zs:List Str)(x:Str):cS (fun i=>(zs++[x]).getD i "") zs.length=cS (fun i=>zs.getD i "") zs.length:=gp _ fun j hj=>by
 show(zs++[x]).getD j ""=zs.getD j "";rw[Aw,Aw,Bw hj]
theorem mT(zs:List Str):cS (fun i=>zs.getD i "") zs.length=zs.reverse:=by
 suffices h:∀rs:List Str,cS (fun i=>rs.reverse.getD i "") rs.reverse.length=rs by
  have:=h zs.reverse
  rwa [List.reverse_reverse] at this
 intro rs;induction rs with
 |nil=>rfl
 |cons x r ih=>
  have e:(x::r).reverse.length=r.reverse.length+1:=by simp
  rw[e,BM];show(r.reverse++[x]).getD r.reverse.length ""::cS _ _=_;rw[kZ,ih]
  congr 1
  rw[Aw,AZ (zX _)];simp
section
variable {prog:Program}{w:World}{A:Around}{E:Value->Shared->Prop}{s:Shared}
theorem kY{l:Addr}{items:Array Value}{zs:List Str}{Q:Value->Shared->Prop}(hh:A.handled=none)(hl:s.heap.IsList l items)(hi:StrsAre items.toList zs)(hb:items.size+1<scanBound)
  (h:∀(h':Heap)(tk:Nat) o,h'.get? s.heap.objs.size=some o->EO prog w (bV w) o zs.reverse->(∀b u,s.heap.get? b=some u->h'.get? b=some u)->Q (.ref s.heap.objs.size) {s with heap:=h',toks:=tk}):wpAny (model prog w) A (call (.type "set") [.ref l]) Q E s:=by
 have ez:items.size=zs.length:=by rw[<- Ab];exact hi.length
 generalize eb:({cls:=.type "set",dict:=none,data:=.set #[] 0 (.fresh 0 0 (bV w))}:Obj)=o0;have hs0:EO prog w (bV w) o0 []:=by rw[<- eb];exact EO.fresh _ _ _
 have hc0:o0.cls=.type "set":=by rw[<- eb]
 have hf0:o0.isFreed=false:=by rw[<- eb];rfl
 obtain⟨c,tl,hmro⟩:=PySem.F.called_set.mro;have hmade:=PySem.F.called_set.made;have hsub:=PySem.F.called_set.sub;refine wpAny_call (codeAny_of_tree ?_);show wpAny _ _ (callAny (.type "set") _) _ _ _;refine De ⟨Code.quiet_builtin _ (by decide +kernel),codeAny_builtin PySem.F.entry_type_call ?_⟩;rw[Around.under_plain (weight_type_call_type "set" [.ref l] []) rfl];have h1:=PySem.F.called_set.notType;have h2:=PySem.F.called_set.canCreate;have hct:=PySem.F.typeCall_set_1 (.ref l)
 repeat' (first|assumption|wp_step)
 refine codeAny_mono (oR (.ref l) (E:=E) (Q₁:=fun obj s₁=>obj=.ref s.heap.objs.size/\s₁={s with heap:=s.heap.push o0}) (by rw[eb];exact⟨rfl,rfl⟩)) fun r s₁ hr=>?_;cases r with
 |error e=>exact hr
 |ok fl=>
  cases fl with
  |ret obj=>
   obtain⟨rfl,rfl⟩:=hr;have hS:(s.heap.push o0).get? s.heap.objs.size=some o0:=DG _ hf0;have hT:Shared.TypeIs {s with heap:=s.heap.push o0} (.ref s.heap.objs.size) "set":=⟨_,hS,hc0⟩
   have hli:=PySem.F.called_set.init.lookup;have hbi:=PySem.F.called_set.init.bind (.ref s.heap.objs.size)
   repeat' (first|assumption|wp_step)
   refine codeAny_mono (codeAny_call_builtin (R:=wants (fun r s₂=>r=.none/\∃h' tk o,s₂={s with heap:=h',toks:=tk}/\h'.get? s.heap.objs.size=some o/\EO prog w (bV w) o zs.reverse/\(∀b u,s.heap.get? b=some u->h'.get? b=some u)) E) PySem.F.called_set.init.plain PySem.F.entry_set_init (check_set_init_1 hT ?_)) fun r₂ s₂ hr₂=>?_
   ·obtain⟨ol,hol,hcl,nl,hdl⟩:=hl;obtain⟨ocls,odict,odata,oslots⟩:=ol;simp only at hcl hdl;subst hcl;subst hdl;have hol':(s.heap.push o0).get? l=some {cls:=.type "list",dict:=odict,data:=.seq items nl,slots:=oslots}:=DE _ hol;have hsls:=PySem.F.sub_list_set;have hslf:=PySem.F.sub_list_frozenset;have hne:(Value.type "list" == Value.type "dict")=false:=by decide
    have hl1:(s.heap.push o0).IsList l items:=⟨_,hol',rfl,nl,rfl⟩
    subst eb;unfold Builtin.«set.__init__» noKeywords Builtin.Frozenset.updateFrom;generalize hPI:pyIter=PI
    wp_walk
    subst hPI;refine wpAny_pyIter_list hl1 ?_;refine Dd (wpAny_runValue ?_);have hlS:l<s.heap.objs.size:=Dp hol;have hh3:A.in1.in1.in1.handled=none:=by simp[hh]
    have hneI:l≠(s.heap.push {cls:=.type "set",dict:=none,data:=.set #[] 0 (.fresh 0 0 (bV w))}).objs.size:=by rw[DM];exact Ac (Bc hlS)
    have hSf:s.heap.objs.size∉[(s.heap.push {cls:=.type "set",dict:=none,data:=.set #[] 0 (.fresh 0 0 (bV w))}).objs.size,l]:=by
     rw[DM];intro z;rcases Ag.mp z with z|z
     ·exact absurd z (Ac (AY _))
     ·exact absurd (AA.mp z) (BK hlS)
    refine kC ((Walks.list hh3 _ l hneI items).toS) s.heap.objs.size hSf (fun i=>zs.getD i "") (fun i v hv=>strAt hi i v (by rw[Ao];exact hv)) hb (items.size-0) 0 _ _ (by omega) (Ah _) ⟨⟨_,DG _ rfl,rfl,rfl⟩,(hl1.push _)⟩ (DE _ hS) hs0 fun s' o' hm hg hS'=>?_;obtain⟨h',g',d',tk',os'⟩:=s';have eg:g'=s.gens:=hm.gens;have ed:d'=s.drawn:=hm.drawn;have eo:os'=s.os:=hm.os;subst eg;subst ed;subst eo;rw[ez,mT] at hS';show wpAny _ _ _ _ _ _;refine De ?_;show wpAny _ _ (ret Value.none) _ _ _;refine De ⟨rfl,h',tk',o',rfl,hg,hS',fun b u e=>?_⟩;have hb0:=Dp e;refine hm.heap b u (fun z=>?_) (DE _ (DE _ e));rcases Ag.mp z with z|z
    ·exact absurd z (Ac hb0)
    ·rw[AA.mp z,DM] at hb0;exact absurd (Nat.lt_trans (AY _) hb0) (AD _)
   ·cases r₂ with
    |error e=>exact hr₂
    |ok fl₂=>
     cases fl₂ with
     |ret r=>
      obtain⟨rfl,h',tk,o,rfl,hg,hS',hk'⟩:=hr₂
      repeat' (first|assumption|wp_step)
      exact h _ _ _ hg hS' hk'
     |_=>exact hr₂.elim
  |_=>exact hr.elim
end
theorem Ja:bootBuiltins "set"=some (.type "set"):=by decide +kernel
section
variable {X:Cx}{p pos:Pos}{e:Expr}{te:TE}
def sD (K:W.Frag)(te:TE):GN:=fun σ H Q=>te σ H fun v H1=>∃l,∃zs:List Str,v=.ref l/\SqL K H1 l (zs.map V.str)/\zs.length<4000/\Q zs.reverse H1
theorem qK(hc:X.A.handled=none)(he:PE X e te)(hg:Gl X "set")(hm:X.mg "set"=none)(hs:starEach [e] X.env=(false,eval e X.env)::starEach [] X.env:=by rfl):qD X (.Call (.Name "set" p) [e] [] pos) (sD X.K te):=by
 intro pins s σ H Q I h;refine wpAny_Call_Name_kw (cB I hg hm Ja ?_ (by decide) (by decide));refine PyProof.Rows.callWith_type1 ?_ hs rfl;rw[hs];refine Calls.spliced_cons (thn (he pins s σ H _ I h) fun v s1 z=>Calls.spliced_nil ?_);obtain⟨y,H1,I1,r,l,zs,rfl,hq,hz,q⟩:=z;cases r;obtain⟨its,rv,pl,_⟩:=I1.list hq;have hl:=rv.length;rw[zY] at hl;refine kY hc pl.isList (zs:=zs) (by simpa using strsOf rv) (by rw[An];unfold scanBound;omega) fun h' tk o hg' hS hk=>?_;refine⟨_,o,zs.reverse,H1,rfl,I1.kept hk,hg',hS,?_,q⟩;refine BW (Fh _) ?_;rw[AJ];unfold scanBound;omega
end
section
variable {prog:Program}{w:World}{A:Around}{E:Value->Shared->Prop}{s:Shared}{a:Addr}{o:Obj}{kvs:List (Key×V)}{k:Key}{v:V}{u r:Value}
end
section
variable {X:Cx}{pins:List (Addr×Obj)}{σ:St}{H:Hp}{s:Shared}{scope:Scope}{ts cap:List Str}{js:List Nat}{fp:List Addr}{C D:Addr}
end
section
variable {X:Cx}{scope:Scope}{ts cap:List Str}{js:List Nat}{tg kx vx iter:Expr}{ifs:List Expr}{pos:Pos}{wi:TI}{g:TG}{tc:TT}{tk tv:TE}
end
section
variable {X:Cx}{tg:Expr}
end
section
variable {prog:Program}{w:World}{A:Around}{R:Result->Shared->Prop}{s:Shared}{elt tg0 iter0 tg1 iter1:Expr}{ifs0 ifs1:List Expr}{scope:Scope}{pos:Pos}{it acc:Value}{env:Env}
abbrev bG(elt tg0 iter0 tg1 iter1:Expr)(ifs0 ifs1:List Expr)(scope:Scope)(pos:Pos):Expr:=.SetComp elt [⟨tg0,iter0,ifs0,0⟩,⟨tg1,iter1,ifs1,0⟩] scope pos
theorem Gb:compTurn (bG elt tg0 iter0 tg1 iter1 ifs0 ifs1 scope pos) 1 it acc env=(do
   standAt iter1.pos
   match <- pyNext it with
   |none=>pure (.done .next)
   |some v=>
    letOwnedTupleGo tg1 it v
    assign tg1 env v
    let mut ok:=true
    for c in ifs1 do
     if ok then ok <- isTrue c env (eval c env)
    if ok then
     (do
      let v <- eval elt env
      standAt elt.pos
      let _ <- call (.builtin "set.add") [acc,v])
    again (.compLoop (bG elt tg0 iter0 tg1 iter1 ifs0 ifs1 scope pos) 1 it acc env)):=by rfl
theorem FI:compTurn (bG elt tg0 iter0 tg1 iter1 ifs0 ifs1 scope pos) 0 it acc env=(do
   standAt iter0.pos
   match <- pyNext it with
   |none=>pure (.done .next)
   |some v=>
    letOwnedTupleGo tg0 it v
    assign tg0 env v
    let mut ok:=true
    for c in ifs0 do
     if ok then ok <- isTrue c env (eval c env)
    if ok then
     let x <- eval iter1 env
     standAt iter1.pos
     let x <- foldedSetIterable iter1 env x
     let _ <- runOwn (.compStart (bG elt tg0 iter0 tg1 iter1 ifs0 ifs1 scope pos) 1 (<- holding [x] (pyIter x)) acc env) env
    again (.compLoop (bG elt tg0 iter0 tg1 iter1 ifs0 ifs1 scope pos) 0 it acc env)):=by rfl
theorem pz(I:Nat->Shared->Prop)
  (turn:∀n s,I n s->wpAny (model prog w) A (pyNext it) (fun r s₁=>match r with
   |none=>R (.ok .next) s₁
   | some v=>wpAny (model prog w) A (letOwnedTupleGo tg1 it v) (fun _ s₁'=>wpAny (model prog w) A (assign tg1 env v) (fun _ s₂ =>
     wpAny (model prog w) A (forIn ifs1 true fun c r=>if r=true then do let ok <- isTrue c env (eval c env); pure (ForInStep.yield ok) else pure (ForInStep.yield r)) (fun ok s₃ =>
      if ok=true then wpAny (model prog w) A (eval elt env) (fun x s₄ =>
       wpAny (model prog w) A (call (.builtin "set.add") [acc,x]) (fun _ s₅=>∃m,m < n/\I m s₅) (fun _ _=>False) s₄) (fun _ _=>False) s₃
      else ∃m,m < n/\I m s₃) (fun _ _=>False) s₂) (fun _ _=>False) s₁') (fun _ _=>False) s₁) (fun _ _=>False) s)
  (n:Nat) (h:I n s):codeAny (model prog w) A (.compLoop (bG elt tg0 iter0 tg1 iter1 ifs0 ifs1 scope pos) 1 it acc env) R s:=by
 refine codeAny_loop rfl I (fun n s hI=>?_) n h;show wpAny _ A ((compTurn (bG elt tg0 iter0 tg1 iter1 ifs0 ifs1 scope pos) 1 it acc env).onRaise (fun x=>do noteFrame x env;theTreesLotGoes x)) _ _ s;refine wpAny_noted ?_;rw[Gb];refine Dd (wpAny_standAt (Dd (Dl (turn n s hI) (fun r s₁ h₁=>?_) fun _ _ h'=>h'.elim)));cases r with
 |none=>exact De h₁
 |some v=>
  refine Dd (Dl h₁ (fun _ s₁' h₁'=>?_) fun _ _ h'=>h'.elim);refine Dd (Dl h₁' (fun _ s₂ h₂=>Dd (Dl h₂ (fun ok s₃ h₃=>?_) fun _ _ h'=>h'.elim)) fun _ _ h'=>h'.elim);cases ok with
  |false=>exact De ⟨rfl,h₃⟩
  |true=>
   exact Dd (Dd (Dl h₃ (fun x s₄ h₄=>Dd (wpAny_standAt (Dd (Dl h₄ (fun _ s₅ h₅=>De (De ⟨rfl,h₅⟩)) fun _ _ h'=>h'.elim)))) fun _ _ h'=>h'.elim))
theorem mI(hs:∀x,foldedSetIterable iter1 env x=pure x)(I:Nat->Shared->Prop)
  (turn:∀n s,I n s->wpAny (model prog w) A (pyNext it) (fun r s₁=>match r with
   |none=>R (.ok .next) s₁
   | some v=>wpAny (model prog w) A (letOwnedTupleGo tg0 it v) (fun _ s₁'=>wpAny (model prog w) A (assign tg0 env v) (fun _ s₂ =>
     wpAny (model prog w) A (forIn ifs0 true fun c r=>if r=true then do let ok <- isTrue c env (eval c env); pure (ForInStep.yield ok) else pure (ForInStep.yield r)) (fun ok s₃ =>
      if ok=true then wpAny (model prog w) A (eval iter1 env) (fun x s₄ =>
       wpAny (model prog w) A (pyIter x) (fun itv s₅=>codeAny (model prog w) A (.compStart (bG elt tg0 iter0 tg1 iter1 ifs0 ifs1 scope pos) 1 itv acc env) (fun r s₆=>r=.ok .next/\∃m,m < n/\I m s₆) s₅) (fun _ _=>False) s₄) (fun _ _=>False) s₃
      else ∃m,m < n/\I m s₃) (fun _ _=>False) s₂) (fun _ _=>False) s₁') (fun _ _=>False) s₁) (fun _ _=>False) s)
  (n:Nat) (h:I n s):codeAny (model prog w) A (.compLoop (bG elt tg0 iter0 tg1 iter1 ifs0 ifs1 scope pos) 0 it acc env) R s:=by
 refine codeAny_loop rfl I (fun n s hI=>?_) n h;show wpAny _ A ((compTurn (bG elt tg0 iter0 tg1 iter1 ifs0 ifs1 scope pos) 0 it acc env).onRaise (fun x=>do noteFrame x env;theTreesLotGoes x)) _ _ s;refine wpAny_noted ?_;rw[FI];refine Dd (wpAny_standAt (Dd (Dl (turn n s hI) (fun r s₁ h₁=>?_) fun _ _ h'=>h'.elim)));cases r with
 |none=>exact De h₁
 |some v=>
  refine Dd (Dl h₁ (fun _ s₁' h₁'=>?_) fun _ _ h'=>h'.elim);refine Dd (Dl h₁' (fun _ s₂ h₂=>Dd (Dl h₂ (fun ok s₃ h₃=>?_) fun _ _ h'=>h'.elim)) fun _ _ h'=>h'.elim);cases ok with
  |false=>exact De ⟨rfl,h₃⟩
  |true=>
   refine Dd (Dl h₃ (fun x s₄ h₄=>Dd (wpAny_standAt ?_)) fun _ _ h'=>h'.elim);rw[hs];refine Dd (De (Dd (Dm (Dl h₄ (fun itv s₅ h₅=>?_) fun _ _ h'=>h'.elim))));refine Dd (wpAny_runOwn (codeAny_mono h₅ fun r s₆ h₆=>?_));obtain⟨rfl,h7⟩:=h₆;exact De ⟨rfl,h7⟩
theorem lD(h0:codeAny (model prog w) A (.compLoop (bG elt tg0 iter0 tg1 iter1 ifs0 ifs1 scope pos) 1 it acc env) R s)
  (h:wpAny (model prog w) A (pyIter it) (fun it' s'=>codeAny (model prog w) A (.compLoop (bG elt tg0 iter0 tg1 iter1 ifs0 ifs1 scope pos) 1 it' acc env) R s')
   (notedBy (model prog w) A env fun x s'=>R (.error x) s') s) :
  codeAny (model prog w) A (.compStart (bG elt tg0 iter0 tg1 iter1 ifs0 ifs1 scope pos) 1 it acc env) R s:=by
 refine codeAny_of_tree ?_;show wpAny _ _ ((compStart (bG elt tg0 iter0 tg1 iter1 ifs0 ifs1 scope pos) 1 it acc env).onRaise (fun x=>do noteFrame x env;standAt theWindowsPlace)) _ _ s;refine wpAny_notedAt ?_;unfold compStart;show wpAny _ _ (ask >>= _) _ _ s;refine Dd (wpAny_askSetting (wpAny_ite ?_));split
 ·first
   |exact Dd (De (De (And.intro rfl h0)))
   |exact De (And.intro rfl h0)
 ·first
   |exact Dd (DN (Dd (wpAny_standAt (Dd (Dl h (fun it' s' h'=>De (And.intro rfl h')) fun _ _ x=>x)))))
   |(refine Dd (DN ?_);show wpAny _ _ (standAt iter1.pos >>= _) _ _ s;exact Dd (wpAny_standAt (Dd (Dl h (fun it' s' h'=>De (And.intro rfl h')) fun _ _ x=>x))))
end
def ig (J:It)(g:TG)(tc:TT)(te:TE)(σ:St)(H:Hp)(ys:List Str)(Q:List Str->Hp->Prop):Prop:=
 ∃W:Nat->Nat->St->List Str->Hp->Prop,(∃m,W 0 m σ ys H)/\∀j m σ ys H,W j m σ ys H ->
  (J.stop j H/\Q ys H) \/
  (J.go j H/\ys.length<4000/\∀x H',J.yld j H x H'->g x σ H' fun σ2 H2=>tc σ2 H2 fun b H3=>if b=true then te σ2 H3 fun y H4=>∃z,y=.str z/\∃m',m'<m/\W (j+1) m' σ2 (z::ys) H4 else ∃m',m'<m/\W (j+1) m' σ2 ys H3)
def mh (J:It)(k:Nat)(js:List Nat)(g:TG)(tc:TT)(wi1:TI)(g1:TG)(tc1:TT)(te:TE)(σ:St)(H1:Hp)(Q:List Str->Hp->Prop):Prop:=
 ∃W:Nat->Nat->List Str->Hp->Prop,(∃m,W 0 m [] H1)/\∀i m ys H,W i m ys H ->
  (J.stop i H/\ys.length<=4000/\Q ys H) \/
  (J.go i H/\∀x H',J.yld i H x H'->g x (List.replicate k none++dq js σ) H' fun σ2 H2=>tc σ2 H2 fun b H3 =>
   if b=true then wi1 σ2 H3 fun J1 H4=>ig J1 g1 tc1 te σ2 H4 ys fun ys' H5=>∃m',m' < m/\W (i+1) m' ys' H5 else ∃m',m' < m/\W (i+1) m' ys H3)
def qP (wi:TI)(k:Nat)(js:List Nat)(g:TG)(tc:TT)(wi1:TI)(g1:TG)(tc1:TT)(te:TE):GN:=fun σ H Q=>wi σ H fun J H1=>mh J k js g tc wi1 g1 tc1 te σ H1 Q
section
variable {X:Cx}{scope:Scope}{ts cap:List Str}{js:List Nat}{elt tg0 iter0 tg1 iter1:Expr}{ifs0 ifs1:List Expr}{pos:Pos}
theorem je{s0:Shared}{H0:Hp}{C:Addr}{fp:List Addr}{P:List (Addr×Obj)}{D:Addr}{o0:Obj}{ys0:List Str}{σ:St}{H:Hp}{s:Shared}{J:It}{fp1:List Addr}{it1:Addr}{tn1:Nat->Heap->Prop}{g1:TG}{tc1:TT}{te:TE}{Q:List Str->Hp->Prop}{R:Result->Shared->Prop}
  (hc:X.calm=true)(I:Inv (aw X scope C fp (ts++cap) s0 H0) ([(D,o0)]++P) σ H s)(v0:EO X.prog X.w (bV X.w) o0 ys0)(T:Turn X.prog X.w X.K tg1 J fp1 it1 tn1)(st:tn1 0 s.heap)(hf:∀b∈fp1,Er (aw X scope C fp (ts++cap) s0 H0) ([(D,o0)]++P) H b)
  (hD0:D∈(aw X scope C fp (ts++cap) s0 H0).ex\/s0.heap.get? D=none)(hDc:∀x c,(aw X scope C fp (ts++cap) s0 H0).env.cells.lookup x=some c->c≠D)(hDp:∀p∈X.pn++P,p.1≠D)
  (hg:PG (aw X scope C fp (ts++cap) s0 H0) tg1 g1)(ht:PTs (aw X scope C fp (ts++cap) s0 H0) ifs1 tc1)(he:PE (aw X scope C fp (ts++cap) s0 H0) elt te)
  (cv:ig J g1 tc1 te σ H ys0 Q)
  (hR:∀σ' ys o H' s',Inv (aw X scope C fp (ts++cap) s0 H0) ([(D,o)]++P) σ' H' s'->EO X.prog X.w (bV X.w) o ys->Q ys H'->R (.ok .next) s') :
  codeAny (model X.prog X.w) X.A (.compStart (bG elt tg0 iter0 tg1 iter1 ifs0 ifs1 scope pos) 1 (.ref it1) (.ref D) (compEnvC scope (eW X.env.cells scope.names []) C X.env)) R s:=by
 obtain⟨W,⟨m0,w0⟩,turn⟩:=cv;have stat:∀{H':Hp}{o:Obj},(∀b∈fp1,H' b=none)->∀b∈fp1,Er (aw X scope C fp (ts++cap) s0 H0) ([(D,o)]++P) H' b:=fun {H' o} hn b hb=>by
  obtain⟨f0,f1,f2,f3,f4,f5⟩:=hf b hb;refine⟨hn b hb,f1,f2,f3,f4,fun p hp=>?_⟩;rcases Ai.mp hp with z|z
  ·exact f5 p (Ay _ z)
  ·rcases Ai.mp z with z|z
   ·have e:p=(D,o):=by simpa using z
    subst e;exact f5 (D,o0) (Ae _ (Ay _ Aq))
   ·exact f5 p (Ae _ (Ae _ z))
 have nfp:∀b∈fp1,b≠D:=fun b hb=>by
  obtain⟨f0,f1,f2,f3,f4,f5⟩:=hf b hb;exact DC (f5 (D,o0) (Ae _ (Ay _ Aq)))
 have loop:∀s3:Shared,s3=s->codeAny (model X.prog X.w) X.A (.compLoop (bG elt tg0 iter0 tg1 iter1 ifs0 ifs1 scope pos) 1 (.ref it1) (.ref D) (compEnvC scope (eW X.env.cells scope.names []) C X.env)) R s3:=by
  rintro s3 rfl;refine pz (fun k s'=>∃j σ' H' ys o,Inv (aw X scope C fp (ts++cap) s0 H0) ([(D,o)]++P) σ' H' s'/\EO X.prog X.w (bV X.w) o ys/\tn1 j s'.heap/\(∀b∈fp1,H' b=none)/\W j k σ' ys H') ?_ m0
   ⟨0,σ,H,ys0,o0,I,v0,st,fun b hb=>(hf b hb).1,w0⟩
  rintro k s3 ⟨j,σ3,H3,ys,o,I3,v3,st3,fr3,w3⟩;rcases turn j k σ3 ys H3 w3 with ⟨stop,fin⟩|⟨go,hz,step⟩
  ·refine thn (T.done (aw X scope C fp (ts++cap) s0 H0) rfl rfl rfl hc j _ s3 _ H3 _ I3 (stat fr3) st3 stop) fun r s4 hq87=>?_;obtain⟨hr,I4⟩:=hq87;subst hr;exact hR _ _ _ _ _ I4 v3 fin
  ·refine thn (T.item (aw X scope C fp (ts++cap) s0 H0) rfl rfl rfl hc j _ s3 _ H3 _ I3 (stat fr3) st3 go) fun r s4 hq88=>?_;obtain⟨u,hr,h4⟩:=hq88;subst hr;refine thn h4 fun _ s5 hq89=>?_;obtain⟨x,H5,I5,r5,y5,st5,fr5⟩:=hq89;have I5':=I5.pinned (stat fr5) (T.obj _ _ st5);refine thn (hg _ s5 _ H5 x u _ I5' r5 (step x H5 y5)) fun _ s6 hq90=>?_;obtain⟨σ6,H6,I6,q6⟩:=hq90;refine thn (ht _ s6 σ6 H6 _ I6 q6) fun ok s7 hq91=>?_;obtain⟨H7,I7,q7⟩:=hq91;have pinned:∀{σ':St}{H':Hp}{s':Shared},Inv (aw X scope C fp (ts++cap) s0 H0) ([(D,o)]++P++cN fp1 s5.heap) σ' H' s'->tn1 (j+1) s'.heap/\∀b∈fp1,H' b=none:=fun {σ' H' s'} J'=>by
    refine⟨T.keep _ _ _ st5 fun b hb o e=>(J'.pin (b,o) (Ae _ (Ae _ (bf hb e)))).1,fun b hb=>?_⟩;obtain⟨o,e,d⟩:=T.obj _ _ st5 b hb;exact(J'.pin (b,o) (Ae _ (Ae _ (bf hb e)))).2.1
   cases ok with
   |false=>
    rw[Dh AB] at q7 ⊢;obtain⟨m',hm,w7⟩:=q7;obtain⟨st7,fr7⟩:=pinned I7;exact⟨m',hm,j+1,σ6,H7,ys,o,I7.Ek,v3,st7,fr7,w7⟩
   |true=>
    rw[Di rfl] at q7 ⊢;refine thn (he _ s7 σ6 H7 _ I7 q7) fun yv s8 hq92=>?_;obtain⟨y,H8,I8,r8,z,ez,m',hm,w8⟩:=hq92;subst ez;obtain⟨tz,rfl⟩:∃t,yv=.str z t:=r8;obtain⟨st8,fr8⟩:=pinned I8;have I8':=I8.Ek;obtain⟨hDg,hDn,hDC',hDs,hDd⟩:=I8'.pin (D,o) (Ae _ (Ay _ Aq));have hl:=Fh ys;refine addL hDg v3 (BW (DI (Ap hl (AW hz))) (show 4000+1<scanBound by decide)) fun h9 o9 hs9 hD9 v9=>?_;have tracked:∀b o,b≠D->s8.heap.get? b=some o->h9.get? b=some o:=fun b o hb e=>hs9.extBut b o hb e;have nc9:=v9.nc;have I9:Inv (aw X scope C fp (ts++cap) s0 H0) ([(D,o9)]++P) σ6 H8 {s8 with heap:=h9,toks:=s8.toks+1}:=by
     have J0:Inv (aw X scope C fp (ts++cap) s0 H0) P σ6 H8 s8:=I8'.ES (fun p hp=>I8'.pin p (Ae _ (Ae _ hp)));have J1:Inv (aw X scope C fp (ts++cap) s0 H0) P σ6 H8 {s8 with heap:=h9,toks:=s8.toks+1}:=J0.turned (it:=D) tracked hDn hDC' hD0 hDc hDp;refine J1.ES fun p hp=>?_;rcases Ai.mp hp with z|z
     ·have e:p=(D,o9):=by simpa using z
      subst e;exact⟨hD9,hDn,hDC',hDs,nc9⟩
     ·exact J1.pin p (Ae _ z)
    have st9:tn1 (j+1) h9:=T.keep _ _ _ st8 fun b hb o e=>tracked b o (nfp b hb) e;exact⟨m',hm,j+1,σ6,H8,z::ys,o9,I9,v9,st9,fr8,w8⟩
 exact lD (loop _ rfl) (T.self _ _ _ _ _ st (loop _ rfl))
theorem gi{pins:List (Addr×Obj)}{σ:St}{H:Hp}{s:Shared}{fp:List Addr}{g:TG}{tc:TT}{wi1:TI}{g1:TG}{tc1:TT}{te:TE}{J:It}{it:Addr}{tn:Nat->Heap->Prop}{W:Nat->Nat->List Str->Hp->Prop}{m0:Nat}{E:Value->Shared->Prop}
  {RR:Value->Addr->Result->Shared->Prop}{Fin:List Str->Hp->Prop}(hc:X.calm=true)
  (I:Inv X pins σ H s)(T:Turn X.prog X.w X.K tg0 J fp it tn)(st:tn 0 s.heap)(hf:∀b∈fp,Er X pins H b)(CS:Ec X scope ts cap js)
  (hg:∀C fp s H,PG (aw X scope C fp (ts++cap) s H) tg0 g)(ht:∀C fp s H,PTs (aw X scope C fp (ts++cap) s H) ifs0 tc)(hi1:∀C fp s H,PI (aw X scope C fp (ts++cap) s H) tg1 iter1 wi1)
  (hg1:∀C fp s H,PG (aw X scope C fp (ts++cap) s H) tg1 g1)(ht1:∀C fp s H,PTs (aw X scope C fp (ts++cap) s H) ifs1 tc1)(he:∀C fp s H,PE (aw X scope C fp (ts++cap) s H) elt te)
  (hs1:∀C x,foldedSetIterable iter1 (compEnvC scope (eW X.env.cells scope.names []) C X.env) x=pure x)
  (w0:W 0 m0 [] H)
  (turn:∀i m ys H,W i m ys H->(J.stop i H/\ys.length<=4000/\Fin ys H)\/(J.go i H/\∀x H',J.yld i H x H'->g x (List.replicate ts.length none++dq js σ) H' fun σ2 H2=>tc σ2 H2 fun b H3 =>
   if b=true then wi1 σ2 H3 fun J1 H4=>ig J1 g1 tc1 te σ2 H4 ys fun ys' H5=>∃m',m' < m/\W (i+1) m' ys' H5 else ∃m',m' < m/\W (i+1) m' ys H3))
  (hRR:∀D C s' H' ys m o,Inv X pins σ H' s'->s'.heap.get? D=some o->EO X.prog X.w (bV X.w) o ys->ys.length<=4000->s'.heap.Ns C m->s.heap.objs.size<=C->s.heap.objs.size<=D->C≠D->H' C=none->H' D=none->Fin ys H'->RR (.ref D) C (.ok .next) s') :
  wpAny (model X.prog X.w) X.A (newSet (.type "set")) (fun acc s₃=>wpAny (model X.prog X.w) X.A (newFunctionEnv scope X.env.globals (eW X.env.cells scope.names []) [] X.env.qual none .none (some X.env)) (fun cenv s₄ =>
   codeAny (model X.prog X.w) X.A (.compStart (bG elt tg0 iter0 tg1 iter1 ifs0 ifs1 scope pos) 0 (.ref it) acc { cenv with scope:=relabel scope X.env }) (RR acc cenv.locals) s₄) E s₃) E s:=by
 have TA:∀C,HG (aw X scope C fp (ts++cap) s H) tg0 J fp it tn:=fun C=>⟨T.item (aw X scope C fp (ts++cap) s H) rfl rfl rfl hc,T.done (aw X scope C fp (ts++cap) s H) rfl rfl rfl hc⟩
 refine qA ?_;refine(wpAny_newFunctionEnv CS.FT (by intro y hy;simp at hy) (fun h₁ hns₁ hsb₁=>?_) CS.kind);dsimp only at hns₁ hsb₁ ⊢;generalize hH2:s.heap.push {cls:=.type "set",dict:=none,data:=.set #[] 0 (.fresh 0 0 (bV X.w))}=H2 at hns₁ hsb₁ ⊢;generalize ho0:({cls:=.type "set",dict:=none,data:=.set #[] 0 (.fresh 0 0 (bV X.w))}:Obj)=o0 at hH2;have hs0:EO X.prog X.w (bV X.w) o0 []:=by rw[<- ho0];exact EO.fresh _ _ _
 have hnc:∀v,o0.data≠.cell v:=by rw[<- ho0];intro v z;cases z
 have hfz:o0.isFreed=false:=by rw[<- ho0];rfl
 clear ho0;have hCs:H2.objs.size=s.heap.objs.size+1:=by rw[<- hH2,DM]
 have hDC:s.heap.objs.size≠H2.objs.size:=by rw[hCs];exact Ac (AY _)
 have hCle:s.heap.objs.size<=H2.objs.size:=by rw[hCs];exact Bb _
 have below:∀b,b<s.heap.objs.size->b≠H2.objs.size:=fun b hb=>by rw[hCs];exact Ac (Bc hb)
 have old:∀b o,s.heap.get? b=some o->h₁.get? b=some o:=fun b o e=>hsb₁.extBut b o (below b (Dp e)) (DE _ (hH2▸DE _ e));have hacc:h₁.get? s.heap.objs.size=some (o0):=hsb₁.extBut _ _ hDC (DE _ (hH2▸DG _ hfz));have hfl:∀b∈fp,b<s.heap.objs.size:=fun b hb=>by obtain⟨o,e,_⟩:=T.obj _ _ st b hb;exact Dp e
 have st₁:tn 0 h₁:=T.keep _ _ _ st fun b _ o e=>old b o e;have hDstk:s.heap.objs.size∉frs X.stack:=fun z=>by
  obtain⟨_,o,ho,_⟩:=I.stack.mem z;exact absurd (Dp ho) (AD _)
 have I0:Inv (aw X scope H2.objs.size fp (ts++cap) s H) [(s.heap.objs.size,o0)] (List.replicate ts.length none++dq js σ) H {s with heap:=h₁,toks:=s.toks+([]:List (Str×Value)).length}:=
  jt I CS hf hfl hCle old hns₁ rfl I.bare fun p hp=>by
   have e:p=(s.heap.objs.size,o0):=by simpa using hp
   subst e;exact⟨hacc,I.hok.fresh (zX _),hDC,hDstk,hnc⟩
 have stat:∀{H':Hp}{o:Obj},(∀b∈fp,H' b=none)->∀b∈fp,Er (aw X scope H2.objs.size fp (ts++cap) s H) [(s.heap.objs.size,o)] H' b:=fun {H' o} hn b hb=>by
  obtain⟨f0,f1,f2,f3,f4,f5⟩:=hf b hb;refine⟨hn b hb,below b (hfl b hb),?_,.inl hb,fun x c e=>f4 x c (CS.look I.ok e),fun p hp=>?_⟩
  ·exact(iW I CS hf hfl hCle).HM b hb
  ·rcases Ai.mp hp with z|z
   ·exact f5 p (Ay _ z)
   ·have e:p=(s.heap.objs.size,o):=by simpa using z
    subst e;intro q;have q':s.heap.objs.size=b:=q;exact absurd (hfl b hb) (by rw[<- q'];exact AD _)
 have loop:∀s₃:Shared,s₃={s with heap:=h₁,toks:=s.toks+([]:List (Str×Value)).length} ->
   codeAny (model X.prog X.w) X.A (.compLoop (bG elt tg0 iter0 tg1 iter1 ifs0 ifs1 scope pos) 0 (.ref it) (.ref s.heap.objs.size) (compEnvC scope (eW X.env.cells scope.names []) H2.objs.size X.env))
    (RR (.ref s.heap.objs.size) H2.objs.size) s₃:=by
  rintro s₃ rfl;refine mI (hs1 _) (fun k s'=>∃i H' ys o,Inv (aw X scope H2.objs.size fp (ts++cap) s H) [(s.heap.objs.size,o)] (List.replicate ts.length none++dq js σ) H' s'/\EO X.prog X.w (bV X.w) o ys/\tn i s'.heap/\(∀b∈fp,H' b=none)/\W i k ys H') ?_ m0
   ⟨0,H,[],o0,I0,hs0,st₁,fun b hb=>(hf b hb).1,w0⟩
  rintro k s3 ⟨i,H3,ys,o,I3,v3,st3,fr3,w3⟩;rcases turn i k ys H3 w3 with ⟨stop,hz,fin⟩|⟨go,step⟩
  ·refine thn ((TA _).done i _ s3 _ H3 _ I3 (stat fr3) st3 stop) fun r s4 hq93=>?_;obtain⟨hr,I4⟩:=hq93;subst hr;obtain⟨m4,hn4,_⟩:=I4.loc;exact hRR _ _ s4 H3 ys m4 o (jS I hf I4) (I4.pin (s.heap.objs.size,o) (Ae _ Aq)).1 v3 hz hn4 hCle (zX _) (DC hDC) I4.free (I4.pin (s.heap.objs.size,o) (Ae _ Aq)).2.1 fin
  ·refine thn ((TA _).item i _ s3 _ H3 _ I3 (stat fr3) st3 go) fun r s4 hq94=>?_;obtain⟨u,hr,h4⟩:=hq94;subst hr;refine thn h4 fun _ s5 hq95=>?_;obtain⟨x,H5,I5,r5,y5,st5,fr5⟩:=hq95;have I5':=I5.pinned (stat fr5) (T.obj _ _ st5);refine thn (hg _ _ _ _ _ s5 _ H5 x u _ I5' r5 (step x H5 y5)) fun _ s6 hq96=>?_;obtain⟨σ6,H6,I6,q6⟩:=hq96;refine thn (ht _ _ _ _ _ s6 σ6 H6 _ I6 q6) fun ok s7 hq97=>?_;obtain⟨H7,I7,q7⟩:=hq97;have pinned:∀{σ':St}{H':Hp}{s':Shared},Inv (aw X scope H2.objs.size fp (ts++cap) s H) ([(s.heap.objs.size,o)]++cN fp s5.heap) σ' H' s'->tn (i+1) s'.heap/\∀b∈fp,H' b=none:=fun {σ' H' s'} J=>by
    refine⟨T.keep _ _ _ st5 fun b hb o e=>(J.pin (b,o) (Ae _ (Ae _ (bf hb e)))).1,fun b hb=>?_⟩;obtain⟨o,e,d⟩:=T.obj _ _ st5 b hb;exact(J.pin (b,o) (Ae _ (Ae _ (bf hb e)))).2.1
   cases ok with
   |false=>
    rw[Dh AB] at q7 ⊢;obtain⟨m',hm,w7⟩:=q7;obtain⟨st7,fr7⟩:=pinned I7;exact⟨m',hm,i+1,H7,ys,o,cL I CS hf I7.Ek,v3,st7,fr7,w7⟩
   |true=>
    rw[Di rfl] at q7 ⊢;refine thn (hi1 _ _ _ _ _ s7 σ6 H7 _ I7 q7) fun xv s8 h8=>thn h8 fun itv s9 h9=>?_;obtain⟨it1,fp1,tn1,J1,H9,e9,I9,T1,st9,f9,cv⟩:=h9;subst e9;refine je (D:=s.heap.objs.size) (o0:=o) (P:=cN fp s5.heap) hc I9 v3 T1 st9 f9 (.inr (Heap.get?_none_of_le (zX _))) (fun x c e q=>?_) (fun p hp q=>?_) (hg1 _ _ _ _) (ht1 _ _ _ _) (he _ _ _ _) cv (fun σ' ys' o' H' s' I' v' q'=>⟨rfl,?_⟩)
    ·obtain⟨v,o,ho,_⟩:=I.cell x c (CS.look I.ok e);rw[q] at ho;exact absurd (Dp ho) (AD _)
    ·rcases Ai.mp hp with z|z
     ·obtain⟨e,_⟩:=I.pin p (Ay _ z);rw[q] at e;exact absurd (Dp e) (AD _)
     ·obtain⟨hb,_⟩:=il z;exact absurd (hfl _ hb) (by rw[q];exact AD _)
    ·obtain⟨m',hm,w8⟩:=q';have st8:tn (i+1) s'.heap:=T.keep _ _ _ st5 fun b hb o e=>(I'.pin (b,o) (Ae _ (Ae _ (bf hb e)))).1;have fr8:∀b∈fp,H' b=none:=fun b hb=>by
      obtain⟨o,e,d⟩:=T.obj _ _ st5 b hb;exact(I'.pin (b,o) (Ae _ (Ae _ (bf hb e)))).2.1
     exact⟨m',hm,i+1,H',ys',o',cL I CS hf I'.Ek,v',st8,fr8,w8⟩
 exact cz (loop _ rfl) (T.self _ _ _ _ _ st₁ (loop _ rfl))
theorem jK{wi:TI}{g:TG}{tc:TT}{wi1:TI}{g1:TG}{tc1:TT}{te:TE}(hc:X.calm=true)(CS:Ec X scope ts cap js)(hi:PI X tg0 iter0 wi)(hg:∀C fp s H,PG (aw X scope C fp (ts++cap) s H) tg0 g)
  (ht:∀C fp s H,PTs (aw X scope C fp (ts++cap) s H) ifs0 tc)(hi1:∀C fp s H,PI (aw X scope C fp (ts++cap) s H) tg1 iter1 wi1)
  (hg1:∀C fp s H,PG (aw X scope C fp (ts++cap) s H) tg1 g1)(ht1:∀C fp s H,PTs (aw X scope C fp (ts++cap) s H) ifs1 tc1)(he:∀C fp s H,PE (aw X scope C fp (ts++cap) s H) elt te)
  (hs1:∀C x,foldedSetIterable iter1 (compEnvC scope (eW X.env.cells scope.names []) C X.env) x=pure x:=by intro _ _;rfl)
  (hs:∀x,foldedSetIterable iter0 X.env x=pure x:=by intro _;rfl):qD X (.SetComp elt [⟨tg0,iter0,ifs0,0⟩,⟨tg1,iter1,ifs1,0⟩] scope pos) (qP wi ts.length js g tc wi1 g1 tc1 te):=by
 intro pins s σ H Q I h;refine wpAny_comprehension_free (e:=.SetComp elt [⟨tg0,iter0,ifs0,0⟩,⟨tg1,iter1,ifs1,0⟩] scope pos) (use:=none) rfl hs (bM (CS.cells I.ok)) CS.kind CS.names (thn (hi pins s σ H _ I h) fun v s1 h1=>thn h1 fun itv s2 h2=>?_);obtain⟨it,fp,tn,J,H2,e,I2,T,st2,f2,W,⟨m0,w0⟩,turn⟩:=h2;subst e;refine gi (Fin:=Q) (RR:=fun acc C=>compPost (model X.prog X.w) X.A X.xe none (fun v s'=>∃D o ys H',v=.ref D/\Inv X pins σ H' s'/\s'.heap.get? D=some o/\EO X.prog X.w (bV X.w) o ys/\(ddS ys).length<scanBound/\Q ys H') acc C) hc I2 T st2 f2 CS hg ht hi1 hg1 ht1 he hs1 w0 turn ?_;intro D C s' H' ys m o I' hD' hS' hz hn hC hD hCD hHC hHD fin;have szL:=I2.lt;have low:∀b o,s2.heap.get? b=some o->b≠C:=fun b o e=>Ac (Ak (Dp e) hC);refine⟨m,hn,fun h' hs'=>⟨D,o,ys,H',rfl,de (n0:=0) I' (Heap.get?_none_of_le (Ap I2.sz hC)) (Ac (Ak szL hC)) (fun x c e=>?_) (fun p hp=>?_) hHC hs',hs'.extBut _ _ (DC hCD) hD',hS',BW (Ap (Fh ys) hz) (show 4000<scanBound by decide),fin⟩⟩
 ·obtain⟨v,o,ho,_⟩:=I2.cell x c e;exact low c o ho
 ·exact low _ _ (I2.pin p hp).1
end
abbrev Jl(n j:Nat)(P:Nat->St->List Str->Hp->Prop)(σ:St)(ys:List Str)(H:Hp):Prop:=∃m',m'<n-j/\(m'=n-(j+1)/\j+1<=n/\P (j+1) σ ys H)
theorem Jl.mk{n j:Nat}{P:Nat->St->List Str->Hp->Prop}{σ:St}{ys:List Str}{H:Hp}(hj:j<n)(h:P (j+1) σ ys H):Jl n j P σ ys H:=⟨n-(j+1),by lia,rfl,hj,h⟩
theorem qQ{K:W.Frag}{a:Addr}{xs:List V}{g:TG}{tc:TT}{te:TE}{σ0:St}{H0:Hp}{ys0:List Str}{Q:List Str->Hp->Prop}(P:Nat->St->List Str->Hp->Prop)(h0:P 0 σ0 ys0 H0)(hz:∀j σ ys H,j<=xs.length->P j σ ys H->ys.length<4000)
  (hl:∀j σ ys H,j<=xs.length->P j σ ys H->SqL K H a xs)
  (hs:∀j σ ys H x,xs[j]?=some x->P j σ ys H->g x σ H fun σ2 H2=>tc σ2 H2 fun b H3=>if b=true then te σ2 H3 fun y H4=>∃z,y=.str z/\Jl xs.length j P σ2 (z::ys) H4 else Jl xs.length j P σ2 ys H3)
  (hd:∀σ ys H,P xs.length σ ys H->Q ys H):ig (Itl K a) g tc te σ0 H0 ys0 Q:=by
 refine⟨fun j m σ ys H=>m=xs.length-j/\j<=xs.length/\P j σ ys H,⟨_,rfl,Ah _,h0⟩,?_⟩;rintro j m σ ys H ⟨rfl,hj,p⟩;have q:=hl j σ ys H hj p;have ly:=hz j σ ys H hj p;by_cases hlt:j<xs.length
 ·refine .inr ⟨⟨xs,xs[j],q,by simp[hlt]⟩,ly,fun x H' y=>?_⟩;obtain⟨e,y⟩:=y;subst e;exact hs j σ ys _ x (y xs q) p
 ·have e:j=xs.length:=by lia
  subst e;exact .inl ⟨⟨xs,q,zX _⟩,hd σ ys H p⟩
theorem qo{K:W.Frag}{a:Addr}{xs:List V}{k:Nat}{js:List Nat}{g:TG}{tc:TT}{wi1:TI}{g1:TG}{tc1:TT}{te:TE}{σ:St}{H:Hp}{Q:List Str->Hp->Prop}(P:Nat->List Str->Hp->Prop)(h0:P 0 [] H)(hz:∀i ys H,i<=xs.length->P i ys H->ys.length<=4000)
  (hl:∀i ys H,i<=xs.length->P i ys H->SqL K H a xs)
  (hs:∀i x ys H,xs[i]?=some x->P i ys H->g x (List.replicate k none++dq js σ) H fun σ2 H2=>tc σ2 H2 fun b H3=>if b=true then wi1 σ2 H3 fun J1 H4=>ig J1 g1 tc1 te σ2 H4 ys fun ys' H5=>NxS xs.length i P ys' H5 else NxS xs.length i P ys H3)
  (hd:∀ys H,P xs.length ys H->Q ys H):mh (Itl K a) k js g tc wi1 g1 tc1 te σ H Q:=by
 refine⟨fun i m ys H=>m=xs.length-i/\i<=xs.length/\P i ys H,⟨_,rfl,Ah _,h0⟩,?_⟩;rintro i m ys H ⟨rfl,hi,p⟩;have q:=hl i ys H hi p;have ly:=hz i ys H hi p;by_cases hlt:i<xs.length
 ·refine .inr ⟨⟨xs,xs[i],q,by simp[hlt]⟩,fun x H' y=>?_⟩;obtain⟨e,y⟩:=y;subst e;exact hs i x ys _ (y xs q) p
 ·have e:i=xs.length:=by lia
  subst e;exact .inl ⟨⟨xs,q,zX _⟩,ly,hd ys H p⟩
theorem qw{X:Cx}{e:Expr}{f:Str}{pos:Pos}{ta:TE}(K':W.Frag)(hK:X.K=K')(he:PE X e ta)(hb:attributeBase e f X.env (eval e X.env)=eval e X.env):PE X (.Attribute e f pos) (vc K' ta f):=by
 subst hK;exact dW he hb
section
variable {X:Cx}
end
section
variable {X:Cx}{k:Nat}{f C:Addr}{fd:FuncData}{ps:List Str}{sp:Sp}{EX:XS}{m:Str}{pos apos:Pos}{e o:Expr}{es:List Expr}{ta:TE}{t:TA}
def pI (C:Addr)(m:Str)(sp:Sp)(EX:XS)(ta:TE)(t:TA):TE:=fun σ H Q=>ta σ H fun x H1=>∃a dx fs,x=.ref a/\H1 a=some (.ins C dx fs)/\fs.lookup m=none/\t σ H1 fun vs H2=>sp (.ref a::vs) H2 Q fun cls _ H'=>EX cls σ H'
theorem kX{pins:List (Addr×Obj)}{σ:St}{H:Hp}{s:Shared}{Q:VK}{us:List Value}{vs:List V}(F:DY X.prog X.w X.K X.mg X.base (CXe X.prog X.w) k f fd ps sp)(hr:EB k X.A)(hb:Binds X.K fd ps [])(hx:Xok X EX)
  (I:Inv X pins σ H s)(r:Vals vs us)(h:sp vs H Q fun cls _ H'=>EX cls σ H'):wpAny (model X.prog X.w) X.A (call (.ref f) us) (EP X pins σ Q) X.xe s:=by
 have hl:(us++[]).length=ps.length:=by rw[AC,<- r.length];exact F.len _ _ _ _ h
 have hb':=hb s us I.kIn hl;rw[AC] at hb';refine wpAny_call (codeAny_mono (F.run X.A X.stack s H ⟨us,[]⟩ us vs Q _ hr I.Jg hb' r h) fun r s' hq=>?_);cases r with
 |error e=>
  obtain⟨x,cls,H',rfl,q',o⟩:=Out.GW (E:=fun cls _ H'=>EX cls σ H') (e:=e) (s':=s') I hq;exact hx pins σ H' s' x cls o q'
 |ok fl=>
  cases fl with
  |ret u=>exact I.after hq
  |next=>exact False.elim hq
  |brk=>exact False.elim hq
  |cont=>exact False.elim hq
theorem oS{pl:Sem Bool}(he:PE X o ta)(c:Cls X.K C)(hm:Meth X.K C m f)(F:DY X.prog X.w X.K X.mg X.base (CXe X.prog X.w) k f fd ps sp)(hr:EB k X.A)(hb:Binds X.K fd ps [])(hx:Xok X EX)(ha:PA X (e::es) t)
  (hst:starEach (e::es) X.env=(false,eval e X.env)::starEach es X.env:=by rfl)(hpl:(backTo pos (starEach es X.env)).any (·.1)=false:=by rfl)
  (ht:eval (.Call (.Attribute o m apos) (e::es) [] pos) X.env=(do
   let ov <- eval o X.env
   standAt apos.atName
   let (f,first) <- holding [ov] (getMethod ov m pl)
   callWith pos f first (backTo pos (starEach (e::es) X.env)) (backToKw pos (keywordEach [] X.env))):=by rfl) :
  PE X (.Call (.Attribute o m apos) (e::es) [] pos) (pI C m sp EX ta t):=by
 intro pins s σ H Q I h;refine W.methodCall_KW (pl:=pl) (thn (he pins s σ H _ I h) fun u s1 hq98=>?_) ht;obtain⟨x,H1,I1,rx,a,dx,fs,ex,ea,l,q⟩:=hq98;subst ex;obtain rfl:u=Value.ref a:=rx;refine dP I1 ea c hm l ?_;refine W.callWith_K (first:=[.ref a]) (h₀:=X.base) I.ok.mod.kin hm.kp (thn (ha pos pins s1 σ H1 _ I1 q) fun us s2 hq99=>?_) hst hpl;obtain⟨vs,H2,I2,r,q2⟩:=hq99;refine⟨I2.kIn,?_⟩;exact kX (us:=.ref a::us) (vs:=.ref a::vs) F hr hb hx I2 (.cons rfl r) q2
theorem lL{pl:Sem Bool}(he:PE X o ta)(c:Cls X.K C)(hm:Meth X.K C m f)(F:DY X.prog X.w X.K X.mg X.base (CXe X.prog X.w) k f fd ps sp)(hr:EB k X.A)(hb:Binds X.K fd ps [])(hx:Xok X EX)
  (ht:eval (.Call (.Attribute o m apos) [] [] pos) X.env=(do
   let ov <- eval o X.env
   standAt apos.atName
   let (f,first) <- holding [ov] (getMethod ov m pl)
   callWith pos f first (backTo pos (starEach [] X.env)) (backToKw pos (keywordEach [] X.env))):=by rfl) :
  PE X (.Call (.Attribute o m apos) [] [] pos) (pI C m sp EX ta He):=by
 intro pins s σ H Q I h;refine W.methodCall_KW (pl:=pl) (thn (he pins s σ H _ I h) fun u s1 hq100=>?_) ht;obtain⟨x,H1,I1,rx,a,dx,fs,ex,ea,l,q⟩:=hq100;subst ex;obtain rfl:u=Value.ref a:=rx;refine dP I1 ea c hm l ?_;exact W.callWith_K0 (first:=[.ref a]) I1.kIn hm.kp (kX (us:=[.ref a]) (vs:=[.ref a]) F hr hb hx I1 (.cons rfl .nil) q)
end
theorem Hr:bootBuiltins "int"=some (.type "int"):=by decide +kernel
theorem Hz:bootBuiltins "bool"=some (.type "bool"):=by decide +kernel
theorem Gv:bootBuiltins "tuple"=some (.type "tuple"):=by decide +kernel
theorem IV:bootBuiltins "list"=some (.type "list"):=by decide +kernel
theorem JF:bootBuiltins "str"=some (.type "str"):=by decide +kernel
theorem Im:bootBuiltins "len"=some (.builtin "len"):=by decide +kernel
theorem DU:bootBuiltins "isinstance"=some (.builtin "isinstance"):=by decide +kernel
theorem ID:bootBuiltins "all"=some (.builtin "all"):=by decide +kernel
theorem Hv:bootBuiltins "min"=some (.builtin "min"):=by decide +kernel
theorem FF:bootBuiltins "ValueError"=some (.type "ValueError"):=by decide +kernel
theorem ar{X:Cx}{scope:Scope}{ts cap:List Str}{js:List Nat}(h1:scope.kind=.function)(h2:(scope.names.all fun y=>y.2 != .cell)=true)(h3:(scope.names.all fun y=>y.2 != .local||scope.names.lookup y.1==some .local)=true)
  (h4:(scope.names.all fun y=>y.2 != .free||X.env.kindOf y.1==some .cell||X.env.kindOf y.1==some .free)=true)(h5:cap.map some=js.map fun j=>X.N[j]?)(h6:(cap.all fun y=>scope.names.lookup y==some .free)=true)(h7:(ts++cap).Nodup):Ec X scope ts cap js where
 kind:=h1
 FT:=fun y hy e=>by have:=Be.mp h2 y hy;rw[e] at this;cases this
 names:=fun y hy e=>by
  have:=Be.mp h3 y hy;rw[e] at this;simpa using this
 free:=fun y hy e=>by
  have:=Be.mp h4 y hy;rw[e] at this;simpa using this
 JG:=h5
 Kq:=fun y hy=>by
  have:=Be.mp h6 y hy;simpa using this
 nd:=h7
theorem aM{env:Env}{c j pos}{es:List Expr}:starEach (.Constant c j pos::es) env=(false,eval (.Constant c j pos) env)::starEach es env:=rfl
theorem ax{env:Env}{x pos}{es:List Expr}:starEach (.Name x pos::es) env=(false,eval (.Name x pos) env)::starEach es env:=rfl
theorem cy{env:Env}{a b c pos}{es:List Expr}:starEach (.Call a b c pos::es) env=(false,eval (.Call a b c pos) env)::starEach es env:=rfl
def strOf:Expr->Option Str
 |.Constant (.str x) _ _=>some x
 |_=>none
theorem iE{X:Cx}:∀{es:List Expr}{xs:List Str},es.map strOf=xs.map some->PA X es (fun _ H Q=>Q (xs.map V.str) H)
 |[],[],_=>Ed
 |[],_::_,h=>by cases h
 |_::_,[],h=>by cases h
 |e::es,x::xs,h=>by
  rw[AH,AH] at h;injection h with h1 h2;have ih:=iE (X:=X) (es:=es) (xs:=xs) h2;unfold strOf at h1;split at h1
  ·cases h1;exact aa aL ih aM
  ·cases h1
structure DD where
 f:Addr
 fd:FuncData
structure Def(K:W.Frag)(mg:Str->Option Value)(x:Str)(st:Stmt)(ps:List Str)(d:DD):Prop where
 fn:Fun K x x st d.f d.fd
 m:mg x=some (.ref d.f)
 b:Binds K d.fd ps []
def hid (p:Addr)(H:Hp):Hp:=fun b=>if b=p then none else H b
theorem cF{p b:Addr}{H:Hp}(h:b≠p):hid p H b=H b:=Dh h
theorem bF(p:Addr)(H:Hp):DV (hid p H) H:=fun b o e=>by
 unfold hid at e;split at e
 ·cases e
 ·exact e
theorem DV.hid{p:Addr}{H H':Hp}(e:DV H H'):DV (hid p H) (L2.hid p H'):=fun b o q=>by
 unfold L2.hid at q ⊢;split at q
 ·cases q
 ·rename_i h;rw[Dh h];exact e b o q
def DOk (a b c:Int):Prop:=1<=b/\b<=2147483648/\1000000000<=c/\c<=2147483647
def Ds (H:Hp)(p:Addr):Prop:=∃a b c,H p=some (.lst [.int a,.int b,.int c])/\DOk a b c
structure Dr(p:Addr)(H H':Hp):Prop where
 same:DV (hid p H) (hid p H')
 ds:Ds H' p
theorem Dr.trans{p:Addr}{H H1 H2:Hp}(a:Dr p H H1)(b:Dr p H1 H2):Dr p H H2:=⟨a.same.trans b.same,b.ds⟩
theorem Ds.same{p:Addr}{H H':Hp}(h:Ds H p)(e:DV H H'):Ds H' p:=by
 obtain⟨a,b,c,q,r⟩:=h;exact⟨a,b,c,e _ _ q,r⟩
theorem Dr.of_same{p:Addr}{H H':Hp}(h:Ds H p)(e:DV H H'):Dr p H H':=⟨e.hid,h.same e⟩
theorem Dr.Ig{p:Addr}{H:Hp}{a b c:Int}(h:DOk a b c):Dr p H (upd H p (.lst [.int a,.int b,.int c])):=
 ⟨fun q o e=>by
  unfold hid at e ⊢;split at e
  ·cases e
  ·rename_i n;rw[Dh n,av n];exact e,a,b,c,DR,h⟩
theorem Ds.ne{p q:Addr}{H:Hp}(h:Ds H p)(n:H q=none):p≠q:=by
 obtain⟨a,b,c,e,_⟩:=h;exact az e n
theorem Dr.new{p q:Addr}{H:Hp}(h:Ds H p)(n:H q=none)(o:HO):Dr p H (upd H q o):=Dr.of_same h (af n o)
theorem fV{p q:Addr}{H:Hp}(h:Ds H p)(n:H q=none)(o:HO):hid p (upd H q o) q=some o:=by
 rw[cF (DC (h.ne n)),DR]
structure Tb where
 a:Int
 b:Int
 c:Int
 d:Int
def Tb.vs(t:Tb):List V:=[.int t.a,.int t.b,.int t.c,.int t.d]
def Tb.mul(s t:Tb):Tb:=⟨s.a*t.a+s.b*t.c,s.a*t.b+s.b*t.d,s.c*t.a+s.d*t.c,s.c*t.b+s.d*t.d⟩
def Tb.one:Tb:=⟨1,0,0,1⟩
def Tb.worth(t:Tb):Int:=t.a*t.d-t.b*t.c
def Tb.dat(t:Tb):PyData:=.tuple [.int t.a,.int t.b,.int t.c,.int t.d]
def T4 (K:W.Frag)(H:Hp)(v:V)(t:Tb):Prop:=∃a,v=.ref a/\SqT K H a t.vs
def T4o (H:Hp)(v:V)(t:Tb):Prop:=∃a,v=.ref a/\H a=some (.tup t.vs)
theorem T4o.t4{K:W.Frag}{H:Hp}{v:V}{t:Tb}(h:T4o H v t):T4 K H v t:=by
 obtain⟨a,rfl,e⟩:=h;exact⟨a,rfl,SqT.of e⟩
theorem T4o.mono{H H':Hp}{v:V}{t:Tb}(h:T4o H v t)(e:DV H H'):T4o H' v t:=by
 obtain⟨a,rfl,q⟩:=h;exact⟨a,rfl,e _ _ q⟩
theorem T4.mono{K:W.Frag}{H H':Hp}{v:V}{t:Tb}(h:T4 K H v t)(e:DV H H'):T4 K H' v t:=by
 obtain⟨a,rfl,q⟩:=h;exact⟨a,rfl,e.Kg q⟩
theorem T4.dat{K:W.Frag}{H:Hp}{v:V}{t:Tb}(h:T4 K H v t):EK K H v t.dat:=by
 obtain⟨a,rfl,q⟩:=h;exact .tup q (.cons (.int _) (.cons (.int _) (.cons (.int _) (.cons (.int _) .nil))))
theorem Tb.lay(t:Tb):t.dat.canLay0=true:=rfl
theorem Tb.depth(t:Tb):t.dat.depth<=60:=by show 1<=60;decide
theorem Tb.eqv(t:Tb):PyData.eqv t.dat t.dat=true:=SeqAt.eqv_refl _ t.lay
def Lt2 (n:Nat)(x:Int):Prop:=x.natAbs<2^n
structure Bd(n:Nat)(t:Tb):Prop where
 a:Lt2 n t.a
 b:Lt2 n t.b
 c:Lt2 n t.c
 d:Lt2 n t.d
theorem Lt2.mono{n m:Nat}{x:Int}(h:Lt2 n x)(l:n<=m):Lt2 m x:=Ak h (Nat.pow_le_pow_right (by decide) l)
theorem Bd.mono{n m:Nat}{t:Tb}(h:Bd n t)(l:n<=m):Bd m t:=⟨h.a.mono l,h.b.mono l,h.c.mono l,h.d.mono l⟩
theorem Lt2.dot{n m:Nat}{a e b g:Int}(ha:Lt2 n a)(he:Lt2 m e)(hb:Lt2 n b)(hg:Lt2 m g):Lt2 (n+m+1) (a*e+b*g):=by
 unfold Lt2 at *;have h1:(a*e+b*g).natAbs<=(a*e).natAbs+(b*g).natAbs:=Int.natAbs_add_le _ _;rw[Int.natAbs_mul,Int.natAbs_mul] at h1;have h2:a.natAbs*e.natAbs<2^n*2^m:=Nat.mul_lt_mul'' ha he;have h3:b.natAbs*g.natAbs<2^n*2^m:=Nat.mul_lt_mul'' hb hg;rw[Nat.pow_succ,Nat.pow_add]
 lia
theorem Bd.mul{n m:Nat}{s t:Tb}(hs:Bd n s)(ht:Bd m t):Bd (n+m+1) (s.mul t):=
 ⟨hs.a.dot ht.a hs.b ht.c,hs.a.dot ht.b hs.b ht.d,hs.c.dot ht.a hs.d ht.c,hs.c.dot ht.b hs.d ht.d⟩
theorem Lt2.bits{n:Nat}{x:Int}(h:Lt2 n x):Builtin.Int.intBits x<=n:=by
 unfold Builtin.Int.intBits;unfold Lt2 at h;split
 ·exact Ah _
 ·rename_i z;have nz:x.natAbs≠0:=fun q=>z (by rw[Int.natAbs_eq_zero.mp q];rfl);exact(Nat.log2_lt nz).mpr h
theorem Lt2.big{n m:Nat}{x y:Int}(hx:Lt2 n x)(hy:Lt2 m y)(hn:n<=1048576)(hm:m<=1048576):tD x y:=⟨Ap hx.bits hn,Ap hy.bits hm⟩
def Ff:V->Bool
 |.int _=>true
 |_=>false
inductive Kn(H:Hp):V->Prop where
 |non:Kn H .non
 |bl (b:Bool):Kn H (.bl b)
 |int (i:Int):Kn H (.int i)
 |str (x:Str):Kn H (.str x)
 |lst {a:Addr}{xs:List V} (e:H a=some (.lst xs)):Kn H (.ref a)
 |tup {a:Addr}{xs:List V} (e:H a=some (.tup xs)):Kn H (.ref a)
inductive Th(H:Hp):V->Bool->Prop where
 |non:Th H .non false
 |bl (b:Bool):Th H (.bl b) false
 |int (i:Int):Th H (.int i) false
 |str (x:Str):Th H (.str x) false
 |lst {a:Addr}{xs:List V} (e:H a=some (.lst xs)):Th H (.ref a) false
 |tup {a:Addr}{xs:List V} (e:H a=some (.tup xs)) (k:∀x∈xs,Kn H x):Th H (.ref a) (xs.length==4&&xs.all Ff)
section
variable {K:PySem.W.Frag}{H:Hp}{v:V}
def Kj:V->Bool
 |.int _=>true
 |.bl _=>true
 |_=>false
def isB:V->Bool
 |.bl _=>true
 |_=>false
theorem Kn.as_int(h:Kn H v):∃t,Ge K H v t/\W.kitOne K t (.type "int")=some (Kj v):=by
 cases h with
 |non=>exact⟨_,.non,rfl⟩
 |bl b=>exact⟨_,.bl b,rfl⟩
 |int i=>exact⟨_,.int i,rfl⟩
 |str x=>exact⟨_,.str x,rfl⟩
 |lst e=>exact⟨_,.lst e,rfl⟩
 |tup e=>exact⟨_,.tup e,rfl⟩
theorem Kn.as_bool(h:Kn H v):∃t,Ge K H v t/\W.kitOne K t (.type "bool")=some (isB v):=by
 cases h with
 |non=>exact⟨_,.non,rfl⟩
 |bl b=>exact⟨_,.bl b,rfl⟩
 |int i=>exact⟨_,.int i,rfl⟩
 |str x=>exact⟨_,.str x,rfl⟩
 |lst e=>exact⟨_,.lst e,rfl⟩
 |tup e=>exact⟨_,.tup e,rfl⟩
end
def Fx:Sp:=fun vs H Q _=>∃v,vs=[v]/\Kn H v/\Q (.bl (Ff v)) H
def FN:Sp:=fun vs H Q _=>∃v b,vs=[v]/\Th H v b/\∀H',DV H H'->Q (.bl b) H'
structure Hs(H:Hp)(L:List (Addr×HO))(H':Hp):Prop where
 all:DV H H'
 at':∀a o,(a,o)∈L->H' a=some o
 nd:(L.map (·.1)).Nodup
 fr:∀a o,(a,o)∈L->H a=none
theorem Hs.start(H:Hp):Hs H [] H:=⟨DV.refl H,fun _ _ h=>absurd h (by simp),by simp,fun _ _ h=>absurd h (by simp)⟩
theorem Hs.new{H H':Hp}{L:List (Addr×HO)}{a:Addr}(h:Hs H L H')(n:H' a=none)(o:HO):Hs H (L++[(a,o)]) (upd H' a o) where
 all:=h.all.trans (af n o)
 at':=fun b u hm=>by
  rcases Ai.mp hm with z|z
  ·exact af n o _ _ (h.at' b u z)
  ·have e:(b,u)=(a,o):=by simpa using z
   cases e;exact DR
 nd:=by
  rw[Au,List.nodup_append];refine⟨h.nd,by simp,fun x hx y hy=>?_⟩;have ey:y=a:=by simpa using hy
  subst ey;obtain⟨⟨b,u⟩,hb,e⟩:=Ax.mp hx;cases e;exact az (h.at' b u hb) n
 fr:=fun b u hm=>by
  rcases Ai.mp hm with z|z
  ·exact h.fr b u z
  ·have e:(b,u)=(a,o):=by simpa using z
   cases e;exact h.all.free n
theorem Hs.get{H H':Hp}{L:List (Addr×HO)}{a:Addr}{o:HO}(h:Hs H L H')(i:Nat)(e:L[i]?=some (a,o):=by rfl):H' a=some o:=h.at' a o (Am e)
theorem Hs.ne{H H':Hp}{L:List (Addr×HO)}{a b:Addr}{o u:HO}(h:Hs H L H')(i j:Nat)(ij:i≠j)(e:L[i]?=some (a,o):=by rfl)(f:L[j]?=some (b,u):=by rfl):a≠b:=fun z=>by
 have e1:(L.map (·.1))[i]?=some a:=by rw[Aj,e];rfl
 have f1:(L.map (·.1))[j]?=some b:=by rw[Aj,f];rfl
 rw[z] at e1;obtain⟨hi,e2⟩:=Ad.mp e1;obtain⟨hj,f2⟩:=Ad.mp f1;exact ij ((List.getElem_inj h.nd).mp (e2.trans f2.symm))
theorem Hs.put{H H':Hp}{L:List (Addr×HO)}{a:Addr}{o:HO}(h:Hs H L H')(i:Nat)(o':HO)(e:L[i]?=some (a,o):=by rfl):Hs H (L.set i (a,o')) (upd H' a o') where
 all:=fun b u q=>by
  have ha:=h.fr a o (Am e);rw[av (az q ha)];exact h.all b u q
 at':=fun b u hm=>by
  obtain⟨j,ej⟩:=List.getElem?_of_mem hm;by_cases hj:i=j
  ·subst hj;have hi:=(Ad.mp e).1;rw[BI hi] at ej;cases ej;exact DR
  ·rw[BJ hj] at ej;rw[av (DC (h.ne i j hj e ej))];exact h.at' b u (Am ej)
 nd:=by
  have:(L.set i (a,o')).map (·.1)=L.map (·.1):=by
   apply Co;intro j;rw[Aj,Aj];by_cases hj:i=j
   ·subst hj;have hi:=(Ad.mp e).1;rw[BI hi,e];rfl
   ·rw[BJ hj]
  rw[this];exact h.nd
 fr:=fun b u hm=>by
  obtain⟨j,ej⟩:=List.getElem?_of_mem hm;by_cases hj:i=j
  ·subst hj;have hi:=(Ad.mp e).1;rw[BI hi] at ej;cases ej;exact h.fr a o (Am e)
  ·rw[BJ hj] at ej;exact h.fr b u (Am ej)
theorem Hs.mono{H H' H'':Hp}{L:List (Addr×HO)}(h:Hs H L H')(s:DV H' H''):Hs H L H'':=⟨h.all.trans s,fun a o m=>s _ _ (h.at' a o m),h.nd,h.fr⟩
end L2
namespace KM
def tup (k:Nat):Nat->List (List Nat)
 |0=>[[]]
 |n+1=>(List.range k).flatMap fun i=>(tup k n).map (i::·)
def tJ (ws:List (List Nat))(t:List Nat):List Nat:=(t.map fun i=>ws.getD i []).flatten
def S (L:Nat)(ws:List (List Nat)):Nat:=((List.range ws.length).map fun i=>2^(L-(ws.getD i []).length)).sum
structure KH(ws:List (List Nat))(Q:List Nat->Prop):Prop where
 first:∀i j x,i<ws.length->j<ws.length->i≠j->ws.getD i []=ws.getD j []++x->Q x
 within:∀n x y,n<ws.length->Q x->x=ws.getD n []++y->Q y
 beyond:∀n x y,n<ws.length->Q x->ws.getD n []=x++y->Q y
 none:¬Q []
abbrev Fd:=Nat×List Nat×List Nat
structure Trk(ws:List (List Nat))(x:List Nat)(f:Fd):Prop where
 a:∀i∈f.2.1,i<ws.length
 b:∀i∈f.2.2,i<ws.length
 ne:∃i j s t,f.2.1=i::s/\f.2.2=j::t/\i≠j
 eq:tJ ws f.2.1=tJ ws f.2.2++x
 len:f.1=(tJ ws f.2.1).length
def Sfx (ws:List (List Nat))(x:List Nat):Prop:=∃w∈ws,∃z,w=z++x
abbrev Ent:=List (List Nat×Fd)
def Has (dn:List (List Nat×Nat))(E:Ent)(y:List Nat)(m:Nat):Prop:=(∃p∈dn,p.1=y/\p.2<=m)\/∃e∈E,e.1=y/\e.2.1<=m
structure Wt(ws:List (List Nat))(dn:List (List Nat×Nat))(E:Ent):Prop where
 trk:∀e∈E,Trk ws e.1 e.2/\Sfx ws e.1
 ndE:(E.map (·.1)).Nodup
 dis:∀e∈E,∀p∈dn,e.1≠p.1
 low:∀p∈dn,∀e∈E,p.2<=e.2.1
structure Dij(ws:List (List Nat))(dn:List (List Nat×Nat))(E:Ent):Prop where
 wt:Wt ws dn E
 ndD:(dn.map (·.1)).Nodup
 nil:∀p∈dn,p.1≠[]/\Sfx ws p.1
 first:∀i j x,i<ws.length->j<ws.length->i≠j->ws.getD i []=ws.getD j []++x->Has dn E x (ws.getD i []).length
 within:∀p∈dn,∀k y,k<ws.length->p.1=ws.getD k []++y->Has dn E y p.2
 beyond:∀p∈dn,∀k y,k<ws.length->ws.getD k []=p.1++y->Has dn E y (p.2+y.length)
def ends:List Nat->List (List Nat)
 |[]=>[[]]
 |c::r=>(c::r)::ends r
theorem fJ:∀w,(ends w).length=w.length+1
 |[]=>rfl
 |c::r=>by rw[ends,AF,fJ r,AF]
end KM
namespace L2
open PySem PySem.Spec PyProof.Rows
theorem aE{X:Cx}{e:Expr}{te:TE}(h:PE X e te)(hs:starEach [e] X.env=(false,eval e X.env)::starEach [] X.env):PA X [e] (fX te He):=@aa _ _ _ _ _ h (@Ed _) hs
theorem aI{X:Cx}{r:List V->Hp->VK->Prop}{e:Expr}{te:TE}{p pos:Pos}(hc:dJ X (.builtin "len") r)(hg:Gl X "len")(hm:X.mg "len"=none)(h:PE X e te)(hs:starEach [e] X.env=(false,eval e X.env)::starEach [] X.env):PE X (.Call (.Name "len" p) [e] [] pos) (tCB r (fX te He)):=@aF _ _ _ _ _ _ _ _ _ hc hg hm Im (aE h hs) (by decide) (by decide) hs rfl
theorem aR{X:Cx}{k k':Nat}{x:Str}{st:Stmt}{ps:List Str}{d:DD}{sp:Sp}{p pos:Pos}{e:Expr}{es:List Expr}{t:TA}(D:Def X.K X.mg x st ps d)(F:DY X.prog X.w X.K X.mg X.base CX0 k d.f d.fd ps sp)(hk:k<=k')(hr:EB k' X.A)(hg:Gl X x)(ha:PA X (e::es) t)(hdb:(x==("__debug__":Str))=false)(he:starEach (e::es) X.env=(false,eval e X.env)::starEach es X.env)(hpl:(backTo pos (starEach es X.env)).any (·.1)=false):PE X (.Call (.Name x p) (e::es) [] pos) (oo sp [] E0 t):=@jb _ _ _ _ _ _ _ _ _ _ _ _ _ _ _ _ (F.mono hk) hr hg D.m D.fn.kp D.b .nil bW ha hdb he hpl
theorem bT{X:Cx}{k k':Nat}{x:Str}{st:Stmt}{ps:List Str}{d:DD}{sp:Sp}{p pos:Pos}{e:Expr}{te:TE}(D:Def X.K X.mg x st ps d)(F:DY X.prog X.w X.K X.mg X.base CX0 k d.f d.fd ps sp)(hk:k<=k')(hr:EB k' X.A)(hg:Gl X x)(h:PE X e te)(hs:starEach [e] X.env=(false,eval e X.env)::starEach [] X.env)(hdb:(x==("__debug__":Str))=false):PE X (.Call (.Name x p) [e] [] pos) (oo sp [] E0 (fX te He)):=@aR _ _ _ _ _ _ _ _ _ _ _ _ _ D F hk hr hg (aE h hs) hdb hs rfl
theorem fP{X:Cx}{c:Str}{j:Nat}{cp apos cpos:Pos}{e:Expr}{te:TE}(h:PE X e te)(hs:starEach [e] X.env=(false,eval e X.env)::starEach [] X.env)(hfew:((backTo cpos (starEach [e] X.env)).all (fun x=>!x.1)&&(backToKw cpos (keywordEach [] X.env)).all (fun x=>x.1.isSome)&&decide ([e].length+([]:List Keyword).length+(if ([]:List Keyword).isEmpty then 0 else 1)<30))=true)(hline:(apos.endLine==cpos.line)=true):PE X (.Call (.Attribute (.Constant (.str c) j cp) "join" apos) [e] [] cpos) (tBM X.K "str" (qm X.K) (tC (.str c)) (fX te He)):=@mV _ _ _ _ _ _ _ _ _ _ _ _ Du PySem.F.slot_str_join PySem.F.type_str_join Jb (@aL _ _ _ _) (aE h hs) rfl hfew hline hs rfl
theorem cP{X:Cx}{apos cpos:Pos}{o e:Expr}{to te:TE}(ho:PE X o to)(h:PE X e te)(hs:starEach [e] X.env=(false,eval e X.env)::starEach [] X.env)(hbase:attributeBase o "append" X.env (eval o X.env)=eval o X.env)(hfew:((backTo cpos (starEach [e] X.env)).all (fun x=>!x.1)&&(backToKw cpos (keywordEach [] X.env)).all (fun x=>x.1.isSome)&&decide ([e].length+([]:List Keyword).length+(if ([]:List Keyword).isEmpty then 0 else 1)<30))=true)(hline:(apos.endLine==cpos.line)=true):PE X (.Call (.Attribute o "append" apos) [e] [] cpos) (tBM X.K "list" HK to (fX te He)):=@mV _ _ _ _ _ _ _ _ _ _ _ _ Dt Dw Dv FX ho (aE h hs) hbase hfew hline hs rfl
end L2
namespace K3
open PySem
def top (i:Nat):Stmt:=PySem.Challenge.pw_quadwords_k33_whole_long_mills.main.body.getD i (.Pass ⟨0,0,0,0⟩)
end K3
namespace K3
open PySem PySem.Spec PyProof.Rows L2
abbrev JX:Stmt:=top 42
def FW:Sp:=fun vs H Q _=>∃(p:Addr)(m:Int),vs=[.ref p,.int m]/\Ds H p/\1<=m/\m<1000000000000000000000000000000000/\∀(r:Int)(H':Hp),0<=r->r<m->Dr p H H'->Q (.int r) H'
section
variable {P:Program}{w:World}{K:PySem.W.Frag}{mg:Str->Option Value}{base:Heap}
theorem Iv:DT ["draws","many","found"] ["draws","many"] (ai JX):=⟨rfl,rfl,rfl,by decide +kernel,rfl,by decide +kernel,by decide +kernel⟩
theorem qS{d:DD}(D:Def K mg "_law_draw" JX ["draws","many"] d):DY P w K mg base CX0 1 d.f d.fd ["draws","many"] FW:=by
 refine D.fn.ok Iv (fun vs H Q E h=>?_) (fun cdv A outer s H vs Q E hr h=>?_)
 ·obtain⟨p,m,rfl,_⟩:=h;rfl
 obtain⟨p,m,rfl,⟨a,b,c,hp,hb1,hb2,hc1,hc2⟩,hm1,hm2,q⟩:=h;have nd:=Iv.nd;refine⟨_,(ae (bp (aB GP (aO DW (pv 0) ag (fun _ _=>rfl)) ag (aC _)) (ae (aq (i:=2) nd rfl (Or.inl rfl) (au EA (aO DW (pv 0) ag (fun _ _=>rfl)) (pv 1))) (ae (fu (au oh (aO DW (pv 0) ag (fun _ _=>rfl)) (pv 1)) (pT (pv 0) ag set_list)) (ah (ay (pv 2))))) DX) (ae (fu (au Eb (au EA (au EI (aO DW (pv 0) ag (fun _ _=>rfl)) ag) (aO DW (pv 0) ag (fun _ _=>rfl))) ag) (pT (pv 0) ag set_list)) (ah (ay (au EA (au HJ (au EA (au EI (aO DW (pv 0) ag (fun _ _=>rfl)) (au Eb (au HJ (aO DW (pv 0) ag (fun _ _=>rfl)) ag) ag)) ag) ag) (pv 1)))))),?_⟩
 try dsimp only [bD,Cx.nox,Cx.En]
 have g0:SqL K H p [.int a,.int b,.int c]:=SqL.of hp;refine⟨_,rfl,p,_,0,_,rfl,rfl,g0,rfl,_,_,rfl,rfl,_,rfl,pK (fun h1=>?_) (fun h1=>?_)⟩
 ·refine⟨_,rfl,p,_,0,_,rfl,rfl,g0,rfl,_,rfl,_,_,rfl,rfl,by lia,?_⟩;refine⟨_,rfl,p,_,0,_,rfl,rfl,g0,rfl,_,rfl,_,_,rfl,rfl,⟨by lia,by lia⟩,?_⟩;refine⟨_,rfl,p,_,0,0,rfl,rfl,hp,rfl,?_⟩;refine⟨_,rfl,?_⟩;exact q _ _ (Bs _ (by lia)) (Bt _ (by lia)) (Dr.Ig ⟨hb1,hb2,hc1,hc2⟩)
 ·refine⟨_,rfl,p,_,1,_,rfl,rfl,g0,rfl,_,_,rfl,rfl,.inr ⟨by decide,by decide⟩,?_⟩;refine⟨_,rfl,p,_,2,_,rfl,rfl,g0,rfl,_,_,rfl,rfl,(show(0:Int)<c by lia),_,_,rfl,rfl,?_⟩;refine⟨_,rfl,p,_,1,1,rfl,rfl,hp,rfl,?_⟩;have e0:=Bs (b*69621) (show c≠0 by lia);have e1:=Bt (b*69621) (show(0:Int)<c by lia);have z1:1<=b*69621 % c+1:=by lia
  have z2:b*69621 % c+1<=2147483648:=by lia
  have g1:SqL K (upd H p (.lst [.int a,.int (b*69621 % c+1),.int c])) p [.int a,.int (b*69621 % c+1),.int c]:=SqL.of DR;have u0:0<=(b*69621 % c+1)/128:=Int.ediv_nonneg (by lia) (by decide);have u1:(b*69621 % c+1)/128<=16777216:=by lia
  refine⟨_,rfl,p,_,1,_,rfl,rfl,g1,rfl,_,rfl,p,_,1,_,rfl,rfl,g1,rfl,_,_,rfl,rfl,⟨by decide,by decide⟩,_,_,rfl,rfl,_,_,rfl,rfl,.inl ⟨?_,?_⟩,_,_,rfl,rfl,(show(0:Int)<2147483423 by decide),_,_,rfl,rfl,⟨by decide,by decide⟩,_,rfl,_,_,rfl,rfl,(show(0:Int)<m by lia),?_⟩
  ·lia
  ·lia
  exact q _ _ (Bs _ (by lia)) (Bt _ (by lia)) (Dr.Ig ⟨z1,z2,hc1,hc2⟩)
theorem HN:DT ["thing"] ["thing"] (ai (top 15)):=⟨rfl,rfl,rfl,by decide +kernel,rfl,by decide +kernel,by decide +kernel⟩
theorem ow{d:DD}(D:Def K mg "is_whole" (top 15) ["thing"] d)(xF:mg "int"=none)(xB:mg "bool"=none)(ve:mg "isinstance"=none):DY P w K mg base CX0 1 d.f d.fd ["thing"] Fx:=by
 refine D.fn.ok HN (fun vs H Q E h=>?_) (fun cdv A outer s H vs Q E hr h=>?_)
 ·obtain⟨v,rfl,_⟩:=h;rfl
 obtain⟨v,rfl,hk,q⟩:=h;refine⟨_,(ah (ay (dS (aF EC rfl ve DU (aa (pv 0) (aa (cD (v:=.ty "int") rfl xF Hr rfl) Ed))) (ff (pP (aF EC rfl ve DU (aa (pv 0) (aa (cD (v:=.ty "bool") rfl xB Hz rfl) Ed)))))))),?_⟩
 try dsimp only [bD,Cx.nox,Cx.En]
 obtain⟨t1,y1,e1⟩:=hk.as_int (K:=K);obtain⟨t2,y2,e2⟩:=hk.as_bool (K:=K);refine⟨v,rfl,v,.ty "int",t1,_,_,rfl,rfl,y1,e1,_,rfl,?_⟩;cases hb:Kj v with
 |true=>
  refine tO ⟨v,rfl,v,.ty "bool",t2,_,_,rfl,rfl,y2,e2,_,rfl,?_⟩;have z:(!isB v)=Ff v:=by cases v<;>first|rfl|(cases hb)
  rw[z];exact q
 |false=>
  refine uJ ?_;have z:false=Ff v:=by cases v<;>first|rfl|(cases hb)
  rw[z];exact q
theorem Jn:DT ["thing"] ["thing"] (ai (top 16)):=⟨rfl,rfl,rfl,by decide +kernel,rfl,by decide +kernel,by decide +kernel⟩
theorem Th.HZ{H:Hp}{v:V}{b:Bool}(h:Th H v b):∃t,Ge K H v t/\((W.kitOne K t (.type "tuple")=some false/\b=false)\/(W.kitOne K t (.type "tuple")=some true/\∃a xs,v=.ref a/\H a=some (.tup xs)/\(∀x∈xs,Kn H x)/\b=(xs.length==4&&xs.all Ff))):=by
 cases h with
 |non=>exact⟨_,.non,.inl ⟨rfl,rfl⟩⟩
 |bl b=>exact⟨_,.bl b,.inl ⟨rfl,rfl⟩⟩
 |int i=>exact⟨_,.int i,.inl ⟨rfl,rfl⟩⟩
 |str x=>exact⟨_,.str x,.inl ⟨rfl,rfl⟩⟩
 |lst e=>exact⟨_,.lst e,.inl ⟨rfl,rfl⟩⟩
 |tup e k=>exact⟨_,.tup e,.inr ⟨rfl,_,_,rfl,e,k,rfl⟩⟩
theorem ak{n:Nat}(h:n<=1000000):n<=sizeLine:=Ap h (by rw[sizeLine_eq];decide)
theorem sX{dw d:DD}(vO:Def K mg "is_whole" (top 15) ["thing"] dw)(xS:DY P w K mg base CX0 1 dw.f dw.fd ["thing"] Fx)(D:Def K mg "is_table" (top 16) ["thing"] d)(vR:mg "tuple"=none)(vf:mg "len"=none)(yi:mg "all"=none)(ve:mg "isinstance"=none):DY P w K mg base CX0 2 d.f d.fd ["thing"] FN:=by
 refine D.fn.ok Jn (fun vs H Q E h=>?_) (fun cdv A outer s H vs Q E hr h=>?_)
 ·obtain⟨v,b,rfl,_⟩:=h;rfl
 obtain⟨v,b,rfl,ht,q⟩:=h;have hc:=hr.calm;refine⟨_,(ah (ay (dS (aF EC rfl ve DU (aa (pv 0) (aa (cD (v:=.ty "tuple") rfl vR Gv rfl) Ed))) (dS (bZ EM (aF Ea rfl vf Im (aa (pv 0) Ed)) ag (aC _)) (ff (aF (jv hc) rfl yi ID (aa (bB hc (ar (ts:=["number"]) (cap:=[]) (js:=[]) rfl rfl rfl rfl rfl rfl (by decide +kernel)) (pL (pv 0)) (fun _ _ _ _=>ao (i:=0) (show(["number"]:List Str).Nodup by decide +kernel) rfl (Or.inl rfl) (.inr rfl)) (fun _ _ _ _=>bq) (fun _ _ _ _=>(jb (xS.mono (by decide)) hr rfl vO.m vO.fn.kp vO.b .nil bW (aa (pv 0) Ed)))) Ed))))))),?_⟩
 try dsimp only [bD,Cx.nox,Cx.En]
 obtain⟨t1,y1,e1⟩:=Th.HZ (K:=K) ht;rcases e1 with ⟨e1,eb⟩|⟨e1,a,xs,ev,ea,hk,eb⟩
 ·refine⟨v,rfl,v,.ty "tuple",t1,_,_,rfl,rfl,y1,e1,_,rfl,uJ ?_⟩;rw[eb] at q;exact q H (DV.refl H)
 ·subst ev;refine⟨_,rfl,.ref a,.ty "tuple",t1,_,_,rfl,rfl,y1,e1,_,rfl,tO ?_⟩;refine⟨_,rfl,a,xs,rfl,.inr (SqT.of ea),rfl,_,rfl,pK (fun h1=>?_) (fun h1=>?_)⟩
  ·have l4:xs.length=4:=by
    have z:=Do h1;injection z with z
    lia
   refine⟨_,rfl,a,rfl,⟨xs,SqT.of ea⟩,?_⟩;refine ui (K:=K) (xs:=xs) (fun i ys H'=>H'=H/\ys=((xs.take i).map Ff).map V.bl) ⟨rfl,by simp⟩ (fun i ys H' hi z=>?_) (ak (by lia)) (fun i ys H' hi z=>by rw[z.1];exact SqT.of ea) (fun i x ys H' hx z=>?_) (fun ys H' z p hp=>?_)
   ·rw[z.2];simp;lia
   ·obtain⟨rfl,rfl⟩:=z;have hi:i<xs.length:=(Ad.mp hx).1;refine⟨x,rfl,x,rfl,hk x (Am hx),Nx.mk hi ⟨rfl,?_⟩⟩;rw[Az,hx,Au,Au];rfl
   ·obtain⟨rfl,rfl⟩:=z;refine⟨p,(xs.map Ff),rfl,?_,?_⟩
    ·rw[AL];exact SqL.of DR
    ·have z:((xs.map Ff).all id)=b:=by
      rw[eb,l4];simp[List.all_map]
     rw[z];exact q _ (af hp _)
  ·have z:b=false:=by
    rw[eb];cases hb:(xs.length==4) with
    |false=>rfl
    |true=>exact absurd (Dj (congrArg (fun n:Nat=>V.int (n:Int)) (by simpa using hb))) h1
   rw[z] at q;exact q H (DV.refl H)
def gK (K:W.Frag):Sp:=fun vs H Q _=>∃u v s t n m,vs=[u,v]/\T4 K H u s/\T4 K H v t/\Bd n s/\Bd m t/\n<=1048576/\m<=1048576/\∀r H',DV H H'->T4o H' r (s.mul t)->Q r H'
def lX (K:W.Frag):Sp:=fun vs H Q _=>∃u t n,vs=[u]/\T4 K H u t/\Bd n t/\n<=1048576/\Q (.int t.worth) H
theorem GH:DT ["table","a","b","c","d"] ["table"] (ai (top 19)):=⟨rfl,rfl,rfl,by decide +kernel,rfl,by decide +kernel,by decide +kernel⟩
theorem ot{d:DD}(D:Def K mg "worth" (top 19) ["table"] d):DY P w K mg base CX0 1 d.f d.fd ["table"] (lX K):=by
 refine D.fn.ok GH (fun vs H Q E h=>?_) (fun cdv A outer s H vs Q E hr h=>?_)
 ·obtain⟨u,t,n,rfl,_⟩:=h;rfl
 obtain⟨u,t,n,rfl,⟨p,rfl,hp⟩,ht,hn,q⟩:=h;have hc:=hr.calm;have nd:=GH.nd;refine⟨_,(ae (fu (pv 0) (iw hc (aG (ao (i:=1) nd rfl (Or.inl rfl)) (aG (ao (i:=2) nd rfl (Or.inl rfl)) (aG (ao (i:=3) nd rfl (Or.inl rfl)) (aG (ao (i:=4) nd rfl (Or.inl rfl)) ED)))))) (ah (ay (au Em (au bI (pv 1) (pv 4)) (au bI (pv 2) (pv 3)))))),?_⟩
 try dsimp only [bD,Cx.nox,Cx.En]
 refine⟨_,rfl,p,_,rfl,hp,rfl,_,_,rfl,_,_,rfl,_,_,rfl,_,_,rfl,rfl,?_⟩;refine⟨_,rfl,_,rfl,_,_,rfl,rfl,ht.a.big ht.d hn hn,_,rfl,_,rfl,_,_,rfl,rfl,ht.b.big ht.c hn hn,_,_,rfl,rfl,?_⟩;exact q
theorem GD:DT ["one","other","found","row","column","top"] ["one","other"] (ai (top 43)):=⟨rfl,rfl,rfl,by decide +kernel,rfl,by decide +kernel,by decide +kernel⟩
theorem nO{d:DD}(D:Def K mg "_law_times" (top 43) ["one","other"] d)(vg:mg "range"=none)(vR:mg "tuple"=none):DY P w K mg base CX0 1 d.f d.fd ["one","other"] (gK K):=by
 refine D.fn.ok GD (fun vs H Q E h=>?_) (fun cdv A outer s H vs Q E hr h=>?_)
 ·obtain⟨u,v,s,t,n,m,rfl,_⟩:=h;rfl
 obtain⟨u,v,s,t,n,m,rfl,⟨p,rfl,hp⟩,⟨r,rfl,hr'⟩,hs,ht,hn,hm,q⟩:=h;have hc:=hr.calm;have nd:=GD.nd;refine⟨_,(ae (aq (i:=2) nd rfl (Or.inl rfl) (bb Ed)) (ae (bR PassesOwn.never hc (pL (aP (aa ag (aa ag Ed)))) (ao (i:=3) nd rfl (Or.inl rfl)) (ah (bR PassesOwn.never hc (bU rfl vg (aa ag Ed)) (ao (i:=4) nd rfl (Or.inl rfl)) (ae (aq (i:=5) nd rfl (Or.inl rfl) (au bI (aO Ex (pv 0) (pv 3) (fun _ _=>rfl)) (aO Ex (pv 1) (pv 4) (fun _ _=>rfl)))) (ah (bH (mV Dt Dw Dv FX (pv 2) (aa (au Eb (pv 5) (au bI (aO Ex (pv 0) (au Eb (pv 3) ag) (fun _ _=>rfl)) (aO Ex (pv 1) (au Eb ag (pv 4)) (fun _ _=>rfl)))) Ed)))))))) (ah (ay (gZ FE rfl vR Gv (aa (pv 2) Ed)))))),?_⟩
 try dsimp only [bD,Cx.nox,Cx.En]
 refine⟨ak (by show 0<=1000000;decide),fun f hf=>?_⟩;refine⟨ak (by show 2<=1000000;decide),fun w hw=>⟨w,rfl,⟨_,SqT.of DR⟩,?_⟩⟩;have S0:DV H (upd H f (.lst [])):=af hf _;have S1:DV H (upd (upd H f (.lst [])) w (.tup [.int 0,.int 2])):=S0.trans (af hw _);have nfw:f≠w:=az (H:=upd H f (.lst [])) DR hw;have keep:∀{H':Hp}(l:List V),DV H H'->H' w=some (.tup [.int 0,.int 2])->DV H (upd H' f (.lst l))/\upd H' f (.lst l) f=some (.lst l)/\upd H' f (.lst l) w=some (.tup [.int 0,.int 2]):=fun {H'} l e1 e2=>
  ⟨fun b o e=>by rw[av (az e hf)];exact e1 b o e,DR,by rw[av (DC nfw)];exact e2⟩
 refine qa (K:=K) (xs:=[.int 0,.int 2]) (fun i σ H'=>∃o1 o2 o3,σ=[some (.ref p),some (.ref r),some (.ref f),o1,o2,o3]/\DV H H'/\H' f=some (.lst ((s.mul t).vs.take (2*i)))/\H' w=some (.tup [.int 0,.int 2]))
  ⟨none,none,none,rfl,S1,by rw[av nfw];exact DR,DR⟩ (fun i σ H' hi z=>by obtain⟨_,_,_,_,_,_,e⟩:=z;exact SqT.of e) (fun i x σ H' hx z=>?_) (fun σ H' z=>?_)
 ·obtain⟨o1,o2,o3,rfl,e1,e2,e3⟩:=z;have hi:i<2:=(Ad.mp hx).1;refine⟨2,rfl,by decide,by decide,?_⟩;refine dv (lo:=0) (n:=2) (fun j σ H'=>∃o2 o3,σ=[some (.ref p),some (.ref r),some (.ref f),some x,o2,o3]/\DV H H'/\H' f=some (.lst ((s.mul t).vs.take (2*i+j)))/\H' w=some (.tup [.int 0,.int 2]))
   ⟨o2,o3,rfl,e1,e2,e3⟩ (fun j σ H' hj z=>?_) (fun σ H' z=>?_)
  ·obtain⟨o2,o3,rfl,e1,e2,e3⟩:=z;have hp':=e1.Kg hp;have hr'':=e1.Kg hr';have fct:∃(ri α β γ δ:Int),x=.int ri/\atI s.vs ri=some (.int α)/\atI s.vs (ri+1)=some (.int β)/\atI t.vs (0+(j:Int))=some (.int γ)/\atI t.vs (2+(0+(j:Int)))=some (.int δ)/\tD α γ/\tD β δ /\
     (s.mul t).vs.take (2*i+(j+1))=(s.mul t).vs.take (2*i+j)++[.int (α * γ+β * δ)]:=by
    have two:∀k:Nat,k<2->k=0\/k=1:=fun k hk=>by lia
    rcases two i hi with rfl|rfl<;>rcases two j hj with rfl|rfl<;>(cases hx)
    ·exact⟨0,s.a,s.b,t.a,t.c,rfl,rfl,rfl,rfl,rfl,hs.a.big ht.a hn hm,hs.b.big ht.c hn hm,rfl⟩
    ·exact⟨0,s.a,s.b,t.b,t.d,rfl,rfl,rfl,rfl,rfl,hs.a.big ht.b hn hm,hs.b.big ht.d hn hm,rfl⟩
    ·exact⟨2,s.c,s.d,t.a,t.c,rfl,rfl,rfl,rfl,rfl,hs.c.big ht.a hn hm,hs.d.big ht.c hn hm,rfl⟩
    ·exact⟨2,s.c,s.d,t.b,t.d,rfl,rfl,rfl,rfl,rfl,hs.c.big ht.b hn hm,hs.d.big ht.d hn hm,rfl⟩
   obtain⟨ri,α,β,γ,δ,rfl,A0,A1,B0,B1,c1,c2,tk⟩:=fct;refine⟨_,rfl,_,rfl,p,_,ri,_,rfl,rfl,hp',A0,_,rfl,_,rfl,r,_,_,_,rfl,rfl,hr'',B0,_,_,rfl,rfl,c1,?_⟩;refine⟨_,rfl,.inl ⟨rfl,_,SqL.of e2⟩,_,rfl,_,rfl,_,rfl,_,_,rfl,rfl,p,_,_,_,rfl,rfl,hp',A1,_,rfl,_,rfl,_,_,rfl,rfl,r,_,_,_,rfl,rfl,hr'',B1,_,_,rfl,rfl,c2,_,_,rfl,rfl,?_⟩;have ln:((s.mul t).vs.take (2*i+j)).length<=4:=by rw[Af];exact Nat.min_le_right _ _
   refine⟨f,_,_,rfl,rfl,e2,BW ln (Ak (show 4<1000000 by decide) (ak (zX _))),?_⟩;obtain⟨a1,a2,a3⟩:=keep ((s.mul t).vs.take (2*i+j)++[.int (α * γ+β * δ)]) e1 e3;exact⟨_,_,rfl,a1,by rw[tk];exact a2,a3⟩
  ·obtain⟨o2,o3,rfl,e1,e2,e3⟩:=z;exact⟨_,o2,o3,rfl,e1,e2,e3⟩
 ·obtain⟨o1,o2,o3,rfl,e1,e2,e3⟩:=z;refine⟨_,rfl,f,(s.mul t).vs,rfl,.inl ⟨SqL.of e2,fun l hl=>?_⟩⟩;exact q _ _ (e1.trans (af hl _)) ⟨l,rfl,DR⟩
def cx (ts:List Tb):Tb:=ts.foldl Tb.mul Tb.one
inductive TL(K:W.Frag)(H:Hp):List V->List Tb->Prop where
 |nil:TL K H [] []
 |cons {v:V}{t:Tb}{vs:List V}{ts:List Tb}:T4 K H v t->TL K H vs ts->TL K H (v::vs) (t::ts)
theorem TL.length{H:Hp}:∀{vs:List V}{ts:List Tb},TL K H vs ts->vs.length=ts.length
 |_,_,.nil=>rfl
 |_,_,.cons _ r=>by simp[TL.length r]
theorem TL.get{H:Hp}:∀{vs:List V}{ts:List Tb}{i:Nat}{v:V},TL K H vs ts->vs[i]?=some v->∃t,ts[i]?=some t/\T4 K H v t
 |_,_,_,_,.nil,e=>by simp at e
 |_,_,0,_,.cons h _,e=>by simp at e;subst e;exact⟨_,rfl,h⟩
 |_,_,i+1,v,.cons _ r,e=>by
  obtain⟨d,h1,h2⟩:=TL.get (i:=i) (v:=v) r (by simpa using e);exact⟨d,by simpa using h1,h2⟩
theorem dF(ts:List Tb)(t:Tb):cx (ts++[t])=(cx ts).mul t:=by unfold cx;rw[List.foldl_append];rfl
theorem fM{n:Nat}:∀{ts:List Tb},(∀t∈ts,Bd n t)->∀i,Bd ((n+1)*i+1) (cx (ts.take i)):=by
 intro ts h i;induction i with
 |zero=>exact(show Bd 1 Tb.one from⟨(by show(1:Int).natAbs<2^1;decide),(by show(0:Int).natAbs<2^1;decide),(by show(0:Int).natAbs<2^1;decide),(by show(1:Int).natAbs<2^1;decide)⟩)
 |succ i ih=>
  by_cases hi:i<ts.length
  ·rw[Az,Aa hi];show Bd _ (cx (ts.take i++[ts[i]]));rw[dF];have z:=ih.mul (h ts[i] (AI hi));have e:(n+1)*(i+1)+1=(n+1)*i+1+n+1:=by rw[Nat.mul_add];lia
   rw[e];exact z
  ·have e:ts.take (i+1)=ts.take i:=by rw[Av (by lia),Av (by lia)]
   rw[e];exact ih.mono (by rw[Nat.mul_add];lia)
theorem GA:DT ["tables","found","table"] ["tables"] (ai (top 44)):=⟨rfl,rfl,rfl,by decide +kernel,rfl,by decide +kernel,by decide +kernel⟩
def pU (K:W.Frag):Sp:=fun vs H Q _=>∃l xs ts n,vs=[.ref l]/\SqL K H l xs/\TL K H xs ts/\(∀t∈ts,Bd n t)/\(n+1)*ts.length+1<=1048576/\n<=1048576/\∀r H',DV H H'->T4o H' r (cx ts)->Q r H'
theorem pe{dp d:DD}(xC:Def K mg "_law_times" (top 43) ["one","other"] dp)(xR:DY P w K mg base CX0 1 dp.f dp.fd ["one","other"] (gK K))(D:Def K mg "_law_made" (top 44) ["tables"] d):DY P w K mg base CX0 2 d.f d.fd ["tables"] (pU K):=by
 refine D.fn.ok GA (fun vs H Q E h=>?_) (fun cdv A outer s H vs Q E hr h=>?_)
 ·obtain⟨l,xs,ts,n,rfl,_⟩:=h;rfl
 obtain⟨l,xs,ts,n,rfl,hl,ht,hb,hz,hn,q⟩:=h;have hc:=hr.calm;have nd:=GA.nd;refine⟨_,(@ae _ _ _ _ _ (@aq _ _ (1) _ _ _ _ nd rfl (Or.inl rfl) (@aP _ _ _ _ _ (@aa _ _ _ _ _ (@ag _ _ _ _) (@aa _ _ _ _ _ (@ag _ _ _ _) (@aa _ _ _ _ _ (@ag _ _ _ _) (@aE _ _ _ (@ag _ _ _ _) aM) aM) aM) aM)) (by rfl) (by walk_at "i")) (@ae _ _ _ _ _ (@bR _ _ _ _ _ _ _ _ PassesOwn.never hc (@aV _ _ _ _ (pv 0)) (@ao _ _ (2) _ nd rfl (Or.inl rfl) (by walk_at "i")) (@ah _ _ _ (@aq _ _ (1) _ _ _ _ nd rfl (Or.inl rfl) (@aR _ _ _ _ _ _ _ _ _ _ _ _ _ xC xR (by decide) hr rfl (@aa _ _ _ _ _ (pv 1) (@aE _ _ _ (pv 2) ax) ax) (by decide) (by rfl) (by rfl)) (by rfl) (by walk_at "i"))) (by intro _;rfl)) (@ah _ _ _ (@ay _ _ _ _ (pv 1))))),?_⟩
 try dsimp only [bD,Cx.nox,Cx.En]
 refine⟨ak (by show 4<=1000000;decide),fun f hf=>?_⟩;refine⟨_,rfl,l,rfl,⟨xs,(af hf _).seq hl⟩,?_⟩;refine dz (K:=K) (xs:=xs) (fun i σ H'=>∃v o,σ=[some (.ref l),some v,o]/\DV H H'/\T4o H' v (cx (ts.take i))) ⟨.ref f,none,rfl,af hf _,⟨f,rfl,DR⟩⟩ (fun i σ H' hi z=>by obtain⟨_,_,_,e,_⟩:=z;exact e.seq hl) (fun i x σ H' hx z=>?_) (fun σ H' z=>?_)
 ·obtain⟨v,o,rfl,e1,e2⟩:=z;obtain⟨t,et,h4⟩:=ht.get hx;have hi:i<ts.length:=(Ad.mp et).1;have bl:(n+1)*i+1<=1048576:=by
   have:(n+1)*i<=(n+1)*ts.length:=Nat.mul_le_mul_left _ (by lia)
   lia
  refine⟨_,rfl,_,rfl,v,x,cx (ts.take i),t,(n+1)*i+1,n,rfl,e2.t4,h4.mono e1,fM hb i,hb t (Am et),bl,hn,fun r H2 S2 h2=>?_⟩;refine⟨r,_,rfl,e1.trans S2,?_⟩;rw[Az,et];show T4o H2 r (cx (ts.take i++[t]));rw[dF];exact h2
 ·obtain⟨v,o,rfl,e1,e2⟩:=z;refine⟨v,rfl,q v H' e1 ?_⟩;rw[ht.length,AL] at e2;exact e2
def nT (c:Nat):Prop:=c=108\/c=114\/c=117\/c=118\/c=85\/c=86
def bX (c:Nat):Tb:=if c=108 then ⟨1,0,1,1⟩ else if c=114 then ⟨1,1,0,1⟩ else if c=117 then ⟨1,2,0,1⟩ else if c=118 then ⟨1,0,2,1⟩ else if c=85 then ⟨1,-2,0,1⟩ else ⟨1,0,-2,1⟩
theorem rf{c:Nat}(h:nT c):Bd 2 (bX c):=by
 rcases h with rfl|rfl|rfl|rfl|rfl|rfl<;>exact⟨by show _<4;decide,by show _<4;decide,by show _<4;decide,by show _<4;decide⟩
def lM (K:W.Frag):Sp:=fun vs H Q _=>∃z:Str,vs=[.str z]/\z.cps.size<=1000/\(∀c∈z.cps.toList,nT c)/\∀r H',DV H H'->T4o H' r (cx (z.cps.toList.map bX))->Q r H'
theorem IG:DT ["word","letters"] ["word"] (ai (top 45)):=⟨rfl,rfl,rfl,by decide +kernel,rfl,by decide +kernel,by decide +kernel⟩
theorem oa{z:Str}(h:∀c∈z.cps.toList,nT c):z.cps.all (·<128)=true:=by
 rw[<- Cs,Be];intro c hc;rcases h c hc with rfl|rfl|rfl|rfl|rfl|rfl<;>rfl
def adr (t1 t2 t3 t4 t5 t6:Addr)(c:Nat):Addr:=if c=108 then t1 else if c=114 then t2 else if c=117 then t3 else if c=118 then t4 else if c=85 then t5 else t6
def lU (t1 t2 t3 t4 t5 t6:Addr):List (Key×V):=cu (cu [] [(.inr "l",.ref t1),(.inr "r",.ref t2),(.inr "u",.ref t3),(.inr "v",.ref t4)]) (cu [] [(.inr "U",.ref t5),(.inr "V",.ref t6)])
theorem oF(t1 t2 t3 t4 t5 t6:Addr)(c:Nat)(h:nT c):ir (lU t1 t2 t3 t4 t5 t6) (.inr ⟨#[c]⟩)=some (.ref (adr t1 t2 t3 t4 t5 t6 c)):=by
 rcases h with rfl|rfl|rfl|rfl|rfl|rfl<;>kernel_rfl
theorem pF{H:Hp}{f:Nat->V}:∀{cs:List Nat},(∀c∈cs,nT c)->(∀c,nT c->T4o H (f c) (bX c))->TL K H (cs.map f) (cs.map bX)
 |[],_,_=>.nil
 |c::r,h,g=>.cons (g c (h c Aq)).t4 (pF (fun c hc=>h c (AE _ hc)) g)
theorem si{dm d:DD}(yd:Def K mg "_law_made" (top 44) ["tables"] dm)(yn:DY P w K mg base CX0 2 dm.f dm.fd ["tables"] (pU K))(D:Def K mg "_law_of_letters" (top 45) ["word"] d):DY P w K mg base CX0 3 d.f d.fd ["word"] (lM K):=by
 refine D.fn.ok IG (fun vs H Q E h=>?_) (fun cdv A outer s H vs Q E hr h=>?_)
 ·obtain⟨z,rfl,_⟩:=h;rfl
 obtain⟨z,rfl,hz,hl,q⟩:=h;have hc:=hr.calm;have nd:=IG.nd;refine⟨_,(@ae _ _ _ _ _ (@aq _ _ (1) _ _ _ _ nd rfl (Or.inr rfl) (@kF _ _ _ _ _ (@cI _ _ _ _ _ _ _ _ _ (@aL _ _ _ _) (@aP _ _ _ _ _ (@aa _ _ _ _ _ (@ag _ _ _ _) (@aa _ _ _ _ _ (@ag _ _ _ _) (@aa _ _ _ _ _ (@ag _ _ _ _) (@aE _ _ _ (@ag _ _ _ _) aM) aM) aM) aM)) (@cI _ _ _ _ _ _ _ _ _ (@aL _ _ _ _) (@aP _ _ _ _ _ (@aa _ _ _ _ _ (@ag _ _ _ _) (@aa _ _ _ _ _ (@ag _ _ _ _) (@aa _ _ _ _ _ (@ag _ _ _ _) (@aE _ _ _ (@ag _ _ _ _) aM) aM) aM) aM)) (@cI _ _ _ _ _ _ _ _ _ (@aL _ _ _ _) (@aP _ _ _ _ _ (@aa _ _ _ _ _ (@ag _ _ _ _) (@aa _ _ _ _ _ (@ag _ _ _ _) (@aa _ _ _ _ _ (@ag _ _ _ _) (@aE _ _ _ (@ag _ _ _ _) aM) aM) aM) aM)) (@cI _ _ _ _ _ _ _ _ _ (@aL _ _ _ _) (@aP _ _ _ _ _ (@aa _ _ _ _ _ (@ag _ _ _ _) (@aa _ _ _ _ _ (@ag _ _ _ _) (@aa _ _ _ _ _ (@ag _ _ _ _) (@aE _ _ _ (@ag _ _ _ _) aM) aM) aM) aM)) (@kz _ _))))) rfl rfl (by simp) (by decide)) (by rfl) (by walk_at "i")) (@ae _ _ _ _ _ (@bH _ _ _ _ (@mV _ _ _ _ _ _ _ _ _ _ _ _ PySem.F.plainAttrs_dict PySem.F.slot_dict_update PySem.F.type_dict_update Hx (pv 1) (@aE _ _ _ (@kF _ _ _ _ _ (@cI _ _ _ _ _ _ _ _ _ (@aL _ _ _ _) (@aP _ _ _ _ _ (@aa _ _ _ _ _ (@ag _ _ _ _) (@aa _ _ _ _ _ (@dj _ _ _ _ _ _ Ey (@ag _ _ _ _)) (@aa _ _ _ _ _ (@ag _ _ _ _) (@aE _ _ _ (@ag _ _ _ _) aM) aM) (by rfl)) aM)) (@cI _ _ _ _ _ _ _ _ _ (@aL _ _ _ _) (@aP _ _ _ _ _ (@aa _ _ _ _ _ (@ag _ _ _ _) (@aa _ _ _ _ _ (@ag _ _ _ _) (@aa _ _ _ _ _ (@dj _ _ _ _ _ _ Ey (@ag _ _ _ _)) (@aE _ _ _ (@ag _ _ _ _) aM) (by rfl)) aM) aM)) (@kz _ _))) rfl rfl (by simp) (by decide)) (by rfl)) (by rfl) (by rfl) (by rfl) (by rfl) (by rfl)) (by rfl)) (@ah _ _ _ (@ay _ _ _ _ (@bT _ _ _ _ _ _ _ _ _ _ _ _ yd yn (by decide) hr rfl (@bB _ _ _ _ _ _ _ _ _ _ _ _ _ _ hc (ar (ts:=["letter"]) (cap:=["letters"]) (js:=[1]) rfl rfl rfl rfl rfl rfl (by decide +kernel)) (@ki _ _ _ _ (pv 0)) (fun _ _ _ _=>@ao _ _ (0) _ (show(["letter","letters"]:List Str).Nodup by decide +kernel) rfl (Or.inl rfl) (.inr rfl)) (fun _ _ _ _=>@bq _) (fun _ _ _ _=>(@qJ _ _ _ _ _ _ (uf hr) (pv 1) (pv 0) (fun _ _=>rfl))) (by intro _;rfl)) (by rfl) (by decide)))))),?_⟩
 try dsimp only [bD,Cx.nox,Cx.En]
 have l4:(4:Nat)<=sizeLine:=ak (by decide);refine fun d hd=>?_;refine⟨l4,fun t1 h1=>⟨l4,fun t2 h2=>⟨l4,fun t3 h3=>⟨l4,fun t4 h4=>?_⟩⟩⟩⟩;have F4:=((((Hs.start H).new hd (.dK [])).new h1 (.tup (Tb.mk 1 0 1 1).vs)).new h2 (.tup (Tb.mk 1 1 0 1).vs)).new h3 (.tup (Tb.mk 1 2 0 1).vs) |>.new h4 (.tup (Tb.mk 1 0 2 1).vs);refine⟨F4.get 0,[(.inr "l",.ref t1),(.inr "r",.ref t2),(.inr "u",.ref t3),(.inr "v",.ref t4)],rfl,Nat.le_of_ble_eq_true rfl,?_⟩;have F5:=F4.put 0 (.dK (cu [] [(.inr "l",.ref t1),(.inr "r",.ref t2),(.inr "u",.ref t3),(.inr "v",.ref t4)]));refine⟨_,rfl,.inr (.inr (.inl ⟨rfl,.inl ⟨_,DR⟩⟩)),fun e he=>?_⟩;refine⟨_,rfl,l4,fun t5 h5=>⟨_,rfl,l4,fun t6 h6=>?_⟩⟩;have F8:=((F5.new he (.dK [])).new h5 (.tup (Tb.mk 1 (-2) 0 1).vs)).new h6 (.tup (Tb.mk 1 0 (-2) 1).vs);refine⟨F8.get 5,[(.inr "U",.ref t5),(.inr "V",.ref t6)],rfl,Nat.le_of_ble_eq_true rfl,?_⟩;have F9:=F8.put 5 (.dK (cu [] [(.inr "U",.ref t5),(.inr "V",.ref t6)]));refine⟨d,e,_,_,rfl,rfl,F9.ne 0 5 (by decide),F9.get 0,F9.get 5,ak (by show 6<=1000000;decide),?_⟩;have FA:=F9.put 0 (.dK (lU t1 t2 t3 t4 t5 t6));refine⟨_,rfl,z,rfl,oa hl,?_⟩;have okc:∀c,nT c->ir (lU t1 t2 t3 t4 t5 t6) (.inr ⟨#[c]⟩)=some (.ref (adr t1 t2 t3 t4 t5 t6 c)):=oF t1 t2 t3 t4 t5 t6;have okt:∀c,nT c->T4o _ (.ref (adr t1 t2 t3 t4 t5 t6 c)) (bX c):=fun c h=>by
  rcases h with rfl|rfl|rfl|rfl|rfl|rfl
  ·exact⟨_,rfl,FA.get 1⟩
  ·exact⟨_,rfl,FA.get 2⟩
  ·exact⟨_,rfl,FA.get 3⟩
  ·exact⟨_,rfl,FA.get 4⟩
  ·exact⟨_,rfl,FA.get 6⟩
  ·exact⟨_,rfl,FA.get 7⟩
 have gd:=FA.get 0;have all:=FA.all;refine qk (z:=z) (fun i ys H'=>H'=_/\ys=(z.cps.toList.take i).map fun c=>V.ref (adr t1 t2 t3 t4 t5 t6 c)) ⟨rfl,rfl⟩ (fun i ys H' hi y=>by rw[y.2,zY,Af];lia) (ak (by lia)) (fun i c ys H' hc y=>?_) (fun ys H' y p hp=>?_)
 ·obtain⟨rfl,rfl⟩:=y;have hi:i<z.cps.size:=(By.mp hc).1;have hc':z.cps.toList[i]?=some c:=by rw[Ao];exact hc
  have lc:=hl c (Am hc');refine⟨_,rfl,_,rfl,d,.ref (adr t1 t2 t3 t4 t5 t6 c),rfl,?_,Nx.mk hi ⟨rfl,?_⟩⟩
  ·have:=IM.k (k:=Sum.inr ⟨#[c]⟩) gd;rw[okc c lc] at this;exact this
  ·rw[Az,hc',Au];rfl
 ·obtain⟨rfl,rfl⟩:=y;have e1:z.cps.toList.take z.cps.size=z.cps.toList:=Av (by rw[Ab];exact zX _);rw[e1];refine⟨p,_,z.cps.toList.map bX,2,rfl,SqL.of DR,pF hl fun c hc=>(okt c hc).mono (af hp _),fun t ht=>?_,?_,by decide,fun r H' S h4=>q r H' (all.trans ((af hp _).trans S)) h4⟩
  ·obtain⟨c,hc,rfl⟩:=Ax.mp ht;exact rf (hl c hc)
  ·rw[zY,Ab];lia
def mE (K:W.Frag):Sp:=fun vs H Q _=>∃(a:Addr)(ns:List Int)(k:Int),vs=[.ref a,.int k]/\SqL K H a (ns.map V.int)/\0<=k/\k<=100/\∀l H',DV H H'->H l=none->Ds H' l->Q (.ref l) H'
theorem GJ:DT ["script","k","primes","cell","seed"] ["script","k"] (ai (top 54)):=⟨rfl,rfl,rfl,by decide +kernel,rfl,by decide +kernel,by decide +kernel⟩
def FZ:List Int:=[2147483647,2147483629,2147483587,2147483579,2147483563,2147483549,2147483543,2147483497]
def cV (c k:Int):Int:=(c % 2147483423+3*k+1)*(48271+2*k*k) % 2147483423
def oC (c k:Int):Int:=cV c k*cV c k*cV c k % 2147483399+k+1
theorem pA{d:DD}(D:Def K mg "_law_draws" (top 54) ["script","k"] d)(vf:mg "len"=none)(xF:mg "int"=none):DY P w K mg base CX0 1 d.f d.fd ["script","k"] (mE K):=by
 refine D.fn.ok GJ (fun vs H Q E h=>?_) (fun cdv A outer s H vs Q E hr h=>?_)
 ·obtain⟨a,ns,k,rfl,_⟩:=h;rfl
 obtain⟨a,ns,k,rfl,ha,k0,k1,q⟩:=h;have hc:=hr.calm;have nd:=GJ.nd;obtain⟨tr,hR,qR⟩:∃t,PSs (bD CX0 P w K mg base ["script","k","primes","cell","seed"] "_law_draws" (ai (top 54)) d.f cdv A outer s H E).nox ((aN (top 54)).drop 3) t /\
   ∀(c:Int)(p:Addr),H p=none->t {nx:=fun _ H'=>Q .non H',rt:=Q} [some (.ref a),some (.int k),some (.ref p),some (.int c),none] (upd H p (.tup (FZ.map V.int))):=by
  refine⟨_,(@ae _ _ _ _ _ (@aq _ _ (4) _ _ _ _ nd rfl (Or.inl rfl) (@au _ _ _ _ _ _ _ _ EA (@au _ _ _ _ _ _ _ _ EI (@au _ _ _ _ _ _ _ _ Eb (@au _ _ _ _ _ _ _ _ Eb (@au _ _ _ _ _ _ _ _ EA (pv 3) (@ag _ _ _ _)) (@au _ _ _ _ _ _ _ _ EI (@ag _ _ _ _) (pv 1))) (@ag _ _ _ _)) (@au _ _ _ _ _ _ _ _ Eb (@ag _ _ _ _) (@au _ _ _ _ _ _ _ _ EI (@au _ _ _ _ _ _ _ _ EI (@ag _ _ _ _) (pv 1)) (pv 1)))) (@ag _ _ _ _)) (by rfl) (by walk_at "i")) (@ae _ _ _ _ _ (@aq _ _ (4) _ _ _ _ nd rfl (Or.inl rfl) (@au _ _ _ _ _ _ _ _ Eb (@au _ _ _ _ _ _ _ _ Eb (@au _ _ _ _ _ _ _ _ EA (@au _ _ _ _ _ _ _ _ EI (@au _ _ _ _ _ _ _ _ EI (pv 4) (pv 4)) (pv 4)) (@ag _ _ _ _)) (pv 1)) (@ag _ _ _ _)) (by rfl) (by walk_at "i")) (@ah _ _ _ (@ay _ _ _ _ (@bb _ _ _ _ (@aa _ _ _ _ _ (@au _ _ _ _ _ _ _ _ EI (pv 3) (@gZ _ _ _ _ _ _ _ _ _ HI rfl xF Hr (@aE _ _ _ (@bZ _ _ _ _ _ _ _ _ HV (pv 3) (@au _ _ _ _ _ _ _ _ Ft (@ag _ _ _ _) (@ag _ _ _ _)) (aC _)) (by rfl)) (by decide) (by decide) (by rfl) (by rfl))) (@aa _ _ _ _ _ (pv 4) (@aE _ _ _ (@aO _ _ _ _ _ _ _ Ex (pv 2) (@au _ _ _ _ _ _ _ _ EA (pv 1) (@ag _ _ _ _)) (fun _ _=>rfl)) (by rfl)) ax) (by rfl))))))),fun c p hp=>?_⟩;have c0:=Bs c (show(2147483423:Int)≠0 by decide);have c1:=Bt c (show(0:Int)<2147483423 by decide);refine⟨_,rfl,_,_,rfl,rfl,(show(0:Int)<2147483423 by decide),_,rfl,_,_,rfl,rfl,.inl ⟨by decide,by decide⟩,_,_,rfl,rfl,_,_,rfl,rfl,_,rfl,_,_,rfl,rfl,.inl ⟨by decide,by decide⟩,_,rfl,_,_,rfl,rfl,.inl ⟨by lia,by lia⟩,_,_,rfl,rfl,_,_,rfl,rfl,.inl ⟨by lia,by lia⟩,_,_,rfl,rfl,(show(0:Int)<2147483423 by decide),?_⟩;have z0:0<=cV c k:=Bs _ (by decide);have z1:cV c k<2147483423:=Bt _ (by decide);have zz0:0<=cV c k*cV c k:=Int.mul_nonneg z0 z0;have zz1:cV c k*cV c k<2^64:=Int.lt_of_le_of_lt (Int.mul_le_mul (Int.le_of_lt z1) (Int.le_of_lt z1) z0 (by decide)) (by decide);refine⟨_,rfl,_,rfl,_,_,rfl,rfl,.inl ⟨?_,?_⟩,_,rfl,_,_,rfl,rfl,.inl ⟨?_,?_⟩,_,_,rfl,rfl,(show(0:Int)<2147483399 by decide),_,rfl,_,_,rfl,rfl,_,_,rfl,rfl,?_⟩
  ·exact Int.lt_of_lt_of_le (by decide) z0
  ·exact Int.lt_trans z1 (by decide)
  ·exact Int.lt_of_lt_of_le (by decide) zz0
  ·exact zz1
  have y0:1<=oC c k/\oC c k<=2147483648:=by
   have:=Bs (cV c k*cV c k*cV c k) (show(2147483399:Int)≠0 by decide);have:=Bt (cV c k*cV c k*cV c k) (show(0:Int)<2147483399 by decide);unfold oC
   lia
  have g8:0<=k % 8/\k % 8<8:=⟨Bs _ (by decide),Bt _ (by decide)⟩
  have pr:∃r:Int,atI (FZ.map V.int) (k % 8)=some (.int r)/\1000000000<=r/\r<=2147483647:=by
   generalize k % 8=j at g8;have:j=0\/j=1\/j=2\/j=3\/j=4\/j=5\/j=6\/j=7:=by lia
   rcases this with rfl|rfl|rfl|rfl|rfl|rfl|rfl|rfl<;>exact⟨_,rfl,by decide,by decide⟩
  obtain⟨r,er,r0,r1⟩:=pr;refine⟨_,rfl,_,rfl,_,_,rfl,rfl,⟨by decide,by decide,by decide⟩,_,_,rfl,rfl,.inr ⟨_,rfl,_,_,rfl,rfl,.inr ⟨?_,?_⟩,_,rfl,_,rfl,_,rfl,_,_,rfl,rfl,(show(0:Int)<8 by decide),p,_,_,_,rfl,rfl,SqT.of DR,er,ak (by show 3<=1000000;decide),fun l hl=>?_⟩⟩
  ·split<;>decide
  ·split<;>decide
  have S1:=af hp (.tup (FZ.map V.int));exact q l _ (S1.trans (af hl _)) (S1.free hl) ⟨_,oC c k,r,DR,y0.1,y0.2,r0,r1⟩
 refine⟨_,(@ae _ _ _ _ _ (@aq _ _ (2) _ _ _ _ nd rfl (Or.inl rfl) (@aP _ _ _ _ _ (@aa _ _ _ _ _ (@ag _ _ _ _) (@aa _ _ _ _ _ (@ag _ _ _ _) (@aa _ _ _ _ _ (@ag _ _ _ _) (@aa _ _ _ _ _ (@ag _ _ _ _) (@aa _ _ _ _ _ (@ag _ _ _ _) (@aa _ _ _ _ _ (@ag _ _ _ _) (@aa _ _ _ _ _ (@ag _ _ _ _) (@aE _ _ _ (@ag _ _ _ _) aM) aM) aM) aM) aM) aM) aM) aM)) (by rfl) (by walk_at "i")) (@ae _ _ _ _ _ (@aq _ _ (3) _ _ _ _ nd rfl (Or.inl rfl) (@au _ _ _ _ _ _ _ _ Eb (@au _ _ _ _ _ _ _ _ EI (@ag _ _ _ _) (pv 1)) (@ag _ _ _ _)) (by rfl) (by walk_at "i")) (@ae _ _ _ _ _ (@bp _ _ _ _ _ _ _ _ (@aB _ _ _ _ _ _ _ _ IL (pv 1) (@aI _ _ _ _ _ _ Ea rfl vf (pv 0) ax) (aC _)) (@ah _ _ _ (@aq _ _ (3) _ _ _ _ nd rfl (Or.inl rfl) (@au _ _ _ _ _ _ _ _ EA (@aO _ _ _ _ _ _ _ DW (pv 0) (pv 1) (fun _ _=>rfl)) (@au _ _ _ _ _ _ _ _ bI (@au _ _ _ _ _ _ _ _ Ft (@ag _ _ _ _) (@ag _ _ _ _)) (@au _ _ _ _ _ _ _ _ Ft (@ag _ _ _ _) (@ag _ _ _ _)))) (by rfl) (by walk_at "i"))) (@ah _ _ _ (@bp _ _ _ _ _ _ _ _ (@aB _ _ _ _ _ _ _ _ GP (@aI _ _ _ _ _ _ Ea rfl vf (pv 0) ax) (@ag _ _ _ _) (aC _)) (@ah _ _ _ (@aq _ _ (3) _ _ _ _ nd rfl (Or.inl rfl) (@au _ _ _ _ _ _ _ _ Eb (@au _ _ _ _ _ _ _ _ EA (@aO _ _ _ _ _ _ _ DW (pv 0) (@au _ _ _ _ _ _ _ _ EA (pv 1) (@aI _ _ _ _ _ _ Ea rfl vf (pv 0) ax)) (fun _ _=>rfl)) (@au _ _ _ _ _ _ _ _ Ft (@ag _ _ _ _) (@ag _ _ _ _))) (@au _ _ _ _ _ _ _ _ EI (@ag _ _ _ _) (pv 1))) (by rfl) (by walk_at "i"))) (@DX _)))) hR))),?_⟩
 try dsimp only [bD,Cx.nox,Cx.En]
 refine⟨ak (by show 8<=1000000;decide),fun p hp=>?_⟩;have S1:=af hp (.tup (FZ.map V.int));have ha1:SqL K (upd H p (.tup (FZ.map V.int))) a (ns.map V.int):=S1.seq ha;have hl:(ns.map V.int).length=ns.length:=zY _;refine⟨_,rfl,_,_,rfl,rfl,.inl ⟨by decide,by decide⟩,_,_,rfl,rfl,?_⟩;refine⟨_,rfl,_,rfl,a,_,rfl,.inl ha1,_,_,rfl,rfl,_,rfl,pK (fun h1=>?_) (fun h1=>?_)⟩
 ·have h1':k<(((ns.map V.int).length:Nat):Int):=Do h1;rw[hl] at h1';obtain⟨v,ev⟩:∃v:Int,atI (ns.map V.int) k=some (.int v):=by
   have hk:k.toNat<ns.length:=by lia
   have ek:k=((k.toNat:Nat):Int):=by lia
   have e:=aQ (xs:=ns.map V.int) (j:=k.toNat) (v:=.int ns[k.toNat]) (by rw[Aj,Aa hk];rfl);rw[<- ek] at e;exact⟨ns[k.toNat],e⟩
  refine⟨_,rfl,_,rfl,a,_,_,_,rfl,rfl,ha1,ev,_,_,rfl,rfl,⟨by decide,by decide,by decide⟩,_,_,rfl,rfl,⟨by decide,by decide,by decide⟩,_,_,rfl,rfl,Lt2.big (n:=200) (m:=200) (by show(10^60:Int).natAbs<2^200;decide) (by show(10^60:Int).natAbs<2^200;decide) (by decide) (by decide),_,_,rfl,rfl,(show(0:Int)<10^60*10^60 by decide),?_⟩;exact qR _ p hp
 ·refine⟨_,rfl,a,_,rfl,.inl ha1,_,_,rfl,rfl,_,rfl,pK (fun h2=>?_) (fun h2=>?_)⟩
  ·have h2':(0:Int)<(((ns.map V.int).length:Nat):Int):=Do h2;rw[hl] at h2';have m0:=Bs k (show(ns.length:Int)≠0 by lia);have m1:=Bt k h2';obtain⟨v,ev⟩:∃v:Int,atI (ns.map V.int) (k % (((ns.map V.int).length:Nat):Int))=some (.int v):=by
    rw[hl];generalize k % (ns.length:Int)=j at m0 m1;have hk:j.toNat<ns.length:=by lia
    have ek:j=((j.toNat:Nat):Int):=by lia
    have e:=aQ (xs:=ns.map V.int) (j:=j.toNat) (v:=.int ns[j.toNat]) (by rw[Aj,Aa hk];rfl);rw[<- ek] at e;exact⟨ns[j.toNat],e⟩
   refine⟨_,rfl,_,rfl,_,rfl,a,_,rfl,.inl ha1,_,_,rfl,rfl,(show(0:Int)<(((ns.map V.int).length:Nat):Int) by rw[hl];exact h2'),a,_,_,_,rfl,rfl,ha1,ev,_,_,rfl,rfl,⟨by decide,by decide,by decide⟩,_,_,rfl,rfl,(show(0:Int)<10^15 by decide),_,rfl,_,_,rfl,rfl,.inl ⟨by decide,by decide⟩,_,_,rfl,rfl,?_⟩;exact qR _ p hp
  ·exact qR _ p hp
end
theorem Tb.ext'{s t:Tb}(h1:s.a=t.a)(h2:s.b=t.b)(h3:s.c=t.c)(h4:s.d=t.d):s=t:=by
 cases s;cases t;simp only at h1 h2 h3 h4;subst h1 h2 h3 h4;rfl
theorem jU(s t u:Tb):(s.mul t).mul u=s.mul (t.mul u):=by
 apply Tb.ext'<;>simp only[Tb.mul]<;>grind
theorem oO(t:Tb):Tb.one.mul t=t:=by
 apply Tb.ext'<;>simp only[Tb.mul,Tb.one]<;>grind
theorem om(t:Tb):t.mul Tb.one=t:=by
 apply Tb.ext'<;>simp only[Tb.mul,Tb.one]<;>grind
def wt:List Nat->Tb
 |[]=>Tb.one
 |c::r=>(bX c).mul (wt r)
theorem qz(ts:List Tb):∀s:Tb,ts.foldl Tb.mul s=s.mul (ts.foldr Tb.mul Tb.one):=by
 induction ts with
 |nil=>intro s;exact(om s).symm
 |cons t r ih=>intro s;rw[CD,ih,List.foldr_cons,jU]
theorem bJ(cs:List Nat):cx (cs.map bX)=wt cs:=by
 unfold cx;rw[qz,oO];induction cs with
 |nil=>rfl
 |cons c r ih=>rw[AH,List.foldr_cons,ih];rfl
def Eo (c:Nat):Prop:=c=108\/c=114
theorem Eo.lt{c:Nat}(h:Eo c):nT c:=by
 rcases h with rfl|rfl
 ·exact .inl rfl
 ·exact .inr (.inl rfl)
structure Plain(t:Tb):Prop where
 a:0<=t.a
 b:0<=t.b
 c:0<=t.c
 d:0<=t.d
 w:t.a*t.d-t.b*t.c=1
theorem hW(t:Tb):(bX 108).mul t=⟨t.a,t.b,t.a+t.c,t.b+t.d⟩:=by
 apply Tb.ext'<;>simp only[Tb.mul,bX,Di]<;>grind
theorem hV(t:Tb):(bX 114).mul t=⟨t.a+t.c,t.b+t.d,t.c,t.d⟩:=by
 apply Tb.ext'<;>simp[Tb.mul,bX]<;>grind
theorem Plain.l{t:Tb}(h:Plain t):Plain ((bX 108).mul t):=by
 rw[hW];exact⟨h.a,h.b,by have:=h.a;have:=h.c;show 0<=t.a+t.c;lia,by have:=h.b;have:=h.d;show 0<=t.b+t.d;lia,by have:=h.w;show t.a*(t.b+t.d)-t.b*(t.a+t.c)=1;grind⟩
theorem Plain.r{t:Tb}(h:Plain t):Plain ((bX 114).mul t):=by
 rw[hV];exact⟨by have:=h.a;have:=h.c;show 0<=t.a+t.c;lia,by have:=h.b;have:=h.d;show 0<=t.b+t.d;lia,h.c,h.d,by have:=h.w;show(t.a+t.c)*t.d-(t.b+t.d)*t.c=1;grind⟩
theorem Hi:Plain Tb.one:=⟨by decide,by decide,by decide,by decide,by decide⟩
theorem Eg:∀{cs:List Nat},(∀c∈cs,Eo c)->Plain (wt cs)
 |[],_=>Hi
 |c::r,h=>by
  have ih:=Eg (cs:=r) fun c hc=>h c (AE _ hc);rcases h c Aq with rfl|rfl
  ·exact ih.l
  ·exact ih.r
theorem Plain.top{t:Tb}(h:Plain t):1<=t.a+t.b:=by
 have:=h.a;have:=h.b;by_cases z:t.a=0/\t.b=0
 ·have:=h.w;rw[z.1,z.2] at this;lia
 ·lia
theorem Plain.low{t:Tb}(h:Plain t):1<=t.c+t.d:=by
 have:=h.c;have:=h.d;by_cases z:t.c=0/\t.d=0
 ·have:=h.w;rw[z.1,z.2] at this;lia
 ·lia
def Tb.sum(t:Tb):Int:=t.a+t.b+t.c+t.d
theorem Ie:∀{cs:List Nat},(∀c∈cs,Eo c)->(cs.length:Int)+2<=Tb.sum (wt cs)
 |[],_=>by show((0:Nat):Int)+2<=2;decide
 |c::r,h=>by
  have h':=fun c hc=>h c (AE _ hc);have ih:=Ie (cs:=r) h';have p:=Eg (cs:=r) h';have e1:=p.top;have e2:=p.low;unfold Tb.sum at ih ⊢;rw[AF];show((r.length+1:Nat):Int)+2<=((bX c).mul (wt r)).a+((bX c).mul (wt r)).b+((bX c).mul (wt r)).c+((bX c).mul (wt r)).d;rcases h c Aq with rfl|rfl
  ·rw[hW];show((r.length+1:Nat):Int)+2<=(wt r).a+(wt r).b+((wt r).a+(wt r).c)+((wt r).b+(wt r).d);lia
  ·rw[hV];show((r.length+1:Nat):Int)+2<=((wt r).a+(wt r).c)+((wt r).b+(wt r).d)+(wt r).c+(wt r).d;lia
theorem mJ{cs:List Nat}(h:∀c∈cs,Eo c)(e:wt cs=Tb.one):cs=[]:=by
 have:=Ie h;rw[e] at this;have z:Tb.sum Tb.one=2:=rfl;rw[z] at this;exact Bp.mp (by lia)
theorem pS{x y u v:Int}(hx:0<=x)(hv:0<=v)(h1:x<=u)(h2:y<=v)(hu:0<=u):x*y<=u*v:=
 Int.le_trans (CZ h2 hx) (Da h1 hv)
theorem Plain.rows{t:Tb}(h:Plain t)(n:t≠Tb.one):(t.a<=t.c/\t.b<=t.d)\/(t.c<=t.a/\t.d<=t.b):=by
 obtain⟨a,b,c,d⟩:=t;obtain⟨ha,hb,hc,hd,hw⟩:=h;simp only at *;by_cases h1:a<=c
 ·by_cases h2:b<=d
  ·exact .inl ⟨h1,h2⟩
  ·by_cases h3:c<=a
   ·exact .inr ⟨h3,by lia⟩
   ·
    have:a*d<=c*b:=pS ha hb h1 (by lia) hc;have e:c*b=b*c:=Int.mul_comm _ _
    lia
 ·by_cases h2:d<=b
  ·exact .inr ⟨by lia,h2⟩
  ·
   have:(c+1)*(b+1)<=a*d:=pS (by lia) hd (by lia) (by lia) (by lia);have e:(c+1)*(b+1)=b*c+b+c+1:=by grind
   have hb0:b=0:=by lia
   have hc0:c=0:=by lia
   subst hb0 hc0;have e3:a*d=1:=by lia
   have a1:a=1:=by
    have z:d<=a*d\/a<=0:=by
     by_cases z:a<=0
     ·exact .inr z
     ·left
      have:=Da (show(1:Int)<=a by lia) hd
      lia
    have z2:a<=a*d\/d<=0:=by
     by_cases z:d<=0
     ·exact .inr z
     ·left
      have:=CZ (show(1:Int)<=d by lia) ha
      lia
    lia
   subst a1;have d1:d=1:=by lia
   subst d1;exact absurd rfl n
theorem EU:∀(n:Nat){t:Tb},Plain t->(Tb.sum t).toNat<=n->∃cs,(∀c∈cs,Eo c)/\wt cs=t
 |0,t,h,hn=>by
  have e1:=h.top;have e2:=h.low;unfold Tb.sum at hn
  lia
 |n+1,t,h,hn=>by
  by_cases e:t=Tb.one
  ·exact⟨[],fun c hc=>absurd hc (by simp),e.symm⟩
  ·have e1:=h.top;have e2:=h.low;obtain⟨a,b,c,d⟩:=t;obtain⟨ha,hb,hc,hd,hw⟩:=h;unfold Tb.sum at hn;simp only at *;rcases Plain.rows (t:=⟨a,b,c,d⟩) ⟨ha,hb,hc,hd,hw⟩ e with ⟨h1,h2⟩|⟨h1,h2⟩
   ·simp only at h1 h2;obtain⟨cs,hcs,ew⟩:=EU n (t:=⟨a,b,c-a,d-b⟩) ⟨ha,hb,by show 0<=c-a;lia,by show 0<=d-b;lia,by show a*(d-b)-b*(c-a)=1;grind⟩ (by unfold Tb.sum;show(a+b+(c-a)+(d-b)).toNat<=n;lia);refine⟨108::cs,fun x hx=>?_,?_⟩
    ·rcases Ag.mp hx with rfl|hx
     ·exact .inl rfl
     ·exact hcs x hx
    ·show(bX 108).mul (wt cs)=_;rw[ew,hW];apply Tb.ext'<;>simp only<;>lia
   ·simp only at h1 h2;obtain⟨cs,hcs,ew⟩:=EU n (t:=⟨a-c,b-d,c,d⟩) ⟨by show 0<=a-c;lia,by show 0<=b-d;lia,hc,hd,by show(a-c)*d-(b-d)*c=1;grind⟩ (by unfold Tb.sum;show((a-c)+(b-d)+c+d).toNat<=n;lia);refine⟨114::cs,fun x hx=>?_,?_⟩
    ·rcases Ag.mp hx with rfl|hx
     ·exact .inr rfl
     ·exact hcs x hx
    ·show(bX 114).mul (wt cs)=_;rw[ew,hV];apply Tb.ext'<;>simp only<;>lia
theorem Plain.word{t:Tb}(h:Plain t):∃cs,(∀c∈cs,Eo c)/\wt cs=t:=EU _ h (zX _)
theorem JO:∀n:Nat,wt (List.replicate n 114)=⟨1,n,0,1⟩
 |0=>rfl
 |n+1=>by
  rw[Cj];show(bX 114).mul (wt (List.replicate n 114))=_;rw[JO n,hV];apply Tb.ext'<;>simp only<;>lia
theorem JA:∀n:Nat,wt (List.replicate n 108)=⟨1,0,n,1⟩
 |0=>rfl
 |n+1=>by
  rw[Cj];show(bX 108).mul (wt (List.replicate n 108))=_;rw[JA n,hW];apply Tb.ext'<;>simp only<;>lia
theorem iP{t:Tb}(h:Plain t):((bX 108).mul t).c≥((bX 108).mul t).a/\((bX 108).mul t).d≥((bX 108).mul t).b:=by
 rw[hW];have:=h.c;have:=h.d;show t.a+t.c≥t.a/\t.b+t.d≥t.b
 lia
theorem iF{t:Tb}(h:Plain t):¬(((bX 114).mul t).c≥((bX 114).mul t).a/\((bX 114).mul t).d≥((bX 114).mul t).b):=by
 rw[hV];have:=h.a;have:=h.b;have:=h.top;show ¬(t.c≥t.a+t.c/\t.d≥t.b+t.d)
 lia
theorem sG{c:Nat}(h:Eo c):Bd 1 (bX c):=by
 rcases h with rfl|rfl<;>exact⟨by show _<2;decide,by show _<2;decide,by show _<2;decide,by show _<2;decide⟩
section
variable {P:Program}{w:World}{K:PySem.W.Frag}{mg:Str->Option Value}{base:Heap}
def cw (t:Tb):Bool:=decide (0<=t.a/\0<=t.b/\0<=t.c/\0<=t.d)&&decide (t.worth=1)
theorem EJ{t:Tb}:cw t=true↔Plain t:=by
 unfold cw;rw[AK,decide_eq_true_iff,decide_eq_true_iff];refine⟨fun hq101=>?_,fun h=>⟨⟨h.a,h.b,h.c,h.d⟩,h.w⟩⟩;obtain⟨⟨h1,h2,h3,h4⟩,h5⟩:=hq101;exact⟨h1,h2,h3,h4,h5⟩
theorem uz{H:Hp}{a:Addr}{t:Tb}(e:H a=some (.tup t.vs)):Th H (.ref a) true:=
 (Th.tup e fun x hx=>by
  unfold Tb.vs at hx;simp only[Ag,AN,or_false] at hx
  rcases hx with rfl | rfl | rfl | rfl <;> exact .int _:Th H (.ref a) (t.vs.length == 4 && t.vs.all Ff))
def Gf:Sp:=fun vs H Q _=>∃v t n,vs=[v]/\T4o H v t/\Bd n t/\n<=1048576/\∀H',DV H H'->Q (.bl (cw t)) H'
theorem Ia:DT ["table"] ["table"] (ai (top 23)):=⟨rfl,rfl,rfl,by decide +kernel,rfl,by decide +kernel,by decide +kernel⟩
theorem oP{di dw d:DD}(yF:Def K mg "is_table" (top 16) ["thing"] di)(yY:DY P w K mg base CX0 2 di.f di.fd ["thing"] FN)(xD:Def K mg "worth" (top 19) ["table"] dw)(xT:DY P w K mg base CX0 1 dw.f dw.fd ["table"] (lX K))(D:Def K mg "is_plain" (top 23) ["table"] d)(xG:mg "min"=none):DY P w K mg base CX0 3 d.f d.fd ["table"] Gf:=by
 refine D.fn.ok Ia (fun vs H Q E h=>?_) (fun cdv A outer s H vs Q E hr h=>?_)
 ·obtain⟨v,t,n,rfl,_⟩:=h;rfl
 obtain⟨v,t,n,rfl,⟨a,rfl,ha⟩,hb,hn,q⟩:=h;have hc:=hr.calm;refine⟨_,(@ah _ _ _ (@ay _ _ _ _ (@dS _ _ _ _ _ _ _ (@bT _ _ _ _ _ _ _ _ _ _ _ _ yF yY (by decide) hr rfl (pv 0) ax (by decide)) (@dS _ _ _ _ _ _ _ (@bZ _ _ _ _ _ _ _ _ HV (@aF _ _ _ _ _ _ _ _ _ (mH hc) rfl xG Hv (@aE _ _ _ (pv 0) ax) (by decide) (by decide) (by rfl) (by rfl)) (@ag _ _ _ _) (aC _)) (@ff _ _ _ _ _ (@bZ _ _ _ _ _ _ _ _ EM (@bT _ _ _ _ _ _ _ _ _ _ _ _ xD xT (by decide) hr rfl (pv 0) ax (by decide)) (@ag _ _ _ _) (aC _))))))),?_⟩
 try dsimp only [bD,Cx.nox,Cx.En]
 refine⟨_,rfl,.ref a,true,rfl,uz ha,fun H1 S1=>⟨true,rfl,?_⟩⟩;refine⟨_,rfl,a,[t.a,t.b,t.c,t.d],rfl,SqT.of (S1 _ _ ha),(fun z=>by cases z),fun m hm hmin=>?_⟩;have ha':=hmin t.a (by simp);have hb':=hmin t.b (by simp);have hc':=hmin t.c (by simp);have hd':=hmin t.d (by simp);refine⟨_,_,rfl,rfl,decide (m≥0),rfl,pK (fun h1=>?_) (fun h1=>?_)⟩
 ·have h1':m≥0:=Do h1;refine⟨_,rfl,.ref a,t,n,rfl,⟨a,rfl,SqT.of (S1 _ _ ha)⟩,hb,hn,rfl,?_⟩;have e:decide (V.int t.worth=V.int 1)=cw t:=by
   unfold cw;rw[Dj (show 0<=t.a/\0<=t.b/\0<=t.c/\0<=t.d by lia),Bool.true_and];exact decide_eq_decide.mpr ⟨fun h=>by injection h,fun h=>by rw[h]⟩
  have z:=q H1 S1;rw[<- e] at z;exact z
 ·have h1':¬m≥0:=of_decide_eq_false (Bz.mpr h1);have e:false=cw t:=by
   have:¬(0<=t.a/\0<=t.b/\0<=t.c/\0<=t.d):=fun hq102=>by
    obtain⟨a1,a2,a3,a4⟩:=hq102;simp only[Ag,AN,or_false] at hm;rcases hm with rfl|rfl|rfl|rfl<;>lia
   unfold cw;rw[Dk this];rfl
  have z:=q H1 S1;rw[<- e] at z;exact z
def lrB (c:Nat):Bool:=c==108||c==114
theorem Hq{c:Nat}:lrB c=true↔Eo c:=by unfold lrB Eo;simp
def fL (z:Str):Bool:=decide (z.length<=400)&&z.cps.toList.all lrB
theorem Hj{z:Str}:fL z=true↔z.length<=400/\∀c∈z.cps.toList,Eo c:=by
 unfold fL;rw[AK,decide_eq_true_iff,Be];refine⟨fun hq103=>?_,fun⟨h1,h2⟩=>⟨h1,fun c hc=>Hq.mpr (h2 c hc)⟩⟩;obtain⟨h1,h2⟩:=hq103;exact⟨h1,fun c hc=>Hq.mp (h2 c hc)⟩
abbrev lkv(l1 l2:Addr):List (Key×V):=[(.inr "l",.ref l1),(.inr "r",.ref l2)]
theorem cR{c:Nat}{x:Str}{n:Nat}(hx:x=⟨#[n]⟩):((.inr x:Key)=.inr ⟨#[c]⟩)↔n=c:=by
 subst hx;constructor
 ·intro h;injection h with h;injection h with h;injection h with h;injection h
 ·intro h;rw[h]
theorem el:("l":Str)=⟨#[108]⟩:=by decide +kernel
theorem er:("r":Str)=⟨#[114]⟩:=by decide +kernel
theorem rC(l1 l2:Addr)(c:Nat):(ir (lkv l1 l2) (.inr ⟨#[c]⟩)).isSome=lrB c:=by
 unfold lkv lrB;by_cases h1:108=c
 ·rw[cK (e:=(cR el).mpr h1)];subst h1;rfl
 ·rw[du (e:=fun z=>h1 ((cR el).mp z))];by_cases h2:114=c
  ·rw[cK (e:=(cR er).mpr h2)];subst h2;rfl
  ·rw[du (e:=fun z=>h2 ((cR er).mp z)),nI];have:(c==108)=false:=beq_eq_false_iff_ne.mpr (DC h1);have e2:(c==114)=false:=beq_eq_false_iff_ne.mpr (DC h2);rw[this,e2];rfl
theorem rS(l1 l2:Addr)(c:Nat)(h:Eo c):ir (lkv l1 l2) (.inr ⟨#[c]⟩)=some (.ref (if c=108 then l1 else l2)):=by
 unfold lkv;rcases h with rfl|rfl
 ·rw[cK (e:=(cR el).mpr rfl)];rfl
 ·rw[du (e:=fun z=>absurd ((cR el).mp z) (by decide)),cK (e:=(cR er).mpr rfl)];rfl
def asc (z:Str):Prop:=z.cps.all (·<128)=true/\z.length<=100000
def GG:Sp:=fun vs H Q _=>∃z,vs=[.str z]/\asc z/\∀H',DV H H'->Q (.bl (fL z)) H'
theorem sY{H:Hp}{f:Nat->V}:∀{cs:List Nat},(∀c∈cs,Eo c)->(∀c,Eo c->T4 K H (f c) (bX c))->TL K H (cs.map f) (cs.map bX)
 |[],_,_=>.nil
 |c::r,h,g=>.cons (g c (h c Aq)) (sY (fun c hc=>h c (AE _ hc)) g)
def txt (cs:List Nat):Str:=⟨cs.toArray⟩
abbrev eA(cs:List Nat):List Str:=cs.map fun c=>⟨#[c]⟩
theorem Gn:∀(r:List Str)(a:Array Nat),(r.foldl (fun acc p=>acc++("":Str).cps++p.cps) a).toList=a.toList++(r.map (·.cps.toList)).flatten
 |[],a=>by simp
 |x::r,a=>by
  have z:("":Str).cps=#[]:=rfl;rw[CD,Gn r,z];simp
theorem jA(zs:List Str):(Txt.join "" zs).cps.toList=(zs.map (·.cps.toList)).flatten:=by
 cases zs with
 |nil=>rfl
 |cons x r=>exact Gn r x.cps
theorem cQ{x y:Str}(h:x.cps.toList=y.cps.toList):x=y:=by
 obtain⟨⟨x⟩⟩:=x;obtain⟨⟨y⟩⟩:=y;simp only at h;subst h;rfl
theorem gm(cs:List Nat):Txt.join "" (eA cs)=txt cs:=by
 apply cQ;rw[jA,Bn];show _=cs;induction cs with
 |nil=>rfl
 |cons c r ih=>rw[AH,Ck,ih];rfl
theorem Fw:∀(cs:List Nat),((eA cs).map (·.length)).sum=cs.length
 |[]=>rfl
 |c::r=>by
  show 1+((eA r).map (·.length)).sum=r.length+1;rw[Fw r];omega
def Ke:Sp:=fun vs H Q _=>∃v cs m,vs=[v,.int ((m:Nat):Int)]/\m<=10000/\(∀c∈cs,Eo c)/\T4o H v (wt cs)/\(cs.length<=m->∀H',DV H H'->Q (.str (txt cs)) H')/\(m<cs.length->∀H',DV H H'->Q .non H')
theorem qE(t u:Tb)(h:t≠u):PyData.eqv t.dat u.dat=false:=by
 obtain⟨a,b,c,d⟩:=t;obtain⟨e,f,g,i⟩:=u;show(a==e&&(b==f&&(c==g&&(d==i&&true))))=false;rw[Bz];intro z;simp only[AK,DP,Bool.and_true] at z;obtain⟨rfl,rfl,rfl,rfl⟩:=z;exact h rfl
theorem Jp:DT ["table","most","a","b","c","d","letters"] ["table","most"] (ai (top 26)):=⟨rfl,rfl,rfl,by decide +kernel,rfl,by decide +kernel,by decide +kernel⟩
theorem uj{d:DD}{one:Addr}(zJ:mg "ONE"=some (.ref one))(k_one:∀H,SqT K H one Tb.one.vs)(D:Def K mg "word_within" (top 26) ["table","most"] d)(vf:mg "len"=none):DY P w K mg base CX0 1 d.f d.fd ["table","most"] Ke:=by
 refine D.fn.ok Jp (fun vs H Q E h=>?_) (fun cdv A outer s H vs Q E hr h=>?_)
 ·obtain⟨v,cs,m,rfl,_⟩:=h;rfl
 obtain⟨v,cs,m,rfl,hm,hlr,⟨a,rfl,ha⟩,q1,q2⟩:=h;have hc:=hr.calm;have nd:=Jp.nd;refine⟨_,(@ae _ _ _ _ _ (@fu _ _ _ _ _ _ (pv 0) (@iw _ _ _ _ _ _ hc (@aG _ _ _ _ _ (@ao _ _ (2) _ nd rfl (Or.inl rfl) (by walk_at "i")) (@aG _ _ _ _ _ (@ao _ _ (3) _ nd rfl (Or.inl rfl) (by walk_at "i")) (@aG _ _ _ _ _ (@ao _ _ (4) _ nd rfl (Or.inl rfl) (by walk_at "i")) (@aG _ _ _ _ _ (@ao _ _ (5) _ nd rfl (Or.inl rfl) (by walk_at "i")) (@ED _) (by rfl)) (by rfl)) (by rfl)) (by rfl)) (by rfl) (by rfl)) (by rfl) (by rfl) (by rfl)) (@ae _ _ _ _ _ (@aq _ _ (6) _ _ _ _ nd rfl (Or.inl rfl) (@bb _ _ _ _ (@Ed _)) (by rfl) (by walk_at "i")) (@ae _ _ _ _ _ (@jr _ _ _ _ _ _ PassesOwn.never (@aB _ _ _ _ _ _ _ _ (cf hr.units) (@aP _ _ _ _ _ (@aa _ _ _ _ _ (pv 2) (@aa _ _ _ _ _ (pv 3) (@aa _ _ _ _ _ (pv 4) (@aE _ _ _ (pv 5) ax) ax) ax) ax)) (@aX _ _ (.ref one) _ _ rfl zJ rfl (by decide)) (aC _)) (@ae _ _ _ _ _ (@bp _ _ _ _ _ _ _ _ (@aB _ _ _ _ _ _ _ _ EM (@aI _ _ _ _ _ _ Ea rfl vf (pv 6) ax) (pv 1) (aC _)) (@ah _ _ _ (@ay _ _ _ _ (@bK _ _ _))) (@DX _)) (@ah _ _ _ (@bp _ _ _ _ _ _ _ _ (@PW.pt _ _ _ (@fq _ _ _ _ _ _ _ (@aB _ _ _ _ _ _ _ _ HV (pv 4) (pv 2) (aC _)) (@dM _ _ _ _ (@aB _ _ _ _ _ _ _ _ HV (pv 5) (pv 3) (aC _))))) (@ae _ _ _ _ _ (@bH _ _ _ _ (@cP _ _ _ _ _ _ _ (pv 6) (@aL _ _ _ _) aM (by rfl) (by rfl) (by rfl)) (by rfl)) (@ah _ _ _ (@pE _ _ (4) (5) _ _ _ _ _ _ _ _ _ _ _ hc nd rfl rfl (by decide) rfl rfl (@aa _ _ _ _ _ (@au _ _ _ _ _ _ _ _ Em (pv 4) (pv 2)) (@aE _ _ _ (@au _ _ _ _ _ _ _ _ Em (pv 5) (pv 3)) (by rfl)) (by rfl)) rfl (by rfl)))) (@ae _ _ _ _ _ (@bH _ _ _ _ (@cP _ _ _ _ _ _ _ (pv 6) (@aL _ _ _ _) aM (by rfl) (by rfl) (by rfl)) (by rfl)) (@ah _ _ _ (@pE _ _ (2) (3) _ _ _ _ _ _ _ _ _ _ _ hc nd rfl rfl (by decide) rfl rfl (@aa _ _ _ _ _ (@au _ _ _ _ _ _ _ _ Em (pv 2) (pv 4)) (@aE _ _ _ (@au _ _ _ _ _ _ _ _ Em (pv 3) (pv 5)) (by rfl)) (by rfl)) rfl (by rfl)))))))) (@ah _ _ _ (@ay _ _ _ _ (@fP _ _ _ _ _ _ _ _ (pv 6) ax (by rfl) (by rfl))))))),?_⟩
 try dsimp only [bD,Cx.nox,Cx.En]
 refine⟨_,rfl,a,_,rfl,SqT.of ha,rfl,_,_,rfl,_,_,rfl,_,_,rfl,_,_,rfl,rfl,?_⟩;refine⟨ak (by show 0<=1000000;decide),fun L nL=>?_⟩;have F0:=(Hs.start H).new nL (.lst []);refine⟨fun k σ H'=>∃i,k=cs.length-i/\i<=cs.length/\i<=m/\σ=[some (.ref a),some (.int m),some (.int (wt (cs.drop i)).a),some (.int (wt (cs.drop i)).b),some (.int (wt (cs.drop i)).c),some (.int (wt (cs.drop i)).d),some (.ref L)]/\Hs H [(L,.lst ((eA (cs.take i)).map V.str))] H',⟨_,0,rfl,Ah _,Ah _,rfl,F0⟩,fun k σ H' z=>?_⟩;obtain⟨i,rfl,hi,him,rfl,F⟩:=z;refine⟨_,rfl,_,rfl,_,rfl,_,rfl,ak (by show 4<=1000000;decide),fun p np=>?_⟩;have F1:=F.mono (af np (.tup (wt (cs.drop i)).vs));have dt:EK K (upd H' p (.tup (wt (cs.drop i)).vs)) (.ref p) (wt (cs.drop i)).dat:=T4.dat ⟨p,rfl,SqT.of DR⟩;have d1:∀H,EK K H (.ref one) Tb.one.dat:=fun H=>T4.dat ⟨one,rfl,k_one H⟩;have lt':∀c∈cs.drop i,Eo c:=fun c hc=>hlr c (Br hc);by_cases hend:i=cs.length
 ·
  have e0:cs.drop i=[]:=Cm (by omega);rw[e0] at dt F1 ⊢;refine⟨Tb.one.dat,Tb.one.dat,dt,d1 _,Tb.lay _,Tb.lay _,Tb.depth _,false,(by rw[Tb.eqv];rfl),?_⟩;have e1:cs.take i=cs:=Av (by omega);rw[e1] at F1;refine⟨rfl,_,rfl,"",L,eA cs,rfl,rfl,SqL.of (F1.get 0),?_,?_⟩
  ·rw[Fw];have:("":Str).length=0:=rfl;rw[this];omega
  ·rw[gm];exact q1 (by omega) _ F1.all
 ·have hlt:i<cs.length:=by omega
  have ed:cs.drop i=cs[i]::cs.drop (i+1):=BA hlt;have hne:wt (cs.drop i)≠Tb.one:=fun z=>by
   have:=mJ lt' z;rw[ed] at this;cases this
  refine⟨_,Tb.one.dat,dt,d1 _,Tb.lay _,Tb.lay _,Tb.depth _,true,(by rw[qE _ _ hne];rfl),?_⟩;refine⟨fun σ' H''=>∃j,j=i+1/\j<=m/\σ'=[some (.ref a),some (.int m),some (.int (wt (cs.drop j)).a),some (.int (wt (cs.drop j)).b),some (.int (wt (cs.drop j)).c),some (.int (wt (cs.drop j)).d),some (.ref L)]/\Hs H [(L,.lst ((eA (cs.take j)).map V.str))] H'',fun σ' H'' z=>?_,?_⟩
  ·obtain⟨j,rfl,h1,rfl,F2⟩:=z;exact⟨cs.length-(i+1),by omega,i+1,rfl,hlt,h1,rfl,F2⟩
  have ll:((eA (cs.take i)).map V.str).length=i:=by
   rw[zY,zY,Af];omega
  refine⟨_,rfl,L,_,rfl,.inl (SqL.of (F1.get 0)),_,rfl,rfl,_,rfl,pK (fun h1=>?_) (fun h1=>?_)⟩
  ·have h1':i=m:=by
    have:=Do h1;injection this with this;rw[ll] at this;omega
   exact q2 (by omega) _ F1.all
  ·have h1':i<m:=by
    have:i≠m:=fun z=>h1 (Dj (by rw[ll,z]));omega
   have et:cs.take (i+1)=cs.take i++[cs[i]]:=by rw[Az,Aa hlt];rfl
   have ep:Plain (wt (cs.drop (i+1))):=Eg fun c hc=>hlr c (Br hc);have ew:wt (cs.drop i)=(bX cs[i]).mul (wt (cs.drop (i+1))):=by rw[ed];rfl
   have lc:Eo cs[i]:=hlr _ (AI hlt);have lsz:((eA (cs.take i)).map V.str).length<sizeLine:=Ak (show _<1000000 by rw[ll];omega) (ak (zX _));generalize hT:wt (cs.drop (i+1))=T at ep ew;generalize hc0:cs[i]=c0 at lc ew et;rw[ew] at dt;rcases lc with rfl|rfl
   ·have f1:=iP ep;rw[hW] at ew f1;rw[ew] at F1 ⊢;simp only at f1;refine⟨_,rfl,_,rfl,_,_,rfl,rfl,true,(by show V.bl (decide (T.a<=T.a+T.c))=_;rw[Dj f1.1]),_,rfl,_,rfl,_,_,rfl,rfl,true,(by show V.bl (decide (T.b<=T.b+T.d))=_;rw[Dj f1.2]),?_⟩;refine⟨_,rfl,.inl ⟨rfl,_,SqL.of (F1.get 0)⟩,L,_,_,rfl,rfl,F1.get 0,lsz,?_⟩;refine⟨_,rfl,_,rfl,_,_,rfl,rfl,_,rfl,_,rfl,_,_,rfl,rfl,_,_,rfl,?_⟩;refine⟨_,rfl,h1',?_,?_⟩
    ·rw[hT];show[some (V.ref a),some (V.int ↑m),some (V.int T.a),some (V.int T.b),some (V.int (T.a+T.c-T.a)),some (V.int (T.b+T.d-T.b)),some (V.ref L)]=_;rw[show T.a+T.c-T.a=T.c by omega,show T.b+T.d-T.b=T.d by omega]
    ·have F2:=F1.put 0 (.lst ((eA (cs.take (i+1))).map V.str));rw[et] at F2 ⊢;have e3:(eA (cs.take i++[108])).map V.str=(eA (cs.take i)).map V.str++[.str "l"]:=by
      rw[el];simp[eA]
     rw[e3] at F2 ⊢;exact F2
   ·have f1:=iF ep;rw[hV] at ew f1;rw[ew] at F1 ⊢;simp only at f1;by_cases g1:T.a+T.c<=T.c
    ·have g2:¬T.b+T.d<=T.d:=fun z=>f1 ⟨g1,z⟩;refine⟨_,rfl,_,rfl,_,_,rfl,rfl,true,(by show V.bl (decide (T.a+T.c<=T.c))=_;rw[Dj g1]),_,rfl,_,rfl,_,_,rfl,rfl,false,(by show V.bl (decide (T.b+T.d<=T.d))=_;rw[Dk g2]),?_⟩;refine⟨_,rfl,.inl ⟨rfl,_,SqL.of (F1.get 0)⟩,L,_,_,rfl,rfl,F1.get 0,lsz,?_⟩;refine⟨_,rfl,_,rfl,_,_,rfl,rfl,_,rfl,_,rfl,_,_,rfl,rfl,_,_,rfl,?_⟩;refine⟨_,rfl,h1',?_,?_⟩
     ·rw[hT];show[some (V.ref a),some (V.int ↑m),some (V.int (T.a+T.c-T.c)),some (V.int (T.b+T.d-T.d)),some (V.int T.c),some (V.int T.d),some (V.ref L)]=_;rw[show T.a+T.c-T.c=T.a by omega,show T.b+T.d-T.d=T.b by omega]
     ·have F2:=F1.put 0 (.lst ((eA (cs.take (i+1))).map V.str));rw[et] at F2 ⊢;have e3:(eA (cs.take i++[114])).map V.str=(eA (cs.take i)).map V.str++[.str "r"]:=by
       rw[er];simp[eA]
      rw[e3] at F2 ⊢;exact F2
    ·refine⟨_,rfl,_,rfl,_,_,rfl,rfl,false,(by show V.bl (decide (T.a+T.c<=T.c))=_;rw[Dk g1]),?_⟩;refine⟨_,rfl,.inl ⟨rfl,_,SqL.of (F1.get 0)⟩,L,_,_,rfl,rfl,F1.get 0,lsz,?_⟩;refine⟨_,rfl,_,rfl,_,_,rfl,rfl,_,rfl,_,rfl,_,_,rfl,rfl,_,_,rfl,?_⟩;refine⟨_,rfl,h1',?_,?_⟩
     ·rw[hT];show[some (V.ref a),some (V.int ↑m),some (V.int (T.a+T.c-T.c)),some (V.int (T.b+T.d-T.d)),some (V.int T.c),some (V.int T.d),some (V.ref L)]=_;rw[show T.a+T.c-T.c=T.a by omega,show T.b+T.d-T.d=T.b by omega]
     ·have F2:=F1.put 0 (.lst ((eA (cs.take (i+1))).map V.str));rw[et] at F2 ⊢;have e3:(eA (cs.take i++[114])).map V.str=(eA (cs.take i)).map V.str++[.str "r"]:=by
       rw[er];simp[eA]
      rw[e3] at F2 ⊢;exact F2
def LRs (z:Str):Prop:=∀c∈z.cps.toList,Eo c
def As (z:Str):Prop:=∀c∈z.cps.toList,c<128
theorem LRs.as{z:Str}(h:LRs z):As z:=fun c hc=>by rcases h c hc with rfl|rfl<;>decide
theorem cY(z:Str):z.length=z.cps.toList.length:=rfl
theorem dC{z:Str}{n:Int}{c:Nat}(h:c∈(Txt.mul z n).cps.toList):c∈z.cps.toList:=by
 rw[L2.mul_list] at h;obtain⟨l,hl,hc⟩:=List.mem_flatten.mp h;rw[CN hl] at hc;exact hc
theorem qN{α:Type}{l:List α}{lo hi:Option Int}{c:α}(h:c∈nE l lo hi):c∈l:=Br (Bj h)
theorem da{z:Str}{lo hi:Option Int}{c:Nat}(h:c∈(Txt.slice z lo hi).cps.toList):c∈z.cps.toList:=by
 rw[cb] at h;exact qN h
theorem fE(x y:Str):(x++y).cps.toList=x.cps.toList++y.cps.toList:=by
 show(x.cps++y.cps).toList=_;rw[AS]
theorem dN(x y:Str):(x++y).length=x.length+y.length:=by rw[cY,fE,zZ];rfl
theorem cE(z:Str)(n:Int):(Txt.mul z n).length=n.toNat*z.length:=by
 rw[cY,L2.mul_list,List.length_flatten];simp[cY]
theorem jB{α:Type}(l:List α)(k:Nat):nE l none (some (k:Int))=l.take k:=by
 unfold nE;rw[HT.FH,HT.GI,BX,Cp];rcases Nat.le_total k l.length with h|h
 ·rw[AV h]
 ·rw[CO h,Av (zX _),Av h]
theorem dY(z:Str)(k:Nat):(Txt.slice z none (some (k:Int))).length=min k z.length:=by
 rw[cY,cb,jB,Af];rfl
def Gk:Sp:=fun vs H Q _=>∃p m,vs=[.ref p,.int m]/\1<=m/\m<=1000/\Ds H p/\∀z H',Dr p H H'->LRs z->1<=z.length->(z.length:Int)<=m->Q (.str z) H'
theorem Gx:DT ["draws","most","way","many","text","some"] ["draws","most"] (ai (top 55)):=⟨rfl,rfl,rfl,by decide +kernel,rfl,by decide +kernel,by decide +kernel⟩
theorem rG{r:Int}(h0:0<=r)(h1:r<2):∃c,("lr":Str).cps[r.toNat]?=some c/\Eo c:=by
 have:r=0\/r=1:=by omega
 rcases this with rfl|rfl
 ·exact⟨108,by decide +kernel,.inl rfl⟩
 ·exact⟨114,by decide +kernel,.inr rfl⟩
theorem Ku:LRs "lr":=by
 have e:("lr":Str).cps.toList=[108,114]:=by decide +kernel
 intro c hc;rw[e] at hc;simp only[Ag,AN,or_false] at hc;exact hc
theorem Gu:("lr":Str).length=2:=by decide +kernel
theorem nS{dd d:DD}(vh:Def K mg "_law_draw" (top 42) ["draws","many"] dd)(vi:DY P w K mg base CX0 1 dd.f dd.fd ["draws","many"] FW)(D:Def K mg "_law_piece" (top 55) ["draws","most"] d)(vg:mg "range"=none):DY P w K mg base CX0 2 d.f d.fd ["draws","most"] Gk:=by
 refine D.fn.ok Gx (fun vs H Q E h=>?_) (fun cdv A outer s H vs Q E hr h=>?_)
 ·obtain⟨p,m,rfl,_⟩:=h;rfl
 obtain⟨p,m,rfl,m0,m1,hp,q⟩:=h;have hc:=hr.calm;have nd:=Gx.nd;refine⟨_,(@ae _ _ _ _ _ (@aq _ _ (2) _ _ _ _ nd rfl (Or.inl rfl) (@aR _ _ _ _ _ _ _ _ _ _ _ _ _ vh vi (by decide) hr rfl (@aa _ _ _ _ _ (pv 0) (@aE _ _ _ (@ag _ _ _ _) aM) ax) (by decide) (by rfl) (by rfl)) (by rfl) (by walk_at "i")) (@ae _ _ _ _ _ (@aq _ _ (3) _ _ _ _ nd rfl (Or.inl rfl) (@au _ _ _ _ _ _ _ _ Eb (@ag _ _ _ _) (@aR _ _ _ _ _ _ _ _ _ _ _ _ _ vh vi (by decide) hr rfl (@aa _ _ _ _ _ (pv 0) (@aE _ _ _ (pv 1) ax) ax) (by decide) (by rfl) (by rfl))) (by rfl) (by walk_at "i")) (@ae _ _ _ _ _ (@aq _ _ (4) _ _ _ _ nd rfl (Or.inl rfl) (@fP _ _ _ _ _ _ _ _ (@bB _ _ _ _ _ _ _ _ _ _ _ _ _ _ hc (ar (ts:=["k"]) (cap:=["draws"]) (js:=[0]) rfl rfl rfl rfl rfl rfl (by decide +kernel)) (@bU _ _ _ _ _ _ rfl vg (@aE _ _ _ (pv 3) ax) (by rfl)) (fun _ _ _ _=>@ao _ _ (0) _ (show(["k","draws"]:List Str).Nodup by decide +kernel) rfl (Or.inl rfl) (.inr rfl)) (fun _ _ _ _=>@bq _) (fun _ _ _ _=>(@eM _ _ _ _ _ _ (@aL _ _ _ _) (@aR _ _ _ _ _ _ _ _ _ _ _ _ _ vh vi (by decide) hr rfl (@aa _ _ _ _ _ (pv 1) (@aE _ _ _ (@ag _ _ _ _) aM) ax) (by decide) (by rfl) (by rfl)) (fun _ _=>rfl))) (by intro _;rfl)) (by rfl) (by rfl) (by rfl)) (by rfl) (by walk_at "i")) (@ae _ _ _ _ _ (@aq _ _ (5) _ _ _ _ nd rfl (Or.inl rfl) (@bb _ _ _ _ (@aa _ _ _ _ _ (pv 4) (@aa _ _ _ _ _ (@au _ _ _ _ _ _ _ _ EL (@aO _ _ _ _ _ _ _ IB (pv 4) (@ag _ _ _ _) (fun _ _=>rfl)) (pv 3)) (@aa _ _ _ _ _ (@aZ _ _ _ _ _ _ _ _ _ _ Es (@au _ _ _ _ _ _ _ _ EL (@aL _ _ _ _) (pv 3)) (@Ei _) (@br _ _ _ (pv 3))) (@aE _ _ _ (@aZ _ _ _ _ _ _ _ _ _ _ Es (@au _ _ _ _ _ _ _ _ EL (@aZ _ _ _ _ _ _ _ _ _ _ Es (pv 4) (@Ei _) (@br _ _ _ (@ag _ _ _ _))) (pv 3)) (@Ei _) (@br _ _ _ (pv 3))) (by rfl)) (by rfl)) (by rfl)) ax)) (by rfl) (by walk_at "i")) (@ah _ _ _ (@ay _ _ _ _ (@aO _ _ _ _ _ _ _ DW (pv 5) (pv 2) (fun _ _=>rfl)))))))),?_⟩
 try dsimp only [bD,Cx.nox,Cx.En]
 refine⟨_,rfl,p,4,rfl,hp,by decide,by decide,fun way H0 w0 w1 dr0=>?_⟩;refine⟨_,rfl,_,rfl,p,m,rfl,dr0.ds,m0,by omega,fun r1 H1 a0 a1 dr1=>?_⟩;refine⟨_,_,rfl,rfl,?_⟩;obtain⟨n,en⟩:∃n:Nat,1+r1=((n:Nat):Int):=⟨(1+r1).toNat,by omega⟩
 show gr 3 (V.int (1+r1)) _ _ _;rw[en];have n1:1<=n:=by omega
 have nm:(n:Int)<=m:=by omega
 refine⟨rfl,_,rfl,_,rfl,by omega,by omega,?_⟩;have D1:=dr0.trans dr1;refine sF (lo:=0) (n:=(n:Int).toNat) (fun i ys H'=>Dr p H H'/\∃cs:List Nat,ys=(eA cs).map V.str/\cs.length=i/\∀c∈cs,Eo c) ⟨D1,[],rfl,rfl,fun n hn=>absurd hn (by simp)⟩ (fun i ys H' hi z=>by obtain⟨_,ns,rfl,e,_⟩:=z;rw[zY,zY,e];exact zX _) (ak (by omega)) (fun i ys H' hi z=>?_) (fun ys H' z l hl=>?_)
 ·obtain⟨z1,cs,rfl,z2,z3⟩:=z;refine⟨_,rfl,p,2,rfl,z1.ds,by decide,by decide,fun r H2 c0 c1 dr2=>?_⟩;obtain⟨c,ec,lc⟩:=rG c0 c1;refine⟨_,r,c,rfl,rfl,c0,by omega,by rw[Gu];omega,ec,Nx.mk hi ⟨z1.trans dr2,cs++[c],?_,by rw[zZ,z2];rfl,fun x hx=>?_⟩⟩
  ·simp[eA]
  ·rcases Ai.mp hx with y|y
   ·exact z3 x y
   ·have e:x=c:=by simpa using y
    subst e;exact lc
 obtain⟨z1,cs,rfl,z2,z3⟩:=z;have DL:=Dr.new z1.ds hl (.lst ((eA cs).map V.str));refine⟨"",l,eA cs,rfl,rfl,SqL.of DR,?_,?_⟩
 ·rw[Fw];have:("":Str).length=0:=rfl;rw[this];omega
 rw[gm];have z2':cs.length=n:=by rw[z2,AQ]
 have tl:(txt cs).length=n:=z2';have tlr:LRs (txt cs):=z3;have big:n<=1000:=by omega
 generalize txt cs=text at tl tlr;obtain⟨c0,ec0⟩:∃c,atI text.cps.toList 0=some c:=by
  have h0:0<text.cps.toList.length:=by rw[<- cY,tl];omega
  exact⟨text.cps.toList[0],aQ (j:=0) (Aa h0)⟩
 have lc0:Eo c0:=tlr c0 (by
  have h0:0<text.cps.toList.length:=by rw[<- cY,tl];omega
  have:=aQ (j:=0) (Aa h0);rw[show((0:Nat):Int)=0 from rfl] at this;rw[ec0] at this;injection this with this
  rw[this]; exact AI h0)
 have l1000:∀k:Nat,k<=1000000->k<=sizeLine:=fun k hk=>ak hk;have t2:(Txt.slice text none (some 2)).length=min 2 n:=by rw[show(2:Int)=((2:Nat):Int) from rfl,dY,tl]
 have nt:((n:Int)).toNat=n:=AQ n;refine⟨_,rfl,_,rfl,text,0,c0,rfl,rfl,l1000 _ (by omega),ec0,_,rfl,_,_,rfl,rfl,by omega,by omega,(by show 1*(n:Int).toNat<=16777216;omega),?_⟩;refine⟨_,rfl,_,_,rfl,rfl,by omega,by omega,(by rw[Gu];omega),_,rfl,_,rfl,_,rfl,(l1000 _ (by rw[cE,Gu];omega)),?_⟩;refine⟨_,rfl,_,rfl,_,rfl,l1000 _ (by omega),_,rfl,_,_,rfl,rfl,by omega,by omega,(by rw[t2];have:min 2 n<=2:=Ci _ _;have:=CP this (zX (n:Int).toNat);omega),_,rfl,_,rfl,_,rfl,(l1000 _ (by rw[cE,t2];have:min 2 n<=2:=Ci _ _;have:=CP (zX (n:Int).toNat) this;omega)),?_⟩;refine⟨ak (by show 4<=1000000;decide),fun L nL=>?_⟩;have DF:=z1.trans (DL.trans (Dr.new DL.ds nL (.lst [.str text,.str (Txt.mul ⟨#[c0]⟩ n),.str (Txt.slice (Txt.mul "lr" n) none (some n)),.str (Txt.slice (Txt.mul (Txt.slice text none (some 2)) n) none (some n))])));have dq:∃z,atI [V.str text,.str (Txt.mul ⟨#[c0]⟩ n),.str (Txt.slice (Txt.mul "lr" n) none (some n)),.str (Txt.slice (Txt.mul (Txt.slice text none (some 2)) n) none (some n))] way=some (.str z)/\LRs z/\z.length=n:=by
  have:way=0\/way=1\/way=2\/way=3:=by omega
  rcases this with rfl|rfl|rfl|rfl
  ·exact⟨_,rfl,tlr,tl⟩
  ·refine⟨_,rfl,fun c hc=>?_,?_⟩
   ·have:=dC hc;have e:c=c0:=by simpa using this
    rw[e];exact lc0
   ·rw[cE,nt];show n*1=n;omega
  ·refine⟨_,rfl,fun c hc=>Ku c (dC (da hc)),?_⟩;rw[dY,cE,nt,Gu];omega
  ·refine⟨_,rfl,fun c hc=>tlr c (da (dC (da hc))),?_⟩;rw[dY,cE,nt,t2];have:1<=min 2 n:=by omega
   have:=CP (zX n) this;omega
 obtain⟨z,ez,lz,nz⟩:=dq;refine⟨_,rfl,_,rfl,L,_,_,_,rfl,rfl,SqL.of DR,ez,?_⟩;exact q z _ DF lz (by omega) (by omega)
theorem jN{cs:List Nat}(h:∀c∈cs,Eo c):Bd (2*cs.length+1) (wt cs):=by
 have:=fM (n:=1) (ts:=cs.map bX) (fun t ht=>by
  obtain⟨c,hc,rfl⟩:=Ax.mp ht
  exact sG (h c hc)) cs.length
 rw[Av (by rw[zY];exact zX _),bJ] at this;exact this
def Ji:Sp:=fun vs H Q _=>∃v cs,vs=[v]/\(∀c∈cs,Eo c)/\1<=cs.length/\cs.length<=40/\T4o H v (wt cs)/\∀H',DV H H'->Q (.str (txt cs)) H'
theorem sf{cs:List Nat}(h:1<=cs.length):txt cs≠"":=fun z=>by
 have:(txt cs).cps.toList=("":Str).cps.toList:=by rw[z]
 have e:cs=[]:=this;rw[e] at h;exact absurd h (by decide)
theorem Io:DT ["maker","word"] ["maker"] (ai (top 31)):=⟨rfl,rfl,rfl,by decide +kernel,rfl,by decide +kernel,by decide +kernel⟩
theorem rL{dp dw d:DD}{lt:Tok}(m_lm:mg "LONGEST_MAKER"=some (.int 40 lt))(vC:Def K mg "is_plain" (top 23) ["table"] dp)(vQ:DY P w K mg base CX0 3 dp.f dp.fd ["table"] Gf)(D_ww:Def K mg "word_within" (top 26) ["table","most"] dw)(G_ww:DY P w K mg base CX0 1 dw.f dw.fd ["table","most"] Ke)(D:Def K mg "maker_word" (top 31) ["maker"] d):DY P w K mg base CX0 4 d.f d.fd ["maker"] Ji:=by
 refine D.fn.ok Io (fun vs H Q E h=>?_) (fun cdv A outer s H vs Q E hr h=>?_)
 ·obtain⟨v,cs,rfl,_⟩:=h;rfl
 obtain⟨v,cs,rfl,hlr,h1,hl,h4,q⟩:=h;have hc:=hr.calm;have nd:=Io.nd;refine⟨_,(@ae _ _ _ _ _ (@bp _ _ _ _ _ _ _ _ (@cg _ _ _ _ (@bL _ _ _ (@bT _ _ _ _ _ _ _ _ _ _ _ _ vC vQ (by decide) hr rfl (pv 0) ax (by decide)) (by intro _;rfl))) (@ah _ _ _ (@EZ _ _)) (@DX _)) (@ae _ _ _ _ _ (@aq _ _ (1) _ _ _ _ nd rfl (Or.inl rfl) (@aR _ _ _ _ _ _ _ _ _ _ _ _ _ D_ww G_ww (by decide) hr rfl (@aa _ _ _ _ _ (pv 0) (@aE _ _ _ (@aX _ _ (.int 40) _ _ rfl m_lm ⟨_,rfl⟩ (by decide)) ax) ax) (by decide) (by rfl) (by rfl)) (by rfl) (by walk_at "i")) (@ae _ _ _ _ _ (@bp _ _ _ _ _ _ _ _ (@PW.pt _ _ _ (@ik _ _ _ _ _ _ _ (@aB _ _ _ _ _ _ _ _ Hg (pv 1) (@bK _ _ _) (aC _)) (@eZ _ _ _ _ (@aB _ _ _ _ _ _ _ _ EM (pv 1) (@aL _ _ _ _) (aC _))))) (@ah _ _ _ (@EZ _ _)) (@DX _)) (@ah _ _ _ (@ay _ _ _ _ (pv 1)))))),?_⟩
 try dsimp only [bD,Cx.nox,Cx.En]
 refine⟨_,rfl,v,_,_,rfl,h4,jN hlr,(by omega),fun H1 S1=>⟨cw (wt cs),rfl,?_⟩⟩;rw[EJ.mpr (Eg hlr)];refine⟨_,rfl,v,cs,40,rfl,by decide,hlr,h4.mono S1,fun hl H2 S2=>?_,fun hl' H2 S2=>absurd hl' (by omega)⟩;refine⟨_,rfl,rfl,false,rfl,?_⟩;refine⟨_,rfl,rfl,false,?_,?_⟩
 ·show V.bl (decide (V.str (txt cs)=V.str ""))=_;rw[Dk (fun z=>sf h1 (by injection z))]
 exact⟨_,rfl,q H2 (S1.trans S2)⟩
abbrev Mks(H:Hp)(vs:List V)(ws:List (List Nat)):Prop:=Paired (fun v cs=>T4o H v (wt cs)) vs ws
structure Wds(ws:List (List Nat)):Prop where
 n1:1<=ws.length
 n8:ws.length<=8
 lr:∀cs∈ws,∀c∈cs,Eo c
 l1:∀cs∈ws,1<=cs.length
 l40:∀cs∈ws,cs.length<=40
abbrev aj(ws:List (List Nat)):List V:=ws.map fun cs=>.str (txt cs)
theorem Mks.at{H:Hp}:∀{vs:List V}{ws:List (List Nat)}{i:Nat}{v:V},Mks H vs ws->vs[i]?=some v->∃cs,ws[i]?=some cs/\T4o H v (wt cs)
 |_,_,_,_,.nil,e=>by simp at e
 |_,_,0,_,.cons h _,e=>by simp at e;subst e;exact⟨_,rfl,h⟩
 |_,_,i+1,v,.cons _ r,e=>by
  obtain⟨cs,h1,h2⟩:=Mks.at (i:=i) (v:=v) r (by simpa using e);exact⟨cs,by simpa using h1,h2⟩
def Jj:Sp:=fun vs H Q _=>∃l us ws,vs=[.ref l]/\H l=some (.lst us)/\Mks H us ws/\Wds ws/\∀p H',DV H H'->H' p=some (.lst (aj ws))->Q (.ref p) H'
theorem IF:DT ["makers"] ["makers"] (ai (top 32)):=⟨rfl,rfl,rfl,by decide +kernel,rfl,by decide +kernel,by decide +kernel⟩
theorem rJ{dm d:DD}{lt:Tok}(m_mm:mg "MOST_MAKERS"=some (.int 8 lt))(yN:Def K mg "maker_word" (top 31) ["maker"] dm)(zg:DY P w K mg base CX0 4 dm.f dm.fd ["maker"] Ji)(D:Def K mg "maker_words" (top 32) ["makers"] d)(ve:mg "isinstance"=none)(yy:mg "list"=none)(vf:mg "len"=none):DY P w K mg base CX0 5 d.f d.fd ["makers"] Jj:=by
 refine D.fn.ok IF (fun vs H Q E h=>?_) (fun cdv A outer s H vs Q E hr h=>?_)
 ·obtain⟨l,us,ws,rfl,_⟩:=h;rfl
 obtain⟨l,us,ws,rfl,hl,hm,hw,q⟩:=h;have hc:=hr.calm;have nd:=IF.nd;have el:us.length=ws.length:=hm.length;have h1:=hw.n1;have h8:=hw.n8;refine⟨_,(@ae _ _ _ _ _ (@bp _ _ _ _ _ _ _ _ (@PW.pt _ _ _ (@ik _ _ _ _ _ _ _ (@cg _ _ _ _ (@bL _ _ _ (@aF _ _ _ _ _ _ _ _ _ EC rfl ve DU (@aa _ _ _ _ _ (pv 0) (@aE _ _ _ (@cD _ _ (.ty "list") _ _ rfl yy IV rfl (by decide) (by decide)) ax) ax) (by decide) (by decide) (by rfl) (by rfl)) (by intro _;rfl))) (@eZ _ _ _ _ (@cg _ _ _ _ (@oY _ _ _ _ _ _ _ _ _ _ _ _ Jv Jv (@ag _ _ _ _) (@aI _ _ _ _ _ _ Ea rfl vf (pv 0) ax) (@aX _ _ (.int 8) _ _ rfl m_mm ⟨_,rfl⟩ (by decide)) (by with_unfolding_all rfl)))))) (@ah _ _ _ (@EZ _ _)) (@DX _)) (@ah _ _ _ (@ay _ _ _ _ (@bB _ _ _ _ _ _ _ _ _ _ _ _ _ _ hc (ar (ts:=["maker"]) (cap:=[]) (js:=[]) rfl rfl rfl rfl rfl rfl (by decide +kernel)) (@aV _ _ _ _ (pv 0)) (fun _ _ _ _=>@ao _ _ (0) _ (show(["maker"]:List Str).Nodup by decide +kernel) rfl (Or.inl rfl) (.inr rfl)) (fun _ _ _ _=>@bq _) (fun _ _ _ _=>(@bT _ _ _ _ _ _ _ _ _ _ _ _ yN zg (by decide) hr rfl (pv 0) ax (by decide))) (by intro _;rfl))))),?_⟩
 try dsimp only [bD,Cx.nox,Cx.En]
 refine⟨_,rfl,.ref l,.ty "list",.type "list",.type "list",true,rfl,rfl,.lst hl,rfl,true,rfl,?_⟩;refine⟨_,rfl,l,us,rfl,.inl (SqL.of hl),_,_,rfl,rfl,true,?_,?_⟩
 ·show V.bl (decide ((1:Int)<=(us.length:Int)))=_;rw[Dj (by omega)]
 refine⟨_,_,rfl,rfl,true,?_,?_⟩
 ·show V.bl (decide ((us.length:Int)<=8))=_;rw[Dj (by omega)]
 refine⟨_,rfl,l,rfl,⟨_,SqL.of hl⟩,?_⟩;refine cM (K:=K) (a:=l) (xs:=us) (fun i ys H'=>DV H H'/\ys=aj (ws.take i)) ⟨DV.refl H,rfl⟩ (fun i ys H' hi z=>by rw[z.2,zY,Af];omega) (ak (by omega)) (fun i ys H' hi z=>SqL.of (z.1 _ _ hl)) (fun i x ys H' hx z=>?_) (fun ys H' z p hp=>?_)
 ·obtain⟨z1,rfl⟩:=z;have hi:i<us.length:=(Ad.mp hx).1;obtain⟨cs,ec,h4⟩:=hm.at hx;have mc:=Am ec;refine⟨_,rfl,x,cs,rfl,hw.lr cs mc,hw.l1 cs mc,hw.l40 cs mc,h4.mono z1,fun H2 S2=>Nx.mk hi ⟨z1.trans S2,?_⟩⟩;rw[Az,ec];simp[aj]
 ·obtain⟨z1,rfl⟩:=z;have e:ws.take us.length=ws:=Av (by omega);rw[e];exact q p _ (z1.trans (af hp _)) DR
def cU (x w:List Nat):Bool:=Txt.endswith (txt x) (txt w)
def aD (ws:List (List Nat))(x:List Nat)(e:Nat):List (Nat×Nat):=(ws.zipIdx.filter fun p=>cU (x.take e) p.1).map fun p=>(p.2,e-p.1.length)
theorem dU(ws:List (List Nat))(w x:List Nat)(e:Nat):aD (ws++[w]) x e=aD ws x e++(if cU (x.take e) w=true then [(ws.length,e-w.length)] else []):=by
 unfold aD;rw[List.zipIdx_append,BG,Au]
 congr 1
 show((List.filter _ [(w,0+ws.length)]).map _)=_;rw[BQ,BH];split<;>rfl
theorem bO(x:List Nat)(e:Nat):Txt.slice (txt x) none (some (e:Int))=txt (x.take e):=by
 apply cQ;rw[cb,jB];rfl
abbrev Stp(H:Hp)(vs:List V)(ss:List (Nat×Nat)):Prop:=Paired (fun v s=>∃a,v=.ref a/\H a=some (.tup [.int ((s:Nat×Nat).1:Int),.int (s.2:Int)])) vs ss
theorem Stp.mono{H H':Hp}(S:DV H H'){vs:List V}{ss:List (Nat×Nat)}(h:Stp H vs ss):Stp H' vs ss:=Paired.GO h fun v s hq104=>by obtain⟨a,e,g⟩:=hq104;exact⟨a,e,S _ _ g⟩
def HE:Sp:=fun vs H Q _=>∃l ws x e,vs=[.ref l,.str (txt x),.int ((e:Nat):Int)]/\H l=some (.lst (aj ws))/\ws.length<=8/\(∀cs∈ws,cs.length<=40)/\x.length<=400/\(∀cs∈ws,cU (x.take e) cs=true->cs.length<=e) /\
 ∀p us H',DV H H'->H' p=some (.lst us)->Stp H' us (aD ws x e)->Q (.ref p) H'
theorem Hh:DT ["words","text","end","ahead"] ["words","text","end"] (ai (top 33)):=⟨rfl,rfl,rfl,by decide +kernel,rfl,by decide +kernel,by decide +kernel⟩
theorem qx{d:DD}(D:Def K mg "last_steps" (top 33) ["words","text","end"] d)(vj:mg "enumerate"=none)(vf:mg "len"=none):DY P w K mg base CX0 1 d.f d.fd ["words","text","end"] HE:=by
 refine D.fn.ok Hh (fun vs H Q E h=>?_) (fun cdv A outer s H vs Q E hr h=>?_)
 ·obtain⟨l,ws,x,e,rfl,_⟩:=h;rfl
 obtain⟨l,ws,x,e,rfl,hl,h8,h40,h400,hle,q⟩:=h;have hc:=hr.calm;have nd:=Hh.nd;refine⟨_,(@ae _ _ _ _ _ (@aq _ _ (3) _ _ _ _ nd rfl (Or.inr rfl) (@aZ _ _ _ _ _ _ _ _ _ _ Es (pv 1) (@Ei _) (@br _ _ _ (pv 2))) (by rfl) (by walk_at "i")) (@ah _ _ _ (@ay _ _ _ _ (@bB _ _ _ _ _ _ _ _ _ _ _ _ _ _ hc (ar (ts:=["number","word"]) (cap:=["end","ahead"]) (js:=[2,3]) rfl rfl rfl rfl rfl rfl (by decide +kernel)) (@nu _ _ _ _ _ _ _ _ rfl vj (@aE _ _ _ (pv 0) ax) (by rfl)) (fun _ _ _ _=>@eQ _ _ _ _ _ (2) K rfl hc (@aG _ _ _ _ _ (@ao _ _ (0) _ (show(["number","word","end","ahead"]:List Str).Nodup by decide +kernel) rfl (Or.inl rfl) (.inr rfl)) (@aG _ _ _ _ _ (@ao _ _ (1) _ (show(["number","word","end","ahead"]:List Str).Nodup by decide +kernel) rfl (Or.inl rfl) (.inr rfl)) (@ED _) (by rfl)) (by rfl)) (by rfl) (by rfl)) (fun _ _ _ _=>@ck _ _ _ (@bL _ _ _ (@kn _ _ _ _ _ _ _ _ _ _ _ _ K rfl Du PySem.F.slot_str_endswith PySem.F.type_str_endswith Hl (pv 3) (@aE _ _ _ (pv 1) ax) (by rfl) (by rfl) (by rfl) (by rfl) (by rfl)) (by intro _;rfl))) (fun _ _ _ _=>(@aP _ _ _ _ _ (@aa _ _ _ _ _ (pv 0) (@aE _ _ _ (@au _ _ _ _ _ _ _ _ Em (pv 2) (@aI _ _ _ _ _ _ DS rfl vf (pv 1) ax)) (by rfl)) ax))) (by intro _;rfl))))),?_⟩
 try dsimp only [bD,Cx.nox,Cx.En]
 refine⟨_,rfl,_,rfl,_,rfl,txt x,rfl,ak (by show x.length<=1000000;omega),?_⟩;rw[bO];refine⟨_,rfl,l,rfl,⟨_,SqL.of hl⟩,?_⟩;have el:(aj ws).length=ws.length:=zY ..;refine sO (K:=K) (a:=l) (xs:=aj ws) (fun i ys H'=>DV H H'/\ys.length<=i/\Stp H' ys (aD (ws.take i) x e)) ⟨DV.refl H,zX _,.nil⟩ (fun i ys H' hi z=>z.2.1) (ak (by omega)) (fun i ys H' hi z=>SqL.of (z.1 _ _ hl)) (fun i v ys H' p hx z hp=>?_) (fun ys H' z p hp=>?_)
 ·obtain⟨z1,z2,z3⟩:=z;have hi:i<(aj ws).length:=(Ad.mp hx).1;have hi':i<ws.length:=by omega
  have ev:v=.str (txt ws[i]):=by
   rw[Aj,Aa hi'] at hx;exact(Dq hx).symm
  subst ev;have S1:=af hp (.tup [.int (i:Int),.str (txt ws[i])]);refine⟨p,_,rfl,SqT.of DR,rfl,_,_,rfl,_,_,rfl,rfl,?_⟩;have hm:ws[i]∈ws:=AI hi';have et:ws.take (i+1)=ws.take i++[ws[i]]:=by rw[Az,Aa hi'];rfl
  have elt:(ws.take i).length=i:=by rw[Af];omega
  refine⟨_,rfl,rfl,_,rfl,txt (x.take e),txt ws[i],rfl,rfl,cU (x.take e) ws[i],rfl,?_⟩;have st:=dU (ws.take i) ws[i] x e;rw[<- et,elt] at st;cases hB:cU (x.take e) ws[i] with
  |false=>
   rw[hB] at st;show Nx (aj ws).length i (fun i ys H'=>DV H H'/\ys.length<=i/\Stp H' ys (aD (List.take i ws) x e)) ys _;refine Nx.mk hi ⟨z1.trans S1,by omega,?_⟩;rw[st];simpa using z3.mono S1
  |true=>
   rw[hB] at st;have h2:=hle _ hm hB;have h4:=h40 _ hm;refine⟨_,rfl,_,rfl,_,rfl,txt ws[i],rfl,ak (by show ws[i].length<=1000000;omega),_,_,rfl,rfl,ak (by show 2<=1000000;decide),fun a na=>?_⟩;have S2:=af na (.tup [.int (i:Int),.int ((e:Int)-((txt ws[i]).length:Nat))]);refine Nx.mk hi ⟨z1.trans (S1.trans S2),by rw[zZ];exact DI z2,?_⟩;rw[st];refine Paired.snoc ((z3.mono S1).mono S2) ⟨a,rfl,?_⟩;have e1:((e:Int)-((txt ws[i]).length:Nat))=((e-ws[i].length:Nat):Int):=by
    show(e:Int)-(ws[i].length:Nat)=_;omega
   show upd _ a (.tup [.int (i:Int),.int ((e:Int)-((txt ws[i]).length:Nat))]) a=some (.tup [.int (i:Int),.int ((e-ws[i].length:Nat):Int)]);rw[e1];exact DR
 ·obtain⟨z1,z2,z3⟩:=z;rw[el,Av (zX _)] at z3;exact q p _ _ (z1.trans (af hp _)) DR (z3.mono (af hp _))
theorem IA:bootBuiltins "sum"=some (.builtin "sum"):=by decide +kernel
structure Wok(ws:List (List Nat)):Prop where
 n8:ws.length<=8
 l1:∀cs∈ws,1<=cs.length
 l40:∀cs∈ws,cs.length<=40
theorem Wds.ok{ws:List (List Nat)}(h:Wds ws):Wok ws:=⟨h.n8,h.l1,h.l40⟩
theorem fJ{x w:List Nat}(h:cU x w=true):w.length<=x.length:=by
 unfold cU Txt.endswith at h;have:=Do (AK _ _▸h).1;have e1:(txt w).length=w.length:=rfl;have e2:(txt x).length=x.length:=rfl;omega
theorem eJ{x w:List Nat}{e:Nat}(h:cU (x.take e) w=true):w.length<=e:=by
 have:=fJ h;rw[Af] at this;omega
theorem eF{ws:List (List Nat)}{x:List Nat}{e:Nat}{s:Nat×Nat}(h:s∈aD ws x e):∃w,ws[s.1]?=some w/\cU (x.take e) w=true/\s.2=e-w.length:=by
 unfold aD at h;obtain⟨p,hp,rfl⟩:=Ax.mp h;obtain⟨hp,hb⟩:=Bl.mp hp;exact⟨p.1,Dc.mp hp,hb,rfl⟩
theorem bj{ws:List (List Nat)}(W:Wok ws){x:List Nat}{e:Nat}{s:Nat×Nat}(h:s∈aD ws x (e+1)):s.2<=e:=by
 obtain⟨w,hw,_,e2⟩:=eF h;have:=W.l1 w (Am hw);omega
def ba (ws:List (List Nat))(x:List Nat):Nat->List Int
 |0=>[1]
 |n+1=>ba ws x n++[((aD ws x (n+1)).map fun s=>(ba ws x n).getD s.2 0).sum]
theorem cj(ws:List (List Nat))(x:List Nat):∀n,(ba ws x n).length=n+1
 |0=>rfl
 |n+1=>by rw[ba,zZ,cj ws x n];rfl
abbrev ivs(ns:List Int):List V:=ns.map V.int
theorem Stp.at{H:Hp}:∀{vs:List V}{ss:List (Nat×Nat)}{i:Nat}{v:V},Stp H vs ss->vs[i]?=some v->∃s a,ss[i]?=some s/\v=.ref a/\H a=some (.tup [.int (s.1:Int),.int (s.2:Int)])
 |_,_,_,_,.nil,e=>by simp at e
 |_,_,0,_,.cons ⟨a,h1,h2⟩ _,e=>by simp at e;subst e;exact⟨_,a,rfl,h1,h2⟩
 |_,_,i+1,v,.cons _ r,e=>by
  obtain⟨s,a,h1,h2⟩:=Stp.at (i:=i) (v:=v) r (by simpa using e);exact⟨s,a,by simpa using h1,h2⟩
theorem oU{ns:List Int}{j:Nat}(h:j<ns.length):atI (ivs ns) ((j:Nat):Int)=some (.int (ns.getD j 0)):=by
 apply aQ;rw[Aj,Aa h,Aw,Aa h];rfl
def Hn:Sp:=fun vs H Q _=>∃l ws x,vs=[.ref l,.str (txt x)]/\H l=some (.lst (aj ws))/\Wok ws/\x.length<=400/\∀p H',DV H H'->H p=none->H' p=some (.lst (ivs (ba ws x x.length)))->Q (.ref p) H'
theorem Hk:DT ["words","text","ways","end"] ["words","text"] (ai (top 34)):=⟨rfl,rfl,rfl,by decide +kernel,rfl,by decide +kernel,by decide +kernel⟩
theorem qU{dl d:DD}(wV:Def K mg "last_steps" (top 33) ["words","text","end"] dl)(xA:DY P w K mg base CX0 1 dl.f dl.fd ["words","text","end"] HE)(D:Def K mg "ways_to_places" (top 34) ["words","text"] d)(vg:mg "range"=none)(vf:mg "len"=none)(yj:mg "sum"=none):DY P w K mg base CX0 2 d.f d.fd ["words","text"] Hn:=by
 refine D.fn.ok Hk (fun vs H Q E h=>?_) (fun cdv A outer s H vs Q E hr h=>?_)
 ·obtain⟨l,ws,x,rfl,_⟩:=h;rfl
 obtain⟨l,ws,x,rfl,hl,W,h400,q⟩:=h;have hc:=hr.calm;have nd:=Hk.nd;refine⟨_,(@ae _ _ _ _ _ (@aq _ _ (2) _ _ _ _ nd rfl (Or.inr rfl) (@bb _ _ _ _ (@aE _ _ _ (@ag _ _ _ _) aM)) (by rfl) (by walk_at "i")) (@ae _ _ _ _ _ (@bR _ _ _ _ _ _ _ _ PassesOwn.never hc (@eI _ _ _ _ _ _ _ rfl vg (@aa _ _ _ _ _ (@ag _ _ _ _) (@aE _ _ _ (@au _ _ _ _ _ _ _ _ Eb (@aI _ _ _ _ _ _ DS rfl vf (pv 1) ax) (@ag _ _ _ _)) (by rfl)) aM) (by rfl) (by rfl)) (@ao _ _ (3) _ nd rfl (Or.inl rfl) (by walk_at "i")) (@ah _ _ _ (@bH _ _ _ _ (@cP _ _ _ _ _ _ _ (pv 2) (@aF _ _ _ _ _ _ _ _ _ (gv hc) rfl yj IA (@aE _ _ _ (@bB _ _ _ _ _ _ _ _ _ _ _ _ _ _ hc (ar (ts:=["number","start"]) (cap:=["ways"]) (js:=[2]) rfl rfl rfl rfl rfl rfl (by decide +kernel)) (@aV _ _ _ _ (@aR _ _ _ _ _ _ _ _ _ _ _ _ _ wV xA (by decide) hr rfl (@aa _ _ _ _ _ (pv 0) (@aa _ _ _ _ _ (pv 1) (@aE _ _ _ (pv 3) ax) ax) ax) (by decide) (by rfl) (by rfl))) (fun _ _ _ _=>@eQ _ _ _ _ _ (2) K rfl hc (@aG _ _ _ _ _ (@ao _ _ (0) _ (show(["number","start","ways"]:List Str).Nodup by decide +kernel) rfl (Or.inl rfl) (.inr rfl)) (@aG _ _ _ _ _ (@ao _ _ (1) _ (show(["number","start","ways"]:List Str).Nodup by decide +kernel) rfl (Or.inl rfl) (.inr rfl)) (@ED _) (by rfl)) (by rfl)) (by rfl) (by rfl)) (fun _ _ _ _=>@bq _) (fun _ _ _ _=>(@aO _ _ _ _ _ _ _ (show IxR _ (ke K) from DW) (pv 2) (pv 1) (fun _ _=>rfl))) (by intro _;rfl)) (by rfl)) (by decide) (by decide) (by rfl) (by rfl)) cy (by rfl) (by rfl) (by rfl)) (by rfl))) (by intro _;rfl)) (@ah _ _ _ (@ay _ _ _ _ (pv 2))))),?_⟩
 try dsimp only [bD,Cx.nox,Cx.En]
 refine⟨ak (by show 1<=1000000;decide),fun L nL=>?_⟩;have F0:=(Hs.start H).new nL (.lst [.int 1]);refine⟨_,rfl,txt x,rfl,ak (by show x.length<=1000000;walk_at "o"),_,_,rfl,rfl,?_⟩;have big:x.length<2^62:=by omega
 refine⟨1,((txt x).length:Nat)+1,rfl,⟨by decide,by decide,by show -(2^62)<=((x.length:Nat):Int)+1;omega,by show((x.length:Nat):Int)+1<2^62;omega⟩,?_⟩;have en:((((txt x).length:Nat):Int)+1-1).toNat=x.length:=by show(((x.length:Nat):Int)+1-1).toNat=_;omega
 rw[en];refine⟨fun i m σ H'=>m=x.length-i/\i<=x.length/\(∃e',σ=[some (.ref l),some (.str (txt x)),some (.ref L),e'])/\Hs H [(L,.lst (ivs (ba ws x i)))] H',⟨_,rfl,Ah _,⟨_,rfl⟩,F0⟩,fun i m σ H' z=>?_⟩;obtain⟨rfl,hi,⟨e',rfl⟩,F⟩:=z;have hlL:l≠L:=az hl nL;by_cases hend:i=x.length
 ·subst hend;exact .inl ⟨zX _,_,rfl,q L H' F.all nL (F.get 0)⟩
 have hlt:i<x.length:=by omega
 refine .inr ⟨hlt,fun σ' H''=>(∃e',σ'=[some (.ref l),some (.str (txt x)),some (.ref L),e'])/\Hs H [(L,.lst (ivs (ba ws x (i+1))))] H'',fun σ' H'' z=>⟨x.length-(i+1),by omega,rfl,hlt,z.1,z.2⟩,fun v H'' z=>?_⟩;obtain⟨rfl,ev⟩:=z;obtain rfl:v=.int ((i+1:Nat):Int):=by rw[ev];congr 1;omega
 have wl:=cj ws x i;refine⟨_,rfl,.inl ⟨rfl,_,SqL.of (F.get 0)⟩,_,rfl,_,rfl,_,rfl,l,ws,x,i+1,rfl,F.all _ _ hl,W.n8,W.l40,h400,fun cs _ h=>eJ h,fun p us H1 S1 hp hs=>⟨p,rfl,⟨_,SqL.of hp⟩,?_⟩⟩;have sl:(aD ws x (i+1)).length<=8:=by
  unfold aD;rw[zY];refine Ap (Bu _ _) ?_;rw[Ct];exact W.n8
 have eu:=Paired.length hs;refine cM (K:=K) (a:=p) (xs:=us) (fun k ys H2=>DV H1 H2/\ys=ivs (((aD ws x (i+1)).take k).map fun s=>(ba ws x i).getD s.2 0)) ⟨DV.refl H1,rfl⟩ (fun k ys H2 hk z=>by rw[z.2,zY,zY,Af];omega) (ak (by omega)) (fun k ys H2 hk z=>SqL.of (z.1 _ _ hp)) (fun k v ys H2 hv z=>?_) (fun ys H2 z p' hp'=>?_)
 ·obtain⟨z1,rfl⟩:=z;have hk:k<us.length:=(Ad.mp hv).1;obtain⟨s',a,es,rfl,ha⟩:=hs.at hv;have hst:=bj W (Am es);refine⟨a,_,rfl,SqT.of (z1 _ _ ha),rfl,_,_,rfl,_,_,rfl,rfl,?_⟩;refine⟨_,rfl,_,rfl,L,_,_,_,rfl,rfl,SqL.of (z1 _ _ (S1 _ _ (F.get 0))),oU (by omega),Nx.mk hk ⟨z1,?_⟩⟩;rw[Az,es];simp[ivs]
 ·obtain⟨z1,rfl⟩:=z;rw[eu,Av (zX _)];refine⟨p',_,rfl,SqL.of DR,L,ivs (ba ws x i),_,rfl,rfl,?_,?_,?_⟩
  ·exact af hp' _ _ _ (z1 _ _ (S1 _ _ (F.get 0)))
  ·refine Ak (show _<1000000 from ?_) (ak (zX _));rw[zY];omega
  ·refine⟨⟨_,rfl⟩,?_⟩;have F1:=F.mono (S1.trans (z1.trans (af hp' (.lst (ivs ((aD ws x (i+1)).map fun s=>(ba ws x i).getD s.2 0))))));have F2:=F1.put 0 (.lst (ivs (ba ws x (i+1))));rw[ba] at F2 ⊢;simpa [ivs] using F2
def KC:Sp:=fun vs H Q _=>∃r ns,vs=[.ref r]/\H r=some (.lst (ivs ns))/\∀p,H p=none->Q (.ref p) (upd H p (.tup [.int ((ns.length:Nat):Int),.ref r]))
theorem Jt:DT ["row"] ["row"] (ai (top 35)):=⟨rfl,rfl,rfl,by decide +kernel,rfl,by decide +kernel,by decide +kernel⟩
theorem tL{d:DD}(D:Def K mg "shortest_first" (top 35) ["row"] d)(vf:mg "len"=none):DY P w K mg base CX0 1 d.f d.fd ["row"] KC:=by
 refine D.fn.ok Jt (fun vs H Q E h=>?_) (fun cdv A outer s H vs Q E hr h=>?_)
 ·obtain⟨r,ns,rfl,_⟩:=h;rfl
 obtain⟨r,ns,rfl,h,q⟩:=h;have hc:=hr.calm;have nd:=Jt.nd;refine⟨_,(@ah _ _ _ (@ay _ _ _ _ (@aP _ _ _ _ _ (@aa _ _ _ _ _ (@aI _ _ _ _ _ _ Ea rfl vf (pv 0) ax) (@aE _ _ _ (pv 0) ax) cy)))),?_⟩
 try dsimp only [bD,Cx.nox,Cx.En]
 refine⟨_,rfl,r,_,rfl,.inl (SqL.of h),_,rfl,ak (by show 2<=1000000;decide),fun p hp=>?_⟩;have z:=q p hp;rw[<- zY (f:=V.int) (as:=ns)] at z;exact z
def Rw (H0 H:Hp)(X:Addr)(v:V)(o:Option (List Int)):Prop:=(o=none/\v=.non)\/∃a ns,o=some ns/\v=.ref a/\H0 a=none/\a≠X/\H a=some (.lst (ivs ns))
abbrev Rws(H0 H:Hp)(X:Addr)(us:List V)(L:List (Option (List Int))):Prop:=Paired (Rw H0 H X) us L
theorem Rws.mono{H0 H H':Hp}{X:Addr}(S:DV H H'){us:List V}{L:List (Option (List Int))}(h:Rws H0 H X us L):Rws H0 H' X us L:=
 Paired.GO h fun v o h=>h.elim .inl fun hq105=>by obtain⟨a,ns,h1,h2,h3,h4,h5⟩:=hq105;exact .inr ⟨a,ns,h1,h2,h3,h4,S _ _ h5⟩
theorem Rws.put{H0 H:Hp}{X:Addr}(u:HO){us:List V}{L:List (Option (List Int))}(h:Rws H0 H X us L):Rws H0 (upd H X u) X us L:=
 Paired.GO h fun v o h=>h.elim .inl fun hq106=>by obtain⟨a,ns,h1,h2,h3,h4,h5⟩:=hq106;exact .inr ⟨a,ns,h1,h2,h3,h4,by rw[av h4];exact h5⟩
theorem Rws.at{H0 H:Hp}{X:Addr}:∀{us:List V}{L:List (Option (List Int))}{i:Nat},Rws H0 H X us L->i<L.length->∃v,us[i]?=some v/\Rw H0 H X v (L.getD i none)
 |_,_,_,.nil,h=>absurd h (by simp)
 |_,_,0,.cons h _,_=>⟨_,rfl,h⟩
 |_,_,i+1,.cons _ r,h=>by
  obtain⟨v,h1,h2⟩:=Rws.at (i:=i) r (by simpa using h);exact⟨v,by simpa using h1,by simpa using h2⟩
def lO (ws:List (List Nat))(x:List Nat)(L:List (Option (List Int)))(e:Nat):List (List Int):=(aD ws x e).filterMap fun s=>(L.getD s.2 none).map fun r=>r++[(s.1:Int)]
inductive Lst(ws:List (List Nat))(x:List Nat):Nat->List (Option (List Int))->Prop
 |zero:Lst ws x 0 [some []]
 |miss {n:Nat}{L:List (Option (List Int))}:Lst ws x n L->lO ws x L (n+1)=[]->Lst ws x (n+1) (L++[none])
 |hit {n:Nat}{L:List (Option (List Int))}{r:List Int}:Lst ws x n L->r∈lO ws x L (n+1)->(∀r'∈lO ws x L (n+1),kLt r' r=false)->Lst ws x (n+1) (L++[some r])
theorem Lst.len{ws:List (List Nat)}{x:List Nat}{n:Nat}{L:List (Option (List Int))}(h:Lst ws x n L):L.length=n+1:=by
 induction h with
 |zero=>rfl
 |miss _ _ ih=>rw[zZ,ih];rfl
 |hit _ _ _ ih=>rw[zZ,ih];rfl
theorem fz(L:List (Option (List Int))):∀ss:List (Nat×Nat),((ss.filter fun s=>(L.getD s.2 none).isSome).map fun s=>(L.getD s.2 none).getD []++[(s.1:Int)])=ss.filterMap fun s=>(L.getD s.2 none).map fun r=>r++[(s.1:Int)]
 |[]=>rfl
 |s::ss=>by
  have ih:=fz L ss;cases h:L.getD s.2 none with
  |none=>rw[List.filter_cons_of_neg (by rw[h];simp),ih,List.filterMap_cons_none (by rw[h];rfl)]
  |some r=>rw[List.filter_cons_of_pos (by rw[h];rfl),AH,ih,List.filterMap_cons_some (b:=r++[(s.1:Int)]) (by rw[h];rfl),h];rfl
theorem bQ{α:Type}(L:List α)(y d:α)(i:Nat):(L++[y]).getD i d=if i<L.length then L.getD i d else if i=L.length then y else d:=by
 rw[Aw,Aw];by_cases h:i<L.length
 ·rw[Di h,Bw h]
 ·rw[Dh h,AZ (by omega)];by_cases h2:i=L.length
  ·rw[Di h2,h2,Cd];rfl
  ·rw[Dh h2,BZ (by show 1<=_;omega)];rfl
theorem Lst.bound{ws:List (List Nat)}(W:Wok ws){x:List Nat}{n:Nat}{L:List (Option (List Int))}(h:Lst ws x n L):∀(i:Nat)(r:List Int),L.getD i none=some r->r.length<=i:=by
 induction h with
 |zero=>
  intro i r e
  match i,e with
  |0,e=>cases e;exact zX _
  |i+1,e=>exact absurd e (by simp)
 |miss h _ ih=>
  intro i r e;rw[bQ] at e;split at e
  ·exact ih i r e
  ·split at e<;>cases e
 |@hit n L r0 h hr _ ih=>
  intro i r e;rw[bQ] at e;split at e
  ·exact ih i r e
  ·split at e
   ·rename_i h1 h2;cases e;obtain⟨s,hs,es⟩:=AX.mp hr;have h3:=bj W hs;have h4:=h.len;cases q:L.getD s.2 none with
    |none=>rw[q] at es;cases es
    |some r1=>
     rw[q] at es;have es':r1++[(s.1:Int)]=r0:=by simpa using es
     have:=ih _ _ q;rw[<- es',zZ];show r1.length+1<=i;omega
   ·cases e
def JJ:Sp:=fun vs H Q _=>∃l ws x,vs=[.ref l,.str (txt x)]/\H l=some (.lst (aj ws))/\Wok ws/\x.length<=400/\∀p us L H',DV H H'->H' p=some (.lst us)->Rws H H' p us L->Lst ws x x.length L->Q (.ref p) H'
theorem Iy:DT ["words","text","least","end","steps","rows"] ["words","text"] (ai (top 36)):=⟨rfl,rfl,rfl,by decide +kernel,rfl,by decide +kernel,by decide +kernel⟩
theorem rV{dl df d:DD}(wV:Def K mg "last_steps" (top 33) ["words","text","end"] dl)(xA:DY P w K mg base CX0 1 dl.f dl.fd ["words","text","end"] HE)(D_sf:Def K mg "shortest_first" (top 35) ["row"] df)(G_sf:DY P w K mg base CX0 1 df.f df.fd ["row"] KC)(D:Def K mg "least_to_places" (top 36) ["words","text"] d)(vg:mg "range"=none)(vf:mg "len"=none)(xG:mg "min"=none):DY P w K mg base CX0 3 d.f d.fd ["words","text"] JJ:=by
 refine D.fn.ok Iy (fun vs H Q E h=>?_) (fun cdv A outer s H vs Q E hr h=>?_)
 ·obtain⟨l,ws,x,rfl,_⟩:=h;rfl
 obtain⟨l,ws,x,rfl,hl,W,h400,q⟩:=h;have hc:=hr.calm;have nd:=Iy.nd;refine⟨_,(@ae _ _ _ _ _ (@aq _ _ (2) _ _ _ _ nd rfl (Or.inr rfl) (@bb _ _ _ _ (@aE _ _ _ (@bb _ _ _ _ (@Ed _)) (by rfl))) (by rfl) (by walk_at "i")) (@ae _ _ _ _ _ (@bR _ _ _ _ _ _ _ _ PassesOwn.never hc (@eI _ _ _ _ _ _ _ rfl vg (@aa _ _ _ _ _ (@ag _ _ _ _) (@aE _ _ _ (@au _ _ _ _ _ _ _ _ Eb (@aI _ _ _ _ _ _ DS rfl vf (pv 1) ax) (@ag _ _ _ _)) (by rfl)) aM) (by rfl) (by rfl)) (@ao _ _ (3) _ nd rfl (Or.inl rfl) (by walk_at "i")) (@ae _ _ _ _ _ (@cC _ _ _ _ _ _ _ _ _ _ _ _ _ _ (4) _ _ _ hc (ar (ts:=["number","start"]) (cap:=["least"]) (js:=[2]) rfl rfl rfl rfl rfl rfl (by decide +kernel)) (@aV _ _ _ _ (@aR _ _ _ _ _ _ _ _ _ _ _ _ _ wV xA (by decide) hr rfl (@aa _ _ _ _ _ (pv 0) (@aa _ _ _ _ _ (pv 1) (@aE _ _ _ (pv 3) ax) ax) ax) (by decide) (by rfl) (by rfl))) (fun _ _ _ _=>@eQ _ _ _ _ _ (2) K rfl hc (@aG _ _ _ _ _ (@ao _ _ (0) _ (show(["number","start","least"]:List Str).Nodup by decide +kernel) rfl (Or.inl rfl) (.inr rfl)) (@aG _ _ _ _ _ (@ao _ _ (1) _ (show(["number","start","least"]:List Str).Nodup by decide +kernel) rfl (Or.inl rfl) (.inr rfl)) (@ED _) (by rfl)) (by rfl)) (by rfl) (by rfl)) (fun _ _ _ _=>@ck _ _ _ (@aB _ _ _ _ _ _ _ _ FJ (@aO _ _ _ _ _ _ _ (show IxR _ (ke K) from DW) (pv 2) (pv 1) (fun _ _=>rfl)) (@bK _ _ _) (aC _))) (fun _ _ _ _=>(@aP _ _ _ _ _ (@aa _ _ _ _ _ (pv 0) (@aE _ _ _ (pv 1) ax) ax))) nd rfl (Or.inl rfl) rfl (by intro _;rfl) (by walk_at "i")) (@ae _ _ _ _ _ (@cC _ _ _ _ _ _ _ _ _ _ _ _ _ _ (5) _ _ _ hc (ar (ts:=["number","start"]) (cap:=["least"]) (js:=[2]) rfl rfl rfl rfl rfl rfl (by decide +kernel)) (@aV _ _ _ _ (pv 4)) (fun _ _ _ _=>@eQ _ _ _ _ _ (2) K rfl hc (@aG _ _ _ _ _ (@ao _ _ (0) _ (show(["number","start","least"]:List Str).Nodup by decide +kernel) rfl (Or.inl rfl) (.inr rfl)) (@aG _ _ _ _ _ (@ao _ _ (1) _ (show(["number","start","least"]:List Str).Nodup by decide +kernel) rfl (Or.inl rfl) (.inr rfl)) (@ED _) (by rfl)) (by rfl)) (by rfl) (by rfl)) (fun _ _ _ _=>@bq _) (fun _ _ _ _=>(@au _ _ _ _ _ _ _ _ Ga (@aO _ _ _ _ _ _ _ (show IxR _ (ke K) from DW) (pv 2) (pv 1) (fun _ _=>rfl)) (@bb _ _ _ _ (@aE _ _ _ (pv 0) ax)))) nd rfl (Or.inl rfl) rfl (by intro _;rfl) (by walk_at "i")) (@ah _ _ _ (@bH _ _ _ _ (@cP _ _ _ _ _ _ _ (pv 2) (@kg _ _ _ _ _ _ _ _ _ _ _ _ (md (nh (G_sf.mono (by decide)) hr D_sf.b (fun r ns H Q h q=>⟨r,ns,rfl,h,q⟩)) hc hr.units) rfl xG Hv (@aE _ _ _ (pv 5) ax) (@lW _ _ _ _ _ _ _ (@aX _ _ (.ref df.f) _ _ rfl D_sf.m rfl (by decide)) (@lW _ _ _ _ _ _ _ (@bK _ _ _) (@JL _))) (by rfl) (by rfl) (by decide) (by decide) (by rfl) (by rfl)) cy (by rfl) (by rfl) (by rfl)) (by rfl))))) (by intro _;rfl)) (@ah _ _ _ (@ay _ _ _ _ (pv 2))))),?_⟩
 try dsimp only [bD,Cx.nox,Cx.En]
 refine⟨Ah _,fun L0 nL0=>⟨ak (by show 1<=1000000;decide),fun LA nLA=>?_⟩⟩;have n0:LA≠L0:=fun z=>by rw[z,DR] at nLA;cases nLA
 have SA:DV H (upd (upd H L0 (.lst [])) LA (.lst [.ref L0])):=(af nL0 _).trans (af nLA _);have nA:H LA=none:=by rw[av n0] at nLA;exact nLA
 have R0:Rws H (upd (upd H L0 (.lst [])) LA (.lst [.ref L0])) LA [.ref L0] [some []]:=.cons (.inr ⟨L0,[],rfl,rfl,nL0,DC n0,by rw[av (DC n0)];exact DR⟩) .nil;have gA:upd (upd H L0 (.lst [])) LA (.lst [.ref L0]) LA=some (.lst [.ref L0]):=DR;generalize upd (upd H L0 (.lst [])) LA (.lst [.ref L0])=HA at SA R0 gA;refine⟨_,rfl,txt x,rfl,ak (by show x.length<=1000000;walk_at "o"),_,_,rfl,rfl,?_⟩;have big:x.length<2^62:=by omega
 refine⟨1,((txt x).length:Nat)+1,rfl,⟨by decide,by decide,by show -(2^62)<=((x.length:Nat):Int)+1;omega,by show((x.length:Nat):Int)+1<2^62;omega⟩,?_⟩;have en:((((txt x).length:Nat):Int)+1-1).toNat=x.length:=by show(((x.length:Nat):Int)+1-1).toNat=_;omega
 rw[en];refine⟨fun i m σ H'=>m=x.length-i/\i<=x.length/\(∃e' s' r',σ=[some (.ref l),some (.str (txt x)),some (.ref LA),e',s',r'])/\∃us L,DV H H'/\H' LA=some (.lst us)/\Rws H H' LA us L/\Lst ws x i L,⟨_,rfl,Ah _,⟨_,_,_,rfl⟩,_,_,SA,gA,R0,.zero⟩,fun i m σ H' z=>?_⟩;obtain⟨rfl,hi,⟨e',s',r',rfl⟩,us,L,SH,hA,hR,hL⟩:=z;by_cases hend:i=x.length
 ·subst hend;exact .inl ⟨zX _,_,rfl,q LA us L H' SH hA hR hL⟩
 have hlt:i<x.length:=by omega
 refine .inr ⟨hlt,fun σ' H''=>(∃e' s' r',σ'=[some (.ref l),some (.str (txt x)),some (.ref LA),e',s',r'])/\∃us L,DV H H''/\H'' LA=some (.lst us)/\Rws H H'' LA us L/\Lst ws x (i+1) L,fun σ' H'' z=>⟨x.length-(i+1),by omega,rfl,hlt,z.1,z.2⟩,fun v H'' z=>?_⟩;obtain⟨rfl,ev⟩:=z;obtain rfl:v=.int ((i+1:Nat):Int):=by rw[ev];congr 1;omega
 have Ll:=hL.len;have Lu:=Paired.length hR;refine⟨_,rfl,_,rfl,_,rfl,l,ws,x,i+1,rfl,SH _ _ hl,W.n8,W.l40,h400,fun cs _ h=>eJ h,fun p us0 H1 S1 hp hs=>⟨p,rfl,⟨_,SqL.of hp⟩,?_⟩⟩;have sl:(aD ws x (i+1)).length<=8:=by
  unfold aD;rw[zY];refine Ap (Bu _ _) ?_;rw[Ct];exact W.n8
 have eu:=Paired.length hs;refine cM (K:=K) (a:=p) (xs:=us0) (fun k ys H2=>DV H1 H2/\ys.length<=k/\Stp H2 ys (((aD ws x (i+1)).take k).filter fun s=>(L.getD s.2 none).isSome)) ⟨DV.refl H1,zX _,.nil⟩ (fun k ys H2 hk z=>z.2.1) (ak (by omega)) (fun k ys H2 hk z=>SqL.of (z.1 _ _ hp)) (fun k v ys H2 hv z=>?_) (fun us1 H2 z p1 hp1=>?_)
 ·obtain⟨z1,z2,z3⟩:=z;have hk:k<us0.length:=(Ad.mp hv).1;obtain⟨s',a,es,rfl,ha⟩:=hs.at hv;have hst:=bj W (Am es);have et:(aD ws x (i+1)).take (k+1)=(aD ws x (i+1)).take k++[s']:=by rw[Az,es];rfl
  obtain⟨v',ev',rv'⟩:=hR.at (i:=s'.2) (by omega);refine⟨a,_,rfl,SqT.of (z1 _ _ ha),rfl,_,_,rfl,_,_,rfl,rfl,?_⟩;refine⟨_,rfl,_,rfl,LA,us,_,v',rfl,rfl,SqL.of (z1 _ _ (S1 _ _ hA)),aQ ev',rfl,!decide (v'=.non),rfl,?_⟩;rcases rv' with ⟨eo,rfl⟩|⟨a',ns,eo,rfl,_⟩
  ·show Nx us0.length k (fun k ys H2=>DV H1 H2/\ys.length<=k/\Stp H2 ys (((aD ws x (i+1)).take k).filter fun s=>(L.getD s.2 none).isSome)) ys _;refine Nx.mk hk ⟨z1,by omega,?_⟩;rw[et,BG,BH,eo];simpa using z3
  ·refine⟨_,rfl,_,rfl,ak (by show 2<=1000000;decide),fun a2 na2=>Nx.mk hk ⟨z1.trans (af na2 _),by rw[zZ];exact DI z2,?_⟩⟩;rw[et,BG,BH,eo];exact Paired.snoc (z3.mono (af na2 _)) ⟨a2,rfl,DR⟩
 obtain⟨z1,z2,z3⟩:=z;rw[eu,Av (zX _)] at z3;have S2:DV H'' (upd H2 p1 (.lst us1)):=S1.trans (z1.trans (af hp1 _));have hs1:=z3.mono (af hp1 (.lst us1));have hp1':upd H2 p1 (.lst us1) p1=some (.lst us1):=DR;generalize upd H2 p1 (.lst us1)=H3 at S2 hs1 hp1';generalize hss:(aD ws x (i+1)).filter (fun s=>(L.getD s.2 none).isSome)=ss at hs1;have eu1:=Paired.length hs1;have sl1:ss.length<=8:=by rw[<- hss];exact Ap (Bu _ _) sl
 have mss:∀s∈ss,s.2<=i/\∃r,L.getD s.2 none=some r:=fun s h=>by
  rw[<- hss] at h;obtain⟨h1,h2⟩:=Bl.mp h;exact⟨bj W h1,Bv.mp h2⟩
 refine⟨_,rfl,p1,rfl,⟨_,SqL.of hp1'⟩,?_⟩;refine cM (K:=K) (a:=p1) (xs:=us1) (fun k ys H4=>DV H3 H4/\∃ps:List (Addr×List Int),ys=(ps.map fun p=>V.ref p.1)/\ps.map (·.2)=((ss.take k).map fun s=>(L.getD s.2 none).getD []++[(s.1:Int)])/\∀p∈ps,H p.1=none/\p.1≠LA/\H4 p.1=some (.lst (p.2.map V.int))) ⟨DV.refl H3,[],rfl,rfl,fun p h=>absurd h (by simp)⟩ (fun k ys H2 hk z=>?_) (ak (by omega)) (fun k ys H2 hk z=>SqL.of (z.1 _ _ hp1')) (fun k v ys H4 hv z=>?_) (fun ys H4 z p2 hp2=>?_)
 ·obtain⟨_,ps,rfl,h2,_⟩:=z;have:=congrArg List.length h2;rw[zY,zY,Af] at this;rw[zY];omega
 ·obtain⟨w1,ps,rfl,w2,w3⟩:=z;have hk:k<us1.length:=(Ad.mp hv).1;obtain⟨s',a,es,rfl,ha⟩:=hs1.at hv;obtain⟨hst,r,er⟩:=mss _ (Am es);have et:ss.take (k+1)=ss.take k++[s']:=by rw[Az,es];rfl
  obtain⟨v',ev',rv'⟩:=hR.at (i:=s'.2) (by omega);rw[er] at rv';rcases rv' with ⟨eo,rfl⟩|⟨a',ns,eo,rfl,hn',na',ha'⟩
  ·cases eo
  cases eo;have hb:=hL.bound W _ _ er;refine⟨a,_,rfl,SqT.of (w1 _ _ ha),rfl,_,_,rfl,_,_,rfl,rfl,?_⟩;refine⟨_,rfl,_,rfl,LA,us,_,.ref a',rfl,rfl,SqL.of (w1 _ _ (S2 _ _ hA)),aQ ev',_,rfl,ak (by show 1<=1000000;decide),fun b nb=>?_⟩;refine⟨a',b,ivs r,[.int (s'.1:Int)],rfl,rfl,af nb _ _ _ (w1 _ _ (S2 _ _ ha')),DR,ak (by rw[zY];show r.length+1<=1000000;omega),fun c nc=>Nx.mk hk ⟨w1.trans ((af nb _).trans (af nc _)),ps++[(c,r++[(s'.1:Int)])],?_,?_,fun p h=>?_⟩⟩
  ·rw[Au];rfl
  ·rw[et,Au,Au,w2,AH,AH,er];rfl
  ·rcases Ai.mp h with h|h
   ·obtain⟨a1,a2,a3⟩:=w3 p h;exact⟨a1,a2,af nc _ _ _ (af nb _ _ _ a3)⟩
   ·rw[AA.mp h];have fc:=(af nb _).free nc;have f3:H c=none:=(SH.trans (S2.trans w1)).free fc;refine⟨f3,fun z=>?_,?_⟩
    ·have:=w1 _ _ (S2 _ _ hA);rw[<- z,fc] at this;cases this
    ·show upd _ c (.lst (ivs r++[.int (s'.1:Int)])) c=some (.lst ((r++[(s'.1:Int)]).map V.int));rw[DR,Au];rfl
 obtain⟨w1,ps,rfl,w2,w3⟩:=z;rw[eu1,Av (zX _),<- hss,fz] at w2;have hcd:ps.map (·.2)=lO ws x L (i+1):=w2;have S3:DV H'' (upd H4 p2 (.lst (ps.map fun p=>V.ref p.1))):=S2.trans (w1.trans (af hp2 _));have S4:=af hp2 (.lst (ps.map fun p=>V.ref p.1));have w3':∀p∈ps,H p.1=none/\p.1≠LA/\upd H4 p2 (.lst (ps.map fun p=>V.ref p.1)) p.1=some (.lst (p.2.map V.int)):=fun p h=>⟨(w3 p h).1,(w3 p h).2.1,S4 _ _ (w3 p h).2.2⟩
 have lz:us.length<sizeLine:=Ak (show _<1000000 by omega) (ak (zX _));refine⟨_,rfl,.inl ⟨rfl,_,SqL.of (S3 _ _ hA)⟩,_,rfl,p2,ps,rfl,rfl,DR,fun p h=>(w3' p h).2.2,fun ep=>?_,fun p H5 hp5 hmin S5=>?_⟩
 ·refine⟨LA,us,_,rfl,rfl,S3 _ _ hA,lz,⟨_,_,_,rfl⟩,us++[.non],L++[none],?_,DR,?_,.miss hL (by rw[<- hcd,ep];rfl)⟩
  ·intro b o h;rw[av (az h nA)];exact S3 _ _ (SH _ _ h)
  ·exact Paired.snoc ((hR.mono S3).put _) (.inl ⟨rfl,rfl⟩)
 ·have S6:=S3.trans S5;refine⟨LA,us,_,rfl,rfl,S6 _ _ hA,lz,⟨_,_,_,rfl⟩,us++[.ref p.1],L++[some p.2],?_,DR,?_,.hit hL (by rw[<- hcd];exact List.mem_map_of_mem hp5) (fun r' hr'=>?_)⟩
  ·intro b o h;rw[av (az h nA)];exact S6 _ _ (SH _ _ h)
  ·obtain⟨a1,a2,a3⟩:=w3' p hp5;exact Paired.snoc ((hR.mono S6).put _) (.inr ⟨p.1,p.2,rfl,rfl,a1,a2,by rw[av a2];exact S5 _ _ a3⟩)
  ·rw[<- hcd] at hr';obtain⟨p',hp',rfl⟩:=Ax.mp hr';exact hmin p' hp'
def plc (ns:List Int)(k:Nat):List Int:=((List.range k).filter fun j=>decide (0<ns.getD j 0)).map fun(j:Nat)=>(j:Int)
def KG:Sp:=fun vs H Q _=>∃l ws x,vs=[.ref l,.str (txt x)]/\H l=some (.lst (aj ws))/\Wok ws/\x.length<=400/\∀p H',DV H H'->H p=none->H' p=some (.lst (ivs (plc (ba ws x x.length) (x.length+1))))->Q (.ref p) H'
theorem Js:DT ["words","text"] ["words","text"] (ai (top 37)):=⟨rfl,rfl,rfl,by decide +kernel,rfl,by decide +kernel,by decide +kernel⟩
theorem uh{dx d:DD}(D_wy:Def K mg "ways_to_places" (top 34) ["words","text"] dx)(G_wy:DY P w K mg base CX0 2 dx.f dx.fd ["words","text"] Hn)(D:Def K mg "reached_places" (top 37) ["words","text"] d)(vj:mg "enumerate"=none):DY P w K mg base CX0 3 d.f d.fd ["words","text"] KG:=by
 refine D.fn.ok Js (fun vs H Q E h=>?_) (fun cdv A outer s H vs Q E hr h=>?_)
 ·obtain⟨l,ws,x,rfl,_⟩:=h;rfl
 obtain⟨l,ws,x,rfl,hl,hw,h400,q⟩:=h;have hc:=hr.calm;have nd:=Js.nd;refine⟨_,(@ah _ _ _ (@ay _ _ _ _ (@bB _ _ _ _ _ _ _ _ _ _ _ _ _ _ hc (ar (ts:=["place","many"]) (cap:=[]) (js:=[]) rfl rfl rfl rfl rfl rfl (by decide +kernel)) (@nu _ _ _ _ _ _ _ _ rfl vj (@aE _ _ _ (@aR _ _ _ _ _ _ _ _ _ _ _ _ _ D_wy G_wy (by decide) hr rfl (@aa _ _ _ _ _ (pv 0) (@aE _ _ _ (pv 1) ax) ax) (by decide) (by rfl) (by rfl)) cy) (by rfl)) (fun _ _ _ _=>@eQ _ _ _ _ _ (2) K rfl hc (@aG _ _ _ _ _ (@ao _ _ (0) _ (show(["place","many"]:List Str).Nodup by decide +kernel) rfl (Or.inl rfl) (.inr rfl)) (@aG _ _ _ _ _ (@ao _ _ (1) _ (show(["place","many"]:List Str).Nodup by decide +kernel) rfl (Or.inl rfl) (.inr rfl)) (@ED _) (by rfl)) (by rfl)) (by rfl) (by rfl)) (fun _ _ _ _=>@ck _ _ _ (@aB _ _ _ _ _ _ _ _ GP (pv 1) (@ag _ _ _ _) (aC _))) (fun _ _ _ _=>(pv 0)) (by intro _;rfl)))),?_⟩
 try dsimp only [bD,Cx.nox,Cx.En]
 refine⟨_,rfl,_,rfl,l,ws,x,rfl,hl,hw,h400,fun p H3 S3 n3 g3=>⟨p,rfl,⟨_,SqL.of g3⟩,?_⟩⟩;have wl:=cj ws x x.length;generalize ba ws x x.length=ns at g3 wl q;have SS:=S3;have el:(ivs ns).length=x.length+1:=by rw[zY,wl]
 refine sO (K:=K) (a:=p) (xs:=ivs ns) (fun i ys H'=>DV H3 H'/\ys.length<=i/\ys=ivs (plc ns i)) ⟨DV.refl H3,zX _,rfl⟩ (fun i ys H' hi z=>z.2.1) (ak (by omega)) (fun i ys H' hi z=>SqL.of (z.1 _ _ g3)) (fun i v ys H' p' hx z hp=>?_) (fun ys H' z p' hp=>?_)
 ·obtain⟨z1,z2,rfl⟩:=z;have hi:i<(ivs ns).length:=(Ad.mp hx).1;have ev:v=.int (ns.getD i 0):=by
   rw[Aj,Aa (by omega)] at hx;rw[Aw,Aa (by omega)];exact(Dq hx).symm
  subst ev;have S4:=af hp (.tup [.int (i:Int),.int (ns.getD i 0)]);have ep:plc ns (i+1)=plc ns i++(if decide (0<ns.getD i 0)=true then [(i:Int)] else []):=by
   unfold plc;rw[CA,BG,Au,BH];split<;>rfl
  refine⟨p',_,rfl,SqT.of DR,rfl,_,_,rfl,_,_,rfl,rfl,?_⟩;refine⟨_,rfl,_,_,rfl,rfl,decide (0<ns.getD i 0),rfl,?_⟩;cases hB:decide (0<ns.getD i 0) with
  |false=>
   rw[hB] at ep;show Nx (ivs ns).length i (fun i ys H'=>DV H3 H'/\ys.length<=i/\ys=ivs (plc ns i)) _ _;refine Nx.mk hi ⟨z1.trans S4,by omega,?_⟩;rw[ep];simp
  |true=>
   rw[hB] at ep;refine⟨_,rfl,Nx.mk hi ⟨z1.trans S4,by rw[zZ];exact DI z2,?_⟩⟩;rw[ep];simp[ivs]
 ·obtain⟨z1,z2,rfl⟩:=z;rw[el];exact q p' _ (SS.trans (z1.trans (af hp _))) (SS.trans z1 |>.free hp) DR
theorem DatAll.strs{H:Hp}:∀xs:List Str,DatAll K H (xs.map V.str) (xs.map PyData.str)
 |[]=>.nil
 |x::r=>.cons (.str x) (DatAll.strs r)
theorem II:∀xs:List Str,PyData.eqv (.list (xs.map PyData.str)) (.list [])=xs.isEmpty
 |[]=>rfl
 |_::_=>rfl
theorem Fy:∀xs:List Str,(∀x∈xs,PyData.strOk x=true)->PyData.canLayAll0 (xs.map PyData.str)=true
 |[],_=>rfl
 |x::r,h=>by
  show(PyData.strOk x&&PyData.canLayAll0 (r.map PyData.str))=true;rw[h x Aq,Fy r fun y hy=>h y (AE _ hy)];rfl
theorem Fs:∀xs:List Str,PyData.depthAll (xs.map PyData.str)=0
 |[]=>rfl
 |x::r=>by
  show max 0 (PyData.depthAll (r.map PyData.str))=0;rw[Fs r];rfl
theorem eR(xs:List Str):(PyData.list (xs.map PyData.str)).depth<=60:=by
 have e:(PyData.list (xs.map PyData.str)).depth=PyData.depthAll (xs.map PyData.str)+1:=by simp[PyData.depth]
 rw[e,Fs];decide
def bad (cs:List Nat):List Nat:=cs.filter fun c=>!lrB c
theorem uG{x:Str}(h:As x):PyData.strOk x=true:=by
 unfold PyData.strOk;rw[<- Cs,Be];intro c hc;exact Dj (Nat.lt_trans (h c hc) (by decide))
theorem kK{α:Type}{l:List α}{r:Int}(h0:0<=r)(h1:r<l.length):∃c,atI l r=some c/\c∈l:=by
 have hk:r.toNat<l.length:=by omega
 have ek:r=((r.toNat:Nat):Int):=by omega
 have e:=aQ (Aa hk);rw[<- ek] at e;exact⟨_,e,AI hk⟩
theorem Dr.put{p W:Addr}{H H':Hp}(h:Dr p H H')(n:H W=none)(ne:W≠p)(o:HO):Dr p H (upd H' W o):=by
 refine⟨fun b u e=>?_,?_⟩
 ·have e1:=bF p H _ _ e;have nb:b≠W:=az e1 n;have e2:=h.same _ _ e;have np:b≠p:=fun z=>by unfold hid at e;rw[Di z] at e;cases e
  rw[cF np] at e2 ⊢;rw[av nb];exact e2
 ·obtain⟨a,b,c,e,r⟩:=h.ds;exact⟨a,b,c,by rw[av (DC ne)];exact e,r⟩
theorem jc{p W:Addr}{H:Hp}(ne:W≠p)(o:HO):hid p (upd H W o) W=some o:=by rw[cF ne,DR]
theorem jw(z:Str):z=txt z.cps.toList:=cQ rfl
structure Gw(cs:List Nat):Prop where
 lr:∀c∈cs,Eo c
 l1:1<=cs.length
 l40:cs.length<=40
abbrev oZ(ws:List (List Nat)):List Str:=ws.map txt
theorem fo(ws:List (List Nat)):aj ws=(oZ ws).map V.str:=by rw[Bn];rfl
theorem dQ(ws:List (List Nat))(z:Str):aj ws++[V.str z]=aj (ws++[z.cps.toList]):=by
 show(ws.map fun cs=>V.str (txt cs))++[V.str z]=(ws++[z.cps.toList]).map fun cs=>V.str (txt cs);rw[Au];show _=_++[V.str (txt z.cps.toList)]
 rw[<- jw]
def Jr:Sp:=fun vs H Q _=>∃p,vs=[.ref p]/\Ds H p/\∀W ws H',Dr p H H'->H W=none->hid p H' W=some (.lst (aj ws))->Wds ws->Q (.ref W) H'
theorem pY{z:Str}(h:LRs z)(h1:1<=z.length):Gw ((Txt.slice z none (some 40)).cps.toList):=by
 have e:(Txt.slice z none (some 40)).length=min 40 z.length:=by rw[show(40:Int)=((40:Nat):Int) from rfl,dY]
 rw[cY] at e;exact⟨fun c hc=>h c (da hc),by omega,by omega⟩
theorem Ii:DT ["draws","words","many","most","k","word","one","other","way"] ["draws"] (ai (top 56)):=⟨rfl,rfl,rfl,by decide +kernel,rfl,by decide +kernel,by decide +kernel⟩
theorem sr{dd dp d:DD}(vh:Def K mg "_law_draw" (top 42) ["draws","many"] dd)(vi:DY P w K mg base CX0 1 dd.f dd.fd ["draws","many"] FW)(vB:Def K mg "_law_piece" (top 55) ["draws","most"] dp)(vP:DY P w K mg base CX0 2 dp.f dp.fd ["draws","most"] Gk)(D:Def K mg "_law_makers" (top 56) ["draws"] d)(vg:mg "range"=none)(vf:mg "len"=none):DY P w K mg base CX0 3 d.f d.fd ["draws"] Jr:=by
 refine D.fn.ok Ii (fun vs H Q E h=>?_) (fun cdv A outer s H vs Q E hr h=>?_)
 ·obtain⟨p,rfl,_⟩:=h;rfl
 obtain⟨p,rfl,hp,q⟩:=h;have hc:=hr.calm;have nd:=Ii.nd;refine⟨_,(@ae _ _ _ _ _ (@aq _ _ (1) _ _ _ _ nd rfl (Or.inl rfl) (@bb _ _ _ _ (@Ed _)) (by rfl) (by walk_at "i")) (@ae _ _ _ _ _ (@aq _ _ (2) _ _ _ _ nd rfl (Or.inl rfl) (@aO _ _ _ _ _ _ _ DW (@bb _ _ _ _ (@aa _ _ _ _ _ (@au _ _ _ _ _ _ _ _ Eb (@ag _ _ _ _) (@aR _ _ _ _ _ _ _ _ _ _ _ _ _ vh vi (by decide) hr rfl (@aa _ _ _ _ _ (pv 0) (@aE _ _ _ (@ag _ _ _ _) aM) ax) (by decide) (by rfl) (by rfl))) (@aa _ _ _ _ _ (@ag _ _ _ _) (@aE _ _ _ (@ag _ _ _ _) aM) aM) (by rfl))) (@aR _ _ _ _ _ _ _ _ _ _ _ _ _ vh vi (by decide) hr rfl (@aa _ _ _ _ _ (pv 0) (@aE _ _ _ (@ag _ _ _ _) aM) ax) (by decide) (by rfl) (by rfl)) (fun _ _=>rfl)) (by rfl) (by walk_at "i")) (@ae _ _ _ _ _ (@aq _ _ (3) _ _ _ _ nd rfl (Or.inl rfl) (@aO _ _ _ _ _ _ _ DW (@bb _ _ _ _ (@aa _ _ _ _ _ (@ag _ _ _ _) (@aa _ _ _ _ _ (@ag _ _ _ _) (@aa _ _ _ _ _ (@ag _ _ _ _) (@aE _ _ _ (@ag _ _ _ _) aM) aM) aM) aM)) (@aR _ _ _ _ _ _ _ _ _ _ _ _ _ vh vi (by decide) hr rfl (@aa _ _ _ _ _ (pv 0) (@aE _ _ _ (@ag _ _ _ _) aM) ax) (by decide) (by rfl) (by rfl)) (fun _ _=>rfl)) (by rfl) (by walk_at "i")) (@ae _ _ _ _ _ (@bR _ _ _ _ _ _ _ _ PassesOwn.never hc (@bU _ _ _ _ _ _ rfl vg (@aE _ _ _ (pv 2) ax) (by rfl)) (@ao _ _ (4) _ nd rfl (Or.inl rfl) (by walk_at "i")) (@ae _ _ _ _ _ (@aq _ _ (5) _ _ _ _ nd rfl (Or.inl rfl) (@aR _ _ _ _ _ _ _ _ _ _ _ _ _ vB vP (by decide) hr rfl (@aa _ _ _ _ _ (pv 0) (@aE _ _ _ (pv 3) ax) ax) (by decide) (by rfl) (by rfl)) (by rfl) (by walk_at "i")) (@ae _ _ _ _ _ (@bp _ _ _ _ _ _ _ _ (@aB _ _ _ _ _ _ _ _ (cf hr.units) (pv 1) (@bb _ _ _ _ (@Ed _)) (aC _)) (@ae _ _ _ _ _ (@aq _ _ (6) _ _ _ _ nd rfl (Or.inl rfl) (@aO _ _ _ _ _ _ _ DW (pv 1) (@aR _ _ _ _ _ _ _ _ _ _ _ _ _ vh vi (by decide) hr rfl (@aa _ _ _ _ _ (pv 0) (@aE _ _ _ (@aI _ _ _ _ _ _ Ea rfl vf (pv 1) ax) cy) ax) (by decide) (by rfl) (by rfl)) (fun _ _=>rfl)) (by rfl) (by walk_at "i")) (@ae _ _ _ _ _ (@aq _ _ (7) _ _ _ _ nd rfl (Or.inl rfl) (@aO _ _ _ _ _ _ _ DW (pv 1) (@aR _ _ _ _ _ _ _ _ _ _ _ _ _ vh vi (by decide) hr rfl (@aa _ _ _ _ _ (pv 0) (@aE _ _ _ (@aI _ _ _ _ _ _ Ea rfl vf (pv 1) ax) cy) ax) (by decide) (by rfl) (by rfl)) (fun _ _=>rfl)) (by rfl) (by walk_at "i")) (@ae _ _ _ _ _ (@aq _ _ (8) _ _ _ _ nd rfl (Or.inl rfl) (@aR _ _ _ _ _ _ _ _ _ _ _ _ _ vh vi (by decide) hr rfl (@aa _ _ _ _ _ (pv 0) (@aE _ _ _ (@ag _ _ _ _) aM) ax) (by decide) (by rfl) (by rfl)) (by rfl) (by walk_at "i")) (@ah _ _ _ (@bp _ _ _ _ _ _ _ _ (@aB _ _ _ _ _ _ _ _ IL (pv 8) (@ag _ _ _ _) (aC _)) (@ah _ _ _ (@aq _ _ (5) _ _ _ _ nd rfl (Or.inl rfl) (@aO _ _ _ _ _ _ _ DW (@bb _ _ _ _ (@aa _ _ _ _ _ (@au _ _ _ _ _ _ _ _ Ez (pv 6) (pv 7)) (@aa _ _ _ _ _ (@au _ _ _ _ _ _ _ _ Ez (pv 6) (pv 5)) (@aa _ _ _ _ _ (@au _ _ _ _ _ _ _ _ Ez (pv 5) (pv 6)) (@aE _ _ _ (pv 6) ax) (by rfl)) (by rfl)) (by rfl))) (pv 8) (fun _ _=>rfl)) (by rfl) (by walk_at "i"))) (@DX _)))))) (@DX _)) (@ah _ _ _ (@bH _ _ _ _ (@cP _ _ _ _ _ _ _ (pv 1) (@aZ _ _ _ _ _ _ _ _ _ _ Es (pv 5) (@Ei _) (@br _ _ _ (@ag _ _ _ _))) (by rfl) (by rfl) (by rfl) (by rfl)) (by rfl))))) (by intro _;rfl)) (@ah _ _ _ (@ay _ _ _ _ (pv 1))))))),?_⟩
 try dsimp only [bD,Cx.nox,Cx.En]
 refine⟨Ah _,fun W nW=>?_⟩;have W0:=Dr.new hp nW (.lst []);have neW:W≠p:=DC (hp.ne nW);have g0:hid p (upd H W (.lst [])) W=some (.lst (aj [])):=fV hp nW _;refine⟨_,rfl,p,8,rfl,W0.ds,by decide,by decide,fun r1 H1 a0 a1 dr1=>?_⟩;refine⟨_,_,rfl,rfl,ak (by show 3<=1000000;decide),fun L1 nL1=>?_⟩;have D1:=Dr.new dr1.ds nL1 (.lst [.int (1+r1),.int 2,.int 3]);refine⟨_,rfl,p,3,rfl,D1.ds,by decide,by decide,fun r2 H2 b0 b1 dr2=>?_⟩;have gL1:=bF p _ _ _ (dr2.same _ _ (fV dr1.ds nL1 (.lst [.int (1+r1),.int 2,.int 3])));obtain⟨v1,ev1,mv1⟩:=kK (l:=[V.int (1+r1),.int 2,.int 3]) b0 b1;obtain⟨many,rfl,mn1,mn8⟩:∃n:Nat,v1=.int (n:Int)/\1<=n/\n<=8:=by
  simp only[Ag,AN,or_false] at mv1;rcases mv1 with rfl|rfl|rfl
  ·exact⟨(1+r1).toNat,by congr 1;omega,by omega,by omega⟩
  ·exact⟨2,rfl,by decide,by decide⟩
  ·exact⟨3,rfl,by decide,by decide⟩
 refine⟨L1,_,r2,_,rfl,rfl,SqL.of gL1,ev1,?_⟩;refine⟨ak (by show 4<=1000000;decide),fun L2 nL2=>?_⟩;have D2:=Dr.new dr2.ds nL2 (.lst [.int 3,.int 6,.int 20,.int 40]);refine⟨_,rfl,p,4,rfl,D2.ds,by decide,by decide,fun r3 H3 c0 c1 dr3=>?_⟩;have gL2:=bF p _ _ _ (dr3.same _ _ (fV dr2.ds nL2 (.lst [.int 3,.int 6,.int 20,.int 40])));obtain⟨v2,ev2,mv2⟩:=kK (l:=[V.int 3,.int 6,.int 20,.int 40]) c0 c1;obtain⟨most,rfl,ms1,ms40⟩:∃n:Int,v2=.int n/\1<=n/\n<=40:=by
  simp only[Ag,AN,or_false] at mv2;rcases mv2 with rfl|rfl|rfl|rfl
  ·exact⟨3,rfl,by decide,by decide⟩
  ·exact⟨6,rfl,by decide,by decide⟩
  ·exact⟨20,rfl,by decide,by decide⟩
  ·exact⟨40,rfl,by decide,by decide⟩
 refine⟨L2,_,r3,_,rfl,rfl,SqL.of gL2,ev2,?_⟩;have DD3:=W0.trans (dr1.trans (D1.trans (dr2.trans (D2.trans dr3))));have g3:hid p H3 W=some (.lst (aj [])):=dr3.same _ _ (D2.same _ _ (dr2.same _ _ (D1.same _ _ (dr1.same _ _ g0))));clear D1 D2 gL1 gL2 ev1 ev2 dr1 dr2 dr3;refine⟨_,rfl,(many:Int),rfl,by omega,by omega,?_⟩;rw[AQ];refine⟨fun i m σ H'=>m=many-i/\i<=many/\(∃a4 a5 a6 a7 a8,σ=[some (.ref p),some (.ref W),some (.int (many:Int)),some (.int most),a4,a5,a6,a7,a8])/\Dr p H H'/\∃ws,hid p H' W=some (.lst (aj ws))/\ws.length=i/\∀cs∈ws,Gw cs,⟨_,rfl,Ah _,⟨_,_,_,_,_,rfl⟩,DD3,[],g3,rfl,fun cs h=>absurd h (by simp)⟩,fun i m σ H' z=>?_⟩;obtain⟨rfl,hi,⟨a4,a5,a6,a7,a8,rfl⟩,dr,ws,gW,lw,hw⟩:=z;by_cases hend:i=many
 ·subst hend;exact .inl ⟨zX _,_,rfl,q W ws H' dr nW gW ⟨by omega,by omega,fun cs h=>(hw cs h).lr,fun cs h=>(hw cs h).l1,fun cs h=>(hw cs h).l40⟩⟩
 have hlt:i<many:=by omega
 refine .inr ⟨hlt,fun σ' H''=>(∃a4 a5 a6 a7 a8,σ'=[some (.ref p),some (.ref W),some (.int (many:Int)),some (.int most),a4,a5,a6,a7,a8])/\Dr p H H''/\∃ws,hid p H'' W=some (.lst (aj ws))/\ws.length=i+1/\∀cs∈ws,Gw cs,fun σ' H'' z=>⟨many-(i+1),by omega,rfl,hlt,z.1,z.2⟩,fun v H'' z=>?_⟩;obtain⟨rfl,ev⟩:=z;refine⟨_,rfl,_,rfl,p,most,rfl,ms1,by omega,dr.ds,fun word H1 dr1 lr1 dB lenm=>?_⟩;have gW1:=dr1.same _ _ gW;have lzl:∀n:Nat,n<=1000->n<=sizeLine:=fun n h=>ak (by omega);have lws:(aj ws).length<sizeLine:=Ak (show _<1000000 by rw[zY];omega) (ak (zX _));have word80:word.length<=80:=by omega
 have ew:∀cs∈ws,PyData.strOk (txt cs)=true:=fun cs h=>uG (LRs.as (z:=txt cs) (hw cs h).lr);refine⟨_,rfl,Ah _,fun e1 ne1=>?_⟩;have S1:=af ne1 (.lst []);have gW2:hid p (upd H1 e1 (.lst [])) W=some (.lst (aj ws)):=S1.hid _ _ gW1;have dr2:=dr1.trans (Dr.of_same dr1.ds S1);refine⟨.list ((oZ ws).map PyData.str),.list [],.lst (SqL.of (bF p _ _ _ gW2)) (fo ws▸DatAll.strs _),.lst (SqL.of DR) .nil,Fy _ (fun z h=>by obtain⟨cs,hcs,rfl⟩:=Ax.mp h;exact ew cs hcs),rfl,eR _,!(oZ ws).isEmpty,(by show V.bl (!PyData.eqv _ _)=_;rw[II]),?_⟩;cases hE:(!(oZ ws).isEmpty) with
 |false=>
  refine⟨_,rfl,.inl ⟨rfl,_,SqL.of (bF p _ _ _ (gW2))⟩,_,rfl,_,rfl,word,rfl,lzl _ (by have:=word80;omega),W,aj ws,_,rfl,rfl,bF p _ _ _ (gW2),lws,⟨_,_,_,_,_,rfl⟩,Dr.put (dr.trans dr2) nW neW _,ws++[(Txt.slice word none (some 40)).cps.toList],?_,by rw[zZ,lw];rfl,fun cs h=>?_⟩
  ·rw[jc neW,dQ]
  ·rcases Ai.mp h with h|h
   ·exact hw cs h
   ·rw[AA.mp h];exact pY lr1 dB
 |true=>
  have l0:1<=ws.length:=by
   cases ws with
   |nil=>cases hE
   |cons _ _=>exact DI (Ah _)
  have lwi:ws.length<=8:=by omega
  have el:(aj ws).length=ws.length:=zY ..;refine⟨_,rfl,_,rfl,_,rfl,W,_,rfl,.inl (SqL.of (bF p _ _ _ gW2)),p,_,rfl,dr2.ds,by omega,by omega,fun k1 H3 b0 b1 dr3=>?_⟩;obtain⟨v3,ev3,mv3⟩:=kK b0 b1;obtain⟨one,ho,rfl⟩:=Ax.mp mv3;have gW3:=dr3.same _ _ gW2;refine⟨W,_,k1,_,rfl,rfl,SqL.of (bF p _ _ _ gW3),ev3,?_⟩;refine⟨_,rfl,_,rfl,_,rfl,W,_,rfl,.inl (SqL.of (bF p _ _ _ gW3)),p,_,rfl,dr3.ds,by omega,by omega,fun k2 H4 c0 c1 dr4=>?_⟩;obtain⟨v4,ev4,mv4⟩:=kK c0 c1;obtain⟨other,hoo,rfl⟩:=Ax.mp mv4;have gW4:=dr4.same _ _ gW3;refine⟨W,_,k2,_,rfl,rfl,SqL.of (bF p _ _ _ gW4),ev4,?_⟩;refine⟨_,rfl,p,8,rfl,dr4.ds,by decide,by decide,fun way H5 d0 d1 dr5=>?_⟩;have gW5:=dr5.same _ _ gW4;have dr25:=dr2.trans (dr3.trans (dr4.trans dr5));have o40:=(hw one ho).l40;have o1:=(hw one ho).l1;have oo40:=(hw other hoo).l40;have to:(txt one).length=one.length:=rfl;have too:(txt other).length=other.length:=rfl;refine⟨_,rfl,_,_,rfl,rfl,decide (way<4),rfl,?_⟩;cases hB:decide (way<4) with
  |false=>
   refine⟨_,rfl,.inl ⟨rfl,_,SqL.of (bF p _ _ _ (gW5))⟩,_,rfl,_,rfl,word,rfl,lzl _ (by have:=word80;omega),W,aj ws,_,rfl,rfl,bF p _ _ _ (gW5),lws,⟨_,_,_,_,_,rfl⟩,Dr.put (dr.trans dr25) nW neW _,ws++[(Txt.slice word none (some 40)).cps.toList],?_,by rw[zZ,lw];rfl,fun cs h=>?_⟩
   ·rw[jc neW,dQ]
   ·rcases Ai.mp h with h|h
    ·exact hw cs h
    ·rw[AA.mp h];exact pY lr1 dB
  |true=>
   have hB':=Do hB;refine⟨_,rfl,_,rfl,_,_,rfl,rfl,lzl _ (by omega),_,rfl,_,rfl,_,_,rfl,rfl,lzl _ (by omega),_,rfl,_,rfl,_,_,rfl,rfl,lzl _ (by omega),_,rfl,ak (by show 4<=1000000;decide),fun L5 nL5=>?_⟩;have S5:=af nL5 (.lst [.str (txt one++txt other),.str (txt one++word),.str (word++txt one),.str (txt one)]);have gW6:=S5.hid _ _ gW5;have dr26:=dr25.trans (Dr.of_same dr5.ds S5);obtain⟨v6,ev6,mv6⟩:=kK (l:=[V.str (txt one++txt other),.str (txt one++word),.str (word++txt one),.str (txt one)]) d0 hB';obtain⟨z,rfl,lrz,l1z,l80z⟩:∃z:Str,v6=.str z/\LRs z/\1<=z.length/\z.length<=80:=by
    have lo:LRs (txt one):=(hw one ho).lr;have loo:LRs (txt other):=(hw other hoo).lr;have app:∀a b:Str,LRs a->LRs b->LRs (a++b):=fun a b ha hb c hc=>by
     rw[fE] at hc;rcases Ai.mp hc with h|h
     ·exact ha c h
     ·exact hb c h
    simp only[Ag,AN,or_false] at mv6;rcases mv6 with rfl|rfl|rfl|rfl
    ·exact⟨_,rfl,app _ _ lo loo,by rw[dN];omega,by rw[dN];omega⟩
    ·exact⟨_,rfl,app _ _ lo lr1,by rw[dN];omega,by rw[dN];omega⟩
    ·exact⟨_,rfl,app _ _ lr1 lo,by rw[dN];omega,by rw[dN];omega⟩
    ·exact⟨_,rfl,lo,by omega,by omega⟩
   refine⟨_,rfl,L5,_,way,_,rfl,rfl,SqL.of DR,ev6,?_⟩;refine⟨_,rfl,.inl ⟨rfl,_,SqL.of (bF p _ _ _ (gW6))⟩,_,rfl,_,rfl,z,rfl,lzl _ (by have:=l80z;omega),W,aj ws,_,rfl,rfl,bF p _ _ _ (gW6),lws,⟨_,_,_,_,_,rfl⟩,Dr.put (dr.trans dr26) nW neW _,ws++[(Txt.slice z none (some 40)).cps.toList],?_,by rw[zZ,lw];rfl,fun cs h=>?_⟩
   ·rw[jc neW,dQ]
   ·rcases Ai.mp h with h|h
    ·exact hw cs h
    ·rw[AA.mp h];exact pY lrz l1z
def bP (ws:List (List Nat))(x:List Nat):Nat->List (Option Int×Int)
 |0=>[(some 0,1)]
 |n+1=>bP ws x n++[(((aD ws x (n+1)).filterMap fun s=>((bP ws x n).getD s.2 (none,0)).1.map (·+1)).min?,((aD ws x (n+1)).map fun s=>((bP ws x n).getD s.2 (none,0)).2).sum)]
theorem bh(ws:List (List Nat))(x:List Nat):∀n,(bP ws x n).length=n+1
 |0=>rfl
 |n+1=>by rw[bP,zZ,bh ws x n];rfl
def ov:Option Int->V
 |none=>.non
 |some i=>.int i
def Cn (H:Hp)(v:V)(c:Option Int×Int):Prop:=∃a,v=.ref a/\H a=some (.tup [ov c.1,.int c.2])
abbrev Cns(H:Hp)(us:List V)(cs:List (Option Int×Int)):Prop:=Paired (Cn H) us cs
theorem Cns.mono{H H':Hp}(S:DV H H'){us:List V}{cs:List (Option Int×Int)}(h:Cns H us cs):Cns H' us cs:=Paired.GO h fun v c hq107=>by obtain⟨a,e,g⟩:=hq107;exact⟨a,e,S _ _ g⟩
theorem Cns.put{H:Hp}{F:Addr}{xs:List V}(g:H F=some (.lst xs))(o:HO){us:List V}{cs:List (Option Int×Int)}(h:Cns H us cs):Cns (upd H F o) us cs:=
 Paired.GO h fun v c hq108=>by obtain⟨a,e,ga⟩:=hq108;exact⟨a,e,by rw[av (fun z=>by rw[z,g] at ga;cases ga)];exact ga⟩
theorem Cns.at{H:Hp}:∀{us:List V}{cs:List (Option Int×Int)}{i:Nat},Cns H us cs->i<cs.length->∃a,us[i]?=some (.ref a)/\H a=some (.tup [ov (cs.getD i (none,0)).1,.int (cs.getD i (none,0)).2])
 |_,_,_,.nil,h=>absurd h (by simp)
 |_,_,0,.cons ⟨a,e,g⟩ _,_=>⟨a,by rw[e];rfl,g⟩
 |_,_,i+1,.cons _ r,h=>by
  obtain⟨a,h1,h2⟩:=Cns.at (i:=i) r (by simpa using h);exact⟨a,by simpa using h1,by simpa using h2⟩
def Ib:Sp:=fun vs H Q _=>∃l ws x,vs=[.ref l,.str (txt x)]/\H l=some (.lst (aj ws))/\Wok ws/\x.length<=400/\∀p us H',DV H H'->H p=none->H' p=some (.lst us)->Cns H' us (bP ws x x.length)->Q (.ref p) H'
abbrev nvs(ns:List Nat):List V:=ns.map fun(n:Nat)=>V.int (n:Int)
def bE (ws:List (List Nat))(x:List Nat)(e:Nat):List Nat:=(aD ws x e).map (·.2)
theorem iJ(ws:List (List Nat))(w x:List Nat)(e:Nat):bE (ws++[w]) x e=bE ws x e++(if cU (x.take e) w=true then [e-w.length] else []):=by
 unfold bE;rw[dU,Au];split<;>rfl
theorem ky(ws:List (List Nat))(x:List Nat)(e:Nat):(bE ws x e).length<=ws.length:=by
 unfold bE aD;rw[zY,zY];refine Ap (Bu _ _) ?_;rw[Ct];exact zX _
theorem lQ{ns:List Nat}{k:Nat}{v:V}(h:(nvs ns)[k]?=some v):k<ns.length/\∃e,ns[k]?=some e/\v=.int (e:Int):=by
 have hk:k<(nvs ns).length:=(Ad.mp h).1;rw[zY] at hk;rw[Aj,Aa hk] at h;exact⟨hk,_,Aa hk,(Dq h).symm⟩
theorem oV{ns:List Int}{m:Int}(h1:m∈ns)(h2:∀n∈ns,m<=n):ns.min?=some m:=List.min?_eq_some_iff.mpr ⟨h1,h2⟩
theorem Ik:DT ["words","text","found","at","ends","steps"] ["words","text"] (ai (top 48)):=⟨rfl,rfl,rfl,by decide +kernel,rfl,by decide +kernel,by decide +kernel⟩
theorem sS{d:DD}(D:Def K mg "_law_counts" (top 48) ["words","text"] d)(vg:mg "range"=none)(vf:mg "len"=none)(xG:mg "min"=none)(yj:mg "sum"=none):DY P w K mg base CX0 1 d.f d.fd ["words","text"] Ib:=by
 refine D.fn.ok Ik (fun vs H Q E h=>?_) (fun cdv A outer s H vs Q E hr h=>?_)
 ·obtain⟨l,ws,x,rfl,_⟩:=h;rfl
 obtain⟨l,ws,x,rfl,hl,W,h400,q⟩:=h;have hc:=hr.calm;have nd:=Ik.nd;refine⟨_,(@ae _ _ _ _ _ (@aq _ _ (2) _ _ _ _ nd rfl (Or.inr rfl) (@bb _ _ _ _ (@aE _ _ _ (@aP _ _ _ _ _ (@aa _ _ _ _ _ (@ag _ _ _ _) (@aE _ _ _ (@ag _ _ _ _) aM) aM)) (by rfl))) (by rfl) (by walk_at "i")) (@ae _ _ _ _ _ (@bR _ _ _ _ _ _ _ _ PassesOwn.never hc (@eI _ _ _ _ _ _ _ rfl vg (@aa _ _ _ _ _ (@ag _ _ _ _) (@aE _ _ _ (@au _ _ _ _ _ _ _ _ Eb (@aI _ _ _ _ _ _ DS rfl vf (pv 1) ax) (@ag _ _ _ _)) (by rfl)) aM) (by rfl) (by rfl)) (@ao _ _ (3) _ nd rfl (Or.inr rfl) (by walk_at "i")) (@ae _ _ _ _ _ (@cC _ _ _ _ _ _ _ _ _ _ _ _ _ _ (4) _ _ _ hc (ar (ts:=["word"]) (cap:=["text","at"]) (js:=[1,3]) rfl rfl rfl rfl rfl rfl (by decide +kernel)) (@aV _ _ _ _ (pv 0)) (fun _ _ _ _=>@ao _ _ (0) _ (show(["word","text","at"]:List Str).Nodup by decide +kernel) rfl (Or.inl rfl) (.inr rfl)) (fun _ _ _ _=>@ck _ _ _ (@bL _ _ _ (@kn _ _ _ _ _ _ _ _ _ _ _ _ K rfl Du PySem.F.slot_str_endswith PySem.F.type_str_endswith Hl (@aZ _ _ _ _ _ _ _ _ _ _ Es (pv 1) (@Ei _) (@br _ _ _ (pv 2))) (@aE _ _ _ (pv 0) ax) (by rfl) (by rfl) (by rfl) (by rfl) (by rfl)) (by intro _;rfl))) (fun _ _ _ _=>(@au _ _ _ _ _ _ _ _ Em (pv 2) (@aI _ _ _ _ _ _ DS rfl vf (pv 0) ax))) nd rfl (Or.inl rfl) rfl (by intro _;rfl) (by walk_at "i")) (@ae _ _ _ _ _ (@cC _ _ _ _ _ _ _ _ _ _ _ _ _ _ (5) _ _ _ hc (ar (ts:=["end"]) (cap:=["found"]) (js:=[2]) rfl rfl rfl rfl rfl rfl (by decide +kernel)) (@aV _ _ _ _ (pv 4)) (fun _ _ _ _=>@ao _ _ (0) _ (show(["end","found"]:List Str).Nodup by decide +kernel) rfl (Or.inl rfl) (.inr rfl)) (fun _ _ _ _=>@ck _ _ _ (@aB _ _ _ _ _ _ _ _ FJ (@aO _ _ _ _ _ _ _ (show IxR _ (rP K) from Ex) (@aO _ _ _ _ _ _ _ (show IxR _ (ke K) from DW) (pv 1) (pv 0) (fun _ _=>rfl)) (@ag _ _ _ _) (fun _ _=>rfl)) (@bK _ _ _) (aC _))) (fun _ _ _ _=>(@au _ _ _ _ _ _ _ _ Eb (@aO _ _ _ _ _ _ _ (show IxR _ (rP K) from Ex) (@aO _ _ _ _ _ _ _ (show IxR _ (ke K) from DW) (pv 1) (pv 0) (fun _ _=>rfl)) (@ag _ _ _ _) (fun _ _=>rfl)) (@ag _ _ _ _))) nd rfl (Or.inl rfl) rfl (by intro _;rfl) (by walk_at "i")) (@ah _ _ _ (@bH _ _ _ _ (@cP _ _ _ _ _ _ _ (pv 2) (@aP _ _ _ _ _ (@aa _ _ _ _ _ (@oq _ _ _ _ _ _ _ _ (@aB _ _ _ _ _ _ _ _ (cf hr.units) (pv 5) (@bb _ _ _ _ (@Ed _)) (aC _)) (@aF _ _ _ _ _ _ _ _ _ (lh hc) rfl xG Hv (@aE _ _ _ (pv 5) ax) (by decide) (by decide) (by rfl) (by rfl)) (@bK _ _ _)) (@aE _ _ _ (@aF _ _ _ _ _ _ _ _ _ (gv hc) rfl yj IA (@aE _ _ _ (@bB _ _ _ _ _ _ _ _ _ _ _ _ _ _ hc (ar (ts:=["end"]) (cap:=["found"]) (js:=[2]) rfl rfl rfl rfl rfl rfl (by decide +kernel)) (@aV _ _ _ _ (pv 4)) (fun _ _ _ _=>@ao _ _ (0) _ (show(["end","found"]:List Str).Nodup by decide +kernel) rfl (Or.inl rfl) (.inr rfl)) (fun _ _ _ _=>@bq _) (fun _ _ _ _=>(@aO _ _ _ _ _ _ _ (show IxR _ (rP K) from Ex) (@aO _ _ _ _ _ _ _ (show IxR _ (ke K) from DW) (pv 1) (pv 0) (fun _ _=>rfl)) (@ag _ _ _ _) (fun _ _=>rfl))) (by intro _;rfl)) (by rfl)) (by decide) (by decide) (by rfl) (by rfl)) cy) (by rfl))) (by rfl) (by rfl) (by rfl) (by rfl)) (by rfl))))) (by intro _;rfl)) (@ah _ _ _ (@ay _ _ _ _ (pv 2))))),?_⟩
 try dsimp only [bD,Cx.nox,Cx.En]
 refine⟨ak (by show 2<=1000000;decide),fun t0 nt0=>⟨ak (by show 1<=1000000;decide),fun F nF=>?_⟩⟩;have S0:=(af nt0 (.tup [.int 0,.int 1])).trans (af nF (.lst [.ref t0]));have n0:H F=none:=(af nt0 (.tup [.int 0,.int 1])).free nF;have g0:upd (upd H t0 (.tup [.int 0,.int 1])) F (.lst [.ref t0]) F=some (.lst [.ref t0]):=DR;have C0:Cns (upd (upd H t0 (.tup [.int 0,.int 1])) F (.lst [.ref t0])) [.ref t0] (bP ws x 0):=.cons ⟨t0,rfl,af nF _ _ _ DR⟩ .nil;generalize upd (upd H t0 (.tup [.int 0,.int 1])) F (.lst [.ref t0])=HF at S0 g0 C0;refine⟨_,rfl,txt x,rfl,ak (by show x.length<=1000000;walk_at "o"),_,_,rfl,rfl,?_⟩;have big:x.length<2^62:=by omega
 refine⟨1,((txt x).length:Nat)+1,rfl,⟨by decide,by decide,by show -(2^62)<=((x.length:Nat):Int)+1;omega,by show((x.length:Nat):Int)+1<2^62;omega⟩,?_⟩;have en:((((txt x).length:Nat):Int)+1-1).toNat=x.length:=by show(((x.length:Nat):Int)+1-1).toNat=_;omega
 rw[en];refine⟨fun i m σ H'=>m=x.length-i/\i<=x.length/\(∃e' s' r',σ=[some (.ref l),some (.str (txt x)),some (.ref F),e',s',r'])/\∃us,DV H H'/\H' F=some (.lst us)/\Cns H' us (bP ws x i),⟨_,rfl,Ah _,⟨_,_,_,rfl⟩,_,S0,g0,C0⟩,fun i m σ H' z=>?_⟩;obtain⟨rfl,hi,⟨e',s',r',rfl⟩,us,SH,gF,hC⟩:=z;by_cases hend:i=x.length
 ·subst hend;exact .inl ⟨zX _,_,rfl,q F us H' SH n0 gF hC⟩
 have hlt:i<x.length:=by omega
 refine .inr ⟨hlt,fun σ' H''=>(∃e' s' r',σ'=[some (.ref l),some (.str (txt x)),some (.ref F),e',s',r'])/\∃us,DV H H''/\H'' F=some (.lst us)/\Cns H'' us (bP ws x (i+1)),fun σ' H'' z=>⟨x.length-(i+1),by omega,rfl,hlt,z.1,z.2⟩,fun v H'' z=>?_⟩;obtain⟨rfl,ev⟩:=z;obtain rfl:v=.int ((i+1:Nat):Int):=by rw[ev];congr 1;omega
 have Cl:=bh ws x i;have Cu:=Paired.length hC;have el:(aj ws).length=ws.length:=zY ..;have w8:=W.n8;have eends:bE ws x (i+1)=(aD ws x (i+1)).map (·.2):=rfl;have mends:∀e∈bE ws x (i+1),e<=i:=fun e h=>by
  obtain⟨s,hs,rfl⟩:=Ax.mp h;exact bj W hs
 have lends:(bE ws x (i+1)).length<=8:=by
  unfold bE aD;rw[zY,zY];refine Ap (Bu _ _) ?_;rw[Ct];exact w8
 have eC:bP ws x (i+1)=bP ws x i++[(((bE ws x (i+1)).filterMap fun e=>((bP ws x i).getD e (none,0)).1.map (·+1)).min?,((bE ws x (i+1)).map fun e=>((bP ws x i).getD e (none,0)).2).sum)]:=by
  unfold bE;rw[CF,Bn];rfl
 have lzu:us.length<sizeLine:=Ak (show _<1000000 by omega) (ak (zX _));refine⟨_,rfl,l,rfl,⟨_,SqL.of (SH _ _ hl)⟩,?_⟩;refine cM (K:=K) (a:=l) (xs:=aj ws) (fun k ys H1=>DV H'' H1/\ys=nvs (bE (ws.take k) x (i+1))) ⟨DV.refl H'',rfl⟩ (fun k ys H1 hk z=>?_) (ak (by omega)) (fun k ys H1 hk z=>SqL.of (z.1 _ _ (SH _ _ hl))) (fun k v ys H1 hv z=>?_) (fun ys H1 z p1 hp1=>?_)
 ·rw[z.2,zY];refine Ap (ky _ _ _) ?_;rw[Af];omega
 ·obtain⟨z1,rfl⟩:=z;have hk:k<(aj ws).length:=(Ad.mp hv).1;have hk':k<ws.length:=by omega
  have ev:v=.str (txt ws[k]):=by
   rw[Aj,Aa hk'] at hv;exact(Dq hv).symm
  subst ev;have hm:ws[k]∈ws:=AI hk';have h40:=W.l40 _ hm;have et:ws.take (k+1)=ws.take k++[ws[k]]:=by rw[Az,Aa hk'];rfl
  have st:=iJ (ws.take k) ws[k] x (i+1);rw[<- et] at st;refine⟨_,rfl,_,rfl,_,rfl,txt x,rfl,ak (by show x.length<=1000000;walk_at "o"),rfl,_,rfl,_,txt ws[k],rfl,rfl,cU (x.take (i+1)) ws[k],(by rw[bO];rfl),?_⟩;cases hB:cU (x.take (i+1)) ws[k] with
  |false=>
   rw[hB] at st;show Nx (aj ws).length k (fun k ys H1=>DV H'' H1/\ys=nvs (bE (ws.take k) x (i+1))) _ _;refine Nx.mk hk ⟨z1,?_⟩;rw[st];simp
  |true=>
   rw[hB] at st;have hle:=eJ hB;refine⟨_,rfl,_,rfl,txt ws[k],rfl,ak (by show ws[k].length<=1000000;omega),_,_,rfl,rfl,Nx.mk hk ⟨z1,?_⟩⟩;rw[st];have e1:(((i+1:Nat):Int)-((txt ws[k]).length:Nat))=((i+1-ws[k].length:Nat):Int):=by
    show((i+1:Nat):Int)-(ws[k].length:Nat)=_;omega
   show nvs _++[V.int (((i+1:Nat):Int)-((txt ws[k]).length:Nat))]=_;rw[e1];simp[nvs]
 obtain⟨z1,rfl⟩:=z;rw[el,Av (zX _)];have S1:DV H'' (upd H1 p1 (.lst (nvs (bE ws x (i+1))))):=z1.trans (af hp1 _);have g1:upd H1 p1 (.lst (nvs (bE ws x (i+1)))) p1=some (.lst (nvs (bE ws x (i+1)))):=DR;generalize upd H1 p1 (.lst (nvs (bE ws x (i+1))))=H1p at S1 g1;generalize bE ws x (i+1)=ends at *;generalize bP ws x i=C at *;have lne:(nvs ends).length=ends.length:=zY ..;refine⟨_,rfl,p1,rfl,⟨_,SqL.of g1⟩,?_⟩;refine cM (K:=K) (a:=p1) (xs:=nvs ends) (fun k ys H2=>DV H1p H2/\ys.length<=k/\ys=ivs ((ends.take k).filterMap fun e=>(C.getD e (none,0)).1.map (·+1))) ⟨DV.refl H1p,zX _,rfl⟩ (fun k ys H2 hk z=>z.2.1) (ak (by omega)) (fun k ys H2 hk z=>SqL.of (z.1 _ _ g1)) (fun k v ys H2 hv z=>?_) (fun ys H2 z p2 hp2=>?_)
 ·obtain⟨z1,z2,rfl⟩:=z;obtain⟨hk,e,ee,rfl⟩:=lQ hv;have he:=mends e (Am ee);obtain⟨a,eu,ga⟩:=hC.at (i:=e) (by omega);have et:ends.take (k+1)=ends.take k++[e]:=by rw[Az,ee];rfl
  refine⟨_,rfl,_,rfl,F,us,_,_,rfl,rfl,SqL.of (z1 _ _ (S1 _ _ gF)),aQ eu,a,_,0,_,rfl,rfl,SqT.of (z1 _ _ (S1 _ _ ga)),rfl,rfl,!decide (ov (C.getD e (none,0)).1=.non),rfl,?_⟩;cases ho:(C.getD e (none,0)).1 with
  |none=>
   show Nx (nvs ends).length k (fun k ys H2=>DV H1p H2/\ys.length<=k/\ys=ivs ((ends.take k).filterMap fun e=>(C.getD e (none,0)).1.map (·+1))) _ _;refine Nx.mk (by omega) ⟨z1,by omega,?_⟩;rw[et,CB,List.filterMap_cons_none (by rw[ho];rfl)];simp
  |some m=>
   rw[ho] at ga;refine⟨_,rfl,_,rfl,F,us,_,_,rfl,rfl,SqL.of (z1 _ _ (S1 _ _ gF)),aQ eu,a,_,0,.int m,rfl,rfl,SqT.of (z1 _ _ (S1 _ _ ga)),rfl,_,_,rfl,rfl,Nx.mk (by omega) ⟨z1,by rw[zZ];exact DI z2,?_⟩⟩;rw[et,CB,List.filterMap_cons_some (b:=m+1) (by rw[ho];rfl)];simp[ivs]
 obtain⟨z2,z3,rfl⟩:=z;rw[lne,Av (zX _)];clear z3;have S2:DV H1p (upd H2 p2 (.lst (ivs (ends.filterMap fun e=>(C.getD e (none,0)).1.map (·+1))))):=z2.trans (af hp2 _);have g2:upd H2 p2 (.lst (ivs (ends.filterMap fun e=>(C.getD e (none,0)).1.map (·+1)))) p2=some (.lst (ivs (ends.filterMap fun e=>(C.getD e (none,0)).1.map (·+1)))):=DR;generalize upd H2 p2 (.lst (ivs (ends.filterMap fun e=>(C.getD e (none,0)).1.map (·+1))))=H2p at S2 g2;generalize (ends.filterMap fun e=>(C.getD e (none,0)).1.map (·+1))=ss at *;refine⟨_,rfl,.inl ⟨rfl,_,SqL.of (S2 _ _ (S1 _ _ gF))⟩,_,rfl,Ah _,fun e1 ne1=>?_⟩;have S3:DV H1p (upd H2p e1 (.lst [])):=S2.trans (af ne1 _);have g3:upd H2p e1 (.lst []) p2=some (.lst (ivs ss)):=af ne1 _ _ _ g2;refine⟨.list (ss.map PyData.int),.list [],.lst (SqL.of g3) (bw ss),.lst (SqL.of DR) .nil,cn ss,rfl,Ap (cJ ss) (by decide),!decide (ss=[]),(by show V.bl (!PyData.eqv _ (.list (([]:List Int).map PyData.int)))=_;rw[EF]),?_⟩;generalize upd H2p e1 (.lst [])=H3 at S3 g3;cases hE:(!decide (ss=[])) with
 |false=>
  have es:ss=[]:=by simpa using hE
  refine⟨_,rfl,p1,rfl,⟨_,SqL.of (S3 _ _ g1)⟩,?_⟩;refine cM (K:=K) (a:=p1) (xs:=nvs ends) (fun k ys H4=>DV H3 H4/\ys=ivs ((ends.take k).map fun e=>(C.getD e (none,0)).2)) ⟨DV.refl H3,rfl⟩ (fun k ys H4 hk z=>by rw[z.2,zY,zY,Af];omega) (ak (by omega)) (fun k ys H4 hk z=>SqL.of (z.1 _ _ (S3 _ _ g1))) (fun k v ys H4 hv z=>?_) (fun ys H4 z p4 hp4=>?_)
  ·obtain⟨z1,rfl⟩:=z;obtain⟨hk,e,ee,rfl⟩:=lQ hv;have he:=mends e (Am ee);obtain⟨a,eu,ga⟩:=hC.at (i:=e) (by omega);refine⟨_,rfl,_,rfl,F,us,_,_,rfl,rfl,SqL.of (z1 _ _ (S3 _ _ (S1 _ _ gF))),aQ eu,a,_,1,_,rfl,rfl,SqT.of (z1 _ _ (S3 _ _ (S1 _ _ ga))),rfl,Nx.mk (by omega) ⟨z1,?_⟩⟩;rw[Az,ee];simp[ivs]
  obtain⟨z1,rfl⟩:=z;rw[lne,Av (zX _)];refine⟨p4,_,rfl,SqL.of DR,ak (by show 2<=1000000;decide),fun t5 nt5=>?_⟩;have S5:DV H'' (upd (upd H4 p4 (.lst (ivs (ends.map fun e=>(C.getD e (none,0)).2)))) t5 (.tup [ov (none),.int (ends.map fun e=>(C.getD e (none,0)).2).sum])):=S1.trans (S3.trans (z1.trans ((af hp4 _).trans (af nt5 _))));have gF5:=S5 _ _ gF;refine⟨F,us,_,rfl,rfl,gF5,lzu,⟨_,_,_,rfl⟩,us++[.ref t5],fun b o h=>?_,DR,?_⟩
  ·rw[av (az h n0)];exact S5 _ _ (SH _ _ h)
  ·have C5:Cns _ (us++[.ref t5]) (C++[(none,(ends.map fun e=>(C.getD e (none,0)).2).sum)]):=Paired.snoc (hC.mono S5) ⟨t5,rfl,DR⟩;rw[eC,show ss.min?=none by rw[es];rfl];exact C5.put gF5 _
 |true=>
  have es:ss≠[]:=by simpa using hE
  refine⟨_,rfl,p2,ss,rfl,SqL.of g3,es,fun mm hm hmin=>?_⟩;refine⟨_,rfl,p1,rfl,⟨_,SqL.of (S3 _ _ g1)⟩,?_⟩;refine cM (K:=K) (a:=p1) (xs:=nvs ends) (fun k ys H4=>DV H3 H4/\ys=ivs ((ends.take k).map fun e=>(C.getD e (none,0)).2)) ⟨DV.refl H3,rfl⟩ (fun k ys H4 hk z=>by rw[z.2,zY,zY,Af];omega) (ak (by omega)) (fun k ys H4 hk z=>SqL.of (z.1 _ _ (S3 _ _ g1))) (fun k v ys H4 hv z=>?_) (fun ys H4 z p4 hp4=>?_)
  ·obtain⟨z1,rfl⟩:=z;obtain⟨hk,e,ee,rfl⟩:=lQ hv;have he:=mends e (Am ee);obtain⟨a,eu,ga⟩:=hC.at (i:=e) (by omega);refine⟨_,rfl,_,rfl,F,us,_,_,rfl,rfl,SqL.of (z1 _ _ (S3 _ _ (S1 _ _ gF))),aQ eu,a,_,1,_,rfl,rfl,SqT.of (z1 _ _ (S3 _ _ (S1 _ _ ga))),rfl,Nx.mk (by omega) ⟨z1,?_⟩⟩;rw[Az,ee];simp[ivs]
  obtain⟨z1,rfl⟩:=z;rw[lne,Av (zX _)];refine⟨p4,_,rfl,SqL.of DR,ak (by show 2<=1000000;decide),fun t5 nt5=>?_⟩;have S5:DV H'' (upd (upd H4 p4 (.lst (ivs (ends.map fun e=>(C.getD e (none,0)).2)))) t5 (.tup [ov (some mm),.int (ends.map fun e=>(C.getD e (none,0)).2).sum])):=S1.trans (S3.trans (z1.trans ((af hp4 _).trans (af nt5 _))));have gF5:=S5 _ _ gF;refine⟨F,us,_,rfl,rfl,gF5,lzu,⟨_,_,_,rfl⟩,us++[.ref t5],fun b o h=>?_,DR,?_⟩
  ·rw[av (az h n0)];exact S5 _ _ (SH _ _ h)
  ·have C5:Cns _ (us++[.ref t5]) (C++[(some mm,(ends.map fun e=>(C.getD e (none,0)).2).sum)]):=Paired.snoc (hC.mono S5) ⟨t5,rfl,DR⟩;rw[eC,oV hm hmin];exact C5.put gF5 _
abbrev Ho(ws:List (List Nat)):List (List Nat):=ws.map List.reverse
def rst (ws:List (List Nat))(x:List Nat):List (Option Int×Int):=(bP (Ho ws) x.reverse x.length).reverse
theorem qc(ws:List (List Nat))(x:List Nat):(rst ws x).length=x.length+1:=by unfold rst;rw[AJ,bh]
def few (ws:List (List Nat))(x:List Nat)(i:Nat):Option Int:=((rst ws x).getD i (none,0)).1
def Nok (ws:List (List Nat))(x:List Nat)(i k:Nat):Prop:=∃w r,ws[k]?=some w/\(x.drop i).take w.length=w/\few ws x i=some r/\few ws x (i+w.length)=some (r-1)
inductive Grd(ws:List (List Nat))(x:List Nat):Nat->List Int->Prop
 |nil:Grd ws x 0 []
 |snoc {i k:Nat}{w:List Nat}{r:List Int}:Grd ws x i r->i<x.length->ws[k]?=some w->Nok ws x i k->(∀k'<k,¬Nok ws x i k')->Grd ws x (i+w.length) (r++[(k:Int)])
theorem Paired.rev{α β:Type}{F:α->β->Prop}:∀{a:List α}{b:List β},Paired F a b->Paired F a.reverse b.reverse
 |_,_,.nil=>.nil
 |_,_,.cons h r=>by rw[BM,BM];exact(Paired.rev r).snoc h
theorem km(x:List Nat)(i n:Nat)(h:i<=x.length):Txt.slice (txt x) (some (i:Int)) (some ((i:Int)+(n:Int)))=txt ((x.drop i).take n):=by
 apply cQ;rw[cb];show nE x (some (i:Int)) (some ((i:Int)+(n:Int)))=(x.drop i).take n;unfold nE;rw[show((i:Int)+(n:Int))=((i+n:Nat):Int) by omega,HT.FH,HT.FH,AV h];rcases Nat.le_total (i+n) x.length with h2|h2
 ·rw[AV h2,show i+n-i=n by omega]
 ·rw[CO h2,Av (by rw[AR];omega),Av (by rw[AR];omega)]
theorem Wok.Ho{ws:List (List Nat)}(W:Wok ws):Wok (Ho ws):=by
 refine⟨by rw[zY];exact W.n8,fun cs h=>?_,fun cs h=>?_⟩
 ·obtain⟨c,hc,rfl⟩:=Ax.mp h;rw[AJ];exact W.l1 c hc
 ·obtain⟨c,hc,rfl⟩:=Ax.mp h;rw[AJ];exact W.l40 c hc
theorem Grd.len{ws:List (List Nat)}(W:Wok ws){x:List Nat}{i:Nat}{r:List Int}(h:Grd ws x i r):r.length<=i:=by
 induction h with
 |nil=>exact zX _
 |snoc _ _ hw _ _ ih=>
  have:=W.l1 _ (Am hw);rw[zZ];show _+1<=_;omega
theorem ma{ws:List (List Nat)}{x w:List Nat}{i:Nat}(h:i<=x.length)(e:(x.drop i).take w.length=w):i+w.length<=x.length:=by
 have:=congrArg List.length e;rw[Af,AR] at this;omega
def JU:Sp:=fun vs H Q _=>∃l ws x,vs=[.ref l,.str (txt x)]/\H l=some (.lst (aj ws))/\Wok ws/\x.length<=400/\(∀i r,i<x.length->few ws x i=some r->∃k,Nok ws x i k)/\(few ws x 0=none->∀H',DV H H'->Q .non H') /\
 ∀p row H',DV H H'->H p=none->H' p=some (.lst (ivs row))->Grd ws x x.length row->Q (.ref p) H'
theorem Ip:DT ["words","text","turned","rests","row","at","k","end","best"] ["words","text"] (ai (top 49)):=⟨rfl,rfl,rfl,by decide +kernel,rfl,by decide +kernel,by decide +kernel⟩
theorem sE{dc d:DD}(xu:Def K mg "_law_counts" (top 48) ["words","text"] dc)(xE:DY P w K mg base CX0 1 dc.f dc.fd ["words","text"] Ib)(D:Def K mg "_law_first_row" (top 49) ["words","text"] d)(vg:mg "range"=none)(vf:mg "len"=none):DY P w K mg base CX0 2 d.f d.fd ["words","text"] JU:=by
 refine D.fn.ok Ip (fun vs H Q E h=>?_) (fun cdv A outer s H vs Q E hr h=>?_)
 ·obtain⟨l,ws,x,rfl,_⟩:=h;rfl
 obtain⟨l,ws,x,rfl,hl,W,h400,hex,q0,q1⟩:=h;have hc:=hr.calm;have nd:=Ip.nd;refine⟨_,(@ae _ _ _ _ _ (@cC _ _ _ _ _ _ _ _ _ _ _ _ _ _ (2) _ _ _ hc (ar (ts:=["word"]) (cap:=[]) (js:=[]) rfl rfl rfl rfl rfl rfl (by decide +kernel)) (@aV _ _ _ _ (pv 0)) (fun _ _ _ _=>@ao _ _ (0) _ (show(["word"]:List Str).Nodup by decide +kernel) rfl (Or.inl rfl) (.inr rfl)) (fun _ _ _ _=>@bq _) (fun _ _ _ _=>(@ju _ _ _ _ _ _ _ _ (show RvR _ KA from Il) (pv 0) (@dj _ _ _ _ _ _ Ey (@ag _ _ _ _)))) nd rfl (Or.inl rfl) rfl (by intro _;rfl) (by walk_at "i")) (@ae _ _ _ _ _ (@aq _ _ (3) _ _ _ _ nd rfl (Or.inl rfl) (@ju _ _ _ _ _ _ _ _ Hf (@aR _ _ _ _ _ _ _ _ _ _ _ _ _ xu xE (by decide) hr rfl (@aa _ _ _ _ _ (pv 2) (@aE _ _ _ (@ju _ _ _ _ _ _ _ _ Il (pv 1) (@dj _ _ _ _ _ _ Ey (@ag _ _ _ _))) (by rfl)) ax) (by decide) (by rfl) (by rfl)) (@dj _ _ _ _ _ _ Ey (@ag _ _ _ _))) (by rfl) (by walk_at "i")) (@ae _ _ _ _ _ (@bp _ _ _ _ _ _ _ _ (@aB _ _ _ _ _ _ _ _ Hg (@aO _ _ _ _ _ _ _ Ex (@aO _ _ _ _ _ _ _ DW (pv 3) (@ag _ _ _ _) (fun _ _=>rfl)) (@ag _ _ _ _) (fun _ _=>rfl)) (@bK _ _ _) (aC _)) (@ah _ _ _ (@ay _ _ _ _ (@bK _ _ _))) (@DX _)) (@ae _ _ _ _ _ (@aq _ _ (4) _ _ _ _ nd rfl (Or.inl rfl) (@bb _ _ _ _ (@Ed _)) (by rfl) (by walk_at "i")) (@ae _ _ _ _ _ (@aq _ _ (5) _ _ _ _ nd rfl (Or.inl rfl) (@ag _ _ _ _) (by rfl) (by walk_at "i")) (@ae _ _ _ _ _ (@jr _ _ _ _ _ _ PassesOwn.never (@aB _ _ _ _ _ _ _ _ IL (pv 5) (@aI _ _ _ _ _ _ DS rfl vf (pv 1) ax) (aC _)) (@ae _ _ _ _ _ (@bR _ _ _ _ _ _ _ _ PassesOwn.never hc (@kG _ _ _ _ _ _ _ _ rfl vg (@aa _ _ _ _ _ (@au _ _ _ _ _ _ _ _ Em (@aI _ _ _ _ _ _ Ea rfl vf (pv 0) ax) (@ag _ _ _ _)) (@aa _ _ _ _ _ (@dj _ _ _ _ _ _ Ey (@ag _ _ _ _)) (@aE _ _ _ (@dj _ _ _ _ _ _ Ey (@ag _ _ _ _)) (by rfl)) (by rfl)) (by rfl)) (by rfl) (by rfl)) (@ao _ _ (6) _ nd rfl (Or.inl rfl) (by walk_at "i")) (@ae _ _ _ _ _ (@aq _ _ (7) _ _ _ _ nd rfl (Or.inl rfl) (@au _ _ _ _ _ _ _ _ Eb (pv 5) (@aI _ _ _ _ _ _ DS rfl vf (@aO _ _ _ _ _ _ _ DW (pv 0) (pv 6) (fun _ _=>rfl)) (by rfl))) (by rfl) (by walk_at "i")) (@ah _ _ _ (@bp _ _ _ _ _ _ _ _ (@PW.pt _ _ _ (@fq _ _ _ _ _ _ _ (@aB _ _ _ _ _ _ _ _ EM (@aZ _ _ _ _ _ _ _ _ _ _ Es (pv 1) (@br _ _ _ (pv 5)) (@br _ _ _ (pv 7))) (@aO _ _ _ _ _ _ _ DW (pv 0) (pv 6) (fun _ _=>rfl)) (aC _)) (@dM _ _ _ _ (@aB _ _ _ _ _ _ _ _ EM (@aO _ _ _ _ _ _ _ Ex (@aO _ _ _ _ _ _ _ DW (pv 3) (pv 7) (fun _ _=>rfl)) (@ag _ _ _ _) (fun _ _=>rfl)) (@au _ _ _ _ _ _ _ _ Em (@aO _ _ _ _ _ _ _ Ex (@aO _ _ _ _ _ _ _ DW (pv 3) (pv 5) (fun _ _=>rfl)) (@ag _ _ _ _) (fun _ _=>rfl)) (@ag _ _ _ _)) (aC _))))) (@ah _ _ _ (@aq _ _ (8) _ _ _ _ nd rfl (Or.inl rfl) (pv 6) (by rfl) (by walk_at "i"))) (@DX _)))) (by intro _;rfl)) (@ae _ _ _ _ _ (@bH _ _ _ _ (@cP _ _ _ _ _ _ _ (pv 4) (pv 8) ax (by rfl) (by rfl) (by rfl)) (by rfl)) (@ah _ _ _ (@aq _ _ (5) _ _ _ _ nd rfl (Or.inl rfl) (@au _ _ _ _ _ _ _ _ Eb (pv 5) (@aI _ _ _ _ _ _ DS rfl vf (@aO _ _ _ _ _ _ _ DW (pv 0) (pv 8) (fun _ _=>rfl)) (by rfl))) (by rfl) (by walk_at "i")))))) (@ah _ _ _ (@ay _ _ _ _ (pv 4))))))))),?_⟩
 try dsimp only [bD,Cx.nox,Cx.En]
 have w8:=W.n8;have el:(aj ws).length=ws.length:=zY ..;have lx:(txt x).length<=sizeLine:=ak (by show x.length<=1000000;walk_at "o");have lw:∀w∈ws,(txt w).length<=sizeLine:=fun w h=>ak (by have:=W.l40 w h;show w.length<=1000000;walk_at "o");refine⟨_,rfl,l,rfl,⟨_,SqL.of hl⟩,?_⟩;refine cM (K:=K) (a:=l) (xs:=aj ws) (fun k ys H'=>DV H H'/\ys=aj (Ho (ws.take k))) ⟨DV.refl H,rfl⟩ (fun k ys H' hk z=>by rw[z.2,zY,zY,Af];omega) (ak (by omega)) (fun k ys H' hk z=>SqL.of (z.1 _ _ hl)) (fun k v ys H' hv z=>?_) (fun ys H' z T hT=>?_)
 ·obtain⟨z1,rfl⟩:=z;have hk:k<(aj ws).length:=(Ad.mp hv).1;have hk':k<ws.length:=by omega
  have ev:v=.str (txt ws[k]):=by
   rw[Aj,Aa hk'] at hv;exact(Dq hv).symm
  subst ev;have et:ws.take (k+1)=ws.take k++[ws[k]]:=by rw[Az,Aa hk'];rfl
  refine⟨_,rfl,1,rfl,rfl,txt ws[k],rfl,lw _ (AI hk'),Nx.mk hk ⟨z1,?_⟩⟩;rw[et];show _=List.map _ (List.map List.reverse (ws.take k++[ws[k]]));rw[Au,Au];rfl
 obtain⟨z1,rfl⟩:=z;rw[el,Av (zX _)];have S1:DV H (upd H' T (.lst (aj (Ho ws)))):=z1.trans (af hT _);refine⟨_,rfl,_,rfl,1,rfl,rfl,txt x,rfl,lx,T,Ho ws,x.reverse,rfl,DR,W.Ho,by rw[AJ];exact h400,fun pC us HC SC nC gC CC=>?_⟩;rw[AJ] at CC;refine⟨1,rfl,rfl,pC,us,rfl,SqL.of gC,fun R nR=>?_⟩;have S2:DV H (upd HC R (.lst us.reverse)):=S1.trans (SC.trans (af nR _));have CR:Cns (upd HC R (.lst us.reverse)) us.reverse (rst ws x):=Cns.mono (af nR _) (Paired.rev CC);have gR:upd HC R (.lst us.reverse) R=some (.lst us.reverse):=DR;generalize upd HC R (.lst us.reverse)=HR at S2 CR gR;generalize us.reverse=ur at CR gR;have rl:=qc ws x;have hlR:=S2 _ _ hl;obtain⟨a0,e0,g0⟩:=CR.at (i:=0) (by omega);refine⟨_,rfl,R,ur,0,.ref a0,rfl,rfl,SqL.of gR,aQ e0,a0,_,0,_,rfl,rfl,SqT.of g0,rfl,rfl,decide (ov (few ws x 0)=.non),rfl,?_⟩;cases h0:few ws x 0 with
 |none=>exact q0 h0 _ S2
 |some r0=>
 refine⟨Ah _,fun RW nRW=>?_⟩;have n0:H RW=none:=S2.free nRW
 refine⟨fun m σ H'=>∃(i:Nat) (row:List Int) (a6 a7 a8:Option V),m=x.length - i/\i<=x.length/\σ=[some (.ref l),some (.str (txt x)),some (.ref T),some (.ref R),some (.ref RW),some (.int (i:Int)),a6,a7,a8]/\DV HR H'/\H' RW=some (.lst (ivs row))/\Grd ws x i row/\∃r,few ws x i=some r,
  ⟨_,0,[],_,_,_,rfl,Ah _,rfl,af nRW _,DR,.nil,r0,h0⟩,fun m σ H' z=>?_⟩
 obtain⟨i,row,a6,a7,a8,rfl,hi,rfl,SR,gW,hG,r,hr0⟩:=z;refine⟨_,rfl,_,rfl,txt x,rfl,lx,_,_,rfl,rfl,decide ((i:Int)<((txt x).length:Nat)),rfl,?_⟩;cases hB:decide ((i:Int)<((txt x).length:Nat)) with
 |false=>
  have hB':¬((i:Int)<((x.length:Nat):Int)):=of_decide_eq_false hB;obtain rfl:i=x.length:=by omega
  exact⟨_,rfl,q1 RW row H' (S2.trans SR) n0 gW hG⟩
 |true=>
 have hlt:i<x.length:=by
  have:(i:Int)<((x.length:Nat):Int):=Do hB;omega
 refine⟨fun σ' H''=>∃(j:Nat) (row:List Int) (a6 a7 a8:Option V),i < j/\j<=x.length/\σ'=[some (.ref l),some (.str (txt x)),some (.ref T),some (.ref R),some (.ref RW),some (.int (j:Int)),a6,a7,a8]/\DV HR H''/\H'' RW=some (.lst (ivs row))/\Grd ws x j row/\∃r,few ws x j=some r,
  fun σ' H'' z=>by
   obtain⟨j,row,a6,a7,a8,h1,h2,h3,h4⟩:=z
   exact⟨x.length-j,by omega,j,row,a6,a7,a8,rfl,h2,h3,h4⟩,?_⟩
 refine⟨_,rfl,l,_,rfl,.inl (SqL.of (SR _ _ hlR)),_,_,rfl,rfl,1,rfl,1,rfl,?_⟩;refine⟨((aj ws).length:Int)-1,-1,rfl,⟨by omega,by omega,by decide,by decide⟩,?_⟩;have en:((((aj ws).length:Nat):Int)-1 - -1).toNat=ws.length:=by omega
 rw[en]
 refine⟨fun t m σ H''=>m=ws.length - t/\t<=ws.length/\H''=H'/\∃a6 a7 b,σ=[some (.ref l),some (.str (txt x)),some (.ref T),some (.ref R),some (.ref RW),some (.int (i:Int)),a6,a7,b] /\
   ((∃k:Nat,b=some (.int (k:Int))/\ws.length-t<=k/\k<ws.length/\Nok ws x i k/\∀k',ws.length-t<=k'->k'<k->¬Nok ws x i k')\/∀k',ws.length-t<=k'->k'<ws.length->¬Nok ws x i k'),
  ⟨_,rfl,Ah _,rfl,_,_,_,rfl,.inr fun k' h1 h2=>by omega⟩,fun t m σ H'' z=>?_⟩
 obtain⟨rfl,ht,rfl,a6,a7,b,rfl,hb⟩:=z;by_cases htl:t<ws.length
 ·refine .inr ⟨htl,fun σ' H3=>H3=H''/\∃a6 a7 b,σ'=[some (.ref l),some (.str (txt x)),some (.ref T),some (.ref R),some (.ref RW),some (.int (i:Int)),a6,a7,b] /\
   ((∃k:Nat,b=some (.int (k:Int))/\ws.length-(t+1)<=k/\k<ws.length/\Nok ws x i k/\∀k',ws.length-(t+1)<=k'->k'<k->¬Nok ws x i k')\/∀k',ws.length-(t+1)<=k'->k'<ws.length->¬Nok ws x i k'),
   fun σ' H3 z=>⟨ws.length-(t+1),by omega,rfl,htl,z.1,z.2⟩,fun v H3 z=>?_⟩
  obtain⟨rfl,ev⟩:=z;obtain⟨k0,ek0⟩:∃k0:Nat,k0=ws.length-(t+1):=⟨_,rfl⟩
  have hk0:k0<ws.length:=by omega
  obtain rfl:v=.int (k0:Int):=by rw[ev];congr 1;omega
  have mw:ws[k0]∈ws:=AI hk0;have ew:(aj ws)[k0]?=some (.str (txt ws[k0])):=by rw[Aj,Aa hk0];rfl
  have ew':ws[k0]?=some ws[k0]:=Aa hk0;generalize ws[k0]=w0 at mw ew ew';have gl:=SR _ _ hlR;have keepNo:¬Nok ws x i k0->(∃k:Nat,b=some (.int (k:Int))/\ws.length-(t+1)<=k/\k<ws.length/\Nok ws x i k/\∀k',ws.length-(t+1)<=k'->k'<k->¬Nok ws x i k')\/∀k',ws.length-(t+1)<=k'->k'<ws.length->¬Nok ws x i k':=fun hn=>by
   rcases hb with ⟨k,b1,b2,b3,b4,b5⟩|hb
   ·refine .inl ⟨k,b1,by omega,b3,b4,fun k' c1 c2=>?_⟩;by_cases e:k'=k0
    ·rw[e];exact hn
    ·exact b5 k' (by omega) c2
   ·refine .inr fun k' c1 c2=>?_;by_cases e:k'=k0
    ·rw[e];exact hn
    ·exact hb k' (by omega) c2
  refine⟨_,rfl,_,rfl,_,rfl,l,_,_,_,rfl,rfl,SqL.of gl,aQ ew,txt w0,rfl,lw _ mw,_,_,rfl,rfl,?_⟩;refine⟨_,rfl,_,rfl,_,rfl,_,rfl,_,rfl,txt x,rfl,lx,_,rfl,_,rfl,l,_,_,_,rfl,rfl,SqL.of gl,aQ ew,rfl,decide ((x.drop i).take w0.length=w0),?_,?_⟩
  ·show V.bl (decide (V.str (Txt.slice (txt x) (some (i:Int)) (some ((i:Int)+((w0.length:Nat):Int))))=V.str (txt w0)))=_;rw[km x i w0.length hi]
   congr 1
   exact decide_eq_decide.mpr ⟨fun h=>by injection h with h;exact congrArg (fun z:Str=>z.cps.toList) h,fun h=>by rw[h]⟩
  cases hP:decide ((x.drop i).take w0.length=w0) with
  |false=>
   have hP':=of_decide_eq_false hP;exact⟨rfl,_,_,_,rfl,keepNo fun⟨w,r',n1,n2,_⟩=>by rw[ew'] at n1;cases n1;exact hP' n2⟩
  |true=>
   have hP':=Do hP;have hle:=ma (ws:=ws) hi hP';obtain⟨a1,e1,g1⟩:=CR.at (i:=i+w0.length) (by omega);obtain⟨a2,e2,g2⟩:=CR.at (i:=i) (by omega);have f2:((rst ws x).getD i (none,0)).1=some r:=hr0;rw[f2] at g2;have e1':ur[i+w0.length]?=some (.ref a1):=e1;have ei:((i:Int)+((w0.length:Nat):Int))=((i+w0.length:Nat):Int):=by omega
   refine⟨_,rfl,_,rfl,R,ur,(i:Int)+((w0.length:Nat):Int),.ref a1,rfl,rfl,SqL.of (SR _ _ gR),(by rw[ei];exact aQ e1'),a1,_,0,_,rfl,rfl,SqT.of (SR _ _ g1),rfl,_,rfl,_,rfl,R,ur,_,.ref a2,rfl,rfl,SqL.of (SR _ _ gR),aQ e2,a2,_,0,.int r,rfl,rfl,SqT.of (SR _ _ g2),rfl,_,_,rfl,rfl,?_⟩;show Kd (ov (few ws x (i+w0.length))) (.int (r-1))=true/\_;have sc1:Kd (ov (few ws x (i+w0.length))) (.int (r-1))=true:=by cases few ws x (i+w0.length)<;>rfl
   refine⟨sc1,decide (few ws x (i+w0.length)=some (r-1)),?_,?_⟩
   ·show V.bl (decide (ov (few ws x (i+w0.length))=V.int (r-1)))=_
    congr 1
    cases few ws x (i+w0.length) with
    |none=>rfl
    |some y=>exact decide_eq_decide.mpr ⟨fun h=>by injection h with h;rw[h],fun h=>by injection h with h;rw[h];rfl⟩
   cases hF:decide (few ws x (i+w0.length)=some (r-1)) with
   |false=>
    have hF':=of_decide_eq_false hF
    exact⟨rfl,_,_,_,rfl,keepNo fun hq109=>by
     obtain⟨w,r',n1,n2,n3,n4⟩:=hq109;rw[ew'] at n1;cases n1;rw[hr0] at n3;cases n3
     exact hF' n4⟩
   |true=>
    have hF':=Do hF;exact⟨_,rfl,rfl,_,_,_,rfl,.inl ⟨k0,rfl,by omega,hk0,⟨w0,r,ew',hP',hr0,hF'⟩,fun k' c1 c2=>by omega⟩⟩
 ·refine .inl ⟨by show ws.length<=t;omega,?_⟩;obtain rfl:t=ws.length:=by omega
  obtain⟨kx,hkx⟩:=hex i r hlt hr0;have kxl:kx<ws.length:=by
   obtain⟨w,_,n1,_⟩:=hkx;exact(Ad.mp n1).1
  obtain⟨k,rfl,b2,b3,b4,b5⟩:=hb.resolve_right fun hb=>hb kx (by omega) kxl hkx;obtain⟨w0,r',n1,n2,n3,n4⟩:=id b4;rw[hr0] at n3;cases n3;have mw:=Am n1;have ew:(aj ws)[k]?=some (.str (txt w0)):=by rw[Aj,n1];rfl
  have hle:=ma (ws:=ws) hi n2;have l1:=W.l1 _ mw;have hgl:=hG.len W;refine⟨_,rfl,.inl ⟨rfl,_,SqL.of gW⟩,_,rfl,RW,ivs row,_,rfl,rfl,gW,Ak (show _<1000000 by rw[zY];omega) (ak (zX _)),?_⟩;have S5:DV HR (upd H'' RW (.lst (ivs row++[.int (k:Int)]))):=fun c o h=>by rw[av (az h nRW)];exact SR _ _ h
  refine⟨_,rfl,_,rfl,_,rfl,l,_,_,_,rfl,rfl,SqL.of (S5 _ _ hlR),aQ ew,txt w0,rfl,lw _ mw,_,_,rfl,rfl,i+w0.length,row++[(k:Int)],a6,a7,some (.int (k:Int)),by omega,hle,?_,S5,?_,.snoc hG hlt n1 b4 (fun k' c=>b5 k' (by omega) c),_,n4⟩
  ·show _=[_,_,_,_,_,some (V.int ((i+w0.length:Nat):Int)),_,_,_]
   rw[<- show((i:Int)+((txt w0).length:Nat))=((i+w0.length:Nat):Int) by show(i:Int)+(w0.length:Nat)=_;omega];rfl
  ·rw[DR];show some (HO.lst (ivs row++[V.int (k:Int)]))=some (HO.lst (List.map V.int (row++[(k:Int)])));rw[Au];rfl
theorem GV:DT ["one","other","a","b","c","d","e","f","g","h"] ["one","other"] (ai (top 17)):=⟨rfl,rfl,rfl,by decide +kernel,rfl,by decide +kernel,by decide +kernel⟩
theorem qt{d:DD}(D:Def K mg "product" (top 17) ["one","other"] d):DY P w K mg base CX0 1 d.f d.fd ["one","other"] (gK K):=by
 refine D.fn.ok GV (fun vs H Q E h=>?_) (fun cdv A outer s H vs Q E hr h=>?_)
 ·obtain⟨u,v,s,t,n,m,rfl,_⟩:=h;rfl
 obtain⟨u,v,s,t,n,m,rfl,⟨p,rfl,hp⟩,⟨r,rfl,hr'⟩,hs,ht,hn,hm,q⟩:=h;have hc:=hr.calm;have nd:=GV.nd;refine⟨_,(ae (fu (pv 0) (iw hc (aG (ao (i:=2) nd rfl (Or.inl rfl)) (aG (ao (i:=3) nd rfl (Or.inl rfl)) (aG (ao (i:=4) nd rfl (Or.inl rfl)) (aG (ao (i:=5) nd rfl (Or.inl rfl)) ED)))))) (ae (fu (pv 1) (iw hc (aG (ao (i:=6) nd rfl (Or.inl rfl)) (aG (ao (i:=7) nd rfl (Or.inl rfl)) (aG (ao (i:=8) nd rfl (Or.inl rfl)) (aG (ao (i:=9) nd rfl (Or.inl rfl)) ED)))))) (ah (ay (aP (aa (au Eb (au bI (pv 2) (pv 6)) (au bI (pv 3) (pv 8))) (aa (au Eb (au bI (pv 2) (pv 7)) (au bI (pv 3) (pv 9))) (aa (au Eb (au bI (pv 4) (pv 6)) (au bI (pv 5) (pv 8))) (aa (au Eb (au bI (pv 4) (pv 7)) (au bI (pv 5) (pv 9))) Ed))))))))),?_⟩
 try dsimp only [bD,Cx.nox,Cx.En]
 refine⟨_,rfl,p,_,rfl,hp,rfl,_,_,rfl,_,_,rfl,_,_,rfl,_,_,rfl,rfl,?_⟩;refine⟨_,rfl,r,_,rfl,hr',rfl,_,_,rfl,_,_,rfl,_,_,rfl,_,_,rfl,rfl,?_⟩;refine⟨_,rfl,_,rfl,_,_,rfl,rfl,hs.a.big ht.a hn hm,_,rfl,_,rfl,_,_,rfl,rfl,hs.b.big ht.c hn hm,_,_,rfl,rfl,?_⟩;refine⟨_,rfl,_,rfl,_,_,rfl,rfl,hs.a.big ht.b hn hm,_,rfl,_,rfl,_,_,rfl,rfl,hs.b.big ht.d hn hm,_,_,rfl,rfl,?_⟩;refine⟨_,rfl,_,rfl,_,_,rfl,rfl,hs.c.big ht.a hn hm,_,rfl,_,rfl,_,_,rfl,rfl,hs.d.big ht.c hn hm,_,_,rfl,rfl,?_⟩;refine⟨_,rfl,_,rfl,_,_,rfl,rfl,hs.c.big ht.b hn hm,_,rfl,_,rfl,_,_,rfl,rfl,hs.d.big ht.d hn hm,_,_,rfl,rfl,?_⟩;refine⟨ak (by show 4<=1000000;decide),fun z hz=>?_⟩;exact q _ _ (af hz _) ⟨z,rfl,DR⟩
theorem JD:DT ["text"] ["text"] (ai (top 24)):=⟨rfl,rfl,rfl,by decide +kernel,rfl,by decide +kernel,by decide +kernel⟩
theorem sJ{d:DD}{lets l1 l2:Addr}{lt:Tok}(m_lw:mg "LONGEST_WORD"=some (.int 400 lt))(yC:mg "LETTERS"=some (.ref lets))(M_lets:rm P w K lets (lkv l1 l2))(D:Def K mg "is_word" (top 24) ["text"] d)(ve:mg "isinstance"=none)(zF:mg "str"=none)(vf:mg "len"=none)(yi:mg "all"=none):DY P w K mg base CX0 1 d.f d.fd ["text"] GG:=by
 refine D.fn.ok JD (fun vs H Q E h=>?_) (fun cdv A outer s H vs Q E hr h=>?_)
 ·obtain⟨z,rfl,_⟩:=h;rfl
 obtain⟨z,rfl,⟨hz,hl⟩,q⟩:=h;have hc:=hr.calm;refine⟨_,(@ae _ _ _ _ _ (@bp _ _ _ _ _ _ _ _ (@PW.pt _ _ _ (@ik _ _ _ _ _ _ _ (@cg _ _ _ _ (@bL _ _ _ (@aF _ _ _ _ _ _ _ _ _ EC rfl ve DU (@aa _ _ _ _ _ (pv 0) (@aE _ _ _ (@cD _ _ (.ty "str") _ _ rfl zF JF rfl (by decide) (by decide)) ax) ax) (by decide) (by decide) (by rfl) (by rfl)) (by intro _;rfl))) (@eZ _ _ _ _ (@aB _ _ _ _ _ _ _ _ GP (@aI _ _ _ _ _ _ DS rfl vf (pv 0) ax) (@aX _ _ (.int 400) _ _ rfl m_lw ⟨_,rfl⟩ (by decide)) (aC _))))) (@ah _ _ _ (@ay _ _ _ _ (@dG _ _ _ _))) (@DX _)) (@ah _ _ _ (@ay _ _ _ _ (@aF _ _ _ _ _ _ _ _ _ (jv hc) rfl yi ID (@aE _ _ _ (@bB _ _ _ _ _ _ _ _ _ _ _ _ _ _ hc (ar (ts:=["letter"]) (cap:=[]) (js:=[]) rfl rfl rfl rfl rfl rfl (by decide +kernel)) (@ki _ _ _ _ (pv 0)) (fun _ _ _ _=>@ao _ _ (0) _ (show(["letter"]:List Str).Nodup by decide +kernel) rfl (Or.inl rfl) (.inr rfl)) (fun _ _ _ _=>@bq _) (fun _ _ _ _=>(@rT _ _ _ _ _ _ (@qF _ _ _ _ _ _ _ M_lets (pv 0) (@aX _ _ (.ref lets) _ _ rfl yC rfl (by decide))) rfl)) (by intro _;rfl)) (by rfl)) (by decide) (by decide) (by rfl) (by rfl))))),?_⟩
 try dsimp only [bD,Cx.nox,Cx.En]
 refine⟨_,rfl,.str z,.ty "str",_,_,true,rfl,rfl,.str z,rfl,true,rfl,?_⟩;refine⟨_,rfl,z,rfl,ak (by walk_at "o"),_,_,rfl,rfl,_,rfl,pK (fun h1=>?_) (fun h1=>?_)⟩
 ·have h1':(z.length:Int)>400:=Do h1;have e:false=fL z:=by
   unfold fL;rw[Dk (by omega)];rfl
  have y:=q H (DV.refl H);rw[<- e] at y;exact y
 ·have h1':¬(z.length:Int)>400:=of_decide_eq_false (Bz.mpr h1);refine⟨_,rfl,z,rfl,hz,?_⟩;refine qk (z:=z) (fun i ys H'=>H'=H/\ys=((z.cps.toList.take i).map lrB).map V.bl) ⟨rfl,rfl⟩ (fun i ys H' hi y=>by rw[y.2,zY,zY,Af];omega) (ak (by have:z.cps.size=z.length:=rfl;walk_at "o")) (fun i c ys H' hc' y=>?_) (fun ys H' y p hp=>?_)
  ·obtain⟨rfl,rfl⟩:=y;have hi:i<z.cps.size:=(By.mp hc').1;have hc2:z.cps.toList[i]?=some c:=by rw[Ao];exact hc'
   refine⟨_,rfl,.inr ⟨#[c]⟩,rfl,rfl,Nx.mk hi ⟨rfl,?_⟩⟩;rw[rC,Az,hc2,Au,Au];rfl
  ·obtain⟨rfl,rfl⟩:=y;refine⟨p,(z.cps.toList.map lrB),rfl,?_,?_⟩
   ·have e1:z.cps.toList.take z.cps.size=z.cps.toList:=Av (by rw[Ab];exact zX _);rw[e1];exact SqL.of DR
   ·have e:((z.cps.toList.map lrB).all id)=fL z:=by
     unfold fL;rw[Dj (show z.length<=400 by omega),Bool.true_and,List.all_map];rfl
    rw[e];exact q _ (af hp _)
def rK (K:W.Frag):Sp:=fun vs H Q _=>∃l xs ts n,vs=[.ref l]/\SqL K H l xs/\TL K H xs ts/\(∀t∈ts,Bd n t)/\(n+1)*ts.length+1<=1048576/\n<=1048576/\∀r H',DV H H'->T4 K H' r (cx ts)->Q r H'
theorem JP:DT ["tables","made","table"] ["tables"] (ai (top 18)):=⟨rfl,rfl,rfl,by decide +kernel,rfl,by decide +kernel,by decide +kernel⟩
theorem sZ{dp d:DD}{one:Addr}(zJ:mg "ONE"=some (.ref one))(k_one:∀H,SqT K H one Tb.one.vs)(xw:Def K mg "product" (top 17) ["one","other"] dp)(yo:DY P w K mg base CX0 1 dp.f dp.fd ["one","other"] (gK K))(D:Def K mg "product_of" (top 18) ["tables"] d):DY P w K mg base CX0 2 d.f d.fd ["tables"] (rK K):=by
 refine D.fn.ok JP (fun vs H Q E h=>?_) (fun cdv A outer s H vs Q E hr h=>?_)
 ·obtain⟨l,xs,ts,n,rfl,_⟩:=h;rfl
 obtain⟨l,xs,ts,n,rfl,hl,ht,hb,hz,hn,q⟩:=h;have hc:=hr.calm;have nd:=JP.nd;refine⟨_,(ae (aq (i:=1) nd rfl (Or.inl rfl) (aX (v:=.ref one) rfl zJ rfl)) (ae (bR PassesOwn.never hc (aV (pv 0)) (ao (i:=2) nd rfl (Or.inl rfl)) (ah (aq (i:=1) nd rfl (Or.inl rfl) (jb (yo.mono (by decide)) hr rfl xw.m xw.fn.kp xw.b .nil bW (aa (pv 1) (aa (pv 2) Ed)))))) (ah (ay (pv 1))))),?_⟩
 try dsimp only [bD,Cx.nox,Cx.En]
 have main:∀(v:V)(H1:Hp),DV H H1->T4 K H1 v Tb.one->tS (uZ (pZ K (ny 0)) (gr 2) (ug (oo (gK K) [] E0 (fX (ny 1) (fX (ny 2) He))) (gr 1))) (uP (ny 1)) {nx:=fun _ H'=>Q .non H',rt:=Q} [some (.ref l),some v,none] H1:=by
  intro v H1 S1 h1;refine⟨_,rfl,l,rfl,⟨xs,S1.seq hl⟩,?_⟩;refine dz (K:=K) (xs:=xs) (fun i σ H'=>∃v o,σ=[some (.ref l),some v,o]/\DV H H'/\T4 K H' v (cx (ts.take i))/\(i=0\/T4o H' v (cx (ts.take i)))) ⟨v,none,rfl,S1,h1,.inl rfl⟩ (fun i σ H' hi z=>by obtain⟨_,_,_,e,_⟩:=z;exact e.seq hl) (fun i x σ H' hx z=>?_) (fun σ H' z=>?_)
  ·obtain⟨v,o,rfl,e1,e2,e5⟩:=z;obtain⟨t,et,h4⟩:=ht.get hx;have hi:i<ts.length:=(Ad.mp et).1;have bl:(n+1)*i+1<=1048576:=by
    have:(n+1)*i<=(n+1)*ts.length:=Nat.mul_le_mul_left _ (by omega);omega
   refine⟨_,rfl,_,rfl,v,x,cx (ts.take i),t,(n+1)*i+1,n,rfl,e2,h4.mono e1,fM hb i,hb t (Am et),bl,hn,fun r H2 S2 h2=>?_⟩;have es:cx (ts.take (i+1))=(cx (ts.take i)).mul t:=by
    rw[Az,et];exact dF _ _
   rw[<- es] at h2;exact⟨r,_,rfl,e1.trans S2,h2.t4,.inr h2⟩
  ·obtain⟨v,o,rfl,e1,e2,e5⟩:=z;rw[ht.length] at e2 e5;rw[AL] at e2 e5;exact⟨v,rfl,q v H' e1 e2⟩
 exact main (.ref one) H (DV.refl H) ⟨one,rfl,k_one H⟩
def pM (K:W.Frag):Sp:=fun vs H Q _=>∃cs,vs=[.str (txt cs)]/\(∀c∈cs,Eo c)/\cs.length<=400/\∀r H',DV H H'->T4 K H' r (wt cs)->Q r H'
theorem Iu:DT ["word"] ["word"] (ai (top 25)):=⟨rfl,rfl,rfl,by decide +kernel,rfl,by decide +kernel,by decide +kernel⟩
theorem qT{di dp d:DD}{lets l1 l2:Addr}(yC:mg "LETTERS"=some (.ref lets))(M_lets:rm P w K lets (lkv l1 l2))(k_l:∀H,SqT K H l1 (bX 108).vs)(k_r:∀H,SqT K H l2 (bX 114).vs)(yG:Def K mg "is_word" (top 24) ["text"] di)(yZ:DY P w K mg base CX0 1 di.f di.fd ["text"] GG)(D_po:Def K mg "product_of" (top 18) ["tables"] dp)(G_po:DY P w K mg base CX0 2 dp.f dp.fd ["tables"] (rK K))(D:Def K mg "table_of" (top 25) ["word"] d):DY P w K mg base CX0 3 d.f d.fd ["word"] (pM K):=by
 refine D.fn.ok Iu (fun vs H Q E h=>?_) (fun cdv A outer s H vs Q E hr h=>?_)
 ·obtain⟨cs,rfl,_⟩:=h;rfl
 obtain⟨cs,rfl,hlr,l400,q⟩:=h;have hc:=hr.calm;have nd:=Iu.nd;refine⟨_,(@ae _ _ _ _ _ (@bp _ _ _ _ _ _ _ _ (@cg _ _ _ _ (@bL _ _ _ (@bT _ _ _ _ _ _ _ _ _ _ _ _ yG yZ (by decide) hr rfl (pv 0) ax (by decide)) (by intro _;rfl))) (@ah _ _ _ (@EZ _ _)) (@DX _)) (@ah _ _ _ (@ay _ _ _ _ (@bT _ _ _ _ _ _ _ _ _ _ _ _ D_po G_po (by decide) hr rfl (@bB _ _ _ _ _ _ _ _ _ _ _ _ _ _ hc (ar (ts:=["letter"]) (cap:=[]) (js:=[]) rfl rfl rfl rfl rfl rfl (by decide +kernel)) (@ki _ _ _ _ (pv 0)) (fun _ _ _ _=>@ao _ _ (0) _ (show(["letter"]:List Str).Nodup by decide +kernel) rfl (Or.inl rfl) (.inr rfl)) (fun _ _ _ _=>@bq _) (fun _ _ _ _=>(@og _ _ _ _ _ _ _ _ M_lets (@aX _ _ (.ref lets) _ _ rfl yC rfl (by decide)) (pv 0) (fun _ _=>rfl))) (by intro _;rfl)) (by rfl) (by decide))))),?_⟩
 try dsimp only [bD,Cx.nox,Cx.En]
 have hz:asc (txt cs):=⟨by rw[<- Cs,Be];intro c hc;exact Dj (by rcases hlr c hc with rfl|rfl<;>decide),by show cs.toArray.size<=100000;rw[An];walk_at "o"⟩
 have hwb:fL (txt cs)=true:=Hj.mpr ⟨by show cs.toArray.size<=400;rw[An];exact l400,hlr⟩;refine⟨_,rfl,txt cs,rfl,hz,fun H1 S1=>⟨fL (txt cs),rfl,?_⟩⟩;rw[hwb];refine⟨_,rfl,txt cs,rfl,hz.1,?_⟩;have sz:(txt cs).cps.size=cs.length:=by show cs.toArray.size=_;simp
 refine qk (z:=txt cs) (fun i ys H'=>H'=H1/\ys=(cs.take i).map fun c=>V.ref (if c=108 then l1 else l2)) ⟨rfl,rfl⟩ (fun i ys H' hi y=>by rw[y.2,zY,Af];omega) (ak (by walk_at "o")) (fun i c ys H' hc' y=>?_) (fun ys H' y p hp=>?_)
 ·obtain⟨rfl,rfl⟩:=y;have hi:i<(txt cs).cps.size:=(By.mp hc').1;have hc2:cs[i]?=some c:=by
   have:(txt cs).cps.toList[i]?=some c:=by rw[Ao];exact hc'
   exact this
  have lc:=hlr c (Am hc2);refine⟨_,rfl,.inr ⟨#[c]⟩,_,rfl,rfl,rS l1 l2 c lc,Nx.mk hi ⟨rfl,?_⟩⟩;rw[Az,hc2,Au];rfl
 ·obtain⟨rfl,rfl⟩:=y;rw[sz,AL];refine⟨p,_,cs.map bX,1,rfl,SqL.of DR,sY hlr fun c hc=>?_,fun t ht=>?_,?_,by decide,fun r H2 S h4=>q r H2 (S1.trans ((af hp _).trans S)) ?_⟩
  ·rcases hc with rfl|rfl
   ·exact⟨l1,rfl,k_l _⟩
   ·exact⟨l2,rfl,k_r _⟩
  ·obtain⟨c,hc,rfl⟩:=Ax.mp ht;exact sG (hlr c hc)
  ·rw[zY];omega
  ·rw[bJ] at h4;exact h4
end
inductive Mk(ws:List (List Nat))(x:List Nat):Nat->List Int->Prop
 |nil:Mk ws x 0 []
 |snoc {e k:Nat}{w:List Nat}{r:List Int}:Mk ws x e r->ws[k]?=some w->(x.drop e).take w.length=w->e+w.length<=x.length->Mk ws x (e+w.length) (r++[(k:Int)])
theorem oA(y w:List Nat):cU y w=true↔w.length<=y.length/\(y.drop (y.length-w.length)).take w.length=w:=by
 unfold cU Txt.endswith;show(decide (0+w.length<=y.length)&&(y.toArray.extract (y.length-w.length) (y.length-w.length+w.length)==w.toArray))=true↔_;rw[AK,decide_eq_true_iff,DP];have e:(y.toArray.extract (y.length-w.length) (y.length-w.length+w.length)).toList=(y.drop (y.length-w.length)).take w.length:=by
  rw[Ca];show(y.drop (y.length-w.length)).take (y.length-w.length+w.length-(y.length-w.length))=_;rw[Nat.add_sub_cancel_left]
 refine⟨fun⟨h1,h2⟩=>⟨by omega,by rw[<- e,h2]⟩,fun hq110=>?_⟩;obtain⟨h1,h2⟩:=hq110;refine⟨by omega,?_⟩;apply Array.toList_inj.mp;rw[e,h2]
theorem fC{ws:List (List Nat)}{x:List Nat}{e:Nat}(he:e<=x.length){k j:Nat}:(k,j)∈aD ws x e↔∃w,ws[k]?=some w/\j+w.length=e/\(x.drop j).take w.length=w:=by
 have tl:(x.take e).length=e:=by rw[Af];omega
 have eb:∀w:List Nat,cU (x.take e) w=true↔w.length<=e/\(x.drop (e-w.length)).take w.length=w:=fun w=>by
  rw[oA,tl,Cq];refine⟨fun⟨h1,h2⟩=>⟨h1,?_⟩,fun⟨h1,h2⟩=>⟨h1,?_⟩⟩
  ·rw[BF,AV (by omega)] at h2;exact h2
  ·rw[BF,AV (by omega)];exact h2
 constructor
 ·intro h;obtain⟨w,h1,h2,h3⟩:=eF h;obtain⟨h4,h5⟩:=(eb w).mp h2;have h3':j=e-w.length:=h3;exact⟨w,h1,by omega,by rw[h3'];exact h5⟩
 ·rintro⟨w,h1,h2,h3⟩;have ej:j=e-w.length:=by omega
  unfold aD;refine Ax.mpr ⟨(w,k),Bl.mpr ⟨Dc.mpr h1,(eb w).mpr ⟨by omega,by rw[<- ej];exact h3⟩⟩,?_⟩;show(k,e-w.length)=_;rw[ej]
theorem Mk.step{ws:List (List Nat)}{x:List Nat}{e:Nat}(he:e<=x.length){r:List Int}{s:Nat×Nat}(hs:s∈aD ws x e)(h:Mk ws x s.2 r):Mk ws x e (r++[(s.1:Int)]):=by
 obtain⟨k,j⟩:=s;obtain⟨w,h1,h2,h3⟩:=(fC he).mp hs;subst h2;exact .snoc h h1 h3 he
theorem Mk.inv{ws:List (List Nat)}{x:List Nat}{e:Nat}{r:List Int}(h:Mk ws x e r):(e=0/\r=[])\/∃s r',s∈aD ws x e/\Mk ws x s.2 r'/\r=r'++[(s.1:Int)]:=by
 cases h with
 |nil=>exact .inl ⟨rfl,rfl⟩
 |@snoc e k w r h hw hx hl=>exact .inr ⟨(k,e),r,(fC hl).mpr ⟨w,hw,rfl,hx⟩,h,rfl⟩
theorem Mk.zero{ws:List (List Nat)}(W:Wok ws){x:List Nat}{r:List Int}(h:Mk ws x 0 r):r=[]:=by
 rcases h.inv with ⟨_,e⟩|⟨s,r',hs,_⟩
 ·exact e
 ·obtain⟨w,hw,_,e2⟩:=eF hs;obtain⟨w',h1,h2,_⟩:=(fC (k:=s.1) (j:=s.2) (Ah x.length)).mp hs;have:=W.l1 w' (Am h1);omega
theorem ml(ws:List (List Nat))(x:List Nat):∀n i,i<=n->∀m,n<=m->(bP ws x m).getD i (none,0)=(bP ws x n).getD i (none,0):=by
 intro n i hi m hm;induction m with
 |zero=>have:n=0:=(by omega);subst this;rfl
 |succ m ih=>
  by_cases e:n=m+1
  ·subst e;rfl
  ·rw[bP,bQ,Di (by rw[bh];omega)];exact ih (by omega)
theorem kq{ws:List (List Nat)}(W:Wok ws){x:List Nat}:∀n,n<=x.length->∀e,e<=n ->
  (((bP ws x n).getD e (none,0)).1=none->∀r,¬Mk ws x e r)/\∀c,((bP ws x n).getD e (none,0)).1=some c->(∃r,Mk ws x e r/\(r.length:Int)=c)/\∀r,Mk ws x e r->c<=(r.length:Int):=by
 intro n;induction n with
 |zero=>
  intro _ e he;obtain rfl:e=0:=by omega
  refine⟨(fun h=>by cases h),fun c h=>?_⟩;have h':some (0:Int)=some c:=h;cases h';exact⟨⟨[],.nil,rfl⟩,fun r _=>by omega⟩
 |succ n ih=>
  intro hn e he;by_cases e1:e<=n
  ·have:=ml ws x n e e1 (n+1) (by omega);rw[this];exact ih (by omega) e e1
  ·obtain rfl:e=n+1:=by omega
   rw[bP,bQ,Dh (by rw[bh];omega),Di (by rw[bh])];have ih':=ih (by omega);constructor
   ·intro h r hr;have h0:=CQ.mp h;rcases hr.inv with ⟨z,_⟩|⟨s,r',hs,hr',rfl⟩
    ·omega
    ·have hle:=bj W hs;cases q:((bP ws x n).getD s.2 (none,0)).1 with
     |none=>exact(ih' s.2 hle).1 q r' hr'
     |some c=>
      have:c+1∈((aD ws x (n+1)).filterMap fun s=>((bP ws x n).getD s.2 (none,0)).1.map (·+1)):=AX.mpr ⟨s,hs,by rw[q];rfl⟩;rw[h0] at this;cases this
   ·intro c h;obtain⟨h1,h2⟩:=List.min?_eq_some_iff.mp h;obtain⟨s,hs,es⟩:=AX.mp h1;have hle:=bj W hs;constructor
    ·cases q:((bP ws x n).getD s.2 (none,0)).1 with
     |none=>rw[q] at es;cases es
     |some c'=>
      rw[q] at es;have es':c'+1=c:=by simpa using es
      obtain⟨⟨r,hr,hl⟩,_⟩:=(ih' s.2 hle).2 c' q;exact⟨r++[(s.1:Int)],hr.step hn hs,by rw[zZ];show((r.length+1:Nat):Int)=c;omega⟩
    ·intro r hr;rcases hr.inv with ⟨z,_⟩|⟨s',r',hs',hr',rfl⟩
     ·omega
     ·have hle':=bj W hs';cases q:((bP ws x n).getD s'.2 (none,0)).1 with
      |none=>exact absurd hr' ((ih' s'.2 hle').1 q r')
      |some c'=>
       have:=h2 (c'+1) (AX.mpr ⟨s',hs',by rw[q];rfl⟩);have:=((ih' s'.2 hle').2 c' q).2 r' hr';rw[zZ];show c<=((r'.length+1:Nat):Int)
       omega
theorem eB(ws:List (List Nat))(x:List Nat):∀n,ba ws x n=(bP ws x n).map (·.2)
 |0=>rfl
 |n+1=>by
  rw[ba,bP,Au,<- eB ws x n]
  congr 1
  show[_]=[_]
  congr 2
  apply Cz;intro s _;rw[eB ws x n,Aw,Aw,Aj];cases (bP ws x n)[s.2]?<;>rfl
theorem HD:∀(l:List Int),(∀y∈l,0<=y)->0<=l.sum/\(0<l.sum↔∃y∈l,0<y)
 |[],_=>⟨by decide,⟨fun h=>absurd h (by decide),fun⟨_,h,_⟩=>by cases h⟩⟩
 |a::l,h=>by
  obtain⟨i1,i2⟩:=HD l fun y hy=>h y (AE _ hy);have ha:=h a Aq;rw[List.sum_cons];refine⟨by omega,fun hp=>?_,fun⟨y,hy,hp⟩=>?_⟩
  ·by_cases z:0<a
   ·exact⟨a,Aq,z⟩
   ·obtain⟨y,h1,h2⟩:=i2.mp (by omega);exact⟨y,AE _ h1,h2⟩
  ·rcases Ag.mp hy with rfl|hy
   ·omega
   ·have:=i2.mpr ⟨y,hy,hp⟩;omega
theorem mj{ws:List (List Nat)}(W:Wok ws)(x:List Nat):∀n e,e<=n->0<=((bP ws x n).getD e (none,0)).2/\(0<((bP ws x n).getD e (none,0)).2↔((bP ws x n).getD e (none,0)).1≠none):=by
 intro n;induction n with
 |zero=>
  intro e he;obtain rfl:e=0:=by omega
  exact⟨(by show(0:Int)<=1;decide),(fun _ h=>by cases h),(fun _=>by show(0:Int)<1;decide)⟩
 |succ n ih=>
  intro e he;by_cases e1:e<=n
  ·have:=ml ws x n e e1 (n+1) (by omega);rw[this];exact ih e e1
  ·obtain rfl:e=n+1:=by omega
   rw[bP,bQ,Dh (by rw[bh];omega),Di (by rw[bh])]
   obtain⟨p1,p2⟩:=HD ((aD ws x (n+1)).map fun s=>((bP ws x n).getD s.2 (none,0)).2) (fun y hy=>by
    obtain⟨s,hs,rfl⟩:=Ax.mp hy
    exact (ih s.2 (bj W hs)).1)
   refine⟨p1,p2.trans ⟨fun⟨y,hy,hp⟩ h=>?_,fun h=>?_⟩⟩
   ·obtain⟨s,hs,rfl⟩:=Ax.mp hy;have h0:=CQ.mp h;have:=(ih s.2 (bj W hs)).2.mp hp;cases q:((bP ws x n).getD s.2 (none,0)).1 with
    |none=>exact this q
    |some c=>
     have:c+1∈((aD ws x (n+1)).filterMap fun s=>((bP ws x n).getD s.2 (none,0)).1.map (·+1)):=AX.mpr ⟨s,hs,by rw[q];rfl⟩;rw[h0] at this;cases this
   ·cases q:((aD ws x (n+1)).filterMap fun s=>((bP ws x n).getD s.2 (none,0)).1.map (·+1)) with
    |nil=>exact absurd (CQ.mpr q) h
    |cons y l=>
     have:y∈((aD ws x (n+1)).filterMap fun s=>((bP ws x n).getD s.2 (none,0)).1.map (·+1)):=by rw[q];exact Aq
     obtain⟨s,hs,es⟩:=AX.mp this;refine⟨_,Ax.mpr ⟨s,hs,rfl⟩,(ih s.2 (bj W hs)).2.mpr fun z=>?_⟩;rw[z] at es;cases es
theorem iA(k:Int):∀{a b:List Int},a.length=b.length->HT.lexLt (a++[k]) (b++[k])=HT.lexLt a b
 |[],[],_=>by show HT.lexLt [k] [k]=HT.lexLt [] [];rw[Ee,Ee]
 |x::a,y::b,h=>by
  show HT.lexLt (x::(a++[k])) (y::(b++[k]))=_;rw[HT.Ej,HT.Ej,iA k (by simpa using h)]
theorem qj(k:Int)(a b:List Int):kLt (a++[k]) (b++[k])=kLt a b:=by
 unfold kLt bC;rw[zZ,zZ];by_cases h:a.length=b.length
 ·rw[Di (by rw[h]),Di (by rw[h]),iA k h]
 ·rw[Dh (by show ¬((a.length+1:Nat):Int)=((b.length+1:Nat):Int);omega),Dh (by omega)];apply decide_eq_decide.mpr;show((a.length+1:Nat):Int)<((b.length+1:Nat):Int)↔_;omega
theorem FU:∀{a b:List Int},a.length=b.length->HT.lexLt a b=false->HT.lexLt b a=false->a=b
 |[],[],_,_,_=>rfl
 |x::a,y::b,h,h1,h2=>by
  rw[HT.Ej] at h1 h2;by_cases e:x=y
  ·rw[Di e] at h1;rw[Di e.symm] at h2;rw[e,FU (by simpa using h) h1 h2]
  ·rw[Dh e] at h1;rw[Dh (DC e)] at h2;have:=of_decide_eq_false h1;have:=of_decide_eq_false h2;omega
theorem lF{a b:List Int}(h1:kLt a b=false)(h2:kLt b a=false):a=b:=by
 unfold kLt bC at h1 h2;by_cases h:a.length=b.length
 ·rw[Di (by rw[h])] at h1 h2;exact FU h h1 h2
 ·rw[Dh (by omega)] at h1 h2;have:=of_decide_eq_false h1;have:=of_decide_eq_false h2;omega
theorem rR{a b c:List Int}(h1:kLt a b=false)(h2:kLt b c=false):kLt a c=false:=by
 cases h:kLt a c with
 |false=>rfl
 |true=>
  cases q:kLt c b with
  |true=>rw[gU h q] at h1;cases h1
  |false=>rw[lF h2 q,h] at h1;cases h1
theorem lV{ws:List (List Nat)}(W:Wok ws){x:List Nat}{n:Nat}{L:List (Option (List Int))}(h:Lst ws x n L):n<=x.length->∀e,e<=n ->
  (L.getD e none=none->∀r,¬Mk ws x e r)/\∀r,L.getD e none=some r->Mk ws x e r/\∀r',Mk ws x e r'->kLt r' r=false:=by
 induction h with
 |zero=>
  intro _ e he;obtain rfl:e=0:=by omega
  refine⟨(fun h=>by cases h),fun r h=>?_⟩;have h':some ([]:List Int)=some r:=h;cases h';exact⟨.nil,fun r' h=>by rw[h.zero W];unfold kLt bC;rw[Di rfl];rfl⟩
 |@miss n L hL hc ih=>
  intro hn e he;rw[bQ];by_cases e1:e<=n
  ·rw[Di (by rw[hL.len];omega)];exact ih (by omega) e e1
  ·obtain rfl:e=n+1:=by omega
   rw[Dh (by rw[hL.len];omega),Di (by rw[hL.len])];refine⟨fun _ r hr=>?_,(fun r h=>by cases h)⟩;rcases hr.inv with ⟨z,_⟩|⟨s,r',hs,hr',rfl⟩
   ·omega
   ·have hle:=bj W hs;cases q:L.getD s.2 none with
    |none=>exact(ih (by omega) s.2 hle).1 q r' hr'
    |some b=>
     have:b++[(s.1:Int)]∈lO ws x L (n+1):=AX.mpr ⟨s,hs,by rw[q];rfl⟩;rw[hc] at this;cases this
 |@hit n L r hL hr hm ih=>
  intro hn e he;rw[bQ];by_cases e1:e<=n
  ·rw[Di (by rw[hL.len];omega)];exact ih (by omega) e e1
  ·obtain rfl:e=n+1:=by omega
   rw[Dh (by rw[hL.len];omega),Di (by rw[hL.len])];refine⟨(fun h=>by cases h),fun r0 h=>?_⟩;cases h;constructor
   ·obtain⟨s,hs,es⟩:=AX.mp hr;have hle:=bj W hs;cases q:L.getD s.2 none with
    |none=>rw[q] at es;cases es
    |some b=>
     rw[q] at es;have es':b++[(s.1:Int)]=r:=by simpa using es
     rw[<- es'];exact((ih (by omega) s.2 hle).2 b q).1.step hn hs
   ·intro r' hr';rcases hr'.inv with ⟨z,_⟩|⟨s,r0,hs,hr0,rfl⟩
    ·omega
    ·have hle:=bj W hs;cases q:L.getD s.2 none with
     |none=>exact absurd hr0 ((ih (by omega) s.2 hle).1 q r0)
     |some b=>
      have h1:=((ih (by omega) s.2 hle).2 b q).2 r0 hr0;have h2:=hm (b++[(s.1:Int)]) (AX.mpr ⟨s,hs,by rw[q];rfl⟩);rw[<- qj (s.1:Int)] at h1;exact rR h1 h2
inductive MkF(ws:List (List Nat))(x:List Nat):Nat->List Int->Prop
 |nil:MkF ws x x.length []
 |cons {i k:Nat}{w:List Nat}{r:List Int}:ws[k]?=some w->(x.drop i).take w.length=w->i+w.length<=x.length->MkF ws x (i+w.length) r->MkF ws x i ((k:Int)::r)
theorem MkF.le{ws:List (List Nat)}{x:List Nat}{i:Nat}{r:List Int}(h:MkF ws x i r):i<=x.length:=by
 cases h with
 |nil=>exact zX _
 |cons _ _ h _=>omega
theorem lH(x:List Nat)(i n:Nat)(h:i+n<=x.length):(x.reverse.drop (x.length-(i+n))).take n=((x.drop i).take n).reverse:=by
 rw[List.drop_reverse,List.take_reverse]
 congr 1
 rw[show x.length-(x.length-(i+n))=i+n by omega,Af,AV h,show i+n-n=i by omega,Cq,show i+n-i=n by omega]
theorem tm{ws:List (List Nat)}{x:List Nat}{e:Nat}{r:List Int}(h:Mk (Ho ws) x.reverse e r):MkF ws x (x.length-e) r.reverse:=by
 induction h with
 |nil=>exact .nil
 |@snoc e k w r h hw hx hl ih=>
  rw[AJ] at hl;rw[Aj] at hw;cases q:ws[k]? with
  |none=>rw[q] at hw;cases hw
  |some v=>
   rw[q] at hw;have ew:v.reverse=w:=by simpa using hw
   subst ew;rw[AJ] at hx hl ⊢;rw[Cr];have e1:x.length-(e+v.length)+v.length=x.length-e:=by omega
   refine .cons q ?_ (by omega) (by rw[e1];exact ih);have:=lH x (x.length-(e+v.length)) v.length (by omega);rw[e1,show x.length-(x.length-e)=e by omega,hx] at this;exact(List.reverse_inj.mp this).symm
theorem kS{ws:List (List Nat)}{x:List Nat}{i:Nat}{r:List Int}(h:MkF ws x i r):Mk (Ho ws) x.reverse (x.length-i) r.reverse:=by
 induction h with
 |nil=>rw[Cd];exact .nil
 |@cons i k w r hw hx hl h ih=>
  rw[BM];have e1:x.length-i=x.length-(i+w.length)+w.reverse.length:=by rw[AJ];omega
  rw[e1];refine .snoc ih (by rw[Aj,hw];rfl) ?_ (by rw[AJ,AJ];omega);rw[AJ,lH x i w.length hl,hx]
theorem rn(ws:List (List Nat))(x:List Nat)(i:Nat)(h:i<=x.length):few ws x i=((bP (Ho ws) x.reverse x.length).getD (x.length-i) (none,0)).1:=by
 unfold few rst;rw[Aw,CG (by rw[bh];omega),bh,Aw,show x.length+1-1-i=x.length-i by omega]
theorem dR{ws:List (List Nat)}(W:Wok ws){x:List Nat}{i:Nat}(h:i<=x.length) :
  (few ws x i=none->∀r,¬MkF ws x i r)/\∀c,few ws x i=some c->(∃r,MkF ws x i r/\(r.length:Int)=c)/\∀r,MkF ws x i r->c<=(r.length:Int):=by
 rw[rn ws x i h];obtain⟨h1,h2⟩:=kq W.Ho (x:=x.reverse) x.length (by rw[AJ];exact zX _) (x.length-i) (by omega);refine⟨fun e r hr=>h1 e _ (kS hr),fun c e=>?_⟩;obtain⟨⟨r,hr,hl⟩,hm⟩:=h2 c e;refine⟨⟨r.reverse,?_,by rw[AJ];exact hl⟩,fun r' hr'=>?_⟩
 ·have:=tm hr;rw[show x.length-(x.length-i)=i by omega] at this;exact this
 ·have:=hm _ (kS hr');rw[AJ] at this;exact this
theorem pJ{ws:List (List Nat)}(W:Wok ws){x:List Nat}{i k:Nat}{r:List Int}{c:Int}(hc:few ws x i=some c)(h:MkF ws x i ((k:Int)::r))(hl:((r.length:Int)+1)=c):∃w,ws[k]?=some w/\Nok ws x i k/\MkF ws x (i+w.length) r:=by
 have hi:=h.le;generalize hr:((k:Int)::r)=rr at h;cases h with
 |nil=>cases hr
 |@cons _ k' w r' hw hx hle h'=>
  injection hr with h1 h2;have:k=k':=by omega
  subst this h2;refine⟨w,hw,⟨w,c,hw,hx,hc,?_⟩,h'⟩;cases q:few ws x (i+w.length) with
  |none=>exact absurd h' ((dR W hle).1 q _)
  |some c'=>
   obtain⟨⟨r4,h4,l4⟩,m4⟩:=(dR W hle).2 c' q;have a1:=m4 _ h';have a2:=((dR W hi).2 c hc).2 _ (.cons hw hx hle h4);have:(((k:Int)::r4).length:Int)=r4.length+1:=by rw[AF];omega
   congr 1
   omega
theorem sQ{ws:List (List Nat)}(W:Wok ws){x:List Nat}(i:Nat)(c:Int)(hi:i<x.length)(hc:few ws x i=some c):∃k,Nok ws x i k:=by
 obtain⟨⟨r,hr,hl⟩,_⟩:=(dR W (AW hi)).2 c hc;cases r with
 |nil=>
  generalize hn:([]:List Int)=rr at hr;cases hr with
  |nil=>omega
  |cons=>cases hn
 |cons k0 r=>
  obtain⟨k,rfl⟩:∃k:Nat,k0=(k:Int):=by
   generalize hn:(k0::r)=rr at hr;cases hr with
   |nil=>cases hn
   |cons=>injection hn with h1 _;exact⟨_,h1⟩
  obtain⟨w,_,h,_⟩:=pJ W hc hr (by rw[AF] at hl;walk_at "o");exact⟨k,h⟩
theorem lg{ws:List (List Nat)}{x:List Nat}{e:Nat}{r:List Int}(h:Mk ws x e r):∀s,MkF ws x e s->MkF ws x 0 (r++s):=by
 induction h with
 |nil=>intro s hs;exact hs
 |snoc h hw hx hl ih=>
  intro s hs;rw[AG];exact ih _ (.cons hw hx hl hs)
theorem Grd.mk{ws:List (List Nat)}{x:List Nat}{i:Nat}{r:List Int}(h:Grd ws x i r):Mk ws x i r:=by
 induction h with
 |nil=>exact .nil
 |snoc h hi hw hk _ ih=>
  obtain⟨w,c,n1,n2,_⟩:=hk;rw[hw] at n1;cases n1;exact .snoc ih hw n2 (ma (ws:=ws) (AW hi) n2)
theorem sC{ws:List (List Nat)}(W:Wok ws){x:List Nat}{c0:Int}(h0:few ws x 0=some c0){i:Nat}{row:List Int}(h:Grd ws x i row) :
  (∃c,few ws x i=some c/\(row.length:Int)+c=c0)/\∀r',MkF ws x 0 r'->(r'.length:Int)=c0->(∃r'',r'=row++r''/\MkF ws x i r'')\/∃(p:List Int)(a:Int)(s:List Int)(b:Int)(t:List Int),r'=p++a::s/\row=p++b::t/\b<a:=by
 induction h with
 |nil=>exact⟨⟨c0,h0,by show((0:Nat):Int)+c0=c0;omega⟩,fun r' h _=>.inl ⟨r',rfl,h⟩⟩
 |@snoc i k w r hg hi hw hk hmin ih=>
  obtain⟨⟨c,hc,hl⟩,hall⟩:=ih;obtain⟨w',c',n1,n2,n3,n4⟩:=id hk;rw[hw] at n1;cases n1;rw[hc] at n3;cases n3;refine⟨⟨c-1,n4,by rw[zZ];show((r.length+1:Nat):Int)+(c-1)=c0;omega⟩,fun r' hr' hl'=>?_⟩;rcases hall r' hr' hl' with ⟨r'',rfl,hr''⟩|⟨p,a,s,b,t,h1,h2,h3⟩
  ·cases r'' with
   |nil=>
    generalize hn:([]:List Int)=rr at hr'';cases hr'' with
    |nil=>omega
    |cons=>cases hn
   |cons k0 r3=>
    obtain⟨k',rfl⟩:∃k:Nat,k0=(k:Int):=by
     generalize hn:(k0::r3)=rr at hr'';cases hr'' with
     |nil=>cases hn
     |cons=>injection hn with h1 _;exact⟨_,h1⟩
    rw[zZ,AF] at hl';obtain⟨w',hw',hk',h3⟩:=pJ W hc hr'' (by omega);by_cases e:k'<k
    ·exact absurd hk' (hmin k' e)
    ·by_cases e2:k'=k
     ·subst e2;rw[hw] at hw';cases hw';exact .inl ⟨r3,by rw[AG];rfl,h3⟩
     ·exact .inr ⟨r,(k':Int),r3,(k:Int),[],rfl,rfl,by omega⟩
  ·exact .inr ⟨p,a,s,b,t++[(k:Int)],h1,by rw[h2,AG];rfl,h3⟩
theorem jm(a b:Int)(s t:List Int)(h:b<a):∀p:List Int,HT.lexLt (p++a::s) (p++b::t)=false
 |[]=>by
  show HT.lexLt (a::s) (b::t)=false;rw[HT.Ej,Dh (by omega)];exact Dk (by omega)
 |y::p=>by
  show HT.lexLt (y::(p++a::s)) (y::(p++b::t))=false;rw[HT.Ej,Di rfl];exact jm a b s t h p
theorem iX{ws:List (List Nat)}(W:Wok ws){x:List Nat}{L:List (Option (List Int))}{r row:List Int}(hL:Lst ws x x.length L)(hr:L.getD x.length none=some r)(hg:Grd ws x x.length row):r=row:=by
 obtain⟨hm,hmin⟩:=(lV W hL (zX _) x.length (zX _)).2 r hr;have h1:=hmin row hg.mk;have hf:=lg hm _ .nil;rw[AC] at hf;cases h0:few ws x 0 with
 |none=>exact absurd hf ((dR W (Ah _)).1 h0 _)
 |some c0=>
  obtain⟨⟨c,hc,hl⟩,hall⟩:=sC W h0 hg;have hz:c=0:=by
   obtain⟨⟨q,hq,lq⟩,hm2⟩:=(dR W (zX _)).2 c hc;have a1:=hm2 _ .nil;have a2:((([]:List Int).length:Nat):Int)=0:=rfl;omega
  have hge:=((dR W (Ah _)).2 c0 h0).2 r hf;refine lF ?_ h1;by_cases hle:(r.length:Int)=c0
  ·rcases hall r hf hle with ⟨r'',rfl,h2⟩|⟨p,a,s,b,t,rfl,rfl,h3⟩
   ·have:r''=[]:=by
     rw[zZ] at hle;exact Bp.mp (by omega)
    rw[this,AC];unfold kLt bC;rw[Di rfl];exact Ee _
   ·unfold kLt bC;rw[Di (by omega)];exact jm a b s t h3 p
  ·unfold kLt bC;rw[Dh (by omega)];exact Dk (by omega)
theorem pB{ws:List (List Nat)}(W:Wok ws){x:List Nat}{L:List (Option (List Int))}(hL:Lst ws x x.length L):(L.getD x.length none=none↔few ws x 0=none)/\(L.getD x.length none=none↔((bP ws x x.length).getD x.length (none,0)).1=none):=by
 have l:=lV W hL (zX _) x.length (zX _);have f:=dR W (x:=x) (Ah _);have c:=kq W x.length (zX _) x.length (zX _);have mf:∀r,MkF ws x 0 r->Mk ws x x.length r:=fun r h=>by
  have gen:∀{i:Nat}{s:List Int},MkF ws x i s->∀t,Mk ws x i t->Mk ws x x.length (t++s):=fun {i s} h=>by
   induction h with
   |nil=>intro t ht;rw[AC];exact ht
   |cons hw hx hl _ ih=>
    intro t ht;have:=ih _ (.snoc ht hw hx hl);rw[AG] at this;exact this
  exact gen h [] .nil
 have fm:∀r,Mk ws x x.length r->MkF ws x 0 r:=fun r h=>by
  have:=lg h _ .nil;rw[AC] at this;exact this
 constructor
 ·constructor
  ·intro h;cases q:few ws x 0 with
   |none=>rfl
   |some c0=>
    obtain⟨⟨r,hr,_⟩,_⟩:=f.2 c0 q;exact absurd (mf r hr) (l.1 h r)
  ·intro h;cases q:L.getD x.length none with
   |none=>rfl
   |some r=>exact absurd (fm r ((l.2 r q).1)) (f.1 h r)
 ·constructor
  ·intro h;cases q:((bP ws x x.length).getD x.length (none,0)).1 with
   |none=>rfl
   |some c0=>
    obtain⟨⟨r,hr,_⟩,_⟩:=c.2 c0 q;exact absurd hr (l.1 h r)
  ·intro h;cases q:L.getD x.length none with
   |none=>rfl
   |some r=>exact absurd ((l.2 r q).1) (c.1 h r)
section
variable {P:Program}{w:World}{K:PySem.W.Frag}{mg:Str->Option Value}{base:Heap}
open KM
theorem fK{x y:List Nat}(h:txt x=txt y):x=y:=by
 have:(txt x).cps.toList=(txt y).cps.toList:=by rw[h]
 exact this
theorem kE(x y:List Nat):Txt.startswith (txt x) (txt y)=decide (x.take y.length=y):=by
 unfold Txt.startswith;have hn:(txt x).length=x.length:=by show x.toArray.size=_;simp
 have hm:(txt y).length=y.length:=by show y.toArray.size=_;simp
 rw[StrLaws.subAt_eq,hm,hn];show(decide (0+y.length<=x.length)&&((x.drop 0).take y.length==y))=_;rw[BX];rw[DH];simp only[AK,decide_eq_true_eq,DP];refine⟨fun h=>h.2,fun h=>⟨?_,h⟩⟩;have:=congrArg List.length h;rw[Af] at this;omega
theorem fk(x y:List Nat):Txt.startswith (txt x) (txt y)=true↔∃z,x=y++z:=by
 rw[kE,decide_eq_true_eq];constructor
 ·intro h;exact⟨x.drop y.length,by have:=AU y.length x;rw[h] at this;exact this.symm⟩
 ·rintro⟨z,rfl⟩;exact List.take_left
theorem cH(x:List Nat)(e:Nat):Txt.slice (txt x) (some (e:Int)) none=txt (x.drop e):=by
 apply cQ;rw[cb];show nE x (some (e:Int)) none=x.drop e;unfold nE;rw[HT.FH,HT.GI];rcases Nat.le_total e x.length with h|h
 ·rw[AV h,Av (by rw[AR];exact zX _)]
 ·rw[CO h,BS h,BS (zX _)];simp
theorem aY(zs:List (List Nat))(x:List Nat):aj zs++[V.str (txt x)]=aj (zs++[x]):=by
 show _=(zs++[x]).map _;rw[Au];rfl
theorem mF(a b:List (List Nat)):aj a++aj b=aj (a++b):=by
 show _=(a++b).map _;rw[Au]
theorem bx{α:Type}{ps:List α}{k:Nat}{s:α}(es:ps[k]?=some s):ps.take (k+1)=ps.take k++[s]:=by rw[Az,es];rfl
theorem iI(x:List Nat)(z:Str):Txt.slice (txt x) (some ((z.length:Nat):Int)) none=txt (x.drop z.length):=cH _ _
theorem none_of{H H':Hp}(S:DV H H'){p:Addr}(h:H' p=none):H p=none:=by
 cases e:H p with
 |none=>rfl
 |some o=>rw[S _ _ e] at h;cases h
def tY (st:Stmt):List Stmt:=match st with
 |.ClassDef _ _ _ b _ _ _ _ _ _ _=>b
 |_=>[]
abbrev bo(i:Nat):Stmt:=(tY (top 40)).getD i (.Pass ⟨0,0,0,0⟩)
structure EN(K:W.Frag)(C:Addr)(x qual:Str)(st:Stmt)(ps:List Str)(d:DD):Prop where
 fn:Fun K x qual st d.f d.fd
 m:Meth K C x d.f
 b:Binds K d.fd ps []
structure Gd(K:W.Frag)(C:Addr):Prop where
 c:Cls K C
 w:EY K C "words"
 h:EY K C "held"
structure DZ(C:Addr)(H:Hp)(a dx W G:Addr)(ws hs:List (List Nat)):Prop where
 ia:H a=some (.ins C dx [("words",.ref W),("held",.ref G)])
 gW:H W=some (.lst (aj ws))
 gH:H G=some (.lst (aj hs))
 ne:W≠G
theorem DZ.same{C:Addr}{H H':Hp}{a dx W G:Addr}{ws hs:List (List Nat)}(m:DZ C H a dx W G ws hs)(S:DV H H'):DZ C H' a dx W G ws hs:=⟨S _ _ m.ia,S _ _ m.gW,S _ _ m.gH,m.ne⟩
theorem mY(hs:List (List Nat)):Txt.join "" (hs.map txt)=txt hs.flatten:=by
 apply cQ;rw[jA,Bn];show(hs.map fun x=>x).flatten=_;rw[List.map_id'];rfl
theorem GZ:∀hs:List (List Nat),((hs.map txt).map (·.length)).sum=hs.flatten.length
 |[]=>rfl
 |x::r=>by
  rw[AH,AH,List.sum_cons,GZ r,Ck,zZ];rfl
theorem fQ(os:List (List Nat)):(os.map txt).map V.str=aj os:=by rw[Bn];rfl
def ng (C:Addr):Sp:=fun vs H Q _=>∃a dx W G ws hs,vs=[.ref a]/\DZ C H a dx W G ws hs/\hs.flatten.length<=400/\hs.length<=1000/\∀H',DV H H'->Q (.str (txt hs.flatten)) H'
theorem JI:DT ["self"] ["self"] (ai (bo 3)):=⟨rfl,rfl,rfl,by decide +kernel,rfl,by decide +kernel,by decide +kernel⟩
theorem tZ{C:Addr}{d:DD}(MC:Gd K C)(D:EN K C "text" "Mill.text" (bo 3) ["self"] d):DY P w K mg base CX0 1 d.f d.fd ["self"] (ng C):=by
 refine D.fn.ok JI (fun vs H Q E h=>?_) (fun cdv A outer s H vs Q E hr h=>?_)
 ·obtain⟨a,dx,W,G,ws,hs,rfl,_⟩:=h;rfl
 obtain⟨a,dx,W,G,ws,hs,rfl,M,l400,ln,q⟩:=h;have hc:=hr.calm;have nd:=JI.nd;refine⟨_,(@ah _ _ _ (@ay _ _ _ _ (@fP _ _ _ _ _ _ _ _ (@dW _ _ _ _ _ (pv 0) rfl) (by rfl) (by rfl) (by rfl)))),?_⟩
 try dsimp only [bD,Cx.nox,Cx.En]
 refine⟨rfl,_,rfl,a,C,dx,_,.ref G,rfl,M.ia,MC.c,MC.h,rfl,"",G,hs.map txt,rfl,rfl,by rw[fQ];exact SqL.of M.gH,?_,?_⟩
 ·rw[GZ,zY];show hs.flatten.length+hs.length*0<=_
  walk_at "o"
 ·rw[mY];exact q H (DV.refl _)
end
section
variable {P:Program}{w:World}{K:PySem.W.Frag}{mg:Str->Option Value}{base:Heap}
open KM
theorem iY{α:Type}{xs:List α}{n:Nat}{v:α}(hl:xs.length=n+1)(h:xs[n]?=some v):atI xs (-1)=some v:=by
 have e:ixN xs.length (-1)=some n:=by
  unfold ixN;rw[hl,Dh (by decide),Di (by omega)]
  congr 1
  omega
 unfold atI;rw[e];exact h
theorem DZ.neA{C:Addr}{H:Hp}{a dx W G:Addr}{ws hs:List (List Nat)}(m:DZ C H a dx W G ws hs):a≠G:=jX m.ia m.gH (fun z=>nomatch z)
theorem DZ.put{C:Addr}{H:Hp}{a dx W G:Addr}{ws hs ks:List (List Nat)}(m:DZ C H a dx W G ws hs):DZ C (upd H G (.lst (aj ks))) a dx W G ws ks:=⟨by rw[av m.neA];exact m.ia,by rw[av m.ne];exact m.gW,DR,m.ne⟩
theorem fW{H:Hp}{G:Addr}{o:HO}:SmB G H (upd H G o):=fun b u n e=>by rw[av n];exact e
theorem bz(hs:List (List Nat))(x:List Nat):(hs++[x]).flatten=hs.flatten++x:=by rw[List.flatten_append];simp
def vb (C:Addr):Sp:=fun vs H Q _=>∃a dx l us ws,vs=[.ref a,.ref l]/\H a=some (.ins C dx [])/\H l=some (.lst us)/\Mks H us ws/\Wds ws/\∀W G H',SmB a H H'->H G=none->DZ C H' a dx W G ws []->Q .non H'
theorem Jy:DT ["self","makers"] ["self","makers"] (ai (bo 0)):=⟨rfl,rfl,rfl,by decide +kernel,rfl,by decide +kernel,by decide +kernel⟩
theorem uD{C:Addr}{dm d:DD}(MC:Gd K C)(yM:Def K mg "maker_words" (top 32) ["makers"] dm)(zf:DY P w K mg base CX0 5 dm.f dm.fd ["makers"] Jj)(D:EN K C "__init__" "Mill.__init__" (bo 0) ["self","makers"] d):DY P w K mg base CX0 6 d.f d.fd ["self","makers"] (vb C):=by
 refine D.fn.ok Jy (fun vs H Q E h=>?_) (fun cdv A outer s H vs Q E hr h=>?_)
 ·obtain⟨a,dx,l,us,ws,rfl,_⟩:=h;rfl
 obtain⟨a,dx,l,us,ws,rfl,ha,hl,hm,hw,q⟩:=h;have hc:=hr.calm;have nd:=Jy.nd;refine⟨_,(@ae _ _ _ _ _ (@pQ _ _ _ _ _ _ _ _ (pv 0) (@bT _ _ _ _ _ _ _ _ _ _ _ _ yM zf (by decide) hr rfl (pv 1) ax (by decide)) rfl) (@ah _ _ _ (@pQ _ _ _ _ _ _ _ _ (pv 0) (@bb _ _ _ _ (@Ed _)) rfl))),?_⟩
 try dsimp only [bD,Cx.nox,Cx.En]
 refine⟨_,rfl,l,us,ws,rfl,hl,hm,hw,fun W H1 S1 gW=>?_⟩;refine⟨_,rfl,a,C,dx,[],rfl,S1 _ _ ha,MC.c,MC.w,by decide,?_⟩;have neW:W≠a:=jX gW (S1 _ _ ha) (fun z=>nomatch z);refine⟨Ah _,fun G nG=>?_⟩;have neG:a≠G:=az (o:=.ins C dx [("words",.ref W)]) DR nG;have neWG:W≠G:=az (o:=.lst (aj ws)) (by rw[av neW];exact gW) nG;refine⟨_,rfl,a,C,dx,_,rfl,by rw[av neG];exact DR,MC.c,MC.h,by show 1<1000;decide,?_⟩;have nG1:H1 G=none:=by rw[av (DC neG)] at nG;exact nG
 refine q W G _ (fun b o n e=>?_) (none_of S1 nG1) ⟨DR,?_,?_,neWG⟩
 ·rw[av n,av (az (S1 _ _ e) nG1),av n];exact S1 _ _ e
 ·rw[av neW,av neWG,av neW];exact gW
 ·rw[av (DC neG)];exact DR
theorem pj(wt:List (List Nat))(x:List Nat):(aj (wt++[x]))[(aj (wt++[x])).length-1]?=some (.str (txt x))/\(aj (wt++[x])).dropLast=aj wt:=by
 rw[<- aY];refine⟨?_,List.dropLast_concat⟩;rw[zZ];show(aj wt++[_])[(aj wt).length]?=_;rw[AZ (zX _)];simp
end
section
variable {P:Program}{w:World}{K:PySem.W.Frag}{mg:Str->Option Value}{base:Heap}
open KM
def uS (C:Addr):Sp:=fun vs H Q _=>∃a dx W G ws hs,vs=[.ref a]/\DZ C H a dx W G ws hs/\Wok ws/\hs.flatten.length<=400/\hs.length<=1000/\∀H',DV H H'->Q (.int ((ba ws hs.flatten hs.flatten.length).getD hs.flatten.length 0)) H'
theorem JT:DT ["self"] ["self"] (ai (bo 5)):=⟨rfl,rfl,rfl,by decide +kernel,rfl,by decide +kernel,by decide +kernel⟩
theorem tM{C:Addr}{dy dx d:DD}(MC:Gd K C)(zU:Def K mg "ways_to_places" (top 34) ["words","text"] dy)(zW:DY P w K mg base CX0 2 dy.f dy.fd ["words","text"] Hn)(D_tx:EN K C "text" "Mill.text" (bo 3) ["self"] dx)(G_tx:DY P w K mg base CX0 1 dx.f dx.fd ["self"] (ng C))(D:EN K C "ways" "Mill.ways" (bo 5) ["self"] d):DY P w K mg base CX0 3 d.f d.fd ["self"] (uS C):=by
 refine D.fn.ok JT (fun vs H Q E h=>?_) (fun cdv A outer s H vs Q E hr h=>?_)
 ·obtain⟨a,dx,W,G,ws,hs,rfl,_⟩:=h;rfl
 obtain⟨a,dx,W,G,ws,hs,rfl,M,ok,l400,ln,q⟩:=h;have hc:=hr.calm;have nd:=JT.nd;refine⟨_,(@ah _ _ _ (@ay _ _ _ _ (@aO _ _ _ _ _ _ _ DW (@aR _ _ _ _ _ _ _ _ _ _ _ _ _ zU zW (by decide) hr rfl (@aa _ _ _ _ _ (@dW _ _ _ _ _ (pv 0) rfl) (@aE _ _ _ (@aW _ _ _ _ _ _ _ _ _ _ _ _ _ _ _ _ _ (pv 0) MC.c D_tx.m (G_tx.mono (by decide)) hr D_tx.b .nil bW (by rfl)) cy) (by rfl)) (by decide) (by rfl) (by rfl)) (@dj _ _ _ _ _ _ Ey (@ag _ _ _ _)) (fun _ _=>rfl)))),?_⟩
 try dsimp only [bD,Cx.nox,Cx.En]
 refine⟨_,rfl,a,C,dx,_,.ref W,rfl,M.ia,MC.c,MC.w,rfl,_,rfl,a,dx,_,rfl,M.ia,rfl,a,dx,W,G,ws,hs,rfl,M,l400,ln,fun H1 S1=>?_⟩;have M1:=M.same S1;refine⟨W,ws,hs.flatten,rfl,M1.gW,ok,l400,fun p H2 S2 n2 g2=>?_⟩;have e:(ivs (ba ws hs.flatten hs.flatten.length))[hs.flatten.length]?=some (.int ((ba ws hs.flatten hs.flatten.length).getD hs.flatten.length 0)):=by
  rw[Aj,Aa (by rw[cj];omega),Aw,Aa (by rw[cj];omega)];rfl
 exact⟨_,rfl,p,_,_,_,rfl,rfl,SqL.of g2,iY (n:=hs.flatten.length) (by rw[zY,cj]) e,q H2 (S1.trans S2)⟩
def uO (C:Addr):Sp:=fun vs H Q _=>∃a dx W G ws hs,vs=[.ref a]/\DZ C H a dx W G ws hs/\Wok ws/\hs.flatten.length<=400/\hs.length<=1000/\∀u L X H',DV H H'->Lst ws hs.flatten hs.flatten.length L->Rw H H' X u (L.getD hs.flatten.length none)->Q u H'
theorem JQ:DT ["self"] ["self"] (ai (bo 6)):=⟨rfl,rfl,rfl,by decide +kernel,rfl,by decide +kernel,by decide +kernel⟩
theorem uI{C:Addr}{dy dx d:DD}(MC:Gd K C)(yK:Def K mg "least_to_places" (top 36) ["words","text"] dy)(zd:DY P w K mg base CX0 3 dy.f dy.fd ["words","text"] JJ)(D_tx:EN K C "text" "Mill.text" (bo 3) ["self"] dx)(G_tx:DY P w K mg base CX0 1 dx.f dx.fd ["self"] (ng C))(D:EN K C "least" "Mill.least" (bo 6) ["self"] d):DY P w K mg base CX0 4 d.f d.fd ["self"] (uO C):=by
 refine D.fn.ok JQ (fun vs H Q E h=>?_) (fun cdv A outer s H vs Q E hr h=>?_)
 ·obtain⟨a,dx,W,G,ws,hs,rfl,_⟩:=h;rfl
 obtain⟨a,dx,W,G,ws,hs,rfl,M,ok,l400,ln,q⟩:=h;have hc:=hr.calm;have nd:=JQ.nd;refine⟨_,(@ah _ _ _ (@ay _ _ _ _ (@aO _ _ _ _ _ _ _ DW (@aR _ _ _ _ _ _ _ _ _ _ _ _ _ yK zd (by decide) hr rfl (@aa _ _ _ _ _ (@dW _ _ _ _ _ (pv 0) rfl) (@aE _ _ _ (@aW _ _ _ _ _ _ _ _ _ _ _ _ _ _ _ _ _ (pv 0) MC.c D_tx.m (G_tx.mono (by decide)) hr D_tx.b .nil bW (by rfl)) cy) (by rfl)) (by decide) (by rfl) (by rfl)) (@dj _ _ _ _ _ _ Ey (@ag _ _ _ _)) (fun _ _=>rfl)))),?_⟩
 try dsimp only [bD,Cx.nox,Cx.En]
 refine⟨_,rfl,a,C,dx,_,.ref W,rfl,M.ia,MC.c,MC.w,rfl,_,rfl,a,dx,_,rfl,M.ia,rfl,a,dx,W,G,ws,hs,rfl,M,l400,ln,fun H1 S1=>?_⟩;have M1:=M.same S1;refine⟨W,ws,hs.flatten,rfl,M1.gW,ok,l400,fun p us L H2 S2 g2 hR hL=>?_⟩;obtain⟨u,eu,ru⟩:=hR.at (i:=hs.flatten.length) (by rw[hL.len];omega);have lu:us.length=hs.flatten.length+1:=by rw[Paired.length hR,hL.len]
 refine⟨_,rfl,p,us,_,u,rfl,rfl,SqL.of g2,iY lu eu,?_⟩;refine q u L p H2 (S1.trans S2) hL ?_;rcases ru with h|⟨a,ns,a1,a2,a3,a4,a5⟩
 ·exact .inl h
 ·exact .inr ⟨a,ns,a1,a2,S1.free a3,a4,a5⟩
def uq (C:Addr):Sp:=fun vs H Q _=>∃a dx W G ws hs,vs=[.ref a]/\DZ C H a dx W G ws hs/\Wok ws/\hs.flatten.length<=400/\hs.length<=1000/\∀p H',DV H H'->H p=none->H' p=some (.lst (ivs (plc (ba ws hs.flatten hs.flatten.length) (hs.flatten.length+1))))->Q (.ref p) H'
theorem JW:DT ["self"] ["self"] (ai (bo 7)):=⟨rfl,rfl,rfl,by decide +kernel,rfl,by decide +kernel,by decide +kernel⟩
theorem tN{C:Addr}{dy dx d:DD}(MC:Gd K C)(D_rp:Def K mg "reached_places" (top 37) ["words","text"] dy)(G_rp:DY P w K mg base CX0 3 dy.f dy.fd ["words","text"] KG)(D_tx:EN K C "text" "Mill.text" (bo 3) ["self"] dx)(G_tx:DY P w K mg base CX0 1 dx.f dx.fd ["self"] (ng C))(D:EN K C "places" "Mill.places" (bo 7) ["self"] d):DY P w K mg base CX0 4 d.f d.fd ["self"] (uq C):=by
 refine D.fn.ok JW (fun vs H Q E h=>?_) (fun cdv A outer s H vs Q E hr h=>?_)
 ·obtain⟨a,dx,W,G,ws,hs,rfl,_⟩:=h;rfl
 obtain⟨a,dx,W,G,ws,hs,rfl,M,ok,l400,ln,q⟩:=h;have hc:=hr.calm;have nd:=JW.nd;refine⟨_,(@ah _ _ _ (@ay _ _ _ _ (@aR _ _ _ _ _ _ _ _ _ _ _ _ _ D_rp G_rp (by decide) hr rfl (@aa _ _ _ _ _ (@dW _ _ _ _ _ (pv 0) rfl) (@aE _ _ _ (@aW _ _ _ _ _ _ _ _ _ _ _ _ _ _ _ _ _ (pv 0) MC.c D_tx.m (G_tx.mono (by decide)) hr D_tx.b .nil bW (by rfl)) cy) (by rfl)) (by decide) (by rfl) (by rfl)))),?_⟩
 try dsimp only [bD,Cx.nox,Cx.En]
 refine⟨_,rfl,a,C,dx,_,.ref W,rfl,M.ia,MC.c,MC.w,rfl,_,rfl,a,dx,_,rfl,M.ia,rfl,a,dx,W,G,ws,hs,rfl,M,l400,ln,fun H1 S1=>?_⟩;have M1:=M.same S1;exact⟨W,ws,hs.flatten,rfl,M1.gW,ok,l400,fun p H2 S2 n2 g2=>q p H2 (S1.trans S2) (none_of S1 n2) g2⟩
end
section
variable {P:Program}{w:World}{K:PySem.W.Frag}{mg:Str->Option Value}{base:Heap}
open KM
def Kx:Sp:=fun vs H Q _=>∃l ws x,vs=[.ref l,.str (txt x)]/\H l=some (.lst (aj ws))/\Wok ws/\x.length<=400/\∀p zs H',DV H H'->H p=none->H' p=some (.lst (aj zs))->zs.length<=8->(∀z,z∈zs↔z≠[]/\∃w∈ws,w=x++z)->Q (.ref p) H'
theorem bY{ws:List (List Nat)}{i:Nat}{v:V}(h:(aj ws)[i]?=some v):∃x,ws[i]?=some x/\v=.str (txt x):=by
 rw[Aj] at h;obtain⟨x,e,rfl⟩:=BO.mp h;exact⟨x,e,rfl⟩
theorem aK(ws:List (List Nat)):(aj ws).length=ws.length:=zY _
theorem aJ{α:Type}{ps:List α}{k:Nat}{s x:α}(es:ps[k]?=some s):x∈ps.take (k+1)↔x∈ps.take k\/x=s:=by rw[bx es,Ai,AA]
theorem JB:DT ["words","begun"] ["words","begun"] (ai (top 39)):=⟨rfl,rfl,rfl,by decide +kernel,rfl,by decide +kernel,by decide +kernel⟩
theorem uN{d:DD}(D:Def K mg "begun_rests" (top 39) ["words","begun"] d)(vf:mg "len"=none):DY P w K mg base CX0 1 d.f d.fd ["words","begun"] Kx:=by
 refine D.fn.ok JB (fun vs H Q E h=>?_) (fun cdv A outer s H vs Q E hr h=>?_)
 ·obtain⟨l,ws,x,rfl,_⟩:=h;rfl
 obtain⟨l,ws,x,rfl,hl,hw,hx,q⟩:=h;have hc:=hr.calm;have nd:=JB.nd;have h8:=hw.n8;have el:=aK ws;refine⟨_,(@ah _ _ _ (@ay _ _ _ _ (@bB _ _ _ _ _ _ _ _ _ _ _ _ _ _ hc (ar (ts:=["word"]) (cap:=["begun"]) (js:=[1]) rfl rfl rfl rfl rfl rfl (by decide +kernel)) (@aV _ _ _ _ (pv 0)) (fun _ _ _ _=>@ao _ _ (0) _ (show(["word","begun"]:List Str).Nodup by decide +kernel) rfl (Or.inl rfl) (.inr rfl)) (fun _ _ _ _=>@ck _ _ _ (@PW.pt _ _ _ (@fq _ _ _ _ _ _ _ (@bL _ _ _ (@kn _ _ _ _ _ _ _ _ _ _ _ _ K rfl Du PySem.F.slot_str_startswith PySem.F.type_str_startswith HH (pv 0) (@aE _ _ _ (pv 1) ax) (by rfl) (by rfl) (by rfl) (by rfl) (by rfl)) (by intro _;rfl)) (@dM _ _ _ _ (@aB _ _ _ _ _ _ _ _ HL (pv 0) (pv 1) (aC _)))))) (fun _ _ _ _=>(@aZ _ _ _ _ _ _ _ _ _ _ Es (pv 0) (@br _ _ _ (@aI _ _ _ _ _ _ DS rfl vf (pv 1) ax)) (@Ei _))) (by intro _;rfl)))),?_⟩
 try dsimp only [bD,Cx.nox,Cx.En]
 refine⟨_,rfl,l,rfl,⟨_,SqL.of hl⟩,?_⟩;refine cM (K:=K) (a:=l) (xs:=aj ws) (fun k ys H'=>H'=H/\∃zs,ys=aj zs/\zs.length<=k/\∀z,z∈zs↔z≠[]/\∃w∈ws.take k,w=x++z) ⟨rfl,[],rfl,zX _,fun z=>⟨fun h=>absurd h (by simp),fun hq111=>by obtain⟨_,w,h,_⟩:=hq111;exact absurd h (by simp)⟩⟩ (fun k ys H' hk z=>?_) (ak (by omega)) (fun k ys H' hk z=>by rw[z.1];exact SqL.of hl) (fun k v ys H' hv z=>?_) (fun ys H' z p hp=>?_)
 ·obtain⟨_,zs,rfl,h,_⟩:=z;rw[aK];exact h
 ·obtain⟨rfl,zs,rfl,lz,mz⟩:=z;have hk:k<(aj ws).length:=(Ad.mp hv).1;obtain⟨u,eu,rfl⟩:=bY hv;have lu:=hw.l40 _ (Am eu);have skip:(∀z,z≠[]->u≠x++z)->∃zs',aj zs=aj zs'/\zs'.length<=k+1/\∀z,z∈zs'↔z≠[]/\∃w∈ws.take (k+1),w=x++z:=fun hno=>by
   refine⟨zs,rfl,by omega,fun z=>?_⟩;rw[mz];refine DQ fun hz=>⟨fun⟨w,h1,h2⟩=>⟨w,(aJ eu).mpr (.inl h1),h2⟩,fun hq112=>?_⟩
   obtain⟨w,h1,h2⟩:=hq112;rcases (aJ eu).mp h1 with h1|rfl
   ·exact⟨w,h1,h2⟩
   ·exact absurd h2 (hno z hz)
  refine⟨_,rfl,rfl,_,rfl,_,_,rfl,rfl,_,rfl,?_⟩;have PP:∀zs',aj zs=aj zs'->zs'.length<=k+1->(∀z,z∈zs'↔z≠[]/\∃w∈ws.take (k+1),w=x++z)->Nx (aj ws).length k (fun k ys H''=>H''=H'/\∃zs,ys=aj zs/\zs.length<=k/\∀z,z∈zs↔z≠[]/\∃w∈ws.take k,w=x++z) (aj zs) H':=fun zs' h1 h2 h3=>Nx.mk hk ⟨rfl,zs',h1,h2,h3⟩;cases hB:Txt.startswith (txt u) (txt x) with
  |false=>
   obtain⟨zs',h1,h2,h3⟩:=skip fun z _ e=>by rw[(fk _ _).mpr ⟨z,e⟩] at hB;cases hB
   exact PP zs' h1 h2 h3
  |true=>
   obtain⟨y,ey⟩:=(fk _ _).mp hB;refine⟨_,rfl,_,rfl,rfl,_,rfl,?_⟩;have e1:(!decide (V.str (txt u)=V.str (txt x)))=decide (y≠[]):=by
    rw[decide_not];refine congrArg _ (decide_eq_decide.mpr ⟨fun h=>?_,fun h=>by rw[ey,h,AC]⟩);injection h with h;have e:=fK h;rw[ey] at e;simpa using e
   show if (!decide (V.str (txt u)=V.str (txt x)))=true then _ else _;rw[e1];by_cases hy:y≠[]
   ·rw[Dj hy];refine⟨_,rfl,_,rfl,txt x,rfl,ak (by show x.length<=1000000;walk_at "o"),_,rfl,txt u,rfl,ak (by show u.length<=1000000;walk_at "o"),?_⟩;rw[iI,show(txt x).length=x.length from rfl];refine Nx.mk hk ⟨rfl,zs++[u.drop x.length],aY _ _,by rw[zZ];exact DI lz,fun z=>?_⟩;have ed:u.drop x.length=y:=by rw[ey,List.drop_left]
    rw[Ai,mz,AA,ed];constructor
    ·rintro (⟨h0,w,h1,h2⟩|rfl)
     ·exact⟨h0,w,(aJ eu).mpr (.inl h1),h2⟩
     ·exact⟨hy,u,(aJ eu).mpr (.inr rfl),ey⟩
    ·rintro⟨h0,w,h1,h2⟩;rcases (aJ eu).mp h1 with h1|rfl
     ·exact .inl ⟨h0,w,h1,h2⟩
     ·rw[ey] at h2;exact .inr (List.append_cancel_left h2).symm
   ·rw[Dk hy];obtain⟨zs',h1,h2,h3⟩:=skip fun z hz e=>by
     rw[ey] at e;exact hy ((List.append_cancel_left e)▸hz)
    exact PP zs' h1 h2 h3
 ·obtain⟨rfl,zs,rfl,lz,mz⟩:=z;rw[el,AL] at mz;exact q p zs _ (af hp _) hp DR (by omega) mz
end
section
variable {P:Program}{w:World}{K:PySem.W.Frag}{mg:Str->Option Value}{base:Heap}
open KM
theorem FP:bootBuiltins "sorted"=some (.builtin "sorted"):=by decide +kernel
theorem qv{zs':List Str}{zz:List (List Nat)}(h:zs'.Perm (ddS (zz.map txt).reverse)):∃os:List (List Nat),zs'=os.map txt/\os.Nodup/\∀z,z∈os↔z∈zz:=by
 have e:zs'=(zs'.map fun z=>z.cps.toList).map txt:=by
  rw[Bn];exact(List.map_id' zs').symm
 have nd:zs'.Nodup:=h.nodup_iff.mpr (GC _);refine⟨_,e,?_,fun z=>?_⟩
 ·rw[e] at nd;exact List.Pairwise.of_map txt (fun a b h e=>h (by rw[e])) nd
 ·have m:∀u:Str,u∈zs'↔∃y∈zz,txt y=u:=fun u=>by rw[h.mem_iff,Eu,List.mem_reverse,Ax]
  rw[Ax];constructor
  ·rintro⟨u,hu,rfl⟩;obtain⟨y,hy,ey⟩:=(m u).mp hu;rw[<- ey];exact hy
  ·intro hz;exact⟨txt z,(m _).mpr ⟨z,hz,rfl⟩,rfl⟩
theorem ph{zs' ys:List Str}(h:zs'.Perm (ddS ys)):∃os:List (List Nat),zs'=os.map txt/\os.Nodup/\∀z,z∈os↔txt z∈ys:=by
 have e:zs'=(zs'.map fun z=>z.cps.toList).map txt:=by
  rw[Bn];exact(List.map_id' zs').symm
 have nd:zs'.Nodup:=h.nodup_iff.mpr (GC _);refine⟨_,e,?_,fun z=>?_⟩
 ·rw[e] at nd;exact List.Pairwise.of_map txt (fun a b h e=>h (by rw[e])) nd
 ·have m:∀u:Str,u∈zs'↔u∈ys:=fun u=>by rw[h.mem_iff,Eu]
  rw[Ax,<- m];exact⟨fun⟨u,hu,e⟩=>by rw[<- e];exact hu,fun h=>⟨_,h,rfl⟩⟩
def rW (ws:List (List Nat))(x z:List Nat):Prop:=z≠[]/\∃j,j<=x.length/\0<(ba ws x x.length).getD j 0/\∃w∈ws,w=x.drop j++z
structure Rst(ws:List (List Nat))(x:List Nat)(os:List (List Nat)):Prop where
 so:sortedS (os.map txt)=true
 nd:os.Nodup
 mem:∀z,z∈os↔rW ws x z
def plN (ns:List Int)(k:Nat):List Nat:=(List.range k).filter fun j=>decide (0<ns.getD j 0)
theorem rH(ns:List Int)(k:Nat):ivs (plc ns k)=(plN ns k).map fun j=>V.int ((j:Nat):Int):=by
 unfold plc plN ivs;rw[Bn];rfl
theorem qh{ns:List Int}{k j:Nat}:j∈plN ns k↔j<k/\0<ns.getD j 0:=by
 unfold plN;rw[Bl,Bo,decide_eq_true_iff]
theorem qf(ns:List Int)(k:Nat):(plN ns k).length<=k:=by
 refine Ap (Bu _ _) ?_;rw[BD];exact zX _
def uY (C:Addr):Sp:=fun vs H Q _=>∃a dx W G ws hs,vs=[.ref a]/\DZ C H a dx W G ws hs/\Wok ws/\hs.flatten.length<=400/\hs.length<=1000/\∀p os H',DV H H'->H p=none->H' p=some (.lst (aj os))->Rst ws hs.flatten os->Q (.ref p) H'
theorem JY:DT ["self","text","begun"] ["self"] (ai (bo 8)):=⟨rfl,rfl,rfl,by decide +kernel,rfl,by decide +kernel,by decide +kernel⟩
theorem uA{C:Addr}{dp db dx d:DD}(MC:Gd K C)(D_br:Def K mg "begun_rests" (top 39) ["words","begun"] db)(G_br:DY P w K mg base CX0 1 db.f db.fd ["words","begun"] Kx)(D_pl:EN K C "places" "Mill.places" (bo 7) ["self"] dp)(G_pl:DY P w K mg base CX0 4 dp.f dp.fd ["self"] (uq C))(D_tx:EN K C "text" "Mill.text" (bo 3) ["self"] dx)(G_tx:DY P w K mg base CX0 1 dx.f dx.fd ["self"] (ng C))(D:EN K C "rests" "Mill.rests" (bo 8) ["self"] d)(vz:mg "sorted"=none):DY P w K mg base CX0 5 d.f d.fd ["self"] (uY C):=by
 refine D.fn.ok JY (fun vs H Q E h=>?_) (fun cdv A outer s H vs Q E hr h=>?_)
 ·obtain⟨a,dx,W,G,ws,hs,rfl,_⟩:=h;rfl
 obtain⟨a,dx,W,G,ws,hs,rfl,M,ok,l400,ln,q⟩:=h;have hc:=hr.calm;have hh:=hr.hd;have nd:=JY.nd;refine⟨_,(@ae _ _ _ _ _ (@aq _ _ (1) _ _ _ _ nd rfl (Or.inr rfl) (@aW _ _ _ _ _ _ _ _ _ _ _ _ _ _ _ _ _ (pv 0) MC.c D_tx.m (G_tx.mono (by decide)) hr D_tx.b .nil bW (by rfl)) (by rfl) (by walk_at "i")) (@ae _ _ _ _ _ (@cC _ _ _ _ _ _ _ _ _ _ _ _ _ _ (2) _ _ _ hc (ar (ts:=["place"]) (cap:=["text"]) (js:=[1]) rfl rfl rfl rfl rfl rfl (by decide +kernel)) (@aV _ _ _ _ (@aW _ _ _ _ _ _ _ _ _ _ _ _ _ _ _ _ _ (pv 0) MC.c D_pl.m (G_pl.mono (by decide)) hr D_pl.b .nil bW (by rfl))) (fun _ _ _ _=>@ao _ _ (0) _ (show(["place","text"]:List Str).Nodup by decide +kernel) rfl (Or.inl rfl) (.inr rfl)) (fun _ _ _ _=>@bq _) (fun _ _ _ _=>(@aZ _ _ _ _ _ _ _ _ _ _ Es (pv 1) (@br _ _ _ (pv 0)) (@Ei _))) nd rfl (Or.inl rfl) rfl (by intro _;rfl) (by walk_at "i")) (@ah _ _ _ (@ay _ _ _ _ (@eT _ _ _ _ _ hh (@jK _ _ _ _ _ _ _ _ _ _ _ _ _ _ _ _ _ _ _ _ hc (ar (ts:=["each","rest"]) (cap:=["self"]) (js:=[0]) rfl rfl rfl rfl rfl rfl (by decide +kernel)) (@aV _ _ _ _ (pv 2)) (fun _ _ _ _=>@ao _ _ (0) _ (show(["each","rest","self"]:List Str).Nodup by decide +kernel) rfl (Or.inl rfl) (.inr rfl)) (fun _ _ _ _=>@bq _) (fun _ _ _ _=>(@nZ _ _ _ _ K rfl (@aR _ _ _ _ _ _ _ _ _ _ _ _ _ D_br G_br (by decide) hr rfl (@aa _ _ _ _ _ (@qw _ _ _ _ _ K rfl (pv 2) rfl) (@aE _ _ _ (pv 0) ax) (by rfl)) (by decide) (by rfl) (by rfl)))) (fun _ _ _ _=>@ao _ _ (1) _ (show(["each","rest","self"]:List Str).Nodup by decide +kernel) rfl (Or.inl rfl) (.inr rfl)) (fun _ _ _ _=>@bq _) (fun _ _ _ _=>(pv 1)) (by intro _ _;rfl) (by intro _;rfl)) rfl vz FP (by rfl)))))),?_⟩
 try dsimp only [bD,Cx.nox,Cx.En]
 refine⟨_,rfl,a,dx,_,rfl,M.ia,rfl,a,dx,W,G,ws,hs,rfl,M,l400,ln,fun H1 S1=>?_⟩;have M1:=M.same S1;refine⟨_,rfl,a,dx,_,rfl,M1.ia,rfl,a,dx,W,G,ws,hs,rfl,M1,ok,l400,ln,fun p0 H2 S2 n0 g0=>?_⟩;have M2:=M1.same S2;generalize hs.flatten=x at l400 g0 q ⊢;rw[rH] at g0;have mp:∀j,j∈plN (ba ws x x.length) (x.length+1)↔j<=x.length/\0<(ba ws x x.length).getD j 0:=fun j=>by rw[qh,Nat.lt_succ_iff]
 have lp:=qf (ba ws x x.length) (x.length+1);generalize plN (ba ws x x.length) (x.length+1)=js at g0 mp lp;have ej:(js.map fun j=>V.int ((j:Nat):Int)).length=js.length:=zY _;refine⟨p0,rfl,⟨_,SqL.of g0⟩,?_⟩;refine cM (K:=K) (a:=p0) (xs:=js.map fun j=>V.int ((j:Nat):Int)) (fun k ys H'=>H'=H2/\ys=aj ((js.take k).map fun j=>x.drop j)) ⟨rfl,rfl⟩ (fun k ys H' hk z=>by rw[z.2,aK,zY,Af];omega) (ak (by omega)) (fun k ys H' hk z=>by rw[z.1];exact SqL.of g0) (fun k v ys H' hv z=>?_) (fun ys H' z Bg nB=>?_)
 ·obtain⟨rfl,rfl⟩:=z;have hk:k<(js.map fun j=>V.int ((j:Nat):Int)).length:=(Ad.mp hv).1;rw[Aj] at hv;obtain⟨j,ejk,rfl⟩:=BO.mp hv;refine⟨_,rfl,_,rfl,_,rfl,txt x,rfl,ak (by show x.length<=1000000;walk_at "o"),?_⟩;rw[cH];refine Nx.mk hk ⟨rfl,?_⟩;rw[aY,bx ejk,Au];rfl
 obtain⟨eH,rfl⟩:=z;subst H';rw[ej,AL];have S3:=af nB (.lst (aj (js.map fun j=>x.drop j)));have gB:upd H2 Bg (.lst (aj (js.map fun j=>x.drop j))) Bg=some (.lst (aj (js.map fun j=>x.drop j))):=DR;generalize upd H2 Bg (.lst (aj (js.map fun j=>x.drop j)))=H3 at S3 gB ⊢;have M3:=M2.same S3;have SA:=S1.trans (S2.trans S3);have eb:(aj (js.map fun j=>x.drop j)).length=js.length:=by rw[aK,zY]
 refine⟨_,rfl,Bg,rfl,⟨_,SqL.of gB⟩,?_⟩;refine qo (K:=K) (a:=Bg) (xs:=aj (js.map fun j=>x.drop j)) (fun i ys H'=>DV H3 H'/\ys.length<=8*i/\∀u,u∈ys↔∃z,u=txt z/\z≠[]/\∃j∈js.take i,∃w∈ws,w=x.drop j++z) ⟨DV.refl _,zX _,fun u=>⟨fun h=>absurd h (by simp),fun hq113=>by obtain⟨z,_,_,j,h,_⟩:=hq113;exact absurd h (by simp)⟩⟩ (fun i ys H' hi z=>by have:=z.2.1;omega) (fun i ys H' hi z=>SqL.of (z.1 _ _ gB)) (fun i v ys H' hv z=>?_) (fun ys H' z=>?_)
 ·obtain⟨S4,ly,my⟩:=z;have hi:i<(aj (js.map fun j=>x.drop j)).length:=(Ad.mp hv).1;obtain⟨b,eb',rfl⟩:=bY hv;rw[Aj] at eb';obtain⟨j,ej',rfl⟩:=BO.mp eb';have M4:=M3.same S4;refine⟨_,rfl,a,C,dx,_,.ref W,rfl,M4.ia,MC.c,MC.w,rfl,_,rfl,W,ws,x.drop j,rfl,M4.gW,ok,by rw[AR];omega,fun B zs H5 S5 _ gB' lz mz=>⟨B,rfl,⟨_,SqL.of gB'⟩,?_⟩⟩;have ez:=aK zs;refine qQ (K:=K) (a:=B) (xs:=aj zs) (fun jj σ ys' H'=>H'=H5/\(∃e1,σ=[some (.str (txt (x.drop j))),e1,some (.ref a)])/\ys'.length<=8*i+jj/\∀u,u∈ys'↔u∈ys\/∃z∈zs.take jj,u=txt z) ⟨rfl,⟨_,rfl⟩,ly,fun u=>⟨.inl,fun h=>h.elim id fun hq114=>by obtain⟨z,h,_⟩:=hq114;exact absurd h (by simp)⟩⟩ (fun jj σ ys' H' hj z=>by have:=z.2.2.1;omega) (fun jj σ ys' H' hj z=>by rw[z.1];exact SqL.of gB') (fun jj σ ys' H' v hv' z=>?_) (fun σ ys' H' z=>?_)
  ·obtain⟨rfl,⟨e1,rfl⟩,ly',my'⟩:=z;have hj:jj<(aj zs).length:=(Ad.mp hv').1;obtain⟨y,ey,rfl⟩:=bY hv';refine⟨_,rfl,txt y,rfl,Jl.mk hj ⟨rfl,⟨_,rfl⟩,by rw[AF];omega,fun u=>?_⟩⟩;rw[Ag,my'];constructor
   ·rintro (rfl|h|⟨z,h,e⟩)
    ·exact .inr ⟨y,(aJ ey).mpr (.inr rfl),rfl⟩
    ·exact .inl h
    ·exact .inr ⟨z,(aJ ey).mpr (.inl h),e⟩
   ·rintro (h|⟨z,h,e⟩)
    ·exact .inr (.inl h)
    ·rcases (aJ ey).mp h with h|rfl
     ·exact .inr (.inr ⟨z,h,e⟩)
     ·exact .inl e
  ·obtain⟨rfl,_,ly',my'⟩:=z;rw[ez,AL] at my';refine NxS.mk hi ⟨S4.trans S5,by omega,fun u=>?_⟩;rw[my',my];constructor
   ·rintro (⟨z,e,h0,j',hj',w,hw,e2⟩|⟨z,h,e⟩)
    ·exact⟨z,e,h0,j',(aJ ej').mpr (.inl hj'),w,hw,e2⟩
    ·obtain⟨h0,w,hw,e2⟩:=(mz z).mp h;exact⟨z,e,h0,j,(aJ ej').mpr (.inr rfl),w,hw,e2⟩
   ·rintro⟨z,e,h0,j',hj',w,hw,e2⟩;rcases (aJ ej').mp hj' with hj'|rfl
    ·exact .inl ⟨z,e,h0,j',hj',w,hw,e2⟩
    ·exact .inr ⟨z,(mz z).mpr ⟨h0,w,hw,e2⟩,e⟩
 ·obtain⟨S4,ly,my⟩:=z;rw[eb,AL] at my;intro l zs hp hs nl;obtain⟨os,rfl,ndo,mo⟩:=ph hp;rw[fQ];have SB:=SA.trans S4;refine q l os _ (SB.trans (af nl _)) (none_of SB nl) DR ⟨hs,ndo,fun z=>?_⟩;rw[mo,my];constructor
  ·rintro⟨z',e,h0,j,hj,w,hw,e2⟩;rw[fK e];exact⟨h0,j,((mp j).mp hj).1,((mp j).mp hj).2,w,hw,e2⟩
  ·rintro⟨h0,j,h1,h2,w,hw,e2⟩;exact⟨z,rfl,h0,j,(mp j).mpr ⟨h1,h2⟩,w,hw,e2⟩
end
section
variable {P:Program}{w:World}{K:PySem.W.Frag}{mg:Str->Option Value}{base:Heap}
open KM
def JV:Sp:=fun vs H Q _=>∃l ws x,vs=[.ref l,.str (txt x)]/\H l=some (.lst (aj ws))/\Wok ws/\x.length<=400/\∀p os H',DV H H'->H p=none->H' p=some (.lst (aj os))->Rst ws x os->Q (.ref p) H'
theorem Iw:DT ["words","text","counts","found","at","some"] ["words","text"] (ai (top 51)):=⟨rfl,rfl,rfl,by decide +kernel,rfl,by decide +kernel,by decide +kernel⟩
theorem rX{dl d:DD}(xu:Def K mg "_law_counts" (top 48) ["words","text"] dl)(xE:DY P w K mg base CX0 2 dl.f dl.fd ["words","text"] Ib)(D:Def K mg "_law_rests" (top 51) ["words","text"] d)(vf:mg "len"=none)(vg:mg "range"=none)(zE:mg "set"=none)(vz:mg "sorted"=none):DY P w K mg base CX0 3 d.f d.fd ["words","text"] JV:=by
 refine D.fn.ok Iw (fun vs H Q E h=>?_) (fun cdv A outer s H vs Q E hr h=>?_)
 ·obtain⟨l,ws,x,rfl,_⟩:=h;rfl
 obtain⟨l,ws,x,rfl,hl,hw,hx,q⟩:=h;have hc:=hr.calm;have hh:=hr.hd;have nd:=Iw.nd;have h8:=hw.n8;have el:=aK ws;refine⟨_,(@ae _ _ _ _ _ (@aq _ _ (2) _ _ _ _ nd rfl (Or.inl rfl) (@aR _ _ _ _ _ _ _ _ _ _ _ _ _ xu xE (by decide) hr rfl (@aa _ _ _ _ _ (pv 0) (@aE _ _ _ (pv 1) ax) ax) (by decide) (by rfl) (by rfl)) (by rfl) (by walk_at "i")) (@ae _ _ _ _ _ (@aq _ _ (3) _ _ _ _ nd rfl (Or.inl rfl) (@bb _ _ _ _ (@Ed _)) (by rfl) (by walk_at "i")) (@ae _ _ _ _ _ (@bR _ _ _ _ _ _ _ _ PassesOwn.never hc (@bU _ _ _ _ _ _ rfl vg (@aE _ _ _ (@au _ _ _ _ _ _ _ _ Eb (@aI _ _ _ _ _ _ DS rfl vf (pv 1) ax) (@ag _ _ _ _)) (by rfl)) (by rfl)) (@ao _ _ (4) _ nd rfl (Or.inr rfl) (by walk_at "i")) (@ah _ _ _ (@bp _ _ _ _ _ _ _ _ (@aB _ _ _ _ _ _ _ _ FJ (@aO _ _ _ _ _ _ _ Ex (@aO _ _ _ _ _ _ _ DW (pv 2) (pv 4) (fun _ _=>rfl)) (@ag _ _ _ _) (fun _ _=>rfl)) (@bK _ _ _) (aC _)) (@ae _ _ _ _ _ (@cC _ _ _ _ _ _ _ _ _ _ _ _ _ _ (5) _ _ _ hc (ar (ts:=["word"]) (cap:=["text","at"]) (js:=[1,4]) rfl rfl rfl rfl rfl rfl (by decide +kernel)) (@aV _ _ _ _ (pv 0)) (fun _ _ _ _=>@ao _ _ (0) _ (show(["word","text","at"]:List Str).Nodup by decide +kernel) rfl (Or.inl rfl) (.inr rfl)) (fun _ _ _ _=>@ck _ _ _ (@PW.pt _ _ _ (@fq _ _ _ _ _ _ _ (@aB _ _ _ _ _ _ _ _ GP (@aI _ _ _ _ _ _ DS rfl vf (pv 0) ax) (@au _ _ _ _ _ _ _ _ Em (@aI _ _ _ _ _ _ DS rfl vf (pv 1) ax) (pv 2)) (aC _)) (@dM _ _ _ _ (@aB _ _ _ _ _ _ _ _ EM (@aZ _ _ _ _ _ _ _ _ _ _ Es (pv 0) (@Ei _) (@br _ _ _ (@au _ _ _ _ _ _ _ _ Em (@aI _ _ _ _ _ _ DS rfl vf (pv 1) ax) (pv 2)))) (@aZ _ _ _ _ _ _ _ _ _ _ Es (pv 1) (@br _ _ _ (pv 2)) (@Ei _)) (aC _)))))) (fun _ _ _ _=>(pv 0)) nd rfl (Or.inl rfl) rfl (by intro _;rfl) (by walk_at "i")) (@ah _ _ _ (@aq _ _ (3) _ _ _ _ nd rfl (Or.inl rfl) (@au _ _ _ _ _ _ _ _ Ga (pv 3) (@bB _ _ _ _ _ _ _ _ _ _ _ _ _ _ hc (ar (ts:=["word"]) (cap:=["text","at"]) (js:=[1,4]) rfl rfl rfl rfl rfl rfl (by decide +kernel)) (@aV _ _ _ _ (pv 5)) (fun _ _ _ _=>@ao _ _ (0) _ (show(["word","text","at"]:List Str).Nodup by decide +kernel) rfl (Or.inl rfl) (.inr rfl)) (fun _ _ _ _=>@bq _) (fun _ _ _ _=>(@aZ _ _ _ _ _ _ _ _ _ _ Es (pv 0) (@br _ _ _ (@au _ _ _ _ _ _ _ _ Em (@aI _ _ _ _ _ _ DS rfl vf (pv 1) ax) (pv 2))) (@Ei _))) (by intro _;rfl))) (by rfl) (by walk_at "i")))) (@DX _))) (by intro _;rfl)) (@ah _ _ _ (@ay _ _ _ _ (@eT _ _ _ _ _ hh (@qK _ _ _ _ _ hh (pv 3) rfl zE (by rfl)) rfl vz FP (by rfl))))))),?_⟩
 try dsimp only [bD,Cx.nox,Cx.En]
 refine⟨_,rfl,_,rfl,l,ws,x,rfl,hl,hw,hx,fun Cn' us H1 S1 nC gC hC=>?_⟩;refine⟨Ah _,fun F0 nF0=>?_⟩;have S2:=af nF0 (.lst []);have gF0:upd H1 F0 (.lst []) F0=some (.lst (aj [])):=DR;generalize upd H1 F0 (.lst [])=H2 at S2 gF0 ⊢;have SA:=S1.trans S2;refine⟨_,rfl,txt x,rfl,ak (by show x.length<=1000000;walk_at "o"),_,_,rfl,rfl,((x.length+1:Nat):Int),rfl,by omega,by omega,?_⟩;refine dv (lo:=0) (n:=(((x.length+1:Nat):Int)).toNat) (fun i σ H'=>∃F zs e4 e5,σ=[some (.ref l),some (.str (txt x)),some (.ref Cn'),some (.ref F),e4,e5]/\DV H2 H'/\H' F=some (.lst (aj zs))/\zs.length<=8*i/\∀z,z∈zs↔z≠[]/\∃j,j<i/\0<(ba ws x x.length).getD j 0/\∃w∈ws,w=x.drop j++z) ⟨F0,[],_,_,rfl,DV.refl _,gF0,zX _,fun z=>⟨fun h=>absurd h (by simp),fun hq115=>by obtain⟨_,j,h,_⟩:=hq115;exact absurd h (Nat.not_lt_zero _)⟩⟩ (fun i σ H' hi z=>?_) (fun σ H' z=>?_)
 ·obtain⟨F,zs,e4,e5,rfl,S3,gF,lz,mz⟩:=z;have hi':i<=x.length:=by omega
  obtain⟨ca,ec,gc⟩:=hC.at (i:=i) (by rw[bh];walk_at "o");have gc3:=S3 _ _ (S2 _ _ gc);have gC3:=S3 _ _ (S2 _ _ gC);have ti:atI us (0+(i:Int))=some (.ref ca):=by rw[Int.zero_add];exact aQ ec
  refine⟨_,rfl,_,rfl,Cn',us,_,_,rfl,rfl,SqL.of gC3,ti,ca,_,_,_,rfl,rfl,SqT.of gc3,rfl,?_⟩;have cp:=(mj hw x x.length i hi').2;have ew:(ba ws x x.length).getD i 0=((bP ws x x.length).getD i (none,0)).2:=by
   rw[eB,Aw,Aw,Aj];cases (bP ws x x.length)[i]?<;>rfl
  rw[<- ew] at cp;refine⟨rfl,_,rfl,?_⟩;have SC:=S3;cases hcn:((bP ws x x.length).getD i (none,0)).1 with
  |none=>
   rw[hcn] at cp;refine⟨F,zs,_,_,rfl,S3,gF,by omega,fun z=>?_⟩;rw[mz];refine DQ fun _=>⟨fun⟨j,h1,h2⟩=>⟨j,by omega,h2⟩,fun hq116=>?_⟩
   obtain⟨j,h1,h2,h3⟩:=hq116;refine⟨j,?_,h2,h3⟩;rcases Nat.lt_or_ge j i with h|h
   ·exact h
   ·have:j=i:=by omega
    subst this;exact absurd rfl (cp.mp h2)
  |some c=>
  rw[hcn] at cp;have hpos:0<(ba ws x x.length).getD i 0:=cp.mpr (by simp);have gl:=S3 _ _ (S2 _ _ (S1 _ _ hl));have edx:((x.length:Nat):Int)-(0+(i:Int))=((x.length-i:Nat):Int):=by omega
  have edr:(x.drop i).length=x.length-i:=AR;refine⟨_,rfl,l,rfl,⟨_,SqL.of gl⟩,?_⟩;refine cM (K:=K) (a:=l) (xs:=aj ws) (fun k ys H''=>H''=H'/\ys=aj ((ws.take k).filter fun w=>decide (x.length-i<w.length)&&decide (w.take (x.length-i)=x.drop i))) ⟨rfl,rfl⟩ (fun k ys H'' hk z=>by rw[z.2,aK];exact Ap (Bu _ _) (by rw[Af];omega)) (ak (by omega)) (fun k ys H'' hk z=>by rw[z.1];exact SqL.of gl) (fun k v ys H'' hv z=>?_) (fun ys H'' z So nSo=>?_)
  ·obtain⟨rfl,rfl⟩:=z;have hk:k<(aj ws).length:=(Ad.mp hv).1;obtain⟨u,eu,rfl⟩:=bY hv;have lu:=hw.l40 _ (Am eu);refine⟨_,rfl,txt u,rfl,ak (by show u.length<=1000000;walk_at "o"),_,rfl,txt x,rfl,ak (by show x.length<=1000000;walk_at "o"),_,rfl,_,_,rfl,rfl,_,_,rfl,rfl,_,rfl,?_⟩;have e1:decide ((((txt x).length:Nat):Int)-(0+(i:Int))<(((txt u).length:Nat):Int))=decide (x.length-i<u.length):=by
    rw[show(txt x).length=x.length from rfl,show(txt u).length=u.length from rfl,edx];exact decide_eq_decide.mpr (by omega)
   show if decide ((((txt x).length:Nat):Int)-(0+(i:Int))<(((txt u).length:Nat):Int))=true then _ else _;rw[e1];have skip:(decide (x.length-i<u.length)&&decide (u.take (x.length-i)=x.drop i))=false->Nx (aj ws).length k (fun k ys H3=>H3=H''/\ys=aj ((ws.take k).filter fun w=>decide (x.length-i<w.length)&&decide (w.take (x.length-i)=x.drop i))) (aj ((ws.take k).filter fun w=>decide (x.length-i<w.length)&&decide (w.take (x.length-i)=x.drop i))) H'':=fun hB=>by
    refine Nx.mk hk ⟨rfl,?_⟩;rw[bx eu,BG,BH,Dh (by rw[hB];simp)];simp
   cases h1:decide (x.length-i<u.length) with
   |false=>exact skip (by rw[h1];rfl)
   |true=>
   refine⟨_,rfl,_,rfl,txt x,rfl,ak (by show x.length<=1000000;walk_at "o"),_,rfl,_,_,rfl,rfl,_,rfl,txt u,rfl,ak (by show u.length<=1000000;walk_at "o"),_,rfl,_,rfl,_,rfl,txt x,rfl,ak (by show x.length<=1000000;walk_at "o"),rfl,_,rfl,?_⟩;have e2:decide (V.str (Txt.slice (txt u) none (some ((((txt x).length:Nat):Int)-(0+(i:Int)))))=V.str (Txt.slice (txt x) (some (0+(i:Int))) none))=decide (u.take (x.length-i)=x.drop i):=by
    rw[show(txt x).length=x.length from rfl,edx,bO,Int.zero_add,cH];exact decide_eq_decide.mpr ⟨fun h=>by injection h with h;exact fK h,fun h=>by rw[h]⟩
   show if decide (V.str (Txt.slice (txt u) none (some ((((txt x).length:Nat):Int)-(0+(i:Int)))))=V.str (Txt.slice (txt x) (some (0+(i:Int))) none))=true then _ else _;rw[e2];cases h2:decide (u.take (x.length-i)=x.drop i) with
   |false=>exact skip (by rw[h1,h2];rfl)
   |true=>
    refine⟨_,rfl,Nx.mk hk ⟨rfl,?_⟩⟩;rw[aY,bx eu,BG,BH,Di (by rw[h1,h2];rfl)];rfl
  obtain⟨eH,rfl⟩:=z;subst H'';rw[el,AL];have lS:(ws.filter fun w=>decide (x.length-i<w.length)&&decide (w.take (x.length-i)=x.drop i)).length<=8:=Ap (Bu _ _) h8;have mS:∀w,w∈(ws.filter fun w=>decide (x.length-i<w.length)&&decide (w.take (x.length-i)=x.drop i))↔w∈ws/\x.length-i<w.length/\w.take (x.length-i)=x.drop i:=fun w=>by rw[Bl,AK,decide_eq_true_iff,decide_eq_true_iff]
  have S4:=af nSo (.lst (aj (ws.filter fun w=>decide (x.length-i<w.length)&&decide (w.take (x.length-i)=x.drop i))));have gS:upd H' So (.lst (aj (ws.filter fun w=>decide (x.length-i<w.length)&&decide (w.take (x.length-i)=x.drop i)))) So=some (.lst (aj (ws.filter fun w=>decide (x.length-i<w.length)&&decide (w.take (x.length-i)=x.drop i)))):=DR;generalize upd H' So (.lst (aj (ws.filter fun w=>decide (x.length-i<w.length)&&decide (w.take (x.length-i)=x.drop i))))=H4 at S4 gS ⊢;generalize (ws.filter fun w=>decide (x.length-i<w.length)&&decide (w.take (x.length-i)=x.drop i))=ss at lS mS gS;have es:=aK ss;refine⟨_,rfl,_,rfl,So,rfl,⟨_,SqL.of gS⟩,?_⟩;refine cM (K:=K) (a:=So) (xs:=aj ss) (fun k ys H''=>H''=H4/\ys=aj ((ss.take k).map fun w=>w.drop (x.length-i))) ⟨rfl,rfl⟩ (fun k ys H'' hk z=>by rw[z.2,aK,zY,Af];omega) (ak (by omega)) (fun k ys H'' hk z=>by rw[z.1];exact SqL.of gS) (fun k v ys H'' hv z=>?_) (fun ys H'' z p hp=>?_)
  ·obtain⟨rfl,rfl⟩:=z;have hk:k<(aj ss).length:=(Ad.mp hv).1;obtain⟨u,eu,rfl⟩:=bY hv;have lu:=hw.l40 _ ((mS u).mp (Am eu)).1;refine⟨_,rfl,_,rfl,txt x,rfl,ak (by show x.length<=1000000;walk_at "o"),_,rfl,_,_,rfl,rfl,_,rfl,txt u,rfl,ak (by show u.length<=1000000;walk_at "o"),?_⟩;rw[show(((txt x).length:Nat):Int)-(0+(i:Int))=((x.length-i:Nat):Int) from edx,cH];refine Nx.mk hk ⟨rfl,?_⟩;rw[aY,bx eu,Au];rfl
  obtain⟨eH,rfl⟩:=z;subst H'';rw[es,AL];have S5:=af hp (.lst (aj (ss.map fun w=>w.drop (x.length-i))));refine⟨F,p,aj zs,aj (ss.map fun w=>w.drop (x.length-i)),rfl,rfl,S5 _ _ (S4 _ _ gF),DR,ak (by rw[aK,aK,zY];omega),fun F2 nF2=>?_⟩;rw[mF];refine⟨F2,zs++ss.map fun w=>w.drop (x.length-i),_,_,rfl,S3.trans (S4.trans (S5.trans (af nF2 _))),DR,by rw[zZ,zY];omega,fun z=>?_⟩;rw[Ai,mz,Ax];constructor
  ·rintro (⟨h0,j,h1,h2⟩|⟨w,h1,rfl⟩)
   ·exact⟨h0,j,by omega,h2⟩
   ·obtain⟨a1,a2,a3⟩:=(mS w).mp h1;refine⟨fun z=>?_,i,by omega,hpos,w,a1,by rw[<- a3,AU]⟩;have:=congrArg List.length z;rw[AR] at this;simp at this;omega
  ·rintro⟨h0,j,h1,h2,w,a1,a2⟩;by_cases e:j=i
   ·subst e;refine .inr ⟨w,(mS w).mpr ⟨a1,?_,?_⟩,?_⟩
    ·rw[a2,zZ,edr];have:0<z.length:=List.length_pos_iff.mpr h0;omega
    ·rw[a2,<- edr,List.take_left]
    ·rw[a2,<- edr,List.drop_left]
   ·exact .inl ⟨h0,j,by omega,h2,w,a1,a2⟩
 ·obtain⟨F,zs,e4,e5,rfl,S3,gF,lz,mz⟩:=z;have hn:((((x.length+1:Nat):Int)).toNat)=x.length+1:=AQ _;rw[hn] at lz mz;refine⟨_,rfl,F,zs.map txt,rfl,by rw[fQ];exact SqL.of gF,by rw[zY];omega,fun p zs' hp hs np=>?_⟩;obtain⟨os,rfl,ndo,mo⟩:=qv hp;rw[fQ];have SB:=SA.trans S3;refine q p os _ (SB.trans (af np _)) (none_of SB np) DR ⟨hs,ndo,fun z=>?_⟩;rw[mo,mz];refine DQ fun _=>⟨fun hq117=>?_,fun⟨j,h1,h2⟩=>⟨j,by omega,h2⟩⟩
  obtain⟨j,h1,h2⟩:=hq117;exact⟨j,by omega,h2⟩
end
section
variable {P:Program}{w:World}{K:PySem.W.Frag}{mg:Str->Option Value}{base:Heap}
open KM
def uQ (K:PySem.W.Frag)(C:Addr):Sp:=fun vs H Q _=>∃a dx W G ws hs,vs=[.ref a]/\DZ C H a dx W G ws hs/\(∀c∈hs.flatten,Eo c)/\hs.flatten.length<=400/\hs.length<=1000/\∀r H',DV H H'->T4 K H' r (wt hs.flatten)->Q r H'
theorem Jk:DT ["self"] ["self"] (ai (bo 4)):=⟨rfl,rfl,rfl,by decide +kernel,rfl,by decide +kernel,by decide +kernel⟩
theorem uM{C:Addr}{dt dx d:DD}(MC:Gd K C)(yO:Def K mg "table_of" (top 25) ["word"] dt)(zh:DY P w K mg base CX0 3 dt.f dt.fd ["word"] (pM K))(D_tx:EN K C "text" "Mill.text" (bo 3) ["self"] dx)(G_tx:DY P w K mg base CX0 1 dx.f dx.fd ["self"] (ng C))(D:EN K C "table" "Mill.table" (bo 4) ["self"] d):DY P w K mg base CX0 7 d.f d.fd ["self"] (uQ K C):=by
 refine D.fn.ok Jk (fun vs H Q E h=>?_) (fun cdv A outer s H vs Q E hr h=>?_)
 ·obtain⟨a,dx,W,G,ws,hs,rfl,_⟩:=h;rfl
 obtain⟨a,dx,W,G,ws,hs,rfl,M,lr,l400,ln,q⟩:=h;have hc:=hr.calm;have nd:=Jk.nd;refine⟨_,(@ah _ _ _ (@ay _ _ _ _ (@bT _ _ _ _ _ _ _ _ _ _ _ _ yO zh (by decide) hr rfl (@aW _ _ _ _ _ _ _ _ _ _ _ _ _ _ _ _ _ (pv 0) MC.c D_tx.m (G_tx.mono (by decide)) hr D_tx.b .nil bW (by rfl)) cy (by decide)))),?_⟩
 try dsimp only [bD,Cx.nox,Cx.En]
 exact⟨_,rfl,a,dx,_,rfl,M.ia,rfl,a,dx,W,G,ws,hs,rfl,M,l400,ln,fun H1 S1=>⟨hs.flatten,rfl,lr,l400,fun r H2 S2 h4=>q r H2 (S1.trans S2) h4⟩⟩
end
section
variable {P:Program}{w:World}{K:PySem.W.Frag}{mg:Str->Option Value}{base:Heap}
open KM
theorem GY:DT ["found"] ["found"] (ai (top 50)):=⟨rfl,rfl,rfl,by decide +kernel,rfl,by decide +kernel,by decide +kernel⟩
theorem nk{d:DD}(D:Def K mg "_law_whole" (top 50) ["found"] d)(xF:mg "int"=none)(xB:mg "bool"=none)(ve:mg "isinstance"=none):DY P w K mg base CX0 1 d.f d.fd ["found"] Fx:=by
 refine D.fn.ok GY (fun vs H Q E h=>?_) (fun cdv A outer s H vs Q E hr h=>?_)
 ·obtain⟨v,rfl,_⟩:=h;rfl
 obtain⟨v,rfl,hk,q⟩:=h;refine⟨_,(ah (ay (dS (aF EC rfl ve DU (aa (pv 0) (aa (cD (v:=.ty "int") rfl xF Hr rfl) Ed))) (ff (pP (aF EC rfl ve DU (aa (pv 0) (aa (cD (v:=.ty "bool") rfl xB Hz rfl) Ed)))))))),?_⟩
 try dsimp only [bD,Cx.nox,Cx.En]
 obtain⟨t1,y1,e1⟩:=hk.as_int (K:=K);obtain⟨t2,y2,e2⟩:=hk.as_bool (K:=K);refine⟨v,rfl,v,.ty "int",t1,_,_,rfl,rfl,y1,e1,_,rfl,?_⟩;cases hb:Kj v with
 |true=>
  refine tO ⟨v,rfl,v,.ty "bool",t2,_,_,rfl,rfl,y2,e2,_,rfl,?_⟩;have z:(!isB v)=Ff v:=by cases v<;>first|rfl|(cases hb)
  rw[z];exact q
 |false=>
  refine uJ ?_;have z:false=Ff v:=by cases v<;>first|rfl|(cases hb)
  rw[z];exact q
theorem sP(t:Tb):V.bl (if true=true then !PyData.eqv t.dat t.dat else PyData.eqv t.dat t.dat)=.bl false:=by
 rw[Tb.eqv];rfl
theorem ql(v:V):V.bl (!decide (v=v))=.bl false:=by
 rw[Dj rfl];rfl
theorem lA{zs:List (List Nat)}(h:∀z∈zs,∀c∈z,c<128):(PyData.list ((oZ zs).map PyData.str)).canLay0=true:=by
 show PyData.canLayAll0 _=true;refine Fy _ fun x hx=>?_;obtain⟨z,hz,rfl⟩:=Ax.mp hx;show(txt z).cps.all _=true;rw[<- Cs,Be];intro c hc;have:=h z hz c hc;exact Dj (by walk_at "o")
theorem fB{H:Hp}(zs:List (List Nat)):DatAll K H (aj zs) ((oZ zs).map PyData.str):=by rw[fo];exact DatAll.strs _
theorem pN(d:PyData)(h:d.canLay0=true):V.bl (if true=true then !PyData.eqv d d else PyData.eqv d d)=.bl false:=by
 rw[SeqAt.eqv_refl d h];rfl
theorem Rst.same{ws:List (List Nat)}{x:List Nat}{a b:List (List Nat)}(h:Rst ws x a)(g:Rst ws x b):a=b:=by
 have p:a.Perm b:=(List.perm_ext_iff_of_nodup h.nd g.nd).mpr fun z=>(h.mem z).trans (g.mem z).symm;have:=FR (p.map txt) h.so g.so;exact List.map_inj_right (fun x y e=>fK e) |>.mp this
theorem Rst.lay{ws:List (List Nat)}{x:List Nat}{a:List (List Nat)}(hw:Wds ws)(h:Rst ws x a):(PyData.list ((oZ a).map PyData.str)).canLay0=true:=lA fun z hz c hc=>by
 obtain⟨_,j,_,_,w,hm,e⟩:=(h.mem z).mp hz;have:Eo c:=hw.lr w hm c (by rw[e];exact Ae _ hc);unfold Eo at this;omega
theorem ko(ws:List (List Nat))(x:List Nat)(i:Nat):(ba ws x x.length).getD i 0=((bP ws x x.length).getD i (none,0)).2:=by
 rw[eB,Aw,Aw,Aj];cases (bP ws x x.length)[i]?<;>rfl
def qG (C:Addr):Sp:=fun vs H Q _=>∃a dx W G ws hs l x,vs=[.ref a,.ref l,.str (txt x)]/\DZ C H a dx W G ws hs/\hs.flatten=x/\H l=some (.lst (aj ws))/\Wds ws/\(∀c∈x,Eo c)/\x.length<=400/\hs.length<=1000/\∀H',DV H H'->Q (.bl true) H'
theorem IC:DT ["mill","words","text","counts","many"] ["mill","words","text"] (ai (top 52)):=⟨rfl,rfl,rfl,by decide +kernel,rfl,by decide +kernel,by decide +kernel⟩
theorem sj{C:Addr}{d1 d2 d3 d4 d5 d6 d7 d8 d9 d10 dx d:DD}(MC:Gd K C)(xu:Def K mg "_law_counts" (top 48) ["words","text"] d1)(xE:DY P w K mg base CX0 2 d1.f d1.fd ["words","text"] Ib)(vp:Def K mg "_law_of_letters" (top 45) ["word"] d2)(vA:DY P w K mg base CX0 3 d2.f d2.fd ["word"] (lM K))(yH:Def K mg "_law_first_row" (top 49) ["words","text"] d3)(za:DY P w K mg base CX0 3 d3.f d3.fd ["words","text"] JU)(yL:Def K mg "_law_whole" (top 50) ["found"] d4)(ze:DY P w K mg base CX0 1 d4.f d4.fd ["found"] Fx)(yJ:Def K mg "_law_rests" (top 51) ["words","text"] d5)(zc:DY P w K mg base CX0 3 d5.f d5.fd ["words","text"] JV)(D_tx:EN K C "text" "Mill.text" (bo 3) ["self"] dx)(G_tx:DY P w K mg base CX0 1 dx.f dx.fd ["self"] (ng C))(D_tb:EN K C "table" "Mill.table" (bo 4) ["self"] d6)(G_tb:DY P w K mg base CX0 7 d6.f d6.fd ["self"] (uQ K C))(D_ls:EN K C "least" "Mill.least" (bo 6) ["self"] d7)(G_ls:DY P w K mg base CX0 4 d7.f d7.fd ["self"] (uO C))(D_wy:EN K C "ways" "Mill.ways" (bo 5) ["self"] d8)(G_wy:DY P w K mg base CX0 3 d8.f d8.fd ["self"] (uS C))(D_rs:EN K C "rests" "Mill.rests" (bo 8) ["self"] d9)(G_rs:DY P w K mg base CX0 5 d9.f d9.fd ["self"] (uY C))(D_pl:EN K C "places" "Mill.places" (bo 7) ["self"] d10)(G_pl:DY P w K mg base CX0 4 d10.f d10.fd ["self"] (uq C))(D:Def K mg "_law_mill_right" (top 52) ["mill","words","text"] d)(vf:mg "len"=none)(vg:mg "range"=none):DY P w K mg base CX0 8 d.f d.fd ["mill","words","text"] (qG C):=by
 refine D.fn.ok IC (fun vs H Q E h=>?_) (fun cdv A outer s H vs Q E hr h=>?_)
 ·obtain⟨a,dx,W,G,ws,hs,l,x,rfl,_⟩:=h;rfl
 obtain⟨a,dx,W,G,ws,hs,l,x,rfl,M,ef,hl,hw,lr,h400,ln,q⟩:=h;subst ef;have hc:=hr.calm;have nd:=IC.nd;refine⟨_,(@ae _ _ _ _ _ (@aq _ _ (3) _ _ _ _ nd rfl (Or.inr rfl) (@aR _ _ _ _ _ _ _ _ _ _ _ _ _ xu xE (by decide) hr rfl (@aa _ _ _ _ _ (pv 1) (@aE _ _ _ (pv 2) ax) ax) (by decide) (by rfl) (by rfl)) (by rfl) (by walk_at "i")) (@ae _ _ _ _ _ (@eS _ _ _ (@bp _ _ _ _ _ _ _ _ (@PW.pt _ _ _ (@ik _ _ _ _ _ _ _ (@aB _ _ _ _ _ _ _ _ HL (@aW _ _ _ _ _ _ _ _ _ _ _ _ _ _ _ _ _ (pv 0) MC.c D_tx.m (G_tx.mono (by decide)) hr D_tx.b .nil bW (by rfl)) (pv 2) (aC _)) (@ik _ _ _ _ _ _ _ (@aB _ _ _ _ _ _ _ _ (cf hr.units) (@aW _ _ _ _ _ _ _ _ _ _ _ _ _ _ _ _ _ (pv 0) MC.c D_tb.m (G_tb.mono (by decide)) hr D_tb.b .nil bW (by rfl)) (@bT _ _ _ _ _ _ _ _ _ _ _ _ vp vA (by decide) hr rfl (pv 2) ax (by decide)) (aC _)) (@eZ _ _ _ _ (@aB _ _ _ _ _ _ _ _ (cf hr.units) (@aW _ _ _ _ _ _ _ _ _ _ _ _ _ _ _ _ _ (pv 0) MC.c D_ls.m (G_ls.mono (by decide)) hr D_ls.b .nil bW (by rfl)) (@aR _ _ _ _ _ _ _ _ _ _ _ _ _ yH za (by decide) hr rfl (@aa _ _ _ _ _ (pv 1) (@aE _ _ _ (pv 2) ax) ax) (by decide) (by rfl) (by rfl)) (aC _)))))) (@ah _ _ _ (@ay _ _ _ _ (@dG _ _ _ _))) (@DX _))) (@ae _ _ _ _ _ (@aq _ _ (4) _ _ _ _ nd rfl (Or.inl rfl) (@aW _ _ _ _ _ _ _ _ _ _ _ _ _ _ _ _ _ (pv 0) MC.c D_wy.m (G_wy.mono (by decide)) hr D_wy.b .nil bW (by rfl)) (by rfl) (by walk_at "i")) (@ae _ _ _ _ _ (@eS _ _ _ (@bp _ _ _ _ _ _ _ _ (@PW.pt _ _ _ (@ik _ _ _ _ _ _ _ (@cg _ _ _ _ (@bL _ _ _ (@bT _ _ _ _ _ _ _ _ _ _ _ _ yL ze (by decide) hr rfl (pv 4) ax (by decide)) (by intro _;rfl))) (@ik _ _ _ _ _ _ _ (@aB _ _ _ _ _ _ _ _ HL (pv 4) (@aO _ _ _ _ _ _ _ Ex (@aO _ _ _ _ _ _ _ DW (pv 3) (@dj _ _ _ _ _ _ Ey (@ag _ _ _ _)) (fun _ _=>rfl)) (@ag _ _ _ _) (fun _ _=>rfl)) (aC _)) (@eZ _ _ _ _ (@aB _ _ _ _ _ _ _ _ (cf hr.units) (@aW _ _ _ _ _ _ _ _ _ _ _ _ _ _ _ _ _ (pv 0) MC.c D_rs.m (G_rs.mono (by decide)) hr D_rs.b .nil bW (by rfl)) (@aR _ _ _ _ _ _ _ _ _ _ _ _ _ yJ zc (by decide) hr rfl (@aa _ _ _ _ _ (pv 1) (@aE _ _ _ (pv 2) ax) ax) (by decide) (by rfl) (by rfl)) (aC _)))))) (@ah _ _ _ (@ay _ _ _ _ (@dG _ _ _ _))) (@DX _))) (@ah _ _ _ (@ay _ _ _ _ (@bZ _ _ _ _ _ _ _ _ (kD hr.units) (@aW _ _ _ _ _ _ _ _ _ _ _ _ _ _ _ _ _ (pv 0) MC.c D_pl.m (G_pl.mono (by decide)) hr D_pl.b .nil bW (by rfl)) (@bB _ _ _ _ _ _ _ _ _ _ _ _ _ _ hc (ar (ts:=["at"]) (cap:=["counts"]) (js:=[3]) rfl rfl rfl rfl rfl rfl (by decide +kernel)) (@bU _ _ _ _ _ _ rfl vg (@aE _ _ _ (@au _ _ _ _ _ _ _ _ Eb (@aI _ _ _ _ _ _ DS rfl vf (pv 2) ax) (@ag _ _ _ _)) (by rfl)) (by rfl)) (fun _ _ _ _=>@ao _ _ (0) _ (show(["at","counts"]:List Str).Nodup by decide +kernel) rfl (Or.inl rfl) (.inr rfl)) (fun _ _ _ _=>@ck _ _ _ (@aB _ _ _ _ _ _ _ _ FJ (@aO _ _ _ _ _ _ _ (show IxR _ (rP K) from Ex) (@aO _ _ _ _ _ _ _ (show IxR _ (ke K) from DW) (pv 1) (pv 0) (fun _ _=>rfl)) (@ag _ _ _ _) (fun _ _=>rfl)) (@bK _ _ _) (aC _))) (fun _ _ _ _=>(pv 0)) (by intro _;rfl)) (aC _)))))))),?_⟩
 try dsimp only [bD,Cx.nox,Cx.En]
 refine⟨_,rfl,_,rfl,l,ws,hs.flatten,rfl,hl,hw.ok,h400,fun Cn' us H1 S1 nC gC hC=>?_⟩;have M1:=M.same S1;refine⟨fun σ H'=>σ=[some (.ref a),some (.ref l),some (.str (txt hs.flatten)),some (.ref Cn'),none]/\DV H1 H',?_,fun σ H5 z=>?_⟩
 ·refine⟨_,rfl,a,dx,_,rfl,M1.ia,rfl,a,dx,W,G,ws,hs,rfl,M1,h400,ln,fun H2 S2=>?_⟩;have M2:=M1.same S2;refine⟨_,rfl,rfl,false,ql _,?_⟩;refine⟨_,rfl,a,dx,_,rfl,M2.ia,rfl,a,dx,W,G,ws,hs,rfl,M2,lr,h400,ln,fun r1 H3 S3 h4=>?_⟩;have M3:=M2.same S3;refine⟨_,rfl,txt hs.flatten,rfl,(by show hs.flatten.length<=1000;walk_at "o"),fun c hc=>(lr c hc).lt,fun r2 H4 S4 h4'=>?_⟩;have M4:=M3.same S4;rw[bJ] at h4';refine⟨(wt hs.flatten).dat,(wt hs.flatten).dat,(h4.mono S4).dat,(h4'.t4 (K:=K)).dat,Tb.lay _,Tb.lay _,Tb.depth _,false,sP _,?_⟩;have S24:=S2.trans (S3.trans S4);refine⟨_,rfl,a,dx,_,rfl,M4.ia,rfl,a,dx,W,G,ws,hs,rfl,M4,hw.ok,h400,ln,fun u L X H5 S5 hL hR=>?_⟩;have nn:=pB hw.ok hL;have S25:=S24.trans S5;refine⟨_,rfl,_,rfl,l,ws,hs.flatten,rfl,S25 _ _ (S1 _ _ hl),hw.ok,h400,fun i r hi hf=>sQ hw.ok i r hi hf,fun hn H6 S6=>?_,fun pr row H6 S6 n6 g6 hG=>?_⟩
  ·have hLn:=nn.1.mpr hn;rw[hLn] at hR;obtain rfl:u=.non:=by
    rcases hR with ⟨_,e⟩|⟨_,_,e,_⟩
    ·exact e
    ·cases e
   exact⟨.none,.none,.non,.non,rfl,rfl,by decide,false,rfl,rfl,S25.trans S6⟩
  ·obtain⟨r,hLr⟩:∃r,L.getD hs.flatten.length none=some r:=by
    cases qq:L.getD hs.flatten.length none with
    |none=>exact absurd hG.mk ((lV hw.ok hL (zX _) hs.flatten.length (zX _)).1 qq row)
    |some r=>exact⟨r,rfl⟩
   obtain rfl:=iX hw.ok hL hLr hG;rw[hLr] at hR;obtain⟨b,rfl,gb⟩:∃b,u=.ref b/\H5 b=some (.lst (ivs r)):=by
    rcases hR with ⟨h,_⟩|⟨b,ns',e1,rfl,_,_,g⟩
    ·cases h
    ·cases e1;exact⟨b,rfl,g⟩
   exact⟨_,_,.lst (SqL.of (S6 _ _ gb)) (bw _),.lst (SqL.of g6) (bw _),cn _,cn _,Ap (cJ _) (by decide),false,(by show V.bl (!PyData.eqv _ _)=_;rw[EF,Dj rfl];rfl),rfl,S25.trans S6⟩
 obtain⟨rfl,S15⟩:=z;have M5:=M1.same S15;refine⟨_,rfl,a,dx,_,rfl,M5.ia,rfl,a,dx,W,G,ws,hs,rfl,M5,hw.ok,h400,ln,fun H6 S6=>?_⟩;have M6:=M5.same S6;have S16:=S15.trans S6;obtain⟨ac,eC,gac⟩:=hC.at (i:=hs.flatten.length) (by rw[bh];omega);have lC:us.length=hs.flatten.length+1:=by rw[Paired.length hC,bh]
 refine⟨fun σ H'=>σ=[some (.ref a),some (.ref l),some (.str (txt hs.flatten)),some (.ref Cn'),some (.int ((ba ws hs.flatten hs.flatten.length).getD hs.flatten.length 0))]/\DV H6 H',?_,fun σ H7 z=>?_⟩
 ·refine⟨_,rfl,_,rfl,.int _,true,rfl,?_⟩;refine⟨_,rfl,_,rfl,1,rfl,Cn',us,-1,_,rfl,rfl,SqL.of (S16 _ _ gC),iY lC eC,ac,_,1,_,rfl,rfl,SqT.of (S16 _ _ gac),rfl,rfl,false,?_,?_⟩
  ·show V.bl (!decide (V.int ((ba ws hs.flatten hs.flatten.length).getD hs.flatten.length 0)=V.int ((bP ws hs.flatten hs.flatten.length).getD hs.flatten.length (none,0)).2))=_;rw[ko,Dj rfl];rfl
  refine⟨_,rfl,a,dx,_,rfl,M6.ia,rfl,a,dx,W,G,ws,hs,rfl,M6,hw.ok,h400,ln,fun p1 o1 H8 S8 n8 g8 r8=>?_⟩;refine⟨_,rfl,_,rfl,l,ws,hs.flatten,rfl,S8 _ _ (S16 _ _ (S1 _ _ hl)),hw.ok,h400,fun p2 o2 H9 S9 n9 g9 r9=>?_⟩;obtain rfl:=r8.same r9;have ly:=r8.lay hw;exact⟨.list ((oZ o1).map PyData.str),.list ((oZ o1).map PyData.str),.lst (SqL.of (S9 _ _ g8)) (fB _),.lst (SqL.of g9) (fB _),ly,ly,eR _,false,pN _ ly,rfl,S8.trans S9⟩
 obtain⟨rfl,S67⟩:=z;have M7:=M6.same S67;have S17:=S16.trans S67;refine⟨_,rfl,a,dx,_,rfl,M7.ia,rfl,a,dx,W,G,ws,hs,rfl,M7,hw.ok,h400,ln,fun pl H8 S8 n8 g8=>?_⟩;have S18:=S17.trans S8;generalize hs.flatten=x at *;refine⟨_,rfl,txt x,rfl,ak (by show x.length<=1000000;walk_at "o"),_,_,rfl,rfl,((x.length:Nat):Int)+1,rfl,by omega,by omega,?_⟩;rw[show(((x.length:Nat):Int)+1).toNat=x.length+1 by omega];refine sF (lo:=0) (n:=x.length+1) (fun k zs H'=>DV H8 H'/\zs.length<=k/\zs=ivs (plc (ba ws x x.length) k)) ⟨DV.refl _,zX _,rfl⟩ (fun k zs H' hk z=>z.2.1) (ak (by omega)) (fun k zs H' hk z=>?_) (fun zs H' z p6 hp6=>?_)
 ·obtain⟨z1,z2,rfl⟩:=z;obtain⟨a8,e8,g8'⟩:=hC.at (i:=k) (by rw[bh];walk_at "o");have ep:plc (ba ws x x.length) (k+1)=plc (ba ws x x.length) k++(if decide (0<(ba ws x x.length).getD k 0)=true then [(k:Int)] else []):=by
   unfold plc;rw[CA,BG,Au,BH];split<;>rfl
  have ek:(0:Int)+(k:Int)=((k:Nat):Int):=by omega
  have pos:=(mj hw.ok x x.length k (by omega)).2;rw[<- ko] at pos;refine⟨_,rfl,_,rfl,Cn',us,0+(k:Int),.ref a8,rfl,rfl,SqL.of (z1 _ _ (S18 _ _ gC)),(by rw[ek];exact aQ e8),a8,_,0,_,rfl,rfl,SqT.of (z1 _ _ (S18 _ _ g8')),rfl,rfl,!decide (ov ((bP ws x x.length).getD k (none,0)).1=.non),rfl,?_⟩;cases ho:((bP ws x x.length).getD k (none,0)).1 with
  |none=>
   rw[ho] at pos;rw[Dk (fun h=>pos.mp h rfl)] at ep;show Nx (x.length+1) k (fun k zs H'=>DV H8 H'/\zs.length<=k/\zs=ivs (plc (ba ws x x.length) k)) _ _;refine Nx.mk hk ⟨z1,by omega,?_⟩;rw[ep];simp
  |some m=>
   rw[ho] at pos;rw[Dj (pos.mpr (by simp))] at ep;refine⟨_,rfl,Nx.mk hk ⟨z1,by rw[zZ];exact DI z2,?_⟩⟩;rw[ep,ek];simp[ivs]
 obtain⟨z1,z2,rfl⟩:=z;have T11:=z1.trans (af hp6 (.lst (ivs (plc (ba ws x x.length) (x.length+1)))));refine⟨_,_,.lst (SqL.of (T11 _ _ g8)) (bw _),.lst (SqL.of DR) (bw _),cn _,cn _,Ap (cJ _) (by decide),?_⟩;have e:V.bl (if false=true then !PyData.eqv (.list ((plc (ba ws x x.length) (x.length+1)).map PyData.int)) (.list ((plc (ba ws x x.length) (x.length+1)).map PyData.int)) else PyData.eqv (.list ((plc (ba ws x x.length) (x.length+1)).map PyData.int)) (.list ((plc (ba ws x x.length) (x.length+1)).map PyData.int)))=.bl true:=by
  show V.bl (PyData.eqv _ _)=_;rw[EF,Dj rfl]
 rw[e];exact q _ (S1.trans (S18.trans T11))
end
section
variable {P:Program}{w:World}{K:PySem.W.Frag}{mg:Str->Option Value}{base:Heap}
structure KJ(mg:Str->Option Value)(cl:List Addr):Prop where
 vL:mg "NoBack"=some (.ref (cl.getD 0 0))
 yB:mg "NoCount"=some (.ref (cl.getD 1 0))
 yk:mg "NoMakers"=some (.ref (cl.getD 2 0))
 yR:mg "NoName"=some (.ref (cl.getD 3 0))
 vt:mg "NoPlain"=some (.ref (cl.getD 4 0))
 zI:mg "NoRow"=some (.ref (cl.getD 5 0))
 yS:mg "NoText"=some (.ref (cl.getD 6 0))
 yT:mg "NoWide"=some (.ref (cl.getD 7 0))
 yU:mg "NoWord"=some (.ref (cl.getD 8 0))
 vm:mg "TooLong"=some (.ref (cl.getD 9 0))
 yQ:mg "NoMill"=some (.ref (cl.getD 10 0))
 ve:mg "isinstance"=none
 vg:mg "range"=none
 vq:mg "ValueError"=none
def pk:List Str->List Bool->List Str
 |n::ns,true::bs=>n::pk ns bs
 |_::ns,false::bs=>pk ns bs
 |_,_=>[]
theorem ja(n:Str)(b:Bool):∀(ns:List Str)(bs:List Bool),ns.length=bs.length->pk (ns++[n]) (bs++[b])=pk ns bs++(if b=true then [n] else [])
 |[],[],_=>by cases b<;>rfl
 |x::ns,true::bs,h=>by show x::pk (ns++[n]) (bs++[b])=_;rw[ja n b ns bs (by simpa using h)];rfl
 |x::ns,false::bs,h=>by show pk (ns++[n]) (bs++[b])=_;rw[ja n b ns bs (by simpa using h)];rfl
 |[],_::_,h=>by cases h
 |_::_,[],h=>by cases h
theorem GF:∀(ns:List Str)(bs:List Bool),((pk ns bs).map (·.length)).sum<=(ns.map (·.length)).sum/\(pk ns bs).length<=ns.length
 |[],bs=>by cases bs<;>exact⟨zX _,zX _⟩
 |x::ns,[]=>⟨Ah _,Ah _⟩
 |x::ns,true::bs=>by
  have:=GF ns bs;show(x.length+((pk ns bs).map (·.length)).sum)<=x.length+(ns.map (·.length)).sum/\(pk ns bs).length+1<=ns.length+1;omega
 |x::ns,false::bs=>by
  have:=GF ns bs;show((pk ns bs).map (·.length)).sum<=x.length+(ns.map (·.length)).sum/\(pk ns bs).length<=ns.length+1;omega
abbrev Eh:List Str:=["NoBack","NoCount","NoMakers","NoName","NoPlain","NoRow","NoText","NoWide","NoWord","TooLong","NoMill","+"]
def mQ (K:W.Frag)(cl:List Addr):Addr->List V->Hp->VK->Prop:=fun x vs H Q=>∃C b0 b1 b2 b3 b4 b5 b6 b7 b8 b9 b10 b11,vs=[.ref x]/\H x=some (qu x (.ref C))/\IQ K C /\
 W.kitOne K (.ref C) (.ref (cl.getD 0 0))=some b0/\W.kitOne K (.ref C) (.ref (cl.getD 1 0))=some b1/\W.kitOne K (.ref C) (.ref (cl.getD 2 0))=some b2/\W.kitOne K (.ref C) (.ref (cl.getD 3 0))=some b3/\W.kitOne K (.ref C) (.ref (cl.getD 4 0))=some b4/\W.kitOne K (.ref C) (.ref (cl.getD 5 0))=some b5/\W.kitOne K (.ref C) (.ref (cl.getD 6 0))=some b6/\W.kitOne K (.ref C) (.ref (cl.getD 7 0))=some b7/\W.kitOne K (.ref C) (.ref (cl.getD 8 0))=some b8/\W.kitOne K (.ref C) (.ref (cl.getD 9 0))=some b9/\W.kitOne K (.ref C) (.ref (cl.getD 10 0))=some b10/\W.kitOne K (.ref C) (.type "ValueError")=some b11/\∀H',DV H H'->Q (.str (Txt.join "" (pk Eh [b0,b1,b2,b3,b4,b5,b6,b7,b8,b9,b10,b11]))) H'
theorem kH{x C p4 p7:Addr}{H Hc:Hp}{Q:VK}{b0 b1 b2 b3 b4 b5 b6 b7 b8 b9 b10 b11:Bool}(hx:H x=some (qu x (.ref C)))(x8:Hc x=some (qu x (.ref C)))(gB:Hc p4=some (.lst ([b0,b1,b2,b3,b4,b5,b6,b7,b8,b9,b10,b11].map V.bl)))(gN:Hc p7=some (.lst (Eh.map V.str)))
  (all:DV H Hc)(q:∀H',DV H H'->Q (.str (Txt.join "" (pk Eh [b0,b1,b2,b3,b4,b5,b6,b7,b8,b9,b10,b11]))) H') :
  iz (Itx x (.ref C) 12) 1 [1,2] (gr 0) (tB (tOp (ke K) (ny 1) (ny 0))) (tOp (ke K) (ny 2) (ny 0)) [some (.ref x),some (.ref p4),some (.ref p7)] Hc (fun v H1=>He [some (.ref x),some (.ref p4),some (.ref p7)] H1 fun xs H2=>qm K (.str "") (v::xs) H2 Q):=by
 generalize hbs:[b0,b1,b2,b3,b4,b5,b6,b7,b8,b9,b10,b11]=bs at gB q;have lb:bs.length=12:=by rw[<- hbs];rfl
 refine dD (n:=12) (fun i ys H'=>H'=Hc/\ys=(pk (Eh.take i) (bs.take i)).map V.str) ⟨rfl,rfl⟩ (fun i ys H' hi z=>?_) (ak (by decide)) (fun i ys H' hi z=>hi) (fun ys H' z=>⟨zX _,by rw[z.1];exact x8⟩) (fun i ys H' v H'' hi z y=>?_) (fun ys H' z p hp=>?_)
 ·rw[z.2,zY];have:=(GF (Eh.take i) (bs.take i)).2;rw[Af] at this;omega
 ·obtain⟨rfl,rfl⟩:=z;obtain⟨rfl,rfl⟩:=y;have hib:i<bs.length:=by omega
  have hin:i<Eh.length:=hi;have ab:atI (bs.map V.bl) (i:Int)=some (.bl bs[i]):=aQ (by rw[Aj,Aa hib];rfl);have an:atI (Eh.map V.str) (i:Int)=some (.str Eh[i]):=aQ (by rw[Aj,Aa hin];rfl);have sn:pk (Eh.take (i+1)) (bs.take (i+1))=pk (Eh.take i) (bs.take i)++(if bs[i]=true then [Eh[i]] else []):=by
   rw[Az,Az,Aa hib,Aa hin];exact ja _ _ _ _ (by rw[Af,Af];omega)
  refine⟨_,rfl,_,rfl,p4,_,_,_,rfl,rfl,SqL.of gB,ab,_,rfl,pK (fun hb=>?_) (fun hb=>?_)⟩
  ·refine⟨_,rfl,_,rfl,p7,_,_,_,rfl,rfl,SqL.of gN,an,Nx.mk hi ⟨rfl,?_⟩⟩;rw[sn,Di hb,Au];rfl
  ·refine Nx.mk hi ⟨rfl,?_⟩;rw[sn,Dh hb,AC]
 ·obtain⟨rfl,rfl⟩:=z;refine⟨"",p,pk Eh bs,rfl,rfl,?_,?_,q _ (all.trans (af hp _))⟩
  ·have e1:Eh.take 12=Eh:=rfl;have e2:bs.take 12=bs:=Av (by omega);rw[e1,e2];exact SqL.of DR
  ·have:=(GF Eh bs).1;have z:(Eh.map (·.length)).sum<=100:=by decide +kernel
   have z2:("":Str).length=0:=rfl;rw[z2];omega
theorem Hu:DT ["e","some","names"] ["e"] (ai (top 46)):=⟨rfl,rfl,rfl,by decide +kernel,rfl,by decide +kernel,by decide +kernel⟩
theorem qi{d:DD}{cl:List Addr}(M:KJ mg cl)(D:Def K mg "_law_kind" (top 46) ["e"] d):FnX P w K mg base 1 d.f d.fd ["e"] (mQ K cl):=by
 refine D.fn.okX Hu (fun x vs H Q h=>?_) (fun x cdv A outer s H vs Q hr h=>?_)
 ·obtain⟨C,b0,b1,b2,b3,b4,b5,b6,b7,b8,b9,b10,b11,rfl,_⟩:=h;rfl
 obtain⟨C,b0,b1,b2,b3,b4,b5,b6,b7,b8,b9,b10,b11,rfl,hx,Z,e0,e1,e2,e3,e4,e5,e6,e7,e8,e9,e10,e11,q⟩:=h;have nd:=Hu.nd;refine⟨_,(@ae _ _ _ _ _ (@aq _ _ (1) _ _ _ _ nd rfl (Or.inr rfl) (@bb _ _ _ _ (@aa _ _ _ _ _ (@aF _ _ _ _ _ _ _ _ _ bA rfl M.ve DU (@aa _ _ _ _ _ (pv 0) (@aE _ _ _ (@aX _ _ (.ref (cl.getD 0 0)) _ _ rfl (M.vL) rfl (by decide)) ax) ax) (by decide) (by decide) (by rfl) (by rfl)) (@aa _ _ _ _ _ (@aF _ _ _ _ _ _ _ _ _ bA rfl M.ve DU (@aa _ _ _ _ _ (pv 0) (@aE _ _ _ (@aX _ _ (.ref (cl.getD 1 0)) _ _ rfl (M.yB) rfl (by decide)) ax) ax) (by decide) (by decide) (by rfl) (by rfl)) (@aa _ _ _ _ _ (@aF _ _ _ _ _ _ _ _ _ bA rfl M.ve DU (@aa _ _ _ _ _ (pv 0) (@aE _ _ _ (@aX _ _ (.ref (cl.getD 2 0)) _ _ rfl (M.yk) rfl (by decide)) ax) ax) (by decide) (by decide) (by rfl) (by rfl)) (@aE _ _ _ (@aF _ _ _ _ _ _ _ _ _ bA rfl M.ve DU (@aa _ _ _ _ _ (pv 0) (@aE _ _ _ (@aX _ _ (.ref (cl.getD 3 0)) _ _ rfl (M.yR) rfl (by decide)) ax) ax) (by decide) (by decide) (by rfl) (by rfl)) cy) cy) cy) cy)) (by rfl) (by walk_at "i")) (@ae _ _ _ _ _ (@aq _ _ (1) _ _ _ _ nd rfl (Or.inr rfl) (@au _ _ _ _ _ _ _ _ Ga (pv 1) (@bb _ _ _ _ (@aa _ _ _ _ _ (@aF _ _ _ _ _ _ _ _ _ bA rfl M.ve DU (@aa _ _ _ _ _ (pv 0) (@aE _ _ _ (@aX _ _ (.ref (cl.getD 4 0)) _ _ rfl (M.vt) rfl (by decide)) ax) ax) (by decide) (by decide) (by rfl) (by rfl)) (@aa _ _ _ _ _ (@aF _ _ _ _ _ _ _ _ _ bA rfl M.ve DU (@aa _ _ _ _ _ (pv 0) (@aE _ _ _ (@aX _ _ (.ref (cl.getD 5 0)) _ _ rfl (M.zI) rfl (by decide)) ax) ax) (by decide) (by decide) (by rfl) (by rfl)) (@aa _ _ _ _ _ (@aF _ _ _ _ _ _ _ _ _ bA rfl M.ve DU (@aa _ _ _ _ _ (pv 0) (@aE _ _ _ (@aX _ _ (.ref (cl.getD 6 0)) _ _ rfl (M.yS) rfl (by decide)) ax) ax) (by decide) (by decide) (by rfl) (by rfl)) (@aE _ _ _ (@aF _ _ _ _ _ _ _ _ _ bA rfl M.ve DU (@aa _ _ _ _ _ (pv 0) (@aE _ _ _ (@aX _ _ (.ref (cl.getD 7 0)) _ _ rfl (M.yT) rfl (by decide)) ax) ax) (by decide) (by decide) (by rfl) (by rfl)) cy) cy) cy) cy))) (by rfl) (by walk_at "i")) (@ae _ _ _ _ _ (@aq _ _ (1) _ _ _ _ nd rfl (Or.inr rfl) (@au _ _ _ _ _ _ _ _ Ga (pv 1) (@bb _ _ _ _ (@aa _ _ _ _ _ (@aF _ _ _ _ _ _ _ _ _ bA rfl M.ve DU (@aa _ _ _ _ _ (pv 0) (@aE _ _ _ (@aX _ _ (.ref (cl.getD 8 0)) _ _ rfl (M.yU) rfl (by decide)) ax) ax) (by decide) (by decide) (by rfl) (by rfl)) (@aa _ _ _ _ _ (@aF _ _ _ _ _ _ _ _ _ bA rfl M.ve DU (@aa _ _ _ _ _ (pv 0) (@aE _ _ _ (@aX _ _ (.ref (cl.getD 9 0)) _ _ rfl (M.vm) rfl (by decide)) ax) ax) (by decide) (by decide) (by rfl) (by rfl)) (@aa _ _ _ _ _ (@aF _ _ _ _ _ _ _ _ _ bA rfl M.ve DU (@aa _ _ _ _ _ (pv 0) (@aE _ _ _ (@aX _ _ (.ref (cl.getD 10 0)) _ _ rfl (M.yQ) rfl (by decide)) ax) ax) (by decide) (by decide) (by rfl) (by rfl)) (@aE _ _ _ (@aF _ _ _ _ _ _ _ _ _ bA rfl M.ve DU (@aa _ _ _ _ _ (pv 0) (@aE _ _ _ (@cD _ _ (.ty "ValueError") _ _ rfl M.vq FF rfl (by decide) (by decide)) ax) ax) (by decide) (by decide) (by rfl) (by rfl)) cy) cy) cy) cy))) (by rfl) (by walk_at "i")) (@ae _ _ _ _ _ (@aq _ _ (2) _ _ _ _ nd rfl (Or.inr rfl) (@bb _ _ _ _ (@iE _ _ (["NoBack","NoCount","NoMakers","NoName","NoPlain","NoRow","NoText","NoWide","NoWord","TooLong"]) rfl)) (by rfl) (by walk_at "i")) (@ae _ _ _ _ _ (@aq _ _ (2) _ _ _ _ nd rfl (Or.inr rfl) (@au _ _ _ _ _ _ _ _ Ga (pv 2) (@bb _ _ _ _ (@aa _ _ _ _ _ (@aL _ _ _ _) (@aE _ _ _ (@aL _ _ _ _) aM) aM))) (by rfl) (by walk_at "i")) (@ah _ _ _ (@ay _ _ _ _ (@fP _ _ _ _ _ _ _ _ (@oQ _ _ _ _ _ _ _ _ _ _ _ _ _ _ _ _ _ hr.hd (ar (ts:=["k"]) (cap:=["some","names"]) (js:=[1,2]) rfl rfl rfl rfl rfl rfl (by decide +kernel)) rfl M.vg (@aE _ _ _ (@ag _ _ _ _) aM) (fun _ _ _ _=>@ao _ _ (0) _ (show(["k","some","names"]:List Str).Nodup by decide +kernel) rfl (Or.inl rfl) (.inr rfl)) (fun _ _ _ _=>@ck _ _ _ (@bL _ _ _ (@aO _ _ _ _ _ _ _ (show IxR _ (ke K) from DW) (pv 1) (pv 0) (fun _ _=>rfl)) (by intro _;rfl))) (fun _ _ _ _=>(@aO _ _ _ _ _ _ _ (show IxR _ (ke K) from DW) (pv 2) (pv 0) (fun _ _=>rfl))) (by rfl) (by intro _;rfl)) (by rfl) (by rfl) (by rfl))))))))),?_⟩
 try dsimp only [bD,Cx.nox,Cx.En]
 refine⟨_,rfl,x,_,C,_,b0,rfl,rfl,hx,Z,e0,_,rfl,x,_,C,_,b1,rfl,rfl,hx,Z,e1,_,rfl,x,_,C,_,b2,rfl,rfl,hx,Z,e2,_,rfl,x,_,C,_,b3,rfl,rfl,hx,Z,e3,ak (by show 4<=1000000;decide),fun p0 hp0=>?_⟩;have T1:=af hp0 (.lst [.bl b0,.bl b1,.bl b2,.bl b3]);have x1:=T1 _ _ hx;refine⟨_,rfl,_,rfl,x,_,C,_,b4,rfl,rfl,x1,Z,e4,_,rfl,x,_,C,_,b5,rfl,rfl,x1,Z,e5,_,rfl,x,_,C,_,b6,rfl,rfl,x1,Z,e6,_,rfl,x,_,C,_,b7,rfl,rfl,x1,Z,e7,ak (by show 4<=1000000;decide),fun p1 hp1=>?_⟩;have T2:=af hp1 (.lst [.bl b4,.bl b5,.bl b6,.bl b7]);refine⟨p0,p1,_,_,rfl,rfl,T2 _ _ DR,DR,ak (by show 8<=1000000;decide),fun p2 hp2=>?_⟩;have T3:=af hp2 (.lst ([.bl b0,.bl b1,.bl b2,.bl b3]++[.bl b4,.bl b5,.bl b6,.bl b7]));have x3:=T3 _ _ (T2 _ _ x1);refine⟨_,rfl,_,rfl,x,_,C,_,b8,rfl,rfl,x3,Z,e8,_,rfl,x,_,C,_,b9,rfl,rfl,x3,Z,e9,_,rfl,x,_,C,_,b10,rfl,rfl,x3,Z,e10,_,rfl,x,_,C,_,b11,rfl,rfl,x3,Z,e11,ak (by show 4<=1000000;decide),fun p3 hp3=>?_⟩;have T4:=af hp3 (.lst [.bl b8,.bl b9,.bl b10,.bl b11]);refine⟨p2,p3,_,_,rfl,rfl,T4 _ _ DR,DR,ak (by show 12<=1000000;decide),fun p4 hp4=>?_⟩;have T5:=af hp4 (.lst (([.bl b0,.bl b1,.bl b2,.bl b3]++[.bl b4,.bl b5,.bl b6,.bl b7])++[.bl b8,.bl b9,.bl b10,.bl b11]));refine⟨ak (by show 10<=1000000;decide),fun p5 hp5=>?_⟩;have T6:=af hp5 (.lst ((Eh.take 10).map V.str));refine⟨_,rfl,ak (by show 2<=1000000;decide),fun p6 hp6=>?_⟩;have T7:=af hp6 (.lst [.str "NoMill",.str "+"]);refine⟨p5,p6,_,_,rfl,rfl,T7 _ _ DR,DR,ak (by show 12<=1000000;decide),fun p7 hp7=>?_⟩;have T8:=af hp7 (.lst ((Eh.take 10).map V.str++[.str "NoMill",.str "+"]));have x8:=T8 _ _ (T7 _ _ (T6 _ _ (T5 _ _ (T4 _ _ x3))));have all:=T1.trans (T2.trans (T3.trans (T4.trans (T5.trans (T6.trans (T7.trans T8))))));have gB:=T8 _ _ (T7 _ _ (T6 _ _ (DR (H:=_) (a:=p4) (o:=.lst (([.bl b0,.bl b1,.bl b2,.bl b3]++[.bl b4,.bl b5,.bl b6,.bl b7])++[.bl b8,.bl b9,.bl b10,.bl b11])))));refine⟨rfl,12,.ref C,rfl,by decide,by decide,?_⟩;exact kH hx x8 gB DR all q
open KM
theorem bg{H:Hp}{l:Addr}{r:V}{x:Str}{d:PyData}(g:H l=some (.tup [r,.str x]))(h:EK K H r d):EK K H (.ref l) (.tuple [d,.str x]):=.tup (SqT.of g) (.cons h (.cons (.str x) .nil))
theorem dE{d:PyData}{x:Str}(h:d.canLay0=true)(k:PyData.strOk x=true):(PyData.tuple [d,.str x]).canLay0=true:=by
 show(d.canLay0&&(PyData.strOk x&&true))=true;rw[h,k];rfl
theorem FK:PyData.strOk ""=true:=by decide +kernel
structure Jf(K:W.Frag)(cl:List Addr)(qe C:Addr)(j:Nat):Prop where
 kx:W.excIn K C Gs "ValueError.__new__"=true
 sub:subIn K C qe=true
 ex:IQ K C
 o0:W.kitOne K (.ref C) (.ref (cl.getD 0 0))=some (decide (j=0))
 o1:W.kitOne K (.ref C) (.ref (cl.getD 1 0))=some (decide (j=1))
 o2:W.kitOne K (.ref C) (.ref (cl.getD 2 0))=some (decide (j=2))
 o3:W.kitOne K (.ref C) (.ref (cl.getD 3 0))=some (decide (j=3))
 o4:W.kitOne K (.ref C) (.ref (cl.getD 4 0))=some (decide (j=4))
 o5:W.kitOne K (.ref C) (.ref (cl.getD 5 0))=some (decide (j=5))
 o6:W.kitOne K (.ref C) (.ref (cl.getD 6 0))=some (decide (j=6))
 o7:W.kitOne K (.ref C) (.ref (cl.getD 7 0))=some (decide (j=7))
 o8:W.kitOne K (.ref C) (.ref (cl.getD 8 0))=some (decide (j=8))
 o9:W.kitOne K (.ref C) (.ref (cl.getD 9 0))=some (decide (j=9))
 o10:W.kitOne K (.ref C) (.ref (cl.getD 10 0))=some (decide (j=10))
 o11:W.kitOne K (.ref C) (.type "ValueError")=some true
theorem FD:Txt.join "" (pk Eh [true,false,false,false,false,false,false,false,false,false,false,true])="NoBack+":=by decide +kernel
theorem Fj:PyData.strOk "NoBack+"=true:=by decide +kernel
theorem Fm:Txt.join "" (pk Eh [false,false,false,false,true,false,false,false,false,false,false,true])="NoPlain+":=by decide +kernel
theorem EV:PyData.strOk "NoPlain+"=true:=by decide +kernel
theorem Fo:Txt.join "" (pk Eh [false,false,false,false,false,false,false,false,false,true,false,true])="TooLong+":=by decide +kernel
theorem ET:PyData.strOk "TooLong+"=true:=by decide +kernel
def sq (C Cb:Addr):Sp:=fun vs H Q E=>∃a dx W G ws hs,vs=[.ref a]/\DZ C H a dx W G ws hs/\hs.flatten.length<=400/\hs.length<=900 /\
 (∀ks x,hs=ks++[x]->∀H',SmB G H H'->DZ C H' a dx W G ws ks->Q (.int ((ks.flatten.length:Nat):Int)) H')/\(hs=[]->E (.ref Cb) none H)
theorem Jx:DT ["self"] ["self"] (ai (bo 2)):=⟨rfl,rfl,rfl,by decide +kernel,rfl,by decide +kernel,by decide +kernel⟩
theorem uB{C Cb:Addr}{dx d:DD}(MC:Gd K C)(D_tx:EN K C "text" "Mill.text" (bo 3) ["self"] dx)(G_tx:DY P w K mg base CX0 1 dx.f dx.fd ["self"] (ng C))(vL:mg "NoBack"=some (.ref Cb))(k_NoBack:PySem.W.excIn K Cb Gs "ValueError.__new__"=true)(D:EN K C "take_back" "Mill.take_back" (bo 2) ["self"] d)(vf:mg "len"=none):DY P w K mg base (CXe P w) 2 d.f d.fd ["self"] (sq C Cb):=by
 refine D.fn.okE Jx (fun vs H Q E h=>?_) (fun cdv A outer s H vs Q E hr h=>?_)
 ·obtain⟨a,dx,W,G,ws,hs,rfl,_⟩:=h;rfl
 obtain⟨a,dx,W,G,ws,hs,rfl,M,l400,ln,q1,q2⟩:=h;have hc:=hr.calm;have nd:=Jx.nd;refine⟨_,(@ae _ _ _ _ _ (@bp _ _ _ _ _ _ _ _ (@cg _ _ _ _ (@oM _ _ _ (@dW _ _ _ _ _ (pv 0) rfl) (fun _=>rfl))) (@ah _ _ _ (@dZ _ _ _ _ _ _ _ _ _ _ hc rfl vL k_NoBack (@aE _ _ _ (@aL _ _ _ _) aM) eE (by decide) (by rfl) (by rfl))) (@DX _)) (@ae _ _ _ _ _ (@bH _ _ _ _ (@sV _ _ _ _ _ _ _ _ _ Dt PySem.F.slot_list_pop PySem.F.type_list_pop Jm (@dW _ _ _ _ _ (pv 0) rfl) (by rfl) (by rfl)) (by rfl)) (@ah _ _ _ (@ay _ _ _ _ (@aI _ _ _ _ _ _ DS rfl vf (@aW _ _ _ _ _ _ _ _ _ _ _ _ _ _ _ _ _ (pv 0) MC.c D_tx.m (G_tx.mono (by decide)) hr D_tx.b .nil bW (by rfl)) cy))))),?_⟩
 try dsimp only [bD,Cx.nox,Cx.En]
 refine⟨_,rfl,a,C,dx,_,.ref G,rfl,M.ia,MC.c,MC.h,rfl,!(aj hs).isEmpty,.inl ⟨_,SqL.of M.gH,rfl⟩,?_⟩;rcases List.eq_nil_or_concat hs with rfl|⟨ks,x,e⟩
 ·exact⟨ak (by show 1<=1000000;decide),q2 rfl⟩
 rw[List.concat_eq_append] at e;subst e;obtain⟨e1,e2⟩:=pj ks x;have ee:(!(aj (ks++[x])).isEmpty)=true:=by rw[<- aY];simp
 rw[ee];refine⟨_,rfl,a,C,dx,_,.ref G,rfl,M.ia,MC.c,MC.h,rfl,.inl ⟨rfl,_,SqL.of M.gH⟩,G,_,_,rfl,rfl,M.gH,e1,?_⟩;rw[e2];have M3:DZ C (upd H G (.lst (aj ks))) a dx W G ws ks:=M.put;have S3:SmB G H (upd H G (.lst (aj ks))):=fW;generalize upd H G (.lst (aj ks))=H3 at M3 S3 ⊢;have el:ks.flatten.length<=400:=by rw[bz,zZ] at l400;omega
 have ln':ks.length<=1000:=by rw[zZ] at ln;omega
 refine⟨_,rfl,a,dx,_,rfl,M3.ia,rfl,a,dx,W,G,ws,ks,rfl,M3,el,ln',fun H4 S4=>⟨txt ks.flatten,rfl,ak (by show ks.flatten.length<=1000000;walk_at "o"),?_⟩⟩;exact q1 ks x rfl H4 (S3.trans (SmB.of S4)) (M3.same S4)
def qY (C:Addr):Sp:=fun vs H Q _=>∃a dx W G ws hs,vs=[.ref a]/\DZ C H a dx W G ws hs/\hs.flatten.length<=400/\hs.length<=900 /\
 (∀ks x,hs=ks++[x]->∀l H',SmB G H H'->H l=none->H' l=some (.tup [.int ((ks.flatten.length:Nat):Int),.str ""])->DZ C H' a dx W G ws ks->Q (.ref l) H') /\
 (hs=[]->∀l H',DV H H'->H l=none->H' l=some (.tup [.non,.str "NoBack+"])->Q (.ref l) H')
theorem Iq:DT ["mill","found","kind","e"] ["mill"] (ai (top 53)):=⟨rfl,rfl,rfl,by decide +kernel,rfl,by decide +kernel,by decide +kernel⟩
theorem su{C qe Cb:Addr}{cl:List Addr}{dr dk d:DD}(MC:Gd K C)(vk:mg "QuadError"=some (.ref qe))(k_QuadError:PySem.W.excIn K qe Gs "ValueError.__new__"=true)(E0:Jf K cl qe Cb 0)(D_tk:EN K C "take_back" "Mill.take_back" (bo 2) ["self"] dr)(G_tk:DY P w K mg base (CXe P w) 2 dr.f dr.fd ["self"] (sq C Cb))(vo:Def K mg "_law_kind" (top 46) ["e"] dk)(xx:FnX P w K mg base 1 dk.f dk.fd ["e"] (mQ K cl))(D:Def K mg "_law_taken_back" (top 53) ["mill"] d):DY P w K mg base CX0 4 d.f d.fd ["mill"] (qY C):=by
 refine D.fn.ok Iq (fun vs H Q E h=>?_) (fun cdv A outer s H vs Q E hr h=>?_)
 ·obtain⟨a,dx,W,G,ws,hs,rfl,_⟩:=h;rfl
 obtain⟨a,dx,W,G,ws,hs,rfl,M,l400,ln,q1,q2⟩:=h;have hc:=hr.calm;have nd:=Iq.nd;refine⟨_,(@ae _ _ _ _ _ (@aq _ _ (1) _ _ _ _ nd rfl (Or.inl rfl) (@bK _ _ _) (by rfl) (by walk_at "i")) (@ae _ _ _ _ _ (@aq _ _ (2) _ _ _ _ nd rfl (Or.inl rfl) (@aL _ _ _ _) (by rfl) (by walk_at "i")) (@ae _ _ _ _ _ (@pX _ (3) _ _ _ _ _ _ _ _ _ _ _ rfl rfl nd rfl rfl rfl vk k_QuadError (fun _ _=>(@ah _ _ _ (@aq _ _ (1) _ _ _ _ nd rfl (Or.inl rfl) (@lL _ _ _ _ _ _ _ _ _ _ _ _ _ _ (pv 0) MC.c D_tk.m (G_tk.mono (by decide)) hr D_tk.b kT (by rfl)) (by rfl) (by walk_at "i")))) (fun _=>(@ah _ _ _ (@aq _ _ (2) _ _ _ _ nd rfl (Or.inl rfl) (@jD _ _ _ _ _ _ _ _ _ _ _ _ _ xx (EB.hand (hr.mono (by decide)) _) rfl vo.m vo.fn.kp vo.b (@aE _ _ _ (pv 3) ax) (by decide) (by rfl) (by rfl)) (by rfl) (by walk_at "i")))) (by decide)) (@ah _ _ _ (@ay _ _ _ _ (@aP _ _ _ _ _ (@aa _ _ _ _ _ (pv 1) (@aE _ _ _ (pv 2) ax) ax))))))),?_⟩
 try dsimp only [bD,Cx.nox,Cx.En]
 refine⟨fun cls σ' H'=>cls=.ref Cb/\hs=[]/\σ'=[some (.ref a),some .non,some (.str ""),none]/\H'=H,?_,?_⟩
 ·refine⟨_,rfl,a,dx,_,rfl,M.ia,rfl,a,dx,W,G,ws,hs,rfl,M,l400,ln,fun ks x e H1 B1 M1=>?_,fun e=>⟨rfl,e,rfl,rfl⟩⟩;refine⟨_,rfl,_,rfl,ak (by show 2<=1000000;decide),fun l nl=>?_⟩;have nl0:H l=none:=by
   cases e:H l with
   |none=>rfl
   |some o=>
    by_cases z:l=G
    ·subst z;rw[M1.gH] at nl;cases nl
    ·rw[B1 _ _ z e] at nl;cases nl
  exact q1 ks x e l _ (B1.trans (SmB.of (af nl _))) nl0 DR (M1.same (af nl _))
 ·rintro cls σ' H' x ⟨rfl,e,rfl,rfl⟩ hx;refine⟨Cb,rfl,E0.kx,E0.sub,?_⟩;refine⟨_,rfl,_,true,false,false,false,false,false,false,false,false,false,false,true,rfl,DR,E0.ex,E0.o0,E0.o1,E0.o2,E0.o3,E0.o4,E0.o5,E0.o6,E0.o7,E0.o8,E0.o9,E0.o10,E0.o11,fun H2 S2=>?_⟩;rw[FD];refine⟨_,rfl,_,rfl,ak (by show 2<=1000000;decide),fun l hl=>?_⟩;have S3:DV H' (upd H2 l (.tup [.non,.str "NoBack+"])):=(af hx _).trans (S2.trans (af hl _));exact q2 e l _ S3 (none_of ((af hx _).trans S2) hl) DR
def pR (C1 C2:Addr):Sp:=fun vs H Q E=>∃v t n,vs=[v]/\T4o H v t/\Bd n t/\n<=1048576 /\
 (∀cs,(∀c∈cs,Eo c)->wt cs=t->cs.length<=400->∀H',DV H H'->Q (.str (txt cs)) H')/\(∀cs,(∀c∈cs,Eo c)->wt cs=t->400<cs.length->∀H',DV H H'->E (.ref C2) none H')/\(¬Plain t->∀H',DV H H'->E (.ref C1) none H')
theorem Ht:DT ["table","word"] ["table"] (ai (top 27)):=⟨rfl,rfl,rfl,by decide +kernel,rfl,by decide +kernel,by decide +kernel⟩
theorem qC{dp dw d:DD}{C1 C2:Addr}{lt:Tok}(m_lw:mg "LONGEST_WORD"=some (.int 400 lt))(vC:Def K mg "is_plain" (top 23) ["table"] dp)(vQ:DY P w K mg base CX0 3 dp.f dp.fd ["table"] Gf)(D_ww:Def K mg "word_within" (top 26) ["table","most"] dw)(G_ww:DY P w K mg base CX0 1 dw.f dw.fd ["table","most"] Ke)(vt:mg "NoPlain"=some (.ref C1))(k_NoPlain:W.excIn K C1 Gs "ValueError.__new__"=true)(vm:mg "TooLong"=some (.ref C2))(k_TooLong:W.excIn K C2 Gs "ValueError.__new__"=true)(D:Def K mg "word_of" (top 27) ["table"] d):DY P w K mg base (CXe P w) 4 d.f d.fd ["table"] (pR C1 C2):=by
 refine D.fn.okE Ht (fun vs H Q E h=>?_) (fun cdv A outer s H vs Q E hr h=>?_)
 ·obtain⟨v,t,n,rfl,_⟩:=h;rfl
 obtain⟨v,t,n,rfl,h4,hb,hn,q1,q2,q3⟩:=h;have hc:=hr.calm;have nd:=Ht.nd;refine⟨_,(@ae _ _ _ _ _ (@bp _ _ _ _ _ _ _ _ (@cg _ _ _ _ (@bL _ _ _ (@bT _ _ _ _ _ _ _ _ _ _ _ _ vC vQ (by decide) hr rfl (pv 0) ax (by decide)) (by intro _;rfl))) (@ah _ _ _ (@dZ _ _ _ _ _ _ _ _ _ _ hc rfl vt k_NoPlain (@aE _ _ _ (@aL _ _ _ _) aM) eE (by decide) (by rfl) (by rfl))) (@DX _)) (@ae _ _ _ _ _ (@aq _ _ (1) _ _ _ _ nd rfl (Or.inl rfl) (@aR _ _ _ _ _ _ _ _ _ _ _ _ _ D_ww G_ww (by decide) hr rfl (@aa _ _ _ _ _ (pv 0) (@aE _ _ _ (@aX _ _ (.int 400) _ _ rfl m_lw ⟨_,rfl⟩ (by decide)) ax) ax) (by decide) (by rfl) (by rfl)) (by rfl) (by walk_at "i")) (@ae _ _ _ _ _ (@bp _ _ _ _ _ _ _ _ (@aB _ _ _ _ _ _ _ _ Hg (pv 1) (@bK _ _ _) (aC _)) (@ah _ _ _ (@dZ _ _ _ _ _ _ _ _ _ _ hc rfl vm k_TooLong (@aE _ _ _ (@aL _ _ _ _) aM) eE (by decide) (by rfl) (by rfl))) (@DX _)) (@ah _ _ _ (@ay _ _ _ _ (pv 1)))))),?_⟩
 try dsimp only [bD,Cx.nox,Cx.En]
 refine⟨_,rfl,v,t,n,rfl,h4,hb,hn,fun H1 S1=>⟨cw t,rfl,?_⟩⟩;cases hp:cw t with
 |false=>exact⟨ak (by show 1<=1000000;decide),q3 (fun z=>by rw[EJ.mpr z] at hp;cases hp) H1 S1⟩
 |true=>
  obtain⟨cs,hlr,ew⟩:=(EJ.mp hp).word;refine⟨_,rfl,v,cs,400,rfl,by decide,hlr,(by rw[ew];exact h4.mono S1),fun hl H2 S2=>?_,fun hl H2 S2=>?_⟩
  ·refine⟨_,rfl,rfl,false,rfl,?_⟩;exact⟨_,rfl,q1 cs hlr ew hl H2 (S1.trans S2)⟩
  ·refine⟨_,rfl,rfl,true,rfl,?_⟩;exact⟨ak (by show 1<=1000000;decide),q2 cs hlr ew hl H2 (S1.trans S2)⟩
def sH (C C1 C2:Addr):Sp:=fun vs H Q E=>∃a dx W G ws hs v t n,vs=[.ref a,v]/\DZ C H a dx W G ws hs/\T4o H v t/\Bd n t/\n<=1048576/\hs.flatten.length<=400/\hs.length<=900 /\
 (∀cs,(∀c∈cs,Eo c)->wt cs=t->hs.flatten.length+cs.length<=400->∀H',SmB G H H'->DZ C H' a dx W G ws (hs++[cs])->Q (.int (((hs.flatten.length+cs.length:Nat)):Int)) H') /\
 (∀cs,(∀c∈cs,Eo c)->wt cs=t->400<hs.flatten.length+cs.length->∀H',DV H H'->E (.ref C2) none H')/\(¬Plain t->∀H',DV H H'->E (.ref C1) none H')
theorem Ju:DT ["self","table","word"] ["self","table"] (ai (bo 1)):=⟨rfl,rfl,rfl,by decide +kernel,rfl,by decide +kernel,by decide +kernel⟩
theorem tQ{C C1 C2:Addr}{dw dx d:DD}{lt:Tok}(m_lw:mg "LONGEST_WORD"=some (.int 400 lt))(MC:Gd K C)(yX:Def K mg "word_of" (top 27) ["table"] dw)(zV:DY P w K mg base (CXe P w) 4 dw.f dw.fd ["table"] (pR C1 C2))(D_tx:EN K C "text" "Mill.text" (bo 3) ["self"] dx)(G_tx:DY P w K mg base CX0 1 dx.f dx.fd ["self"] (ng C))(vm:mg "TooLong"=some (.ref C2))(k_TooLong:PySem.W.excIn K C2 Gs "ValueError.__new__"=true)(D:EN K C "read" "Mill.read" (bo 1) ["self","table"] d)(vf:mg "len"=none):DY P w K mg base (CXe P w) 5 d.f d.fd ["self","table"] (sH C C1 C2):=by
 refine D.fn.okE Ju (fun vs H Q E h=>?_) (fun cdv A outer s H vs Q E hr h=>?_)
 ·obtain⟨a,dx,W,G,ws,hs,v,t,n,rfl,_⟩:=h;rfl
 obtain⟨a,dx,W,G,ws,hs,v,t,n,rfl,M,h4,hb,hn,l400,ln,q1,q2,q3⟩:=h;have hc:=hr.calm;have nd:=Ju.nd;refine⟨_,(@ae _ _ _ _ _ (@aq _ _ (2) _ _ _ _ nd rfl (Or.inl rfl) (@oN _ _ _ _ _ _ _ _ _ _ _ _ _ (zV.mono (by decide)) hr rfl yX.m yX.fn.kp yX.b eE (@aE _ _ _ (pv 1) ax) (by decide) (by rfl) (by rfl)) (by rfl) (by walk_at "i")) (@ae _ _ _ _ _ (@bp _ _ _ _ _ _ _ _ (@aB _ _ _ _ _ _ _ _ GP (@au _ _ _ _ _ _ _ _ Eb (@aI _ _ _ _ _ _ DS rfl vf (@aW _ _ _ _ _ _ _ _ _ _ _ _ _ _ _ _ _ (pv 0) MC.c D_tx.m (G_tx.mono (by decide)) hr D_tx.b .nil bW (by rfl)) cy) (@aI _ _ _ _ _ _ DS rfl vf (pv 2) ax)) (@aX _ _ (.int 400) _ _ rfl m_lw ⟨_,rfl⟩ (by decide)) (aC _)) (@ah _ _ _ (@dZ _ _ _ _ _ _ _ _ _ _ hc rfl vm k_TooLong (@aE _ _ _ (@aL _ _ _ _) aM) eE (by decide) (by rfl) (by rfl))) (@DX _)) (@ae _ _ _ _ _ (@bH _ _ _ _ (@cP _ _ _ _ _ _ _ (@dW _ _ _ _ _ (pv 0) rfl) (pv 2) ax (by rfl) (by rfl) (by rfl)) (by rfl)) (@ah _ _ _ (@ay _ _ _ _ (@aI _ _ _ _ _ _ DS rfl vf (@aW _ _ _ _ _ _ _ _ _ _ _ _ _ _ _ _ _ (pv 0) MC.c D_tx.m (G_tx.mono (by decide)) hr D_tx.b .nil bW (by rfl)) cy)))))),?_⟩
 try dsimp only [bD,Cx.nox,Cx.En]
 refine⟨_,rfl,v,t,n,rfl,h4,hb,hn,fun cs lr ew hl H1 S1=>?_,fun cs lr ew hl H1 S1=>q2 cs lr ew (by omega) H1 S1,q3⟩;refine⟨_,rfl,a,dx,_,rfl,(M.same S1).ia,rfl,a,dx,W,G,ws,hs,rfl,M.same S1,by walk_at "o",by walk_at "o",fun H2 S2=>?_⟩;have M2:=(M.same S1).same S2;refine⟨txt hs.flatten,rfl,ak (by show hs.flatten.length<=1000000;walk_at "o"),_,rfl,txt cs,rfl,ak (by show cs.length<=1000000;walk_at "o"),?_⟩;refine⟨_,_,rfl,rfl,_,_,rfl,rfl,decide ((400:Int)<((hs.flatten.length:Nat):Int)+((cs.length:Nat):Int)),rfl,?_⟩;by_cases hz:400<hs.flatten.length+cs.length
 ·rw[Dj (by omega)];exact⟨ak (by show 1<=1000000;decide),q2 cs lr ew hz H2 (S1.trans S2)⟩
 rw[Dk (by omega)];refine⟨_,rfl,a,C,dx,_,.ref G,rfl,M2.ia,MC.c,MC.h,rfl,.inl ⟨rfl,_,SqL.of M2.gH⟩,_,rfl,G,aj hs,_,rfl,rfl,M2.gH,Ak (show(aj hs).length<1000000 by rw[zY];omega) (ak (zX _)),?_⟩;rw[aY];have M3:DZ C (upd H2 G (.lst (aj (hs++[cs])))) a dx W G ws (hs++[cs]):=M2.put;have S3:SmB G H (upd H2 G (.lst (aj (hs++[cs])))):=(SmB.of (S1.trans S2)).trans fW;generalize upd H2 G (.lst (aj (hs++[cs])))=H3 at M3 S3 ⊢;have ef:=bz hs cs;have el:(hs++[cs]).flatten.length=hs.flatten.length+cs.length:=by rw[ef,zZ]
 refine⟨_,rfl,a,dx,_,rfl,M3.ia,rfl,a,dx,W,G,ws,hs++[cs],rfl,M3,by omega,by rw[zZ];show hs.length+1<=1000;omega,fun H4 S4=>⟨txt (hs++[cs]).flatten,rfl,ak (by show(hs++[cs]).flatten.length<=1000000;omega),?_⟩⟩;rw[show(txt (hs++[cs]).flatten).length=(hs++[cs]).flatten.length from rfl,el];exact q1 cs lr ew (by omega) H4 (S3.trans (SmB.of S4)) (M3.same S4)
def oG (C:Addr):Sp:=fun vs H Q _=>∃a dx W G ws hs v t n,vs=[.ref a,v]/\DZ C H a dx W G ws hs/\T4o H v t/\Bd n t/\n<=1048576/\hs.flatten.length<=400/\hs.length<=900 /\
 (∀cs,(∀c∈cs,Eo c)->wt cs=t->hs.flatten.length+cs.length<=400->∀l H',SmB G H H'->H l=none->H' l=some (.tup [.int (((hs.flatten.length+cs.length:Nat)):Int),.str ""])->DZ C H' a dx W G ws (hs++[cs])->Q (.ref l) H') /\
 (∀cs,(∀c∈cs,Eo c)->wt cs=t->400<hs.flatten.length+cs.length->∀l H',DV H H'->H l=none->H' l=some (.tup [.non,.str "TooLong+"])->Q (.ref l) H') /\
 (¬Plain t->∀l H',DV H H'->H l=none->H' l=some (.tup [.non,.str "NoPlain+"])->Q (.ref l) H')
theorem Jq:DT ["mill","table","found","kind","e"] ["mill","table"] (ai (top 47)):=⟨rfl,rfl,rfl,by decide +kernel,rfl,by decide +kernel,by decide +kernel⟩
theorem ux{C qe C1 C2:Addr}{cl:List Addr}{dr dk d:DD}(MC:Gd K C)(vk:mg "QuadError"=some (.ref qe))(k_QuadError:PySem.W.excIn K qe Gs "ValueError.__new__"=true)(E1:Jf K cl qe C1 4)(E2:Jf K cl qe C2 9)(D_re:EN K C "read" "Mill.read" (bo 1) ["self","table"] dr)(G_re:DY P w K mg base (CXe P w) 5 dr.f dr.fd ["self","table"] (sH C C1 C2))(vo:Def K mg "_law_kind" (top 46) ["e"] dk)(xx:FnX P w K mg base 1 dk.f dk.fd ["e"] (mQ K cl))(D:Def K mg "_law_read_by" (top 47) ["mill","table"] d):DY P w K mg base CX0 6 d.f d.fd ["mill","table"] (oG C):=by
 refine D.fn.ok Jq (fun vs H Q E h=>?_) (fun cdv A outer s H vs Q E hr h=>?_)
 ·obtain⟨a,dx,W,G,ws,hs,v,t,n,rfl,_⟩:=h;rfl
 obtain⟨a,dx,W,G,ws,hs,v,t,n,rfl,M,h4,hb,hn,l400,ln,q1,q2,q3⟩:=h;have hc:=hr.calm;have nd:=Jq.nd;refine⟨_,(@ae _ _ _ _ _ (@aq _ _ (2) _ _ _ _ nd rfl (Or.inl rfl) (@bK _ _ _) (by rfl) (by walk_at "i")) (@ae _ _ _ _ _ (@aq _ _ (3) _ _ _ _ nd rfl (Or.inl rfl) (@aL _ _ _ _) (by rfl) (by walk_at "i")) (@ae _ _ _ _ _ (@pX _ (4) _ _ _ _ _ _ _ _ _ _ _ rfl rfl nd rfl rfl rfl vk k_QuadError (fun _ _=>(@ah _ _ _ (@aq _ _ (2) _ _ _ _ nd rfl (Or.inl rfl) (@oS _ _ _ _ _ _ _ _ _ _ _ _ _ _ _ _ _ (pv 0) MC.c D_re.m (G_re.mono (by decide)) hr D_re.b kT (@aE _ _ _ (pv 1) ax) (by rfl) (by rfl) (by rfl)) (by rfl) (by walk_at "i")))) (fun _=>(@ah _ _ _ (@aq _ _ (3) _ _ _ _ nd rfl (Or.inl rfl) (@jD _ _ _ _ _ _ _ _ _ _ _ _ _ xx (EB.hand (hr.mono (by decide)) _) rfl vo.m vo.fn.kp vo.b (@aE _ _ _ (pv 4) ax) (by decide) (by rfl) (by rfl)) (by rfl) (by walk_at "i")))) (by decide)) (@ah _ _ _ (@ay _ _ _ _ (@aP _ _ _ _ _ (@aa _ _ _ _ _ (pv 2) (@aE _ _ _ (pv 3) ax) ax))))))),?_⟩
 try dsimp only [bD,Cx.nox,Cx.En]
 refine⟨fun cls σ' H'=>((cls=.ref C1/\¬Plain t)\/(cls=.ref C2/\∃cs,(∀c∈cs,Eo c)/\wt cs=t/\400<hs.flatten.length+cs.length))/\σ'=[some (.ref a),some v,some .non,some (.str ""),none]/\DV H H',?_,?_⟩
 ·refine⟨_,rfl,a,dx,_,rfl,M.ia,rfl,_,rfl,a,dx,W,G,ws,hs,v,t,n,rfl,M,h4,hb,hn,l400,ln,fun cs lr ew hl H1 B1 M1=>?_,fun cs lr ew hl H1 S1=>⟨.inr ⟨rfl,cs,lr,ew,hl⟩,rfl,S1⟩,fun hp H1 S1=>⟨.inl ⟨rfl,hp⟩,rfl,S1⟩⟩;refine⟨_,rfl,_,rfl,ak (by show 2<=1000000;decide),fun l nl=>?_⟩;have nl0:H l=none:=by
   cases e:H l with
   |none=>rfl
   |some o=>
    by_cases z:l=G
    ·subst z;rw[M1.gH] at nl;cases nl
    ·rw[B1 _ _ z e] at nl;cases nl
  exact q1 cs lr ew hl l _ (B1.trans (SmB.of (af nl _))) nl0 DR (M1.same (af nl _))
 ·rintro cls σ' H' x ⟨hcls,rfl,S⟩ hx;rcases hcls with ⟨rfl,hp⟩|⟨rfl,cs,lr,ew,hl'⟩
  ·refine⟨C1,rfl,E1.kx,E1.sub,?_⟩;refine⟨_,rfl,_,false,false,false,false,true,false,false,false,false,false,false,true,rfl,DR,E1.ex,E1.o0,E1.o1,E1.o2,E1.o3,E1.o4,E1.o5,E1.o6,E1.o7,E1.o8,E1.o9,E1.o10,E1.o11,fun H2 S2=>?_⟩;rw[Fm];refine⟨_,rfl,_,rfl,ak (by show 2<=1000000;decide),fun l hl=>?_⟩;exact q3 hp l _ (S.trans ((af hx _).trans (S2.trans (af hl _)))) (none_of (S.trans ((af hx _).trans S2)) hl) DR
  ·refine⟨C2,rfl,E2.kx,E2.sub,?_⟩;refine⟨_,rfl,_,false,false,false,false,false,false,false,false,false,true,false,true,rfl,DR,E2.ex,E2.o0,E2.o1,E2.o2,E2.o3,E2.o4,E2.o5,E2.o6,E2.o7,E2.o8,E2.o9,E2.o10,E2.o11,fun H2 S2=>?_⟩;rw[Fo];refine⟨_,rfl,_,rfl,ak (by show 2<=1000000;decide),fun l hl=>?_⟩;exact q2 cs lr ew hl' l _ (S.trans ((af hx _).trans (S2.trans (af hl _)))) (none_of (S.trans ((af hx _).trans S2)) hl) DR
end
section
variable {P:Program}{w:World}{K:PySem.W.Frag}{mg:Str->Option Value}{base:Heap}
open KM
theorem cq{Hb H H':Hp}{g:Addr}(S:DV Hb H)(n:Hb g=none)(B:SmB g H H'):DV Hb H':=fun b o e=>B b o (fun z=>by rw[z,n] at e;cases e) (S b o e)
theorem cc{p:Addr}{H H':Hp}(d:Dr p H H'):SmB p H H':=fun b o n e=>by
 have:=d.same b o (by rw[cF n];exact e)
 rwa [cF n] at this
theorem sI{ws:List (List Nat)}{r:Int}(h0:0<=r)(h1:r<((aj ws).length:Nat)):∃u∈ws,atI (aj ws) r=some (.str (txt u)):=by
 obtain⟨n,rfl⟩:=DO h0;have hn:n<ws.length:=by rw[aK] at h1;omega
 refine⟨ws[n],AI hn,aQ ?_⟩;rw[Aj,Aa hn];rfl
theorem nj(x y:List Nat):txt x++txt y=txt (x++y):=by
 apply cQ;rw[fE];rfl
theorem gz{ps:List (List Nat)}{n:Nat}{u:List Nat}(e:ps[n]?=some u):(ps.take n).flatten.length+u.length<=ps.flatten.length:=by
 have h:=AU (n+1) ps;have:=congrArg (fun l=>(List.flatten l).length) h;rw[bx e] at this;simp only[List.flatten_append,zZ,Ck,List.flatten_nil,AC] at this;omega
theorem jq{C p:Addr}{H:Hp}{a dx W G:Addr}{ws hs:List (List Nat)}(M:DZ C (hid p H) a dx W G ws hs):DZ C H a dx W G ws hs:=M.same (bF _ _)
theorem EH:∀{cs ds:List Nat},(∀c∈cs,Eo c)->(∀c∈ds,Eo c)->wt cs=wt ds->cs=ds
 |[],ds,_,h2,e=>(mJ h2 e.symm).symm
 |c::r,[],h1,_,e=>mJ h1 e
 |c::r,d::u,h1,h2,e=>by
  have hr:∀x∈r,Eo x:=fun x hx=>h1 x (AE _ hx);have hu:∀x∈u,Eo x:=fun x hx=>h2 x (AE _ hx);have e':(bX c).mul (wt r)=(bX d).mul (wt u):=e;have pr:=Eg hr;have pu:=Eg hu;rcases h1 c Aq with rfl|rfl<;>rcases h2 d Aq with rfl|rfl
  ·rw[hW,hW] at e';injection e' with a1 a2 a3 a4;rw[EH hr hu (Tb.ext' a1 a2 (by omega) (by omega))]
  ·have a:=iP pr;have b:=iF pu;rw[e'] at a;exact absurd a b
  ·have a:=iF pr;have b:=iP pu;rw[e'] at a;exact absurd b a
  ·rw[hV,hV] at e';injection e' with a1 a2 a3 a4;rw[EH hr hu (Tb.ext' (by omega) (by omega) a3 a4)]
def Lgt (k:Nat)(H:Hp)(v:V):Prop:=∃t n cs,T4o H v t/\Bd n t/\n<=1048576/\(∀c∈cs,Eo c)/\wt cs=t/\400<k+cs.length
theorem Lgt.mono{k:Nat}{H H':Hp}{v:V}(S:DV H H')(h:Lgt k H v):Lgt k H' v:=by
 obtain⟨t,n,cs,h1,h2⟩:=h;exact⟨t,n,cs,h1.mono S,h2⟩
theorem tf{x y:Int}{B:Nat}(hB:1<=B)(hx:x.natAbs<2^B)(hy:y.natAbs<2^B):Bd B ⟨1,x,y,1⟩:=by
 have:(1:Int).natAbs<2^B:=by
  have:=Nat.pow_le_pow_right (n:=2) (by decide) hB;show 1<_
  walk_at "o"
 exact⟨this,hx,hy,this⟩
theorem tF{k N:Nat}{H:Hp}{v:V}{x:Int}(h:T4o H v ⟨1,x,0,1⟩)(e:x=(N:Int))(hN:400<k+N)(hb:N<2^200):Lgt k H v:=by
 refine⟨_,200,List.replicate N 114,h,tf (by decide) (by omega) (by decide),by decide,fun c hc=>.inr (CN hc),by rw[JO,e],by rw[Bx];exact hN⟩
theorem uy{k N:Nat}{H:Hp}{v:V}{x:Int}(h:T4o H v ⟨1,0,x,1⟩)(e:x=(N:Int))(hN:400<k+N)(hb:N<2^200):Lgt k H v:=by
 refine⟨_,200,List.replicate N 108,h,tf (by decide) (by decide) (by omega),by decide,fun c hc=>.inl (CN hc),by rw[JA,e],by rw[Bx];exact hN⟩
def Bad (H:Hp)(v:V):Prop:=∃t,T4o H v t/\Bd 10 t/\cw t=false
theorem Bad.mono{H H':Hp}{v:V}(S:DV H H')(h:Bad H v):Bad H' v:=by
 obtain⟨t,h1,h2⟩:=h;exact⟨t,h1.mono S,h2⟩
theorem gY{H:Hp}{b:Addr}(a1 a2 a3 a4:Int)(h:a1.natAbs<1024/\a2.natAbs<1024/\a3.natAbs<1024/\a4.natAbs<1024)(e:cw ⟨a1,a2,a3,a4⟩=false):Bad (upd H b (.tup [.int a1,.int a2,.int a3,.int a4])) (.ref b):=⟨⟨a1,a2,a3,a4⟩,⟨b,rfl,DR⟩,⟨h.1,h.2.1,h.2.2.1,h.2.2.2⟩,e⟩
theorem Kf:(10:Int)^(30:Int).toNat=1000000000000000000000000000000:=by decide +kernel
theorem Kk:(10:Int)^(39:Int).toNat=((1000000000000000000000000000000000000000:Nat):Int):=by decide +kernel
theorem Jo:(2:Nat)^200=1606938044258990275541962092341162602522202993782792835301376:=by decide +kernel
theorem vd(d:PyData)(h:d.canLay0=true):V.bl (if false=true then !PyData.eqv d d else PyData.eqv d d)=.bl true:=by
 rw[SeqAt.eqv_refl d h];rfl
def uR (C:Addr):Sp:=fun vs H Q _=>∃p a dx W G ws hs x,vs=[.ref p,.ref a,.str (txt x)]/\Ds H p/\DZ C (hid p H) a dx W G ws hs/\hs.flatten=x/\(∀c∈x,Eo c)/\x.length<=400/\hs.length<=900/\∀H',Dr p H H'->Q (.bl true) H'
theorem JE:DT ["draws","mill","text","room","letter","long","table","bad"] ["draws","mill","text"] (ai (top 57)):=⟨rfl,rfl,rfl,by decide +kernel,rfl,by decide +kernel,by decide +kernel⟩
theorem uv{C:Addr}{d1 d2 d3 d4 d:DD}(MC:Gd K C)(vh:Def K mg "_law_draw" (top 42) ["draws","many"] d1)(vi:DY P w K mg base CX0 1 d1.f d1.fd ["draws","many"] FW)(vp:Def K mg "_law_of_letters" (top 45) ["word"] d2)(vA:DY P w K mg base CX0 3 d2.f d2.fd ["word"] (lM K))(GK:Def K mg "_law_read_by" (top 47) ["mill","table"] d3)(GS:DY P w K mg base CX0 6 d3.f d3.fd ["mill","table"] (oG C))(D_tx:EN K C "text" "Mill.text" (bo 3) ["self"] d4)(G_tx:DY P w K mg base CX0 1 d4.f d4.fd ["self"] (ng C))(D:Def K mg "_law_refusals_right" (top 57) ["draws","mill","text"] d)(vf:mg "len"=none):DY P w K mg base CX0 7 d.f d.fd ["draws","mill","text"] (uR C):=by
 refine D.fn.ok JE (fun vs H Q E h=>?_) (fun cdv A outer s H vs Q E hr h=>?_)
 ·obtain⟨p,a,dx,W,G,ws,hs,x,rfl,_⟩:=h;rfl
 obtain⟨p,a,dx,W,G,ws,hs,x,rfl,ds,M,ef,lr,h400,ln,q⟩:=h;have hc:=hr.calm;have nd:=JE.nd;refine⟨_,(@ae _ _ _ _ _ (@aq _ _ (3) _ _ _ _ nd rfl (Or.inl rfl) (@au _ _ _ _ _ _ _ _ Em (@ag _ _ _ _) (@aI _ _ _ _ _ _ DS rfl vf (pv 2) ax)) (by rfl) (by walk_at "i")) (@ae _ _ _ _ _ (@aq _ _ (4) _ _ _ _ nd rfl (Or.inl rfl) (@eM _ _ _ _ _ _ (@aL _ _ _ _) (@aR _ _ _ _ _ _ _ _ _ _ _ _ _ vh vi (by decide) hr rfl (@aa _ _ _ _ _ (pv 0) (@aE _ _ _ (@ag _ _ _ _) aM) ax) (by decide) (by rfl) (by rfl)) (fun _ _=>rfl)) (by rfl) (by walk_at "i")) (@ae _ _ _ _ _ (@aq _ _ (5) _ _ _ _ nd rfl (Or.inl rfl) (@bb _ _ _ _ (@aa _ _ _ _ _ (@bT _ _ _ _ _ _ _ _ _ _ _ _ vp vA (by decide) hr rfl (@au _ _ _ _ _ _ _ _ EL (pv 4) (@au _ _ _ _ _ _ _ _ Eb (pv 3) (@ag _ _ _ _))) (by rfl) (by decide)) (@aa _ _ _ _ _ (@aP _ _ _ _ _ (@aa _ _ _ _ _ (@ag _ _ _ _) (@aa _ _ _ _ _ (@au _ _ _ _ _ _ _ _ Eb (@au _ _ _ _ _ _ _ _ Eb (pv 3) (@ag _ _ _ _)) (@aR _ _ _ _ _ _ _ _ _ _ _ _ _ vh vi (by decide) hr rfl (@aa _ _ _ _ _ (pv 0) (@aE _ _ _ (@au _ _ _ _ _ _ _ _ Ft (@ag _ _ _ _) (@ag _ _ _ _)) (by rfl)) ax) (by decide) (by rfl) (by rfl))) (@aa _ _ _ _ _ (@ag _ _ _ _) (@aE _ _ _ (@ag _ _ _ _) aM) aM) (by rfl)) aM)) (@aE _ _ _ (@aP _ _ _ _ _ (@aa _ _ _ _ _ (@ag _ _ _ _) (@aa _ _ _ _ _ (@ag _ _ _ _) (@aa _ _ _ _ _ (@au _ _ _ _ _ _ _ _ Ft (@ag _ _ _ _) (@ag _ _ _ _)) (@aE _ _ _ (@ag _ _ _ _) aM) (by rfl)) aM) aM)) (by rfl)) (by rfl)) cy)) (by rfl) (by walk_at "i")) (@ae _ _ _ _ _ (@bR _ _ _ _ _ _ _ _ PassesOwn.never hc (@aV _ _ _ _ (pv 5)) (@ao _ _ (6) _ nd rfl (Or.inl rfl) (by walk_at "i")) (@ah _ _ _ (@bp _ _ _ _ _ _ _ _ (@aB _ _ _ _ _ _ _ _ (cf hr.units) (@aR _ _ _ _ _ _ _ _ _ _ _ _ _ GK GS (by decide) hr rfl (@aa _ _ _ _ _ (pv 1) (@aE _ _ _ (pv 6) ax) ax) (by decide) (by rfl) (by rfl)) (@aP _ _ _ _ _ (@aa _ _ _ _ _ (@bK _ _ _) (@aE _ _ _ (@aL _ _ _ _) aM) aM)) (aC _)) (@ah _ _ _ (@ay _ _ _ _ (@dG _ _ _ _))) (@DX _))) (by intro _;rfl)) (@ae _ _ _ _ _ (@aq _ _ (7) _ _ _ _ nd rfl (Or.inl rfl) (@aO _ _ _ _ _ _ _ DW (@bb _ _ _ _ (@aa _ _ _ _ _ (@aP _ _ _ _ _ (@aa _ _ _ _ _ (@ag _ _ _ _) (@aa _ _ _ _ _ (@ag _ _ _ _) (@aa _ _ _ _ _ (@ag _ _ _ _) (@aE _ _ _ (@ag _ _ _ _) aM) aM) aM) aM)) (@aa _ _ _ _ _ (@aP _ _ _ _ _ (@aa _ _ _ _ _ (@ag _ _ _ _) (@aa _ _ _ _ _ (@dj _ _ _ _ _ _ Ey (@ag _ _ _ _)) (@aa _ _ _ _ _ (@ag _ _ _ _) (@aE _ _ _ (@ag _ _ _ _) aM) aM) (by rfl)) aM)) (@aa _ _ _ _ _ (@aP _ _ _ _ _ (@aa _ _ _ _ _ (@ag _ _ _ _) (@aa _ _ _ _ _ (@ag _ _ _ _) (@aa _ _ _ _ _ (@ag _ _ _ _) (@aE _ _ _ (@ag _ _ _ _) aM) aM) aM) aM)) (@aa _ _ _ _ _ (@aP _ _ _ _ _ (@aa _ _ _ _ _ (@ag _ _ _ _) (@aa _ _ _ _ _ (@ag _ _ _ _) (@aa _ _ _ _ _ (@ag _ _ _ _) (@aE _ _ _ (@ag _ _ _ _) aM) aM) aM) aM)) (@aE _ _ _ (@aP _ _ _ _ _ (@aa _ _ _ _ _ (@dj _ _ _ _ _ _ Ey (@ag _ _ _ _)) (@aa _ _ _ _ _ (@ag _ _ _ _) (@aa _ _ _ _ _ (@ag _ _ _ _) (@aE _ _ _ (@dj _ _ _ _ _ _ Ey (@ag _ _ _ _)) (by rfl)) aM) aM) (by rfl))) (by rfl)) (by rfl)) (by rfl)) (by rfl)) (by rfl))) (@aR _ _ _ _ _ _ _ _ _ _ _ _ _ vh vi (by decide) hr rfl (@aa _ _ _ _ _ (pv 0) (@aE _ _ _ (@ag _ _ _ _) aM) ax) (by decide) (by rfl) (by rfl)) (fun _ _=>rfl)) (by rfl) (by walk_at "i")) (@ah _ _ _ (@ay _ _ _ _ (@dS _ _ _ _ _ _ _ (@bZ _ _ _ _ _ _ _ _ (kD hr.units) (@aR _ _ _ _ _ _ _ _ _ _ _ _ _ GK GS (by decide) hr rfl (@aa _ _ _ _ _ (pv 1) (@aE _ _ _ (pv 7) ax) ax) (by decide) (by rfl) (by rfl)) (@aP _ _ _ _ _ (@aa _ _ _ _ _ (@bK _ _ _) (@aE _ _ _ (@aL _ _ _ _) aM) aM)) (aC _)) (@ff _ _ _ _ _ (@bZ _ _ _ _ _ _ _ _ EM (@aW _ _ _ _ _ _ _ _ _ _ _ _ _ _ _ _ _ (pv 1) MC.c D_tx.m (G_tx.mono (by decide)) hr D_tx.b .nil bW (by rfl)) (pv 2) (aC _))))))))))),?_⟩
 try dsimp only [bD,Cx.nox,Cx.En]
 subst ef;have l400:hs.flatten.length<=400:=h400;have Mh:∀{H'},Dr p H H'->DZ C (hid p H') a dx W G ws hs:=fun d=>M.same d.same;refine⟨_,rfl,txt hs.flatten,rfl,ak (by show hs.flatten.length<=1000000;walk_at "o"),_,_,rfl,rfl,?_⟩;rw[show(txt hs.flatten).length=hs.flatten.length from rfl];refine⟨_,rfl,p,2,rfl,ds,by decide,by decide,fun r H1 r0 r2 d1=>?_⟩;obtain⟨c,ec,hcl⟩:=rG r0 r2;refine⟨"lr",r,c,rfl,rfl,r0,by omega,(by show r<2;exact r2),ec,?_⟩;refine⟨_,rfl,_,rfl,_,_,rfl,rfl,⟨#[c]⟩,_,rfl,rfl,by omega,by omega,(by show 1*_<=_;omega),?_⟩;have m1:=cE ⟨#[c]⟩ ((400:Int)-((hs.flatten.length:Nat):Int)+1);have m2:∀d∈(Txt.mul ⟨#[c]⟩ ((400:Int)-((hs.flatten.length:Nat):Int)+1)).cps.toList,Eo d:=fun d hd=>by
  have:=dC (z:=⟨#[c]⟩) hd;rw[AA.mp this];exact hcl
 have zl:(Txt.mul ⟨#[c]⟩ ((400:Int)-((hs.flatten.length:Nat):Int)+1)).cps.toList.length=401-hs.flatten.length:=by
  have e:(Txt.mul ⟨#[c]⟩ ((400:Int)-((hs.flatten.length:Nat):Int)+1)).cps.toList.length=(Txt.mul ⟨#[c]⟩ ((400:Int)-((hs.flatten.length:Nat):Int)+1)).length:=Ab ..;rw[e,m1];show _*1=_;omega
 generalize Txt.mul ⟨#[c]⟩ ((400:Int)-((hs.flatten.length:Nat):Int)+1)=z at m1 m2 zl ⊢;refine⟨z,rfl,(by have e:z.cps.size=z.cps.toList.length:=(Ab ..).symm;omega),fun c hc=>(m2 c hc).lt,fun v1 H2 S2 h2=>?_⟩;rw[bJ] at h2;refine⟨_,rfl,_,_,rfl,rfl,_,rfl,_,_,rfl,rfl,⟨by decide,by decide,by decide⟩,p,_,rfl,d1.ds.same S2,by decide +kernel,by decide +kernel,fun r3 H3 r30 r31 d3=>?_⟩;refine⟨_,_,rfl,rfl,ak (show 4<=1000000 by decide),fun t2 nt2=>?_⟩;refine⟨_,_,rfl,rfl,⟨by decide,by decide,by decide⟩,ak (show 4<=1000000 by decide),fun t3 nt3=>?_⟩;refine⟨ak (show 3<=1000000 by decide),fun Lg nLg=>?_⟩;rw[Kf] at r31;have t22:=Jo;have S4:=af nt2 (.tup [.int 1,.int ((400:Int)-((hs.flatten.length:Nat):Int)+1+r3),.int 0,.int 1]);have S5:=af nt3 (.tup [.int 1,.int 0,.int ((10:Int)^(39:Int).toNat),.int 1]);have S6:=af nLg (.lst [v1,.ref t2,.ref t3]);have D3:Dr p H H3:=d1.trans ((Dr.of_same d1.ds S2).trans d3);have L1:Lgt hs.flatten.length (upd (upd (upd H3 t2 (.tup [.int 1,.int ((400:Int)-((hs.flatten.length:Nat):Int)+1+r3),.int 0,.int 1])) t3 (.tup [.int 1,.int 0,.int ((10:Int)^(39:Int).toNat),.int 1])) Lg (.lst [v1,.ref t2,.ref t3])) v1:=by
  refine Lgt.mono (S4.trans (S5.trans S6)) ?_;obtain⟨b1,rfl,g1⟩:=h2;have nb:b1≠p:=by
   obtain⟨_,_,_,e,_⟩:=d1.ds.same S2;exact jX g1 e (fun z=>nomatch z)
  exact⟨_,_,z.cps.toList,⟨b1,rfl,cc d3 b1 _ nb g1⟩,jN m2,by omega,m2,rfl,by omega⟩
 have L2:Lgt hs.flatten.length (upd (upd (upd H3 t2 (.tup [.int 1,.int ((400:Int)-((hs.flatten.length:Nat):Int)+1+r3),.int 0,.int 1])) t3 (.tup [.int 1,.int 0,.int ((10:Int)^(39:Int).toNat),.int 1])) Lg (.lst [v1,.ref t2,.ref t3])) (.ref t2):=
  Lgt.mono (S5.trans S6) (tF (N:=((400:Int)-((hs.flatten.length:Nat):Int)+1+r3).toNat) ⟨t2,rfl,DR⟩ (by omega) (by omega) (by rw[t22];omega))
 have L3:Lgt hs.flatten.length (upd (upd (upd H3 t2 (.tup [.int 1,.int ((400:Int)-((hs.flatten.length:Nat):Int)+1+r3),.int 0,.int 1])) t3 (.tup [.int 1,.int 0,.int ((10:Int)^(39:Int).toNat),.int 1])) Lg (.lst [v1,.ref t2,.ref t3])) (.ref t3):=
  Lgt.mono S6 (uy (N:=1000000000000000000000000000000000000000) ⟨t3,rfl,DR⟩ Kk (Ak (by decide) (Nat.le_add_left _ _)) (by rw[t22];decide))
 have gLg:upd (upd (upd H3 t2 (.tup [.int 1,.int ((400:Int)-((hs.flatten.length:Nat):Int)+1+r3),.int 0,.int 1])) t3 (.tup [.int 1,.int 0,.int ((10:Int)^(39:Int).toNat),.int 1])) Lg (.lst [v1,.ref t2,.ref t3]) Lg=some (.lst [v1,.ref t2,.ref t3]):=DR;have D6:=D3.trans (Dr.of_same D3.ds (S4.trans (S5.trans S6)));show tS _ _ _ _ (upd (upd (upd H3 t2 (.tup [.int 1,.int ((400:Int)-((hs.flatten.length:Nat):Int)+1+r3),.int 0,.int 1])) t3 (.tup [.int 1,.int 0,.int ((10:Int)^(39:Int).toNat),.int 1])) Lg (.lst [v1,.ref t2,.ref t3]));generalize upd (upd (upd H3 t2 (.tup [.int 1,.int ((400:Int)-((hs.flatten.length:Nat):Int)+1+r3),.int 0,.int 1])) t3 (.tup [.int 1,.int 0,.int ((10:Int)^(39:Int).toNat),.int 1])) Lg (.lst [v1,.ref t2,.ref t3])=H6 at L1 L2 L3 gLg D6 ⊢;clear S4 S5 S6 D3 d3 d1 S2 h2 m1 m2 zl nt2 nt3 nLg;refine⟨_,rfl,Lg,rfl,⟨_,SqL.of gLg⟩,?_⟩;refine dz (K:=K) (a:=Lg) (xs:=[v1,.ref t2,.ref t3]) (fun n σ H'=>∃e6,σ=[some (.ref p),some (.ref a),some (.str (txt hs.flatten)),some (.int ((400:Int)-((hs.flatten.length:Nat):Int))),some (.str ⟨#[c]⟩),some (.ref Lg),e6,none]/\DV H6 H') ⟨_,rfl,DV.refl _⟩ (fun n σ H' hn z=>?_) (fun n v σ H' hv z=>?_) (fun σ H7 z=>?_)
 ·obtain⟨_,_,S⟩:=z;exact SqL.of (S _ _ gLg)
 ·obtain⟨e6,rfl,S⟩:=z;have hv':Lgt hs.flatten.length H6 v:=by
   have:=Am hv;simp only[Ag,AN,or_false] at this;rcases this with rfl|rfl|rfl
   ·exact L1
   ·exact L2
   ·exact L3
  obtain⟨t,n,cs,h4,hb,hn,clr,ew,hl⟩:=hv'.mono S;refine⟨_,rfl,_,rfl,a,dx,W,G,ws,hs,v,t,n,rfl,(jq (Mh D6)).same S,h4,hb,hn,l400,ln,fun cs' lr' ew' hl'=>?_,fun cs' lr' ew' hl' l H7 S7 nl gl=>?_,fun hp=>absurd (ew▸Eg clr) hp⟩
  ·have:=EH lr' clr (ew'.trans ew.symm);subst this;omega
  refine⟨ak (show 2<=1000000 by decide),fun ld nld=>?_⟩;have S8:=af nld (.tup [.non,.str "TooLong+"]);exact⟨_,_,bg (S8 _ _ gl) .non,bg DR .non,dE rfl ET,dE rfl ET,(by show 1<=60;decide),false,pN _ (dE rfl ET),_,rfl,S.trans (S7.trans S8)⟩
 obtain⟨e6,rfl,S⟩:=z;have D7:=D6.trans (Dr.of_same D6.ds S);clear L1 L2 L3 gLg D6 S;refine⟨ak (show 4<=1000000 by decide),fun b0 n0=>?_⟩;have B0:=gY (H:=H7) (b:=b0) (0) (1) (1) (0) (by decide) (by decide);have Q0:=af n0 (.tup [.int 0,.int 1,.int 1,.int 0]);generalize upd H7 b0 (.tup [.int 0,.int 1,.int 1,.int 0])=K0 at B0 Q0 ⊢;refine⟨1,rfl,ak (show 4<=1000000 by decide),fun b1 n1=>?_⟩;have B1:=gY (H:=K0) (b:=b1) (1) (-1) (0) (1) (by decide) (by decide);have Q1:=af n1 (.tup [.int 1,.int (-1),.int 0,.int 1]);generalize upd K0 b1 (.tup [.int 1,.int (-1),.int 0,.int 1])=K1 at B1 Q1 ⊢;refine⟨ak (show 4<=1000000 by decide),fun b2 n2=>?_⟩;have B2:=gY (H:=K1) (b:=b2) (2) (1) (1) (2) (by decide) (by decide);have Q2:=af n2 (.tup [.int 2,.int 1,.int 1,.int 2]);generalize upd K1 b2 (.tup [.int 2,.int 1,.int 1,.int 2])=K2 at B2 Q2 ⊢;refine⟨ak (show 4<=1000000 by decide),fun b3 n3=>?_⟩;have B3:=gY (H:=K2) (b:=b3) (1) (500) (1) (500) (by decide) (by decide);have Q3:=af n3 (.tup [.int 1,.int 500,.int 1,.int 500]);generalize upd K2 b3 (.tup [.int 1,.int 500,.int 1,.int 500])=K3 at B3 Q3 ⊢;refine⟨1,rfl,1,rfl,ak (show 4<=1000000 by decide),fun b4 n4=>?_⟩;have B4:=gY (H:=K3) (b:=b4) (-1) (0) (0) (-1) (by decide) (by decide);have Q4:=af n4 (.tup [.int (-1),.int 0,.int 0,.int (-1)]);generalize upd K3 b4 (.tup [.int (-1),.int 0,.int 0,.int (-1)])=K4 at B4 Q4 ⊢;refine⟨ak (show 5<=1000000 by decide),fun Lb nLb=>?_⟩;have Q5:=af nLb (.lst [.ref b0,.ref b1,.ref b2,.ref b3,.ref b4]);have gLb:upd K4 Lb (.lst [.ref b0,.ref b1,.ref b2,.ref b3,.ref b4]) Lb=some (.lst [.ref b0,.ref b1,.ref b2,.ref b3,.ref b4]):=DR;have Q4L:=Q4.trans Q5;have Q3L:=Q3.trans Q4L;have Q2L:=Q2.trans Q3L;have Q1L:=Q1.trans Q2L;have D8:=D7.trans (Dr.of_same D7.ds (Q0.trans Q1L));have BB:∀v∈[V.ref b0,.ref b1,.ref b2,.ref b3,.ref b4],Bad (upd K4 Lb (.lst [.ref b0,.ref b1,.ref b2,.ref b3,.ref b4])) v:=fun v hv=>by
  simp only[Ag,AN,or_false] at hv;rcases hv with rfl|rfl|rfl|rfl|rfl
  ·exact B0.mono Q1L
  ·exact B1.mono Q2L
  ·exact B2.mono Q3L
  ·exact B3.mono Q4L
  ·exact B4.mono Q5
 generalize upd K4 Lb (.lst [.ref b0,.ref b1,.ref b2,.ref b3,.ref b4])=H8 at gLb D8 BB ⊢;refine⟨_,rfl,p,5,rfl,D8.ds,by decide,by decide,fun r9 H9 r90 r91 d9=>?_⟩;have nLp:Lb≠p:=by
  obtain⟨_,_,_,e,_⟩:=D7.ds;exact DC (az ((Q0.trans (Q1.trans (Q2.trans (Q3.trans Q4)))) _ _ e) nLb)
 obtain⟨m,rfl⟩:=DO r90;have hm:m<[V.ref b0,.ref b1,.ref b2,.ref b3,.ref b4].length:=by show m<5;omega
 refine⟨Lb,_,((m:Nat):Int),_,rfl,rfl,SqL.of (cc d9 Lb _ nLp gLb),aQ (Aa hm),?_⟩;obtain⟨t,h4,hb,hp⟩:=BB _ (AI hm);generalize [V.ref b0,.ref b1,.ref b2,.ref b3,.ref b4][m]=v at h4 ⊢;have h4':T4o H9 v t:=by
  obtain⟨b,rfl,g⟩:=h4;have nb:b≠p:=by
   obtain⟨_,_,_,e,_⟩:=D8.ds;exact jX g e (fun z=>nomatch z)
  exact⟨b,rfl,cc d9 b _ nb g⟩
 have np:¬Plain t:=fun z=>by rw[EJ.mpr z] at hp;cases hp
 have D9:=D8.trans d9;have M9:=jq (Mh D9);refine⟨_,rfl,_,rfl,a,dx,W,G,ws,hs,v,t,10,rfl,M9,h4',hb,by decide,l400,ln,fun cs lr' ew _=>absurd (ew▸Eg lr') np,fun cs lr' ew _=>absurd (ew▸Eg lr') np,fun _ l H10 S10 nl gl=>?_⟩;refine⟨ak (show 2<=1000000 by decide),fun ld nld=>?_⟩;have S11:=af nld (.tup [.non,.str "NoPlain+"]);refine⟨_,_,bg (S11 _ _ gl) .non,bg DR .non,dE rfl EV,dE rfl EV,(by show 1<=60;decide),?_⟩;rw[vd _ (dE rfl EV)];have M11:=(M9.same S10).same S11;refine⟨true,rfl,_,rfl,a,dx,_,rfl,M11.ia,rfl,a,dx,W,G,ws,hs,rfl,M11,l400,by walk_at "o",fun H12 S12=>⟨_,rfl,rfl,?_⟩⟩;rw[Dj rfl];exact q H12 (D9.trans (Dr.of_same D9.ds (S10.trans (S11.trans S12))))
end
section
variable {P:Program}{w:World}{K:PySem.W.Frag}{mg:Str->Option Value}{base:Heap}
open KM
def uT (C:Addr):Sp:=fun vs H Q _=>∃a dx W G ws l x,vs=[.ref a,.ref l,.str (txt x)]/\DZ C H a dx W G ws []/\H l=some (.lst (aj ws))/\l≠G/\Wds ws/\(∀c∈x,Eo c)/\x.length<=400/\∀H',Q (.bl true) H'
theorem JR:DT ["mill","words","text","read","k","many","piece"] ["mill","words","text"] (ai (top 58)):=⟨rfl,rfl,rfl,by decide +kernel,rfl,by decide +kernel,by decide +kernel⟩
theorem ua{C:Addr}{d1 d2 d3 d4 d5 d:DD}(MC:Gd K C)(vp:Def K mg "_law_of_letters" (top 45) ["word"] d1)(vA:DY P w K mg base CX0 3 d1.f d1.fd ["word"] (lM K))(GK:Def K mg "_law_read_by" (top 47) ["mill","table"] d2)(GS:DY P w K mg base CX0 6 d2.f d2.fd ["mill","table"] (oG C))(xO:Def K mg "_law_taken_back" (top 53) ["mill"] d3)(xQ:DY P w K mg base CX0 4 d3.f d3.fd ["mill"] (qY C))(xP:Def K mg "_law_mill_right" (top 52) ["mill","words","text"] d4)(yh:DY P w K mg base CX0 8 d4.f d4.fd ["mill","words","text"] (qG C))(D_tx:EN K C "text" "Mill.text" (bo 3) ["self"] d5)(G_tx:DY P w K mg base CX0 1 d5.f d5.fd ["self"] (ng C))(D:Def K mg "_law_by_letters" (top 58) ["mill","words","text"] d)(vf:mg "len"=none)(vg:mg "range"=none):DY P w K mg base CX0 9 d.f d.fd ["mill","words","text"] (uT C):=by
 refine D.fn.ok JR (fun vs H Q E h=>?_) (fun cdv A outer s H vs Q E hr h=>?_)
 ·obtain⟨a,dx,W,G,ws,l,x,rfl,_⟩:=h;rfl
 obtain⟨a,dx,W,G,ws,l,x,rfl,M,gl,lG,hw,lr,h400,q⟩:=h;have hc:=hr.calm;have nd:=JR.nd;refine⟨_,(@ae _ _ _ _ _ (@aq _ _ (3) _ _ _ _ nd rfl (Or.inl rfl) (@bb _ _ _ _ (@Ed _)) (by rfl) (by walk_at "i")) (@ae _ _ _ _ _ (@bR _ _ _ _ _ _ _ _ PassesOwn.never hc (@bU _ _ _ _ _ _ rfl vg (@aE _ _ _ (@aI _ _ _ _ _ _ DS rfl vf (pv 2) ax) cy) (by rfl)) (@ao _ _ (4) _ nd rfl (Or.inl rfl) (by walk_at "i")) (@ae _ _ _ _ _ (@eS _ _ _ (@bp _ _ _ _ _ _ _ _ (@aB _ _ _ _ _ _ _ _ EM (@au _ _ _ _ _ _ _ _ EA (pv 4) (@ag _ _ _ _)) (@ag _ _ _ _) (aC _)) (@ah _ _ _ (@bH _ _ _ _ (@cP _ _ _ _ _ _ _ (pv 3) (@aL _ _ _ _) aM (by rfl) (by rfl) (by rfl)) (by rfl))) (@DX _))) (@ah _ _ _ (@bH _ _ _ _ (@cP _ _ _ _ _ _ _ (pv 3) (@aO _ _ _ _ _ _ _ IB (pv 2) (pv 4) (fun _ _=>rfl)) (by rfl) (by rfl) (by rfl) (by rfl)) (by rfl)))) (by intro _;rfl)) (@ae _ _ _ _ _ (@aq _ _ (5) _ _ _ _ nd rfl (Or.inl rfl) (@ag _ _ _ _) (by rfl) (by walk_at "i")) (@ae _ _ _ _ _ (@bR _ _ _ _ _ _ _ _ PassesOwn.never hc (@aV _ _ _ _ (pv 3)) (@ao _ _ (6) _ nd rfl (Or.inl rfl) (by walk_at "i")) (@ae _ _ _ _ _ (@aq _ _ (5) _ _ _ _ nd rfl (Or.inl rfl) (@au _ _ _ _ _ _ _ _ Eb (pv 5) (@aI _ _ _ _ _ _ DS rfl vf (pv 6) ax)) (by rfl) (by walk_at "i")) (@ah _ _ _ (@bp _ _ _ _ _ _ _ _ (@aB _ _ _ _ _ _ _ _ (cf hr.units) (@aR _ _ _ _ _ _ _ _ _ _ _ _ _ GK GS (by decide) hr rfl (@aa _ _ _ _ _ (pv 0) (@aE _ _ _ (@bT _ _ _ _ _ _ _ _ _ _ _ _ vp vA (by decide) hr rfl (pv 6) ax (by decide)) cy) ax) (by decide) (by rfl) (by rfl)) (@aP _ _ _ _ _ (@aa _ _ _ _ _ (pv 5) (@aE _ _ _ (@aL _ _ _ _) aM) ax)) (aC _)) (@ah _ _ _ (@ay _ _ _ _ (@dG _ _ _ _))) (@DX _)))) (by intro _;rfl)) (@ae _ _ _ _ _ (@bp _ _ _ _ _ _ _ _ (@cg _ _ _ _ (@bL _ _ _ (@aR _ _ _ _ _ _ _ _ _ _ _ _ _ xP yh (by decide) hr rfl (@aa _ _ _ _ _ (pv 0) (@aa _ _ _ _ _ (pv 1) (@aE _ _ _ (pv 2) ax) ax) ax) (by decide) (by rfl) (by rfl)) (by intro _;rfl))) (@ah _ _ _ (@ay _ _ _ _ (@dG _ _ _ _))) (@DX _)) (@ae _ _ _ _ _ (@bR _ _ _ _ _ _ _ _ PassesOwn.never hc (@aV _ _ _ _ (@ju _ _ _ _ _ _ _ _ Hf (pv 3) (@dj _ _ _ _ _ _ Ey (@ag _ _ _ _)))) (@ao _ _ (6) _ nd rfl (Or.inl rfl) (by walk_at "i")) (@ae _ _ _ _ _ (@aq _ _ (5) _ _ _ _ nd rfl (Or.inl rfl) (@au _ _ _ _ _ _ _ _ Em (pv 5) (@aI _ _ _ _ _ _ DS rfl vf (pv 6) ax)) (by rfl) (by walk_at "i")) (@ah _ _ _ (@bp _ _ _ _ _ _ _ _ (@aB _ _ _ _ _ _ _ _ (cf hr.units) (@bT _ _ _ _ _ _ _ _ _ _ _ _ xO xQ (by decide) hr rfl (pv 0) ax (by decide)) (@aP _ _ _ _ _ (@aa _ _ _ _ _ (pv 5) (@aE _ _ _ (@aL _ _ _ _) aM) ax)) (aC _)) (@ah _ _ _ (@ay _ _ _ _ (@dG _ _ _ _))) (@DX _)))) (by intro _;rfl)) (@ah _ _ _ (@ay _ _ _ _ (@dS _ _ _ _ _ _ _ (@bZ _ _ _ _ _ _ _ _ (kD hr.units) (@bT _ _ _ _ _ _ _ _ _ _ _ _ xO xQ (by decide) hr rfl (pv 0) ax (by decide)) (@aP _ _ _ _ _ (@aa _ _ _ _ _ (@bK _ _ _) (@aE _ _ _ (@aL _ _ _ _) aM) aM)) (aC _)) (@ff _ _ _ _ _ (@bZ _ _ _ _ _ _ _ _ EM (@aW _ _ _ _ _ _ _ _ _ _ _ _ _ _ _ _ _ (pv 0) MC.c D_tx.m (G_tx.mono (by decide)) hr D_tx.b .nil bW (by rfl)) (@aL _ _ _ _) (aC _)))))))))))),?_⟩
 try dsimp only [bD,Cx.nox,Cx.En]
 have lx:(txt x).length=x.length:=rfl;refine⟨Ah _,fun Rd nRd=>?_⟩;have S0:=af nRd (.lst []);have g0:upd H Rd (.lst []) Rd=some (.lst (aj [])):=DR;generalize upd H Rd (.lst [])=H0 at S0 g0 ⊢;refine⟨_,rfl,txt x,rfl,ak (by show x.length<=1000000;walk_at "o"),((x.length:Nat):Int),rfl,by omega,by omega,?_⟩;rw[show(((x.length:Nat):Int)).toNat=x.length by walk_at "o"];refine dv (lo:=0) (n:=x.length) (fun k σ H'=>∃ps e4,σ=[some (.ref a),some (.ref l),some (.str (txt x)),some (.ref Rd),e4,none,none]/\DV H H'/\H' Rd=some (.lst (aj ps))/\ps.flatten=x.take k/\ps.length<=2*k) ⟨[],none,rfl,S0,g0,rfl,zX _⟩ (fun k σ H' hk z=>?_) (fun σ H1 z=>?_)
 ·obtain⟨ps,e4,rfl,S,gR,ef,lp⟩:=z;refine⟨fun σ H'=>∃ps,σ=[some (.ref a),some (.ref l),some (.str (txt x)),some (.ref Rd),some (.int (0+(k:Int))),none,none]/\DV H H'/\H' Rd=some (.lst (aj ps))/\ps.flatten=x.take k/\ps.length<=2*k+1,?_,fun σ H2 z=>?_⟩
  ·refine⟨_,rfl,_,_,rfl,rfl,(show(0:Int)<9 by decide),rfl,_,rfl,?_⟩;cases hb:decide (V.int ((0+(k:Int)) % 9)=V.int 0) with
   |true=>
    refine⟨_,rfl,.inl ⟨rfl,_,SqL.of gR⟩,Rd,_,_,rfl,rfl,gR,Ak (show(aj ps).length<1000000 by rw[aK];omega) (ak (zX _)),?_⟩;refine⟨ps++[[]],rfl,cq S nRd fW,?_,by rw[bz,ef,AC],by rw[zZ];show ps.length+1<=_;omega⟩;rw[DR];exact congrArg (fun z=>some (HO.lst z)) (aY ps [])
   |false=>exact⟨ps,rfl,S,gR,ef,by omega⟩
  obtain⟨ps,rfl,S,gR,ef,lp⟩:=z;have ek:x[k]?=some x[k]:=Aa hk;have kk:atI (txt x).cps.toList (0+(k:Int))=some x[k]:=by
   rw[Int.zero_add];exact aQ ek
  refine⟨_,rfl,.inl ⟨rfl,_,SqL.of gR⟩,_,rfl,_,rfl,txt x,_,x[k],rfl,rfl,ak (by show x.length<=1000000;walk_at "o"),kk,Rd,_,_,rfl,rfl,gR,Ak (show(aj ps).length<1000000 by rw[aK];omega) (ak (zX _)),?_⟩;refine⟨ps++[[x[k]]],_,rfl,cq S nRd fW,?_,by rw[bz,ef,bx ek],by rw[zZ];show ps.length+1<=_;omega⟩;rw[DR];exact congrArg (fun z=>some (HO.lst z)) (aY ps [x[k]])
 obtain⟨ps,e4,rfl,S1,gR,ef,lp⟩:=z;rw[AL] at ef;have nRG:Rd≠G:=DC (az M.gH nRd);have M1:=M.same S1;have gl1:=S1 _ _ gl;clear S1 S0 g0 M gl nRd;have el:=aK ps;have plr:∀u∈ps,∀c∈u,Eo c:=fun u hu c hc=>lr c (by rw[<- ef];exact List.mem_flatten.mpr ⟨u,hu,hc⟩);have f400:ps.flatten.length<=400:=by rw[ef];exact h400
 refine⟨_,rfl,Rd,rfl,⟨_,SqL.of gR⟩,?_⟩;refine dz (K:=K) (a:=Rd) (xs:=aj ps) (fun n σ H'=>∃e6,σ=[some (.ref a),some (.ref l),some (.str (txt x)),some (.ref Rd),e4,some (.int (((ps.take n).flatten.length:Nat):Int)),e6]/\SmB G H1 H'/\DZ C H' a dx W G ws (ps.take n)) ⟨_,rfl,SmB.of (DV.refl _),M1⟩ (fun n σ H' hn z=>?_) (fun n v σ H' hv z=>?_) (fun σ H2 z=>?_)
 ·obtain⟨_,_,B,_⟩:=z;exact SqL.of (B _ _ nRG gR)
 ·obtain⟨e6,rfl,B,Mn⟩:=z;obtain⟨u,eu,rfl⟩:=bY hv;have ft:=gz eu;have um:=plr u (Am eu);have hn:(ps.take n).length<=900:=by rw[Af];omega
  refine⟨_,rfl,_,rfl,txt u,rfl,ak (by show u.length<=1000000;omega),_,_,rfl,rfl,?_⟩;rw[show(txt u).length=u.length from rfl];refine⟨_,rfl,_,rfl,txt u,rfl,(by show u.length<=1000;omega),fun c hc=>(um c hc).lt,fun r7 H7 S7 h7=>?_⟩;rw[bJ] at h7;refine⟨a,dx,W,G,ws,ps.take n,r7,_,_,rfl,Mn.same S7,h7,jN um,(by show 2*u.length+1<=_;omega),by omega,hn,fun cs lr' ew hl lt H8 B8 nlt glt M8=>?_,fun cs lr' ew hl=>?_,fun hp=>absurd (Eg um) hp⟩
  ·obtain rfl:=EH lr' um ew;refine⟨_,rfl,ak (show 2<=1000000 by decide),fun ld nld=>?_⟩;have S9:=af nld (.tup [.int ((((ps.take n).flatten.length:Nat):Int)+((cs.length:Nat):Int)),.str ""]);have gD:upd H8 ld (.tup [.int ((((ps.take n).flatten.length:Nat):Int)+((cs.length:Nat):Int)),.str ""]) ld=some (.tup [.int ((((ps.take n).flatten.length+cs.length:Nat)):Int),.str ""]):=DR;refine⟨_,_,bg (S9 _ _ glt) (.int _),bg gD (.int _),dE rfl FK,dE rfl FK,(by show 1<=60;decide),false,pN _ (dE rfl FK),?_⟩;refine⟨some (.str (txt cs)),?_,B.trans ((SmB.of S7).trans (B8.trans (SmB.of S9))),?_⟩
   ·rw[bx eu,bz,zZ];rfl
   ·rw[bx eu];exact M8.same S9
  ·obtain rfl:=EH lr' um ew;omega
 obtain⟨e6,rfl,B2,M2⟩:=z;rw[el,AL] at *;have gR2:=B2 _ _ nRG gR;have gl2:=B2 _ _ lG gl1;refine⟨_,rfl,_,rfl,_,rfl,a,dx,W,G,ws,ps,l,x,rfl,M2,ef,gl2,hw,lr,h400,by omega,fun H3 S3=>⟨true,rfl,?_⟩⟩;have M3:=M2.same S3;have gR3:=S3 _ _ gR2;clear B2 M2 gR2 gl2 gR gl1 M1 S3;refine⟨_,rfl,1,rfl,rfl,Rd,_,rfl,SqL.of gR3,fun Rv nRv=>⟨Rv,rfl,⟨_,SqL.of DR⟩,?_⟩⟩;have er:(aj ps).reverse=aj ps.reverse:=(List.map_reverse ..).symm;rw[er] at *;have S4:=af nRv (.lst (aj ps.reverse));have gV:upd H3 Rv (.lst (aj ps.reverse)) Rv=some (.lst (aj ps.reverse)):=DR;have nVG:Rv≠G:=DC (az M3.gH nRv);have M4:=M3.same S4;generalize upd H3 Rv (.lst (aj ps.reverse))=H4 at S4 gV M4 ⊢;refine dz (K:=K) (a:=Rv) (xs:=aj ps.reverse) (fun n σ H'=>∃e6,σ=[some (.ref a),some (.ref l),some (.str (txt x)),some (.ref Rd),e4,some (.int (((ps.take (ps.length-n)).flatten.length:Nat):Int)),e6]/\SmB G H4 H'/\DZ C H' a dx W G ws (ps.take (ps.length-n))) ⟨e6,by rw[Cp,AL],SmB.of (DV.refl _),by rw[Cp,AL];exact M4⟩ (fun n σ H' hn z=>?_) (fun n v σ H' hv z=>?_) (fun σ H5 z=>?_)
 ·obtain⟨_,_,B,_⟩:=z;exact SqL.of (B _ _ nVG gV)
 ·obtain⟨e6,rfl,B,Mn⟩:=z;obtain⟨u,eu,rfl⟩:=bY hv;have hn:n<ps.length:=by
   have:=(Ad.mp eu).1
   rwa [AJ] at this
  have eu':ps[ps.length-(n+1)]?=some u:=by
   rw[CG hn] at eu;rw[<- eu]
   congr 1
   omega
  have et:ps.take (ps.length-n)=ps.take (ps.length-(n+1))++[u]:=by
   rw[<- bx eu']
   congr 1
   omega
  have ft:=gz eu';have hl:(ps.take (ps.length-n)).length<=900:=by rw[Af];omega
  have hf:(ps.take (ps.length-n)).flatten.length=(ps.take (ps.length-(n+1))).flatten.length+u.length:=by rw[et,bz,zZ]
  refine⟨_,rfl,_,rfl,txt u,rfl,ak (by show u.length<=1000000;omega),_,_,rfl,rfl,?_⟩;rw[show(txt u).length=u.length from rfl];refine⟨_,rfl,a,dx,W,G,ws,_,rfl,Mn,by omega,hl,fun ks y e lt H7 B7 nlt glt M7=>?_,fun e=>?_⟩
  ·rw[et] at e;obtain⟨rfl,_⟩:=List.append_inj' e rfl;refine⟨_,rfl,ak (show 2<=1000000 by decide),fun ld nld=>?_⟩;have ev:(((ps.take (ps.length-n)).flatten.length:Nat):Int)-((u.length:Nat):Int)=(((ps.take (ps.length-(n+1))).flatten.length:Nat):Int):=by omega
   show tH _ _ _ _ (upd H7 ld (.tup [.int ((((ps.take (ps.length-n)).flatten.length:Nat):Int)-((u.length:Nat):Int)),.str ""])) _;rw[ev];have S9:=af nld (.tup [.int (((ps.take (ps.length-(n+1))).flatten.length:Nat):Int),.str ""]);refine⟨_,_,bg (S9 _ _ glt) (.int _),bg DR (.int _),dE rfl FK,dE rfl FK,(by show 1<=60;decide),false,pN _ (dE rfl FK),?_⟩;refine⟨some (.str (txt u)),?_,B.trans (B7.trans (SmB.of S9)),M7.same S9⟩;rw[<- ev];rfl
  ·rw[et] at e;exact absurd e (by simp)
 obtain⟨e6,rfl,B5,M5⟩:=z;rw[aK,AJ,Cd] at M5;have M5:DZ C H5 a dx W G ws []:=M5;refine⟨_,rfl,a,dx,W,G,ws,[],rfl,M5,by decide,by decide,fun ks y e=>absurd e (by simp),fun _ lt H6 S6 nlt glt=>?_⟩;refine⟨ak (show 2<=1000000 by decide),fun ld nld=>?_⟩;have S7:=af nld (.tup [.non,.str "NoBack+"]);refine⟨_,_,bg (S7 _ _ glt) .non,bg DR .non,dE rfl Fj,dE rfl Fj,(by show 1<=60;decide),?_⟩;rw[vd _ (dE rfl Fj)];have M7:=(M5.same S6).same S7;refine⟨true,rfl,_,rfl,a,dx,_,rfl,M7.ia,rfl,a,dx,W,G,ws,[],rfl,M7,by decide,by decide,fun H8 S8=>⟨rfl,?_⟩⟩;show Q (V.bl (decide (V.str (txt [])=V.str ""))) H8;rw[show(V.str (txt []):V)=V.str "" from rfl,Dj rfl];exact q H8
end
section
variable {P:Program}{w:World}{K:PySem.W.Frag}{mg:Str->Option Value}{base:Heap}
open KM
structure Kb(C:Addr)(Hb:Hp)(xm dx Wm G:Addr)(ws:List (List Nat)):Prop where
 ia:Hb xm=some (.ins C dx [("words",.ref Wm),("held",.ref G)])
 gW:Hb Wm=some (.lst (aj ws))
 nG:Hb G=none
structure Fq(Hb:Hp)(G:Addr)(hs:List (List Nat))(H:Hp):Prop where
 sm:DV Hb H
 gG:H G=some (.lst (aj hs))
section
variable {C:Addr}{Hb:Hp}{xm dx Wm G:Addr}{ws hs:List (List Nat)}{H H':Hp}
theorem Fq.same(s:Fq Hb G hs H)(S:DV H H'):Fq Hb G hs H':=⟨s.sm.trans S,S _ _ s.gG⟩
theorem Fq.smb{g:Addr}(s:Fq Hb G hs H)(n1:Hb g=none)(n3:g≠G)(B:SmB g H H'):Fq Hb G hs H':=⟨cq s.sm n1 B,B _ _ (DC n3) s.gG⟩
theorem Fq.fresh{g:Addr}(s:Fq Hb G hs H)(n:H g=none):Hb g=none/\g≠G:=⟨none_of s.sm n,fun z=>by rw[z,s.gG] at n;cases n⟩
theorem Fq.Jh(F:Kb C Hb xm dx Wm G ws)(s:Fq Hb G hs H):DZ C H xm dx Wm G ws hs:=
 ⟨s.sm _ _ F.ia,s.sm _ _ F.gW,s.gG,fun z=>by have:=F.gW;rw[z,F.nG] at this;cases this⟩
theorem Fq.read(F:Kb C Hb xm dx Wm G ws)(s:Fq Hb G hs H){ks:List (List Nat)}(B:SmB G H H')(g:H' G=some (.lst (aj ks))):Fq Hb G ks H':=
 ⟨cq s.sm F.nG B,g⟩
theorem Fq.JH(F:Kb C Hb xm dx Wm G ws)(s:Fq Hb G hs H){p:Addr}(n1:Hb p=none)(n3:p≠G):DZ C (hid p H) xm dx Wm G ws hs:=by
 have ne:∀{b o},Hb b=some o->b≠p:=fun e z=>by rw[z,n1] at e;cases e
 exact⟨by rw[cF (ne F.ia)];exact s.sm _ _ F.ia,by rw[cF (ne F.gW)];exact s.sm _ _ F.gW,by rw[cF (DC n3)];exact s.gG,(s.Jh F).ne⟩
end
theorem qd{C:Addr}{H6:Hp}{xm dx Wm G:Addr}{ws:List (List Nat)}(M:DZ C H6 xm dx Wm G ws []) :
  ∃Hb,Kb C Hb xm dx Wm G ws/\Fq Hb G [] H6/\∀X,DV X H6->X G=none->DV X Hb:=by
 refine⟨hid G H6,⟨?_,?_,?_⟩,⟨bF _ _,M.gH⟩,fun X S h2=>?_⟩
 ·rw[cF (jX M.ia M.gH (fun z=>nomatch z))];exact M.ia
 ·rw[cF M.ne];exact M.gW
 ·unfold hid;rw[Di rfl]
 ·exact fun b o e=>by rw[cF (fun z=>by rw[z,h2] at e;cases e)];exact S b o e
structure Tx(k:Nat)(hs:List (List Nat)):Prop where
 ln:hs.length<=k
 l4:hs.flatten.length<=400
 lr:∀c∈hs.flatten,Eo c
theorem Tx.up{k:Nat}{hs:List (List Nat)}(t:Tx k hs):Tx (k+1) hs:=⟨by have:=t.ln;omega,t.l4,t.lr⟩
theorem Tx.snoc{k:Nat}{hs:List (List Nat)}(t:Tx k hs){u:List Nat}(h:hs.flatten.length+u.length<=400)(lr:∀c∈u,Eo c):Tx (k+1) (hs++[u]):=by
 have ef:=bz hs u;exact⟨by rw[zZ];exact DI t.ln,by rw[ef,zZ];exact h,fun c hc=>by rw[ef] at hc;exact(Ai.mp hc).elim (t.lr c) (lr c)⟩
theorem kU{C:Addr}{H:Hp}{x dx:Addr}(n1:H x=none)(n2:H dx=none)(ne:dx≠x):DV H (upd (upd H dx (.own x)) x (.ins C dx []))/\upd (upd H dx (.own x)) x (.ins C dx []) x=some (.ins C dx []):=by
 have n1':upd H dx (.own x) x=none:=by rw[av (DC ne)];exact n1
 exact⟨(af n2 (.own x)).trans (af n1' (.ins C dx [])),DR⟩
theorem rN{w0:List (List Nat)}(hw0:Wds w0){n:Nat}(h:1<=n):Wds (w0.map fun u=>u.take n):=by
 refine⟨by rw[zY];exact hw0.n1,by rw[zY];exact hw0.n8,fun cs hcs c hc'=>?_,fun cs hcs=>?_,fun cs hcs=>?_⟩<;>obtain⟨u,hu,rfl⟩:=Ax.mp hcs
 ·exact hw0.lr u hu c (Bj hc')
 ·have:=hw0.l1 u hu;rw[Af];omega
 ·have:=hw0.l40 u hu;rw[Af];omega
theorem qg{ws:List (List Nat)}(h:∀w∈ws,∀c∈w,c=114)(n1:1<=ws.length)(n8:ws.length<=8)(l1:∀w∈ws,1<=w.length)(l4:∀w∈ws,w.length<=40):Wds ws:=⟨n1,n8,fun w hw c hc=>.inr (h w hw c hc),l1,l4⟩
theorem iU{r:Int}(h0:0<=r)(h3:r<3):∃ws,rA [V.str "r",V.str "r",V.str "rr",V.str "r"] none (some (2+r))=aj ws/\Wds ws:=by
 rcases (by omega:r=0\/r=1\/r=2) with rfl|rfl|rfl
 ·exact⟨[[114],[114]],by decide +kernel,qg (by decide) (by decide) (by decide) (by decide) (by decide)⟩
 ·exact⟨[[114],[114],[114,114]],by decide +kernel,qg (by decide) (by decide) (by decide) (by decide) (by decide)⟩
 ·exact⟨[[114],[114],[114,114],[114]],by decide +kernel,qg (by decide) (by decide) (by decide) (by decide) (by decide)⟩
theorem sh{z:Str}{n:Nat}(h:∀c∈z.cps.toList,Eo c):∃cs,Txt.slice z none (some (n:Int))=txt cs/\(∀c∈cs,Eo c)/\cs.length<=n:=by
 refine⟨z.cps.toList.take n,?_,fun c hc=>h c (Bj hc),by rw[Af];omega⟩;rw[<- bO,<- jw z]
theorem lB{p g:Addr}{H H':Hp}(d:Ds H p)(n:p≠g)(B:SmB g H H'):Ds H' p:=by
 obtain⟨a,b,c,e,r⟩:=d;exact⟨a,b,c,B _ _ n e,r⟩
structure KI where
 draws:DD
 draw:DD
 IJ:DD
 lmk:DD
 ofl:DD
 rb:DD
 tbk:DD
 rr:DD
 bl:DD
 mri:DD
 in':DD
structure All(C:Addr)(P:Program)(w:World)(K:W.Frag)(mg:Str->Option Value)(base:Heap)(d:KI):Prop where
 vN:Def K mg "_law_draws" (top 54) ["script","k"] d.draws
 vh:Def K mg "_law_draw" (top 42) ["draws","many"] d.draw
 vB:Def K mg "_law_piece" (top 55) ["draws","most"] d.IJ
 yI:Def K mg "_law_makers" (top 56) ["draws"] d.lmk
 vp:Def K mg "_law_of_letters" (top 45) ["word"] d.ofl
 GK:Def K mg "_law_read_by" (top 47) ["mill","table"] d.rb
 xO:Def K mg "_law_taken_back" (top 53) ["mill"] d.tbk
 JC:Def K mg "_law_refusals_right" (top 57) ["draws","mill","text"] d.rr
 Kc:Def K mg "_law_by_letters" (top 58) ["mill","words","text"] d.bl
 xP:Def K mg "_law_mill_right" (top 52) ["mill","words","text"] d.mri
 IW:EN K C "__init__" "Mill.__init__" (bo 0) ["self","makers"] d.in'
 wW:DY P w K mg base CX0 1 d.draws.f d.draws.fd ["script","k"] (mE K)
 vi:DY P w K mg base CX0 1 d.draw.f d.draw.fd ["draws","many"] FW
 vP:DY P w K mg base CX0 2 d.IJ.f d.IJ.fd ["draws","most"] Gk
 zb:DY P w K mg base CX0 3 d.lmk.f d.lmk.fd ["draws"] Jr
 vA:DY P w K mg base CX0 3 d.ofl.f d.ofl.fd ["word"] (lM K)
 GS:DY P w K mg base CX0 6 d.rb.f d.rb.fd ["mill","table"] (oG C)
 xQ:DY P w K mg base CX0 4 d.tbk.f d.tbk.fd ["mill"] (qY C)
 Ka:DY P w K mg base CX0 7 d.rr.f d.rr.fd ["draws","mill","text"] (uR C)
 Ko:DY P w K mg base CX0 9 d.bl.f d.bl.fd ["mill","words","text"] (uT C)
 yh:DY P w K mg base CX0 8 d.mri.f d.mri.fd ["mill","words","text"] (qG C)
 JZ:DY P w K mg base CX0 6 d.in'.f d.in'.fd ["self","makers"] (vb C)
 MC:Gd K C
 MK:L2.Mk K C d.in'.f
 ye:mg "Mill"=some (.ref C)
 vg:mg "range"=none
 vf:mg "len"=none
theorem Ij:DT ["script","first","words","alike","mill","text","k","draws","piece"] ["script"] (ai (top 59)):=⟨rfl,rfl,rfl,by decide +kernel,rfl,by decide +kernel,by decide +kernel⟩
def oB (K:W.Frag):Sp:=fun vs H Q _=>∃(a:Addr)(ns:List Int),vs=[.ref a]/\SqL K H a (ns.map V.int)/\ns.length<=63/\∀H',Q (.bl true) H'
theorem sd{C:Addr}{d:DD}{D:KI}(A:All C P w K mg base D)(DL:Def K mg "law" (top 59) ["script"] d):DY P w K mg base CX0 10 d.f d.fd ["script"] (oB K):=by
 refine DL.fn.ok Ij (fun vs H Q E h=>?_) (fun cdv Ar outer s H vs Q E hr h=>?_)
 ·obtain⟨a,ns,rfl,_⟩:=h;rfl
 obtain⟨a,ns,rfl,hS,h63,q⟩:=h;have hc:=hr.calm;have nd:=Ij.nd;refine⟨_,(@ae _ _ _ _ _ (@aq _ _ (1) _ _ _ _ nd rfl (Or.inl rfl) (@aR _ _ _ _ _ _ _ _ _ _ _ _ _ A.vN A.wW (by decide) hr rfl (@aa _ _ _ _ _ (pv 0) (@aE _ _ _ (@ag _ _ _ _) aM) ax) (by decide) (by rfl) (by rfl)) (by rfl) (by walk_at "i")) (@ae _ _ _ _ _ (@cC _ _ _ _ _ _ _ _ _ _ _ _ _ _ (2) _ _ _ hc (ar (ts:=["word"]) (cap:=[]) (js:=[]) rfl rfl rfl rfl rfl rfl (by decide +kernel)) (@aV _ _ _ _ (@bT _ _ _ _ _ _ _ _ _ _ _ _ A.yI A.zb (by decide) hr rfl (pv 1) ax (by decide))) (fun _ _ _ _=>@ao _ _ (0) _ (show(["word"]:List Str).Nodup by decide +kernel) rfl (Or.inl rfl) (.inr rfl)) (fun _ _ _ _=>@bq _) (fun _ _ _ _=>(@aZ _ _ _ _ _ _ _ _ _ _ Es (pv 0) (@Ei _) (@br _ _ _ (@ag _ _ _ _)))) nd rfl (Or.inl rfl) rfl (by intro _;rfl) (by walk_at "i")) (@ae _ _ _ _ _ (@aq _ _ (3) _ _ _ _ nd rfl (Or.inl rfl) (@bZ _ _ _ _ _ _ _ _ EM (@aR _ _ _ _ _ _ _ _ _ _ _ _ _ A.vh A.vi (by decide) hr rfl (@aa _ _ _ _ _ (pv 1) (@aE _ _ _ (@ag _ _ _ _) aM) ax) (by decide) (by rfl) (by rfl)) (@ag _ _ _ _) (aC _)) (by rfl) (by walk_at "i")) (@ae _ _ _ _ _ (@eS _ _ _ (@bp _ _ _ _ _ _ _ _ (@bL _ _ _ (pv 3) (by intro _;rfl)) (@ah _ _ _ (@aq _ _ (2) _ _ _ _ nd rfl (Or.inl rfl) (@aZ _ _ _ _ _ _ _ _ _ _ Je (@bb _ _ _ _ (@iE _ _ (["r","r","rr","r"]) rfl)) (@Ei _) (@br _ _ _ (@au _ _ _ _ _ _ _ _ Eb (@ag _ _ _ _) (@aR _ _ _ _ _ _ _ _ _ _ _ _ _ A.vh A.vi (by decide) hr rfl (@aa _ _ _ _ _ (pv 1) (@aE _ _ _ (@ag _ _ _ _) aM) ax) (by decide) (by rfl) (by rfl))))) (by rfl) (by walk_at "i"))) (@DX _))) (@ae _ _ _ _ _ (@aq _ _ (4) _ _ _ _ nd rfl (Or.inl rfl) (@kJ _ _ _ _ _ _ _ _ _ _ _ _ _ _ _ _ _ A.MK (A.JZ.mono (by decide)) hr rfl A.ye A.IW.b .nil bW (@aE _ _ _ (@bB _ _ _ _ _ _ _ _ _ _ _ _ _ _ hc (ar (ts:=["word"]) (cap:=[]) (js:=[]) rfl rfl rfl rfl rfl rfl (by decide +kernel)) (@aV _ _ _ _ (pv 2)) (fun _ _ _ _=>@ao _ _ (0) _ (show(["word"]:List Str).Nodup by decide +kernel) rfl (Or.inl rfl) (.inr rfl)) (fun _ _ _ _=>@bq _) (fun _ _ _ _=>(@bT _ _ _ _ _ _ _ _ _ _ _ _ A.vp A.vA (by decide) hr rfl (pv 0) ax (by decide))) (by intro _;rfl)) (by rfl)) (by decide) (by rfl) (by rfl)) (by rfl) (by walk_at "i")) (@ae _ _ _ _ _ (@aq _ _ (5) _ _ _ _ nd rfl (Or.inl rfl) (@aL _ _ _ _) (by rfl) (by walk_at "i")) (@ae _ _ _ _ _ (@bR _ _ _ _ _ _ _ _ PassesOwn.never hc (@bU _ _ _ _ _ _ rfl A.vg (@aE _ _ _ (@ag _ _ _ _) aM) (by rfl)) (@ao _ _ (6) _ nd rfl (Or.inl rfl) (by walk_at "i")) (@ae _ _ _ _ _ (@aq _ _ (7) _ _ _ _ nd rfl (Or.inl rfl) (@aR _ _ _ _ _ _ _ _ _ _ _ _ _ A.vN A.wW (by decide) hr rfl (@aa _ _ _ _ _ (pv 0) (@aE _ _ _ (@au _ _ _ _ _ _ _ _ Eb (@ag _ _ _ _) (pv 6)) (by rfl)) ax) (by decide) (by rfl) (by rfl)) (by rfl) (by walk_at "i")) (@ae _ _ _ _ _ (@aq _ _ (8) _ _ _ _ nd rfl (Or.inl rfl) (@aZ _ _ _ _ _ _ _ _ _ _ Es (@au _ _ _ _ _ _ _ _ EL (@aO _ _ _ _ _ _ _ DW (pv 2) (@aR _ _ _ _ _ _ _ _ _ _ _ _ _ A.vh A.vi (by decide) hr rfl (@aa _ _ _ _ _ (pv 7) (@aE _ _ _ (@aI _ _ _ _ _ _ Ea rfl A.vf (pv 2) ax) cy) ax) (by decide) (by rfl) (by rfl)) (fun _ _=>rfl)) (@ag _ _ _ _)) (@Ei _) (@br _ _ _ (@au _ _ _ _ _ _ _ _ Eb (@ag _ _ _ _) (@aR _ _ _ _ _ _ _ _ _ _ _ _ _ A.vh A.vi (by decide) hr rfl (@aa _ _ _ _ _ (pv 7) (@aE _ _ _ (@ag _ _ _ _) aM) ax) (by decide) (by rfl) (by rfl))))) (by rfl) (by walk_at "i")) (@ae _ _ _ _ _ (@eS _ _ _ (@bp _ _ _ _ _ _ _ _ (@PW.pt _ _ _ (@fq _ _ _ _ _ _ _ (@aB _ _ _ _ _ _ _ _ EM (@aR _ _ _ _ _ _ _ _ _ _ _ _ _ A.vh A.vi (by decide) hr rfl (@aa _ _ _ _ _ (pv 7) (@aE _ _ _ (@ag _ _ _ _) aM) ax) (by decide) (by rfl) (by rfl)) (@ag _ _ _ _) (aC _)) (@dM _ _ _ _ (@cg _ _ _ _ (@bL _ _ _ (pv 3) (by intro _;rfl)))))) (@ah _ _ _ (@aq _ _ (8) _ _ _ _ nd rfl (Or.inl rfl) (@aR _ _ _ _ _ _ _ _ _ _ _ _ _ A.vB A.vP (by decide) hr rfl (@aa _ _ _ _ _ (pv 7) (@aE _ _ _ (@ag _ _ _ _) aM) ax) (by decide) (by rfl) (by rfl)) (by rfl) (by walk_at "i"))) (@DX _))) (@ae _ _ _ _ _ (@aq _ _ (8) _ _ _ _ nd rfl (Or.inl rfl) (@aZ _ _ _ _ _ _ _ _ _ _ Es (pv 8) (@Ei _) (@br _ _ _ (@au _ _ _ _ _ _ _ _ Em (@ag _ _ _ _) (@aI _ _ _ _ _ _ DS rfl A.vf (pv 5) ax)))) (by rfl) (by walk_at "i")) (@ae _ _ _ _ _ (@eS _ _ _ (@bp _ _ _ _ _ _ _ _ (@aB _ _ _ _ _ _ _ _ HL (pv 8) (@aL _ _ _ _) (aC _)) (@ae _ _ _ _ _ (@aq _ _ (5) _ _ _ _ nd rfl (Or.inl rfl) (@au _ _ _ _ _ _ _ _ Ez (pv 5) (pv 8)) (by rfl) (by walk_at "i")) (@ae _ _ _ _ _ (@bp _ _ _ _ _ _ _ _ (@aB _ _ _ _ _ _ _ _ (cf hr.units) (@aR _ _ _ _ _ _ _ _ _ _ _ _ _ A.GK A.GS (by decide) hr rfl (@aa _ _ _ _ _ (pv 4) (@aE _ _ _ (@bT _ _ _ _ _ _ _ _ _ _ _ _ A.vp A.vA (by decide) hr rfl (pv 8) ax (by decide)) cy) ax) (by decide) (by rfl) (by rfl)) (@aP _ _ _ _ _ (@aa _ _ _ _ _ (@aI _ _ _ _ _ _ DS rfl A.vf (pv 5) ax) (@aE _ _ _ (@aL _ _ _ _) aM) cy)) (aC _)) (@ah _ _ _ (@ay _ _ _ _ (@dG _ _ _ _))) (@DX _)) (@ah _ _ _ (@eS _ _ _ (@bp _ _ _ _ _ _ _ _ (@aB _ _ _ _ _ _ _ _ EM (@aR _ _ _ _ _ _ _ _ _ _ _ _ _ A.vh A.vi (by decide) hr rfl (@aa _ _ _ _ _ (pv 7) (@aE _ _ _ (@ag _ _ _ _) aM) ax) (by decide) (by rfl) (by rfl)) (@ag _ _ _ _) (aC _)) (@ae _ _ _ _ _ (@bp _ _ _ _ _ _ _ _ (@aB _ _ _ _ _ _ _ _ (cf hr.units) (@bT _ _ _ _ _ _ _ _ _ _ _ _ A.xO A.xQ (by decide) hr rfl (pv 4) ax (by decide)) (@aP _ _ _ _ _ (@aa _ _ _ _ _ (@au _ _ _ _ _ _ _ _ Em (@aI _ _ _ _ _ _ DS rfl A.vf (pv 5) ax) (@aI _ _ _ _ _ _ DS rfl A.vf (pv 8) ax)) (@aE _ _ _ (@aL _ _ _ _) aM) (by rfl))) (aC _)) (@ah _ _ _ (@ay _ _ _ _ (@dG _ _ _ _))) (@DX _)) (@ah _ _ _ (@bp _ _ _ _ _ _ _ _ (@aB _ _ _ _ _ _ _ _ (cf hr.units) (@aR _ _ _ _ _ _ _ _ _ _ _ _ _ A.GK A.GS (by decide) hr rfl (@aa _ _ _ _ _ (pv 4) (@aE _ _ _ (@bT _ _ _ _ _ _ _ _ _ _ _ _ A.vp A.vA (by decide) hr rfl (pv 8) ax (by decide)) cy) ax) (by decide) (by rfl) (by rfl)) (@aP _ _ _ _ _ (@aa _ _ _ _ _ (@aI _ _ _ _ _ _ DS rfl A.vf (pv 5) ax) (@aE _ _ _ (@aL _ _ _ _) aM) cy)) (aC _)) (@ah _ _ _ (@ay _ _ _ _ (@dG _ _ _ _))) (@DX _)))) (@DX _)))))) (@DX _))) (@ah _ _ _ (@bp _ _ _ _ _ _ _ _ (@PW.pt _ _ _ (@fq _ _ _ _ _ _ _ (@aB _ _ _ _ _ _ _ _ EM (@au _ _ _ _ _ _ _ _ EA (pv 6) (@ag _ _ _ _)) (@ag _ _ _ _) (aC _)) (@dM _ _ _ _ (@cg _ _ _ _ (@bL _ _ _ (@aR _ _ _ _ _ _ _ _ _ _ _ _ _ A.JC A.Ka (by decide) hr rfl (@aa _ _ _ _ _ (pv 7) (@aa _ _ _ _ _ (pv 4) (@aE _ _ _ (pv 5) ax) ax) ax) (by decide) (by rfl) (by rfl)) (by intro _;rfl)))))) (@ah _ _ _ (@ay _ _ _ _ (@dG _ _ _ _))) (@DX _)))))))) (by intro _;rfl)) (@ae _ _ _ _ _ (@bp _ _ _ _ _ _ _ _ (@aB _ _ _ _ _ _ _ _ (cf hr.units) (@aR _ _ _ _ _ _ _ _ _ _ _ _ _ A.GK A.GS (by decide) hr rfl (@aa _ _ _ _ _ (pv 4) (@aE _ _ _ (@bT _ _ _ _ _ _ _ _ _ _ _ _ A.vp A.vA (by decide) hr rfl (@au _ _ _ _ _ _ _ _ EL (@aL _ _ _ _) (@au _ _ _ _ _ _ _ _ Em (@ag _ _ _ _) (@aI _ _ _ _ _ _ DS rfl A.vf (pv 5) ax))) (by rfl) (by decide)) cy) ax) (by decide) (by rfl) (by rfl)) (@aP _ _ _ _ _ (@aa _ _ _ _ _ (@ag _ _ _ _) (@aE _ _ _ (@aL _ _ _ _) aM) aM)) (aC _)) (@ah _ _ _ (@ay _ _ _ _ (@dG _ _ _ _))) (@DX _)) (@ae _ _ _ _ _ (@aq _ _ (5) _ _ _ _ nd rfl (Or.inl rfl) (@au _ _ _ _ _ _ _ _ Ez (pv 5) (@au _ _ _ _ _ _ _ _ EL (@aL _ _ _ _) (@au _ _ _ _ _ _ _ _ Em (@ag _ _ _ _) (@aI _ _ _ _ _ _ DS rfl A.vf (pv 5) ax)))) (by rfl) (by walk_at "i")) (@ae _ _ _ _ _ (@bp _ _ _ _ _ _ _ _ (@PW.pt _ _ _ (@ik _ _ _ _ _ _ _ (@cg _ _ _ _ (@bL _ _ _ (@aR _ _ _ _ _ _ _ _ _ _ _ _ _ A.JC A.Ka (by decide) hr rfl (@aa _ _ _ _ _ (@aR _ _ _ _ _ _ _ _ _ _ _ _ _ A.vN A.wW (by decide) hr rfl (@aa _ _ _ _ _ (pv 0) (@aE _ _ _ (@ag _ _ _ _) aM) ax) (by decide) (by rfl) (by rfl)) (@aa _ _ _ _ _ (pv 4) (@aE _ _ _ (pv 5) ax) ax) cy) (by decide) (by rfl) (by rfl)) (by intro _;rfl))) (@eZ _ _ _ _ (@cg _ _ _ _ (@bL _ _ _ (@aR _ _ _ _ _ _ _ _ _ _ _ _ _ A.xP A.yh (by decide) hr rfl (@aa _ _ _ _ _ (pv 4) (@aa _ _ _ _ _ (pv 2) (@aE _ _ _ (pv 5) ax) ax) ax) (by decide) (by rfl) (by rfl)) (by intro _;rfl)))))) (@ah _ _ _ (@ay _ _ _ _ (@dG _ _ _ _))) (@DX _)) (@ah _ _ _ (@ay _ _ _ _ (@aR _ _ _ _ _ _ _ _ _ _ _ _ _ A.Kc A.Ko (by decide) hr rfl (@aa _ _ _ _ _ (@kJ _ _ _ _ _ _ _ _ _ _ _ _ _ _ _ _ _ A.MK (A.JZ.mono (by decide)) hr rfl A.ye A.IW.b .nil bW (@aE _ _ _ (@bB _ _ _ _ _ _ _ _ _ _ _ _ _ _ hc (ar (ts:=["word"]) (cap:=[]) (js:=[]) rfl rfl rfl rfl rfl rfl (by decide +kernel)) (@aV _ _ _ _ (pv 2)) (fun _ _ _ _=>@ao _ _ (0) _ (show(["word"]:List Str).Nodup by decide +kernel) rfl (Or.inl rfl) (.inr rfl)) (fun _ _ _ _=>@bq _) (fun _ _ _ _=>(@bT _ _ _ _ _ _ _ _ _ _ _ _ A.vp A.vA (by decide) hr rfl (pv 0) ax (by decide))) (by intro _;rfl)) (by rfl)) (by decide) (by rfl) (by rfl)) (@aa _ _ _ _ _ (pv 2) (@aE _ _ _ (pv 5) ax) ax) cy) (by decide) (by rfl) (by rfl)))))))))))))),?_⟩
 try dsimp only [bD,Cx.nox,Cx.En]
 refine⟨_,rfl,a,ns,0,rfl,hS,by decide,by decide,fun l H1 S1 nl ds=>?_⟩;refine⟨_,rfl,l,rfl,ds,fun W0 w0 H2 d2 nW0 gW0 hw0=>⟨W0,rfl,⟨_,SqL.of (bF l _ _ _ gW0)⟩,?_⟩⟩;have h08:=hw0.n8;have el0:=aK w0;refine cM (K:=K) (a:=W0) (xs:=aj w0) (fun k ys H'=>H'=H2/\ys=aj ((w0.take k).map fun u=>u.take 20)) ⟨rfl,rfl⟩ (fun k ys H' hk z=>by rw[z.2,aK,zY,Af];omega) (ak (by omega)) (fun k ys H' hk z=>by rw[z.1];exact SqL.of (bF l _ _ _ gW0)) (fun k v ys H' hv z=>?_) (fun ys H3 z W nW=>?_)
 ·obtain⟨rfl,rfl⟩:=z;have hk:k<(aj w0).length:=(Ad.mp hv).1;obtain⟨u,eu,rfl⟩:=bY hv;have lu:=hw0.l40 _ (Am eu);refine⟨_,rfl,_,rfl,txt u,rfl,ak (by show u.length<=1000000;walk_at "o"),?_⟩;rw[show Txt.slice (txt u) none (some 20)=txt (u.take 20) from bO u 20];refine Nx.mk hk ⟨rfl,?_⟩;rw[aY,bx eu,Au];rfl
 obtain⟨rfl,rfl⟩:=z;rw[el0,AL];have D4:=d2.trans (Dr.new d2.ds nW (.lst (aj (w0.map fun u=>u.take 20))));have gW4:=fV d2.ds nW (.lst (aj (w0.map fun u=>u.take 20)));have hw:=rN hw0 (n:=20) (by decide);generalize (w0.map fun u=>u.take 20)=ws at D4 gW4 hw ⊢;generalize upd H3 W (.lst (aj ws))=H4 at D4 gW4 ⊢;clear d2 nW0 gW0 hw0 h08 el0 nW;refine⟨_,rfl,l,3,rfl,D4.ds,by decide,by decide,fun r H5 r0 r3 d5=>⟨rfl,?_⟩⟩;have D5:=D4.trans d5;have gW5:=d5.same _ _ gW4;generalize decide (V.int r=V.int 0)=al;refine⟨fun σ H'=>∃W ws,σ=[some (.ref a),some (.ref l),some (.ref W),some (.bl al),none,none,none,none,none]/\DV H H'/\H' W=some (.lst (aj ws))/\Wds ws,?_,fun σ H6 z=>?_⟩
 ·refine⟨_,rfl,al,rfl,?_⟩;cases al with
  |false=>exact⟨W,ws,rfl,cq S1 nl (cc D5),bF l _ _ _ gW5,hw⟩
  |true=>
   refine⟨ak (show 4<=1000000 by decide),fun e1 ne1=>?_⟩;have S6:=af ne1 (.lst [.str "r",.str "r",.str "rr",.str "r"]);refine⟨_,rfl,l,3,rfl,D5.ds.same S6,by decide,by decide,fun r5 H7 r50 r53 d7=>?_⟩;refine⟨_,_,rfl,rfl,_,rfl,e1,_,rfl,SqL.of (cc d7 e1 _ (DC (D5.ds.ne ne1)) DR),fun W2 nW2=>?_⟩;obtain⟨w2,e2,hw2⟩:=iU r50 r53;exact⟨W2,w2,rfl,(cq S1 nl (cc (D5.trans ((Dr.of_same D5.ds S6).trans d7)))).trans (af nW2 _),DR.trans (congrArg (fun z=>some (HO.lst z)) e2),hw2⟩
 clear D4 D5 d5 gW4 gW5 hw r0 r3 ds nl S1;clear H1;obtain⟨W,ws,rfl,S6,gW,hw⟩:=z;have aS6:=S6.seq hS;clear S6 hS;have el:=aK ws;have w8:=hw.n8;refine⟨_,rfl,W,rfl,⟨_,SqL.of gW⟩,?_⟩;refine cM (K:=K) (a:=W) (xs:=aj ws) (fun k ys H'=>DV H6 H'/\ys.length<=k/\Mks H' ys (ws.take k)) ⟨DV.refl _,zX _,.nil⟩ (fun k ys H' hk z=>z.2.1) (ak (by omega)) (fun k ys H' hk z=>SqL.of (z.1 _ _ gW)) (fun k v ys H' hv z=>?_) (fun ys H' z M hM=>?_)
 ·obtain⟨z1,z2,z3⟩:=z;have hk:k<(aj ws).length:=(Ad.mp hv).1;obtain⟨u,eu,rfl⟩:=bY hv;have hm:=Am eu;have h40:=hw.l40 _ hm;refine⟨_,rfl,txt u,rfl,(by show u.length<=1000;walk_at "o"),fun c hc=>(hw.lr _ hm c hc).lt,fun r H2 S2 h2=>Nx.mk hk ⟨z1.trans S2,by rw[zZ];exact DI z2,?_⟩⟩;rw[bx eu];refine Paired.snoc (Paired.GO z3 fun v s g=>g.mono S2) ?_;rw[<- bJ u];exact h2
 obtain⟨z1,z2,z3⟩:=z;rw[el,AL] at z3;have S7:DV H6 (upd H' M (.lst ys)):=z1.trans (af hM _);have gM:upd H' M (.lst ys) M=some (.lst ys):=DR;have mM:Mks (upd H' M (.lst ys)) ys ws:=Paired.GO z3 fun v s g=>g.mono (af hM (.lst ys));generalize upd H' M (.lst ys)=H7 at S7 gM mM ⊢;clear z1 z2 z3 hM;intro xm dx n1 n2 ne;obtain⟨Sm,ia⟩:=kU (C:=C) n1 n2 ne;generalize upd (upd H7 dx (.own xm)) xm (.ins C dx [])=Hm at Sm ia ⊢;refine⟨xm,dx,M,ys,ws,rfl,ia,Sm _ _ gM,Paired.GO mM fun v s g=>g.mono Sm,hw,fun Wm G H9 B9 nG M9=>⟨rfl,?_⟩⟩;have S9:DV H7 H9:=cq Sm n1 B9;have nG7:H7 G=none:=none_of Sm nG;obtain⟨Hb,F,st,hk⟩:=qd M9;have Sb:DV H6 Hb:=hk _ (S7.trans S9) (none_of S7 nG7);have aS:=Sb.seq aS6;have gWb:=Sb _ _ gW;have nWG:W≠G:=fun z=>by rw[z,F.nG] at gWb;cases gWb
 clear hk Sb S9 nG7 M9 B9 nG Sm ia n1 n2 ne mM gM S7 gW aS6;refine⟨40,rfl,by decide,by decide,?_⟩;refine dv (lo:=0) (n:=40) (fun k σ H'=>∃hs e6 e7 e8,σ=[some (.ref a),some (.ref l),some (.ref W),some (.bl al),some (.ref xm),some (.str (txt hs.flatten)),e6,e7,e8]/\Fq Hb G hs H'/\Tx k hs) ⟨[],none,none,none,rfl,st,zX _,Ah _,fun c h=>absurd h (by simp)⟩ (fun k σ H' hk z=>?_) (fun σ H' z=>?_)
 ·obtain⟨hs,e6,e7,e8,rfl,st,tx⟩:=z;refine⟨_,rfl,_,rfl,_,_,rfl,rfl,a,ns,_,rfl,st.sm.seq aS,by omega,by omega,fun l1 H1 S1 nl1 ds=>?_⟩;obtain⟨f1,f2⟩:=st.fresh nl1;have st1:=st.same S1;have t4:=tx.l4;have tn:=tx.ln;refine⟨_,rfl,_,rfl,_,rfl,W,_,rfl,.inl (SqL.of (st1.sm _ _ gWb)),l1,_,rfl,ds,by rw[el];have:=hw.n1;omega,by rw[el];omega,fun r H2 r0 r1 d2=>?_⟩;have st2:=st1.smb f1 f2 (cc d2);obtain⟨u,hu,eu⟩:=sI r0 r1;have u40:=hw.l40 _ hu;have ulr:=hw.lr _ hu;refine⟨W,_,r,_,rfl,rfl,SqL.of (st2.sm _ _ gWb),eu,txt u,9,rfl,rfl,by decide,by decide,(by show u.length*9<=_;omega),?_⟩;refine⟨_,rfl,l1,60,rfl,d2.ds,by decide,by decide,fun r3 H3 r30 r31 d3=>?_⟩;have zm:∀c∈(Txt.mul (txt u) 9).cps.toList,Eo c:=fun c hc=>ulr c (dC (z:=txt u) hc);have zl:(Txt.mul (txt u) 9).length=9*u.length:=cE (txt u) 9;refine⟨_,_,rfl,rfl,_,rfl,Txt.mul (txt u) 9,rfl,ak (by rw[zl];omega),?_⟩;obtain⟨n3,rfl⟩:=DO r30;show gr 8 (V.str (Txt.slice (Txt.mul (txt u) 9) none (some ((1:Int)+(n3:Int))))) _ _ _;rw[show((1:Int)+(n3:Int))=((1+n3:Nat):Int) by omega];obtain⟨z0,ez0,z0lr,z0l⟩:=sh (n:=1+n3) zm;rw[ez0];have st3:=st2.smb f1 f2 (cc d3);have z0k:z0.length<=1000:=by omega
  clear st1 st2 d2 ds S1 zm zl ez0 z0l u40 ulr hu eu;refine⟨fun σ H'=>∃zs,σ=[some (.ref a),some (.ref l),some (.ref W),some (.bl al),some (.ref xm),some (.str (txt hs.flatten)),some (.int (0+(k:Int))),some (.ref l1),some (.str (txt zs))]/\(∀c∈zs,Eo c)/\zs.length<=1000/\Fq Hb G hs H'/\Ds H' l1,?_,fun σ H4 z=>?_⟩
  ·refine⟨_,rfl,l1,3,rfl,d3.ds,by decide,by decide,fun r4 H4 r40 r41 d4=>⟨rfl,_,rfl,?_⟩⟩;have st4:=st3.smb f1 f2 (cc d4);cases hb:decide (V.int r4=V.int 0) with
   |false=>exact⟨z0,rfl,z0lr,z0k,st4,d4.ds⟩
   |true=>
    refine⟨_,rfl,al,rfl,?_⟩;cases al with
    |true=>exact⟨z0,rfl,z0lr,z0k,st4,d4.ds⟩
    |false=>
     refine⟨_,rfl,l1,30,rfl,by decide,by decide,d4.ds,fun z H5 d5 zlr z1 z30=>?_⟩;have zl:z.cps.toList.length=z.length:=Ab ..;exact⟨z.cps.toList,by rw[<- jw z];rfl,zlr,by omega,st4.smb f1 f2 (cc d5),d5.ds⟩
  obtain⟨zs,rfl,zlr,zk,st4,ds4⟩:=z;clear st3 d3 z0lr z0k;refine⟨_,rfl,_,rfl,txt hs.flatten,rfl,ak (by show hs.flatten.length<=1000000;walk_at "o"),_,_,rfl,rfl,_,rfl,txt zs,rfl,ak (by show zs.length<=1000000;walk_at "o"),?_⟩;show gr 8 (V.str (Txt.slice (txt zs) none (some ((400:Int)-((hs.flatten.length:Nat):Int))))) _ _ _;rw[show((400:Int)-((hs.flatten.length:Nat):Int))=((400-hs.flatten.length:Nat):Int) by omega,bO];have clr:∀c∈zs.take (400-hs.flatten.length),Eo c:=fun c hc=>zlr c (Bj hc);have cl:(zs.take (400-hs.flatten.length)).length<=400-hs.flatten.length:=by rw[Af];omega
  generalize zs.take (400-hs.flatten.length)=cs at clr cl ⊢;refine⟨fun σ H'=>∃hs e8,σ=[some (.ref a),some (.ref l),some (.ref W),some (.bl al),some (.ref xm),some (.str (txt hs.flatten)),some (.int (0+(k:Int))),some (.ref l1),e8]/\Fq Hb G hs H'/\Tx (k+1) hs/\Ds H' l1,?_,fun σ H5 z=>?_⟩
  ·refine⟨_,rfl,rfl,_,rfl,?_⟩;cases hb:!decide (V.str (txt cs)=V.str "") with
   |false=>exact⟨hs,_,rfl,st4,tx.up,ds4⟩
   |true=>
    refine⟨_,rfl,_,rfl,_,_,rfl,rfl,ak (by show hs.flatten.length+cs.length<=1000000;omega),?_⟩;rw[nj];have lf:(hs.flatten++cs).length=hs.flatten.length+cs.length:=zZ ..;refine⟨_,rfl,_,rfl,txt cs,rfl,(by show cs.length<=1000;omega),fun c hc=>(clr c hc).lt,fun r6 H6 S6 h6=>?_⟩;rw[bJ] at h6;refine⟨xm,dx,Wm,G,ws,hs,r6,_,_,rfl,(st4.same S6).Jh F,h6,jN clr,(by show 2*cs.length+1<=_;omega),t4,by omega,fun cs' lr' ew hl lt6 K6 B6 nlt6 glt6 M6=>?_,fun cs' lr' ew hl=>?_,fun hp=>absurd (Eg clr) hp⟩
    rotate_left
    ·obtain rfl:cs=cs':=(EH lr' clr ew).symm;omega
    obtain rfl:cs=cs':=(EH lr' clr ew).symm;have sr6:=(st4.same S6).read F B6 M6.gH;refine⟨_,rfl,txt (hs.flatten++cs),rfl,ak (by show(hs.flatten++cs).length<=1000000;omega),ak (show 2<=1000000 by decide),fun ld6 nld6=>?_⟩;have T6:=af nld6 (.tup [.int (((txt (hs.flatten++cs)).length:Nat):Int),.str ""]);have gD6:upd K6 ld6 (.tup [.int (((txt (hs.flatten++cs)).length:Nat):Int),.str ""]) ld6=some (.tup [.int (((hs.flatten.length+cs.length:Nat)):Int),.str ""]):=by
     rw[DR];show some (HO.tup [.int (((hs.flatten++cs).length:Nat):Int),.str ""])=_;rw[lf]
    refine⟨_,_,bg (T6 _ _ glt6) (.int _),bg gD6 (.int _),dE rfl FK,dE rfl FK,(by show 1<=60;decide),false,pN _ (dE rfl FK),?_⟩;have sq6:=sr6.same T6;have dq6:=(lB (ds4.same S6) f2 B6).same T6;generalize upd K6 ld6 (.tup [.int (((txt (hs.flatten++cs)).length:Nat):Int),.str ""])=J6 at sq6 dq6 ⊢;clear T6 gD6 sr6 M6 B6 h6 S6 nld6 glt6 nlt6;refine⟨fun σ H'=>σ=[some (.ref a),some (.ref l),some (.ref W),some (.bl al),some (.ref xm),some (.str (txt (hs.flatten++cs))),some (.int (0+(k:Int))),some (.ref l1),some (.str (txt cs))]/\Fq Hb G (hs++[cs]) H'/\Ds H' l1,?_,fun σ H7 z=>?_⟩
    ·refine⟨_,rfl,l1,3,rfl,dq6,by decide,by decide,fun r7 H7 r70 r71 d7=>⟨rfl,_,rfl,?_⟩⟩;have st7:=sq6.smb f1 f2 (cc d7);cases hb2:decide (V.int r7=V.int 0) with
     |false=>exact⟨rfl,st7,d7.ds⟩
     |true=>
      have tx7:=tx.snoc (by walk_at "o") clr;have t7:=tx7.l4;have n7:=tx7.ln;refine⟨_,rfl,xm,dx,Wm,G,ws,hs++[cs],rfl,st7.Jh F,t7,by omega,fun ks y e lt8 H8 B8 nlt8 glt8 M8=>?_,fun e=>absurd e (by simp)⟩;obtain⟨rfl,_⟩:=List.append_inj' e rfl;refine⟨_,rfl,txt (hs.flatten++cs),rfl,ak (by show(hs.flatten++cs).length<=1000000;omega),_,rfl,txt cs,rfl,ak (by show cs.length<=1000000;omega),_,_,rfl,rfl,ak (show 2<=1000000 by decide),fun ld nld=>?_⟩;have S9:=af nld (.tup [.int ((((txt (hs.flatten++cs)).length:Nat):Int)-(((txt cs).length:Nat):Int)),.str ""]);have ev:(((hs.flatten++cs).length:Nat):Int)-((cs.length:Nat):Int)=((hs.flatten.length:Nat):Int):=by omega
      have gD:upd H8 ld (.tup [.int ((((txt (hs.flatten++cs)).length:Nat):Int)-(((txt cs).length:Nat):Int)),.str ""]) ld=some (.tup [.int ((hs.flatten.length:Nat):Int),.str ""]):=by
       rw[DR];show some (HO.tup [.int ((((hs.flatten++cs).length:Nat):Int)-((cs.length:Nat):Int)),.str ""])=_;rw[ev]
      refine⟨_,_,bg (S9 _ _ glt8) (.int _),bg gD (.int _),dE rfl FK,dE rfl FK,(by show 1<=60;decide),false,pN _ (dE rfl FK),?_⟩;have st9:=(st7.read F B8 M8.gH).same S9;have ds9:=(lB d7.ds f2 B8).same S9;generalize upd H8 ld (.tup [.int ((((txt (hs.flatten++cs)).length:Nat):Int)-(((txt cs).length:Nat):Int)),.str ""])=H9 at st9 ds9 ⊢;refine⟨_,rfl,_,rfl,txt cs,rfl,(by show cs.length<=1000;omega),fun c hc=>(clr c hc).lt,fun r10 H10 S10 h10=>?_⟩;rw[bJ] at h10;refine⟨xm,dx,Wm,G,ws,hs,r10,_,_,rfl,(st9.same S10).Jh F,h10,jN clr,(by show 2*cs.length+1<=_;omega),t4,by omega,fun cs' lr' ew hl lt10 K10 B10 nlt10 glt10 M10=>?_,fun cs' lr' ew hl=>?_,fun hp=>absurd (Eg clr) hp⟩
      rotate_left
      ·obtain rfl:cs=cs':=(EH lr' clr ew).symm;omega
      obtain rfl:cs=cs':=(EH lr' clr ew).symm;have sr10:=(st9.same S10).read F B10 M10.gH;refine⟨_,rfl,txt (hs.flatten++cs),rfl,ak (by show(hs.flatten++cs).length<=1000000;omega),ak (show 2<=1000000 by decide),fun ld10 nld10=>?_⟩;have T10:=af nld10 (.tup [.int (((txt (hs.flatten++cs)).length:Nat):Int),.str ""]);have gD10:upd K10 ld10 (.tup [.int (((txt (hs.flatten++cs)).length:Nat):Int),.str ""]) ld10=some (.tup [.int (((hs.flatten.length+cs.length:Nat)):Int),.str ""]):=by
       rw[DR];show some (HO.tup [.int (((hs.flatten++cs).length:Nat):Int),.str ""])=_;rw[lf]
      refine⟨_,_,bg (T10 _ _ glt10) (.int _),bg gD10 (.int _),dE rfl FK,dE rfl FK,(by show 1<=60;decide),false,pN _ (dE rfl FK),?_⟩;have sq10:=sr10.same T10;have dq10:=(lB (ds9.same S10) f2 B10).same T10;generalize upd K10 ld10 (.tup [.int (((txt (hs.flatten++cs)).length:Nat):Int),.str ""])=J10 at sq10 dq10 ⊢;clear T10 gD10 sr10 M10 B10 h10 S10 nld10 glt10 nlt10;exact⟨rfl,sq10,dq10⟩
    obtain⟨rfl,st7,ds7⟩:=z;exact⟨hs++[cs],_,by rw[bz],st7,tx.snoc (by walk_at "o") clr,ds7⟩
  obtain⟨hs,e8,rfl,st5,tx5,ds5⟩:=z;have t4:=tx5.l4;have tn:=tx5.ln;refine⟨_,rfl,_,_,rfl,rfl,(show(0:Int)<5 by decide),rfl,_,rfl,?_⟩;cases hb:decide (V.int ((0+(k:Int)) % 5)=V.int 0) with
  |false=>exact⟨hs,_,_,_,rfl,st5,tx5⟩
  |true=>
   exact⟨_,rfl,_,rfl,_,rfl,l1,xm,dx,Wm,G,ws,hs,hs.flatten,rfl,ds5,st5.JH F f1 f2,rfl,tx5.lr,t4,by omega,fun H6 d6=>⟨true,rfl,hs,_,_,_,rfl,st5.smb f1 f2 (cc d6),tx5⟩⟩
 obtain⟨hs,e6,e7,e8,rfl,st,tx⟩:=z;have t4:=tx.l4;have tn:=tx.ln;have rl:("r":Str).cps.toList=[114]:=by decide +kernel
 have m1:=cE "r" ((400:Int)-((hs.flatten.length:Nat):Int));have m2:∀d∈(Txt.mul "r" ((400:Int)-((hs.flatten.length:Nat):Int))).cps.toList,Eo d:=fun d hd=>by
  have:=dC (z:="r") hd;rw[rl] at this;rw[AA.mp this];exact .inr rfl
 have zl:(Txt.mul "r" ((400:Int)-((hs.flatten.length:Nat):Int))).cps.toList.length=400-hs.flatten.length:=by
  have e:(Txt.mul "r" ((400:Int)-((hs.flatten.length:Nat):Int))).cps.toList.length=(Txt.mul "r" ((400:Int)-((hs.flatten.length:Nat):Int))).length:=Ab ..;rw[e,m1,show("r":Str).length=1 by decide +kernel];omega
 refine⟨_,rfl,_,rfl,txt hs.flatten,rfl,ak (by show hs.flatten.length<=1000000;walk_at "o"),_,_,rfl,rfl,"r",_,rfl,rfl,(by show -(2^63)<=(400:Int)-((hs.flatten.length:Nat):Int);omega),(by show(400:Int)-((hs.flatten.length:Nat):Int)<2^63;omega),(by rw[show("r":Str).length=1 by decide +kernel];show 1*((400:Int)-((hs.flatten.length:Nat):Int)).toNat<=_;omega),?_⟩;generalize hz:Txt.mul "r" ((400:Int)-((hs.flatten.length:Nat):Int))=z at m1 m2 zl;refine⟨z,congrArg (fun q=>[V.str q]) hz,(by have e:z.cps.size=z.cps.toList.length:=(Ab ..).symm;omega),fun c hc=>(m2 c hc).lt,fun r6 H6 S6 h6=>?_⟩;rw[bJ] at h6;refine⟨xm,dx,Wm,G,ws,hs,r6,_,_,rfl,(st.same S6).Jh F,h6,jN m2,by omega,t4,by walk_at "o",fun cs' lr' ew hl lt H7 B7 nlt glt M7=>?_,fun cs' lr' ew hl=>?_,fun hp=>absurd (Eg m2) hp⟩
 rotate_left
 ·rw[EH lr' m2 ew] at hl;omega
 have ec:=EH lr' m2 ew;rw[ec] at glt M7;have st7:=(st.same S6).read F B7 M7.gH;refine⟨ak (show 2<=1000000 by decide),fun ld nld=>?_⟩;have S8:=af nld (.tup [.int 400,.str ""]);have eg:(((hs.flatten.length+z.cps.toList.length:Nat)):Int)=400:=by omega
 rw[eg] at glt;refine⟨_,_,bg (S8 _ _ glt) (.int _),bg DR (.int _),dE rfl FK,dE rfl FK,(by show 1<=60;decide),false,pN _ (dE rfl FK),?_⟩;have st8:=st7.same S8;have tx8:=tx.snoc (u:=z.cps.toList) (by omega) m2;generalize upd H7 ld (.tup [.int 400,.str ""])=H8 at st8 ⊢;clear st7 st S8 S6 h6 M7 B7 glt nld nlt;refine⟨_,rfl,_,rfl,txt hs.flatten,rfl,ak (by show hs.flatten.length<=1000000;walk_at "o"),_,_,rfl,rfl,"r",_,rfl,rfl,(by show -(2^63)<=(400:Int)-((hs.flatten.length:Nat):Int);omega),(by show(400:Int)-((hs.flatten.length:Nat):Int)<2^63;omega),(by rw[show("r":Str).length=1 by decide +kernel];show 1*((400:Int)-((hs.flatten.length:Nat):Int)).toNat<=_;omega),?_⟩;have zn:z.length=z.cps.toList.length:=(Ab ..).symm;refine⟨txt hs.flatten,z,rfl,congrArg V.str hz,ak (by rw[zn];show hs.flatten.length+_<=1000000;omega),?_⟩;have ez:txt hs.flatten++z=txt (hs++[z.cps.toList]).flatten:=by rw[bz,<- nj,<- jw z]
 rw[ez];generalize hs++[z.cps.toList]=hs at st8 tx8 ⊢;clear ez m1 m2 zl hz ec;have t4:=tx8.l4;have tn:=tx8.ln;refine⟨_,rfl,a,ns,50,rfl,st8.sm.seq aS,by decide,by decide,fun l2 H9 S9 nl2 ds2=>?_⟩;obtain⟨f1,f2⟩:=st8.fresh nl2;have st9:=st8.same S9;refine⟨_,rfl,_,rfl,l2,xm,dx,Wm,G,ws,hs,hs.flatten,rfl,ds2,st9.JH F f1 f2,rfl,tx8.lr,t4,by walk_at "o",fun H10 d10=>⟨true,rfl,?_⟩⟩;have st10:=st9.smb f1 f2 (cc d10);refine⟨_,rfl,_,rfl,_,rfl,xm,dx,Wm,G,ws,hs,W,hs.flatten,rfl,st10.Jh F,rfl,st10.sm _ _ gWb,hw,tx8.lr,t4,by walk_at "o",fun H11 S11=>⟨true,rfl,?_⟩⟩;have gW11:=(st10.same S11).sm _ _ gWb;clear st10 st9 st8 d10 ds2 S9 nl2 S11;refine⟨_,rfl,W,rfl,⟨_,SqL.of gW11⟩,?_⟩;refine cM (K:=K) (a:=W) (xs:=aj ws) (fun k ys H'=>DV H11 H'/\ys.length<=k/\Mks H' ys (ws.take k)) ⟨DV.refl _,zX _,.nil⟩ (fun k ys H' hk z=>z.2.1) (ak (by omega)) (fun k ys H' hk z=>SqL.of (z.1 _ _ gW11)) (fun k v ys H' hv z=>?_) (fun ys H' z M hM=>?_)
 ·obtain⟨z1,z2,z3⟩:=z;have hk:k<(aj ws).length:=(Ad.mp hv).1;obtain⟨u,eu,rfl⟩:=bY hv;have hm:=Am eu;have h40:=hw.l40 _ hm;refine⟨_,rfl,txt u,rfl,(by show u.length<=1000;walk_at "o"),fun c hc=>(hw.lr _ hm c hc).lt,fun r H2 S2 h2=>Nx.mk hk ⟨z1.trans S2,by rw[zZ];exact DI z2,?_⟩⟩;rw[bx eu];refine Paired.snoc (Paired.GO z3 fun v s g=>g.mono S2) ?_;rw[<- bJ u];exact h2
 obtain⟨z1,z2,z3⟩:=z;rw[el,AL] at z3;have S7:DV H11 (upd H' M (.lst ys)):=z1.trans (af hM _);have gM:upd H' M (.lst ys) M=some (.lst ys):=DR;have mM:Mks (upd H' M (.lst ys)) ys ws:=Paired.GO z3 fun v s g=>g.mono (af hM (.lst ys));generalize upd H' M (.lst ys)=H12 at S7 gM mM ⊢;clear z1 z2 z3 hM;intro x2 y2 n1 n2 ne;obtain⟨Sm,ia⟩:=kU (C:=C) n1 n2 ne;generalize upd (upd H12 y2 (.own x2)) x2 (.ins C y2 [])=Hm at Sm ia ⊢;refine⟨x2,y2,M,ys,ws,rfl,ia,Sm _ _ gM,Paired.GO mM fun v s g=>g.mono Sm,hw,fun W2 G2 H13 B13 nG2 M13=>⟨rfl,?_⟩⟩;have gWm:=Sm _ _ (S7 _ _ gW11);exact⟨_,rfl,_,rfl,x2,y2,W2,G2,ws,W,hs.flatten,rfl,M13,B13 _ _ (jX gWm ia (fun z=>nomatch z)) gWm,az gWm nG2,hw,tx8.lr,t4,fun H'=>q H'⟩
end
theorem dB{us:List Value}(h:us.length=1):∃a,us=[a]:=match us,h with|[a],_=>⟨a,rfl⟩
theorem iC{us:List Value}(h:us.length=2):∃a b,us=[a,b]:=match us,h with|[a,b],_=>⟨a,b,rfl⟩
theorem tw{us:List Value}(h:us.length=3):∃a b c,us=[a,b,c]:=match us,h with|[a,b,c],_=>⟨a,b,c,rfl⟩
def FIn (K:W.Frag)(fn:Str)(st:Stmt):Prop:=∃(f:Addr)(oc:Value)(od an:Option Addr)(sl:Array (Option Value))(kV dc pm cd ct:Value),W.nsIn K mainGlobals fn=some (some (.ref f))/\K.lookup f=some ⟨oc,od,.func (W.fnOf fn fn (aU st) (aN st) (ai st) .none kV dc pm an cd ct),sl⟩/\W.codeIn K cd fn=true/\W.keepIn K (.ref f)=true
theorem FIn.of{K:W.Frag}{fn:Str}{st:Stmt}{f:Addr}{oc:Value}{od an:Option Addr}{sl:Array (Option Value)}{kV dc pm cd ct:Value}(a:W.nsIn K mainGlobals fn=some (some (.ref f)))(l:K.lookup f=some ⟨oc,od,.func (W.fnOf fn fn (aU st) (aN st) (ai st) .none kV dc pm an cd ct),sl⟩)(c:W.codeIn K cd fn=true)(k:W.keepIn K (.ref f)=true):FIn K fn st:=⟨f,oc,od,an,sl,kV,dc,pm,cd,ct,a,l,c,k⟩
theorem FIn.dd{K:W.Frag}{fn:Str}{st:Stmt}{h:Heap}{mg:Str->Option Value}(a:FIn K fn st)(X:K.In h)(G:h.Ns mainGlobals mg){ps:List Str}(hb:∀(kV doc pm:Value)(an:Option Addr)(cdv ct:Value)(us:List Value),us.length=ps.length->bindArgs (W.fnOf fn fn (aU st) (aN st) (ai st) .none kV doc pm an cdv ct) ⟨us,[]⟩=pure (ps.zip us)):∃d:DD,Def K mg fn st ps d:=by
 obtain⟨f,oc,od,an,sl,kV,dc,pm,cd,ct,a,l,c,k⟩:=a;have F:=kh (st:=st) l c k;exact⟨⟨f,_⟩,F,Dz X G a,F.binds (ps:=ps) hb⟩
def MIn (K:W.Frag)(C:Addr)(m qual:Str)(st:Stmt):Prop:=∃(f:Addr)(oc:Value)(od an:Option Addr)(sl:Array (Option Value))(kV dc pm cd ct:Value),W.findIn K (.ref C) m=some (some (.ref f))/\K.lookup f=some ⟨oc,od,.func (W.fnOf m qual (aU st) (aN st) (ai st) .none kV dc pm an cd ct),sl⟩/\W.codeIn K cd qual=true/\W.keepIn K (.ref f)=true/\W.isFn K (.ref f)=true
theorem MIn.of{K:W.Frag}{C:Addr}{m qual:Str}{st:Stmt}{f:Addr}{oc:Value}{od an:Option Addr}{sl:Array (Option Value)}{kV dc pm cd ct:Value}(a:W.findIn K (.ref C) m=some (some (.ref f)))(l:K.lookup f=some ⟨oc,od,.func (W.fnOf m qual (aU st) (aN st) (ai st) .none kV dc pm an cd ct),sl⟩)(c:W.codeIn K cd qual=true)(k:W.keepIn K (.ref f)=true)(i:W.isFn K (.ref f)=true):MIn K C m qual st:=⟨f,oc,od,an,sl,kV,dc,pm,cd,ct,a,l,c,k,i⟩
theorem MIn.dd{K:W.Frag}{C:Addr}{m qual:Str}{st:Stmt}(a:MIn K C m qual st){ps:List Str}(hb:∀(kV doc pm:Value)(an:Option Addr)(cdv ct:Value)(us:List Value),us.length=ps.length->bindArgs (W.fnOf m qual (aU st) (aN st) (ai st) .none kV doc pm an cdv ct) ⟨us,[]⟩=pure (ps.zip us)):∃d:DD,EN K C m qual st ps d:=by
 obtain⟨f,oc,od,an,sl,kV,dc,pm,cd,ct,a,l,c,k,i⟩:=a;have F:=kh (st:=st) l c k;exact⟨⟨f,_⟩,F,⟨a,i,k⟩,F.binds (ps:=ps) hb⟩
theorem all_mk{l:W.OpenLaw}{w:World}{K:W.Frag}{h:Heap}{mg:Str->Option Value}{fa:Addr}(X:K.In h)(G:h.Ns mainGlobals mg)(hfa:mg "law"=some (.ref fa))
  (xY:FIn K "is_whole" (top 15))
  (zu:FIn K "_law_whole" (top 50))
  (zi:FIn K "is_table" (top 16))
  (xZ:FIn K "worth" (top 19))
  (xX:FIn K "_law_times" (top 43))
  (yt:FIn K "_law_made" (top 44))
  (zB:FIn K "_law_of_letters" (top 45))
  (yp:FIn K "_law_draw" (top 42))
  (xU:FIn K "_law_draws" (top 54))
  (xW:FIn K "is_plain" (top 23))
  (yu:FIn K "product" (top 17))
  (a_po:FIn K "product_of" (top 18))
  (zj:FIn K "is_word" (top 24))
  (zD:FIn K "table_of" (top 25))
  (a_ww:FIn K "word_within" (top 26))
  (yx:FIn K "word_of" (top 27))
  (zw:FIn K "maker_word" (top 31))
  (zv:FIn K "maker_words" (top 32))
  (yr:FIn K "last_steps" (top 33))
  (yw:FIn K "ways_to_places" (top 34))
  (a_sf:FIn K "shortest_first" (top 35))
  (zt:FIn K "least_to_places" (top 36))
  (a_rp:FIn K "reached_places" (top 37))
  (xV:FIn K "_law_piece" (top 55))
  (zq:FIn K "_law_makers" (top 56))
  (zo:FIn K "_law_counts" (top 48))
  (zp:FIn K "_law_first_row" (top 49))
  (a_br:FIn K "begun_rests" (top 39))
  (zr:FIn K "_law_rests" (top 51))
  (yq:FIn K "_law_kind" (top 46))
  (zA:FIn K "_law_mill_right" (top 52))
  (a_rb:FIn K "_law_read_by" (top 47))
  (zC:FIn K "_law_taken_back" (top 53))
  (a_rr:FIn K "_law_refusals_right" (top 57))
  (a_bl:FIn K "_law_by_letters" (top 58))
  {f_law:Addr}{od_law an_law:Option Addr}{sl_law:Array (Option Value)}{oc_law kV_law dc_law pm_law cd_law ct_law:Value}
  (yP:W.nsIn K mainGlobals "law"=some (some (.ref f_law)))(l_law:K.lookup f_law=some ⟨oc_law,od_law,.func (W.fnOf "law" "law" (aU (top 59)) (aN (top 59)) (ai (top 59)) .none kV_law dc_law pm_law an_law cd_law ct_law),sl_law⟩)(c_law:W.codeIn K cd_law "law"=true)(k_law:W.keepIn K (.ref f_law)=true)
  {one:Addr}(zH:W.nsIn K mainGlobals "ONE"=some (some (.ref one)))
  {odo_ONE:Option Addr}{ito_ONE:Array Value}{no_ONE:Nat}{slo_ONE:Array (Option Value)}(l_ONE:K.lookup one=some ⟨.type "tuple",odo_ONE,.seq ito_ONE no_ONE,slo_ONE⟩)(z_ONE:ito_ONE.size<=sizeLine)(v_ONE:Vals Tb.one.vs ito_ONE.toList)
  {t_LW:Tok}(e_LW:W.nsIn K mainGlobals "LONGEST_WORD"=some (some (.int 400 t_LW)))
  {t_LM:Tok}(e_LM:W.nsIn K mainGlobals "LONGEST_MAKER"=some (some (.int 40 t_LM)))
  {t_MM:Tok}(e_MM:W.nsIn K mainGlobals "MOST_MAKERS"=some (some (.int 8 t_MM)))
  {lets l1 l2:Addr}{tk1 tk2:Tok}{nd:Nat}(zG:W.nsIn K mainGlobals "LETTERS"=some (some (.ref lets)))(l_LET:K.lookup lets=some ⟨.type "dict",none,.dict #[⟨PyData.keyHash w.params "l",.str "l" tk1,.ref l1⟩,⟨PyData.keyHash w.params "r",.str "r" tk2,.ref l2⟩] nd,#[]⟩)(s_LET:(lets==sysModules)=false)
  {odo_L1:Option Addr}{ito_L1:Array Value}{no_L1:Nat}{slo_L1:Array (Option Value)}(l_L1:K.lookup l1=some ⟨.type "tuple",odo_L1,.seq ito_L1 no_L1,slo_L1⟩)(z_L1:ito_L1.size<=sizeLine)(v_L1:Vals (bX 108).vs ito_L1.toList)
  {odo_L2:Option Addr}{ito_L2:Array Value}{no_L2:Nat}{slo_L2:Array (Option Value)}(l_L2:K.lookup l2=some ⟨.type "tuple",odo_L2,.seq ito_L2 no_L2,slo_L2⟩)(z_L2:ito_L2.size<=sizeLine)(v_L2:Vals (bX 114).vs ito_L2.toList)
  {C:Addr}(yA:W.nsIn K mainGlobals "Mill"=some (some (.ref C)))(pg_M:W.plainGet K C Str.empty=true)(hd_M:W.hasDictIn K C=true)(po_M:W.plainOver K C=true)(sa_M:W.findIn K (.ref C) "__setattr__"=some (some (.builtin "object.__setattr__")))(nw_M:W.findIn K (.ref C) "words"=some none)(nh_M:W.findIn K (.ref C) "held"=some none)(mk_M:W.makesIn K C=true)(kp_M:W.keepIn K (.ref C)=true)
  (a_in:MIn K C "__init__" "Mill.__init__" (bo 0))
  (a_re:MIn K C "read" "Mill.read" (bo 1))
  (a_tk:MIn K C "take_back" "Mill.take_back" (bo 2))
  (a_tx:MIn K C "text" "Mill.text" (bo 3))
  (a_tb:MIn K C "table" "Mill.table" (bo 4))
  (a_wy:MIn K C "ways" "Mill.ways" (bo 5))
  (a_ls:MIn K C "least" "Mill.least" (bo 6))
  (a_pl:MIn K C "places" "Mill.places" (bo 7))
  (a_rs:MIn K C "rests" "Mill.rests" (bo 8))
  {q0:Addr}(wR:W.nsIn K mainGlobals "NoBack"=some (some (.ref q0)))
  {q1:Addr}(wZ:W.nsIn K mainGlobals "NoCount"=some (some (.ref q1)))
  {q2:Addr}(vW:W.nsIn K mainGlobals "NoMakers"=some (some (.ref q2)))
  {q3:Addr}(xI:W.nsIn K mainGlobals "NoName"=some (some (.ref q3)))
  {q4:Addr}(vJ:W.nsIn K mainGlobals "NoPlain"=some (some (.ref q4)))
  {q5:Addr}(ya:W.nsIn K mainGlobals "NoRow"=some (some (.ref q5)))
  {q6:Addr}(xJ:W.nsIn K mainGlobals "NoText"=some (some (.ref q6)))
  {q7:Addr}(xK:W.nsIn K mainGlobals "NoWide"=some (some (.ref q7)))
  {q8:Addr}(xM:W.nsIn K mainGlobals "NoWord"=some (some (.ref q8)))
  {q9:Addr}(vK:W.nsIn K mainGlobals "TooLong"=some (some (.ref q9)))
  {q10:Addr}(xH:W.nsIn K mainGlobals "NoMill"=some (some (.ref q10)))
  {qe:Addr}(vD:W.nsIn K mainGlobals "QuadError"=some (some (.ref qe)))(vn:W.excIn K qe Gs "ValueError.__new__"=true)
  (gn:W.specialIn K (.builtin "object.__class__") "__get__"=some (some (.builtin "getset_descriptor.__get__")))(tk:W.takesIn K (.builtin "object.__class__")=some true)
  (wU:W.excIn K q0 Gs "ValueError.__new__"=true)(xr:L2.subIn K q0 qe=true)(xa:W.findIn K (.ref q0) "__getattribute__"=some (some (.builtin "BaseException.__getattribute__")))(xb:W.findIn K (.ref q0) "__getattr__"=some none)(wX:W.findIn K (.ref q0) "__class__"=some (some (.builtin "object.__class__")))(xf:W.mroIn K q0 (.type "object")=some true)(xc:W.mroIn K q0 (.type "BaseException")=some true){cd_NoBack:ClassData}(wY:W.clsIn K q0=some cd_NoBack)
  (xg:W.kitOne K (.ref q0) (.ref q0)=some true)
  (xh:W.kitOne K (.ref q0) (.ref q1)=some false)
  (xi:W.kitOne K (.ref q0) (.ref q2)=some false)
  (xj:W.kitOne K (.ref q0) (.ref q3)=some false)
  (xk:W.kitOne K (.ref q0) (.ref q4)=some false)
  (xl:W.kitOne K (.ref q0) (.ref q5)=some false)
  (xn:W.kitOne K (.ref q0) (.ref q6)=some false)
  (xo:W.kitOne K (.ref q0) (.ref q7)=some false)
  (xp:W.kitOne K (.ref q0) (.ref q8)=some false)
  (xq:W.kitOne K (.ref q0) (.ref q9)=some false)
  (wm:W.kitOne K (.ref q0) (.ref q10)=some false)
  (wo:W.kitOne K (.ref q0) (.type "ValueError")=some true)
  (vM:W.excIn K q4 Gs "ValueError.__new__"=true)(wO:L2.subIn K q4 qe=true)(vX:W.findIn K (.ref q4) "__getattribute__"=some (some (.builtin "BaseException.__getattribute__")))(vZ:W.findIn K (.ref q4) "__getattr__"=some none)(vS:W.findIn K (.ref q4) "__class__"=some (some (.builtin "object.__class__")))(wd:W.mroIn K q4 (.type "object")=some true)(wb:W.mroIn K q4 (.type "BaseException")=some true){cd_NoPlain:ClassData}(vU:W.clsIn K q4=some cd_NoPlain)
  (wj:W.kitOne K (.ref q4) (.ref q0)=some false)
  (wq:W.kitOne K (.ref q4) (.ref q1)=some false)
  (wx:W.kitOne K (.ref q4) (.ref q2)=some false)
  (wz:W.kitOne K (.ref q4) (.ref q3)=some false)
  (wB:W.kitOne K (.ref q4) (.ref q4)=some true)
  (wD:W.kitOne K (.ref q4) (.ref q5)=some false)
  (wG:W.kitOne K (.ref q4) (.ref q6)=some false)
  (wI:W.kitOne K (.ref q4) (.ref q7)=some false)
  (wK:W.kitOne K (.ref q4) (.ref q8)=some false)
  (wM:W.kitOne K (.ref q4) (.ref q9)=some false)
  (vF:W.kitOne K (.ref q4) (.ref q10)=some false)
  (vH:W.kitOne K (.ref q4) (.type "ValueError")=some true)
  (vy:W.excIn K q9 Gs "ValueError.__new__"=true)(wQ:L2.subIn K q9 qe=true)(vY:W.findIn K (.ref q9) "__getattribute__"=some (some (.builtin "BaseException.__getattribute__")))(wa:W.findIn K (.ref q9) "__getattr__"=some none)(vT:W.findIn K (.ref q9) "__class__"=some (some (.builtin "object.__class__")))(we:W.mroIn K q9 (.type "object")=some true)(wc:W.mroIn K q9 (.type "BaseException")=some true){cd_TooLong:ClassData}(vV:W.clsIn K q9=some cd_TooLong)
  (wk:W.kitOne K (.ref q9) (.ref q0)=some false)
  (wu:W.kitOne K (.ref q9) (.ref q1)=some false)
  (wy:W.kitOne K (.ref q9) (.ref q2)=some false)
  (wA:W.kitOne K (.ref q9) (.ref q3)=some false)
  (wC:W.kitOne K (.ref q9) (.ref q4)=some false)
  (wF:W.kitOne K (.ref q9) (.ref q5)=some false)
  (wH:W.kitOne K (.ref q9) (.ref q6)=some false)
  (wJ:W.kitOne K (.ref q9) (.ref q7)=some false)
  (wL:W.kitOne K (.ref q9) (.ref q8)=some false)
  (wN:W.kitOne K (.ref q9) (.ref q9)=some true)
  (vG:W.kitOne K (.ref q9) (.ref q10)=some false)
  (vI:W.kitOne K (.ref q9) (.type "ValueError")=some true)
  (zL:W.nsIn K mainGlobals "int"=some none)   (yD:W.nsIn K mainGlobals "bool"=some none)   (vw:W.nsIn K mainGlobals "isinstance"=some none)   (yc:W.nsIn K mainGlobals "tuple"=some none)   (yE:W.nsIn K mainGlobals "list"=some none)   (zQ:W.nsIn K mainGlobals "str"=some none)   (zM:W.nsIn K mainGlobals "len"=some none)   (zK:W.nsIn K mainGlobals "all"=some none)   (yb:W.nsIn K mainGlobals "range"=some none)   (zN:W.nsIn K mainGlobals "max"=some none)   (zO:W.nsIn K mainGlobals "min"=some none)   (zR:W.nsIn K mainGlobals "sum"=some none)   (vE:W.nsIn K mainGlobals "enumerate"=some none)   (xN:W.nsIn K mainGlobals "sorted"=some none)   (zP:W.nsIn K mainGlobals "set"=some none)   (vv:W.nsIn K mainGlobals "ValueError"=some none) :
  ∃fd:FuncData,(∀(s:Shared)(v:Value),BindsTo s fd ⟨[v],[]⟩ [("script",v)])/\∀base:Heap,K.In base->base.Ns mainGlobals mg->DY l.prog w K mg base CX0 10 fa fd ["script"] (oB K):=by
 have e:=hfa.symm.trans (Dz X G yP);cases e;have xF:=DA X G zL;have xB:=DA X G yD;have ve:=DA X G vw;have vR:=DA X G yc;have yy:=DA X G yE;have zF:=DA X G zQ;have vf:=DA X G zM;have yi:=DA X G zK;have vg:=DA X G yb;have b_max:=DA X G zN;have xG:=DA X G zO;have yj:=DA X G zR;have vj:=DA X G vE;have vz:=DA X G xN;have zE:=DA X G zP;have vq:=DA X G vv;obtain⟨d_whole,vO⟩:=xY.dd X G (ps:=["thing"]) (fun _ _ _ _ _ _ us hl=>by obtain⟨_,rfl⟩:=dB hl;rfl);obtain⟨d_lwh,yL⟩:=zu.dd X G (ps:=["found"]) (fun _ _ _ _ _ _ us hl=>by obtain⟨_,rfl⟩:=dB hl;rfl);obtain⟨d_ist,yF⟩:=zi.dd X G (ps:=["thing"]) (fun _ _ _ _ _ _ us hl=>by obtain⟨_,rfl⟩:=dB hl;rfl);obtain⟨d_worth,xD⟩:=xZ.dd X G (ps:=["table"]) (fun _ _ _ _ _ _ us hl=>by obtain⟨_,rfl⟩:=dB hl;rfl);obtain⟨d_times,xC⟩:=xX.dd X G (ps:=["one","other"]) (fun _ _ _ _ _ _ us hl=>by obtain⟨_,_,rfl⟩:=iC hl;rfl);obtain⟨d_made,yd⟩:=yt.dd X G (ps:=["tables"]) (fun _ _ _ _ _ _ us hl=>by obtain⟨_,rfl⟩:=dB hl;rfl);obtain⟨d_ofl,vp⟩:=zB.dd X G (ps:=["word"]) (fun _ _ _ _ _ _ us hl=>by obtain⟨_,rfl⟩:=dB hl;rfl);obtain⟨d_draw,vh⟩:=yp.dd X G (ps:=["draws","many"]) (fun _ _ _ _ _ _ us hl=>by obtain⟨_,_,rfl⟩:=iC hl;rfl);obtain⟨d_draws,vN⟩:=xU.dd X G (ps:=["script","k"]) (fun _ _ _ _ _ _ us hl=>by obtain⟨_,_,rfl⟩:=iC hl;rfl);obtain⟨d_plain,vC⟩:=xW.dd X G (ps:=["table"]) (fun _ _ _ _ _ _ us hl=>by obtain⟨_,rfl⟩:=dB hl;rfl);obtain⟨d_prod,xw⟩:=yu.dd X G (ps:=["one","other"]) (fun _ _ _ _ _ _ us hl=>by obtain⟨_,_,rfl⟩:=iC hl;rfl);obtain⟨d_po,D_po⟩:=a_po.dd X G (ps:=["tables"]) (fun _ _ _ _ _ _ us hl=>by obtain⟨_,rfl⟩:=dB hl;rfl);obtain⟨d_isw,yG⟩:=zj.dd X G (ps:=["text"]) (fun _ _ _ _ _ _ us hl=>by obtain⟨_,rfl⟩:=dB hl;rfl);obtain⟨d_tof,yO⟩:=zD.dd X G (ps:=["word"]) (fun _ _ _ _ _ _ us hl=>by obtain⟨_,rfl⟩:=dB hl;rfl);obtain⟨d_ww,D_ww⟩:=a_ww.dd X G (ps:=["table","most"]) (fun _ _ _ _ _ _ us hl=>by obtain⟨_,_,rfl⟩:=iC hl;rfl);obtain⟨d_wofE,yV⟩:=yx.dd X G (ps:=["table"]) (fun _ _ _ _ _ _ us hl=>by obtain⟨_,rfl⟩:=dB hl;rfl);obtain⟨d_mkw,yN⟩:=zw.dd X G (ps:=["maker"]) (fun _ _ _ _ _ _ us hl=>by obtain⟨_,rfl⟩:=dB hl;rfl);obtain⟨d_mks,yM⟩:=zv.dd X G (ps:=["makers"]) (fun _ _ _ _ _ _ us hl=>by obtain⟨_,rfl⟩:=dB hl;rfl);obtain⟨d_last,wV⟩:=yr.dd X G (ps:=["words","text","end"]) (fun _ _ _ _ _ _ us hl=>by obtain⟨_,_,_,rfl⟩:=tw hl;rfl);obtain⟨d_ways,yl⟩:=yw.dd X G (ps:=["words","text"]) (fun _ _ _ _ _ _ us hl=>by obtain⟨_,_,rfl⟩:=iC hl;rfl);obtain⟨d_sf,D_sf⟩:=a_sf.dd X G (ps:=["row"]) (fun _ _ _ _ _ _ us hl=>by obtain⟨_,rfl⟩:=dB hl;rfl);obtain⟨d_ltp,yK⟩:=zt.dd X G (ps:=["words","text"]) (fun _ _ _ _ _ _ us hl=>by obtain⟨_,_,rfl⟩:=iC hl;rfl);obtain⟨d_rp,D_rp⟩:=a_rp.dd X G (ps:=["words","text"]) (fun _ _ _ _ _ _ us hl=>by obtain⟨_,_,rfl⟩:=iC hl;rfl);obtain⟨d_piece,vB⟩:=xV.dd X G (ps:=["draws","most"]) (fun _ _ _ _ _ _ us hl=>by obtain⟨_,_,rfl⟩:=iC hl;rfl);obtain⟨d_lmk,yI⟩:=zq.dd X G (ps:=["draws"]) (fun _ _ _ _ _ _ us hl=>by obtain⟨_,rfl⟩:=dB hl;rfl);obtain⟨d_lcn,xu⟩:=zo.dd X G (ps:=["words","text"]) (fun _ _ _ _ _ _ us hl=>by obtain⟨_,_,rfl⟩:=iC hl;rfl)
 obtain⟨d_lfr,yH⟩:=zp.dd X G (ps:=["words","text"]) (fun _ _ _ _ _ _ us hl=>by obtain⟨_,_,rfl⟩:=iC hl;rfl);obtain⟨d_br,D_br⟩:=a_br.dd X G (ps:=["words","begun"]) (fun _ _ _ _ _ _ us hl=>by obtain⟨_,_,rfl⟩:=iC hl;rfl);obtain⟨d_lrs,yJ⟩:=zr.dd X G (ps:=["words","text"]) (fun _ _ _ _ _ _ us hl=>by obtain⟨_,_,rfl⟩:=iC hl;rfl);obtain⟨d_kind,vo⟩:=yq.dd X G (ps:=["e"]) (fun _ _ _ _ _ _ us hl=>by obtain⟨_,rfl⟩:=dB hl;rfl);obtain⟨d_mri,xP⟩:=zA.dd X G (ps:=["mill","words","text"]) (fun _ _ _ _ _ _ us hl=>by obtain⟨_,_,_,rfl⟩:=tw hl;rfl);obtain⟨d_rb,GK⟩:=a_rb.dd X G (ps:=["mill","table"]) (fun _ _ _ _ _ _ us hl=>by obtain⟨_,_,rfl⟩:=iC hl;rfl);obtain⟨d_tbk,xO⟩:=zC.dd X G (ps:=["mill"]) (fun _ _ _ _ _ _ us hl=>by obtain⟨_,rfl⟩:=dB hl;rfl);obtain⟨d_rr,JC⟩:=a_rr.dd X G (ps:=["draws","mill","text"]) (fun _ _ _ _ _ _ us hl=>by obtain⟨_,_,_,rfl⟩:=tw hl;rfl);obtain⟨d_bl,Kc⟩:=a_bl.dd X G (ps:=["mill","words","text"]) (fun _ _ _ _ _ _ us hl=>by obtain⟨_,_,_,rfl⟩:=tw hl;rfl);have F_law:=kh (st:=top 59) l_law c_law k_law;have zT:Def K mg "law" (top 59) ["script"] ⟨fa,_⟩:=⟨F_law,Dz X G yP,F_law.binds (ps:=["script"]) fun _ _ _ _ _ _ us hl=>by obtain⟨_,rfl⟩:=dB hl;rfl⟩
 have kO:∀H,SqT K H one Tb.one.vs:=fun H=>.inr ⟨_,ito_ONE,no_ONE,l_ONE,rfl,rfl,z_ONE,v_ONE⟩;have mO:=Dz X G zH;have mL:=Dz X G zG;have ML:rm l.prog w K lets (lkv l1 l2):=uo (by decide +kernel) s_LET l_LET;have k1:∀H,SqT K H l1 (bX 108).vs:=fun H=>.inr ⟨_,ito_L1,no_L1,l_L1,rfl,rfl,z_L1,v_L1⟩;have k2:∀H,SqT K H l2 (bX 114).vs:=fun H=>.inr ⟨_,ito_L2,no_L2,l_L2,rfl,rfl,z_L2,v_L2⟩;have MC:Gd K C:=⟨⟨pg_M,hd_M,po_M,sa_M⟩,nw_M,nh_M⟩
 have ye:=Dz X G yA;obtain⟨Ks,IW⟩:=a_in.dd (ps:=["self","makers"]) (fun _ _ _ _ _ _ us hl=>by obtain⟨_,_,rfl⟩:=iC hl;rfl);obtain⟨d_re,D_re⟩:=a_re.dd (ps:=["self","table"]) (fun _ _ _ _ _ _ us hl=>by obtain⟨_,_,rfl⟩:=iC hl;rfl);obtain⟨d_tk,D_tk⟩:=a_tk.dd (ps:=["self"]) (fun _ _ _ _ _ _ us hl=>by obtain⟨_,rfl⟩:=dB hl;rfl);obtain⟨d_tx,D_tx⟩:=a_tx.dd (ps:=["self"]) (fun _ _ _ _ _ _ us hl=>by obtain⟨_,rfl⟩:=dB hl;rfl);obtain⟨d_tb,D_tb⟩:=a_tb.dd (ps:=["self"]) (fun _ _ _ _ _ _ us hl=>by obtain⟨_,rfl⟩:=dB hl;rfl);obtain⟨d_wy,D_wy⟩:=a_wy.dd (ps:=["self"]) (fun _ _ _ _ _ _ us hl=>by obtain⟨_,rfl⟩:=dB hl;rfl);obtain⟨d_ls,D_ls⟩:=a_ls.dd (ps:=["self"]) (fun _ _ _ _ _ _ us hl=>by obtain⟨_,rfl⟩:=dB hl;rfl);obtain⟨d_pl,D_pl⟩:=a_pl.dd (ps:=["self"]) (fun _ _ _ _ _ _ us hl=>by obtain⟨_,rfl⟩:=dB hl;rfl);obtain⟨d_rs,D_rs⟩:=a_rs.dd (ps:=["self"]) (fun _ _ _ _ _ _ us hl=>by obtain⟨_,rfl⟩:=dB hl;rfl);have MK:L2.Mk K C Ks.f:=⟨mk_M,IW.m.at_,IW.m.fn,kp_M⟩
 have M:KJ mg [q0,q1,q2,q3,q4,q5,q6,q7,q8,q9,q10]:=⟨Dz X G wR,Dz X G wZ,Dz X G vW,Dz X G xI,Dz X G vJ,Dz X G ya,Dz X G xJ,Dz X G xK,Dz X G xM,Dz X G vK,Dz X G xH,ve,vg,vq⟩
 have ym:Jf K [q0,q1,q2,q3,q4,q5,q6,q7,q8,q9,q10] qe q0 0:=⟨wU,xr,⟨xa,xb,wX,gn,tk,xf,xc,by rw[wY];rfl⟩,xg,xh,xi,xj,xk,xl,xn,xo,xp,xq,wm,wo⟩
 have vL:=Dz X G wR;have yf:Jf K [q0,q1,q2,q3,q4,q5,q6,q7,q8,q9,q10] qe q4 4:=⟨vM,wO,⟨vX,vZ,vS,gn,tk,wd,wb,by rw[vU];rfl⟩,wj,wq,wx,wz,wB,wD,wG,wI,wK,wM,vF,vH⟩
 have vt:=Dz X G vJ;have yg:Jf K [q0,q1,q2,q3,q4,q5,q6,q7,q8,q9,q10] qe q9 9:=⟨vy,wQ,⟨vY,wa,vT,gn,tk,we,wc,by rw[vV];rfl⟩,wk,wu,wy,wA,wC,wF,wH,wJ,wL,wN,vG,vI⟩
 have vm:=Dz X G vK;have vk:=Dz X G vD;refine⟨W.fnOf "law" "law" (aU (top 59)) (aN (top 59)) (ai (top 59)) .none kV_law dc_law pm_law an_law cd_law ct_law,fun s v=>.of_eq rfl,fun base _ _=>?_⟩;have xS:=ow (P:=l.prog) (w:=w) (base:=base) vO xF xB ve;have ze:=nk (P:=l.prog) (w:=w) (base:=base) yL xF xB ve;have yY:=sX vO xS yF vR vf yi ve;have xT:=ot (P:=l.prog) (w:=w) (base:=base) xD;have xR:=nO (P:=l.prog) (w:=w) (base:=base) xC vg vR;have yn:=pe xC xR yd;have vA:=si yd yn vp;have vi:=qS (P:=l.prog) (w:=w) (base:=base) vh;have wW:=pA (P:=l.prog) (w:=w) (base:=base) vN vf xF;have vQ:=oP yF yY xD xT vC xG;have yo:=qt (P:=l.prog) (w:=w) (base:=base) xw;have G_po:=sZ mO kO xw yo D_po;have yZ:=sJ (P:=l.prog) (w:=w) (base:=base) (Dz X G e_LW) mL ML yG ve zF vf yi;have zh:=qT mL ML k1 k2 yG yZ D_po G_po yO;have G_ww:=uj (P:=l.prog) (w:=w) (base:=base) mO kO D_ww vf;have zS:=qC (Dz X G e_LW) vC vQ D_ww G_ww vt vM vm vy yV;have zg:=rL (Dz X G e_LM) vC vQ D_ww G_ww yN;have zf:=rJ (Dz X G e_MM) yN zg yM ve yy vf;have xA:=qx (P:=l.prog) (w:=w) (base:=base) wV vj vf;have yW:=qU wV xA yl vg vf yj;have G_sf:=tL (P:=l.prog) (w:=w) (base:=base) D_sf vf;have zd:=rV wV xA D_sf G_sf yK vg vf xG;have G_rp:=uh yl yW D_rp vj;have vP:=nS vh vi vB vg;have zb:=sr vh vi vB vP yI vg vf;have xE:=sS (P:=l.prog) (w:=w) (base:=base) xu vg vf xG yj;have za:=sE xu xE yH vg vf;have G_br:=uN (P:=l.prog) (w:=w) (base:=base) D_br vf;have zc:=rX xu (xE.mono (by decide)) yJ vf vg zE vz;have xx:=qi (P:=l.prog) (w:=w) (base:=base) M vo;have JZ:=uD MC yM (zf.mono (by decide)) IW;have G_tx:=tZ (P:=l.prog) (w:=w) (base:=base) (mg:=mg) MC D_tx;have G_re:=tQ (Dz X G e_LW) MC yV (zS.mono (by decide)) D_tx (G_tx.mono (by decide)) vm vy D_re vf;have G_tk:=uB MC D_tx (G_tx.mono (by decide)) vL wU D_tk vf;have G_wy:=tM MC yl (yW.mono (by decide)) D_tx (G_tx.mono (by decide)) D_wy;have G_ls:=uI MC yK (zd.mono (by decide)) D_tx (G_tx.mono (by decide)) D_ls;have G_pl:=tN MC D_rp (G_rp.mono (by decide)) D_tx (G_tx.mono (by decide)) D_pl;have G_rs:=uA MC D_br (G_br.mono (by decide)) D_pl (G_pl.mono (by decide)) D_tx (G_tx.mono (by decide)) D_rs vz;have G_tb:=uM MC yO (zh.mono (by decide)) D_tx (G_tx.mono (by decide)) D_tb;have yh:=sj MC xu (xE.mono (by decide)) vp (vA.mono (by decide)) yH (za.mono (by decide)) yL (ze.mono (by decide)) yJ (zc.mono (by decide)) D_tx (G_tx.mono (by decide)) D_tb (G_tb.mono (by decide)) D_ls (G_ls.mono (by decide)) D_wy (G_wy.mono (by decide)) D_rs (G_rs.mono (by decide)) D_pl (G_pl.mono (by decide)) xP vf vg;have GS:=ux MC vk vn yf yg D_re (G_re.mono (by decide)) vo xx GK;have xQ:=su MC vk vn ym D_tk (G_tk.mono (by decide)) vo xx xO;have Ka:=uv MC vh (vi.mono (by decide)) vp (vA.mono (by decide)) GK (GS.mono (by decide)) D_tx (G_tx.mono (by decide)) JC vf;have Ko:=ua MC vp (vA.mono (by decide)) GK (GS.mono (by decide)) xO (xQ.mono (by decide)) xP (yh.mono (by decide)) D_tx (G_tx.mono (by decide)) Kc vf vg;have Al:All C l.prog w K mg base ⟨d_draws,d_draw,d_piece,d_lmk,d_ofl,d_rb,d_tbk,d_rr,d_bl,d_mri,Ks⟩:=
  ⟨vN,vh,vB,yI,vp,GK,xO,JC,Kc,xP,IW,wW,vi,vP,zb,vA,GS,xQ,Ka,Ko,yh,JZ,MC,MK,ye,vg,vf⟩
 exact sd Al zT
theorem walk{l:W.OpenLaw}{q:Program}{loose:List Str}{XP:(Str->Option Value)->Heap->Prop}{YP:World->Heap->Prop}{d:DefRec}{K:Params->W.Frag}(hn:l.most=some 63)(hdf:d.params.defaults=[])
  (hY:∀(w:World)(h:Heap),YP w h->(K w.params).In h)
  (F:∀(w:World) (mg:Str->Option Value) (fa:Addr) (h:Heap),(K w.params).In h->h.Ns mainGlobals mg->mg d.name=some (.ref fa) ->
   ∃fd:FuncData,(∀(s:Shared) (u:Value),BindsTo s fd ⟨[u],[]⟩ [("script",u)])/\∀base:Heap,(K w.params).In base->base.Ns mainGlobals mg->DY l.prog w (K w.params) mg base CX0 10 fa fd ["script"] (oB (K w.params))) :
  W.WalkO q loose XP YP l.row.toRowW d [] (fun f vs=>PySem.call f vs):=
 L2.IS (n:=63) (k:=10) (x:="script") (CX:=fun _=>CX0) (sp:=fun w=>oB (K w.params)) hn (by decide) hdf ⟨rfl,by decide,by decide⟩ hY F (fun _ _ a ns hl _ hS=>⟨a,ns,rfl,hS,hl,fun _=>rfl⟩) fun _ _ _ _ _ z=>z
end K3
namespace Hd
open PySem PySem.W PyProof.Rows
noncomputable section
def run (den:Code->Sem Fin)(ok:Nat->Option Value->Thread->Bool)(st:(Code->Sem Fin)->Program->World->SharedT->Thread->Option (SharedT×Thread))(p:Program)(w:World)(m:Nat)(ann:Option Value):Nat->SharedT->Thread->Option SharedT
 |0,_,_=>none
 |n+1,s,t=>match through t with
  |true=>some s
  |false=>match ok m ann t with
   |false=>none
   |true=>match st den p w s t with
    |some r=>run den ok st p w m ann n r.1 r.2
    |none=>none
theorem pH{tb:String->Option Builtin}{p:Program}{w:World}{m:Nat}{ann:Option Value}:∀{n:Nat}{s r:SharedT}{t:Thread},run (denote tb) stepOk stepT p w m ann n s t=some r->topRun tb p w m ann n s.abs t=some r.abs
 |0,_,_,_,h=>by cases h
 |n+1,s,r,t,h=>by
  unfold run at h;unfold topRun;cases ht:through t with
  |true=>rw[ht] at h;cases h;rfl
  |false=>
   rw[ht] at h;cases hk:stepOk m ann t with
   |false=>rw[hk] at h;cases h
   |true=>
    rw[hk] at h;cases hs:stepT (denote tb) p w s t with
    |none=>rw[hs] at h;cases h
    |some r=>rw[hs] at h;rw[stepT_spec hs];exact pH h
def grow:List Obj->Nat->BT->BT
 |[],_,t=>t
 |o::l,n,t=>grow l (n+1) (t.ins n o)
def tX(P:Params):BT:=grow (boot_heap P).objs.toList 0 .nil
abbrev first(w:World)(os:OsState):SharedT:=⟨tX w.params,(boot_heap w.params).objs.size,(boot_heap w.params).life,#[],boot_drawn,boot_toks,os⟩
theorem mU(w:World)(os:OsState):(first w os).abs=⟨boot_heap w.params,#[],boot_drawn,boot_toks,os⟩:=by kernel_rfl
def sT(P:Params):Option Value:=(boot_heap P).nsMap mainGlobals "__annotations__"
def rD(seenF:Program->List Str->List Str->(Shared->Bool)->Bool->Shared->_)(p q:Program)(loose:List Str)(Xt:Shared->Bool)(as:List Addr)(h:Heap)(s:Shared):=
 ((staticsOk (importedModules p.main.body) h s.heap&&namesBound p s.heap&&gensDone s&&laidKept h s.heap),(seenF q loose (importedModules p.main.body) Xt true s:type_of% (openSeen q loose (importedModules p.main.body) Xt true s)),as.map s.heap.get?)
abbrev rj(den:Code->Sem Fin)(ok:Nat->Option Value->Thread->Bool)(st:(Code->Sem Fin)->Program->World->SharedT->Thread->Option (SharedT×Thread))
  (seenF:(q:Program)->(loose mods:List Str)->(Xt:Shared->Bool)->Bool->(s:Shared)->type_of% (openSeen q loose mods Xt true s))(p q:Program)(loose:List Str)(Xt:Shared->Bool)(K:Params->Frag)(as:List Addr)(N:Nat)(w:World):Prop:=
 (fun os=>(run den ok st p w (boot_heap w.params).objs.size (sT w.params) N (first w os) (topStub p)).map fun s=>rD seenF p q loose Xt as (boot_heap w.params) s.abs)=fun _=>some (true,openGood q loose,(K w.params).map fun x=>some x.2)
theorem left{p q:Program}{loose:List Str}{Xt:Shared->Bool}{K:Params->Frag}{as:List Addr}{N:Nat}(e:opening p=plainProg p.main.scope.names)(hN:Nat.ble 600 N=true)(f:∀s,fenceModules? p s=some s)
  (size:∀P:Params,(boot_heap P).isNs mainGlobals=true)(key:∀w,rj (denote treeTable) stepOk stepT openSeen p q loose Xt K as N w) :
  LeftO p q loose Xt (fun s=>as.map s.heap.get?) (fun w=>(K w.params).map fun x=>some x.2) N true:=fun w=>by
 obtain⟨⟨h,gs,d,k,os⟩,e1,e2⟩:=BO.mp (boot_open (p:=p) (N:=N) e hN f w);obtain⟨rfl,rfl,rfl,rfl⟩:h=boot_heap w.params/\gs=Array.mk []/\d=boot_drawn/\k=boot_toks:=by simpa using e2
 obtain⟨s,r,l⟩:=BO.mp (congrFun (key w) os);have r':=pH r;rw[mU] at r';unfold rD at l;obtain⟨l1,l2,l3⟩:_/\_/\_:=by simpa only [Prod.mk.injEq] using l
 have t:topFrom treeTable p w N ⟨boot_heap w.params,#[],boot_drawn,boot_toks,os⟩=some s.abs:=by
  unfold topFrom;dsimp only;rw[size w.params];show(topRun treeTable p w (boot_heap w.params).objs.size (sT w.params) N _ _).bind _=_;rw[r'];show(match staticsOk (importedModules p.main.body) (boot_heap w.params) s.abs.heap&&namesBound p s.abs.heap&&gensDone s.abs&&laidKept (boot_heap w.params) s.abs.heap with|true=>_|false=>_)=_;rw[l1]
 unfold openEnds;rw[e1];show(topFrom treeTable p w N _).map _=_;rw[t];exact congrArg some (Prod.ext l2 l3)
abbrev en(P:Params)(x:Str)(t:Tok)(v:Value):DictEntry:=⟨PyData.keyHash P x,.str x t,v⟩
abbrev dn:=PySem.W.Fast.tw11892475500146522536 PySem.W.Fast.tw14364793385576792824
abbrev jP(p q:Program)(loose:List Str)(Xt:Shared->Bool)(K:Params->Frag)(as:List Addr)(N:Nat)(w:World):Prop:=rj dn PySem.W.Fast.tw6613529449190102663 PySem.W.Fast.tw10156331382660048174 PySem.W.Fast.tw4187177175401517315 p q loose Xt K as N w
theorem key1{p q:Program}{loose:List Str}{Xt:Shared->Bool}{K:Params->Frag}{as:List Addr}{N:Nat}(h:∀w:World,jP p q loose Xt K as N w):∀w,rj (denote treeTable) stepOk stepT openSeen p q loose Xt K as N w:=fun w=>by
 rw[PySem.W.Fast.te10156331382660048174,PySem.W.Fast.te11892475500146522536,PySem.W.Fast.te14364793385576792824,PySem.W.Fast.te6613529449190102663,PySem.W.Fast.te4187177175401517315];exact h w
theorem key2{p q:Program}{loose:List Str}{Xt:Shared->Bool}{K:Params->Frag}{as:List Addr}{N:Nat}(row:String)(hf:∀w:World,jP p q loose Xt K as N (w.withFollow row false))(ht:∀w:World,jP p q loose Xt K as N (w.withFollow row true)):∀w,rj (denote treeTable) stepOk stepT openSeen p q loose Xt K as N w:=
 key1 fun w=>byRow2 (P:=fun w=>jP p q loose Xt K as N w) row hf ht w
abbrev xt(l:OpenLaw)(q:Program)(s:Shared):Bool:=xlAt q [] s&&recOk (RowW.records l.row.toRowW) s
theorem rY(P:Params):(boot_heap P).isNs mainGlobals=true:=by kernel_rfl
theorem head{l:OpenLaw}{q:Program}{loose:List Str}{K:Params->Frag}{as:List Addr}{N:Nat}{d:DefRec}(said:l.wellSaid=true)(e:opening l.prog=plainProg l.prog.main.scope.names)(hN:Nat.ble 600 N=true)(f:∀s,fenceModules? l.prog s=some s)
  (key:∀w,rj (denote treeTable) stepOk stepT openSeen l.prog q loose (xt l q) K as N w)(hK:∀P,as=(K P).map (·.1))
  (hdef:defOf q l.row.name=some (d,[]))(hp:l.row.prog.theDef l.row.name=some (d.params,d.body,d.scope))(hk:kwWritten? d.params.kwonlyargs d.params.kw_defaults=some [])(hwr:(!l.row.writes||l.row.records.isEmpty)=true)
  (ok:(chainsOk q&&opensWell l.row.prog&&(frees l.row.toRowW&&l.row.within.isEmpty))=true)(hb:l.row.prog.bare)(hw:l.row.toRowW.promised)
  (call:WalkO q loose (XL q []) (InK K) l.row.toRowW d [] fun f vs=>PySem.call f vs):l.Holds:=
 holds_law said fun k1=>holds_open (Xt:=xt l q) (left e hN f rY key) (InK.of hK) InK.keeps (fun s e=>xl_of s (Bool.and_eq_true_iff.mp e).1) XL.keeps hdef hp hk (fun s e=>recFacts_of (Bool.and_eq_true_iff.mp e).2) hwr k1 ok hb hw call
end
end Hd
namespace Hd
open PySem PySem.W PyProof.Rows L2 K3
noncomputable section
abbrev pw:=PySem.Challenge.pw_quadwords_k33_whole_long_mills
def loose:List Str:=["LETTERS"]
def keep:List Nat:=[1,2,3,4,5,6,7,8,9,10,11,12,14,15,16,17,18,19,21,22,23,24,25,26,27,29,30,31,32,33,34,35,36,37,39,40,42,43,44,45,46,47,48,49,50,51,52,53,54,55,56,57,58,59]
abbrev cO(n:Str)(t t1 t2:Nat)(l a f:Int)(v1 v2 v3 v4 v5 v6:Value)(u:Int)(t3:Nat):Obj:=⟨.type "code",none,.fields #[.str n t,.str n t1,.str "/claim/cut.py" t2,.int l 0,.int a 0,.int 0 0,.int 0 0,.int f 0,v1,.bool true,.int 181 0,v2,v3,v4,v5,v6,.int u 0,.int l 0,.str "/claim/cut.py" t3],#[]⟩
abbrev fO(n:Str)(s:Stmt)(m:Value)(c:Addr):Obj:=⟨.type "function",none,.func (PySem.W.fnOf n n (aU s) (aN s) (ai s) .none .none .none m none (.ref c) .none),#[]⟩
def o3(P:Params):Obj:=⟨.type "dict",none,(.dict #[en P "__name__" 165 (.str "law_quadwords_k33_whole_long_mills" 642),en P "__doc__" 166 .none,en P "__package__" 167 .none,en P "__loader__" 168 (.builtin "__main__.__loader__#opaque"),en P "__spec__" 169 .none,en P "__annotations__" 170 (.ref 6),en P "__builtins__" 171 (.ref 4),en P "__file__" 173 (.str "/claim/cut.py" 172),en P "__cached__" 174 .none,en P "QuadError" 206 (.ref 24),en P "NoBack" 222 (.ref 37),en P "NoWord" 238 (.ref 49),en P "NoPlain" 254 (.ref 61),en P "NoWide" 270 (.ref 73),en P "TooLong" 286 (.ref 85),en P "NoMakers" 302 (.ref 97),en P "NoCount" 318 (.ref 109),en P "NoText" 334 (.ref 121),en P "NoName" 350 (.ref 133),en P "NoRow" 366 (.ref 145),en P "NoMill" 382 (.ref 157),en P "ONE" 389 (.ref 160),en P "is_whole" 396 (.ref 167),en P "is_table" 402 (.ref 172),en P "product" 418 (.ref 179),en P "product_of" 427 (.ref 186),en P "worth" 438 (.ref 193),en P "LETTERS" 453 (.ref 194),en P "LONGEST_WORD" 455 (.int 400 454),en P "is_plain" 462 (.ref 203),en P "is_word" 468 (.ref 208),en P "table_of" 474 (.ref 213),en P "word_within" 487 (.ref 220),en P "word_of" 495 (.ref 227),en P "MOST_MAKERS" 499 (.int 8 498),en P "LONGEST_MAKER" 501 (.int 40 500),en P "maker_word" 509 (.ref 234),en P "maker_words" 515 (.ref 239),en P "last_steps" 521 (.ref 244),en P "ways_to_places" 527 (.ref 249),en P "shortest_first" 534 (.ref 256),en P "least_to_places" 540 (.ref 261),en P "reached_places" 546 (.ref 266),en P "begun_rests" 554 (.ref 271),en P "Mill" 641 (.ref 342),en P "_law_draw" 652 (.ref 353),en P "_law_times" 664 (.ref 360),en P "_law_made" 673 (.ref 367),en P "_law_of_letters" 679 (.ref 372),en P "_law_kind" 685 (.ref 377),en P "_law_read_by" 696 (.ref 384),en P "_law_counts" 702 (.ref 389),en P "_law_first_row" 708 (.ref 394),en P "_law_whole" 715 (.ref 401),en P "_law_rests" 721 (.ref 406),en P "_law_mill_right" 727 (.ref 411),en P "_law_taken_back" 737 (.ref 418),en P "_law_draws" 748 (.ref 425),en P "_law_piece" 754 (.ref 430),en P "_law_makers" 769 (.ref 437),en P "_law_refusals_right" 783 (.ref 444),en P "_law_by_letters" 796 (.ref 451),en P "law" 802 (.ref 456)] 63),#[]⟩
def o23(P:Params):Obj:=⟨.type "dict",none,(.dict #[en P "__module__" 196 (.str "quadwords.errors" 187),en P "__firstlineno__" 200 (.int 2 199),en P "__static_attributes__" 201 (.ref 22),en P "__weakref__" 203 (.ref 25),en P "__doc__" 204 .none] 3),#[]⟩
def o24(P:Params):Obj:=⟨.type "type",none,(.cls ⟨"QuadError",[.type "ValueError"],[.ref 24,.type "ValueError",.type "Exception",.type "BaseException",.type "object"],23,"QuadError",true,[],[.ref 37,.ref 49,.ref 61,.ref 73,.ref 85,.ref 97,.ref 109,.ref 121,.ref 133,.ref 145,.ref 157],false,none,false⟩),#[some (.ref 15),none,some (.str "QuadError" 189),some (.str "QuadError" 197),some (.builtin "ValueError.__new__"),some (.bool true)]⟩
def tw1(P:Params)(n5 n13 n17 n21 n23 n27:Nat)(z15:Int):Obj:=⟨.type "dict",none,(.dict #[en P "__module__" n5 (.str "quadwords.errors" 187),en P "__firstlineno__" n13 (.int z15 n17),en P "__static_attributes__" n21 (.ref n23),en P "__doc__" n27 .none] 2),#[]⟩
def o36(P:Params):Obj:=tw1 P 214 218 217 219 35 220 4
def tw2(P:Params)(n7 n19 n23 n27 n31:Nat)(s3:Str):Obj:=⟨.type "type",none,(.cls ⟨s3,[.ref 24],[.ref n7,.ref 24,.type "ValueError",.type "Exception",.type "BaseException",.type "object"],n19,s3,true,[],[],false,none,false⟩),#[some (.ref n23),none,some (.str s3 n27),some (.str s3 n31),some (.builtin "ValueError.__new__"),some (.bool true)]⟩
def o37(P:Params):Obj:=tw2 P 37 36 28 207 215 "NoBack"
def o48(P:Params):Obj:=tw1 P 230 234 233 235 47 236 6
def o49(P:Params):Obj:=tw2 P 49 48 40 223 231 "NoWord"
def o60(P:Params):Obj:=tw1 P 246 250 249 251 59 252 8
def o61(P:Params):Obj:=tw2 P 61 60 52 239 247 "NoPlain"
def o72(P:Params):Obj:=tw1 P 262 266 265 267 71 268 10
def o73(P:Params):Obj:=tw2 P 73 72 64 255 263 "NoWide"
def o84(P:Params):Obj:=tw1 P 278 282 281 283 83 284 12
def o85(P:Params):Obj:=tw2 P 85 84 76 271 279 "TooLong"
def o96(P:Params):Obj:=tw1 P 294 298 297 299 95 300 14
def o97(P:Params):Obj:=tw2 P 97 96 88 287 295 "NoMakers"
def o108(P:Params):Obj:=tw1 P 310 314 313 315 107 316 16
def o109(P:Params):Obj:=tw2 P 109 108 100 303 311 "NoCount"
def o120(P:Params):Obj:=tw1 P 326 330 329 331 119 332 18
def o121(P:Params):Obj:=tw2 P 121 120 112 319 327 "NoText"
def o132(P:Params):Obj:=tw1 P 342 346 345 347 131 348 20
def o133(P:Params):Obj:=tw2 P 133 132 124 335 343 "NoName"
def o144(P:Params):Obj:=tw1 P 358 362 361 363 143 364 22
def o145(P:Params):Obj:=tw2 P 145 144 136 351 359 "NoRow"
def o156(P:Params):Obj:=tw1 P 374 378 377 379 155 380 24
def o157(P:Params):Obj:=tw2 P 157 156 148 367 375 "NoMill"
def tw3(P:Params)(n5 n9 n13 n17:Nat)(z7 z11:Int):Obj:=⟨.type "tuple",none,(.seq #[.int 1 n5,.int z7 n9,.int z11 n13,.int 1 n17] 0),#[]⟩
def o160(P:Params):Obj:=tw3 P 385 386 387 388 0 0
def o166(P:Params):Obj:=cO "is_whole" 390 391 392 28 1 3 (.ref 161) (.ref 162) .none (.ref 163) (.ref 164) (.ref 165) 394 395
def o167(P:Params):Obj:=fO "is_whole" (top 15) (.str "quadwords.tables" 383) 166
def o171(P:Params):Obj:=cO "is_table" 397 398 399 30 1 3 (.ref 168) (.ref 169) .none .none .none (.ref 170) 400 401
def o172(P:Params):Obj:=fO "is_table" (top 16) (.str "quadwords.tables" 383) 171
def o178(P:Params):Obj:=cO "product" 403 404 405 32 2 3 (.ref 173) (.ref 174) .none (.ref 175) (.ref 176) (.ref 177) 416 417
def o179(P:Params):Obj:=fO "product" (top 17) (.str "quadwords.tables" 383) 178
def o185(P:Params):Obj:=cO "product_of" 419 420 421 36 1 3 (.ref 180) (.ref 181) .none (.ref 182) (.ref 183) (.ref 184) 425 426
def o186(P:Params):Obj:=fO "product_of" (top 18) (.str "quadwords.tables" 383) 185
def o192(P:Params):Obj:=cO "worth" 428 429 430 41 1 3 (.ref 187) (.ref 188) .none (.ref 189) (.ref 190) (.ref 191) 436 437
def o193(P:Params):Obj:=fO "worth" (top 19) (.str "quadwords.tables" 383) 192
def o194(P:Params):Obj:=⟨.type "dict",none,(.dict #[en P "l" 441 (.ref 195),en P "r" 446 (.ref 196)] 2),#[]⟩
def o195(P:Params):Obj:=tw3 P 442 443 444 445 0 1
def o196(P:Params):Obj:=tw3 P 447 448 449 450 1 0
def o202(P:Params):Obj:=cO "is_plain" 456 457 458 47 1 3 (.ref 197) (.ref 198) .none (.ref 199) (.ref 200) (.ref 201) 460 461
def o203(P:Params):Obj:=fO "is_plain" (top 23) (.str "quadwords.plain" 439) 202
def o207(P:Params):Obj:=cO "is_word" 463 464 465 49 1 3 (.ref 204) (.ref 205) .none .none .none (.ref 206) 466 467
def o208(P:Params):Obj:=fO "is_word" (top 24) (.str "quadwords.plain" 439) 207
def o212(P:Params):Obj:=cO "table_of" 469 470 471 53 1 3 (.ref 209) (.ref 210) .none .none .none (.ref 211) 472 473
def o213(P:Params):Obj:=fO "table_of" (top 25) (.str "quadwords.plain" 439) 212
def o219(P:Params):Obj:=cO "word_within" 475 476 477 57 2 3 (.ref 214) (.ref 215) .none (.ref 216) (.ref 217) (.ref 218) 485 486
def o220(P:Params):Obj:=fO "word_within" (top 26) (.str "quadwords.plain" 439) 219
def o226(P:Params):Obj:=cO "word_of" 488 489 490 70 1 3 (.ref 221) (.ref 222) .none (.ref 223) (.ref 224) (.ref 225) 493 494
def o227(P:Params):Obj:=fO "word_of" (top 27) (.str "quadwords.plain" 439) 226
def o233(P:Params):Obj:=cO "maker_word" 502 503 504 80 1 3 (.ref 228) (.ref 229) .none (.ref 230) (.ref 231) (.ref 232) 507 508
def o234(P:Params):Obj:=fO "maker_word" (top 31) (.str "quadwords.rows" 496) 233
def o238(P:Params):Obj:=cO "maker_words" 510 511 512 87 1 3 (.ref 235) (.ref 236) .none .none .none (.ref 237) 513 514
def o239(P:Params):Obj:=fO "maker_words" (top 32) (.str "quadwords.rows" 496) 238
def o243(P:Params):Obj:=cO "last_steps" 516 517 518 91 3 3 (.ref 240) (.ref 241) .none .none .none (.ref 242) 519 520
def o244(P:Params):Obj:=fO "last_steps" (top 33) (.str "quadwords.rows" 496) 243
def o248(P:Params):Obj:=cO "ways_to_places" 522 523 524 94 2 3 (.ref 245) (.ref 246) .none .none .none (.ref 247) 525 526
def o249(P:Params):Obj:=fO "ways_to_places" (top 34) (.str "quadwords.rows" 496) 248
def o255(P:Params):Obj:=cO "shortest_first" 528 529 530 99 1 3 (.ref 250) (.ref 251) .none (.ref 252) (.ref 253) (.ref 254) 532 533
def o256(P:Params):Obj:=fO "shortest_first" (top 35) (.str "quadwords.rows" 496) 255
def o260(P:Params):Obj:=cO "least_to_places" 535 536 537 101 2 3 (.ref 257) (.ref 258) .none .none .none (.ref 259) 538 539
def o261(P:Params):Obj:=fO "least_to_places" (top 36) (.str "quadwords.rows" 496) 260
def o265(P:Params):Obj:=cO "reached_places" 541 542 543 108 2 3 (.ref 262) (.ref 263) .none .none .none (.ref 264) 544 545
def o266(P:Params):Obj:=fO "reached_places" (top 37) (.str "quadwords.rows" 496) 265
def o270(P:Params):Obj:=cO "begun_rests" 549 550 551 111 2 3 (.ref 267) (.ref 268) .none .none .none (.ref 269) 552 553
def o271(P:Params):Obj:=fO "begun_rests" (top 39) (.str "quadwords.mills" 547) 270
def o284(P:Params):Obj:=⟨.type "code",none,(.fields #[.str "__init__" 567,.str "Mill.__init__" 568,.str "/claim/cut.py" 569,.int 115 0,.int 2 0,.int 0 0,.int 0 0,.int 3 0,.ref 279,.bool true,.int 181 0,.ref 280,.none,.ref 281,.ref 282,.ref 283,.int 572 0,.int 115 0,.str "/claim/cut.py" 573]),#[]⟩
def o285(P:Params):Obj:=⟨.type "function",none,(.func (PySem.W.fnOf "__init__" "Mill.__init__" (aU (bo 0)) (aN (bo 0)) (ai (bo 0)) .none .none .none (.str "quadwords.mills" 547) none (.ref 284) .none)),#[]⟩
def o291(P:Params):Obj:=⟨.type "code",none,(.fields #[.str "read" 575,.str "Mill.read" 576,.str "/claim/cut.py" 577,.int 119 0,.int 2 0,.int 0 0,.int 0 0,.int 3 0,.ref 286,.bool true,.int 181 0,.ref 287,.none,.ref 288,.ref 289,.ref 290,.int 581 0,.int 119 0,.str "/claim/cut.py" 582]),#[]⟩
def o292(P:Params):Obj:=⟨.type "function",none,(.func (PySem.W.fnOf "read" "Mill.read" (aU (bo 1)) (aN (bo 1)) (ai (bo 1)) .none .none .none (.str "quadwords.mills" 547) none (.ref 291) .none)),#[]⟩
def o298(P:Params):Obj:=⟨.type "code",none,(.fields #[.str "take_back" 584,.str "Mill.take_back" 585,.str "/claim/cut.py" 586,.int 126 0,.int 1 0,.int 0 0,.int 0 0,.int 3 0,.ref 293,.bool true,.int 181 0,.ref 294,.none,.ref 295,.ref 296,.ref 297,.int 588 0,.int 126 0,.str "/claim/cut.py" 589]),#[]⟩
def o299(P:Params):Obj:=⟨.type "function",none,(.func (PySem.W.fnOf "take_back" "Mill.take_back" (aU (bo 2)) (aN (bo 2)) (ai (bo 2)) .none .none .none (.str "quadwords.mills" 547) none (.ref 298) .none)),#[]⟩
def o305(P:Params):Obj:=⟨.type "code",none,(.fields #[.str "text" 591,.str "Mill.text" 592,.str "/claim/cut.py" 593,.int 132 0,.int 1 0,.int 0 0,.int 0 0,.int 3 0,.ref 300,.bool true,.int 181 0,.ref 301,.none,.ref 302,.ref 303,.ref 304,.int 595 0,.int 132 0,.str "/claim/cut.py" 596]),#[]⟩
def o306(P:Params):Obj:=⟨.type "function",none,(.func (PySem.W.fnOf "text" "Mill.text" (aU (bo 3)) (aN (bo 3)) (ai (bo 3)) .none .none .none (.str "quadwords.mills" 547) none (.ref 305) .none)),#[]⟩
def o312(P:Params):Obj:=⟨.type "code",none,(.fields #[.str "table" 598,.str "Mill.table" 599,.str "/claim/cut.py" 600,.int 135 0,.int 1 0,.int 0 0,.int 0 0,.int 3 0,.ref 307,.bool true,.int 181 0,.ref 308,.none,.ref 309,.ref 310,.ref 311,.int 602 0,.int 135 0,.str "/claim/cut.py" 603]),#[]⟩
def o313(P:Params):Obj:=⟨.type "function",none,(.func (PySem.W.fnOf "table" "Mill.table" (aU (bo 4)) (aN (bo 4)) (ai (bo 4)) .none .none .none (.str "quadwords.mills" 547) none (.ref 312) .none)),#[]⟩
def o319(P:Params):Obj:=⟨.type "code",none,(.fields #[.str "ways" 605,.str "Mill.ways" 606,.str "/claim/cut.py" 607,.int 138 0,.int 1 0,.int 0 0,.int 0 0,.int 3 0,.ref 314,.bool true,.int 181 0,.ref 315,.none,.ref 316,.ref 317,.ref 318,.int 609 0,.int 138 0,.str "/claim/cut.py" 610]),#[]⟩
def o320(P:Params):Obj:=⟨.type "function",none,(.func (PySem.W.fnOf "ways" "Mill.ways" (aU (bo 5)) (aN (bo 5)) (ai (bo 5)) .none .none .none (.str "quadwords.mills" 547) none (.ref 319) .none)),#[]⟩
def o326(P:Params):Obj:=⟨.type "code",none,(.fields #[.str "least" 612,.str "Mill.least" 613,.str "/claim/cut.py" 614,.int 141 0,.int 1 0,.int 0 0,.int 0 0,.int 3 0,.ref 321,.bool true,.int 181 0,.ref 322,.none,.ref 323,.ref 324,.ref 325,.int 616 0,.int 141 0,.str "/claim/cut.py" 617]),#[]⟩
def o327(P:Params):Obj:=⟨.type "function",none,(.func (PySem.W.fnOf "least" "Mill.least" (aU (bo 6)) (aN (bo 6)) (ai (bo 6)) .none .none .none (.str "quadwords.mills" 547) none (.ref 326) .none)),#[]⟩
def o333(P:Params):Obj:=⟨.type "code",none,(.fields #[.str "places" 619,.str "Mill.places" 620,.str "/claim/cut.py" 621,.int 144 0,.int 1 0,.int 0 0,.int 0 0,.int 3 0,.ref 328,.bool true,.int 181 0,.ref 329,.none,.ref 330,.ref 331,.ref 332,.int 623 0,.int 144 0,.str "/claim/cut.py" 624]),#[]⟩
def o334(P:Params):Obj:=⟨.type "function",none,(.func (PySem.W.fnOf "places" "Mill.places" (aU (bo 7)) (aN (bo 7)) (ai (bo 7)) .none .none .none (.str "quadwords.mills" 547) none (.ref 333) .none)),#[]⟩
def o338(P:Params):Obj:=⟨.type "code",none,(.fields #[.str "rests" 626,.str "Mill.rests" 627,.str "/claim/cut.py" 628,.int 147 0,.int 1 0,.int 0 0,.int 0 0,.int 3 0,.ref 335,.bool true,.int 181 0,.ref 336,.none,.none,.none,.ref 337,.int 629 0,.int 147 0,.str "/claim/cut.py" 630]),#[]⟩
def o339(P:Params):Obj:=⟨.type "function",none,(.func (PySem.W.fnOf "rests" "Mill.rests" (aU (bo 8)) (aN (bo 8)) (ai (bo 8)) .none .none .none (.str "quadwords.mills" 547) none (.ref 338) .none)),#[]⟩
def o341(P:Params):Obj:=⟨.type "dict",none,(.dict #[en P "__module__" 562 (.str "quadwords.mills" 547),en P "__firstlineno__" 566 (.int 113 565),en P "__init__" 574 (.ref 285),en P "read" 583 (.ref 292),en P "take_back" 590 (.ref 299),en P "text" 597 (.ref 306),en P "table" 604 (.ref 313),en P "ways" 611 (.ref 320),en P "least" 618 (.ref 327),en P "places" 625 (.ref 334),en P "rests" 631 (.ref 339),en P "__static_attributes__" 634 (.ref 340),en P "__dict__" 636 (.ref 343),en P "__weakref__" 638 (.ref 344),en P "__doc__" 639 .none] 4),#[]⟩
def o342(P:Params):Obj:=⟨.type "type",none,(.cls ⟨"Mill",[.type "object"],[.ref 342,.type "object"],341,"Mill",true,[],[],false,none,false⟩),#[none,none,some (.str "Mill" 555),some (.str "Mill" 563),some (.builtin "object.__new__"),some (.bool true)]⟩
def o352(P:Params):Obj:=cO "_law_draw" 644 645 646 152 2 3 (.ref 347) (.ref 348) .none (.ref 349) (.ref 350) (.ref 351) 650 651
def o353(P:Params):Obj:=fO "_law_draw" (top 42) (.str "law_quadwords_k33_whole_long_mills" 642) 352
def o359(P:Params):Obj:=cO "_law_times" 653 654 655 159 2 3 (.ref 354) (.ref 355) .none (.ref 356) (.ref 357) (.ref 358) 662 663
def o360(P:Params):Obj:=fO "_law_times" (top 43) (.str "law_quadwords_k33_whole_long_mills" 642) 359
def o366(P:Params):Obj:=cO "_law_made" 665 666 667 166 1 3 (.ref 361) (.ref 362) .none (.ref 363) (.ref 364) (.ref 365) 671 672
def o367(P:Params):Obj:=fO "_law_made" (top 44) (.str "law_quadwords_k33_whole_long_mills" 642) 366
def o371(P:Params):Obj:=cO "_law_of_letters" 674 675 676 171 1 3 (.ref 368) (.ref 369) .none .none .none (.ref 370) 677 678
def o372(P:Params):Obj:=fO "_law_of_letters" (top 45) (.str "law_quadwords_k33_whole_long_mills" 642) 371
def o376(P:Params):Obj:=cO "_law_kind" 680 681 682 175 1 3 (.ref 373) (.ref 374) .none .none .none (.ref 375) 683 684
def o377(P:Params):Obj:=fO "_law_kind" (top 46) (.str "law_quadwords_k33_whole_long_mills" 642) 376
def o383(P:Params):Obj:=cO "_law_read_by" 686 687 688 182 2 3 (.ref 378) (.ref 379) .none (.ref 380) (.ref 381) (.ref 382) 694 695
def o384(P:Params):Obj:=fO "_law_read_by" (top 47) (.str "law_quadwords_k33_whole_long_mills" 642) 383
def o388(P:Params):Obj:=cO "_law_counts" 697 698 699 190 2 3 (.ref 385) (.ref 386) .none .none .none (.ref 387) 700 701
def o389(P:Params):Obj:=fO "_law_counts" (top 48) (.str "law_quadwords_k33_whole_long_mills" 642) 388
def o393(P:Params):Obj:=cO "_law_first_row" 703 704 705 197 2 3 (.ref 390) (.ref 391) .none .none .none (.ref 392) 706 707
def o394(P:Params):Obj:=fO "_law_first_row" (top 49) (.str "law_quadwords_k33_whole_long_mills" 642) 393
def o400(P:Params):Obj:=cO "_law_whole" 709 710 711 212 1 3 (.ref 395) (.ref 396) .none (.ref 397) (.ref 398) (.ref 399) 713 714
def o401(P:Params):Obj:=fO "_law_whole" (top 50) (.str "law_quadwords_k33_whole_long_mills" 642) 400
def o405(P:Params):Obj:=cO "_law_rests" 716 717 718 214 2 3 (.ref 402) (.ref 403) .none .none .none (.ref 404) 719 720
def o406(P:Params):Obj:=fO "_law_rests" (top 51) (.str "law_quadwords_k33_whole_long_mills" 642) 405
def o410(P:Params):Obj:=cO "_law_mill_right" 722 723 724 222 3 3 (.ref 407) (.ref 408) .none .none .none (.ref 409) 725 726
def o411(P:Params):Obj:=fO "_law_mill_right" (top 52) (.str "law_quadwords_k33_whole_long_mills" 642) 410
def o417(P:Params):Obj:=cO "_law_taken_back" 728 729 730 230 1 3 (.ref 412) (.ref 413) .none (.ref 414) (.ref 415) (.ref 416) 735 736
def o418(P:Params):Obj:=fO "_law_taken_back" (top 53) (.str "law_quadwords_k33_whole_long_mills" 642) 417
def o424(P:Params):Obj:=cO "_law_draws" 738 739 740 238 2 3 (.ref 419) (.ref 420) .none (.ref 421) (.ref 422) (.ref 423) 746 747
def o425(P:Params):Obj:=fO "_law_draws" (top 54) (.str "law_quadwords_k33_whole_long_mills" 642) 424
def o429(P:Params):Obj:=cO "_law_piece" 749 750 751 248 2 3 (.ref 426) (.ref 427) .none .none .none (.ref 428) 752 753
def o430(P:Params):Obj:=fO "_law_piece" (top 55) (.str "law_quadwords_k33_whole_long_mills" 642) 429
def o436(P:Params):Obj:=cO "_law_makers" 755 756 757 254 1 3 (.ref 431) (.ref 432) .none (.ref 433) (.ref 434) (.ref 435) 767 768
def o437(P:Params):Obj:=fO "_law_makers" (top 56) (.str "law_quadwords_k33_whole_long_mills" 642) 436
def o443(P:Params):Obj:=cO "_law_refusals_right" 770 771 772 268 3 3 (.ref 438) (.ref 439) .none (.ref 440) (.ref 441) (.ref 442) 781 782
def o444(P:Params):Obj:=fO "_law_refusals_right" (top 57) (.str "law_quadwords_k33_whole_long_mills" 642) 443
def o450(P:Params):Obj:=cO "_law_by_letters" 784 785 786 277 3 3 (.ref 445) (.ref 446) .none (.ref 447) (.ref 448) (.ref 449) 794 795
def o451(P:Params):Obj:=fO "_law_by_letters" (top 58) (.str "law_quadwords_k33_whole_long_mills" 642) 450
def o455(P:Params):Obj:=cO "law" 797 798 799 295 1 3 (.ref 452) (.ref 453) .none .none .none (.ref 454) 800 801
def o456(P:Params):Obj:=fO "law" (top 59) (.str "law_quadwords_k33_whole_long_mills" 642) 455
def K(P:Params):Frag:=(nat_lit 3,o3 P)::(nat_lit 23,o23 P)::(nat_lit 24,o24 P)::(nat_lit 36,o36 P)::(nat_lit 37,o37 P)::(nat_lit 48,o48 P)::(nat_lit 49,o49 P)::(nat_lit 60,o60 P)::(nat_lit 61,o61 P)::(nat_lit 72,o72 P)::(nat_lit 73,o73 P)::(nat_lit 84,o84 P)::(nat_lit 85,o85 P)::(nat_lit 96,o96 P)::(nat_lit 97,o97 P)::(nat_lit 108,o108 P)::(nat_lit 109,o109 P)::(nat_lit 120,o120 P)::(nat_lit 121,o121 P)::(nat_lit 132,o132 P)::(nat_lit 133,o133 P)::(nat_lit 144,o144 P)::(nat_lit 145,o145 P)::(nat_lit 156,o156 P)::(nat_lit 157,o157 P)::(nat_lit 160,o160 P)::(nat_lit 166,o166 P)::(nat_lit 167,o167 P)::(nat_lit 171,o171 P)::(nat_lit 172,o172 P)::(nat_lit 178,o178 P)::(nat_lit 179,o179 P)::(nat_lit 185,o185 P)::(nat_lit 186,o186 P)::(nat_lit 192,o192 P)::(nat_lit 193,o193 P)::(nat_lit 194,o194 P)::(nat_lit 195,o195 P)::(nat_lit 196,o196 P)::(nat_lit 202,o202 P)::(nat_lit 203,o203 P)::(nat_lit 207,o207 P)::(nat_lit 208,o208 P)::(nat_lit 212,o212 P)::(nat_lit 213,o213 P)::(nat_lit 219,o219 P)::(nat_lit 220,o220 P)::(nat_lit 226,o226 P)::(nat_lit 227,o227 P)::(nat_lit 233,o233 P)::(nat_lit 234,o234 P)::(nat_lit 238,o238 P)::(nat_lit 239,o239 P)::(nat_lit 243,o243 P)::(nat_lit 244,o244 P)::(nat_lit 248,o248 P)::(nat_lit 249,o249 P)::(nat_lit 255,o255 P)::(nat_lit 256,o256 P)::(nat_lit 260,o260 P)::(nat_lit 261,o261 P)::(nat_lit 265,o265 P)::(nat_lit 266,o266 P)::(nat_lit 270,o270 P)::(nat_lit 271,o271 P)::(nat_lit 284,o284 P)::(nat_lit 285,o285 P)::(nat_lit 291,o291 P)::(nat_lit 292,o292 P)::(nat_lit 298,o298 P)::(nat_lit 299,o299 P)::(nat_lit 305,o305 P)::(nat_lit 306,o306 P)::(nat_lit 312,o312 P)::(nat_lit 313,o313 P)::(nat_lit 319,o319 P)::(nat_lit 320,o320 P)::(nat_lit 326,o326 P)::(nat_lit 327,o327 P)::(nat_lit 333,o333 P)::(nat_lit 334,o334 P)::(nat_lit 338,o338 P)::(nat_lit 339,o339 P)::(nat_lit 341,o341 P)::(nat_lit 342,o342 P)::(nat_lit 352,o352 P)::(nat_lit 353,o353 P)::(nat_lit 359,o359 P)::(nat_lit 360,o360 P)::(nat_lit 366,o366 P)::(nat_lit 367,o367 P)::(nat_lit 371,o371 P)::(nat_lit 372,o372 P)::(nat_lit 376,o376 P)::(nat_lit 377,o377 P)::(nat_lit 383,o383 P)::(nat_lit 384,o384 P)::(nat_lit 388,o388 P)::(nat_lit 389,o389 P)::(nat_lit 393,o393 P)::(nat_lit 394,o394 P)::(nat_lit 400,o400 P)::(nat_lit 401,o401 P)::(nat_lit 405,o405 P)::(nat_lit 406,o406 P)::(nat_lit 410,o410 P)::(nat_lit 411,o411 P)::(nat_lit 417,o417 P)::(nat_lit 418,o418 P)::(nat_lit 424,o424 P)::(nat_lit 425,o425 P)::(nat_lit 429,o429 P)::(nat_lit 430,o430 P)::(nat_lit 436,o436 P)::(nat_lit 437,o437 P)::(nat_lit 443,o443 P)::(nat_lit 444,o444 P)::(nat_lit 450,o450 P)::(nat_lit 451,o451 P)::(nat_lit 455,o455 P)::(nat_lit 456,o456 P)::[]
def kAs:List Addr:=[3,23,24,36,37,48,49,60,61,72,73,84,85,96,97,108,109,120,121,132,133,144,145,156,157,160,166,167,171,172,178,179,185,186,192,193,194,195,196,202,203,207,208,212,213,219,220,226,227,233,234,238,239,243,244,248,249,255,256,260,261,265,266,270,271,284,285,291,292,298,299,305,306,312,313,319,320,326,327,333,334,338,339,341,342,352,353,359,360,366,367,371,372,376,377,383,384,388,389,393,394,400,401,405,406,410,411,417,418,424,425,429,430,436,437,443,444,450,451,455,456]
set_option maxRecDepth 100000 in
theorem keyF(w:World):jP pw (view pw keep) loose (xt PySem.Challenge.rw_quadwords_k33_whole_long_mills (view pw keep)) K kAs 8528 (w.withFollow "special-get-raises" false):=by kernel_rfl
set_option maxRecDepth 100000 in
theorem keyT(w:World):jP pw (view pw keep) loose (xt PySem.Challenge.rw_quadwords_k33_whole_long_mills (view pw keep)) K kAs 8528 (w.withFollow "special-get-raises" true):=by kernel_rfl
theorem key:∀w,rj (denote treeTable) stepOk stepT openSeen pw (view pw keep) loose (xt PySem.Challenge.rw_quadwords_k33_whole_long_mills (view pw keep)) K kAs 8528 w:=key2 "special-get-raises" keyF keyT
end
end Hd
open PySem PySem.W PyProof.Rows
local macro_rules | `(tactic| walk_at "fin")=>`(tactic| ((refine' K3.FIn.of ?a ?l ?c ?k); (case a=>k_is); (case l=>k_is); (case c=>k_is); (case k=>k_is)))
local macro_rules | `(tactic| walk_at "min")=>`(tactic| ((refine' K3.MIn.of ?a ?l ?c ?k ?i); (case a=>k_is); (case l=>k_is); (case c=>k_is); (case k=>k_is); (case i=>k_is)))
set_option maxRecDepth 100000 in
set_option maxHeartbeats 0 in
theorem PySem.Challenge.cw_quadwords_k33_whole_long_mills_holds : PySem.Challenge.rw_quadwords_k33_whole_long_mills.Holds := by
 w_on
 refine Hd.head (q:=view Hd.pw Hd.keep) (loose:=Hd.loose) (K:=Hd.K) (as:=Hd.kAs) (by decide +kernel) (by kernel_rfl) (by decide) (fun s=>rfl) Hd.key (fun P=>by kernel_rfl) (by rfl) (by rfl) (by rfl) (by rfl) (by decide +kernel) ⟨rfl,rfl,rfl,rfl,rfl,by decide +kernel⟩ ?hw ?hc
 case hw=>w_witness2
 k_fill
 refine K3.walk (l:=PySem.Challenge.rw_quadwords_k33_whole_long_mills) rfl rfl (fun w h Y=>Y) ?F
 case F=>
  intro w mg fa h KX G hmg
  refine' K3.all_mk KX G hmg ?xY ?zu ?zi ?xZ ?xX ?yt ?zB ?yp ?xU ?xW ?yu ?a_po ?zj ?zD ?a_ww ?yx ?zw ?zv ?yr ?yw ?a_sf ?zt ?a_rp ?xV ?zq ?zo ?zp ?a_br ?zr ?yq ?zA ?a_rb ?zC ?a_rr ?a_bl ?yP ?l_law ?c_law ?k_law ?zH ?l_ONE ?z_ONE ?v_ONE ?e_LW ?e_LM ?e_MM ?zG ?l_LET ?s_LET ?l_L1 ?z_L1 ?v_L1 ?l_L2 ?z_L2 ?v_L2 ?yA ?pg_M ?hd_M ?po_M ?sa_M ?nw_M ?nh_M ?mk_M ?kp_M ?a_in ?a_re ?a_tk ?a_tx ?a_tb ?a_wy ?a_ls ?a_pl ?a_rs ?wR ?wZ ?vW ?xI ?vJ ?ya ?xJ ?xK ?xM ?vK ?xH ?vD ?vn ?gn ?tk ?wU ?xr ?xa ?xb ?wX ?xf ?xc ?wY ?xg ?xh ?xi ?xj ?xk ?xl ?xn ?xo ?xp ?xq ?wm ?wo ?vM ?wO ?vX ?vZ ?vS ?wd ?wb ?vU ?wj ?wq ?wx ?wz ?wB ?wD ?wG ?wI ?wK ?wM ?vF ?vH ?vy ?wQ ?vY ?wa ?vT ?we ?wc ?vV ?wk ?wu ?wy ?wA ?wC ?wF ?wH ?wJ ?wL ?wN ?vG ?vI ?zL ?yD ?vw ?yc ?yE ?zQ ?zM ?zK ?yb ?zN ?zO ?zR ?vE ?xN ?zP ?vv
  (case xY=>walk_at "fin")
  (case zu=>walk_at "fin")
  (case zi=>walk_at "fin")
  (case xZ=>walk_at "fin")
  (case xX=>walk_at "fin")
  (case yt=>walk_at "fin")
  (case zB=>walk_at "fin")
  (case yp=>walk_at "fin")
  (case xU=>walk_at "fin")
  (case xW=>walk_at "fin")
  (case yu=>walk_at "fin")
  (case a_po=>walk_at "fin")
  (case zj=>walk_at "fin")
  (case zD=>walk_at "fin")
  (case a_ww=>walk_at "fin")
  (case yx=>walk_at "fin")
  (case zw=>walk_at "fin")
  (case zv=>walk_at "fin")
  (case yr=>walk_at "fin")
  (case yw=>walk_at "fin")
  (case a_sf=>walk_at "fin")
  (case zt=>walk_at "fin")
  (case a_rp=>walk_at "fin")
  (case xV=>walk_at "fin")
  (case zq=>walk_at "fin")
  (case zo=>walk_at "fin")
  (case zp=>walk_at "fin")
  (case a_br=>walk_at "fin")
  (case zr=>walk_at "fin")
  (case yq=>walk_at "fin")
  (case zA=>walk_at "fin")
  (case a_rb=>walk_at "fin")
  (case zC=>walk_at "fin")
  (case a_rr=>walk_at "fin")
  (case a_bl=>walk_at "fin")
  (case yP=>k_is)
  (case l_law=>k_is)
  (case c_law=>k_is)
  (case k_law=>k_is)
  (case zH=>k_is)
  (case l_ONE=>k_is)
  (case z_ONE=>decide)
  (case v_ONE=>exact .cons ⟨_,rfl⟩ (.cons ⟨_,rfl⟩ (.cons ⟨_,rfl⟩ (.cons ⟨_,rfl⟩ .nil))))
  (case e_LW=>k_is)
  (case e_LM=>k_is)
  (case e_MM=>k_is)
  (case zG=>k_is)
  (case l_LET=>k_is)
  (case s_LET=>decide)
  (case l_L1=>k_is)
  (case z_L1=>decide)
  (case v_L1=>exact .cons ⟨_,rfl⟩ (.cons ⟨_,rfl⟩ (.cons ⟨_,rfl⟩ (.cons ⟨_,rfl⟩ .nil))))
  (case l_L2=>k_is)
  (case z_L2=>decide)
  (case v_L2=>exact .cons ⟨_,rfl⟩ (.cons ⟨_,rfl⟩ (.cons ⟨_,rfl⟩ (.cons ⟨_,rfl⟩ .nil))))
  (case yA=>k_is)
  (case pg_M=>kernel_rfl)
  (case hd_M=>kernel_rfl)
  (case po_M=>kernel_rfl)
  (case sa_M=>k_is)
  (case nw_M=>k_is)
  (case nh_M=>k_is)
  (case mk_M=>kernel_rfl)
  (case kp_M=>k_is)
  (case a_in=>walk_at "min")
  (case a_re=>walk_at "min")
  (case a_tk=>walk_at "min")
  (case a_tx=>walk_at "min")
  (case a_tb=>walk_at "min")
  (case a_wy=>walk_at "min")
  (case a_ls=>walk_at "min")
  (case a_pl=>walk_at "min")
  (case a_rs=>walk_at "min")
  (case wR=>k_is)
  (case wZ=>k_is)
  (case vW=>k_is)
  (case xI=>k_is)
  (case vJ=>k_is)
  (case ya=>k_is)
  (case xJ=>k_is)
  (case xK=>k_is)
  (case xM=>k_is)
  (case vK=>k_is)
  (case xH=>k_is)
  (case vD=>k_is)
  (case vn=>k_exc)
  (case gn=>k_is)
  (case tk=>k_is)
  (case wU=>k_exc)
  (case xr=>kernel_rfl)
  (case xa=>k_is)
  (case xb=>k_is)
  (case wX=>k_is)
  (case xf=>k_is)
  (case xc=>k_is)
  (case wY=>k_is)
  (case xg=>kit_is)
  (case xh=>kit_is)
  (case xi=>kit_is)
  (case xj=>kit_is)
  (case xk=>kit_is)
  (case xl=>kit_is)
  (case xn=>kit_is)
  (case xo=>kit_is)
  (case xp=>kit_is)
  (case xq=>kit_is)
  (case wm=>kit_is)
  (case wo=>kit_is)
  (case vM=>k_exc)
  (case wO=>kernel_rfl)
  (case vX=>k_is)
  (case vZ=>k_is)
  (case vS=>k_is)
  (case wd=>k_is)
  (case wb=>k_is)
  (case vU=>k_is)
  (case wj=>kit_is)
  (case wq=>kit_is)
  (case wx=>kit_is)
  (case wz=>kit_is)
  (case wB=>kit_is)
  (case wD=>kit_is)
  (case wG=>kit_is)
  (case wI=>kit_is)
  (case wK=>kit_is)
  (case wM=>kit_is)
  (case vF=>kit_is)
  (case vH=>kit_is)
  (case vy=>k_exc)
  (case wQ=>kernel_rfl)
  (case vY=>k_is)
  (case wa=>k_is)
  (case vT=>k_is)
  (case we=>k_is)
  (case wc=>k_is)
  (case vV=>k_is)
  (case wk=>kit_is)
  (case wu=>kit_is)
  (case wy=>kit_is)
  (case wA=>kit_is)
  (case wC=>kit_is)
  (case wF=>kit_is)
  (case wH=>kit_is)
  (case wJ=>kit_is)
  (case wL=>kit_is)
  (case wN=>kit_is)
  (case vG=>kit_is)
  (case vI=>kit_is)
  (case zL=>k_is)
  (case yD=>k_is)
  (case vw=>k_is)
  (case yc=>k_is)
  (case yE=>k_is)
  (case zQ=>k_is)
  (case zM=>k_is)
  (case zK=>k_is)
  (case yb=>k_is)
  (case zN=>k_is)
  (case zO=>k_is)
  (case zR=>k_is)
  (case vE=>k_is)
  (case xN=>k_is)
  (case zP=>k_is)
  (case vv=>k_is)
