import PyProof.Rows.All
import Wide.All
import OpenK.AllK
import Wide.FinOn
import Lean
import PyProof.EqAt
import PyProof.EqKinds
import PyProof.TupleCall
import PyProof.NsDelKeeps
import PyProof.RulesAs
import PyProof.SumAny
import PyProof.WalksMore
import PyProof.WalkInts
import PyProof.EnumMake
import KE.KMinKey
import PyProof.Rows.Range3
import PyProof.Rows.SortStr
import PyProof.StrLawsIn
import KE.KIntText
import PyProof.ListRange
import KE.KLam
import PyProof.SetRoads
import PyProof.Rows.SetObj
import PyProof.CollectWalk
import PyProof.DictItems
import PyProof.Rows.TupDisplay
import KE.KDictSum
import PyProof.Rows.SetFrom
import PyProof.DictCompW
import PyProof.ListStr
import PyProof.ZipIter
import PyProof.DelItemList
import OpenK.ZGo
import PySem.Challenge.RW_quadwords_k22_whole_free_or_twins
set_option genSizeOf false
set_option compiler.extract_closed false
set_option maxRecDepth 100000
set_option maxHeartbeats 4000000
abbrev zE:=@Nat.le_refl
abbrev zF:=@List.length_map
abbrev zG:=@List.length_append
abbrev zH:=@List.mem_append
abbrev zI:=@List.mem_append_right
abbrev zJ:=@Nat.ne_of_lt
abbrev zK:=@List.mem_singleton
abbrev zL:=@List.getElem?_eq_some_iff
abbrev zM:=@List.mem_map
abbrev zN:=@List.getElem?_eq_getElem
abbrev zO:=@Nat.le_trans
abbrev zP:=@Nat.lt_of_lt_of_le
abbrev zQ:=@List.mem_cons_self
abbrev zR:=@Array.length_toList
abbrev zS:=@List.mem_of_getElem?
abbrev zU:=@List.mem_cons
abbrev zV:=@List.map_append
abbrev zW:=@List.getElem?_map
abbrev zX:=@Nat.zero_le
abbrev zY:=@List.size_toArray
abbrev zZ:=@List.map_cons
abbrev Aa:=@List.length_take
abbrev Ab:=@Array.getElem?_toList
abbrev Ac:=@List.mem_cons_of_mem
abbrev Ad:=@List.mem_append_left
abbrev Ae:=@List.getD_eq_getElem?_getD
abbrev Af:=@List.take_of_length_le
abbrev Ag:=@Bool.false_ne_true
abbrev Ah:=@List.length_cons
abbrev Ai:=@Nat.lt_irrefl
abbrev Aj:=@List.append_assoc
abbrev Ak:=@List.take_add_one
abbrev Am:=@Int.toNat_natCast
abbrev An:=@List.getElem_mem
abbrev Ao:=@Array.getElem?_eq_getElem
abbrev Ap:=@List.take_length
abbrev Aq:=@Nat.succ_le_succ
abbrev Au:=@Bool.and_eq_true
abbrev Av:=@Nat.lt_succ_self
abbrev Aw:=@List.pairwise_append
abbrev Ax:=@Nat.le_of_lt
abbrev Ay:=@Array.toList_append
abbrev Az:=@List.length_eq_zero_iff
abbrev AA:=@Nat.le_succ
abbrev AB:=@List.take_append_drop
abbrev AC:=@List.not_mem_nil
abbrev AD:=@List.append_nil
abbrev AE:=@List.getElem?_append_right
abbrev AF:=@Nat.lt_succ_of_lt
abbrev AG:=@List.map_map
abbrev AH:=@List.drop_left
abbrev AI:=@List.sum_cons
abbrev AJ:=@List.lookup_cons
abbrev AK:=@List.all_eq_true
abbrev AL:=@List.length_drop
abbrev AM:=@Nat.min_eq_left
abbrev AN:=@List.mem_filter
abbrev AO:=@List.mem_iff_getElem
abbrev AQ:=@List.getElem?_drop
abbrev AR:=@List.getElem?_take_of_lt
abbrev AS:=@Nat.le_succ_of_le
abbrev AU:=@List.find?_cons
abbrev AV:=@Option.map_eq_some_iff
abbrev AW:=@Bool.false_eq_true
abbrev AX:=@Nat.add_zero
abbrev AY:=@List.take_take
abbrev AZ:=@List.getElem?_toArray
abbrev Ba:=@List.getElem?_append_left
abbrev Bb:=@List.any_cons
abbrev Bc:=@Nat.lt_of_le_of_lt
abbrev Be:=@List.filter_cons
abbrev Bf:=@List.mem_of_mem_drop
abbrev Bg:=@Int.emod_nonneg
abbrev Bh:=@Int.emod_lt_of_pos
abbrev Bi:=@Nat.le_add_right
abbrev Bj:=@List.mem_range
abbrev Bk:=@List.mem_filterMap
abbrev Bl:=@Bool.eq_iff_iff
abbrev Bm:=@List.nodup_cons
abbrev Bn:=@List.mem_of_mem_take
abbrev Bo:=@Array.toList_push
abbrev Bp:=@List.pairwise_iff_getElem
abbrev Bq:=@List.map_congr_left
abbrev Br:=@List.length_range
abbrev Bs:=@List.length_replicate
abbrev Bt:=@List.length_filter_le
abbrev Bu:=@List.drop_of_length_le
abbrev Bv:=@List.foldl_cons
abbrev Bw:=@Int.le_refl
abbrev Bx:=@List.getElem?_eq_none
abbrev By:=@Int.zero_add
abbrev Bz:=@Nat.not_lt_zero
abbrev BA:=@List.getElem?_set_self
abbrev BB:=@List.getElem?_set_ne
abbrev BC:=@Nat.ne_of_gt
abbrev BD:=@Nat.lt_trans
abbrev BE:=@Nat.min_le_left
abbrev BF:=@List.perm_append_comm
abbrev BG:=@Array.toList_extract
abbrev BH:=@List.take_zero
abbrev BI:=@Nat.zero_add
abbrev BJ:=@Bool.eq_false_iff
abbrev BK:=@List.nodup_append
abbrev BL:=@List.any_eq_true
abbrev BM:=@Bool.and_eq_true_iff
abbrev BN:=@Option.isSome_iff_exists
abbrev BO:=@List.all_cons
abbrev BP:=@List.forIn_cons
abbrev BQ:=@List.nil_append
abbrev BR:=@List.length_nil
abbrev BS:=@List.drop_eq_getElem_cons
abbrev BU:=@List.drop_zero
abbrev BV:=@Nat.sub_self
abbrev BW:=@List.ext_getElem?
abbrev BX:=@Nat.zero_lt_succ
abbrev BY:=@Array.getElem?_eq_none
abbrev BZ:=@List.eq_nil_or_concat
abbrev Ca:=@List.concat_eq_append
abbrev Cb:=@List.take_left
abbrev Cc:=@Int.natCast_add
abbrev Cd:=@List.takeWhile_cons
abbrev Ce:=@List.append_cancel_left
abbrev Cf:=@Int.natCast_nonneg
abbrev Cg:=@List.filterMap_cons
abbrev Ci:=@List.any_eq_false
abbrev Cj:=@List.of_mem_zip
abbrev Ck:=@List.getElem?_replicate
abbrev Cm:=@Nat.min_le_right
abbrev Co:=@Nat.le_of_not_lt
abbrev Cp:=@Option.isSome_map
abbrev Cq:=@List.drop_drop
abbrev Cr:=@List.drop_take
abbrev Cs:=@List.reverse_append
abbrev Ct:=@Array.toList_reverse
abbrev Cv:=@Array.perm_iff_toList_perm
abbrev Cw:=@Array.size_extract
abbrev Cy:=@List.filterMap_append
abbrev Cz:=@List.replicate_succ
abbrev CA:=@List.flatten_cons
abbrev CB:=@List.length_eraseIdx_of_lt
abbrev CC:=@Array.toArray_toList
abbrev CD:=@Nat.pow_le_pow_right
abbrev CF:=@List.mem_flatten
abbrev CG:=@Nat.mul_le_mul
abbrev CH:=@List.filter_append
abbrev CI:=@List.length_zipIdx
abbrev CJ:=@List.countP_cons
abbrev CK:=@List.isEmpty_iff
abbrev CL:=@List.eq_nil_of_length_eq_zero
abbrev CM:=@List.append_eq_nil_iff
abbrev CN:=@Int.fdiv_eq_ediv_of_nonneg
abbrev CO:=@Option.isNone_iff_eq_none
abbrev CP:=@List.mem_zipIdx_iff_getElem?
abbrev CQ:=@List.countP_eq_length_filter
abbrev CT:=@PySem.wpAny_bind
abbrev CU:=@PySem.wpAny_pure
abbrev CV:=@PyProof.Rows.wpS_bind
abbrev CW:=@PyProof.Rows.wpS_pure
abbrev CY:=@if_neg
abbrev CZ:=@if_pos
abbrev Dc:=@decide_eq_true
abbrev Dd:=@decide_eq_false
abbrev De:=@PySem.wpAny_mono
abbrev Df:=@PySem.wpAny_holding
abbrev Dg:=@of_decide_eq_true
abbrev Dh:=@PySem.Heap.lt_size
abbrev Di:=@Option.some.inj
abbrev Dj:=@PySem.F.plainAttrs_list
abbrev Dk:=@PySem.F.plainAttrs_str
abbrev Dl:=@PySem.F.type_list_append
abbrev Dm:=@PySem.F.slot_list_append
abbrev Do:=@PyProof.Rows.KeyOrd.kle_refl
abbrev Dp:=@PyProof.Rows.KeyOrd.kle_of_klt
abbrev Dq:=@PySem.W.mg_of
abbrev Dt:=@PySem.W.mg_none_of
abbrev Du:=@PySem.wpAny_setState_of
abbrev Dv:=@Ne.symm
abbrev Dw:=@PySem.Heap.get?_push_of_some
abbrev Dx:=@PySem.Heap.get?_push_size
abbrev Dy:=@Bool.eq_iff_iff
abbrev Dz:=@Nat.succ_le_succ
abbrev DA:=@Int.natCast_nonneg
abbrev DB:=@PySem.wpAny_attempt
abbrev DC:=@PySem.wpAny_call_entry
abbrev DE:=@PySem.Heap.size_push
abbrev DG:=@PySem.wpAny_rule
abbrev DH:=@beq_iff_eq
local macro_rules | `(tactic| walk_at "i") => `(tactic| first | exact .inl rfl | exact .inr rfl | assumption)
local macro_rules | `(tactic| walk_at "o") => `(tactic| first | assumption | exact zO (by assumption) (by decide) | lia)
set_option Elab.async false
set_option maxHeartbeats 0
set_option linter.all false
set_option hygiene false in
local macro_rules|`((wq X))=>`(wpAny (model X.prog X.w) X.A)
local macro_rules|`(($f:ident $x*))=>do
 let n:=f.getId
 let some (g,t):=(([(`DI,"_____xxx"),(`DP,"_q"),(`Ea,"_q"),(`aB,"_____xxr"),(`aD,"____x"),(`aE,"________xxxx"),(`aF,"________xxx"),(`aG,"_________xRxxxddrr"),(`aJ,"___xx"),(`aL,"____x"),(`aQ,"_______xxxF"),(`aR,"______________cxxfffy"),(`aU,"______xRxxx"),(`aZ,"_____x"),(`af,"_____xx"),(`ah,"____q"),(`ak,"___x"),(`ar,"__x_nROw"),(`ay,"__x____nRxxrw"),(`bA,"____q"),(`bD,"____________xxdhRxxd"),(`bE,"____xr"),(`bH,"___xy"),(`bS,"________xxxx"),(`bW,"_________xRxxxddrr"),(`bZ,"________vcxxxy"),(`ba,"__________xxxx"),(`bf,"________xxx"),(`bh,"_____________xxdhRxdrr"),(`bp,"______Rxxr"),(`bw,"____x"),(`bx,"___x"),(`cB,"____x"),(`cQ,"_________xxx"),(`cc,"____q"),(`cf,"__x__RxxRdd"),(`cn,"___q"),(`dC,"_____xxx"),(`eK,"______________x___cxxfffnRORyw"),(`eQ,"_______xxxrrr"),(`eR,"____x"),(`fA,"_______xx"),(`fG,"____________xxxxxxrrrrr"),(`fN,"____________KRxxxxxxrrrrr"),(`fc,"______vxx"),(`fk,"_______Rxxrr"),(`fq,"______cxrr"),(`fw,"______xxrrr"),(`gL,"__x__Rxxd"),(`gQ,"_______xx"),(`gr,"_________xxxxR"),(`iR,"_____x"),(`ir,"___xG"),(`iu,"____x"),(`iw,"________xxx"),(`jC,"________Rxxr"),(`jD,"_____xxRxxr"),(`jJ,"______xxF"),(`jN,"______xxxF"),(`jT,"_______xx"),(`kn,"______xx"),(`ku,"___x"),(`mH,"___x"),(`mX,"___________xxxxxxxRRRxRRRxcxfRxxxrrrr"),(`nE,"_____xRRxd"),(`nj,"________xxrr"),(`oS,"____________________cxxffffffxy"),(`pD,"________________cxxffffy"),(`qH,"______xx"),(`qu,"____________________x___cxxffffffnRORxyw"),(`rN,"_____xxRxr"),(`rh,"_____xxx"),(`rm,"__xx___________cnRRdRRxRr"),(`tq,"______xx"),(`uA,"_________xxxxxrr")]:List (Lean.Name×String)).map fun a=>(a.1,a))++[(`ad,`ar,"__x_xROI"),(`am,`ar,"__x_nRow")]|>.lookup n|Lean.Macro.throwUnsupported
 let mut i:=0
 let mut r:Array (Lean.TSyntax `term):=#[]
 for c in t.toList do
  if c=='q' then i:=i+1
  else if c=='x'||c=='f' then
   let some y:=x[i]?|Lean.Macro.throwUnsupported
   r:=r.push (<-if c=='x' then pure y else `(fun _ _ _ _=>$y))
   i:=i+1
  else r:=r.push (<-match c with|'G'=>`(fun _=>rfl)|'r'=>`(by rfl)|'w'=>`(by walk_at "i")|'R'=>`(rfl)|'O'=>`(Or.inl rfl)|'d'=>`(by decide)|'F'=>`(fun _ _=>rfl)|'I'=>`(.inr rfl)|'o'=>`(Or.inr rfl)|'y'=>`(by intro _;rfl)|'v'=>pure (Lean.mkIdent `PassesOwn.never)|'n'=>pure (Lean.mkIdent `nd)|'c'=>pure (Lean.mkIdent `hc)|'h'=>pure (Lean.mkIdent `hr)|'K'=>pure (Lean.mkIdent `K)|_=>`(_))
 if i !=x.size then Lean.Macro.throwUnsupported
 `(@$(if g==n then f else Lean.mkIdent g) $r*)
namespace L2
open PySem PySem.Spec PyProof.Rows
abbrev Key:=Sum Int Str
def FI:Key->Value->Bool
 |.inl k,v=>Value.isInt k v
 |.inr x,v=>Value.isStrOf x v
def keyH (w:World):Key->Int
 |.inl k=>hashInt k
 |.inr x=>hashStr w x
theorem DU:∀{k:Key}{v:Value},FI k v=true->(∃i t,k=Sum.inl i/\v=Value.int i t)\/(∃x t,k=Sum.inr x/\v=Value.str x t)
 |.inl i,v,h=>by
  obtain⟨t,e⟩:=Value.isInt_shape (k:=i) (v:=v) h;exact .inl ⟨i,t,rfl,e⟩
 |.inr x,v,h=>by
  obtain⟨t,e⟩:=Value.isStrOf_shape (x:=x) (v:=v) h;exact .inr ⟨x,t,rfl,e⟩
theorem nY(i:Int)(t:Tok):FI (.inl i) (.int i t)=true:=by simp[FI,Value.isInt]
theorem oR(x:Str)(t:Tok):FI (.inr x) (.str x t)=true:=by simp[FI,Value.isStrOf]
theorem tQ(a b:Int):decide ((Sum.inl a:Key)=Sum.inl b)=(a==b):=by
 by_cases e:a=b
 ·subst e;simp
 ·have h:¬(Sum.inl a:Key)=Sum.inl b:=fun q=>e (Sum.inl.inj q);rw[Dd h];exact(beq_eq_false_iff_ne.mpr e).symm
theorem uF(a b:Str):decide ((Sum.inr a:Key)=Sum.inr b)=decide (a=b):=by
 by_cases e:a=b
 ·subst e;simp
 ·have h:¬(Sum.inr a:Key)=Sum.inr b:=fun q=>e (Sum.inr.inj q);rw[Dd h,Dd e]
theorem uS(a:Int)(b:Str):decide ((Sum.inl a:Key)=Sum.inr b)=false:=Dd (fun q=>nomatch q)
theorem uh(a:Str)(b:Int):decide ((Sum.inr a:Key)=Sum.inl b)=false:=Dd (fun q=>nomatch q)
def aI (prog:Program)(w:World):PySem.KeyKind prog w Key where
 is:=FI
 hash:=keyH w
 inj:=fun v a b ha hb=>by
  rcases DU ha with ⟨i,t,rfl,rfl⟩|⟨x,t,rfl,rfl⟩
  ·rcases DU hb with ⟨j,u,rfl,e⟩|⟨y,u,rfl,e⟩
   ·injection e with e1 _;rw[e1]
   ·exact nomatch e
  ·rcases DU hb with ⟨j,u,rfl,e⟩|⟨y,u,rfl,e⟩
   ·exact nomatch e
   ·injection e with e1 _;rw[e1]
 byValue:=fun k v h=>by
  rcases DU h with ⟨i,t,rfl,rfl⟩|⟨x,t,rfl,rfl⟩<;>rfl
 pyHash:=fun hv h=>by
  rcases DU hv with ⟨i,t,rfl,rfl⟩|⟨x,t,rfl,rfl⟩
  ·exact wpAny_pyHash_int h
  ·exact wpAny_pyHash_str h
 eqBool:=fun hu hv h=>by
  rcases DU hu with ⟨i,t,rfl,rfl⟩|⟨x,t,rfl,rfl⟩
  ·rcases DU hv with ⟨j,u,rfl,rfl⟩|⟨y,u,rfl,rfl⟩
   ·rw[tQ] at h;exact wpAny_eqBool_int h
   ·rw[uS] at h;exact SeqAt.EqAt.int_str i t y u _ _ _ _ h
  ·rcases DU hv with ⟨j,u,rfl,rfl⟩|⟨y,u,rfl,rfl⟩
   ·rw[uh] at h;exact SeqAt.EqAt.str_int x t j u _ _ _ _ h
   ·rw[uF] at h;exact wpAny_eqBool_str h
 «strs»:=fun k x t v h=>by
  rcases DU h with ⟨i,u,rfl,e⟩|⟨y,u,rfl,e⟩
  ·exact nomatch e
  ·injection e with e1 _;subst e1;cases v<;>rfl
theorem kY(prog:Program)(w:World)(k:Key)(v:Value):(aI prog w).is k v=FI k v:=rfl
theorem jj(prog:Program)(w:World)(i:Int)(t:Tok):(aI prog w).is (.inl i) (.int i t)=true:=nY i t
theorem jG(prog:Program)(w:World)(x:Str)(t:Tok):(aI prog w).is (.inr x) (.str x t)=true:=oR x t
inductive V where
 |non|bl (b:Bool)|int(i:Int)|str(x:Str)|byt(b:Array UInt8)|flt(b:UInt64)|ref(a:Addr)|ty(n:String)
 deriving DecidableEq
def RelV:V->Value->Prop
 |.non,u=>u=Value.none
 |.bl b,u=>u=Value.bool b
 |.int i,u=>∃t,u=Value.int i t
 |.str x,u=>∃t,u=Value.str x t
 |.byt b,u=>∃t,u=Value.bytes b t
 |.flt b,u=>∃t,u=Value.float b t
 |.ref a,u=>u=Value.ref a
 |.ty n,u=>u=Value.type n
abbrev Vals:List V->List Value->Prop:=Paired RelV
theorem Vals.length{xs:List V}{us:List Value}(r:Vals xs us):xs.length=us.length:=Paired.length r
theorem Vals.get:∀{xs:List V}{us:List Value}{i:Nat}{x:V},Vals xs us->xs[i]?=some x->∃u,us[i]?=some u/\RelV x u
 |_,_,_,_,.nil,e=>by simp at e
 |_,_,0,_,.cons r _,e=>by simp at e;subst e;exact⟨_,rfl,r⟩
 |_,_,i+1,x,.cons _ t,e=>by
  obtain⟨u,h1,h2⟩:=Vals.get (i:=i) (x:=x) t (by simpa using e);exact⟨u,by simpa using h1,h2⟩
theorem Vals.set{x:V}{u:Value}(r:RelV x u):∀{xs:List V}{us:List Value}(i:Nat),Vals xs us->Vals (xs.set i x) (us.set i u)
 |_,_,_,.nil=>.nil
 |_,_,0,.cons _ t=>.cons r t
 |_,_,i+1,.cons q t=>.cons q (Vals.set r i t)
theorem Vals.append:∀{xs ys:List V}{us ws:List Value},Vals xs us->Vals ys ws->Vals (xs++ys) (us++ws)
 |_,_,_,_,.nil,s=>s
 |_,_,_,_,.cons r t,s=>.cons r (Vals.append t s)
def GG:Option V->Option Value->Prop
 |some v,some u=>RelV v u
 |none,none=>True
 |_,_=>False
def KV {κ:Type}:List (κ×V)->List (κ×Value)->Prop:=Paired fun(p:κ×V) (q:κ×Value)=>p.1=q.1/\RelV p.2 q.2
def kV:Key->V
 |.inl i=>.int i
 |.inr x=>.str x
inductive HO where
 |lst (xs:List V)
 |tup (xs:List V)
 |dK (kvs:List (Key×V))|dT(kvs:List (List Key×V))
 |set (S:Int->Bool)(n:Nat)
 |ins (C dx:Addr)(fs:List (Str×V))
 |own (x:Addr)
 |xd (fs:List (Str×V))
 |met (f x:Addr)
 |rng (lo hi:Int)
 |frz (o:Obj)(u:HO)
 |tbl (ps:Array Value)
 |ext (φ:Heap->Prop)
abbrev Hp:=Addr->Option HO
def upd (H:Hp)(a:Addr)(o:HO):Hp:=fun b=>if b=a then some o else H b
theorem ae{H:Hp}{a:Addr}{o:HO}:upd H a o a=some o:=by unfold upd;rw[CZ rfl]
theorem aq{H:Hp}{a b:Addr}{o:HO}(h:b≠a):upd H a o b=H b:=by unfold upd;rw[CY h]
theorem lS{H:Hp}{a:Addr}{o u:HO}:upd (upd H a o) a u=upd H a u:=by
 funext b;unfold upd;split<;>rfl
theorem cD{H:Hp}{a b:Addr}{o u:HO}(h:H a=some o)(h':H b=some u)(d:o≠u):a≠b:=by
 intro e;subst e;rw[h] at h';exact d (Di h')
theorem ax{H:Hp}{a b:Addr}{o:HO}(h:H a=some o)(h':H b=none):a≠b:=by
 intro e;subst e;rw[h] at h';cases h'
section
variable (P:Program)(w:World)
def Ed(H:Hp)(h:Heap)(a:Addr):HO->Prop
 |.lst xs=>xs.length<=sizeLine/\∃(its:List Value)(n:Nat),Vals xs its/\h.get? a=some {cls:=.type "list",data:=.seq its.toArray n}
 |.tup xs=>xs.length<=sizeLine/\∃its:List Value,Vals xs its/\IsTup h a its.toArray
 |.dK kvs=>kvs.length<=sizeLine/\(a==sysModules)=false/\∃vs,KV kvs vs/\h.DictOf (aI P w) a vs
 |.dT kvs=>kvs.length<=sizeLine/\(a==sysModules)=false/\∃xs:List (List Key×Addr×Value),
   Paired (fun(p:List Key×V) (q:List Key×Addr×Value)=>p.1=q.1/\H q.2.1=some (.tup (p.1.map kV))/\RelV p.2 q.2.2) kvs xs /\
   ∃o es ep,h.get? a=some o/\o.ExactDict/\o.data=.dict es ep/\es.toList=xs.map (entryOfKey (tupleKind (aI P w)))/\(xs.map (·.1)).Nodup
 |.set S n=>h.SetOf (intKind P w) a S n
 |.ins C dx fs=>H dx=some (.own a)/\fs.length<=1000/\dx≠a/\h.get? a=some (W.instObj C dx) /\
   ∃mA,h.Ns1 dx mA/\(∀f,GG (fs.lookup f) (mA f))/\PySem.Within mA (fs.map (·.1))
 |.own _=>∃o,h.get? a=some o
 |.xd fs=>∃mA,h.Ns1 a mA/\∀f,GG (fs.lookup f) (mA f)
 |.rng lo hi=>∃t u v,h.get? a=some {cls:=.type "range",data:=.fields #[.int lo t,.int hi u,.int 1 v]}
 |.frz o u=>h.get? a=some o/\Ed H h a u
 |.tbl ps=>h.get? a=some {cls:=.none,data:=.fields ps}
 |.met f x=>h.get? a=some (W.methodObj (.ref f) (.ref x))
 |.ext φ=>φ h/\(∃o,h.get? a=some o)/\∀h1 h2:Heap,φ h1->(∀o,h1.get? a=some o->h2.get? a=some o)->φ h2
def HOk (H:Hp)(h:Heap):Prop:=∀a o,H a=some o->Ed P w H h a o
end
section
variable {P:Program}{w:World}{H H':Hp}{h h':Heap}{a:Addr}{o:HO}
theorem Ed.lt(x:Ed P w H h a o):a<h.objs.size:=by
 cases o with
 |lst xs=>obtain⟨_,_,_,_,e⟩:=x;exact Dh e
 |tup xs=>obtain⟨_,_,_,p⟩:=x;exact p.lt
 |dK kvs=>obtain⟨_,_,_,_,o,_,_,e,_⟩:=x;exact Dh e
 |dT kvs=>obtain⟨_,_,_,_,o,_,_,e,_⟩:=x;exact Dh e
 |set S n=>obtain⟨o,_,_,_,e,_⟩:=x;exact Dh e
 |ins C dx fs=>obtain⟨_,_,_,e,_⟩:=x;exact Dh e
 |own y=>obtain⟨_,e⟩:=x;exact Dh e
 |xd fs=>obtain⟨_,⟨_,_,_,e,_⟩,_⟩:=x;exact Dh e
 |rng lo hi=>obtain⟨_,_,_,e⟩:=x;exact Dh e
 |frz ob u=>obtain⟨e,_⟩:=x;exact Dh e
 |tbl ps=>exact Dh (show h.get? a=some _ from x)
 |met f y=>exact Dh (show h.get? a=some _ from x)
 |ext φ=>obtain⟨_,⟨_,e⟩,_⟩:=x;exact Dh e
theorem Paired.EW{α β:Type}{F G:α->β->Prop}:∀{l₁:List α}{l₂:List β},Paired F l₁ l₂->(∀a b,F a b->G a b)->Paired G l₁ l₂
 |_,_,.nil,_=>.nil
 |_,_,.cons r t,f=>.cons (f _ _ r) (Paired.EW t f)
theorem Ed.Gd(x:Ed P w H h a o)(k:∀b u,(b=a\/H b=some (.own a))->h.get? b=some u->h'.get? b=some u)
  (ho:∀b,H b=some (.own a)->H' b=some (.own a))(ht:∀b xs,H b=some (.tup xs)->H' b=some (.tup xs)):Ed P w H' h' a o:=by
 induction o with
 |lst xs=>obtain⟨z,its,n,r,e⟩:=x;exact⟨z,its,n,r,k _ _ (.inl rfl) e⟩
 |tup xs=>obtain⟨z,its,r,ob,e,c⟩:=x;exact⟨z,its,r,ob,k _ _ (.inl rfl) e,c⟩
 |dK kvs=>obtain⟨z,y,vs,r,ob,es,ep,e,c⟩:=x;exact⟨z,y,vs,r,ob,es,ep,k _ _ (.inl rfl) e,c⟩
 |dT kvs=>
  obtain⟨z,y,xs,r,ob,es,ep,e,c⟩:=x;exact⟨z,y,xs,Paired.EW r fun p q z=>⟨z.1,ht _ _ z.2.1,z.2.2⟩,ob,es,ep,k _ _ (.inl rfl) e,c⟩
 |set S n=>obtain⟨ob,es,ep,t,e,c⟩:=x;exact⟨ob,es,ep,t,k _ _ (.inl rfl) e,c⟩
 |ins C dx fs=>
  obtain⟨d,z,ne,e,mA,⟨od,es,ep,e2,c⟩,r⟩:=x;exact⟨ho _ d,z,ne,k _ _ (.inl rfl) e,mA,⟨od,es,ep,k _ _ (.inr d) e2,c⟩,r⟩
 |own y=>obtain⟨ob,e⟩:=x;exact⟨ob,k _ _ (.inl rfl) e⟩
 |xd fs=>obtain⟨mA,⟨od,es,ep,e,c⟩,r⟩:=x;exact⟨mA,⟨od,es,ep,k _ _ (.inl rfl) e,c⟩,r⟩
 |rng lo hi=>obtain⟨t,u,v,e⟩:=x;exact⟨t,u,v,k _ _ (.inl rfl) e⟩
 |frz ob u ih=>obtain⟨e,q⟩:=x;exact⟨k _ _ (.inl rfl) e,ih q⟩
 |tbl ps=>
  have e:h.get? a=some {cls:=.none,data:=.fields ps}:=x;show h'.get? a=some {cls:=.none,data:=.fields ps};exact k a _ (.inl rfl) e
 |met f y=>
  have e:h.get? a=some (W.methodObj (.ref f) (.ref y)):=x;show h'.get? a=some (W.methodObj (.ref f) (.ref y));exact k a _ (.inl rfl) e
 |ext φ=>obtain⟨p,⟨o,e⟩,st⟩:=x;exact⟨st _ _ p fun o q=>k _ _ (.inl rfl) q,⟨o,k _ _ (.inl rfl) e⟩,st⟩
theorem HOk.lt(x:HOk P w H h)(e:H a=some o):a<h.objs.size:=(x a o e).lt
theorem HOk.fresh(x:HOk P w H h)(e:h.objs.size<=a):H a=none:=by
 cases q:H a with
 |none=>rfl
 |some u=>exact absurd (zP (x.lt q) e) (Ai _)
theorem HOk.kept(x:HOk P w H h)(k:∀b u,h.get? b=some u->h'.get? b=some u):HOk P w H h':=fun a o e=>
 (x a o e).Gd (fun b u _ q=>k b u q) (fun _ q=>q) fun _ _ q=>q
theorem HOk.laid(x:HOk P w H h)(k:∀b u,h.get? b=some u->h'.get? b=some u)(hp:h.objs.size<=a)(new:Ed P w (upd H a o) h' a o):HOk P w (upd H a o) h':=fun b u e=>by
 have hn:=x.fresh hp;by_cases hb:b=a
 ·subst hb;rw[ae] at e;cases e;exact new
 ·rw[aq hb] at e;exact(x b u e).Gd (fun c v _ q=>k c v q) (fun c q=>by rw[aq (ax q hn)];exact q) fun c xs q=>by rw[aq (ax q hn)];exact q
end
def Rd (H:Hp)(a:Addr)(u:HO):Prop:=H a=some u\/∃o,H a=some (.frz o u)
theorem Rd.ok{P:Program}{w:World}{H:Hp}{h:Heap}{a:Addr}{u:HO}(r:Rd H a u)(x:HOk P w H h):Ed P w H h a u:=by
 rcases r with r|⟨o,r⟩
 ·exact x a u r
 ·obtain⟨_,q⟩:=x a _ r;exact q
def Mut:Option HO->Prop
 |some (.lst _)=>True
 |some (.dK _)=>True
 |some (.dT _)=>True
 |some (.set _ _)=>True
 |some (.ins _ _ _)=>True
 |some (.ext _)=>True
 |_=>False
section
variable {P:Program}{w:World}{H:Hp}{h h':Heap}{x e:Addr}{o':HO}
theorem HOk.write(ok:HOk P w H h)(mu:Mut (H x))(he:e=x\/H e=some (.own x))(k:∀b u,b≠e->h.get? b=some u->h'.get? b=some u)(heo:∃u,h'.get? e=some u)
  (new:Ed P w (upd H x o') h' x o'):HOk P w (upd H x o') h':=fun b u q=>by
 have nown:∀c y,H c=some (.own y)->c≠x:=fun c y r z=>by subst z;rw[r] at mu;exact mu
 have ntup:∀c xs,H c=some (.tup xs)->c≠x:=fun c xs r z=>by subst z;rw[r] at mu;exact mu
 by_cases hb:b=x
 ·subst hb;rw[ae] at q;cases q;exact new
 ·rw[aq hb] at q;by_cases hbe:b=e
  ·have q':H b=some (.own x):=by
    rcases he with z|z
    ·exact absurd (hbe.trans z) hb
    ·rw[hbe];exact z
   rw[q] at q';cases q';obtain⟨v,hv⟩:=heo;exact⟨v,by rw[hbe];exact hv⟩
  ·refine(ok b u q).Gd (fun c v hc r=>k c v ?_ r) (fun c r=>by rw[aq (nown c b r)];exact r) fun c xs r=>by rw[aq (ntup c xs r)];exact r
   rcases hc with rfl|hc
   ·exact hbe
   ·rintro rfl;rcases he with z|z
    ·exact nown c b hc z
    ·rw[hc] at z;cases z;exact hb rfl
end
structure Un(fs ex:List Addr)(H H':Hp)(h h':Heap):Prop where
 keep:∀b o,h.get? b=some o->H b=none->b∉fs->b∉ex->h'.get? b=some o
 slot:∀b o,h.get? b=some o->H b=none->b∈fs->b∉ex->∃sl,h'.get? b=some {o with slots:=sl}
 free:∀b o,h.get? b=some o->H b=none->b∉ex->H' b=none
 there:∀b o,h.get? b=some o->b∉ex->∃o',h'.get? b=some o'
 GH:∀b xs,H b=some (.tup xs)->H' b=some (.tup xs)
 GA:∀b o u,H b=some (.frz o u)->H' b=some (.frz o u)
 GF:∀b ps,H b=some (.tbl ps)->∃more,H' b=some (.tbl (ps++more))
section
variable {fs fs' ex ex':List Addr}{H H1 H2:Hp}{h h1 h2 h':Heap}{a x e:Addr}{o:HO}
theorem Un.any(u:Un fs ex H H1 h h1){b:Addr}{ob:Obj}(q:h.get? b=some ob)(n:H b=none)(hx:b∉ex):∃sl,h1.get? b=some {ob with slots:=sl}:=by
 by_cases hb:b∈fs
 ·exact u.slot b ob q n hb hx
 ·exact⟨ob.slots,u.keep b ob q n hb hx⟩
theorem Un.kept(k:∀b u,h.get? b=some u->h'.get? b=some u):Un fs ex H H h h':=
 ⟨fun b ob q _ _ _=>k b ob q,fun b ob q _ _ _=>⟨ob.slots,k b ob q⟩,fun _ _ _ n _=>n,fun b ob q _=>⟨ob,k b ob q⟩,fun _ _ q=>q,fun _ _ _ q=>q,fun _ ps q=>⟨#[],by rw[q];simp⟩⟩
theorem Un.refl:Un fs ex H H h h:=Un.kept fun _ _ q=>q
theorem Un.laid(k:∀b u,h.get? b=some u->h'.get? b=some u)(hp:h.objs.size<=a)(hn:H a=none):Un fs ex H (upd H a o) h h' where
 keep:=fun b u q _ _ _=>k b u q
 slot:=fun b u q _ _ _=>⟨u.slots,k b u q⟩
 free:=fun b u q n _=>by rw[aq (zJ (zP (Dh q) hp))];exact n
 there:=fun b u q _=>⟨u,k b u q⟩
 GH:=fun b xs q=>by rw[aq (ax q hn)];exact q
 GA:=fun b u xs q=>by rw[aq (ax q hn)];exact q
 GF:=fun b ps q=>⟨#[],by rw[aq (ax q hn),q];simp⟩
theorem Un.write(mu:Mut (H x))(he:e=x\/H e=some (.own x))(k:∀b u,b≠e->h.get? b=some u->h'.get? b=some u)(heo:∃u,h'.get? e=some u):Un fs ex H (upd H x o) h h':=by
 have hx:∀b,H b=none->b≠x:=fun b n z=>by subst z;rw[n] at mu;exact mu
 have hb:∀b,H b=none->b≠e:=fun b n z=>by
  subst z;rcases he with r|r
  ·exact hx b n r
  ·rw[n] at r;cases r
 have hm:∀b u,H b=some u->¬Mut (some u)->b≠x:=fun b u q nm z=>by subst z;rw[q] at mu;exact nm mu
 refine⟨fun b u q n _ _=>k b u (hb b n) q,fun b u q n _ _=>⟨u.slots,k b u (hb b n) q⟩,fun b u q n _=>by rw[aq (hx b n)]; exact n,fun b u q _=>?_,
  fun b xs q=>by rw[aq (hm b _ q fun z=>z)];exact q,fun b u xs q=>by rw[aq (hm b _ q fun z=>z)];exact q,fun b ps q=>⟨#[],by rw[aq (hm b _ q fun z=>z),q];simp⟩⟩
 by_cases hbe:b=e
 ·subst hbe;exact heo
 ·exact⟨u,k b u hbe q⟩
end
def trk (h:Heap)(H:Hp):List Addr:=(List.range h.objs.size).filter fun a=>(H a).isSome
def qv (h:Heap)(H:Hp):Heap:=W.hideAll h (trk h H)
theorem mR(h:Heap)(H:Hp):(qv h H).objs.size=h.objs.size:=W.hideAll_size _ _
theorem pS{h:Heap}{H:Hp}{b:Addr}{o:Obj}(e:h.get? b=some o)(n:H b=none):(qv h H).get? b=some o:=
 W.hideAll_get _ e fun hm=>by
  have q:(H b).isSome=true:=(AN.mp hm).2;rw[n] at q;simp at q
theorem sX{h:Heap}{H:Hp}{b:Addr}{o:Obj}(e:(qv h H).get? b=some o):h.get? b=some o/\H b=none:=by
 have e':h.get? b=some o:=W.of_hideAll (trk h H) e;refine⟨e',?_⟩;cases q:H b with
 |none=>rfl
 |some x=>
  have hm:b∈trk h H:=AN.mpr ⟨Bj.mpr (Dh e'),by simp[q]⟩;have z:(qv h H).get? b=none:=W.hideAll_none (trk h H) hm;rw[z] at e;cases e
def tH (g h:Heap)(L:Addr):List (Addr×Obj):=(List.range h.objs.size).filterMap fun a=>if a=L\/(g.get? a).isSome=true then none else (h.get? a).map fun o=>(a,o)
def rest (g h:Heap)(L d:Addr):List (Addr×Obj):=(tH g h L).filter fun p=>decide (p.1≠d)
structure Mod(K:W.Frag)(mg:Str->Option Value)(base:Heap):Prop where
 kin:K.In base
 glob:base.Ns mainGlobals mg
 blt:∃mb,base.Ns builtinsNs mb/\∀x:Str,x≠"__name__"->mb x=bootBuiltins x
 nolimit:base.NoLimit
structure Cx where
 prog:Program
 w:World
 K:W.Frag
 mg:Str->Option Value
 base:Heap
 A:Around
 N:List Str
 s₀:Shared
 H₀:Hp
 env:Env
 outer:List Env
 stack:List Env
 ex:List Addr
 fn:Str->Bool
 calm:Bool
 pn:List (Addr×Obj)
 xe:Value->Shared->Prop
def frs (l:List Env):List Addr:=l.filterMap (·.frame)
abbrev Cx.fs(X:Cx):List Addr:=frs X.outer
def Vis (sc:Scope)(x:Str):Prop:=sc.names.lookup x=some .local\/sc.names.lookup x=some .cell\/sc.names.lookup x=some .free
def Loc (sc:Scope)(x:Str):Prop:=sc.names.lookup x=some .local\/sc.names.lookup x=some .cell
def Look (env:Env)(h:Heap)(m:Str->Option Value)(x:Str)(u:Value):Prop:=
 (env.kindOf x=some .local/\m x=some u)\/((env.kindOf x=some .cell\/env.kindOf x=some .free)/\∃c,env.cells.lookup x=some c/\h.IsCell c (some u))
structure Cx.Ok(X:Cx):Prop where
 mod:Mod X.K X.mg X.base
 kind:X.env.scope.kind=.function
 glob:X.env.globals=mainGlobals
 blt:X.env.builtins=builtinsNs
 above:X.s₀.heap.objs.size<=X.env.locals
 inj:∀x y c,X.env.cells.lookup x=some c->X.env.cells.lookup y=some c->x=y
 has:∀x,(X.env.kindOf x=some .cell\/X.env.kindOf x=some .free)->∃c,X.env.cells.lookup x=some c
 cab:∀x c,X.fn x=true->X.env.cells.lookup x=some c->X.s₀.heap.objs.size<=c
 hd:X.calm=true->X.A.handled=none
 frames:X.A.frames=some X.stack
 stk:X.stack=X.outer\/(X.stack=X.env::X.outer/\X.env.frame=some X.env.locals)
 exf:∀b∈X.ex,b≠X.env.locals/\∀x c,X.env.cells.lookup x=some c->c≠b
 bs:∀b o,X.base.get? b=some o->X.s₀.heap.get? b=some o/\X.H₀ b=none
 bsz:X.base.objs.size<=X.s₀.heap.objs.size
 IE:∀b o,X.base.get? b=some o->b∉X.ex
 HK:∀b∈X.ex,b∉X.fs
 Gz:X.s₀.heap.FunFrames X.base X.outer
 frf:∀b∈X.fs,X.H₀ b=none
structure Inv(X:Cx)(pins:List (Addr×Obj))(σ:List (Option V))(H:Hp)(s:Shared):Prop where
 ok:X.Ok
 os:s.os=X.s₀.os
 bare:AllBare s.gens
 base:Un X.fs X.ex X.H₀ H X.s₀.heap s.heap
 loc:∃m,s.heap.Ns X.env.locals m/\∀(i:Nat)(x:Str)(v:V),X.N[i]?=some x->σ[i]?=some (some v)->Vis X.env.scope x->∃u,RelV v u/\Look X.env s.heap m x u
 cell:∀x c,X.env.cells.lookup x=some c->∃v,s.heap.IsCell c v
 free:H X.env.locals=none
 Ex:∀x c,X.env.cells.lookup x=some c->H c=none
 pin:∀p∈X.pn++pins,s.heap.get? p.1=some p.2/\H p.1=none/\p.1≠X.env.locals/\p.1∉X.fs/\∀v,p.2.data≠.cell v
 hok:HOk X.prog X.w H s.heap
 len:σ.length=X.N.length
section
variable {X:Cx}{pins:List (Addr×Obj)}{σ:List (Option V)}{H H':Hp}{s:Shared}{h':Heap}
theorem Cx.Ok.nofr(ok:X.Ok){b:Addr}{o:Obj}(e:X.base.get? b=some o):b∉X.fs:=fun hb=>by
 have:=(ok.Gz.mem hb).1;rw[e] at this;cases this
theorem Inv.bs(I:Inv X pins σ H s):∀b o,X.base.get? b=some o->s.heap.get? b=some o/\H b=none:=fun b o e=>
 ⟨I.base.keep b o (I.ok.bs b o e).1 (I.ok.bs b o e).2 (I.ok.nofr e) (I.ok.IE b o e),I.base.free b o (I.ok.bs b o e).1 (I.ok.bs b o e).2 (I.ok.IE b o e)⟩
theorem Inv.bk(I:Inv X pins σ H s):∀b o,X.base.get? b=some o->s.heap.get? b=some o:=fun b o e=>(I.bs b o e).1
theorem Inv.mod(I:Inv X pins σ H s):Mod X.K X.mg X.base:=I.ok.mod
theorem Inv.kIn(I:Inv X pins σ H s):X.K.In s.heap:=I.ok.mod.kin.keeps I.bk
theorem Inv.nolimit(I:Inv X pins σ H s):s.heap.NoLimit:=I.ok.mod.nolimit.keeps I.bk
theorem Inv.lt(I:Inv X pins σ H s):X.env.locals<s.heap.objs.size:=let ⟨_,hn,_⟩:=I.loc;hn.lt
theorem Inv.sz(I:Inv X pins σ H s):X.s₀.heap.objs.size<=s.heap.objs.size:=zO I.ok.above (Ax I.lt)
theorem Inv.nofs(I:Inv X pins σ H s){a:Addr}(h:s.heap.objs.size<=a):a∉X.fs:=fun hb=>by
 obtain⟨_,o,ho,_⟩:=I.ok.Gz.mem hb;exact absurd (zP (Dh ho) (zO I.sz h)) (Ai _)
theorem Inv.cne(I:Inv X pins σ H s):∀x c,X.env.cells.lookup x=some c->c≠X.env.locals:=fun x c e z=>by
 obtain⟨v,o,ho,hd⟩:=I.cell x c e;obtain⟨m,⟨o',es,ep,ho',hd',_⟩,_⟩:=I.loc;rw[z,ho'] at ho;cases ho;rw[hd'] at hd;cases hd
theorem Inv.Gz(I:Inv X pins σ H s):s.heap.FunFrames X.base X.outer:=by
 have all:∀(l:List Env),(∀b∈frs l,b∈X.fs)->X.s₀.heap.FunFrames X.base l->s.heap.FunFrames X.base l:=by
  intro l;induction l with
  |nil=>intro _ _;trivial
  |cons env r ih=>
   intro hs hl;obtain⟨hk,⟨L,o,hf,hn,ho,hd⟩,hr⟩:=hl;have hL:L∈X.fs:=hs L (by unfold frs;rw[Cg,hf];exact zQ);obtain⟨sl,e⟩:=I.base.slot L o ho (I.ok.frf L hL) hL fun z=>I.ok.HK L z hL;exact⟨hk,⟨L,_,hf,hn,e,hd⟩,ih (fun b hb=>hs b (by unfold frs;rw[Cg,hf];exact Ac _ hb)) hr⟩
 exact all X.outer (fun _ hb=>hb) I.ok.Gz
theorem Inv.stack(I:Inv X pins σ H s):s.heap.FunFrames X.base X.stack:=by
 rcases I.ok.stk with e|⟨e,hf⟩
 ·rw[e];exact I.Gz
 ·rw[e];obtain⟨m,hn,_⟩:=I.loc;refine .cons (by rw[I.ok.kind];decide) hf hn ?_ I.Gz;exact Heap.get?_none_of_le (zO I.ok.bsz I.ok.above)
theorem Inv.FD(I:Inv X pins σ H s):∀b∈frs X.stack,b∈X.env.locals::X.fs:=fun b hb=>by
 rcases I.ok.stk with e|⟨e,hf⟩
 ·rw[e] at hb;exact Ac _ hb
 ·rw[e] at hb;unfold frs at hb;rw[Cg,hf] at hb;exact hb
theorem Inv.Fl(I:Inv X pins σ H s):∀b∈frs X.stack,H b=none:=fun b hb=>by
 rcases zU.mp (I.FD b hb) with e|hb
 ·rw[e];exact I.free
 ·obtain⟨_,o,ho,_⟩:=I.ok.Gz.mem hb;exact I.base.free b o ho (I.ok.frf b hb) fun z=>I.ok.HK b z hb
theorem Inv.step{g':Array GenState}{t':Nat}{d':Drawn}{ch:List Addr}(I:Inv X pins σ H s)
  (hch:∀b∈ch,(b∈X.ex\/X.s₀.heap.get? b=none)/\b≠X.env.locals/\(∀x c,X.env.cells.lookup x=some c->c≠b)/\∀p∈X.pn++pins,p.1≠b)
  (keep:∀b o,b≠X.env.locals->b∉X.fs->b∉ch->s.heap.get? b=some o->H b=none->h'.get? b=some o)
  (slot:∀b o,b≠X.env.locals->b∈X.fs->b∉ch->s.heap.get? b=some o->H b=none->∃sl,h'.get? b=some {o with slots:=sl})(free:∀b o,b∉ch->s.heap.get? b=some o->H b=none->H' b=none)
  (there:∀b o,b∉ch->s.heap.get? b=some o->∃o',h'.get? b=some o')
  (GH:∀b xs,H b=some (.tup xs)->H' b=some (.tup xs))(GA:∀b o u,H b=some (.frz o u)->H' b=some (.frz o u))(GF:∀b ps,H b=some (.tbl ps)->∃more,H' b=some (.tbl (ps++more)))
  (ns:∀m,s.heap.Ns X.env.locals m->h'.Ns X.env.locals m)(hok:HOk X.prog X.w H' h')(hg:AllBare g') :
  Inv X pins σ H' {s with heap:=h',gens:=g',drawn:=d',toks:=t'}:=by
 have neL:∀b o,X.s₀.heap.get? b=some o->b≠X.env.locals:=fun b o e=>zJ (zP (Dh e) I.ok.above);have neC:∀b o,X.s₀.heap.get? b=some o->b∉X.ex->b∉ch:=fun b o e hx hb=>by
  rcases (hch b hb).1 with z|z
  ·exact hx z
  ·rw[z] at e;cases e
 have cellK:∀x c,X.env.cells.lookup x=some c->∀v,s.heap.IsCell c v->h'.IsCell c v:=fun x c e v hq1=>by
  obtain⟨o,ho,hd⟩:=hq1;have nch:c∉ch:=fun z=>(hch c z).2.2.1 x c e rfl;by_cases hc:c∈X.fs
  ·obtain⟨sl,q⟩:=slot c o (I.cne x c e) hc nch ho (I.Ex x c e);exact⟨_,q,hd⟩
  ·exact⟨o,keep c o (I.cne x c e) hc nch ho (I.Ex x c e),hd⟩
 refine⟨I.ok,I.os,hg,⟨fun b o e n hb hx=>?_,fun b o e n hb hx=>?_,fun b o e n hx=>?_,fun b o e hx=>?_,fun b xs e=>GH b xs (I.base.GH b xs e),fun b o xs e=>GA b o xs (I.base.GA b o xs e),fun b ps e=>?_⟩,?_,fun x c e=>?_,?_,fun x c e=>?_,fun p hp=>?_,hok,I.len⟩
 ·exact keep b o (neL b o e) hb (neC b o e hx) (I.base.keep b o e n hb hx) (I.base.free b o e n hx)
 ·obtain⟨sl,e1⟩:=I.base.slot b o e n hb hx;obtain⟨sl',e2⟩:=slot b _ (neL b o e) hb (neC b o e hx) e1 (I.base.free b o e n hx);exact⟨sl',e2⟩
 ·obtain⟨o',e1⟩:=I.base.there b o e hx;exact free b o' (neC b o e hx) e1 (I.base.free b o e n hx)
 ·obtain⟨o',e1⟩:=I.base.there b o e hx;exact there b o' (neC b o e hx) e1
 ·obtain⟨m1,e1⟩:=I.base.GF b ps e;obtain⟨m2,e2⟩:=GF b _ e1;exact⟨m1++m2,by rw[e2,Array.append_assoc]⟩
 ·obtain⟨m,hn,hl⟩:=I.loc;refine⟨m,ns m hn,fun i x v e1 e2 e3=>?_⟩;obtain⟨u,r,l⟩:=hl i x v e1 e2 e3;refine⟨u,r,?_⟩;rcases l with l|⟨k,c,e,z⟩
  ·exact .inl l
  ·exact .inr ⟨k,c,e,cellK x c e _ z⟩
 ·obtain⟨v,z⟩:=I.cell x c e;exact⟨v,cellK x c e v z⟩
 ·obtain⟨m,⟨o,_,_,ho,_⟩,_⟩:=I.loc;exact free _ o (fun z=>(hch _ z).2.1 rfl) ho I.free
 ·obtain⟨v,o,ho,hd⟩:=I.cell x c e;exact free c o (fun z=>(hch c z).2.2.1 x c e rfl) ho (I.Ex x c e)
 ·obtain⟨e,n,ne,nf,d⟩:=I.pin p hp;have nch:p.1∉ch:=fun z=>(hch p.1 z).2.2.2 p hp rfl;exact⟨keep p.1 p.2 ne nf nch e n,free p.1 p.2 nch e n,ne,nf,d⟩
theorem Inv.un{t':Nat}(I:Inv X pins σ H s)(u:Un X.fs [] H H' s.heap h')(hok:HOk X.prog X.w H' h'):Inv X pins σ H' {s with heap:=h',toks:=t'}:=by
 obtain⟨m,⟨o,es,ep,ho,r⟩,_⟩:=id I.loc;obtain⟨sl,hL⟩:=u.any ho I.free (by simp)
 exact I.step (g':=s.gens) (d':=s.drawn) (ch:=[]) (fun _ z=>nomatch z) (fun b o _ hb _ e n=>u.keep b o e n hb (by simp)) (fun b o _ hb _ e n=>u.slot b o e n hb (by simp)) (fun b o _ e n=>u.free b o e n (by simp)) (fun b o _ e=>u.there b o e (by simp)) u.GH u.GA u.GF (fun m' hm=>by
  obtain⟨o',es',ep',ho',r'⟩:=hm;rw[ho] at ho';cases ho'
  exact⟨_,es',ep',hL,r'⟩) hok I.bare
theorem Inv.call{g':Array GenState}{t':Nat}{d':Drawn}{ch:List Addr}(I:Inv X pins σ H s)(u:Un (frs X.stack) ch H H' s.heap h')(hok:HOk X.prog X.w H' h')(hg:AllBare g')
  (hch:∀b∈ch,(b∈X.ex\/X.s₀.heap.get? b=none)/\b≠X.env.locals/\(∀x c,X.env.cells.lookup x=some c->c≠b)/\∀p∈X.pn++pins,p.1≠b) :
  Inv X pins σ H' {s with heap:=h',gens:=g',drawn:=d',toks:=t'}:=by
 obtain⟨m,⟨o,es,ep,ho,r⟩,_⟩:=id I.loc;obtain⟨sl,hL⟩:=u.any ho I.free fun z=>(hch _ z).2.1 rfl
 exact I.step (ch:=ch) hch (fun b o hL hb hc e n=>u.keep b o e n (fun z=>(zU.mp (I.FD b z)).elim hL hb) hc) (fun b o _ _ hc e n=>u.any e n hc) (fun b o hc e n=>u.free b o e n hc) (fun b o hc e=>u.there b o e hc) u.GH u.GA u.GF (fun m' hm=>by
  obtain⟨o',es',ep',ho',r'⟩:=hm;rw[ho] at ho';cases ho'
  exact⟨_,es',ep',hL,r'⟩) hok hg
theorem Inv.turned{t':Nat}{it:Addr}(I:Inv X pins σ H s)(k:∀b o,b≠it->s.heap.get? b=some o->h'.get? b=some o)(hn:H it=none)(hL:it≠X.env.locals)
  (h1:it∈X.ex\/X.s₀.heap.get? it=none)(h2:∀x c,X.env.cells.lookup x=some c->c≠it)(h3:∀p∈X.pn++pins,p.1≠it):Inv X pins σ H {s with heap:=h',toks:=t'}:=by
 have nit:∀b u,H b=some u->b≠it:=fun b u e z=>by rw[z,hn] at e;cases e
 refine I.step (g':=s.gens) (d':=s.drawn) (ch:=[it]) (fun b hb=>?_) (fun b o _ _ hc e _=>k b o (fun z=>hc (by simp[z])) e) (fun b o _ _ hc e _=>⟨o.slots,k b o (fun z=>hc (by simp[z])) e⟩) (fun _ _ _ _ n=>n)
  (fun b o hc e=>⟨o,k b o (fun z=>hc (by simp[z])) e⟩) (fun _ _ e=>e) (fun _ _ _ e=>e) (fun b ps e=>⟨#[],by rw[e];simp⟩) (fun m hm=>?_) (fun b u e=>?_) I.bare
 ·have e:b=it:=by simpa using hb
  subst e;exact⟨h1,hL,h2,h3⟩
 ·obtain⟨o,es,ep,ho,r⟩:=hm;exact⟨o,es,ep,k _ o (Dv hL) ho,r⟩
 ·refine(I.hok b u e).Gd (fun c v hc q=>k c v ?_ q) (fun _ q=>q) fun _ _ q=>q;rcases hc with z|z
  ·rw[z];exact nit b u e
  ·exact nit c _ z
theorem Inv.tok(I:Inv X pins σ H s)(t:Nat):Inv X pins σ H {s with toks:=t}:=I.un (h':=s.heap) (t':=t) Un.refl I.hok
theorem Inv.kept{t':Nat}(I:Inv X pins σ H s)(k:∀b u,s.heap.get? b=some u->h'.get? b=some u):Inv X pins σ H {s with heap:=h',toks:=t'}:=I.un (Un.kept k) (I.hok.kept k)
theorem Inv.laid{a:Addr}{o:HO}{t':Nat}(I:Inv X pins σ H s)(k:∀b u,s.heap.get? b=some u->h'.get? b=some u)(hp:s.heap.objs.size<=a)(new:Ed X.prog X.w (upd H a o) h' a o) :
  Inv X pins σ (upd H a o) {s with heap:=h',toks:=t'}:=I.un (Un.laid k hp (I.hok.fresh hp)) (I.hok.laid k hp new)
theorem Inv.write{x e:Addr}{o:HO}{t':Nat}(I:Inv X pins σ H s)(mu:Mut (H x))(he:e=x\/H e=some (.own x))(k:∀b u,b≠e->s.heap.get? b=some u->h'.get? b=some u)(heo:∃u,h'.get? e=some u)
  (new:Ed X.prog X.w (upd H x o) h' x o):Inv X pins σ (upd H x o) {s with heap:=h',toks:=t'}:=I.un (Un.write mu he k heo) (I.hok.write mu he k heo new)
theorem Inv.ED{pins':List (Addr×Obj)}(I:Inv X pins σ H s)(h:∀p∈pins',s.heap.get? p.1=some p.2/\H p.1=none/\p.1≠X.env.locals/\p.1∉X.fs/\∀v,p.2.data≠.cell v):Inv X pins' σ H s:=
 ⟨I.ok,I.os,I.bare,I.base,I.loc,I.cell,I.free,I.Ex,fun p hp=>(zH.mp hp).elim (fun z=>I.pin p (Ad _ z)) (h p),I.hok,I.len⟩
theorem kC{N:List Str}(hN:N.Nodup){i j:Nat}{x:Str}(a:N[i]?=some x)(b:N[j]?=some x):i=j:=by
 obtain⟨h1,e1⟩:=zL.mp a;obtain⟨h2,e2⟩:=zL.mp b;exact(List.getElem_inj hN).mp (e1.trans e2.symm)
theorem ft{M:Model}{A:Around}{E:Value->Shared->Prop}{i:Nat}{x:Str}{v:V}{u:Value}{Q:Unit->Shared->Prop}(I:Inv X pins σ H s)(hN:X.N.Nodup)(hi:X.N[i]?=some x)(hx:Loc X.env.scope x)(r:RelV v u)
  (h:∀s',Inv X pins (σ.set i (some v)) H s'->(∃a,Heap.SameBut a s.heap s'.heap/\(a=X.env.locals\/X.env.cells.lookup x=some a))->Q () s')(hf:X.fn x=true\/X.env.scope.names.lookup x=some .local:=by first|exact .inl rfl|exact .inr rfl|assumption):wpAny M A (storeName X.env x u) Q E s:=by
 obtain⟨m,hn,hl⟩:=id I.loc;have hcls:(X.env.scope.kind==.class||(X.env.scope.kind==.module&&X.env.locals != X.env.globals))=false:=by rw[I.ok.kind];rfl
 have hiσ:i<σ.length:=by rw[I.len];exact(zL.mp hi).1
 have cne:=I.cne;have tracked:∀{a:Addr}{h':Heap},(∃o,s.heap.get? a=some o/\H a=none)->Heap.SameBut a s.heap h'->HOk X.prog X.w H h':=fun {a h'} ha hs b ob e=>by
  obtain⟨_,_,hfree⟩:=ha;refine(I.hok b ob e).Gd (fun c w' hc q=>(hs.2 c ?_).trans q) (fun _ q=>q) fun _ _ q=>q;rintro rfl;rcases hc with rfl|hc
  ·rw[hfree] at e;cases e
  ·rw[hfree] at hc;cases hc
 rcases hx with hk|hk
 ·refine wpAny_storeName_local hk hn (fun h' hn' hs=>?_) hcls;obtain⟨oL,_,_,hoL,_⟩:=id hn;refine h _ ⟨I.ok,I.os,I.bare,⟨fun b o e n hb hx=>?_,fun b o e n hb hx=>?_,I.base.free,fun b o e hx=>?_,I.base.GH,I.base.GA,I.base.GF⟩,⟨_,hn',fun j y v' e1 e2 e3=>?_⟩,fun y c e=>?_,I.free,I.Ex,fun p hp=>?_,tracked ⟨oL,hoL,I.free⟩ hs,by simpa using I.len⟩ ⟨_,hs,.inl rfl⟩
  ·exact(hs.2 b (zJ (zP (Dh e) I.ok.above))).trans (I.base.keep b o e n hb hx)
  ·obtain⟨sl,e1⟩:=I.base.slot b o e n hb hx;exact⟨sl,(hs.2 b (zJ (zP (Dh e) I.ok.above))).trans e1⟩
  ·obtain⟨o',e1⟩:=I.base.there b o e hx;exact⟨o',(hs.2 b (zJ (zP (Dh e) I.ok.above))).trans e1⟩
  ·by_cases hj:j=i
   ·subst hj;rw[hi] at e1;cases e1;rw[BA hiσ] at e2;cases e2;exact⟨u,r,.inl ⟨hk,by simp⟩⟩
   ·rw[BB (Dv hj)] at e2;obtain⟨u',r',q⟩:=hl j y v' e1 e2 e3;refine⟨u',r',?_⟩;rcases q with ⟨k,e⟩|⟨k,c,e,z⟩
    ·refine .inl ⟨k,?_⟩;have:y≠x:=fun e=>hj (kC hN e1 (e▸hi));simp[this,e]
    ·exact .inr ⟨k,c,e,z.sameBut hs (cne y c e)⟩
  ·obtain⟨w',z⟩:=I.cell y c e;exact⟨w',z.sameBut hs (cne y c e)⟩
  ·obtain⟨e,n,ne,nf,d⟩:=I.pin p hp;exact⟨(hs.2 p.1 ne).trans e,n,ne,nf,d⟩
 ·have hfn:X.fn x=true:=by
   rcases hf with z|z
   ·exact z
   ·rw[z] at hk;cases hk
  obtain⟨c,hc⟩:=I.ok.has x (.inl hk);obtain⟨w',z⟩:=I.cell x c hc;refine wpAny_storeName_cell I.ok.kind hk hc z (fun h' hc' hs=>?_);obtain⟨oc,hoc,hocd⟩:=id z;refine h {s with heap:=h'} ⟨I.ok,I.os,I.bare,⟨fun b o e n hb hx=>?_,fun b o e n hb hx=>?_,I.base.free,fun b o e hx=>?_,I.base.GH,I.base.GA,I.base.GF⟩,⟨m,hn.sameBut hs (Dv (cne x c hc)),fun j y v' e1 e2 e3=>?_⟩,fun y c' e=>?_,I.free,I.Ex,fun p hp=>?_,tracked ⟨oc,hoc,I.Ex x c hc⟩ hs,by simpa using I.len⟩ ⟨c,hs,.inr hc⟩
  ·exact(hs.2 b (zJ (zP (Dh e) (I.ok.cab x c hfn hc)))).trans (I.base.keep b o e n hb hx)
  ·obtain⟨sl,e1⟩:=I.base.slot b o e n hb hx;exact⟨sl,(hs.2 b (zJ (zP (Dh e) (I.ok.cab x c hfn hc)))).trans e1⟩
  ·obtain⟨o',e1⟩:=I.base.there b o e hx;exact⟨o',(hs.2 b (zJ (zP (Dh e) (I.ok.cab x c hfn hc)))).trans e1⟩
  ·by_cases hj:j=i
   ·subst hj;rw[hi] at e1;cases e1;rw[BA hiσ] at e2;cases e2;exact⟨u,r,.inr ⟨.inl hk,c,hc,hc'⟩⟩
   ·rw[BB (Dv hj)] at e2;obtain⟨u',r',q⟩:=hl j y v' e1 e2 e3;refine⟨u',r',?_⟩;rcases q with q|⟨k,c',e,z'⟩
    ·exact .inl q
    ·refine .inr ⟨k,c',e,z'.sameBut hs ?_⟩;rintro rfl;exact hj (kC hN e1 (I.ok.inj _ _ _ e hc▸hi))
  ·by_cases hcc:c'=c
   ·subst hcc;exact⟨_,hc'⟩
   ·obtain⟨w2,z2⟩:=I.cell y c' e;exact⟨w2,z2.sameBut hs hcc⟩
  ·obtain⟨e,n,ne,nf,d⟩:=I.pin p hp;refine⟨(hs.2 p.1 ?_).trans e,n,ne,nf,d⟩;intro q;rw[q,hoc] at e;have q':oc=p.2:=Di e;exact d w' (by rw[<- q'];exact hocd)
theorem eV{M:Model}{A:Around}{E:Value->Shared->Prop}{i:Nat}{x:Str}{v:V}{u:Value}{Q:Unit->Shared->Prop}(I:Inv X pins σ H s)(hN:X.N.Nodup)(hi:X.N[i]?=some x)(hx:Loc X.env.scope x)(r:RelV v u)
  (h:∀s',Inv X pins (σ.set i (some v)) H s'->Q () s')(hf:X.fn x=true\/X.env.scope.names.lookup x=some .local:=by first|exact .inl rfl|exact .inr rfl|assumption):wpAny M A (storeName X.env x u) Q E s:=
 ft I hN hi hx r (fun s' I' _=>h s' I') hf
theorem Inv.Jl{s':Shared}{ch:List Addr}(I:Inv X pins σ H s)(ho:s'.os=s.os)(u:Un (frs X.stack) ch H H' s.heap s'.heap)(hok:HOk X.prog X.w H' s'.heap)(hg:AllBare s'.gens)
  (hch:∀b∈ch,(b∈X.ex\/X.s₀.heap.get? b=none)/\b≠X.env.locals/\(∀x c,X.env.cells.lookup x=some c->c≠b)/\∀p∈X.pn++pins,p.1≠b):Inv X pins σ H' s':=by
 obtain⟨h',g',d',t',o'⟩:=s';have e:o'=s.os:=ho;subst e;exact I.call (g':=g') (t':=t') (d':=d') u hok hg hch
end
abbrev XK:=Value->Option Addr->Hp->Prop
abbrev St:=List (Option V)
abbrev VK:=V->Hp->Prop
abbrev TE:=St->Hp->VK->Prop
abbrev TT:=St->Hp->(Bool->Hp->Prop)->Prop
abbrev TA:=St->Hp->(List V->Hp->Prop)->Prop
structure Ends where
 nx:St->Hp->Prop
 rt:VK
 bk:St->Hp->Prop:=fun _ _=>False
 ct:St->Hp->Prop:=fun _ _=>False
abbrev TS:=Ends->St->Hp->Prop
def EP (X:Cx)(pins:List (Addr×Obj))(σ:St)(Q:VK)(u:Value)(s':Shared):Prop:=∃v H',Inv X pins σ H' s'/\RelV v u/\Q v H'
def TP (X:Cx)(pins:List (Addr×Obj))(σ:St)(Q:Bool->Hp->Prop)(b:Bool)(s':Shared):Prop:=∃H',Inv X pins σ H' s'/\Q b H'
def AP (X:Cx)(pins:List (Addr×Obj))(σ:St)(Q:List V->Hp->Prop)(us:List Value)(s':Shared):Prop:=∃vs H',Inv X pins σ H' s'/\Vals vs us/\Q vs H'
def SP (X:Cx)(pins:List (Addr×Obj))(D:Ends)(f:Flow)(s':Shared):Prop:=
 match f with
 |.next=>∃σ' H',Inv X pins σ' H' s'/\D.nx σ' H'
 |.brk=>∃σ' H',Inv X pins σ' H' s'/\D.bk σ' H'
 |.cont=>∃σ' H',Inv X pins σ' H' s'/\D.ct σ' H'
 |.ret u=>∃v σ' H',Inv X pins σ' H' s'/\RelV v u/\D.rt v H'
def PE (X:Cx)(e:Expr)(t:TE):Prop:=
 ∀(pins:List (Addr×Obj))(s:Shared)(σ:St)(H:Hp)(Q:VK),Inv X pins σ H s->t σ H Q->(wq X) (eval e X.env) (EP X pins σ Q) X.xe s
def PT (X:Cx)(e:Expr)(t:TT):Prop:=
 ∀(pins:List (Addr×Obj))(s:Shared)(σ:St)(H:Hp)(Q:Bool->Hp->Prop),Inv X pins σ H s->t σ H Q->(wq X) (isTrue e X.env (eval e X.env)) (TP X pins σ Q) X.xe s
def PW (X:Cx)(e:Expr)(t:TT):Prop:=
 ∀(whole:Sem Value)(pins:List (Addr×Obj))(s:Shared)(σ:St)(H:Hp)(Q:Bool->Hp->Prop),Inv X pins σ H s->t σ H Q->(wq X) (isTrue e X.env whole) (TP X pins σ Q) X.xe s
theorem PW.pt{X:Cx}{e:Expr}{t:TT}(h:PW X e t):PT X e t:=h _
def PA (X:Cx)(es:List Expr)(t:TA):Prop:=
 ∀(pos:Pos)(pins:List (Addr×Obj))(s:Shared)(σ:St)(H:Hp)(Q:List V->Hp->Prop),Inv X pins σ H s->t σ H Q->(wq X) (spliced (backTo pos (starEach es X.env))) (AP X pins σ Q) X.xe s
def PS (X:Cx)(st:Stmt)(t:TS):Prop:=
 ∀(pins:List (Addr×Obj))(s:Shared)(σ:St)(H:Hp)(D:Ends),Inv X pins σ H s->t D σ H->(wq X) (exec st X.env) (SP X pins D) X.xe s
def PSs (X:Cx)(st:List Stmt)(t:TS):Prop:=
 ∀(pins:List (Addr×Obj))(s:Shared)(σ:St)(H:Hp)(D:Ends),Inv X pins σ H s->t D σ H->(wq X) (execs st X.env) (SP X pins D) X.xe s
theorem thn{α:Type}{t:Sem α}{Q Q':α->Shared->Prop}{M:Model}{A:Around}{E:Value->Shared->Prop}{s:Shared}(h:wpAny M A t Q E s)(hQ:∀a s,Q a s->Q' a s):wpAny M A t Q' E s:=De h hQ fun _ _ x=>x
section
variable {X:Cx}
def nQ (i:Nat):TE:=fun σ H Q=>∃v,σ[i]?=some (some v)/\Q v H
def tC (v:V):TE:=fun _ H Q=>Q v H
theorem tZ{i:Nat}{x:Str}{pos:Pos}(hN:X.N[i]?=some x)(hv:Vis X.env.scope x)(hd:(x==("__debug__":Str))=false:=by decide)(hcd:(x==("__classdict__":Str))=false:=by decide):PE X (.Name x pos) (nQ i):=by
 intro pins s σ H Q I h;obtain⟨v,e,h⟩:=h;obtain⟨m,hn,hl⟩:=I.loc;obtain⟨u,r,l⟩:=hl i x v hN e hv;have fin:EP X pins σ Q u s:=⟨v,H,I,r,h⟩
 rcases l with ⟨hk,hm⟩|⟨hk,c,hc,hcell⟩
 ·exact wpAny_Name (wpAny_loadName_local I.ok.kind hk hn hm fin) hd
 ·rcases hk with hk|hk
  ·exact wpAny_Name (wpAny_loadName_cell I.ok.kind hk hc hcell fin) hd
  ·exact wpAny_Name (wpAny_loadName_free I.ok.kind hk hc hcell fin hcd) hd
theorem ah{i j pos}:PE X (.Constant (.int i) j pos) (tC (.int i)):=fun _ _ _ H _ I h=>wpAny_Constant_int ⟨.int i,H,I.tok _,⟨_,rfl⟩,h⟩
theorem cc{b j pos}:PE X (.Constant (.bool b) j pos) (tC (.bl b)):=fun _ _ _ H _ I h=>Constant_bool ⟨.bl b,H,I,rfl,h⟩
theorem cn{j pos}:PE X (.Constant .none j pos) (tC .non):=fun _ _ _ H _ I h=>Constant_none ⟨.non,H,I,rfl,h⟩
theorem bA{x j pos}:PE X (.Constant (.str x) j pos) (tC (.str x)):=fun _ _ _ H _ I h=>Calls.Constant_str ⟨.str x,H,I.tok _,⟨_,rfl⟩,h⟩
def Gl (X:Cx)(x:Str):Prop:=X.env.kindOf x=some .globalImplicit
theorem nS{E:Value->Shared->Prop}{pins:List (Addr×Obj)}{s:Shared}{σ:St}{H:Hp}{x:Str}{u:Value}{pos:Pos}{Q:Value->Shared->Prop}(I:Inv X pins σ H s)(hg:Gl X x)(hm:X.mg x=some u)(h:Q u s)
  (hd:(x==("__debug__":Str))=false:=by decide):(wq X) (eval (.Name x pos) X.env) Q E s:=
 Calls.Name_function_global I.ok.kind hg (Calls.loadGlobal_global (by rw[I.ok.glob];exact I.mod.glob.keeps I.bk) hm h) hd
theorem dI{E:Value->Shared->Prop}{pins:List (Addr×Obj)}{s:Shared}{σ:St}{H:Hp}{x:Str}{u:Value}{pos:Pos}{Q:Value->Shared->Prop}(I:Inv X pins σ H s)(hg:Gl X x)(hm:X.mg x=none)(hv:bootBuiltins x=some u)(h:Q u s)
  (hn:x≠"__name__":=by decide)(hd:(x==("__debug__":Str))=false:=by decide):(wq X) (eval (.Name x pos) X.env) Q E s:=by
 obtain⟨mb,h1,h2⟩:=I.mod.blt;exact Calls.Name_function_global I.ok.kind hg (Calls.loadGlobal_builtin (by rw[I.ok.glob];exact I.mod.glob.keeps I.bk) hm (by rw[I.ok.blt];exact h1.keeps I.bk) ((h2 x hn).trans hv) h) hd
theorem gL{x:Str}{v:V}{u:Value}{pos:Pos}(hg:Gl X x)(hm:X.mg x=some u)(r:RelV v u)(hd:(x==("__debug__":Str))=false:=by decide):PE X (.Name x pos) (tC v):=
 fun _ _ _ H _ I h=>nS I hg hm ⟨v,H,I,r,h⟩ hd
theorem cf{x:Str}{v:V}{u:Value}{pos:Pos}(hg:Gl X x)(hm:X.mg x=none)(hv:bootBuiltins x=some u)(r:RelV v u)(hn:x≠"__name__":=by decide)(hd:(x==("__debug__":Str))=false:=by decide):PE X (.Name x pos) (tC v):=
 fun _ _ _ H _ I h=>dI I hg hm hv ⟨v,H,I,r,h⟩ hn hd
variable {a b:Expr}{ta tb:TE}{pos:Pos}
def PC (X:Cx)(op:CmpOp)(a b:Expr)(t:TE):Prop:=
 ∀(pins:List (Addr×Obj))(s:Shared)(σ:St)(H:Hp)(Q:VK),Inv X pins σ H s->t σ H Q ->
  (wq X) (eval a X.env) (fun v s₁=>(wq X) (eval b X.env) (fun u s₂=>(wq X) (compareOp op v u) (EP X pins σ Q) X.xe s₂) X.xe s₁) X.xe s
theorem bY(b:Expr){op:CmpOp}(h:op≠.In)(h2:op≠.NotIn):behindInMarks op b=false:=by
 have e1:(op==CmpOp.In)=false:=by cases op<;>first|rfl|exact absurd rfl h
 have e2:(op==CmpOp.NotIn)=false:=by cases op<;>first|rfl|exact absurd rfl h2
 cases b<;>simp[behindInMarks,e1,e2]
def tB (t:TE):TT:=fun σ H Q=>t σ H fun x H1=>∃c,x=.bl c/\Q c H1
theorem qH{op:CmpOp}{t:TE}(h:PC X op a b t)(h1:behindInMarks op b=false:=by first|exact bY _ (by decide) (by decide)|rfl):PE X (.Compare a [op] [b] pos) t:=fun pins s σ H Q I hw=>wpAny_Compare1 (h pins s σ H Q I hw) h1
theorem kn{op:CmpOp}{t:TE}(h:PC X op a b t)(h1:behindInMarks op b=false:=by first|exact bY _ (by decide) (by decide)|rfl):PT X (.Compare a [op] [b] pos) (tB t):=by
 intro pins s σ H Q I hw;refine wpAny_isTrue_Compare1 (thn (h pins s σ H _ I hw) fun v s1 h1=>thn h1 fun u s2 h2=>thn h2 fun c s3 hq2=>?_) h1;obtain⟨x,H1,I1,r1,q1⟩:=hq2;obtain⟨d,rfl,q⟩:=q1;cases r1;exact wpAny_truthy_bool ⟨H1,I1,q⟩
theorem bH{e:Expr}{t:TE}(h:PE X e t)(he:∀whole,isTrue e X.env whole=(do let v <- whole;standAt e.pos;holding [v] (truthy v)):=by intro _;rfl):PT X e (tB t):=by
 intro pins s σ H Q I hw;refine isTrue_plain (thn (h pins s σ H _ I hw) fun v s1 hq3=>?_) (he _);obtain⟨x,H1,I1,r1,q1⟩:=hq3;obtain⟨d,rfl,q⟩:=q1;cases r1;exact wpAny_truthy_bool ⟨H1,I1,q⟩
variable {tA tB':TT}{rest:List Expr}
def tAnd (t u:TT):TT:=fun σ H Q=>t σ H fun c H1=>if c=true then u σ H1 Q else Q false H1
def tOr (t u:TT):TT:=fun σ H Q=>t σ H fun c H1=>if c=true then Q true H1 else u σ H1 Q
def tNot (t:TT):TT:=fun σ H Q=>t σ H fun c H1=>Q (!c) H1
theorem iu(ha:PT X a tA):PW X (.BoolOp .And [a] pos) tA:=by
 intro wh pins s σ H Q I h;refine isTrue_and (thn (ha pins s σ H Q I h) fun c s1 e=>?_);cases c with
 |true=>exact isTrue_and_nil e
 |false=>exact e
theorem eR(ha:PT X a tA):PW X (.BoolOp .Or [a] pos) tA:=by
 intro wh pins s σ H Q I h;refine isTrue_or (thn (ha pins s σ H Q I h) fun c s1 e=>?_);cases c with
 |false=>exact isTrue_or_nil e
 |true=>exact e
theorem jT(ha:PT X a tA)(hb:PW X (.BoolOp .And (b::rest) pos) tB'):PW X (.BoolOp .And (a::b::rest) pos) (tAnd tA tB'):=by
 intro wh pins s σ H Q I h;refine isTrue_and (thn (ha pins s σ H _ I h) fun c s1 hq4=>?_);obtain⟨H1,I1,q1⟩:=hq4;cases c with
 |true=>exact hb wh pins s1 σ H1 Q I1 q1
 |false=>exact⟨H1,I1,q1⟩
theorem gQ(ha:PT X a tA)(hb:PW X (.BoolOp .Or (b::rest) pos) tB'):PW X (.BoolOp .Or (a::b::rest) pos) (tOr tA tB'):=by
 intro wh pins s σ H Q I h;refine isTrue_or (thn (ha pins s σ H _ I h) fun c s1 hq5=>?_);obtain⟨H1,I1,q1⟩:=hq5;cases c with
 |true=>exact⟨H1,I1,q1⟩
 |false=>exact hb wh pins s1 σ H1 Q I1 q1
theorem cB(ha:PT X a tA):PT X (.UnaryOp .Not a pos) (tNot tA):=by
 intro pins s σ H Q I h;exact isTrue_not (ha pins s σ H (fun c H1=>Q (!c) H1) I h)
def vZ (ta tb:TE):TE:=fun σ H Q=>ta σ H fun x H1=>∃c,x=.bl c/\if c=true then tb σ H1 Q else Q (.bl false) H1
def wo (ta:TE):TE:=fun σ H Q=>ta σ H fun x H1=>∃c,x=.bl c/\Q (.bl (!c)) H1
theorem iR{op}{t:TE}(h:PE X a t):PE X (.BoolOp op [a] pos) t:=fun pins s σ H Q I hw=>BoolOp_one (h pins s σ H Q I hw)
theorem fA(ha:PE X a ta)(hb:PE X (.BoolOp .And (b::rest) pos) tb):PE X (.BoolOp .And (a::b::rest) pos) (vZ ta tb):=by
 intro pins s σ H Q I h;refine BoolOp_and (thn (ha pins s σ H _ I h) fun v s1 hq6=>?_);obtain⟨x,H1,I1,r1,q1⟩:=hq6;obtain⟨c,rfl,q1⟩:=q1;cases r1;refine wpAny_truthy_bool ?_;cases c with
 |true=>exact hb pins s1 σ H1 Q I1 q1
 |false=>exact⟨.bl false,H1,I1,rfl,q1⟩
theorem qG(ha:PE X a ta):PE X (.UnaryOp .Not a pos) (wo ta):=by
 intro pins s σ H Q I h;refine UnaryOp_ (thn (ha pins s σ H _ I h) fun v s1 hq7=>?_);obtain⟨x,H1,I1,r1,q1⟩:=hq7;obtain⟨c,rfl,q1⟩:=q1;cases r1;exact not_of (wpAny_truthy_bool ⟨.bl (!c),H1,I1,rfl,q1⟩)
def tIf (t:TT)(ta tb:TE):TE:=fun σ H Q=>t σ H fun c H1=>if c=true then ta σ H1 Q else tb σ H1 Q
theorem iw{c:Expr}(hc:PT X c tA)(ha:PE X a ta)(hb:PE X b tb):PE X (.IfExp c a b pos) (tIf tA ta tb):=by
 intro pins s σ H Q I h;refine wpAny_IfExp (thn (hc pins s σ H _ I h) fun d s1 hq8=>?_);obtain⟨H1,I1,q1⟩:=hq8;cases d with
 |true=>exact ha pins s1 σ H1 Q I1 q1
 |false=>exact hb pins s1 σ H1 Q I1 q1
end
def SqL (K:W.Frag)(H:Hp)(a:Addr)(xs:List V):Prop:=
 Rd H a (.lst xs) \/
  ∃(o:Obj)(its:Array Value)(n:Nat),K.lookup a=some o/\o.cls=.type "list"/\o.dict=none/\o.data=.seq its n/\its.size<=sizeLine/\Vals xs its.toList
def SqT (K:W.Frag)(H:Hp)(a:Addr)(xs:List V):Prop:=
 Rd H a (.tup xs) \/
  ∃(o:Obj)(its:Array Value)(n:Nat),K.lookup a=some o/\o.cls=.type "tuple"/\o.data=.seq its n/\its.size<=sizeLine/\Vals xs its.toList
def absV:Value->Option V
 |.none=>some .non
 |.bool b=>some (.bl b)
 |.int i _=>some (.int i)
 |.str x _=>some (.str x)
 |.bytes b _=>some (.byt b)
 |.float b _=>some (.flt b)
 |.ref a=>some (.ref a)
 |.type n=>some (.ty n)
 |_=>none
theorem RelV.abs{x:V}{u:Value}(r:RelV x u):absV u=some x:=by
 cases x with
 |non=>cases r;rfl
 |bl _=>cases r;rfl
 |int _=>obtain⟨t,rfl⟩:=r;rfl
 |str _=>obtain⟨t,rfl⟩:=r;rfl
 |byt _=>obtain⟨t,rfl⟩:=r;rfl
 |flt _=>obtain⟨t,rfl⟩:=r;rfl
 |ref _=>cases r;rfl
 |ty _=>cases r;rfl
theorem RelV.inj{x y:V}{u:Value}(r:RelV x u)(q:RelV y u):x=y:=Di (r.abs.symm.trans q.abs)
theorem Vals.inj:∀{xs ys:List V}{us:List Value},Vals xs us->Vals ys us->xs=ys
 |_,_,_,.nil,.nil=>rfl
 |_,_,_,.cons r t,.cons r' t'=>by rw[r.inj r',Vals.inj t t']
section
variable {X:Cx}{pins:List (Addr×Obj)}{σ:St}{H:Hp}{s:Shared}{a:Addr}{xs ys:List V}
theorem SqL.of{K:W.Frag}(h:H a=some (.lst xs)):SqL K H a xs:=.inl (.inl h)
theorem SqT.of{K:W.Frag}(h:H a=some (.tup xs)):SqT K H a xs:=.inl (.inl h)
theorem Inv.list(I:Inv X pins σ H s)(h:SqL X.K H a xs):∃its:List Value,Vals xs its/\PlainL s.heap a its.toArray/\xs.length<=sizeLine:=by
 rcases h with h|⟨o,its,n,hk,hc,hd,hs,hz,r⟩
 ·obtain⟨z,its,n,r,e⟩:=h.ok I.hok;exact⟨its,r,⟨_,n,e,rfl,rfl,rfl⟩,z⟩
 ·refine⟨its.toList,r,⟨o,n,I.kIn a o hk,hc,hd,by simpa using hs⟩,?_⟩;have e:=r.length;simp only[zR] at e;lia
theorem Inv.tuple(I:Inv X pins σ H s)(h:SqT X.K H a xs):∃its:List Value,Vals xs its/\IsTup s.heap a its.toArray/\xs.length<=sizeLine:=by
 rcases h with h|⟨o,its,n,hk,hc,hs,hz,r⟩
 ·obtain⟨z,its,r,p⟩:=h.ok I.hok;exact⟨its,r,p,z⟩
 ·refine⟨its.toList,r,⟨o,I.kIn a o hk,hc,n,by simpa using hs⟩,?_⟩;have e:=r.length;simp only[zR] at e;lia
theorem Inv.Gq(I:Inv X pins σ H s)(h:SqL X.K H a xs)(h':SqL X.K H a ys):xs=ys:=by
 obtain⟨its,r,⟨o,n,e,_,_,d⟩,_⟩:=I.list h;obtain⟨its',r',⟨o',n',e',_,_,d'⟩,_⟩:=I.list h';rw[e] at e';cases e';rw[d] at d';injection d' with d1 _;have:its=its':=by simpa using congrArg Array.toList d1
 subst this;exact r.inj r'
theorem Inv.Hh(I:Inv X pins σ H s)(h:SqT X.K H a xs)(h':SqT X.K H a ys):xs=ys:=by
 obtain⟨its,r,⟨o,e,_,n,d⟩,_⟩:=I.tuple h;obtain⟨its',r',⟨o',e',_,n',d'⟩,_⟩:=I.tuple h';rw[e] at e';cases e';rw[d] at d';injection d' with d1 _;have:its=its':=by simpa using congrArg Array.toList d1
 subst this;exact r.inj r'
end
abbrev Cx.El(X:Cx)(E:Value->Shared->Prop):Cx:={X with xe:=E}
abbrev Cx.nox(X:Cx):Cx:=X.El fun _ _=>False
theorem Cx.Ok.El{X:Cx}(ok:X.Ok)(E:Value->Shared->Prop):(X.El E).Ok:=
 ⟨ok.mod,ok.kind,ok.glob,ok.blt,ok.above,ok.inj,ok.has,ok.cab,ok.hd,ok.frames,ok.stk,ok.exf,ok.bs,ok.bsz,ok.IE,ok.HK,ok.Gz,ok.frf⟩
theorem Cx.Ok.EM{X:Cx}{E:Value->Shared->Prop}(ok:(X.El E).Ok):X.Ok:=
 ⟨ok.mod,ok.kind,ok.glob,ok.blt,ok.above,ok.inj,ok.has,ok.cab,ok.hd,ok.frames,ok.stk,ok.exf,ok.bs,ok.bsz,ok.IE,ok.HK,ok.Gz,ok.frf⟩
section
variable {X:Cx}{pins:List (Addr×Obj)}{σ:St}{H:Hp}{s:Shared}{E:Value->Shared->Prop}
theorem Inv.El(I:Inv X pins σ H s)(E:Value->Shared->Prop):Inv (X.El E) pins σ H s:=⟨I.ok.El E,I.os,I.bare,I.base,I.loc,I.cell,I.free,I.Ex,I.pin,I.hok,I.len⟩
theorem Inv.EM(I:Inv (X.El E) pins σ H s):Inv X pins σ H s:=⟨I.ok.EM,I.os,I.bare,I.base,I.loc,I.cell,I.free,I.Ex,I.pin,I.hok,I.len⟩
theorem SP.EM{D:Ends}{f:Flow}{s':Shared}(h:SP (X.El E) pins D f s'):SP X pins D f s':=by
 cases f with
 |next=>obtain⟨σ',H',I,q⟩:=h;exact⟨σ',H',I.EM,q⟩
 |brk=>obtain⟨σ',H',I,q⟩:=h;exact⟨σ',H',I.EM,q⟩
 |cont=>obtain⟨σ',H',I,q⟩:=h;exact⟨σ',H',I.EM,q⟩
 |ret u=>obtain⟨v,σ',H',I,r,q⟩:=h;exact⟨v,σ',H',I.EM,r,q⟩
theorem PSs.nox{st:List Stmt}{t:TS}(h:PSs X.nox st t):PSs X st t:=fun pins s σ H D I hw=>
 De (h pins s σ H D (I.El _) hw) (fun _ _ q=>q.EM) fun _ _ z=>False.elim z
end
section
variable {X:Cx}{st:Stmt}{rest:List Stmt}{t u:TS}{e:Expr}{te:TE}{pos:Pos}
def Kb:TS:=fun D σ H=>D.nx σ H
def uc (t u:TS):TS:=fun D σ H=>t {D with nx:=u D} σ H
theorem DP:PSs X [] Kb:=fun _ _ σ H _ I h=>wpAny_execs_nil ⟨σ,H,I,h⟩
theorem af(h1:PS X st t)(h2:PSs X rest u):PSs X (st::rest) (uc t u):=by
 intro pins s σ H D I h;refine wpAny_execs_cons (thn (h1 pins s σ H {D with nx:=u D} I h) fun f s1 q=>?_);cases f with
 |next=>
  obtain⟨σ',H',I',q⟩:=q;exact h2 pins s1 σ' H' D I' q
 |ret v=>exact q
 |brk=>exact q
 |cont=>exact q
theorem ak(h1:PS X st t):PSs X [st] t:=by
 intro pins s σ H D I h;refine wpAny_execs_cons (thn (h1 pins s σ H D I h) fun f s1 q=>?_);cases f with
 |next=>exact wpAny_execs_nil q
 |ret v=>exact q
 |brk=>exact q
 |cont=>exact q
theorem Inv.quiet{pins:List (Addr×Obj)}{σ:St}{H:Hp}{s:Shared}(I:Inv X pins σ H s):interactive X.env=false:=by simp[interactive,I.ok.kind]
def vI (te:TE):TS:=fun D σ H=>te σ H fun _ H1=>D.nx σ H1
theorem bE(he:PE X e te)(hs:swapsWith e none pos.line X.env=pure false:=by rfl):PS X (.Expr e pos) (vI te):=by
 intro pins s σ H D I h;refine wpAny_Expr_any (thn (he pins s σ H _ I h) fun v s1 hq9=>?_) I.quiet hs;obtain⟨x,H1,I1,r1,q1⟩:=hq9;exact⟨σ,H1,I1,q1⟩
def xh (te:TE):TS:=fun D σ H=>te σ H D.rt
theorem aD(he:PE X e te):PS X (.Return (some e) pos) (xh te):=by
 intro pins s σ H D I h;refine wpAny_Return_some (thn (he pins s σ H _ I h) fun v s1 hq10=>?_);obtain⟨x,H1,I1,r1,q1⟩:=hq10;exact⟨x,σ,H1,I1,r1,q1⟩
def tIfS (c:TT)(t u:TS):TS:=fun D σ H=>c σ H fun b H1=>if b=true then t D σ H1 else u D σ H1
theorem bf{c:Expr}{a b:List Stmt}{tc:TT}(hc:PT X c tc)(ha:PSs X a t)(hb:PSs X b u):PS X (.If c a b pos) (tIfS tc t u):=by
 intro pins s σ H D I h;refine wpAny_If (thn (hc pins s σ H _ I h) fun d s1 hq11=>?_);obtain⟨H1,I1,q1⟩:=hq11;cases d with
 |true=>exact ha pins s1 σ H1 D I1 q1
 |false=>exact hb pins s1 σ H1 D I1 q1
def Jx:TS:=fun _ _ _=>False
theorem EJ:PS X st Jx:=fun _ _ _ _ _ _ h=>h.elim
end
abbrev TG:=V->St->Hp->(St->Hp->Prop)->Prop
abbrev TGs:=List V->St->Hp->(St->Hp->Prop)->Prop
def PG (X:Cx)(target:Expr)(t:TG):Prop:=
 ∀(pins:List (Addr×Obj))(s:Shared)(σ:St)(H:Hp)(v:V)(u:Value)(Q:St->Hp->Prop),Inv X pins σ H s->RelV v u->t v σ H Q ->
  (wq X) (assign target X.env u) (fun _ s'=>∃σ' H',Inv X pins σ' H' s'/\Q σ' H') X.xe s
def PGs (X:Cx)(ts:List Expr)(t:TGs):Prop:=
 ∀(pins:List (Addr×Obj))(s:Shared)(σ:St)(H:Hp)(vs:List V)(us:List Value)(Q:St->Hp->Prop),Inv X pins σ H s->Vals vs us->t vs σ H Q ->
  (wq X) (assignInOrder ((assignEach ts X.env).map (·.2)) us) (fun _ s'=>∃σ' H',Inv X pins σ' H' s'/\Q σ' H') X.xe s
abbrev JQ:=V->V->V->Hp->(Hp->Prop)->Prop
def xc (X:Cx)(t:JQ):Prop:=
 ∀(pins:List (Addr×Obj))(s:Shared)(σ:St)(H:Hp)(o i v:V)(ov iv u:Value)(Q:Hp->Prop),Inv X pins σ H s->RelV o ov->RelV i iv->RelV v u->t o i v H Q ->
  (wq X) (setItem ov iv u) (fun _ s'=>∃H',Inv X pins σ H' s'/\Q H') X.xe s
section
variable {X:Cx}{pos:Pos}
def jw (i:Nat):TG:=fun v σ H Q=>Q (σ.set i (some v)) H
theorem ar{i:Nat}{x:Str}(hN:X.N.Nodup)(hi:X.N[i]?=some x)(hx:Loc X.env.scope x)(hf:X.fn x=true\/X.env.scope.names.lookup x=some .local:=by first|exact .inl rfl|exact .inr rfl|assumption):PG X (.Name x pos) (jw i):=by
 intro pins s σ H v u Q I r h;exact wpAny_assign_Name (eV I hN hi hx r (fun s' I'=>⟨_,H,I',h⟩) hf)
def gNil:TGs:=fun vs σ H Q=>vs=[]/\Q σ H
def wa (t:TG)(u:TGs):TGs:=fun vs σ H Q=>∃v r,vs=v::r/\t v σ H fun σ' H'=>u r σ' H' Q
theorem Ee:PGs X [] gNil:=by
 intro pins s σ H vs us Q I r h;obtain⟨e,h⟩:=h;subst e;cases r;exact assignInOrder_nil ⟨σ,H,I,h⟩
theorem aB{e:Expr}{es:List Expr}{t:TG}{u:TGs}(h1:PG X e t)(h2:PGs X es u)
  (hs:(assignEach (e::es) X.env).map (·.2)=assign e X.env::(assignEach es X.env).map (·.2):=by rfl):PGs X (e::es) (wa t u):=by
 intro pins s σ H vs us Q I r h;obtain⟨v,vr,e1,h⟩:=h;subst e1;cases r with
 |cons r rr=>
  rw[hs];refine assignInOrder_cons (thn (h1 pins s σ H _ _ _ I r h) fun _ s1 hq12=>?_);obtain⟨σ1,H1,I1,q1⟩:=hq12;exact h2 pins s1 σ1 H1 _ _ Q I1 rr q1
def xi (K:W.Frag)(n:Nat)(t:TGs):TG:=fun v σ H Q=>∃a xs,v=.ref a/\SqT K H a xs/\xs.length=n/\t xs σ H Q
theorem fq{es:List Expr}{k:Nat}{t:TGs}{n:Nat}(hc:X.calm=true)(h:PGs X es t)
  (hn:(assignEach es X.env).length=n:=by rfl)(hst:(assignEach es X.env).findIdx? (·.1)=none:=by rfl):PG X (.Tuple es k pos) (xi X.K n t):=by
 intro pins s σ H v u Q I r hw;obtain⟨a,xs,e1,hq,hl,hw⟩:=hw;subst e1;cases r;obtain⟨its,rv,ht,hz⟩:=I.tuple hq;refine assign_Tuple_tuple (I.ok.hd hc) ht (by simp[hn,<- hl,rv.length]) hst fun h' hx=>?_;have I1:Inv X pins σ H {s with heap:=h'}:=I.kept (t':=s.toks) fun b o e=>hx b o (zJ (Dh e)) e;exact h pins _ σ H xs _ Q I1 (by simpa using rv) hw
def gSub (to ti:TE)(t:JQ):TG:=fun v σ H Q=>to σ H fun o H1=>ti σ H1 fun i H2=>t o i v H2 fun H3=>Q σ H3
theorem qM{o i:Expr}{to ti:TE}{t:JQ}(ho:PE X o to)(hi:PE X i ti)(hs:xc X t)
  (ha:∀v,assign (.Subscript o i pos) X.env v=(do
   let ov <- holding [v] (eval o X.env)
   let iv <- holding [v,ov] (eval i X.env)
   standAt pos
   holding [v,ov,iv] (setItem ov iv v)
   release [v,ov,iv] []):=by intro _; rfl):PG X (.Subscript o i pos) (gSub to ti t):=by
 intro pins s σ H v u Q I r h;rw[ha];refine CT (Df (thn (ho pins s σ H _ I h) fun ov s1 hq13=>?_));obtain⟨x,H1,I1,r1,q1⟩:=hq13;refine CT (Df (thn (hi pins s1 σ H1 _ I1 q1) fun iv s2 hq14=>?_));obtain⟨y,H2,I2,r2,q2⟩:=hq14;refine CT (wpAny_standAt (CT (Df (thn (hs pins s2 σ H2 x y v ov iv u _ I2 r1 r2 r q2) fun _ s3 hq15=>?_))));obtain⟨H3,I3,q3⟩:=hq15;exact wpAny_release ⟨σ,H3,I3,q3⟩
def xf (te:TE)(g:TG):TS:=fun D σ H=>te σ H fun x H1=>g x σ H1 D.nx
theorem fw{tg e:Expr}{te:TE}{g:TG}(he:PE X e te)(hg:PG X tg g)(hs:swapsWithSole [tg] e pos.line X.env=pure false:=by rfl)(hw:swappedStores [tg] e X.env=pure none:=by rfl)
  (h1:(assignEach [tg] X.env).map (·.2)=[assign tg X.env]:=by rfl):PS X (.Assign [tg] e pos) (xf te g):=by
 intro pins s σ H D I h;refine wpAny_Assign_stores (thn (he pins s σ H _ I h) fun v s1 hq16=>?_) hs hw;obtain⟨x,H1,I1,r1,q1⟩:=hq16;rw[h1];exact thn (hg pins s1 σ H1 x v _ I1 r1 q1) fun _ s2 q=>q
theorem ay{i:Nat}{x:Str}{e:Expr}{te:TE}{pos':Pos}(hN:X.N.Nodup)(hi:X.N[i]?=some x)(hx:Loc X.env.scope x)(he:PE X e te)(hs:swapsWith e (some (.Name x pos')) pos.line X.env=pure false:=by rfl)(hf:X.fn x=true\/X.env.scope.names.lookup x=some .local:=by first|exact .inl rfl|exact .inr rfl|assumption) :
  PS X (.Assign [.Name x pos'] e pos) (xf te (jw i)):=by
 intro pins s σ H D I h;refine wpAny_Assign_Name (thn (he pins s σ H _ I h) fun v s1 hq17=>?_) hs;obtain⟨y,H1,I1,r1,q1⟩:=hq17;exact eV I1 hN hi hx r1 (fun s2 I2=>⟨_,H1,I2,q1⟩) hf
def tPar (i j:Nat)(ta:TA):TS:=fun D σ H=>ta σ H fun vs H1=>∃v w,vs=[v,w]/\D.nx ((σ.set i (some v)).set j (some w)) H1
theorem rm{i j:Nat}{x y:Str}{a b:Expr}{ta:TA}{px py pt:Pos}{kt k2 pt2}(hc:X.calm=true)(hN:X.N.Nodup)(hi:X.N[i]?=some x)(hj:X.N[j]?=some y)(hij:i≠j)
  (hx:X.env.scope.names.lookup x=some .local)(hy:X.env.scope.names.lookup y=some .local)(ha:PA X [a,b] ta)
  (hw:swappedStores [.Tuple [.Name x px,.Name y py] kt pt] (.Tuple [a,b] k2 pt2) X.env=pure (some [x,y]))
  (hs:swapsWithSole [.Tuple [.Name x px,.Name y py] kt pt] (.Tuple [a,b] k2 pt2) pos.line X.env=pure false:=by rfl) :
  PS X (.Assign [.Tuple [.Name x px,.Name y py] kt pt] (.Tuple [a,b] k2 pt2) pos) (tPar i j ta):=by
 intro pins s σ H D I h;rw[exec_Assign_arm];refine CT (wpAny_standAt ?_);rw[hs];refine CT (CU ?_);rw[CY (by decide)];refine CT (Tuple_ (thn (ha _ pins s σ H _ I h) fun us s1 hq18=>?_));obtain⟨vs,H1,I1,r1,q1⟩:=hq18;obtain⟨v,w,e1,q1⟩:=q1;subst e1;obtain⟨u1,u2,rfl,rv,rw'⟩:∃u1 u2,us=[u1,u2]/\RelV v u1/\RelV w u2:=by
  cases r1 with
  |cons p q=>
   cases q with
   |cons p' q'=>
    cases q';exact⟨_,_,rfl,p,p'⟩
 refine wpAny_newObj_type ?_ (by show 2<=sizeLine;decide);have I2:Inv X pins σ H1 {s1 with heap:=s1.heap.push {cls:=.type "tuple",data:=.seq [u1,u2].toArray}}:=I1.kept (t':=s1.toks) fun b o e=>Dw _ e;rw[hw];refine CT (CU ?_);show (wq X) (do rule "assign.swapped-stores";let items <- unpackItems (.ref s1.heap.objs.size) 2 none;assignInOrder [fun v=>bindName X.env y v,fun v=>bindName X.env x v] items.reverse;pure Flow.next) _ _ _;refine CT (DG (CT (unpackItems_tuple (items:=#[u1,u2]) (I.ok.hd hc) (IsTup.new s1.heap _) fun h' hx'=>?_)));have I3:=I2.kept (h':=h') (t':=s1.toks) fun b o e=>hx' b o (zJ (Dh e)) e;show wpAny _ _ (assignInOrder [fun v=>bindName X.env y v,fun v=>bindName X.env x v] [u2,u1] >>= fun _=>pure Flow.next) _ _ _;refine CT (assignInOrder_cons (wpAny_bindName (eV I3 hN hj (.inl hy) rw' (fun s2 I4=>?_) (.inr hy))));refine assignInOrder_cons (wpAny_bindName (eV I4 hN hi (.inl hx) rv (fun s3 I5=>assignInOrder_nil (CU ?_)) (.inr hx)));rw[List.set_comm _ _ (Dv hij)] at I5;exact⟨_,H1,I5,q1⟩
def vz (c:TT)(tb:TS):TS:=fun D σ H=>∃W:Nat->St->Hp->Prop,(∃m,W m σ H)/\∀m σ H,W m σ H ->
 c σ H fun b H1=>if b=true then ∃N:St->Hp->Prop,(∀σ' H',N σ' H'->∃m',m'<m/\W m' σ' H')/\tb {D with nx:=N,ct:=N,bk:=D.nx} σ H1 else D.nx σ H1
theorem fc{c:Expr}{body:List Stmt}{tc:TT}{tb:TS}(hp:PassesOwn (model X.prog X.w) X.A X.env X.xe)(hc:PT X c tc)(hb:PSs X body tb):PS X (.While c body [] pos) (vz tc tb):=by
 intro pins s σ H D I h;obtain⟨W,⟨m0,w0⟩,turn⟩:=h;refine wpAny_While (codeAny_whileLoop (fun n s'=>∃σ' H',Inv X pins σ' H' s'/\W n σ' H') ?_ m0 ⟨σ,H,I,w0⟩);rintro n s1 ⟨σ1,H1,I1,w1⟩;refine wpAny_passesOwn hp (thn (hc pins s1 σ1 H1 _ I1 (turn n σ1 H1 w1)) fun b s2 hq19=>?_);obtain⟨H2,I2,q2⟩:=hq19;cases b with
 |true=>
  obtain⟨N,hN,q2⟩:=q2;rw[CZ rfl];refine wpAny_passesOwn hp (thn (hb pins s2 σ1 H2 _ I2 q2) fun f s3 q3=>?_);cases f with
  |next=>
   obtain⟨σ3,H3,I3,n3⟩:=q3;obtain⟨m',hm,w3⟩:=hN σ3 H3 n3;exact⟨m',hm,σ3,H3,I3,w3⟩
  |cont=>
   obtain⟨σ3,H3,I3,n3⟩:=q3;obtain⟨m',hm,w3⟩:=hN σ3 H3 n3;exact⟨m',hm,σ3,H3,I3,w3⟩
  |brk=>exact q3
  |ret v=>exact q3
 |false=>
  rw[CY Ag];exact wpAny_execs_nil ⟨σ1,H2,I2,q2⟩
end
structure It where
 go:Nat->Hp->Prop
 yld:Nat->Hp->V->Hp->Prop
 stop:Nat->Hp->Prop
def Eo (X:Cx)(pins:List (Addr×Obj))(H:Hp)(b:Addr):Prop:=
 H b=none/\b≠X.env.locals/\b∉X.fs/\(b∈X.ex\/X.s₀.heap.get? b=none)/\(∀x c,X.env.cells.lookup x=some c->c≠b)/\∀p∈X.pn++pins,p.1≠b
theorem Inv.HX{X:Cx}{pins:List (Addr×Obj)}{σ:St}{H H':Hp}{s:Shared}{b:Addr}(I:Inv X pins σ H s)(hb:s.heap.objs.size<=b)(hn:H' b=none):Eo X pins H' b:=by
 refine⟨hn,BC (zP I.lt hb),I.nofs hb,.inr (Heap.get?_none_of_le (zO I.sz hb)),fun x c e z=>?_,fun p hp z=>?_⟩
 ·obtain⟨v,q⟩:=I.cell x c e;exact absurd (zP q.lt (by rw[z];exact hb)) (Ai _)
 ·exact absurd (zP (Dh (I.pin p hp).1) (by rw[z];exact hb)) (Ai _)
structure Turn(P:Program)(w:World)(K:W.Frag)(tg:Expr)(J:It)(fp:List Addr)(it:Addr)(tn:Nat->Heap->Prop):Prop where
 mem:it∈fp
 obj:∀i h,tn i h->∀b∈fp,∃o,h.get? b=some o/\∀v,o.data≠.cell v
 keep:∀i h h',tn i h->(∀b∈fp,∀o,h.get? b=some o->h'.get? b=some o)->tn i h'
 item:∀(X:Cx),X.prog=P->X.w=w->X.K=K->X.calm=true->∀(i:Nat)(pins:List (Addr×Obj))(s:Shared)(σ:St)(H:Hp)(E:Value->Shared->Prop),Inv X pins σ H s->(∀b∈fp,Eo X pins H b)->tn i s.heap->J.go i H ->
  wpAny (model P w) X.A (pyNext (.ref it)) (fun r s1=>∃u,r=some u /\
   wpAny (model P w) X.A (letOwnedTupleGo tg (.ref it) u) (fun _ s2=>∃x H',Inv X pins σ H' s2/\RelV x u/\J.yld i H x H'/\tn (i+1) s2.heap/\∀b∈fp,H' b=none) E s1) E s
 done:∀(X:Cx),X.prog=P->X.w=w->X.K=K->X.calm=true->∀(i:Nat)(pins:List (Addr×Obj))(s:Shared)(σ:St)(H:Hp)(E:Value->Shared->Prop),Inv X pins σ H s->(∀b∈fp,Eo X pins H b)->tn i s.heap->J.stop i H ->
  wpAny (model P w) X.A (pyNext (.ref it)) (fun r s1=>r=none/\Inv X pins σ H s1) E s
 self:∀(A:Around)(i:Nat)(s:Shared)(Q:Value->Shared->Prop)(E:Value->Shared->Prop),tn i s.heap->Q (.ref it) s->wpAny (model P w) A (pyIter (.ref it)) Q E s
abbrev TI:=St->Hp->(It->Hp->Prop)->Prop
def PIE (X:Cx)(pins:List (Addr×Obj))(σ:St)(tg:Expr)(R:It->Hp->Prop)(itv:Value)(s2:Shared):Prop:=
 ∃(it:Addr)(fp:List Addr)(tn:Nat->Heap->Prop)(J:It)(H':Hp),itv=.ref it/\Inv X pins σ H' s2/\Turn X.prog X.w X.K tg J fp it tn/\tn 0 s2.heap/\(∀b∈fp,Eo X pins H' b)/\R J H'
def PI (X:Cx)(tg iter:Expr)(wi:TI):Prop:=
 ∀(pins:List (Addr×Obj))(s:Shared)(σ:St)(H:Hp)(R:It->Hp->Prop),Inv X pins σ H s->wi σ H R ->
  (wq X) (eval iter X.env) (fun v s1=>(wq X) (pyIter v) (PIE X pins σ tg R) X.xe s1) X.xe s
theorem nU{M:Model}{A:Around}{E:Value->Shared->Prop}{s:Shared}{tg:Expr}{it:Addr}{u:Value}{o:Obj}{n:String}{vs:Array Value}{Q:Unit->Shared->Prop}(ho:s.heap.get? it=some o)(hc:o.cls=.type n)(hd:o.data=.fields vs)
    (hn:["enumerate","zip","dict_itemiterator","dict_reverseitemiterator","odict_iterator","itertools.zip_longest","itertools.pairwise"].contains n=false)(hQ:Q () s):wpAny M A (letOwnedTupleGo tg (.ref it) u) Q E s:=by
  unfold letOwnedTupleGo;cases tg<;>first
    |exact CU hQ
    | (cases u <;> first
        |exact CU hQ
        | (refine CT (wpAny_load ho ?_)
           rw[hc,hd];show wpAny M A (if (["enumerate","zip","dict_itemiterator","dict_reverseitemiterator","odict_iterator","itertools.zip_longest","itertools.pairwise"].contains n&&vs[0]?==some (rawInt _))=true then _ else _) Q E s;rw[CY (by intro h;rw[hn,Bool.false_and] at h;cases h)]
           exact CU hQ))
def Itl (K:W.Frag)(a:Addr):It:=
 ⟨fun i H=>∃xs x,SqL K H a xs/\xs[i]?=some x,fun i H x H'=>H'=H/\∀xs,SqL K H a xs->xs[i]?=some x,fun i H=>∃xs,SqL K H a xs/\xs.length<=i⟩
def Itt (K:W.Frag)(a:Addr):It:=
 ⟨fun i H=>∃xs x,SqT K H a xs/\xs[i]?=some x,fun i H x H'=>H'=H/\∀xs,SqT K H a xs->xs[i]?=some x,fun i H=>∃xs,SqT K H a xs/\xs.length<=i⟩
def Itr (lo:Int)(n:Nat):It:=⟨fun i _=>i<n,fun i H x H'=>H'=H/\x=.int (lo+i),fun i _=>n<=i⟩
theorem oM{P:Program}{w:World}{K:W.Frag}{tg:Expr}(a it:Addr):Turn P w K tg (Itl K a) [it] it (fun i h=>h.IsListIter it a i) where
 mem:=by simp
 obj:=fun i h st b hb=>by
  have e:b=it:=by simpa using hb
  subst e;obtain⟨o,e,c,d⟩:=st;exact⟨o,e,fun v z=>by rw[d] at z;cases z⟩
 keep:=fun i h h' st k=>st.at fun o e=>k it (by simp) o e
 item:=by
  intro X hP hw hK hc i pins s σ H E I hf st hg;subst hP hw hK;obtain⟨xs,x,hq,hx⟩:=hg;obtain⟨its,rv,p,hz⟩:=I.list hq;obtain⟨u,hu,ru⟩:=rv.get hx;obtain⟨f0,f1,f2,f3,f4,f5⟩:=hf it (by simp);refine wpAny_pyNext_list_item st p.isList (x:=u) (by simpa using hu) fun h' st' sb=>?_;have I1:Inv X pins σ H {s with heap:=h'}:=I.turned (t':=s.toks) (fun b o hb e=>(sb.2 b hb).trans e) f0 f1 f3 f4 f5;obtain⟨o,e,c,d⟩:=id st';exact⟨u,rfl,nU (s:={s with heap:=h'}) e c d (by decide) ⟨x,H,I1,ru,⟨rfl,fun ys hy=>by rw[I.Gq hy hq];exact hx⟩,st',fun b hb=>(hf b hb).1⟩⟩
 done:=by
  intro X hP hw hK hc i pins s σ H E I hf st hg;subst hP hw hK;obtain⟨xs,hq,hx⟩:=hg;obtain⟨its,rv,p,hz⟩:=I.list hq;obtain⟨f0,f1,f2,f3,f4,f5⟩:=hf it (by simp);have hl:=rv.length;exact wpAny_pyNext_list_end (I.ok.hd hc) st p.isList (by simp;lia) fun h' eb=>⟨rfl,I.turned (t':=s.toks) (fun b o hb e=>eb b o hb e) f0 f1 f3 f4 f5⟩
 self:=fun _ _ _ _ _ st h=>wpAny_pyIter_listiter st h
theorem kX{P:Program}{w:World}{K:W.Frag}{tg:Expr}(a it:Addr):Turn P w K tg (Itt K a) [it] it (fun i h=>h.IsTupleIter it a i) where
 mem:=by simp
 obj:=fun i h st b hb=>by
  have e:b=it:=by simpa using hb
  subst e;obtain⟨o,e,c,d⟩:=st;exact⟨o,e,fun v z=>by rw[d] at z;cases z⟩
 keep:=fun i h h' st k=>st.at fun o e=>k it (by simp) o e
 item:=by
  intro X hP hw hK hc i pins s σ H E I hf st hg;subst hP hw hK;obtain⟨xs,x,hq,hx⟩:=hg;obtain⟨its,rv,p,hz⟩:=I.tuple hq;obtain⟨u,hu,ru⟩:=rv.get hx;obtain⟨f0,f1,f2,f3,f4,f5⟩:=hf it (by simp);refine wpAny_pyNext_tuple_item st (show s.heap.IsTuple a its.toArray from p) (x:=u) (by simpa using hu) fun h' st' sb=>?_;have I1:Inv X pins σ H {s with heap:=h'}:=I.turned (t':=s.toks) (fun b o hb e=>(sb.2 b hb).trans e) f0 f1 f3 f4 f5;obtain⟨o,e,c,d⟩:=id st';exact⟨u,rfl,nU (s:={s with heap:=h'}) e c d (by decide) ⟨x,H,I1,ru,⟨rfl,fun ys hy=>by rw[I.Hh hy hq];exact hx⟩,st',fun b hb=>(hf b hb).1⟩⟩
 done:=by
  intro X hP hw hK hc i pins s σ H E I hf st hg;subst hP hw hK;obtain⟨xs,hq,hx⟩:=hg;obtain⟨its,rv,p,hz⟩:=I.tuple hq;obtain⟨f0,f1,f2,f3,f4,f5⟩:=hf it (by simp);have hl:=rv.length;exact wpAny_pyNext_tuple_end (I.ok.hd hc) st (show s.heap.IsTuple a its.toArray from p) (by simp;lia) fun h' eb=>⟨rfl,I.turned (t':=s.toks) (fun b o hb e=>eb b o hb e) f0 f1 f3 f4 f5⟩
 self:=fun _ _ _ _ _ st h=>wpAny_pyIter_tupleiter st h
theorem kS{P:Program}{w:World}{K:PySem.W.Frag}{tg:Expr}(it:Addr)(lo:Int)(n:Nat):Turn P w K tg (Itr lo n) [it] it (fun i h=>IsRangeIter h it (lo+(i:Nat)*1) ((n:Int)-(i:Nat)) 1) where
 mem:=by simp
 obj:=fun i h st b hb=>by
  have e:b=it:=by simpa using hb
  subst e
  exact⟨_,st,fun v z=>by
   have z':Data.fields _=Data.cell v:=z
   cases z'⟩
 keep:=fun i h h' st k=>k it (by simp) _ st
 item:=by
  intro X hP hw hK hc i pins s σ H E I hf st hg;subst hP hw hK;obtain⟨f0,f1,f2,f3,f4,f5⟩:=hf it (by simp);have W:=Walks.range (prog:=X.prog) (w:=X.w) (I.ok.hd hc) it lo 1 n;refine W.item i s _ _ hg st fun v h' tk hv st' kk=>?_;obtain⟨t,rfl⟩:=hv;have I1:Inv X pins σ H {s with heap:=h',toks:=tk}:=I.turned (fun b o hb e=>kk b o (by simpa using hb) e) f0 f1 f3 f4 f5;refine⟨_,rfl,nU (s:={s with heap:=h',toks:=tk}) (n:="range_iterator") st' rfl rfl (by decide) ⟨.int (lo+i),H,I1,⟨t,?_⟩,⟨rfl,rfl⟩,st',fun b hb=>(hf b hb).1⟩⟩;rw[Int.mul_one]
 done:=by
  intro X hP hw hK hc i pins s σ H E I hf st hg;subst hP hw hK;obtain⟨f0,f1,f2,f3,f4,f5⟩:=hf it (by simp);exact wpAny_pyNext_range_end (I.ok.hd hc) st (by have:n<=i:=hg;lia) fun h' eb=>⟨rfl,I.turned (t':=s.toks) (fun b o hb e=>eb b o hb e) f0 f1 f3 f4 f5⟩
 self:=fun _ _ _ _ _ st h=>wpAny_pyIter_rangeiter st h
section
variable {X:Cx}{tg:Expr}
def rE (K:W.Frag)(tl:TE):TI:=fun σ H R=>tl σ H fun x H1=>∃a,x=.ref a/\(∃xs,SqL K H1 a xs)/\R (Itl K a) H1
def iTup (K:W.Frag)(tl:TE):TI:=fun σ H R=>tl σ H fun x H1=>∃a,x=.ref a/\(∃xs,SqT K H1 a xs)/\R (Itt K a) H1
theorem aL{l:Expr}{tl:TE}(hl:PE X l tl):PI X tg l (rE X.K tl):=by
 intro pins s σ H R I h;refine thn (hl pins s σ H _ I h) fun v s1 hq20=>?_;obtain⟨x,H1,I1,r1,q1⟩:=hq20;obtain⟨a,e,⟨xs,hq⟩,q⟩:=q1;subst e;cases r1;obtain⟨its,rv,p,hz⟩:=I1.list hq;refine wpAny_pyIter_list p.isList ?_;refine⟨s1.heap.objs.size,[s1.heap.objs.size],_,_,H1,rfl,I1.kept (t':=s1.toks) fun b o e=>Dw _ e,oM a _,⟨_,Dx _ rfl,rfl,rfl⟩,fun b hb=>?_,q⟩;have e:b=s1.heap.objs.size:=by simpa using hb
 subst e;exact I1.HX (zE _) (I1.hok.fresh (zE _))
theorem mi{l:Expr}{tl:TE}(hl:PE X l tl):PI X tg l (iTup X.K tl):=by
 intro pins s σ H R I h;refine thn (hl pins s σ H _ I h) fun v s1 hq21=>?_;obtain⟨x,H1,I1,r1,q1⟩:=hq21;obtain⟨a,e,⟨xs,hq⟩,q⟩:=q1;subst e;cases r1;obtain⟨its,rv,p,hz⟩:=I1.tuple hq;refine wpAny_pyIter_tuple (show s1.heap.IsTuple a its.toArray from p) ?_;refine⟨s1.heap.objs.size,[s1.heap.objs.size],_,_,H1,rfl,I1.kept (t':=s1.toks) fun b o e=>Dw _ e,kX a _,⟨_,Dx _ rfl,rfl,rfl⟩,fun b hb=>?_,q⟩;have e:b=s1.heap.objs.size:=by simpa using hb
 subst e;exact I1.HX (zE _) (I1.hok.fresh (zE _))
theorem kh{pins:List (Addr×Obj)}{σ:St}{H:Hp}{s:Shared}{R:It->Hp->Prop}{E:Value->Shared->Prop}{lo hi:Int}{t u v:Tok}{tk:Nat}(I:Inv X pins σ H s)(h1:-(2^62)<=lo)(h2:lo<2^62)(h3:-(2^62)<=hi)(h4:hi<2^62)
  (q:R (Itr lo (hi-lo).toNat) H):(wq X) (pyIter (.ref s.heap.objs.size)) (PIE X pins σ tg R) E {s with heap:=s.heap.push {cls:=.type "range",data:=.fields #[.int lo t,.int hi u,.int 1 v]},toks:=tk}:=by
 refine wpAny_pyIter_range (IsRange.new ..) (small_one h1 h2 h3 h4) ?_;have I1:Inv X pins σ H {s with heap:=s.heap.push {cls:=.type "range",data:=.fields #[.int lo t,.int hi u,.int 1 v]},toks:=tk}:=I.kept fun b o e=>Dw _ e
 refine⟨(s.heap.push { cls:=.type "range",data:=.fields #[.int lo t,.int hi u,.int 1 v] }).objs.size,[(s.heap.push { cls:=.type "range",data:=.fields #[.int lo t,.int hi u,.int 1 v] }).objs.size],_,_,H,rfl,
  I1.kept (t':=tk) fun b o e=>Dw _ e,kS _ lo (hi-lo).toNat,?_,fun b hb=>?_,q⟩
 ·have e1:lo+((0:Nat):Int)*1=lo:=by simp
  have e2:(((hi-lo).toNat:Nat):Int)-((0:Nat):Int)=Builtin.Range.rangeSize lo hi 1:=by rw[rangeSize_one];split<;>lia
  show IsRangeIter _ _ (lo+((0:Nat):Int)*1) ((((hi-lo).toNat:Nat):Int)-((0:Nat):Int)) 1;rw[e1,e2];exact Dx _ rfl
 ·have e:b=(s.heap.push {cls:=.type "range",data:=.fields #[.int lo t,.int hi u,.int 1 v]}).objs.size:=by simpa using hb
  subst e;exact I1.HX (zE _) (I1.hok.fresh (zE _))
def vU (ta:TA):TI:=fun σ H R=>ta σ H fun vs H1=>∃j:Int,vs=[.int j]/\-(2^62)<=j/\j<2^62/\R (Itr 0 j.toNat) H1
def wm (ta:TA):TI:=fun σ H R=>ta σ H fun vs H1=>∃i j:Int,vs=[.int i,.int j]/\(-(2^62)<=i/\i<2^62/\-(2^62)<=j/\j<2^62)/\R (Itr i (j-i).toNat) H1
theorem bp{a:Expr}{ta:TA}{p pos:Pos}(hg:Gl X "range")(hm:X.mg "range"=none)(ha:PA X [a] ta)(hs:starEach [a] X.env=[(false,eval a X.env)]:=by rfl):PI X tg (.Call (.Name "range" p) [a] [] pos) (vU ta):=by
 intro pins s σ H R I h;refine Call_ (dI I hg hm boot_range (PyProof.Rows.callWith_type1 (thn (ha pos pins s σ H _ I h) fun us s1 hq22=>?_) hs rfl));obtain⟨vs,H1,I1,r1,q1⟩:=hq22;obtain⟨j,e,q1,q2,q⟩:=q1;subst e;cases r1 with
 |cons r rr=>
  cases rr;obtain⟨t,rfl⟩:=r;exact call_range_1 (kh I1 (by lia) (by lia) q1 q2 (by simpa using q))
theorem fk{a b:Expr}{ta:TA}{p pos:Pos}(hg:Gl X "range")(hm:X.mg "range"=none)(ha:PA X [a,b] ta)(hs:starEach [a,b] X.env=[(false,eval a X.env),(false,eval b X.env)]:=by rfl)(hs2:starEach [b] X.env=[(false,eval b X.env)]:=by rfl) :
  PI X tg (.Call (.Name "range" p) [a,b] [] pos) (wm ta):=by
 intro pins s σ H R I h;refine Call_ (dI I hg hm boot_range (PyProof.Rows.callWith_type1 (thn (ha pos pins s σ H _ I h) fun us s1 hq23=>?_) (by rw[hs,hs2]) (by rw[hs2];rfl)));obtain⟨vs,H1,I1,r1,q1⟩:=hq23;obtain⟨i,j,e,⟨q1,q2,q3,q4⟩,q⟩:=q1;subst e;cases r1 with
 |cons r rr=>
  cases rr with
  |cons r' rr=>
   cases rr;obtain⟨t,rfl⟩:=r;obtain⟨t',rfl⟩:=r';exact call_range_2 (kh I1 q1 q2 q3 q4 q)
def tFor (wi:TI)(g:TG)(tb:TS):TS:=fun D σ H=>wi σ H fun J H1=>∃W:Nat->Nat->St->Hp->Prop,(∃m,W 0 m σ H1)/\∀i m σ H,W i m σ H ->
 (J.stop i H/\D.nx σ H)\/(J.go i H/\∃N:St->Hp->Prop,(∀σ' H',N σ' H'->∃m',m'<m/\W (i+1) m' σ' H')/\∀x H',J.yld i H x H'->g x σ H' fun σ2 H2=>tb {D with nx:=N,ct:=N,bk:=D.nx} σ2 H2)
def cL (fp:List Addr)(h:Heap):List (Addr×Obj):=fp.filterMap fun b=>(h.get? b).map fun o=>(b,o)
theorem aX{fp:List Addr}{h:Heap}{b:Addr}{o:Obj}(hb:b∈fp)(e:h.get? b=some o):(b,o)∈cL fp h:=Bk.mpr ⟨b,hb,by rw[e];rfl⟩
theorem je{fp:List Addr}{h:Heap}{p:Addr×Obj}(hp:p∈cL fp h):p.1∈fp/\h.get? p.1=some p.2:=by
 obtain⟨b,hb,e⟩:=Bk.mp hp;cases q:h.get? b with
 |none=>rw[q] at e;cases e
 |some o=>
  rw[q] at e;have e':(b,o)=p:=Di e;subst e';exact⟨hb,q⟩
theorem Inv.pinned{pins:List (Addr×Obj)}{σ:St}{H:Hp}{s:Shared}{fp:List Addr}(I:Inv X pins σ H s)(hf:∀b∈fp,Eo X pins H b)(ho:∀b∈fp,∃o,s.heap.get? b=some o/\∀v,o.data≠.cell v):Inv X (pins++cL fp s.heap) σ H s:=
 I.ED fun p hp=>(zH.mp hp).elim (fun z=>I.pin p (zI _ z)) fun z=>by
  obtain⟨hb,e⟩:=je z;obtain⟨f0,f1,f2,_⟩:=hf p.1 hb;obtain⟨o,e',d⟩:=ho p.1 hb;rw[e] at e';cases e';exact⟨e,f0,f1,f2,d⟩
theorem Inv.DX{pins pl:List (Addr×Obj)}{σ:St}{H:Hp}{s:Shared}(I:Inv X (pins++pl) σ H s):Inv X pins σ H s:=I.ED fun p hp=>I.pin p (zI _ (Ad _ hp))
theorem bZ{iter:Expr}{body:List Stmt}{wi:TI}{g:TG}{tb:TS}{pos:Pos}(hp:PassesOwn (model X.prog X.w) X.A X.env X.xe)(hc:X.calm=true)(hi:PI X tg iter wi)(hg:PG X tg g)(hb:PSs X body tb)
  (hs:∀x,foldedSetIterable iter X.env x=pure x:=by intro _;rfl):PS X (.For tg iter body [] pos) (tFor wi g tb):=by
 intro pins s σ H D I h;refine wpAny_For (thn (hi pins s σ H _ I h) fun v s1 h1=>thn h1 fun itv s2 h2=>?_) hs;obtain⟨it,fp,tn,J,H2,e,I2,T,st2,f2,W,⟨m0,w0⟩,turn⟩:=h2;subst e;have stat:∀{H':Hp},(∀b∈fp,H' b=none)->∀b∈fp,Eo X pins H' b:=fun hn b hb=>⟨hn b hb,(f2 b hb).2⟩
 refine codeAny_forLoop_any (fun n s'=>∃i σ' H',Inv X pins σ' H' s'/\tn i s'.heap/\(∀b∈fp,H' b=none)/\W i n σ' H') ?_ m0 ⟨0,σ,H2,I2,st2,fun b hb=>(f2 b hb).1,w0⟩;rintro n s3 ⟨i,σ3,H3,I3,st3,fr3,w3⟩;rcases turn i n σ3 H3 w3 with ⟨stop,qn⟩|⟨go,N,hN,step⟩
 ·refine wpAny_passesOwn hp (thn (T.done X rfl rfl rfl hc i pins s3 σ3 H3 X.xe I3 (stat fr3) st3 stop) fun r s4 hq24=>?_);obtain⟨hr,I4⟩:=hq24;subst hr;exact wpAny_execs_nil ⟨σ3,H3,I4,qn⟩
 ·refine wpAny_passesOwn hp (thn (T.item X rfl rfl rfl hc i pins s3 σ3 H3 X.xe I3 (stat fr3) st3 go) fun r s4 hq25=>?_);obtain⟨u,hr,h4⟩:=hq25;subst hr;refine wpAny_passesOwn hp (thn h4 fun _ s5 hq26=>?_);obtain⟨x,H5,I5,r5,y5,st5,fr5⟩:=hq26;have I5':=I5.pinned (stat fr5) (T.obj _ _ st5);refine wpAny_passesOwn hp (thn (hg _ s5 σ3 H5 x u _ I5' r5 (step x H5 y5)) fun _ s6 hq27=>?_);obtain⟨σ6,H6,I6,q6⟩:=hq27;refine wpAny_passesOwn hp (thn (hb _ s6 σ6 H6 _ I6 q6) fun f s7 q7=>?_);have again:∀{σ7:St}{H7:Hp},Inv X (pins++cL fp s5.heap) σ7 H7 s7->N σ7 H7->∃m,m<n/\∃i σ' H',Inv X pins σ' H' s7/\tn i s7.heap/\(∀b∈fp,H' b=none)/\W i m σ' H':=fun {σ7 H7} I7 n7=>by
   obtain⟨m',hm,w7⟩:=hN σ7 H7 n7;refine⟨m',hm,i+1,σ7,H7,I7.DX,T.keep _ _ _ st5 fun b hb o e=>(I7.pin (b,o) (zI _ (zI _ (aX hb e)))).1,fun b hb=>?_,w7⟩;obtain⟨o,e,d⟩:=T.obj _ _ st5 b hb;exact(I7.pin (b,o) (zI _ (zI _ (aX hb e)))).2.1
  cases f with
  |next=>obtain⟨σ7,H7,I7,n7⟩:=q7;exact again I7 n7
  |cont=>obtain⟨σ7,H7,I7,n7⟩:=q7;exact again I7 n7
  |brk=>obtain⟨σ7,H7,I7,q7⟩:=q7;exact⟨σ7,H7,I7.DX,q7⟩
  |ret v=>obtain⟨x7,σ7,H7,I7,r7,q7⟩:=q7;exact⟨x7,σ7,H7,I7.DX,r7,q7⟩
end
theorem gz{K:PySem.W.Frag}{a:Addr}{xs:List V}{g:TG}{tb:TS}{D:Ends}{σ:St}{H:Hp}(Pv:Nat->St->Hp->Prop)(h0:Pv 0 σ H)(hl:∀i σ H,i<=xs.length->Pv i σ H->SqL K H a xs)
  (hs:∀i x σ H,xs[i]?=some x->Pv i σ H->g x σ H fun σ2 H2=>tb {D with nx:=Pv (i+1),ct:=Pv (i+1),bk:=D.nx} σ2 H2)(hd:∀σ H,Pv xs.length σ H->D.nx σ H) :
  ∃W:Nat->Nat->St->Hp->Prop,(∃m,W 0 m σ H)/\∀i m σ H,W i m σ H ->
   ((Itl K a).stop i H/\D.nx σ H)\/((Itl K a).go i H/\∃N:St->Hp->Prop,(∀σ' H',N σ' H'->∃m',m'<m/\W (i+1) m' σ' H')/\∀x H',(Itl K a).yld i H x H'->g x σ H' fun σ2 H2=>tb {D with nx:=N,ct:=N,bk:=D.nx} σ2 H2):=by
 refine⟨fun i m σ H=>m=xs.length-i/\i<=xs.length/\Pv i σ H,⟨xs.length,by simp,zX _,h0⟩,?_⟩;rintro i m σ H ⟨rfl,hi,p⟩;have q:=hl i σ H hi p;by_cases hlt:i<xs.length
 ·refine .inr ⟨⟨xs,xs[i],q,by simp[hlt]⟩,Pv (i+1),fun σ' H' p'=>⟨xs.length-(i+1),by lia,rfl,hlt,p'⟩,fun x H' y=>?_⟩;obtain⟨e,y⟩:=y;subst e;exact hs i x σ _ (y xs q) p
 ·have e:i=xs.length:=by lia
  subst e;exact .inl ⟨⟨xs,q,zE _⟩,hd σ H p⟩
theorem oG{K:PySem.W.Frag}{a:Addr}{xs:List V}{g:TG}{tb:TS}{D:Ends}{σ:St}{H:Hp}(Pv:Nat->St->Hp->Prop)(h0:Pv 0 σ H)(hl:∀i σ H,i<=xs.length->Pv i σ H->SqT K H a xs)
  (hs:∀i x σ H,xs[i]?=some x->Pv i σ H->g x σ H fun σ2 H2=>tb {D with nx:=Pv (i+1),ct:=Pv (i+1),bk:=D.nx} σ2 H2)(hd:∀σ H,Pv xs.length σ H->D.nx σ H) :
  ∃W:Nat->Nat->St->Hp->Prop,(∃m,W 0 m σ H)/\∀i m σ H,W i m σ H ->
   ((Itt K a).stop i H/\D.nx σ H)\/((Itt K a).go i H/\∃N:St->Hp->Prop,(∀σ' H',N σ' H'->∃m',m'<m/\W (i+1) m' σ' H')/\∀x H',(Itt K a).yld i H x H'->g x σ H' fun σ2 H2=>tb {D with nx:=N,ct:=N,bk:=D.nx} σ2 H2):=by
 refine⟨fun i m σ H=>m=xs.length-i/\i<=xs.length/\Pv i σ H,⟨xs.length,by simp,zX _,h0⟩,?_⟩;rintro i m σ H ⟨rfl,hi,p⟩;have q:=hl i σ H hi p;by_cases hlt:i<xs.length
 ·refine .inr ⟨⟨xs,xs[i],q,by simp[hlt]⟩,Pv (i+1),fun σ' H' p'=>⟨xs.length-(i+1),by lia,rfl,hlt,p'⟩,fun x H' y=>?_⟩;obtain⟨e,y⟩:=y;subst e;exact hs i x σ _ (y xs q) p
 ·have e:i=xs.length:=by lia
  subst e;exact .inl ⟨⟨xs,q,zE _⟩,hd σ H p⟩
theorem cm{lo:Int}{n:Nat}{g:TG}{tb:TS}{D:Ends}{σ:St}{H:Hp}(Pv:Nat->St->Hp->Prop)(h0:Pv 0 σ H)
  (hs:∀i σ H,i<n->Pv i σ H->g (.int (lo+i)) σ H fun σ2 H2=>tb {D with nx:=Pv (i+1),ct:=Pv (i+1),bk:=D.nx} σ2 H2)(hd:∀σ H,Pv n σ H->D.nx σ H) :
  ∃W:Nat->Nat->St->Hp->Prop,(∃m,W 0 m σ H)/\∀i m σ H,W i m σ H ->
   ((Itr lo n).stop i H/\D.nx σ H)\/((Itr lo n).go i H/\∃N:St->Hp->Prop,(∀σ' H',N σ' H'->∃m',m'<m/\W (i+1) m' σ' H')/\∀x H',(Itr lo n).yld i H x H'->g x σ H' fun σ2 H2=>tb {D with nx:=N,ct:=N,bk:=D.nx} σ2 H2):=by
 refine⟨fun i m σ H=>m=n-i/\i<=n/\Pv i σ H,⟨n,by simp,zX _,h0⟩,?_⟩;rintro i m σ H ⟨rfl,hi,p⟩;by_cases hlt:i<n
 ·refine .inr ⟨hlt,Pv (i+1),fun σ' H' p'=>⟨n-(i+1),by lia,rfl,hlt,p'⟩,fun x H' y=>?_⟩;obtain⟨e,y⟩:=y;subst e y;exact hs i σ _ hlt p
 ·have e:i=n:=by lia
  subst e;exact .inl ⟨zE _,hd σ H p⟩
abbrev R2:=V->V->Hp->VK->Prop
def OpR (X:Cx)(f:Value->Value->Sem Value)(r:R2):Prop:=
 ∀(pins:List (Addr×Obj))(s:Shared)(σ:St)(H:Hp)(x y:V)(v u:Value)(Q:VK),Inv X pins σ H s->RelV x v->RelV y u->r x y H Q ->
  (wq X) (f v u) (EP X pins σ Q) X.xe s
def UnR (X:Cx)(f:Value->Sem Value)(r:V->Hp->VK->Prop):Prop:=
 ∀(pins:List (Addr×Obj))(s:Shared)(σ:St)(H:Hp)(x:V)(v:Value)(Q:VK),Inv X pins σ H s->RelV x v->r x H Q ->
  (wq X) (f v) (EP X pins σ Q) X.xe s
def cb (X:Cx)(f:Value)(r:List V->Hp->VK->Prop):Prop:=
 ∀(pins:List (Addr×Obj))(s:Shared)(σ:St)(H:Hp)(xs:List V)(us:List Value)(Q:VK),Inv X pins σ H s->Vals xs us->r xs H Q ->
  (wq X) (call f us) (EP X pins σ Q) X.xe s
def TruR (X:Cx)(r:V->Hp->(Bool->Hp->Prop)->Prop):Prop:=
 ∀(pins:List (Addr×Obj))(s:Shared)(σ:St)(H:Hp)(x:V)(v:Value)(Q:Bool->Hp->Prop),Inv X pins σ H s->RelV x v->r x H Q ->
  (wq X) (truthy v) (TP X pins σ Q) X.xe s
def tOp (r:R2)(ta tb:TE):TE:=fun σ H Q=>ta σ H fun x H1=>tb σ H1 fun y H2=>r x y H2 Q
def tUn (r:V->Hp->VK->Prop)(ta:TE):TE:=fun σ H Q=>ta σ H fun x H1=>r x H1 Q
def rI (C:Int->Int->Prop)(g:Int->Int->V):R2:=fun x y H Q=>∃i j,x=.int i/\y=.int j/\C i j/\Q (g i j) H
def rI0 (g:Int->Int->V):R2:=fun x y H Q=>∃i j,x=.int i/\y=.int j/\Q (g i j) H
def rU (g:Int->V):V->Hp->VK->Prop:=fun x H Q=>∃i,x=.int i/\Q (g i) H
section
variable {X:Cx}{a b c:Expr}{ta tb tc:TE}{pos:Pos}
theorem vF(ha:PE X a ta)(hb:PE X b tb){pins:List (Addr×Obj)}{s:Shared}{σ:St}{H:Hp}{R:V->V->Hp->Prop}(I:Inv X pins σ H s)
  (h:ta σ H fun x H1=>tb σ H1 fun y H2=>R x y H2){Q:Value->Shared->Prop}{f:Value->Value->Sem Value}
  (hf:∀v u s2 x y H2,Inv X pins σ H2 s2->RelV x v->RelV y u->R x y H2->(wq X) (f v u) Q X.xe s2) :
  (wq X) (eval a X.env) (fun v s₁=>(wq X) (eval b X.env) (fun u s₂=>(wq X) (f v u) Q X.xe s₂) X.xe s₁) X.xe s:=by
 refine thn (ha pins s σ H _ I h) fun v s1 hq28=>?_;obtain⟨x,H1,I1,r1,q1⟩:=hq28;refine thn (hb pins s1 σ H1 _ I1 q1) fun u s2 hq29=>?_;obtain⟨y,H2,I2,r2,q2⟩:=hq29;exact hf v u s2 x y H2 I2 r1 r2 q2
theorem aF{op:Operator}{r:R2}(ho:OpR X (binaryOp op) r)(ha:PE X a ta)(hb:PE X b tb):PE X (.BinOp a op b pos) (tOp r ta tb):=by
 intro pins s σ H Q I h;exact wpAny_BinOp (vF ha hb I h fun v u s2 x y H2 I2 rx ry q=>ho pins s2 σ H2 x y v u Q I2 rx ry q)
theorem tq{op:UnaryOp}{r:V->Hp->VK->Prop}(ho:UnR X (unaryOp op) r)(ha:PE X a ta):PE X (.UnaryOp op a pos) (tUn r ta):=by
 intro pins s σ H Q I h;refine UnaryOp_ (thn (ha pins s σ H _ I h) fun v s1 hq30=>?_);obtain⟨x,H1,I1,r1,q1⟩:=hq30;exact ho pins s1 σ H1 x v Q I1 r1 q1
theorem opI{f:Value->Value->Sem Value}{C:Int->Int->Prop}{g:Int->Int->Int}
  (rule:∀(i j:Int)(t u:Tok)(s:Shared)(Q:Value->Shared->Prop)(E:Value->Shared->Prop),C i j->Q (.int (g i j) s.toks) {s with toks:=s.toks+1}->(wq X) (f (.int i t) (.int j u)) Q E s) :
  OpR X f (rI C fun i j=>.int (g i j)):=by
 intro pins s σ H x y v u Q I rx ry h;obtain⟨i,j,rfl,rfl,hc,q⟩:=h;obtain⟨t,rfl⟩:=rx;obtain⟨t',rfl⟩:=ry;exact rule i j t t' s _ _ hc ⟨.int (g i j),H,I.tok _,⟨_,rfl⟩,q⟩
theorem wX{f:Value->Value->Sem Value}{g:Int->Int->Int}
  (rule:∀(i j:Int)(t u:Tok)(s:Shared)(Q:Value->Shared->Prop)(E:Value->Shared->Prop),Q (.int (g i j) s.toks) {s with toks:=s.toks+1}->(wq X) (f (.int i t) (.int j u)) Q E s) :
  OpR X f (rI0 fun i j=>.int (g i j)):=by
 intro pins s σ H x y v u Q I rx ry h;obtain⟨i,j,rfl,rfl,q⟩:=h;obtain⟨t,rfl⟩:=rx;obtain⟨t',rfl⟩:=ry;exact rule i j t t' s _ _ ⟨.int (g i j),H,I.tok _,⟨_,rfl⟩,q⟩
theorem vH{f:Value->Value->Sem Value}{g:Int->Int->Bool}
  (rule:∀(i j:Int)(t u:Tok)(s:Shared)(Q:Value->Shared->Prop)(E:Value->Shared->Prop),Q (.bool (g i j)) s->(wq X) (f (.int i t) (.int j u)) Q E s) :
  OpR X f (rI0 fun i j=>.bl (g i j)):=by
 intro pins s σ H x y v u Q I rx ry h;obtain⟨i,j,rfl,rfl,q⟩:=h;obtain⟨t,rfl⟩:=rx;obtain⟨t',rfl⟩:=ry;exact rule i j t t' s _ _ ⟨.bl (g i j),H,I,rfl,q⟩
def CDiv (i j:Int):Prop:=0<j/\j<1073741824
def CPow (i j:Int):Prop:=0<=j/\j<=1000000/\i.natAbs<2^64
def JL (i j:Int):Prop:=(-(2^64)<i/\i<2^64)\/(-(2^64)<j/\j<2^64)
theorem JL.ok{i j:Int}(h:JL i j):IntMulOk i j:=by
 rcases h with ⟨h1,h2⟩|⟨h1,h2⟩
 ·exact .of_left (intBits_le_64 h1 h2)
 ·exact .of_right (intBits_le_64 h1 h2)
theorem Eb:OpR X (binaryOp .Add) (rI0 fun i j=>.int (i+j)):=wX fun _ _ _ _ _ _ _ q=>add_int q
theorem EL:OpR X (binaryOp .Sub) (rI0 fun i j=>.int (i-j)):=wX fun _ _ _ _ _ _ _ q=>sub_int q
theorem EA:OpR X (binaryOp .Mult) (rI JL fun i j=>.int (i*j)):=opI fun _ _ _ _ _ _ _ hc q=>mul_int q hc.ok
theorem Hq:OpR X (binaryOp .FloorDiv) (rI CDiv fun i j=>.int (i/j)):=opI fun i j _ _ _ _ _ hc q=>by
 have h1:(0:Int)<j:=hc.1;have h2:j<1073741824:=hc.2;exact floordiv_int (by lia) (by rw[CN i (by lia)];exact q) (.inl (PyProof.noPylong_small (by lia)))
theorem Ez:OpR X (binaryOp .Mod) (rI (fun _ j=>0<j) fun i j=>.int (i % j)):=opI fun i j _ _ _ _ _ hc q=>by
 have h1:(0:Int)<j:=hc;exact mod_int' (by lia) (by rw[Int.fmod_eq_emod_of_nonneg i (by lia)];exact q)
theorem Gj:OpR X (binaryOp .Pow) (rI CPow fun i j=>.int (i^j.toNat)):=opI fun _ _ _ _ _ _ _ hc q=>pow_int_small hc.1 hc.2.1 hc.2.2 q
theorem unI{f:Value->Sem Value}{g:Int->Int}
  (rule:∀(i:Int)(t:Tok)(s:Shared)(Q:Value->Shared->Prop)(E:Value->Shared->Prop),Q (.int (g i) s.toks) {s with toks:=s.toks+1}->(wq X) (f (.int i t)) Q E s) :
  UnR X f (rU fun i=>.int (g i)):=by
 intro pins s σ H x v Q I rx h;obtain⟨i,rfl,q⟩:=h;obtain⟨t,rfl⟩:=rx;exact rule i t s _ _ ⟨.int (g i),H,I.tok _,⟨_,rfl⟩,q⟩
theorem GR:UnR X (unaryOp .USub) (rU fun i=>.int (-i)):=unI fun _ _ _ _ _ q=>neg_int q
end
def Kl:V->V->Bool
 |.non,.non=>true|.non,.int _=>true|.int _,.non=>true|.non,.bl _=>true|.bl _,.non=>true|.non,.str _=>true|.str _,.non=>true
 |.int _,.int _=>true|.bl _,.bl _=>true|.str _,.str _=>true|.byt _,.byt _=>true
 |.int _,.str _=>true|.str _,.int _=>true|.bl _,.str _=>true|.str _,.bl _=>true
 |_,_=>false
def rEq:R2:=fun x y H Q=>Kl x y=true/\Q (.bl (decide (x=y))) H
def rNe:R2:=fun x y H Q=>Kl x y=true/\Q (.bl (!decide (x=y))) H
theorem jM{i j:Int}:decide (V.int i=V.int j)=(i==j):=by
 rw[Dy];simp
theorem qO{i j:Bool}:decide (V.bl i=V.bl j)=(i==j):=by
 rw[Dy];simp
theorem nN{i j:Str}:decide (V.str i=V.str j)=(i==j):=by
 rw[Dy];simp
theorem oQ{i j:Array UInt8}:decide (V.byt i=V.byt j)=(i.toList==j.toList):=by
 rw[Dy];cases i;cases j;simp
section
variable {X:Cx}{a b c:Expr}{ta tb tc:TE}{pos:Pos}
theorem aW{pins:List (Addr×Obj)}{σ:St}{H:Hp}{s:Shared}{Q:VK}{k k':Bool}(I:Inv X pins σ H s)(q:Q (.bl k) H)(e:k=k'):EP X pins σ Q (.bool k') s:=by
 subst e;exact⟨.bl k,H,I,rfl,q⟩
theorem Fc:OpR X (compareOp .Eq) rEq:=by
 intro pins s σ H x y v u Q I rx ry h;obtain⟨hs,q⟩:=h;cases x with
 |non=>
  cases rx;cases y with
  |non=>cases ry;exact PySem.EqNone.eq_none_none (aW I q (by simp))
  |bl j=>cases ry;exact PySem.EqNone.eq_none_bool (aW I q (by simp))
  |int j=>obtain⟨t',rfl⟩:=ry;exact PySem.EqNone.eq_none_int (aW I q (by simp))
  |str j=>obtain⟨t',rfl⟩:=ry;exact PySem.EqNone.eq_none_str (aW I q (by simp))
  |_=>exact absurd (show false=true from hs) Ag
 |bl i=>
  cases rx;cases y with
  |non=>cases ry;exact PySem.EqNone.eq_bool_none (aW I q (by simp))
  |bl j=>cases ry;exact eq_bool (aW I q qO)
  |str j=>obtain⟨t',rfl⟩:=ry;exact PySem.EqMixed.eq_bool_str (aW I q (by simp))
  |_=>exact absurd (show false=true from hs) Ag
 |int i=>
  obtain⟨t,rfl⟩:=rx;cases y with
  |non=>cases ry;exact PySem.EqNone.eq_int_none (aW I q (by simp))
  |int j=>obtain⟨t',rfl⟩:=ry;exact eq_int (aW I q jM)
  |str j=>obtain⟨t',rfl⟩:=ry;exact PySem.EqMixed.eq_int_str (aW I q (by simp))
  |_=>exact absurd (show false=true from hs) Ag
 |str i=>
  obtain⟨t,rfl⟩:=rx;cases y with
  |non=>cases ry;exact PySem.EqNone.eq_str_none (aW I q (by simp))
  |bl j=>cases ry;exact PySem.EqMixed.eq_str_bool (aW I q (by simp))
  |int j=>obtain⟨t',rfl⟩:=ry;exact PySem.EqMixed.eq_str_int (aW I q (by simp))
  |str j=>obtain⟨t',rfl⟩:=ry;exact eq_str (aW I q nN)
  |_=>exact absurd (show false=true from hs) Ag
 |byt i=>
  obtain⟨t,rfl⟩:=rx;cases y with
  |byt j=>obtain⟨t',rfl⟩:=ry;exact W.eq_bytes (aW I q oQ)
  |_=>exact absurd (show false=true from hs) Ag
 |_=>cases y<;>exact absurd (show false=true from hs) Ag
theorem GC:OpR X (compareOp .NotEq) rNe:=by
 intro pins s σ H x y v u Q I rx ry h;obtain⟨hs,q⟩:=h;cases x with
 |non=>
  cases rx;cases y with
  |non=>cases ry;exact PySem.EqNone.ne_none_none (aW I q (by simp))
  |bl j=>cases ry;exact PySem.EqNone.ne_none_bool (aW I q (by simp))
  |int j=>obtain⟨t',rfl⟩:=ry;exact PySem.EqNone.ne_none_int (aW I q (by simp))
  |str j=>obtain⟨t',rfl⟩:=ry;exact PySem.EqNone.ne_none_str (aW I q (by simp))
  |_=>exact absurd (show false=true from hs) Ag
 |bl i=>
  cases rx;cases y with
  |non=>cases ry;exact PySem.EqNone.ne_bool_none (aW I q (by simp))
  |bl j=>cases ry;exact ne_bool (aW I q (congrArg not qO))
  |str j=>obtain⟨t',rfl⟩:=ry;exact PySem.EqMixed.ne_bool_str (aW I q (by simp))
  |_=>exact absurd (show false=true from hs) Ag
 |int i=>
  obtain⟨t,rfl⟩:=rx;cases y with
  |non=>cases ry;exact PySem.EqNone.ne_int_none (aW I q (by simp))
  |int j=>obtain⟨t',rfl⟩:=ry;exact ne_int (aW I q (congrArg not jM))
  |str j=>obtain⟨t',rfl⟩:=ry;exact PySem.EqMixed.ne_int_str (aW I q (by simp))
  |_=>exact absurd (show false=true from hs) Ag
 |str i=>
  obtain⟨t,rfl⟩:=rx;cases y with
  |non=>cases ry;exact PySem.EqNone.ne_str_none (aW I q (by simp))
  |bl j=>cases ry;exact PySem.EqMixed.ne_str_bool (aW I q (by simp))
  |int j=>obtain⟨t',rfl⟩:=ry;exact PySem.EqMixed.ne_str_int (aW I q (by simp))
  |str j=>obtain⟨t',rfl⟩:=ry;exact ne_str (aW I q (congrArg not nN))
  |_=>exact absurd (show false=true from hs) Ag
 |byt i=>
  obtain⟨t,rfl⟩:=rx;cases y with
  |byt j=>obtain⟨t',rfl⟩:=ry;exact W.ne_bytes (aW I q (congrArg not oQ))
  |_=>exact absurd (show false=true from hs) Ag
 |_=>cases y<;>exact absurd (show false=true from hs) Ag
theorem GD:OpR X (compareOp .Lt) (rI0 fun i j=>.bl (decide (i<j))):=vH fun _ _ _ _ _ _ _ q=>lt_int q
theorem HD:OpR X (compareOp .LtE) (rI0 fun i j=>.bl (decide (i<=j))):=vH fun _ _ _ _ _ _ _ q=>le_int q
theorem Iz:OpR X (compareOp .Gt) (rI0 fun i j=>.bl (decide (j<i))):=vH fun _ _ _ _ _ _ _ q=>gt_int q
theorem GZ:OpR X (compareOp .GtE) (rI0 fun i j=>.bl (decide (j<=i))):=vH fun _ _ _ _ _ _ _ q=>ge_int q
theorem Fh:OpR X (compareOp .Is) (fun x y H Q=>y=.non/\Q (.bl (decide (x=.non))) H):=by
 intro pins s σ H x y v u Q I rx ry h;obtain⟨rfl,q⟩:=h;cases ry;refine is_none_gen (aW I q ?_);cases x<;>first
  |(cases rx;rfl)
  |(obtain⟨t,rfl⟩:=rx;rfl)
theorem FY:OpR X (compareOp .IsNot) (fun x y H Q=>y=.non/\Q (.bl (!decide (x=.non))) H):=by
 intro pins s σ H x y v u Q I rx ry h;obtain⟨rfl,q⟩:=h;cases ry;refine isnot_none_gen (aW I q ?_);cases x<;>first
  |(cases rx;rfl)
  |(obtain⟨t,rfl⟩:=rx;rfl)
theorem aH(b:Expr){op:CmpOp}(h:op≠.In:=by decide)(h2:op≠.NotIn:=by decide):behindInMarks op b=false:=by
 have e1:(op==CmpOp.In)=false:=by cases op<;>first|rfl|exact absurd rfl h
 have e2:(op==CmpOp.NotIn)=false:=by cases op<;>first|rfl|exact absurd rfl h2
 cases b<;>simp[behindInMarks,e1,e2]
theorem bS{op:CmpOp}{r:R2}(ho:OpR X (compareOp op) r)(ha:PE X a ta)(hb:PE X b tb)(hm:behindInMarks op b=false):PE X (.Compare a [op] [b] pos) (tOp r ta tb):=by
 intro pins s σ H Q I h;exact wpAny_Compare1 (vF ha hb I h fun v u s2 x y H2 I2 rx ry q=>ho pins s2 σ H2 x y v u Q I2 rx ry q) hm
def tR (t:TE):TT:=fun σ H Q=>t σ H fun x H'=>∃k,x=.bl k/\Q k H'
theorem aE{op:CmpOp}{r:R2}(ho:OpR X (compareOp op) r)(ha:PE X a ta)(hb:PE X b tb)(hm:behindInMarks op b=false):PT X (.Compare a [op] [b] pos) (tR (tOp r ta tb)):=by
 intro pins s σ H Q I h
 refine wpAny_isTrue_Compare1 (thn (ha pins s σ H _ I h) fun v s1 ⟨x,H1,I1,r1,q1⟩=>thn (hb pins s1 σ H1 _ I1 q1) fun u s2 ⟨y,H2,I2,r2,q2⟩ =>
  thn (ho pins s2 σ H2 x y v u _ I2 r1 r2 q2) fun c s3 ⟨z,H3,I3,r3,k,e,q3⟩=>?_) hm
 subst e;cases r3;exact wpAny_truthy_bool ⟨H3,I3,q3⟩
def qZ (r r':R2)(ta tb tc:TE):TE:=fun σ H Q=>ta σ H fun x H1=>tb σ H1 fun y H2=>r x y H2 fun z H3=>∃k,z=.bl k /\
 (if k=true then tc σ H3 fun w' H4=>r' y w' H4 Q else Q (.bl false) H3)
theorem pd{op op':CmpOp}{r r':R2}(ho:OpR X (compareOp op) r)(ho':OpR X (compareOp op') r')(ha:PE X a ta)(hb:PE X b tb)(hc:PE X c tc)
  (hm:lastMarks [op,op'] [b,c]=false:=by with_unfolding_all rfl):PE X (.Compare a [op,op'] [b,c] pos) (qZ r r' ta tb tc):=by
 intro pins s σ H Q I h
 refine Compare_chain (thn (ha pins s σ H _ I h) fun v s1 ⟨x,H1,I1,r1,q1⟩=>chain_link (thn (hb pins s1 σ H1 _ I1 q1) fun u s2 ⟨y,H2,I2,r2,q2⟩ =>
  thn (ho pins s2 σ H2 x y v u _ I2 r1 r2 q2) fun d s3 ⟨z,H3,I3,r3,k,e,q3⟩=>?_)) hm
 subst e;cases r3;refine wpAny_truthy_bool ?_;cases k with
 |false=>exact ite_ff ⟨.bl false,H3,I3,rfl,q3⟩
 |true=>exact ite_tt (chain_last (thn (hc pins s3 σ H3 _ I3 q3) fun w' s4 hq31=>by obtain⟨z',H4,I4,r4,q4⟩:=hq31;exact ho' pins s4 σ H4 y z' u w' Q I4 r2 r4 q4))
theorem oX{op op':CmpOp}{r r':R2}(ho:OpR X (compareOp op) r)(ho':OpR X (compareOp op') r')(ha:PE X a ta)(hb:PE X b tb)(hc:PE X c tc)
  (hm:lastMarks [op,op'] [b,c]=false:=by with_unfolding_all rfl):PT X (.Compare a [op,op'] [b,c] pos) (tR (qZ r r' ta tb tc)):=by
 intro pins s σ H Q I h
 refine isTrue_chain (thn (ha pins s σ H _ I h) fun v s1 ⟨x,H1,I1,r1,q1⟩=>test_link (thn (hb pins s1 σ H1 _ I1 q1) fun u s2 ⟨y,H2,I2,r2,q2⟩ =>
  thn (ho pins s2 σ H2 x y v u _ I2 r1 r2 q2) fun d s3 ⟨z,H3,I3,r3,k,e,q3⟩=>?_)) hm
 subst e;cases r3;refine wpAny_truthy_bool ?_;cases k with
 |false=>
  obtain⟨k',e',q'⟩:=q3;cases e';exact ite_ff ⟨H3,I3,q'⟩
 |true=>
  refine ite_tt (test_last (thn (hc pins s3 σ H3 _ I3 q3) fun w' s4 hq32=>?_));obtain⟨z',H4,I4,r4,q4⟩:=hq32;refine thn (ho' pins s4 σ H4 y z' u w' _ I4 r2 r4 q4) fun d' s5 ⟨z2,H5,I5,r5,k2,e2,q5⟩=>?_;subst e2;cases r5;exact wpAny_truthy_bool ⟨H5,I5,q5⟩
def xg (K:W.Frag)(x:V)(H:Hp)(k:Bool):Prop:=
 match x with
 |.non=>k=false
 |.bl b=>k=b
 |.int i=>k=(i != 0)
 |.str y=>y.length<=sizeLine/\k=((y.length:Int) != 0)
 |.byt y=>y.size<=sizeLine/\k=((y.size:Int) != 0)
 |.ref p=>(∃xs,SqL K H p xs/\k=!xs.isEmpty)\/(∃xs,SqT K H p xs/\k=!xs.isEmpty)\/∃kvs,H p=some (.dK kvs)/\k=!kvs.isEmpty
 |_=>False
theorem kK{κ:Type}{kvs:List (κ×V)}{vs:List (κ×Value)}(r:KV kvs vs):(!vs.isEmpty)=!kvs.isEmpty:=by
 cases r<;>rfl
theorem fW{xs:List V}{its:List Value}(r:Vals xs its):(!its.toArray.isEmpty)=!xs.isEmpty:=by
 cases r<;>simp
theorem ER:(sizeLine:Nat)<2^63:=by rw[sizeLine_eq];decide
theorem Je:TruR X (fun x H Q=>∃k,xg X.K x H k/\Q k H):=by
 intro pins s σ H x v Q I rx h;obtain⟨k,e,q⟩:=h;have hl:=ER;have hs:sizeLine=16777216:=sizeLine_eq;cases x with
 |non=>
  cases rx;have e':k=false:=e;subst e';exact truthy_none ⟨H,I,q⟩
 |bl b=>
  cases rx;have e':k=b:=e;subst e';exact wpAny_truthy_bool ⟨H,I,q⟩
 |int i=>
  obtain⟨t,rfl⟩:=rx;have e':k=(i != 0):=e;subst e';exact PySem.P.truthy_int ⟨H,I,q⟩
 |str y=>
  obtain⟨t,rfl⟩:=rx;obtain⟨hy,e'⟩:y.length<=sizeLine/\k=((y.length:Int) != 0):=e;subst e';exact PySem.P.truthy_str (by lia) ⟨H,I.tok _,q⟩
 |byt y=>
  obtain⟨t,rfl⟩:=rx;obtain⟨hy,e'⟩:y.size<=sizeLine/\k=((y.size:Int) != 0):=e;subst e';exact W.truthy_bytes (by lia) ⟨H,I.tok _,q⟩
 |ref p=>
  cases rx;have e':(∃xs,SqL X.K H p xs/\k=!xs.isEmpty)\/(∃xs,SqT X.K H p xs/\k=!xs.isEmpty)\/∃kvs,H p=some (.dK kvs)/\k=!kvs.isEmpty:=e;rcases e' with ⟨xs,hx,e'⟩|⟨xs,hx,e'⟩|⟨kvs,hx,e'⟩
  ·subst e';obtain⟨its,r,pl,hz⟩:=I.list hx;have hlen:=r.length;exact wpAny_truthy_list pl.isList (by simp only[zY];lia) ⟨H,I.tok _,by rw[fW r];exact q⟩
  ·subst e';obtain⟨its,r,pl,hz⟩:=I.tuple hx;have hlen:=r.length;exact truthy_tuple pl (by simp only[zY];lia) ⟨H,I.tok _,by rw[fW r];exact q⟩
  ·subst e';obtain⟨hz,hS,vs,r,m⟩:kvs.length<=sizeLine/\(p==sysModules)=false/\∃vs,KV kvs vs/\s.heap.DictOf (aI X.prog X.w) p vs:=I.hok p _ hx;have hlen:kvs.length=vs.length:=Paired.length r;exact wpAny_truthy_dict hS m (by lia) ⟨H,I.tok _,by rw[kK r];exact q⟩
 |_=>exact(show False from e).elim
theorem ir(ha:PE X a ta)(he:∀whole,isTrue a X.env whole=(do let v <- whole;standAt a.pos;holding [v] (truthy v))) :
  PT X a (fun σ H Q=>ta σ H fun x H'=>∃k,xg X.K x H' k/\Q k H'):=by
 intro pins s σ H Q I h;refine isTrue_plain (thn (ha pins s σ H _ I h) fun v s1 hq33=>?_) (he _);obtain⟨x,H1,I1,r1,q1⟩:=hq33;exact Je pins s1 σ H1 x v Q I1 r1 q1
theorem Ep:OpR X (binaryOp .Add) (fun x y H Q=>∃i j,x=.str i/\y=.str j/\i.length+j.length<=sizeLine/\Q (.str (i++j)) H):=by
 intro pins s σ H x y v u Q I rx ry h;obtain⟨i,j,rfl,rfl,hz,q⟩:=h;obtain⟨t,rfl⟩:=rx;obtain⟨t',rfl⟩:=ry;exact add_str (fun t' tk=>⟨.str (i++j),H,I.tok _,⟨_,rfl⟩,q⟩) hz
def pL (b:Expr):Prop:=∀o i,subscripted b false o i=operate [o,i] (getItem o i)
theorem jJ(ha:PE X a ta)(hb:PE X b tb)(hs:pL b) :
  PE X (.Subscript a b pos) (tOp (fun x y H Q=>∃z i c,x=.str z/\y=.int i/\0<=i/\i<2^63/\i<z.length/\z.cps[i.toNat]?=some c/\Q (.str ⟨#[c]⟩) H) ta tb):=by
 intro pins s σ H Q I h;refine Subscript_ (vF ha hb I h fun v u s2 x y H2 I2 rx ry q=>?_);obtain⟨z,i,c,rfl,rfl,h0,h63,h1,hc,q⟩:=q;obtain⟨t,rfl⟩:=rx;obtain⟨t',rfl⟩:=ry;have e:seqIndex? i z.length=some i.toNat:=PySem.StrLaws.seqIndex_nonneg h0 h1
 exact tail_any (typeIs_str s2 z t) slot_str_getitem.lookup (getItem_str (c:=c) (by
  have e1:decide (i < -(2^63:Int))=false:=Dd (by lia);have e2:decide (i≥2^63)=false:=Dd (by lia)
  rw[e1,e2] <;> rfl) (by rw[e]; exact hc) ⟨.str ⟨#[c]⟩,H2,I2.tok _,⟨_,rfl⟩,q⟩) (hs _ _)
theorem dB{x:V}{us:List Value}(r:Vals [x] us):∃u,us=[u]/\RelV x u:=by
 cases r with
 |cons r1 r2=>cases r2;exact⟨_,rfl,r1⟩
theorem su{x y:V}{us:List Value}(r:Vals [x,y] us):∃u w',us=[u,w']/\RelV x u/\RelV y w':=by
 cases r with
 |cons r1 r2=>
  cases r2 with
  |cons r3 r4=>cases r4;exact⟨_,_,rfl,r1,r3⟩
theorem mL(hc:X.calm=true):cb X (.builtin "max") (fun xs H Q=>∃i j,xs=[.int i,.int j]/\Q (.int (if j>i then j else i)) H):=by
 intro pins s σ H xs us Q I r h;obtain⟨i,j,rfl,q⟩:=h;obtain⟨u,w',rfl,⟨t,rfl⟩,⟨t',rfl⟩⟩:=su r;refine max_two_ints (I.ok.hd hc) fun h' tk k=>⟨_,H,I.kept k,?_,q⟩
 by_cases hj:j>i
 ·rw[CZ hj,CZ hj];exact⟨_,rfl⟩
 ·rw[CY hj,CY hj];exact⟨_,rfl⟩
theorem iU(hc:X.calm=true):cb X (.builtin "min") (fun xs H Q=>∃i j,xs=[.int i,.int j]/\Q (.int (if j<i then j else i)) H):=by
 intro pins s σ H xs us Q I r h;obtain⟨i,j,rfl,q⟩:=h;obtain⟨u,w',rfl,⟨t,rfl⟩,⟨t',rfl⟩⟩:=su r;refine min_two_ints (I.ok.hd hc) fun h' tk k=>⟨_,H,I.kept k,?_,q⟩
 by_cases hj:j<i
 ·rw[CZ hj,CZ hj];exact⟨_,rfl⟩
 ·rw[CY hj,CY hj];exact⟨_,rfl⟩
theorem GU:cb X (.type "int") (fun xs H Q=>(∃i,xs=[.int i]/\Q (.int i) H)\/∃k,xs=[.bl k]/\Q (.int (if k then 1 else 0)) H):=by
 intro pins s σ H xs us Q I r h;rcases h with ⟨i,rfl,q⟩|⟨k,rfl,q⟩
 ·obtain⟨u,rfl,t,rfl⟩:=dB r;exact call_int_int ⟨.int i,H,I,⟨_,rfl⟩,q⟩
 ·obtain⟨u,rfl,r1⟩:=dB r;cases r1;exact call_int_bool ⟨.int (if k then 1 else 0),H,I.tok _,⟨_,rfl⟩,q⟩
end
structure JN(h:Heap)(x dx C:Addr)(mA:Str->Option Value):Prop where
 obj:h.get? x=some (W.instObj C dx)
 ns:h.Ns1 dx mA
 ne:dx≠x
theorem nO{h:Heap}{dx:Addr}{mA:Str->Option Value}(n:h.Ns1 dx mA):∃od,h.get? dx=some od/\∀name,W.lookIn name od=some (mA name):=by
 obtain⟨o,es,ep,ho,hd,hk,_,hm⟩:=n;refine⟨o,ho,fun name=>?_⟩;have e:=hm name;unfold nsFind findBy at e;rw[<- Array.find?_toList] at e;unfold W.lookIn;rw[hd];dsimp only;split
 ·rename_i y q;rw[q] at e;exact congrArg some e
 ·rename_i q;rw[q] at e;have a:es.toList.any (·.refKey)=false:=by
   rw[Ci];intro y hy;obtain⟨z,t,hkey⟩:=hk y (Array.mem_toList_iff.mp hy);simp[DictEntry.refKey,hkey]
  have a':¬es.toList.any (·.refKey)=true:=by rw[a];exact Ag
  rw[CY a'];exact congrArg some e
theorem JN.look{h:Heap}{x dx C:Addr}{mA:Str->Option Value}(I:JN h x dx C mA):∃od,W.InstAt h x (W.instObj C dx) C (some od)/\∀name,W.lookIn name od=some (mA name):=
 let ⟨od,ho,hl⟩:=nO I.ns
 ⟨od,⟨I.obj,rfl,rfl,ho⟩,hl⟩
def vT (f:Str)(v:V):List (Str×V)->List (Str×V)
 |[]=>[(f,v)]
 |(g,x)::r=>if g=f then (g,v)::r else (g,x)::vT f v r
theorem GG.some_of{v:V}{o:Option Value}(r:GG (some v) o):∃u,o=some u/\RelV v u:=by
 cases o with
 |none=>exact(show False from r).elim
 |some u=>exact⟨u,rfl,r⟩
section
variable {P:Program}{w:World}{H H':Hp}{h h':Heap}{a C dx:Addr}{fs fs':List (Str×V)}
theorem sH(hok:HOk P w H h)(e:H a=some (.ins C dx fs)):∃mA,JN h a dx C mA/\(∀f,GG (fs.lookup f) (mA f))/\PySem.Within mA (fs.map (·.1))/\fs.length<=1000/\H dx=some (.own a):=by
 obtain⟨d,z,ne,ob,mA,n,r,q⟩:=(show Ed P w H h a (.ins C dx fs) from hok a _ e)
 exact⟨mA,⟨ob,n,ne⟩,r,q,z,d⟩
end
structure Cls(K:W.Frag)(C:Addr):Prop where
 pg:W.plainGet K C Str.empty=true
 hd:W.hasDictIn K C=true
 po:W.plainOver K C=true
 sa:W.findIn K (.ref C) "__setattr__"=some (some (.builtin "object.__setattr__"))
theorem Cls.get{K:W.Frag}{C:Addr}(c:Cls K C)(f:Str):W.plainGet K C f=true:=c.pg
section
variable {X:Cx}{pins:List (Addr×Obj)}{σ:St}{H:Hp}{s:Shared}{A:Around}{E:Value->Shared->Prop}{Q:Value->Shared->Prop}{c:Value}{b:Bool}
inductive FQ(K:W.Frag)(H:Hp):V->Value->Prop where
 |non:FQ K H .non (.type "NoneType")
 |bl (x:Bool):FQ K H (.bl x) (.type "bool")
 |int (i:Int):FQ K H (.int i) (.type "int")
 |str (x:Str):FQ K H (.str x) (.type "str")
 |flt (x:UInt64):FQ K H (.flt x) (.type "float")
 |lst {a:Addr}{xs:List V} (e:H a=some (.lst xs)):FQ K H (.ref a) (.type "list")
 |frz {a:Addr}{o:Obj}{xs:List V} (e:H a=some (.frz o (.lst xs))):FQ K H (.ref a) (.type "list")
 |tup {a:Addr}{xs:List V} (e:H a=some (.tup xs)):FQ K H (.ref a) (.type "tuple")
 |dK {a:Addr}{kvs:List (Key×V)} (e:H a=some (.dK kvs)):FQ K H (.ref a) (.type "dict")
 |dT {a:Addr}{kvs:List (List Key×V)} (e:H a=some (.dT kvs)):FQ K H (.ref a) (.type "dict")
 |ins {a C dx:Addr}{fs:List (Str×V)} (e:H a=some (.ins C dx fs)) (cl:Cls K C) (ha:W.findIn K (.ref C) "__class__"=some (some (.builtin "object.__class__")))
   (hn:W.specialIn K (.builtin "object.__class__") "__get__"=some (some (.builtin "getset_descriptor.__get__"))) (htk:W.takesIn K (.builtin "object.__class__")=some true)
   (hm:W.mroIn K C (.type "object")=some true):FQ K H (.ref a) (.ref C)
theorem ma{x:V}{u t:Value}(I:Inv X pins σ H s)(rx:RelV x u)(ty:FQ X.K H x t)(e:W.kitOne X.K t c=some b)(h:∀tk,Q (.bool b) {s with toks:=tk}) :
  wpAny (model X.prog X.w) A (call (.builtin "isinstance") [u,c]) Q E s:=by
 cases ty with
 |non=>cases (show u=Value.none from rx);exact W.kia_one W.kitx_none I.kIn True.intro e (fun z=>nomatch z) h
 |bl y=>cases (show u=Value.bool y from rx);exact W.kia_one W.kitx_bool I.kIn True.intro e (fun z=>nomatch z) h
 |int i=>obtain⟨t,q⟩:=(show ∃t,u=Value.int i t from rx);cases q;exact W.kia_one W.kitx_int I.kIn True.intro e (fun z=>nomatch z) h
 |str y=>obtain⟨t,q⟩:=(show ∃t,u=Value.str y t from rx);cases q;exact W.kia_one W.kitx_str I.kIn True.intro e (fun z=>nomatch z) h
 |flt y=>obtain⟨t,q⟩:=(show ∃t,u=Value.float y t from rx);cases q;exact W.kia_one W.kitx_float I.kIn True.intro e (fun z=>nomatch z) h
 |@lst a xs ea=>
  cases (show u=Value.ref a from rx);obtain⟨_,_,n,_,h1⟩:=(show Ed X.prog X.w H s.heap a (.lst xs) from I.hok a _ ea)
  exact W.kia_one W.kitx_list I.kIn ⟨_,h1,rfl⟩ e (fun z=>nomatch z) h
 |@frz a ob xs ea=>
  cases (show u=Value.ref a from rx);obtain⟨_,_,_,n,_,h1⟩:=(show Ed X.prog X.w H s.heap a (.frz ob (.lst xs)) from I.hok a _ ea)
  exact W.kia_one W.kitx_list I.kIn ⟨_,h1,rfl⟩ e (fun z=>nomatch z) h
 |@tup a xs ea=>
  cases (show u=Value.ref a from rx);obtain⟨_,_,_,p⟩:=(show Ed X.prog X.w H s.heap a (.tup xs) from I.hok a _ ea)
  obtain⟨o,h1,h2,_⟩:=p;exact W.kia_one W.kitx_tuple I.kIn ⟨o,h1,h2⟩ e (fun z=>nomatch z) h
 |@dK a kvs ea=>
  cases (show u=Value.ref a from rx);obtain⟨_,_,vs,_,p⟩:=(show Ed X.prog X.w H s.heap a (.dK kvs) from I.hok a _ ea)
  obtain⟨o,es,ep,h1,h2,_⟩:=p;exact W.kia_one W.kitx_dict I.kIn ⟨o,h1,h2.1⟩ e (fun z=>nomatch z) h
 |@dT a kvs ea=>
  cases (show u=Value.ref a from rx);obtain⟨_,_,xs,_,o,es,ep,h1,h2,_⟩:=(show Ed X.prog X.w H s.heap a (.dT kvs) from I.hok a _ ea)
  exact W.kia_one W.kitx_dict I.kIn ⟨o,h1,h2.1⟩ e (fun z=>nomatch z) h
 |@ins a C dx fs ea cl ha hn htk hm=>
  cases (show u=Value.ref a from rx);obtain⟨mA,O,_⟩:=sH I.hok ea;obtain⟨od,J,_⟩:=O.look;exact W.kia_one (W.kitx_own (cl.get _) cl.hd ha hn htk hm) I.kIn J e (fun z=>nomatch z) h
end
structure ES(k:Nat)(A:Around):Prop where
 hd:A.handled=none
 dp:A.depth+3*k+5<recursionLimit
 un:A.units+16*k+200<cLine
theorem ES.mono{j k:Nat}{A:Around}(r:ES k A)(h:j<=k):ES j A:=⟨r.hd,by have:=r.dp;lia,by have:=r.un;lia⟩
theorem ES.deeper{k:Nat}{A:Around}(r:ES (k+1) A)(env:Env):ES k (A.deeper env):=
 ⟨r.hd,by have:=r.dp;show A.depth+1+3*k+5<_;lia,by have:=r.un;show A.units+3+16*k+200<_;lia⟩
theorem ES.depth{k:Nat}{A:Around}(r:ES k A):A.depth<recursionLimit:=by have:=r.dp;lia
theorem ES.units{k:Nat}{A:Around}(r:ES k A):A.units+64<cLine:=by have:=r.un;lia
def GI:TA:=fun _ H Q=>Q [] H
def fD (ta:TE)(tr:TA):TA:=fun σ H Q=>ta σ H fun x H1=>tr σ H1 fun xs H2=>Q (x::xs) H2
section
variable {X:Cx}{e:Expr}{es:List Expr}{te:TE}{t:TA}{pos:Pos}
theorem DZ:PA X [] GI:=fun _ _ _ _ H Q I h=>Calls.spliced_nil ⟨[],H,I,.nil,h⟩
theorem DI(ha:PE X e te)(hr:PA X es t)(hs:starEach (e::es) X.env=(false,eval e X.env)::starEach es X.env:=by rfl):PA X (e::es) (fD te t):=by
 intro pos pins s σ H Q I h;rw[hs];show wpAny _ _ (spliced ((false,eval e X.env)::backTo pos (starEach es X.env))) _ _ s;refine Calls.spliced_cons (thn (ha pins s σ H _ I h) fun u s1 hq34=>?_);obtain⟨x,H1,I1,r1,q1⟩:=hq34;refine thn (hr pos pins s1 σ H1 _ I1 q1) fun us s2 hq35=>?_;obtain⟨xs,H2,I2,r2,q2⟩:=hq35;exact⟨x::xs,H2,I2,.cons r1 r2,q2⟩
def tTup (t:TA):TE:=fun σ H Q=>t σ H fun xs H1=>xs.length<=sizeLine/\∀p,H1 p=none->Q (.ref p) (upd H1 p (.tup xs))
def tLst (t:TA):TE:=fun σ H Q=>t σ H fun xs H1=>xs.length<=sizeLine/\∀p,H1 p=none->Q (.ref p) (upd H1 p (.lst xs))
theorem aZ{x1}(h:PA X es t):PE X (.Tuple es x1 pos) (tTup t):=by
 intro pins s σ H Q I hq;refine wpAny_Tuple_spliced (thn (h pos pins s σ H _ I hq) fun us s1 hq36=>?_);obtain⟨xs,H1,I1,r,z,q⟩:=hq36;refine⟨by rw[<- r.length];exact z,?_⟩;have hf:H1 s1.heap.objs.size=none:=I1.hok.fresh (zE _);refine⟨.ref s1.heap.objs.size,upd H1 s1.heap.objs.size (.tup xs),I1.laid (t':=s1.toks) (fun b u e=>Dw _ e) (zE _) ?_,rfl,q _ hf⟩;exact⟨z,us,r,⟨_,Dx _ rfl,rfl,_,rfl⟩⟩
theorem bw(h:PA X es t):PE X (.List es pos) (tLst t):=by
 intro pins s σ H Q I hq;refine wpAny_List_spliced (thn (h pos pins s σ H _ I hq) fun us s1 hq37=>?_);obtain⟨xs,H1,I1,r,z,q⟩:=hq37;refine⟨by rw[<- r.length];exact z,?_⟩;have hf:H1 s1.heap.objs.size=none:=I1.hok.fresh (zE _);refine⟨.ref s1.heap.objs.size,upd H1 s1.heap.objs.size (.lst xs),I1.laid (t':=s1.toks) (fun b u e=>Dw _ e) (zE _) ?_,rfl,q _ hf⟩;exact⟨z,us,0,r,Dx _ rfl⟩
end
abbrev Sp:=List V->Hp->VK->XK->Prop
abbrev CXT:=List Env->Hp->Shared->XK->Value->Shared->Prop
structure JF(P:Program)(w:World)(K:W.Frag)(mg:Str->Option Value)(base:Heap)(A:Around)(outer:List Env)(s:Shared)(H:Hp):Prop where
 frames:A.frames=some outer
 mod:Mod K mg base
 bs:∀b o,base.get? b=some o->s.heap.get? b=some o/\H b=none
 bsz:base.objs.size<=s.heap.objs.size
 Gz:s.heap.FunFrames base outer
 frf:∀b∈frs outer,H b=none
 hok:HOk P w H s.heap
 bare:AllBare s.gens
def CE (outer:List Env)(P:Program)(w:World)(H:Hp)(s:Shared)(Q:VK)(u:Value)(s':Shared):Prop:=
 ∃v H',s'.os=s.os/\AllBare s'.gens/\Un (frs outer) [] H H' s.heap s'.heap/\HOk P w H' s'.heap/\RelV v u/\Q v H'
def CR (CX:CXT)(outer:List Env)(P:Program)(w:World)(H:Hp)(s:Shared)(Q:VK)(E:XK)(r:Result)(s':Shared):Prop:=
 match r with
 |.ok (.ret u)=>CE outer P w H s Q u s'
 |.ok _=>False
 |.error e=>CX outer H s E e s'
structure DS(P:Program)(w:World)(K:W.Frag)(mg:Str->Option Value)(base:Heap)(CX:CXT)(k:Nat)(f:Addr)(fd:FuncData)(ps:List Str)(sp:Sp):Prop where
 len:∀vs H Q E,sp vs H Q E->vs.length=ps.length
 run:∀(A:Around)(outer:List Env)(s:Shared)(H:Hp)(args:Args)(us:List Value)(vs:List V)(Q:VK)(E:XK),ES k A->JF P w K mg base A outer s H->BindsTo s fd args (ps.zip us)->Vals vs us->sp vs H Q E ->
  codeAny (model P w) A (.call (.ref f) args) (CR CX outer P w H s Q E) s
theorem DS.mono{P:Program}{w:World}{K:W.Frag}{mg:Str->Option Value}{base:Heap}{CX:CXT}{j k:Nat}{f:Addr}{fd:FuncData}{ps:List Str}{sp:Sp}(F:DS P w K mg base CX j f fd ps sp)(h:j<=k) :
  DS P w K mg base CX k f fd ps sp:=⟨F.len,fun A outer s H args us vs Q E hr=>F.run A outer s H args us vs Q E (hr.mono h)⟩
section
variable {X:Cx}{pins:List (Addr×Obj)}{σ:St}{H:Hp}{s s':Shared}
theorem Inv.env0(I:Inv X pins σ H s):JF X.prog X.w X.K X.mg X.base X.A X.stack s H:=
 ⟨I.ok.frames,I.ok.mod,I.bs,zO I.ok.bsz I.sz,I.stack,I.Fl,I.hok,I.bare⟩
theorem Inv.after{Q:VK}{u:Value}(I:Inv X pins σ H s)(h:CE X.stack X.prog X.w H s Q u s'):EP X pins σ Q u s':=by
 obtain⟨v,H',os,bare,un,hok,r,q⟩:=h;obtain⟨hh,g,d,t,os'⟩:=s';obtain rfl:os'=s.os:=os;exact⟨v,H',I.call (h':=hh) (g':=g) (d':=d) (t':=t) (ch:=[]) un hok bare (fun b z=>absurd z (by simp)),r,q⟩
end
def rC (sp:Sp)(dvs:List V)(E:XK)(t:TA):TE:=fun σ H Q=>t σ H fun vs H1=>sp (vs++dvs) H1 Q E
def Binds(K:W.Frag)(fd:FuncData)(ps:List Str)(ds:List Value):Prop:=
 ∀(s:Shared)(us:List Value),K.In s.heap->(us++ds).length=ps.length->BindsTo s fd ⟨us,[]⟩ (ps.zip (us++ds))
theorem Binds.all{K:W.Frag}{fd:FuncData}{ps:List Str}(h:∀us:List Value,us.length=ps.length->bindArgs fd ⟨us,[]⟩=pure (ps.zip us)):Binds K fd ps []:=fun s us _ hl=>by
 rw[AD] at hl ⊢;exact .of_eq (h us hl)
def ng (CX:CXT)(X:Cx)(E:XK):Prop:=∀(pins:List (Addr×Obj))(σ:St)(H:Hp)(s:Shared)(e:Value)(s':Shared),Inv X pins σ H s->CX X.stack H s E e s'->X.xe e s'
section
variable {X:Cx}{CX:CXT}{k:Nat}{f C:Addr}{fd:FuncData}{ps:List Str}{sp:Sp}{dvs:List V}{ds:List Value}{E:XK}{x m:Str}{p pos apos:Pos}{e o:Expr}{es:List Expr}{ta:TE}{t:TA}
theorem uO{pins:List (Addr×Obj)}{σ:St}{H:Hp}{s:Shared}{Q:VK}{us:List Value}{vs:List V}(F:DS X.prog X.w X.K X.mg X.base CX k f fd ps sp)(hr:ES k X.A)(hb:Binds X.K fd ps ds)(hd:Vals dvs ds)(hx:ng CX X E)
  (I:Inv X pins σ H s)(r:Vals vs us)(h:sp (vs++dvs) H Q E):(wq X) (call (.ref f) us) (EP X pins σ Q) X.xe s:=by
 have r2:Vals (vs++dvs) (us++ds):=r.append hd;have hl:(us++ds).length=ps.length:=by rw[<- r2.length];exact F.len _ _ _ _ h
 refine wpAny_call (codeAny_mono (F.run X.A X.stack s H ⟨us,[]⟩ (us++ds) (vs++dvs) Q E hr I.env0 (hb s us I.kIn hl) r2 h) fun r s' hq=>?_);cases r with
 |error e=>exact hx pins σ H s e s' I hq
 |ok fl=>
  cases fl with
  |ret u=>exact I.after hq
  |next=>exact False.elim hq
  |brk=>exact False.elim hq
  |cont=>exact False.elim hq
theorem nv(F:DS X.prog X.w X.K X.mg X.base CX k f fd ps sp)(hr:ES k X.A)(hg:Gl X x)(hm:X.mg x=some (.ref f))(hk:W.keepIn X.K (.ref f)=true)(hb:Binds X.K fd ps ds)(hd:Vals dvs ds)(hx:ng CX X E)
  (ha:PA X (e::es) t)(hdb:(x==("__debug__":Str))=false:=by decide)(he:starEach (e::es) X.env=(false,eval e X.env)::starEach es X.env:=by rfl)(hpl:(backTo pos (starEach es X.env)).any (·.1)=false:=by rfl) :
  PE X (.Call (.Name x p) (e::es) [] pos) (rC sp dvs E t):=by
 intro pins s σ H Q I h;refine wpAny_Call_Name_kw (nS I hg hm ?_ hdb);refine W.callWith_K (h₀:=X.base) I.ok.mod.kin hk (thn (ha pos pins s σ H _ I h) fun us s1 hq38=>?_) he hpl;obtain⟨vs,H1,I1,r,q⟩:=hq38;refine⟨I1.kIn,?_⟩;exact uO F hr hb hd hx I1 r q
end
def PK (X:Cx)(kws:List Keyword)(t:TA):Prop:=
 ∀(pos:Pos)(pins:List (Addr×Obj))(s:Shared)(σ:St)(H:Hp)(Q:List V->Hp->Prop),Inv X pins σ H s->t σ H Q->(wq X) (evalAll ((backToKw pos (keywordEach kws X.env)).map (·.2))) (AP X pins σ Q) X.xe s
section
variable {X:Cx}{CX:CXT}{k:Nat}{f C:Addr}{fd:FuncData}{ps ks:List Str}{sp:Sp}{E:XK}{x m:Str}{p pos apos kpos:Pos}{e o:Expr}{es:List Expr}{kws:List Keyword}{te ta:TE}{t tk:TA}{nm:Option Str}
theorem Jr:PK X [] GI:=fun _ _ _ _ H Q I h=>wpAny_evalAll_nil ⟨[],H,I,.nil,h⟩
theorem si(ha:PE X e te)(hr:PK X kws t):PK X (⟨nm,e,kpos⟩::kws) (fD te t):=by
 intro pos pins s σ H Q I h;show wpAny _ _ (evalAll ((do let v <- eval e X.env;standAt pos;pure v)::(backToKw pos (keywordEach kws X.env)).map (·.2))) _ _ s;refine wpAny_evalAll_cons (CT (thn (ha pins s σ H _ I h) fun u s1 hq39=>?_));obtain⟨x,H1,I1,r1,q1⟩:=hq39;refine CT (wpAny_standAt (CU ?_));refine thn (hr pos pins s1 σ H1 _ I1 q1) fun us s2 hq40=>?_;obtain⟨xs,H2,I2,r2,q2⟩:=hq40;exact⟨x::xs,H2,I2,.cons r1 r2,q2⟩
variable {g:List Value->List Value->List Value}{gV:List V->List V->List V}
end
structure DN(N P:List Str)(sc:Scope):Prop where
 kind:sc.kind=.function
 co:sc.isCoroutine=false
 gen:sc.isGenerator=false
 nd:N.Nodup
 pre:N.take P.length=P
 par:∀x∈P,sc.names.lookup x=some .local\/sc.names.lookup x=some .cell
 Jd:∀y∈sc.names,y.2≠.free
theorem iK{kindOf:Str->Option NameKind}{x:Str}:∀{binds:List (Str×Value)}{m:Str->Option Value},(∀v,(x,v)∉binds)->bindL kindOf binds m x=m x
 |[],_,_=>rfl
 |(n,v)::r,m,h=>by
  unfold bindL;rw[iK fun w hw=>h w (Ac _ hw)];split
  ·have:x≠n:=by rintro rfl;exact h v zQ
   simp[this]
  ·rfl
theorem iE{kindOf:Str->Option NameKind}{x:Str}:∀{binds:List (Str×Value)}{m:Str->Option Value},(∀v,(x,v)∉binds)->bindC kindOf binds m x=m x
 |[],_,_=>rfl
 |(n,v)::r,m,h=>by
  unfold bindC;rw[iE fun w hw=>h w (Ac _ hw)];split
  ·rfl
  ·have:x≠n:=by rintro rfl;exact h v zQ
   simp[this]
theorem iP{kindOf:Str->Option NameKind}{x:Str}{v:Value}:∀{P:List Str}{vs:List Value}{i:Nat}{m:Str->Option Value},P.Nodup->P[i]?=some x->vs[i]?=some v->kindOf x=some .local ->
  bindL kindOf (P.zip vs) m x=some v
 |[],_,_,_,_,h,_,_=>by simp at h
 |_::_,[],_,_,_,_,h,_=>by simp at h
 |p::P,w::vs,0,m,nd,h1,h2,hk=>by
  simp at h1 h2;subst h1;subst h2;show bindL kindOf ((p,w)::P.zip vs) m p=_;unfold bindL;rw[iK fun v hv=>(Bm.mp nd).1 (Cj hv).1,CZ hk];simp
 |p::P,w::vs,i+1,m,nd,h1,h2,hk=>by
  show bindL kindOf ((p,w)::P.zip vs) m x=_;unfold bindL;exact iP (i:=i) (Bm.mp nd).2 (by simpa using h1) (by simpa using h2) hk
theorem iF{kindOf:Str->Option NameKind}{x:Str}{v:Value}:∀{P:List Str}{vs:List Value}{i:Nat}{m:Str->Option Value},P.Nodup->P[i]?=some x->vs[i]?=some v->kindOf x≠some .local ->
  bindC kindOf (P.zip vs) m x=some v
 |[],_,_,_,_,h,_,_=>by simp at h
 |_::_,[],_,_,_,_,h,_=>by simp at h
 |p::P,w::vs,0,m,nd,h1,h2,hk=>by
  simp at h1 h2;subst h1;subst h2;show bindC kindOf ((p,w)::P.zip vs) m p=_;unfold bindC;rw[iE fun v hv=>(Bm.mp nd).1 (Cj hv).1,CY hk];simp
 |p::P,w::vs,i+1,m,nd,h1,h2,hk=>by
  show bindC kindOf ((p,w)::P.zip vs) m x=_;unfold bindC;exact iF (i:=i) (Bm.mp nd).2 (by simpa using h1) (by simpa using h2) hk
def start(N:List Str)(vs:List V):St:=vs.map some++List.replicate (N.length-vs.length) none
def bX (CX:CXT)(P:Program)(w:World)(K:W.Frag)(mg:Str->Option Value)(base:Heap)(N:List Str)(qual:Str)(scope:Scope)(f:Addr)(cd:Value)(A:Around)(outer:List Env)(s:Shared)(H:Hp)(E:XK):Cx where
 prog:=P
 w:=w
 K:=K
 mg:=mg
 base:=base
 A:=A.deeper (envOfC qual scope s.heap.objs.size f cd)
 N:=N
 s₀:=s
 H₀:=H
 env:=envOfC qual scope s.heap.objs.size f cd
 outer:=outer
 stack:=envOfC qual scope s.heap.objs.size f cd::outer
 ex:=[]
 calm:=A.handled.isNone
 fn:=fun _=>true
 pn:=[]
 xe:=fun e s'=>wpAny (model P w) (A.deeper (envOfC qual scope s.heap.objs.size f cd)) (leaving (envOfC qual scope s.heap.objs.size f cd) e) (fun _ s''=>CX outer H s E e s'') (fun e' s''=>CX outer H s E e' s'') s'
theorem ky{sc:Scope}{n:Nat}{x:Str}(h:sc.names.lookup x=some .cell):∃c,(cellsFrom n sc.names []).lookup x=some c:=by
 have q:=W.cellsFrom_some sc.names n [] (.inl h);exact BN.mp q
theorem lU{CX:CXT}{P:Program}{w:World}{K:W.Frag}{mg:Str->Option Value}{base:Heap}{N ps:List Str}{qual:Str}{scope:Scope}{f:Addr}{cd:Value}{A:Around}{outer:List Env}{s s1:Shared}{H:Hp}{E:XK}{us:List Value}{vs:List V}
  (S:DN N ps scope)(e0:JF P w K mg base A outer s H)(hl:vs.length=ps.length)(r:Vals vs us)
  (x:InCallC s s.heap.objs.size (bindL (envOfC qual scope s.heap.objs.size f cd).kindOf (ps.zip us) fun _=>none) (cellsFrom (s.heap.objs.size+1) scope.names []) (bindC (envOfC qual scope s.heap.objs.size f cd).kindOf (ps.zip us) fun _=>none) s1) :
  Inv (bX CX P w K mg base N qual scope f cd A outer s H E) [] (start N vs) H s1:=by
 have hpl:ps.length<=N.length:=by have:=congrArg List.length S.pre;rw[Aa] at this;lia
 obtain⟨h1,tk,rfl,hk⟩:=x.done;have noA:∀b:Addr,b∉(bX CX P w K mg base N qual scope f cd A outer s H E).ex:=fun b z=>absurd (show b∈([]:List Addr) from z) (by simp)
 refine⟨⟨e0.mod,S.kind,rfl,rfl,zE _,fun y z c h1 h2=>?_,fun y hy=>?_,fun y c _ h=>?_,fun h=>CO.mp h,Around.frames_deeper e0.frames,.inr ⟨rfl,rfl⟩,fun b z=>absurd z (noA b),e0.bs,e0.bsz,fun b _ _=>noA b,fun b z=>absurd z (noA b),e0.Gz,e0.frf⟩,
  rfl,e0.bare,Un.kept hk,⟨_,x.toInCall.ns,fun i y v h1 h2 h3=>?_⟩,fun y c h=>⟨_,x.cell y c h⟩,e0.hok.fresh (zE _),fun y c h=>?_,fun p hp=>absurd (show p∈([]:List (Addr×Obj)) from hp) (by simp),e0.hok.kept hk,?_⟩
 ·exact name_of_addr x.apart (PySem.mem_of_lookup h1) (PySem.mem_of_lookup h2)
 ·have hy:scope.names.lookup y=some .cell\/scope.names.lookup y=some .free:=hy;rcases hy with hy|hy
  ·exact ky hy
  ·exact absurd rfl (S.Jd _ (PySem.mem_of_lookup hy))
 ·exact Ax (x.above y c (PySem.mem_of_lookup h))
 ·have hi:i<vs.length:=by
   unfold start at h2;by_cases hi:i<vs.length
   ·exact hi
   ·rw[AE (by simpa using hi)] at h2;rw[Ck] at h2;split at h2<;>cases h2
  have ha:vs[i]?=some v:=by
   unfold start at h2;rw[Ba (by simpa using hi),zW] at h2;cases e:vs[i]? with
   |none=>rw[e] at h2;cases h2
   |some a=>rw[e] at h2;cases h2;rfl
  obtain⟨u,hu,rv⟩:=r.get ha;have hp:ps[i]?=some y:=by
   rw[<- S.pre,AR (by lia)];exact h1
  have ndP:ps.Nodup:=by rw[<- S.pre];exact S.nd.sublist (List.take_sublist _ _)
  refine⟨u,rv,?_⟩;rcases S.par y (zS hp) with k|k
  ·exact .inl ⟨k,iP ndP hp hu k⟩
  ·obtain⟨c,e⟩:=ky (n:=s.heap.objs.size+1) k;refine .inr ⟨.inl k,c,e,?_⟩;have q:=x.cell y c e;rw[iF ndP hp hu (by show scope.names.lookup y≠_;rw[k];decide)] at q;exact q
 ·exact e0.hok.fresh (Ax (x.above y c (PySem.mem_of_lookup h)))
 ·unfold start;show _=N.length;rw[zG,zF,Bs];lia
theorem vh{CX:CXT}{P:Program}{w:World}{K:W.Frag}{mg:Str->Option Value}{base:Heap}{k:Nat}{f:Addr}{name qual:Str}{params:Arguments}{body:List Stmt}{scope:Scope}{dV kV doc pm cdv ct oc:Value}{an od:Option Addr}
  {osl:Array (Option Value)}{N ps:List Str}{sp:Sp}(lk:K.lookup f=some ⟨oc,od,.func (W.fnOf name qual params body scope dV kV doc pm an cdv ct),osl⟩)(hcd:W.codeIn K cdv qual=true)(S:DN N ps scope)
  (len:∀vs H Q E,sp vs H Q E->vs.length=ps.length)
  (hbody:∀(A:Around) (outer:List Env) (s:Shared) (H:Hp) (vs:List V) (Q:VK) (E:XK),ES k (A.deeper (envOfC qual scope s.heap.objs.size f cdv))->sp vs H Q E ->
   ∃t,PSs (bX CX P w K mg base N qual scope f cdv A outer s H E) body t/\t { nx:=fun _ H'=>Q .non H',rt:=Q } (start N vs) H) :
  DS P w K mg base CX (k+1) f (W.fnOf name qual params body scope dV kV doc pm an cdv ct) ps sp:=by
 refine⟨len,fun A outer s H args us vs Q E hr e0 hb r hsp=>?_⟩;have hl:=len _ _ _ _ hsp;have KX:K.In s.heap:=e0.mod.kin.keeps fun b o e=>(e0.bs b o e).1;have lim:s.heap.NoLimit:=e0.mod.nolimit.keeps fun b o e=>(e0.bs b o e).1;have hkind:∀y∈ps.zip us,scope.names.lookup y.1=some .local\/(scope.names.lookup y.1=some .cell/\((cellsFrom (s.heap.objs.size+1) scope.names []).lookup y.1).isSome=true):=fun⟨n,v⟩ hy=>by
  rcases S.par n (Cj hy).1 with q|q
  ·exact .inl q
  ·exact .inr ⟨q,W.cellsFrom_some _ _ _ (.inl q)⟩
 refine codeAny_call_function hr.depth (KX _ _ lk) rfl S.co S.gen rfl (W.codeRec_of KX hcd) (hb _ _ _ _ ?_);refine wpAny_newFunctionEnv_cells S.kind hkind fun env he s1 x=>?_;subst he;refine⟨lim.keeps x.toInCall.keep,codeAny_func ?_⟩;obtain⟨t,ht,hq⟩:=hbody A outer s H vs Q E (hr.deeper _) hsp;have I:Inv (bX CX P w K mg base N qual scope f cdv A outer s H E) [] (start N vs) H s1:=lU S e0 hl r x;refine De (ht [] s1 (start N vs) H _ I hq) (fun fl s' hs=>?_) fun e s' hs=>hs;have fin:∀{σ':St}{H':Hp}{v:V}{u:Value},Inv (bX CX P w K mg base N qual scope f cdv A outer s H E) [] σ' H' s'->RelV v u->Q v H'->CE outer P w H s Q u s':=
  fun {σ' H' v u} J rv q=>⟨v,H',J.os,J.bare,J.base,J.hok,rv,q⟩
 cases fl with
 |ret u=>
  obtain⟨v,σ',H',J,rv,q⟩:=hs;exact fin J rv q
 |next=>
  obtain⟨σ',H',J,q⟩:=hs;exact fin (v:=V.non) (u:=Value.none) J rfl q
 |brk=>
  obtain⟨_,_,_,q⟩:=hs;exact False.elim q
 |cont=>
  obtain⟨_,_,_,q⟩:=hs;exact False.elim q
section
variable {X:Cx}{x:Str}{p pos:Pos}{e:Expr}{es:List Expr}{t:TA}{id T:String}{r:List V->Hp->VK->Prop}
def tCB (r:List V->Hp->VK->Prop)(t:TA):TE:=fun σ H Q=>t σ H fun vs H1=>r vs H1 Q
theorem aG(hc:cb X (.builtin id) r)(hg:Gl X x)(hm:X.mg x=none)(hv:bootBuiltins x=some (.builtin id))(ha:PA X (e::es) t)(hn:x≠"__name__":=by decide)(hdb:(x==("__debug__":Str))=false:=by decide)
  (he:starEach (e::es) X.env=(false,eval e X.env)::starEach es X.env:=by rfl)(hpl:(backTo pos (starEach es X.env)).any (·.1)=false:=by rfl):PE X (.Call (.Name x p) (e::es) [] pos) (tCB r t):=by
 intro pins s σ H Q I h;refine wpAny_Call_Name_kw (dI I hg hm hv ?_ hn hdb);refine PyProof.Rows.callWith_builtin1 (thn (ha pos pins s σ H _ I h) fun us s1 hq41=>?_) he hpl;obtain⟨vs,H1,I1,r1,q1⟩:=hq41;exact hc pins s1 σ H1 vs us Q I1 r1 q1
theorem bW(hc:cb X (.type T) r)(hg:Gl X x)(hm:X.mg x=none)(hv:bootBuiltins x=some (.type T))(ha:PA X (e::es) t)(hn:x≠"__name__":=by decide)(hdb:(x==("__debug__":Str))=false:=by decide)
  (he:starEach (e::es) X.env=(false,eval e X.env)::starEach es X.env:=by rfl)(hpl:(backTo pos (starEach es X.env)).any (·.1)=false:=by rfl):PE X (.Call (.Name x p) (e::es) [] pos) (tCB r t):=by
 intro pins s σ H Q I h;refine wpAny_Call_Name_kw (dI I hg hm hv ?_ hn hdb);refine PyProof.Rows.callWith_type1 (thn (ha pos pins s σ H _ I h) fun us s1 hq42=>?_) he hpl;obtain⟨vs,H1,I1,r1,q1⟩:=hq42;exact hc pins s1 σ H1 vs us Q I1 r1 q1
end
end L2
namespace HT
open PySem PyProof.Rows
def lexLt:List Int->List Int->Bool
 |[],[]=>false
 |[],_::_=>true
 |_::_,[]=>false
 |x::xs,y::ys=>if x=y then lexLt xs ys else decide (x<y)
theorem DY(x y:Int)(xs ys:List Int):lexLt (x::xs) (y::ys)=if x=y then lexLt xs ys else decide (x<y):=rfl
theorem HN(A:Around)(s:Shared)(a:Int)(t:Tok)(c:Int)(u:Tok):∃e,SeqAt.EqAt A s (.int a t) (.int c u) e/\(e=true↔a=c):=
 ⟨(a==c),SeqAt.EqAt.int_int a t c u,by simp⟩
theorem Gv(A:Around)(s:Shared)(a:Int)(t:Tok)(c:Int)(u:Tok)(prog:Program)(w:World)(E:Value->Shared->Prop)(Q:Value->Shared->Prop)(h:Q (.bool (decide (a<c))) s) :
  wpAny (model prog w) A (richCompare .Lt (.int a t) (.int c u)) Q E s:=
 (PyProof.Rows.lt_int h:wpAny (model prog w) A (compareOp .Lt (.int a t) (.int c u)) Q E s)
section
variable {prog:Program}{w:World}{A:Around}{E:Value->Shared->Prop}{s:Shared}
def sIx (n d:Nat):Option Int->Nat
 |none=>d
 |some v=>if v<0 then (v+(n:Int)).toNat else min v.toNat n
theorem Gh(n d:Nat):sIx n d none=d:=rfl
theorem Ho(n d k:Nat):sIx n d (some (k:Int))=min k n:=by
 show(if (k:Int)<0 then ((k:Int)+(n:Int)).toNat else min (k:Int).toNat n)=min k n;rw[CY (by lia),Am]
theorem Ic(n d:Nat)(hd:d<=n)(o:Option Int):sIx n d o<=n:=by
 cases o with
 |none=>exact hd
 |some v=>
  show(if v<0 then (v+(n:Int)).toNat else min v.toNat n)<=n;by_cases hv:v<0
  ·rw[CZ hv];lia
  ·rw[CY hv];exact Cm _ _
end
end HT
namespace L2
open PySem PySem.Spec PyProof.Rows
abbrev TO:=St->Hp->(Option Int->Hp->Prop)->Prop
def PO (X:Cx)(e:Option Expr)(t:TO):Prop:=
 ∀(pins:List (Addr×Obj))(s:Shared)(σ:St)(H:Hp)(Q:Option Int->Hp->Prop),Inv X pins σ H s->t σ H Q ->
  (wq X) (evalPart e X.env) (fun u s'=>∃o H',Inv X pins σ H' s'/\IsPart u o/\Q o H') X.xe s
def IL:TO:=fun _ H Q=>Q none H
def wN (t:TE):TO:=fun σ H Q=>t σ H fun x H1=>∃i,x=.int i/\Q (some i) H1
section
variable {X:Cx}{e:Expr}{te:TE}{lo hi:Option Expr}{tl th:TO}{pos p2:Pos}
theorem Ea:PO X none IL:=by
 intro pins s σ H Q I h;rw[evalPart_none];exact CU ⟨none,H,I,.none,h⟩
theorem bx(h:PE X e te):PO X (some e) (wN te):=by
 intro pins s σ H Q I hw;rw[evalPart_some];refine thn (h pins s σ H _ I hw) fun u s1 hq43=>?_;obtain⟨x,H1,I1,r1,q1⟩:=hq43;obtain⟨i,rfl,q⟩:=q1;obtain⟨t,rfl⟩:=r1;exact⟨some i,H1,I1,.int i t,q⟩
def SlR (X:Cx)(r:V->Option Int->Option Int->Hp->VK->Prop):Prop:=
 ∀(pins:List (Addr×Obj))(s:Shared)(σ:St)(H:Hp)(x:V)(v vl vu:Value)(lo hi:Option Int)(sl:Addr)(Q:VK),Inv X pins σ H s->RelV x v->s.heap.IsSliceOf sl vl vu .none->IsPart vl lo->IsPart vu hi->r x lo hi H Q ->
  ∃T id,typeLookup (.type T) "__getitem__"=pure (some (.builtin id))/\s.TypeIs v T/\(wq X) (getItem v (.ref sl)) (EP X pins σ Q) X.xe s
def tSl (r:V->Option Int->Option Int->Hp->VK->Prop)(te:TE)(tl th:TO):TE:=fun σ H Q=>te σ H fun x H1=>tl σ H1 fun l H2=>th σ H2 fun u H3=>r x l u H3 Q
theorem ba{r:V->Option Int->Option Int->Hp->VK->Prop}(hr:SlR X r)(he:PE X e te)(hl:PO X lo tl)(hu:PO X hi th):PE X (.Subscript e (.Slice lo hi none p2) pos) (tSl r te tl th):=by
 intro pins s σ H Q I h;refine Subscript_ (thn (he pins s σ H _ I h) fun v s1 hq44=>?_);obtain⟨x,H1,I1,r1,q1⟩:=hq44;refine wpAny_Slice (thn (hl pins s1 σ H1 _ I1 q1) fun vl s2 hq45=>?_);obtain⟨l,H2,I2,pl,q2⟩:=hq45;refine thn (hu pins s2 σ H2 _ I2 q2) fun vu s3 ⟨u,H3,I3,pu,q3⟩=>?_;rw[evalPart_none];refine CU ?_;have I4:Inv X pins σ H3 {s3 with heap:=s3.heap.push {cls:=.type "slice",data:=.fields #[vl,vu,.none]}}:=I3.kept (t':=s3.toks) fun b ob q=>Dw _ q;obtain⟨T,id,hT,ht,hg⟩:=hr pins {s3 with heap:=s3.heap.push {cls:=.type "slice",data:=.fields #[vl,vu,.none]}} σ H3 x v vl vu l u s3.heap.objs.size Q I4 r1 (Heap.IsSliceOf.new ..) pl pu q3;show (wq X) (subscriptTail e (.Slice lo hi none p2) v (.ref s3.heap.objs.size)) (EP X pins σ Q) X.xe {s3 with heap:=s3.heap.push {cls:=.type "slice",data:=.fields #[vl,vu,.none]}};exact tail_any (ops:=[.ref s3.heap.objs.size,v]) ht hT hg (by with_unfolding_all rfl)
end
def ixN (n:Nat)(i:Int):Option Nat:=if 0<=i then (if i<n then some i.toNat else none) else if -(n:Int)<=i then some (i+n).toNat else none
def atI {α:Type}(xs:List α)(i:Int):Option α:=(ixN xs.length i).bind fun j=>xs[j]?
theorem my{n:Nat}{i:Int}{j:Nat}(h:ixN n i=some j):seqIndex? i n=some j/\j<n/\-(n:Int)<=i/\i<n:=by
 unfold ixN at h;by_cases h0:0<=i
 ·rw[CZ h0] at h;by_cases h1:i<n
  ·rw[CZ h1] at h;have e:i.toNat=j:=Di h;exact⟨by rw[seqIndex_of h0 h1,e],by lia,by lia,h1⟩
  ·rw[CY h1] at h;cases h
 ·rw[CY h0] at h;by_cases h1:-(n:Int)<=i
  ·rw[CZ h1] at h;have e:(i+n).toNat=j:=Di h;exact⟨by rw[seqIndex_neg (by lia) h1,e],by lia,h1,by lia⟩
  ·rw[CY h1] at h;cases h
theorem jg{α:Type}{xs:List α}{i:Int}{v:α}(h:atI xs i=some v):∃j,seqIndex? i xs.length=some j/\xs[j]?=some v/\j<xs.length/\-(xs.length:Int)<=i/\i<xs.length:=by
 unfold atI at h;cases e:ixN xs.length i with
 |none=>rw[e] at h;cases h
 |some j=>
  rw[e] at h;obtain⟨h1,h2,h3,h4⟩:=my e;exact⟨j,h1,h,h2,h3,h4⟩
theorem bC{α:Type}{xs:List α}{j:Nat}{v:α}(h:xs[j]?=some v):atI xs (j:Int)=some v:=by
 have hj:j<xs.length:=(zL.mp h).1;have e:ixN xs.length (j:Int)=some j:=by
  unfold ixN;rw[CZ (by lia),CZ (by lia)];simp
 unfold atI;rw[e];exact h
def sN (b:Expr):Prop:=∀o i,subscripted b false o i=operate [o,i] (getItem o i)
def IxR (X:Cx)(r:R2):Prop:=
 ∀(value slice:Expr)(pins:List (Addr×Obj))(s:Shared)(σ:St)(H:Hp)(x y:V)(v u:Value)(Q:VK),Inv X pins σ H s->RelV x v->RelV y u->r x y H Q ->
  subscripted slice false v u=operate [v,u] (getItem v u)->(wq X) (subscriptTail value slice v u) (EP X pins σ Q) X.xe s
def MtR (X:Cx)(id:String)(r:V->List V->Hp->VK->Prop):Prop:=
 ∀(pins:List (Addr×Obj))(s:Shared)(σ:St)(H:Hp)(x:V)(xs:List V)(v:Value)(us:List Value)(Q:VK),Inv X pins σ H s->RelV x v->Vals xs us->r x xs H Q ->
  (wq X) (call (.builtin id) (v::us)) (EP X pins σ Q) X.xe s
section
variable {X:Cx}{a b:Expr}{ta tb:TE}{pos:Pos}
theorem aQ{r:R2}(hr:IxR X r)(ha:PE X a ta)(hb:PE X b tb)(hs:sN b):PE X (.Subscript a b pos) (tOp r ta tb):=by
 intro pins s σ H Q I h;exact Subscript_ (vF ha hb I h fun v u s2 x y H2 I2 rx ry q=>hr a b pins s2 σ H2 x y v u Q I2 rx ry q (hs _ _))
def eT (K:W.Frag):R2:=fun x y H Q=>∃p xs i v,x=.ref p/\y=.int i/\SqL K H p xs/\atI xs i=some v/\Q v H
def rF (K:W.Frag):R2:=fun x y H Q=>∃p xs i v,x=.ref p/\y=.int i/\SqT K H p xs/\atI xs i=some v/\Q v H
def rIxS:R2:=fun x y H Q=>∃z i c,x=.str z/\y=.int i/\z.length<=sizeLine/\atI z.cps.toList i=some c/\Q (.str ⟨#[c]⟩) H
theorem DK:IxR X (eT X.K):=by
 intro value slice pins s σ H x y v u Q I rx ry h hs;obtain⟨p,xs,i,z,rfl,rfl,hq,he,q⟩:=h;cases rx;obtain⟨t,rfl⟩:=ry;obtain⟨its,r,pl,hz⟩:=I.list hq;obtain⟨j,h1,h2,h3,h4,h5⟩:=jg he;obtain⟨w,ew,rw'⟩:=r.get h2;have hl:=r.length;have hn:=ER;have fin:EP X pins σ Q w s:=⟨z,H,I,rw',q⟩
 by_cases h0:0<=i
 ·have hj:i.toNat=j:=by
   rw[seqIndex_of h0 h5] at h1;exact Di h1
  exact item_listR pl.isList h0 (by lia) (by rw[hj];simpa using ew) fin hs
 ·have hj:(i+(its.toArray.size:Int)).toNat=j:=by
   rw[seqIndex_neg (by lia) h4] at h1;rw[zY,<- hl];exact Di h1
  exact subscriptTail_builtinR (x:=w) pl.isList.typeIs slot_list_getitem.lookup
   (wpAny_getItem_list_neg (Q:=fun r s'=>r=w/\EP X pins σ Q r s') pl.isList (by lia) (by rw[zY]<;>lia) (by lia) (by rw[hj];simpa using ew) ⟨rfl,fin⟩) hs
theorem Eg:IxR X (rF X.K):=by
 intro value slice pins s σ H x y v u Q I rx ry h hs;obtain⟨p,xs,i,z,rfl,rfl,hq,he,q⟩:=h;cases rx;obtain⟨t,rfl⟩:=ry;obtain⟨its,r,pl,hz⟩:=I.tuple hq;obtain⟨j,h1,h2,h3,h4,h5⟩:=jg he;obtain⟨w,ew,rw'⟩:=r.get h2;have hl:=r.length;have hn:=ER;have fin:EP X pins σ Q w s:=⟨z,H,I,rw',q⟩
 exact subscriptTail_builtinR (x:=w) pl.typeIs slot_tuple_getitem.lookup
  (getItem_tuple (j:=j) (Q:=fun r s'=>r=w/\EP X pins σ Q r s') pl (by lia) (by lia) (by rw[zY,<- hl];exact h1) (by simpa using ew) ⟨rfl,fin⟩) hs
theorem IS:IxR X rIxS:=by
 intro value slice pins s σ H x y v u Q I rx ry h hs;obtain⟨z,i,c,rfl,rfl,hz,he,q⟩:=h;obtain⟨t,rfl⟩:=rx;obtain⟨t',rfl⟩:=ry;obtain⟨j,h1,h2,h3,h4,h5⟩:=jg he;have hl:z.cps.toList.length=z.length:=by simp[Str.length]
 rw[hl] at h1 h4 h5;have hn:=ER
 exact tail_any (typeIs_str s z t) slot_str_getitem.lookup (getItem_str (c:=c) (by
  have e1:decide (i < -(2^63:Int))=false:=Dd (by lia);have e2:decide (i≥2^63)=false:=Dd (by lia)
  rw[e1,e2,Bool.or_false]) (by rw[h1]; simpa using h2) ⟨.str ⟨#[c]⟩,H,I.tok _,⟨_,rfl⟩,q⟩) hs
theorem kN(its:List Value)(n j:Nat)(u:Value):Obj.mapSeq (·.setIfInBounds j u) {cls:=.type "list",data:=.seq its.toArray n}={cls:=.type "list",data:=.seq (its.set j u).toArray n}:=by
 simp[Obj.mapSeq]
theorem Inv.lst{pins:List (Addr×Obj)}{σ:St}{H:Hp}{s:Shared}{p:Addr}{xs:List V}(I:Inv X pins σ H s)(h:H p=some (.lst xs)) :
  ∃(its:List Value)(n:Nat),Vals xs its/\s.heap.get? p=some {cls:=.type "list",data:=.seq its.toArray n}/\xs.length<=sizeLine:=by
 obtain⟨z,its,n,r,e⟩:=I.hok p _ h;exact⟨its,n,r,e,z⟩
theorem Inv.Jp{pins:List (Addr×Obj)}{σ:St}{H:Hp}{s:Shared}{p:Addr}{xs ys:List V}{its its':List Value}{n n':Nat}{f:Obj->Obj}(I:Inv X pins σ H s)(h:H p=some (.lst xs))
  (ho:s.heap.get? p=some {cls:=.type "list",data:=.seq its.toArray n})(hf:f {cls:=.type "list",data:=.seq its.toArray n}={cls:=.type "list",data:=.seq its'.toArray n'})(r:Vals ys its')(hz:ys.length<=sizeLine)(t:Nat) :
  Inv X pins σ (upd H p (.lst ys)) {s with heap:=s.heap.update p f,toks:=t}:=by
 have e:(s.heap.update p f).get? p=some {cls:=.type "list",data:=.seq its'.toArray n'}:=by
  rw[Heap.get?_update_self f ho (by rw[hf]<;>rfl),hf]
 refine I.write (x:=p) (e:=p) (by rw[h];trivial) (.inl rfl) (fun b u hb q=>(Heap.get?_update_other _ _ (Dv hb)).trans q) ⟨_,e⟩ ?_;exact⟨hz,its',n',r,e⟩
def JZ:V->V->V->Hp->(Hp->Prop)->Prop:=fun o i v H Q=>∃p xs k j,o=.ref p/\i=.int k/\H p=some (.lst xs)/\ixN xs.length k=some j/\Q (upd H p (.lst (xs.set j v)))
theorem set_list:xc X JZ:=by
 intro pins s σ H o i v ov iv u Q I ro ri rv h;obtain⟨p,xs,k,j,rfl,rfl,hp,hj,q⟩:=h;cases ro;obtain⟨t,rfl⟩:=ri;obtain⟨its,n,r,ho,hz⟩:=I.lst hp;obtain⟨h1,h2,h3,h4⟩:=my hj;have hl:=r.length;have hn:=ER;have I':Inv X pins σ (upd H p (.lst (xs.set j v))) {s with heap:=s.heap.update p (Obj.mapSeq (·.setIfInBounds j u))}:=
  I.Jp hp ho (kN its n j u) (r.set rv j) (by rw[List.length_set];exact hz) s.toks
 by_cases h0:0<=k
 ·have hk:k.toNat=j:=by
   rw[seqIndex_of h0 h4] at h1;exact Di h1
  exact W.ki_setAt ho h0 (by lia) (by rw[zY,<- hl];exact h4) (by rw[hk];exact⟨_,I',q⟩)
 ·have hk:(k+(its.toArray.size:Int)).toNat=j:=by
   rw[seqIndex_neg (by lia) h3] at h1;rw[zY,<- hl];exact Di h1
  exact W.ki_setBack ho (by lia) (by rw[zY,<- hl];exact h3) (by lia) (by rw[hk];exact⟨_,I',q⟩)
def EY:V->Bool
 |.non=>true
 |.bl _=>true
 |.int _=>true
 |.str _=>true
 |_=>false
def eqV:V->V->Bool
 |.non,.non=>true
 |.bl a,.bl b=>a==b
 |.bl a,.int b=>(if a then 1 else 0)==b
 |.int a,.bl b=>a==(if b then 1 else 0)
 |.int a,.int b=>a==b
 |.str a,.str b=>a==b
 |_,_=>false
theorem vB{A:Around}{s:Shared}{y x:V}{u v:Value}(ry:RelV y u)(rx:RelV x v)(fy:EY y=true)(fx:EY x=true):SeqAt.EqAt A s u v (eqV y x):=by
 cases y with
 |non=>
  cases ry;cases x with
  |non=>cases rx;exact SeqAt.EqAt.same _
  |bl b=>cases rx;exact SeqAt.EqAt.none_bool b
  |int b=>obtain⟨t,rfl⟩:=rx;exact SeqAt.EqAt.none_int b t
  |str b=>obtain⟨t,rfl⟩:=rx;exact SeqAt.EqAt.none_str b t
  |_=>exact absurd (show false=true from fx) Ag
 |bl a=>
  cases ry;cases x with
  |non=>cases rx;exact SeqAt.EqAt.bool_none a
  |bl b=>cases rx;exact SeqAt.EqAt.bool_bool a b
  |int b=>obtain⟨t,rfl⟩:=rx;exact SeqAt.EqAt.bool_int a b t
  |str b=>obtain⟨t,rfl⟩:=rx;exact SeqAt.EqAt.bool_str a b t
  |_=>exact absurd (show false=true from fx) Ag
 |int a=>
  obtain⟨t',rfl⟩:=ry;cases x with
  |non=>cases rx;exact SeqAt.EqAt.int_none a t'
  |bl b=>cases rx;exact SeqAt.EqAt.int_bool a t' b
  |int b=>obtain⟨t,rfl⟩:=rx;exact SeqAt.EqAt.int_int a t' b t
  |str b=>obtain⟨t,rfl⟩:=rx;exact SeqAt.EqAt.int_str a t' b t
  |_=>exact absurd (show false=true from fx) Ag
 |str a=>
  obtain⟨t',rfl⟩:=ry;cases x with
  |non=>cases rx;exact SeqAt.EqAt.str_none a t'
  |bl b=>cases rx;exact SeqAt.EqAt.str_bool a t' b
  |int b=>obtain⟨t,rfl⟩:=rx;exact SeqAt.EqAt.str_int a t' b t
  |str b=>obtain⟨t,rfl⟩:=rx;exact SeqAt.EqAt.str_str a t' b t
  |_=>exact absurd (show false=true from fx) Ag
 |_=>exact absurd (show false=true from fy) Ag
def eqU (x:V)(u:Value):Bool:=match u with
 |.none=>eqV .non x
 |.bool b=>eqV (.bl b) x
 |.int i _=>eqV (.int i) x
 |.str z _=>eqV (.str z) x
 |_=>false
theorem qW{x y:V}{u:Value}(r:RelV y u)(f:EY y=true):eqU x u=eqV y x:=by
 cases y with
 |non=>cases r;rfl
 |bl b=>cases r;rfl
 |int i=>obtain⟨t,rfl⟩:=r;rfl
 |str z=>obtain⟨t,rfl⟩:=r;rfl
 |_=>exact absurd (show false=true from f) Ag
theorem jA{x:V}:∀{xs:List V}{us:List Value},Vals xs us->xs.all EY=true->us.any (eqU x)=xs.any fun y=>eqV y x
 |_,_,.nil,_=>rfl
 |y::xs,u::us,.cons r t,f=>by
  rw[BO,Au] at f;rw[Bb,Bb,qW r f.1,jA t f.2]
theorem gu{A:Around}{s:Shared}{x:V}{v:Value}(rx:RelV x v)(fx:EY x=true):∀{xs:List V}{us:List Value},Vals xs us->xs.all EY=true->∀u∈us,SeqAt.EqAt A s u v (eqU x u)
 |_,_,.nil,_=>fun u hu=>by cases hu
 |y::xs,u::us,.cons r t,f=>fun u' hu=>by
  rw[BO,Au] at f;rcases zU.mp hu with rfl|hu
  ·rw[qW r f.1];exact vB r rx f.1 fx
  ·exact gu rx fx t f.2 u' hu
def inV (x:V)(xs:List V):Bool:=xs.any fun y=>eqV y x
def rIn (K:W.Frag)(neg:Bool):R2:=fun x y H Q=>∃p xs,y=.ref p/\(SqL K H p xs\/SqT K H p xs)/\EY x=true/\xs.all EY=true/\Q (.bl (if neg then !inV x xs else inV x xs)) H
theorem ET:OpR X (compareOp .In) (rIn X.K false):=by
 intro pins s σ H x y v u Q I rx ry h;obtain⟨p,xs,rfl,hq,fx,fs,q⟩:=h;cases ry;rcases hq with hq|hq
 ·obtain⟨its,r,pl,hz⟩:=I.list hq;refine SeqAt.in_listAt (eqU x) pl.isList (fun w hw=>gu rx fx r fs w (by simpa using hw)) ⟨.bl _,H,I,rfl,?_⟩;rw[show its.toArray.any (eqU x)=its.any (eqU x) by simp,jA r fs];exact q
 ·obtain⟨its,r,pl,hz⟩:=I.tuple hq;refine SeqAt.in_tupleAt (eqU x) pl (fun w hw=>gu rx fx r fs w (by simpa using hw)) ⟨.bl _,H,I,rfl,?_⟩;rw[show its.toArray.any (eqU x)=its.any (eqU x) by simp,jA r fs];exact q
theorem DQ:cb X (.builtin "len") (fun xs H Q=>∃p ys,xs=[.ref p]/\(SqL X.K H p ys\/SqT X.K H p ys)/\Q (.int ys.length) H):=by
 intro pins s σ H xs us Q I r h;obtain⟨p,ys,rfl,hq,q⟩:=h;obtain⟨u,rfl,rx⟩:=dB r;cases rx;have hn:=ER;rcases hq with hq|hq
 ·obtain⟨its,r',pl,hz⟩:=I.list hq;have hlen:=r'.length;exact Calls.call_len_list pl.isList (by simp only[zY]<;>lia) ⟨.int ys.length,H,I.tok _,⟨s.toks+1,by rw[zY,hlen]⟩,q⟩
 ·obtain⟨its,r',pl,hz⟩:=I.tuple hq;have hlen:=r'.length;exact len_tuple pl (by simp only[zY]<;>lia) ⟨.int ys.length,H,I.tok _,⟨s.toks+1,by rw[zY,hlen]⟩,q⟩
theorem DJ:cb X (.builtin "len") (fun xs H Q=>∃z,xs=[.str z]/\z.length<=sizeLine/\Q (.int z.length) H):=by
 intro pins s σ H xs us Q I r h;obtain⟨z,rfl,hz,q⟩:=h;obtain⟨u,rfl,t,rfl⟩:=dB r;have hn:=ER;exact len_str (by lia) ⟨.int z.length,H,I.tok _,⟨_,rfl⟩,q⟩
theorem Ej:cb X (.type "list") (fun xs H Q=>∃p ys,xs=[.ref p]/\(SqL X.K H p ys\/SqT X.K H p ys)/\∀l,H l=none->Q (.ref l) (upd H l (.lst ys))):=by
 intro pins s σ H xs us Q I r h;obtain⟨p,ys,rfl,hq,q⟩:=h;obtain⟨u,rfl,rx⟩:=dB r;cases rx;have fin:∀(its:List Value),Vals ys its->ys.length<=sizeLine->∀(h':Heap)(c':Nat),(∀b o',s.heap.get? b=some o'->h'.get? b=some o') ->
   h'.get? s.heap.objs.size=some {cls:=.type "list",dict:=none,data:=.seq its.toArray c',slots:=#[]}->EP X pins σ Q (.ref s.heap.objs.size) {s with heap:=h'}:=fun its r' hz h' c' kp e=>
  ⟨.ref s.heap.objs.size,_,I.laid (t':=s.toks) kp (zE _) (show Ed X.prog X.w _ h' _ (.lst ys) from⟨hz,its,c',r',e⟩),rfl,q _ (I.hok.fresh (zE _))⟩
 rcases hq with hq|hq
 ·obtain⟨its,r',pl,hz⟩:=I.list hq;have hlen:=r'.length;obtain⟨o,ho,hc,n,hd⟩:=pl.isList;exact call_list_seq p (.inl rfl) ho hc hd (fun h' c' kp e=>fin its r' hz h' c' kp e) (by simp only[zY]<;>lia)
 ·obtain⟨its,r',pl,hz⟩:=I.tuple hq;have hlen:=r'.length;obtain⟨o,ho,hc,n,hd⟩:=pl;exact call_list_seq p (.inr rfl) ho hc hd (fun h' c' kp e=>fin its r' hz h' c' kp e) (by simp only[zY]<;>lia)
theorem Fq:cb X (.type "tuple") (fun xs H Q=>∃p ys,xs=[.ref p]/\((SqL X.K H p ys/\∀l,H l=none->Q (.ref l) (upd H l (.tup ys)))\/(SqT X.K H p ys/\Q (.ref p) H))):=by
 intro pins s σ H xs us Q I r h;obtain⟨p,ys,rfl,h⟩:=h;obtain⟨u,rfl,rx⟩:=dB r;cases rx;rcases h with ⟨hq,q⟩|⟨hq,q⟩
 ·obtain⟨its,r',pl,hz⟩:=I.list hq;have hlen:=r'.length;refine call_tuple_list pl.isList (fun h' kp=>?_) (by simp only[zY]<;>lia);have I1:Inv X pins σ H {s with heap:=h'}:=I.kept (t':=s.toks) kp;have I2:Inv X pins σ (upd H h'.objs.size (.tup ys)) {s with heap:=h'.push {cls:=.type "tuple",data:=.seq its.toArray}}:=
   I1.laid (t':=s.toks) (fun b o e=>Dw _ e) (zE _) (show Ed X.prog X.w _ _ _ (.tup ys) from⟨hz,its,r',IsTup.new _ _⟩)
  exact⟨.ref h'.objs.size,_,I2,rfl,q _ (I1.hok.fresh (zE _))⟩
 ·obtain⟨its,r',pl,hz⟩:=I.tuple hq;exact call_tuple_same pl ⟨.ref p,H,I,rfl,q⟩
def tyV (K:W.Frag)(T:String)(x:V)(H:Hp):Prop:=match x with
 |.str _=>T="str"
 |.int _=>T="int"
 |.ref p=>(T="list"/\∃xs,SqL K H p xs)\/(T="tuple"/\∃o,K.lookup p=some o/\o.cls=.type "tuple"/\o.dict=none) \/
   (T="dict"/\((∃kvs,H p=some (.dK kvs))\/∃kvs,H p=some (.dT kvs)))\/(T="set"/\∃S n,H p=some (.set S n))
 |_=>False
theorem qQ{pins:List (Addr×Obj)}{σ:St}{H:Hp}{s:Shared}{T:String}{x:V}{v:Value}(I:Inv X pins σ H s)(r:RelV x v)(ty:tyV X.K T x H) :
  s.TypeIs v T/\∀a,v=.ref a->∃ob,s.heap.get? a=some ob/\ob.dict=none:=by
 cases x with
 |str z=>
  obtain⟨t,rfl⟩:=r;cases (show T="str" from ty);exact⟨typeIs_str s z t,fun _ e=>nomatch e⟩
 |int i=>
  obtain⟨t,rfl⟩:=r;cases (show T="int" from ty);exact⟨typeIs_int s i t,fun _ e=>nomatch e⟩
 |ref p=>
  cases r;rcases ty with ⟨rfl,xs,hq⟩|⟨rfl,o,hk,hc,hd⟩|⟨rfl,hk⟩|⟨rfl,S,n,hk⟩
  ·obtain⟨its,_,pl,_⟩:=I.list hq;refine⟨pl.isList.typeIs,fun a e=>?_⟩;cases e;obtain⟨o,n,e,c,hd,_⟩:=pl;exact⟨o,e,hd⟩
  ·refine⟨⟨o,I.kIn p o hk,hc⟩,fun a e=>?_⟩;cases e;exact⟨o,I.kIn _ o hk,hd⟩
  ·have z:∃o,s.heap.get? p=some o/\o.ExactDict:=by
    rcases hk with ⟨kvs,hk⟩|⟨kvs,hk⟩
    ·obtain⟨_,_,_,_,o,_,_,e,ex,_⟩:=I.hok p _ hk;exact⟨o,e,ex⟩
    ·obtain⟨_,_,_,_,o,_,_,e,ex,_⟩:=I.hok p _ hk;exact⟨o,e,ex⟩
   obtain⟨o,e,ex⟩:=z;refine⟨⟨o,e,ex.1⟩,fun a e2=>?_⟩;cases e2;exact⟨o,e,ex.2.1⟩
  ·obtain⟨o,_,_,_,e,ex,_⟩:=I.hok p _ hk;refine⟨⟨o,e,ex.1⟩,fun a e2=>?_⟩;cases e2;exact⟨o,e,ex.2.1⟩
 |_=>exact False.elim ty
def tBM0 (K:W.Frag)(T:String)(r:V->List V->Hp->VK->Prop)(to:TE):TE:=fun σ H Q=>to σ H fun x H1=>tyV K T x H1/\r x [] H1 Q
def tBM (K:W.Frag)(T:String)(r:V->List V->Hp->VK->Prop)(to:TE)(t:TA):TE:=fun σ H Q=>to σ H fun x H1=>tyV K T x H1/\t σ H1 fun xs H2=>r x xs H2 Q
variable {o e:Expr}{es:List Expr}{to:TE}{t:TA}{name:Str}{apos cpos:Pos}{T id:String}{r:V->List V->Hp->VK->Prop}
theorem uA(pa:PlainAttrs T)(slot:Slot T name id)(hty:typeOf (.builtin id)=pure (.type "method_descriptor"))(hm:MtR X id r)(ho:PE X o to)
  (hbase:attributeBase o name X.env (eval o X.env)=eval o X.env:=by rfl)(hline:(apos.endLine==cpos.line)=true:=by rfl):PE X (.Call (.Attribute o name apos) [] [] cpos) (tBM0 X.K T r to):=by
 intro pins s σ H Q I h;refine wpAny_Call_method0_late hbase hline (thn (ho pins s σ H _ I h) fun v s1 hq46=>?_);obtain⟨x,H1,I1,r1,ty,q1⟩:=hq46;obtain⟨h1,h2⟩:=qQ I1 r1 ty;exact⟨T,id,pa,slot,hty,h1,h2,Calls.callWith_builtin rfl (PySem.evalArgs_none (hm pins s1 σ H1 x [] v [] Q I1 r1 .nil q1))⟩
theorem fG(pa:PlainAttrs T)(slot:Slot T name id)(hty:typeOf (.builtin id)=pure (.type "method_descriptor"))(hm:MtR X id r)(ho:PE X o to)(ha:PA X (e::es) t)
  (hbase:attributeBase o name X.env (eval o X.env)=eval o X.env:=by rfl)
  (hfew:((backTo cpos (starEach (e::es) X.env)).all (fun x=>!x.1) && (backToKw cpos (keywordEach [] X.env)).all (fun x=>x.1.isSome)
   && decide ((e::es).length+([]:List Keyword).length+(if ([]:List Keyword).isEmpty then 0 else 1) < 30))=true:=by rfl)
  (hline:(apos.endLine==cpos.line)=true:=by rfl) (hs:starEach (e::es) X.env=(false,eval e X.env)::starEach es X.env:=by rfl) (hplain:(backTo cpos (starEach es X.env)).any (·.1)=false:=by rfl) :
  PE X (.Call (.Attribute o name apos) (e::es) [] cpos) (tBM X.K T r to t):=by
 intro pins s σ H Q I h;refine wpAny_Call_method_late hbase hfew hline rfl (thn (ho pins s σ H _ I h) fun v s1 hq47=>?_);obtain⟨x,H1,I1,r1,ty,q1⟩:=hq47;obtain⟨h1,h2⟩:=qQ I1 r1 ty;refine⟨T,id,pa,slot,hty,h1,h2,?_⟩;have hA:=ha cpos pins s1 σ H1 _ I1 q1;rw[hs] at hA ⊢;refine Calls.callWith_builtin (by show(false||(backTo cpos (starEach es X.env)).any (·.1))=false;rw[hplain]<;>rfl) (Calls.evalArgs_plain ?_);refine thn hA fun us s2 hq48=>?_;obtain⟨vs,H2,I2,r2,q2⟩:=hq48;exact hm pins s2 σ H2 x vs v us Q I2 r1 r2 q2
end
def MtM (X:Cx)(id:String)(r:V->List V->Hp->VK->Prop):Prop:=
 ∀(pins:List (Addr×Obj))(s:Shared)(σ:St)(H:Hp)(x:V)(xs:List V)(v:Value)(us:List Value)(Q:VK),Inv X pins σ H s->RelV x v->Vals xs us->r x xs H Q ->
  (wq X) (call (.builtin id) (v::us)) (EP X pins σ Q) X.xe s
theorem Vals.one:∀{x:V}{us:List Value},Vals [x] us->∃u,us=[u]/\RelV x u
 |_,_,.cons r .nil=>⟨_,rfl,r⟩
theorem Vals.zero:∀{us:List Value},Vals [] us->us=[]
 |_,.nil=>rfl
theorem Vals.dropLast{xs:List V}{us:List Value}(h:Vals xs us):Vals xs.dropLast us.dropLast:=by
 induction h with
 |nil=>exact .nil
 |cons r t ih=>
  cases t with
  |nil=>exact .nil
  |cons q t'=>exact .cons r ih
theorem Vals.eraseIdx:∀{xs:List V}{us:List Value}(i:Nat),Vals xs us->Vals (xs.eraseIdx i) (us.eraseIdx i)
 |_,_,_,.nil=>.nil
 |_,_,0,.cons _ t=>t
 |_,_,i+1,.cons r t=>.cons r (Vals.eraseIdx i t)
theorem lM{α:Type}(l:List α):l.eraseIdx (l.length-1)=l.dropLast:=by
 induction l with
 |nil=>rfl
 |cons a r ih=>
  cases r with
  |nil=>rfl
  |cons b r=>
   have e:(a::b::r).length-1=((b::r).length-1)+1:=by
    have h1:(a::b::r).length=r.length+2:=rfl;have h2:(b::r).length=r.length+1:=rfl;lia
   rw[e,List.eraseIdx_cons_succ,ih]
   all_goals rfl
section
variable {X:Cx}{pins:List (Addr×Obj)}{σ:St}{H:Hp}{s:Shared}{l b:Addr}{xs ys zs:List V}
theorem Inv.JI{its its':List Value}{n:Nat}{f:Array Value->Array Value}{t':Nat}(I:Inv X pins σ H s)(hH:H l=some (.lst xs))
  (e:s.heap.get? l=some {cls:=.type "list",data:=.seq its.toArray n})(hf:f its.toArray=its'.toArray)(hv:Vals ys its')(hz:ys.length<=sizeLine) :
  Inv X pins σ (upd H l (.lst ys)) {s with heap:=s.heap.update l (Obj.mapSeq f),toks:=t'}:=by
 have q:=PySem.IsL.update e f;rw[hf] at q;refine I.write (x:=l) (e:=l) (by rw[hH];exact trivial) (.inl rfl) (fun b' u hb hu=>(Heap.get?_update_other s.heap (Obj.mapSeq f) (Dv hb)).trans hu) ⟨_,q⟩ ?_;exact⟨hz,its',_,hv,q⟩
theorem Inv.lnew{its:List Value}{t':Nat}(I:Inv X pins σ H s)(hv:Vals ys its)(hz:ys.length<=sizeLine) :
  Inv X pins σ (upd H s.heap.objs.size (.lst ys)) {s with heap:=s.heap.push {cls:=.type "list",data:=.seq its.toArray},toks:=t'}:=
 I.laid (fun _ _ q=>Dw _ q) (zE _) ⟨hz,its,0,hv,Dx _ rfl⟩
theorem Inv.fresh(I:Inv X pins σ H s):H s.heap.objs.size=none:=I.hok.fresh (zE _)
theorem Inv.Hz(I:Inv X pins σ H s)(hH:H l=some (.lst xs)):xs.length<=sizeLine/\∃(its:List Value)(n:Nat),Vals xs its/\xs.length=its.length/\s.heap.get? l=some {cls:=.type "list",data:=.seq its.toArray n}:=by
 obtain⟨z,its,n,r,e⟩:=I.hok l _ hH;exact⟨z,its,n,r,r.length,e⟩
theorem qC{n:Nat}(h:n<=sizeLine):Builtin.List.listTooLong n=false:=by
 unfold Builtin.List.listTooLong;exact Dd (by lia)
end
section
variable {X:Cx}
def GW:V->List V->Hp->VK->Prop:=fun x vs H Q=>∃l xs y,x=.ref l/\vs=[y]/\H l=some (.lst xs)/\xs.length<sizeLine/\Q .non (upd H l (.lst (xs++[y])))
theorem FG:MtM X "list.append" GW:=by
 intro pins s σ H x vs v us Q I rx rv h;obtain⟨l,xs,y,rfl,rfl,hH,hz,q⟩:=h;cases rx;obtain⟨u,rfl,ru⟩:=rv.one;obtain⟨z,its,n,r,hl,e⟩:=I.Hz hH;refine call_meets F.slot_list_append ⟨_,e,rfl⟩ F.entry_list_append (F.args_list_append_2 _ _) (PySem.list_append l its.toArray n u (by rw[zY];lia)) ⟨e,?_⟩;refine⟨.non,_,I.JI (its':=its++[u]) hH e (by simp) (r.append (.cons ru .nil)) ?_,rfl,q⟩;rw[zG,List.length_singleton];lia
def IB:V->List V->Hp->VK->Prop:=fun x vs H Q=>∃l b xs zs,x=.ref l/\vs=[.ref b]/\H l=some (.lst xs)/\H b=some (.lst zs)/\xs.length+zs.length<=sizeLine/\Q .non (upd H l (.lst (xs++zs)))
theorem GP:MtM X "list.extend" IB:=by
 intro pins s σ H x vs v us Q I rx rv h;obtain⟨l,b,xs,zs,rfl,rfl,hH,hB,hz,q⟩:=h;cases rx;obtain⟨u,rfl,ru⟩:=rv.one;cases ru;obtain⟨z,its,n,r,hl,e⟩:=I.Hz hH;obtain⟨z2,its2,n2,r2,hl2,e2⟩:=I.Hz hB;have hsz:its.toArray.size+its2.toArray.size<=sizeLine:=by rw[zY,zY];lia
 have hlong:¬(!its.toArray.isEmpty&&Builtin.List.listTooLong (its.toArray.size+its2.toArray.size))=true:=by
  rw[qC hsz,Bool.and_false];exact Ag
 refine call_meets F.slot_list_extend ⟨_,e,rfl⟩ F.entry_list_extend (F.args_list_extend_2 _ _)
  (AutoSeq1.list_extend_list_list_0 l its.toArray n b its2.toArray n2 hlong (by rw[zY];lia) (by lia)) ⟨e,e2,?_⟩
 refine⟨.non,_,I.JI (its':=its++its2) hH e (by simp) (r.append r2) ?_,rfl,q⟩;rw[zG];lia
def rPop:V->List V->Hp->VK->Prop:=fun x vs H Q=>∃l xs y,x=.ref l/\vs=[]/\H l=some (.lst xs)/\xs[xs.length-1]?=some y/\Q y (upd H l (.lst xs.dropLast))
theorem Ja:MtM X "list.pop" rPop:=by
 intro pins s σ H x vs v us Q I rx rv h;obtain⟨l,xs,y,rfl,rfl,hH,hy,q⟩:=h;cases rx;have hus:=rv.zero;subst hus;obtain⟨z,its,n,r,hl,e⟩:=I.Hz hH;obtain⟨u,hu,ru⟩:=r.get hy;have hy':its.toArray[its.toArray.size-1]?=some u:=by
  show its.toArray[its.length-1]?=some u;rw[<- Ab,<- hl];exact hu
 refine call_meets F.slot_list_pop ⟨_,e,rfl⟩ F.entry_list_pop (F.args_list_pop_1 _) (MeetsSeq.list_pop_last l its.toArray n u hy' (by rw[zY];lia)) ⟨e,?_⟩;refine⟨y,_,I.JI (its':=its.dropLast) hH e ?_ r.dropLast ?_,ru,q⟩
 ·show its.toArray.eraseIdxIfInBounds (its.toArray.size-1)=its.dropLast.toArray;rw[zY,List.eraseIdxIfInBounds_toArray,lM]
 ·rw[List.length_dropLast];lia
def rCat:R2:=fun x y H Q=>∃l b xs zs,x=.ref l/\y=.ref b/\H l=some (.lst xs)/\H b=some (.lst zs)/\xs.length+zs.length<=sizeLine/\∀p,H p=none->Q (.ref p) (upd H p (.lst (xs++zs)))
theorem Fy:OpR X (binaryOp .Add) rCat:=by
 intro pins s σ H x y v u Q I rx ry h;obtain⟨l,b,xs,zs,rfl,rfl,hH,hB,hz,q⟩:=h;cases rx;cases ry;obtain⟨z,its,n,r,hl,e⟩:=I.Hz hH;obtain⟨z2,its2,n2,r2,hl2,e2⟩:=I.Hz hB;refine PySem.P.add_list e e2 ?_ (by rw[zY,zY];lia);have ea:its.toArray++its2.toArray=(its++its2).toArray:=by simp
 rw[ea];exact⟨.ref _,_,I.lnew (t':=s.toks) (r.append r2) (by rw[zG];lia),rfl,q _ I.fresh⟩
end
end L2
namespace Att
open PySem PySem.W PySem.Calls PyProof.Rows
theorem fv{P:Params}{h:Heap}:∀(ns:List Int)(vs:List Value),WellAll P h vs (ns.map WData.int)->IntsAre vs ns:=by
 intro ns;induction ns with
 |nil=>
  intro vs w;rw[List.map_nil] at w;cases w;exact .nil
 |cons n ns ih=>
  intro vs w;rw[zZ] at w;cases w with
  |cons a b=>
   cases a;exact .cons _ _ (ih _ b)
theorem lR{l:OpenLaw}{n:Nat}(hn:l.most=some n){P:Params}{h:Heap}{args:List WData}{vals:List Value}
  (hpre:l.row.toRowW.claim.pre args=true)(hwl:WellAll P h vals args) :
  ∃a vs ns,vals=[Value.ref a]/\args=[WData.list (ns.map WData.int)]/\h.get? a=some {cls:=.type "list",data:=.seq vs.toArray}/\IntsAre vs ns/\ns.length<=n:=by
 have hsh:WShape.hasAll [] args [.list .int]=true:=(pre_splitW hpre).1;have hc:l.pre.holds [] {args:=args}=true:=(pre_splitW hpre).2;obtain⟨d,r,rfl,h1,h2⟩:=hasAllW_cons hsh;obtain rfl:=hasAllW_nil h2;obtain⟨xs,rfl,h3⟩:=hasW_list h1;obtain⟨ns,rfl⟩:=items_int h3;have hlen:ns.length<=n:=by
  unfold OpenLaw.pre at hc;have h4:(WTm.not (.lt (.lit (.int (n:Int))) (.len (.arg 0)))).holds [] {args:=[.list (ns.map .int)]}=true:=by
   have h4:=(holds_andW hc).1;rw[hn] at h4;exact h4
  have h5:=condW_of h4 (w_not (w_lt w_lit (w_len_list (w_arg rfl))));rw[zF] at h5;refine Co fun q=>?_;have q':(n:Int)<((ns.length:Nat):Int):=by lia
  first
   |(rw[Dc q'] at h5;exact absurd h5 (by decide))
   |(simp at h5;lia)
 cases hwl with
 |cons w1 w2=>
  cases w2;cases w1 with
  |list ho hall=>exact⟨_,_,ns,rfl,rfl,ho,fv ns _ hall,hlen⟩
theorem mM(l:OpenLaw)(args:List WData):l.row.toRowW.claim.post args (.bool true) args=true:=
 postW_of (r:=l.row.toRowW) (X:=(true==true))
  (show WShape.has [] (.bool true) .bool=true by first|rfl|decide|simp[WShape.has,WShape.arms,WShape.armsAll])
  (show(WTm.eq .res (.lit (.bool true))).value [] {args:=args,res:=some (.bool true),after:=args}=some (.bool (true==true)) from w_eq_bool (w_res rfl) w_lit) rfl
theorem FV{l:OpenLaw}{n:Nat}{q:Program}{loose:List Str}{XP:(Str->Option Value)->Heap->Prop}{YP:World->Heap->Prop}{d:DefRec}
  (hn:l.most=some n)(hdf:d.params.defaults=[])
  (call:∀(w:World) (s₀ s₁:Shared) (mg mb:Str->Option Value) (fa:Addr) (o:Obj) (pm cd doc:Value) (a:Addr) (vs:List Value) (ns:List Int),
   Ground q loose [] XP w s₀ mg mb s₁.heap->YP w s₁.heap ->
   s₁.heap.get? fa=some o->o.data=.func (docDef d.name d.params d.body d.scope pm cd doc)->s₁.heap.CodeRec cd d.name->mg d.name=some (.ref fa) ->
   s₁.heap.get? a=some {cls:=.type "list",data:=.seq vs.toArray}->IntsAre vs ns->ns.length<=n->s₁.gens=#[] ->
   codeAny (model l.prog w) callerA (.call (.ref fa) ⟨[.ref a],[]⟩) (fun r s'=>r=.ok (.ret (.bool true))/\OldK s₁.heap s'.heap/\s'.os=s₁.os/\AllBare s'.gens) s₁) :
  WalkO q loose XP YP l.row.toRowW d [] (fun f vs=>PySem.call f vs):=by
 intro w s₀ s₁ mg mb G Y fa o pm cd doc dV kV ho hd hcd hD hmg hg args vals as hpre hlay hrd hwl hlo;obtain rfl:dV=.none:=Dflts.none hD hdf;obtain rfl:kV=.none:=Dflts.noKw hD;obtain⟨a,vs,ns,rfl,rfl,hobj,hints,hlen⟩:=lR hn hpre hwl;refine enter_call (codeAny_mono (call w s₀ s₁ mg mb fa o pm cd doc a vs ns G Y ho (fd_plain hd) hcd hmg hobj hints hlen hg) fun r s' hq=>?_);obtain⟨rfl,h2,h3,h4⟩:=hq;exact⟨.inl ⟨.bool true,.bool true,[],rfl,fun _=>rfl,.bool true,mM l _,fun _=>⟨List.Pairwise.nil,fun _ hm=>(nomatch hm)⟩⟩,h2,h3,h4⟩
end Att
namespace L2
open PySem PySem.Spec PyProof.Rows
theorem FC:∀{vs:List Value}{ns:List Int},IntsAre vs ns->Vals (ns.map V.int) vs
 |_,_,.nil=>.nil
 |_,_,.cons n t h=>.cons ⟨t,rfl⟩ (FC h)
def bU (s:Stmt):Arguments:=match s with
 |.FunctionDef _ a _ _ _ _ _ _ _ _=>a
 |_=>{posonlyargs:=[],args:=[],vararg:=none,kwonlyargs:=[],kw_defaults:=[],kwarg:=none,defaults:=[]}
def bI (s:Stmt):List Stmt:=match s with
 |.FunctionDef _ _ b _ _ _ _ _ _ _=>b
 |_=>[]
def av (s:Stmt):Scope:=match s with
 |.FunctionDef _ _ _ _ _ _ sc _ _ _=>sc
 |_=>{kind:=.function,names:=[],isGenerator:=false,isCoroutine:=false}
abbrev CX0:CXT:=fun _ _ _ _ _ _=>False
abbrev E0:XK:=fun _ _ _=>False
theorem tV{X:Cx}:ng CX0 X E0:=fun _ _ _ _ _ _ _ h=>h.elim
structure Fun(K:W.Frag)(x qual:Str)(st:Stmt)(f:Addr)(fd:FuncData):Prop where
 ex:∃(oc:Value)(od:Option Addr)(kV doc pm:Value)(an:Option Addr)(cdv ct:Value)(osl:Array (Option Value)),
  fd=W.fnOf x qual (bU st) (bI st) (av st) .none kV doc pm an cdv ct/\K.lookup f=some ⟨oc,od,.func fd,osl⟩/\W.codeIn K cdv qual=true
 kp:W.keepIn K (.ref f)=true
section
variable {P:Program}{w:World}{K:PySem.W.Frag}{mg:Str->Option Value}{base:Heap}
theorem Fun.ok{x qual:Str}{st:Stmt}{f:Addr}{fd:FuncData}{N ps:List Str}{k:Nat}{sp:Sp}(F:Fun K x qual st f fd)(S:DN N ps (av st))(len:∀vs H Q E,sp vs H Q E->vs.length=ps.length)
  (hbody:∀(cdv:Value) (A:Around) (outer:List Env) (s:Shared) (H:Hp) (vs:List V) (Q:VK) (E:XK),ES k (A.deeper (envOfC qual (av st) s.heap.objs.size f cdv))->sp vs H Q E ->
   ∃t,PSs (bX CX0 P w K mg base N qual (av st) f cdv A outer s H E).nox (bI st) t/\t { nx:=fun _ H'=>Q .non H',rt:=Q } (start N vs) H):DS P w K mg base CX0 (k+1) f fd ps sp:=by
 obtain⟨oc,od,kV,doc,pm,an,cdv,ct,osl,rfl,lk,hcd⟩:=F.ex;refine vh lk hcd S len fun A outer s H vs Q E hr hsp=>?_;obtain⟨t,h,q⟩:=hbody cdv A outer s H vs Q E hr hsp;exact⟨t,h.nox,q⟩
theorem Fun.binds{x qual:Str}{st:Stmt}{f:Addr}{fd:FuncData}{ps:List Str}(F:Fun K x qual st f fd)
  (h:∀(kV doc pm:Value)(an:Option Addr)(cdv ct:Value)(us:List Value),us.length=ps.length->bindArgs (W.fnOf x qual (bU st) (bI st) (av st) .none kV doc pm an cdv ct) ⟨us,[]⟩=pure (ps.zip us)):Binds K fd ps []:=by
 obtain⟨oc,od,kV,doc,pm,an,cdv,ct,osl,rfl,lk,hcd⟩:=F.ex;exact .all (h kV doc pm an cdv ct)
theorem oo{x qual:Str}{st:Stmt}{f:Addr}{oc:Value}{od an:Option Addr}{osl:Array (Option Value)}{kV doc pm cdv ct:Value}(l:K.lookup f=some ⟨oc,od,.func (W.fnOf x qual (bU st) (bI st) (av st) .none kV doc pm an cdv ct),osl⟩)
  (c:W.codeIn K cdv qual=true)(k:W.keepIn K (.ref f)=true):Fun K x qual st f (W.fnOf x qual (bU st) (bI st) (av st) .none kV doc pm an cdv ct):=⟨⟨oc,od,kV,doc,pm,an,cdv,ct,osl,rfl,l,c⟩,k⟩
end
theorem eG{A:Around}{k:Nat}(hr:ES k A):A.units+1<cLine:=Bc (Nat.add_le_add_left (by decide:1<=64) _) hr.units
section
variable {X:Cx}
theorem pv(i:Nat){x:Str}{pos:Pos}(hN:X.N[i]?=some x:=by rfl)(hv:Vis X.env.scope x:=by first|exact Or.inl rfl|exact Or.inr (Or.inl rfl)|exact Or.inr (Or.inr rfl))(hd:(x==("__debug__":Str))=false:=by decide)
  (hcd:(x==("__classdict__":Str))=false:=by decide):PE X (.Name x pos) (nQ i):=tZ hN hv hd hcd
end
theorem xa{A B:Prop}(h:B):if false=true then A else B:=by
 rw[CY Ag];exact h
theorem xj{A B:Prop}(h:A):if true=true then A else B:=by
 rw[CZ rfl];exact h
theorem tJ{c A B:Prop} [Decidable c](h1:c->A)(h2:¬c->B):if c then A else B:=by
 by_cases h:c
 ·rw[CZ h];exact h1 h
 ·rw[CY h];exact h2 h
def DO (H H':Hp):Prop:=∀b o,H b=some o->H' b=some o
theorem DO.refl(H:Hp):DO H H:=fun _ _ h=>h
theorem DO.trans{H H1 H2:Hp}(a:DO H H1)(b:DO H1 H2):DO H H2:=fun c o h=>b c o (a c o h)
theorem DO.free{H H':Hp}(e:DO H H'){l:Addr}(h:H' l=Option.none):H l=Option.none:=by
 cases q:H l with
 |none=>rfl
 |some o=>
  rw[e l o q] at h;cases h
theorem DO.seq{K:W.Frag}{H H':Hp}{a:Addr}{xs:List V}(e:DO H H')(h:SqL K H a xs):SqL K H' a xs:=by
 rcases h with (h|⟨o,h⟩)|h
 ·exact .inl (.inl (e _ _ h))
 ·exact .inl (.inr ⟨o,e _ _ h⟩)
 ·exact .inr h
theorem tcut{a b:TS}{D:Ends}{σ:St}{H:Hp}(g:∀D',D'=D->∀R,R=b->uc a R D' σ H):uc a b D σ H:=g _ rfl _ rfl
theorem tcuts{R a b:TS}{D:Ends}{σ:St}{H:Hp}(h:R=uc a b)(g:∀R,R=b->uc a R D σ H):R D σ H:=by subst h;exact g _ rfl
theorem tcutl{R b:TS}{D:Ends}{σ:St}{H:Hp}(h:R=b)(g:b D σ H):R D σ H:=by subst h;exact g
theorem tcutn{D D':Ends}{σ:St}{H:Hp}(h:D'=D)(g:D.nx σ H):D'.nx σ H:=by subst h;exact g
theorem tcutr{D D':Ends}{v:V}{H:Hp}(h:D'=D)(g:D.rt v H):D'.rt v H:=by subst h;exact g
def cj (cells:List (Str×Addr)):List (Str×NameKind)->List (Str×Addr)->List (Str×Addr)
 |[],acc=>acc
 |(n,k)::r,acc=>cj cells r (if k==.free then (n,(cells.lookup n).getD 0)::acc else acc)
theorem bu{scope:Scope}{env:Env}(h:∀y∈scope.names,y.2=.free->∃c,env.cells.lookup y.1=some c):closureFor scope env=pure (cj env.cells scope.names []):=by
 unfold closureFor;have key:∀(l:List (Str×NameKind))(acc:List (Str×Addr)),(∀y∈l,y.2=.free->∃c,env.cells.lookup y.1=some c) ->
   (forIn l acc (fun x r=>match x with
    | (name,kind)=>if (kind == NameKind.free)=true then do let a <- cellOf env name; pure (ForInStep.yield ((name,a)::r)) else pure (ForInStep.yield r)):Sem (List (Str×Addr)))=pure (cj env.cells l acc):=by
  intro l;induction l with
  |nil=>intro acc _;rfl
  |cons y r ih=>
   intro acc hl;obtain⟨n,k⟩:=y;rw[BP];have ih':=fun acc=>ih acc fun y hy=>hl y (Ac _ hy);by_cases hk:(k==NameKind.free)=true
   ·obtain⟨c,hc⟩:=hl (n,k) zQ (by simpa using hk);have e1:cellOf env n=pure c:=by unfold cellOf;have hc':env.cells.lookup n=some c:=hc;rw[hc']
    dsimp only;rw[CZ hk,e1];simp only[pure_bind];rw[ih'];unfold cj;rw[CZ hk];have hc':env.cells.lookup n=some c:=hc;rw[hc']
    conv=>rhs;unfold cj
    rfl
   ·dsimp only;rw[CY hk];simp only[pure_bind];rw[ih']
    conv=>rhs;unfold cj
    rw[CY hk]
 have:=key scope.names [] h;simp only[bind_pure] at *;exact this
theorem dF{cells:List (Str×Addr)}:∀{l:List (Str×NameKind)}{acc:List (Str×Addr)}{x:Str}{c:Addr},(∀y∈l,y.2=.free->∃c,cells.lookup y.1=some c)->(∀x c,acc.lookup x=some c->cells.lookup x=some c) ->
  (cj cells l acc).lookup x=some c->cells.lookup x=some c
 |[],_,_,_,_,ha,e=>ha _ _ e
 |(n,k)::r,acc,x,c,h,ha,e=>by
  unfold cj at e;refine dF (fun y hy=>h y (Ac _ hy)) ?_ e;intro x c e;by_cases hk:(k==NameKind.free)=true
  ·rw[CZ hk] at e;obtain⟨c',hc⟩:=h (n,k) zQ (by simpa using hk);have hc':cells.lookup n=some c':=hc;rw[AJ] at e;by_cases hx:(x==n)=true
   ·rw[hx] at e;have hxn:x=n:=by simpa using hx
    subst hxn;simp only[hc',Option.getD_some] at e;rw[hc'];exact e
   ·have hx':(x==n)=false:=by simpa using hx
    rw[hx'] at e;exact ha _ _ e
  ·rw[CY hk] at e;exact ha _ _ e
theorem fb{cells:List (Str×Addr)}:∀{l:List (Str×NameKind)}{acc:List (Str×Addr)}{x:Str},((x,NameKind.free)∈l\/(acc.lookup x).isSome=true)->((cj cells l acc).lookup x).isSome=true
 |[],_,_,h=>by
  rcases h with h|h
  ·cases h
  ·exact h
 |(n,k)::r,acc,x,h=>by
  unfold cj;refine fb ?_;rcases h with h|h
  ·rcases zU.mp h with e|h
   ·right
    cases e;simp[AJ]
   ·exact .inl h
  ·right
   split
   ·rw[AJ];split
    ·rfl
    ·exact h
   ·exact h
theorem dv{env:Env}{x:Str}:∀{names:List (Str×NameKind)},names.lookup x=some .free ->
  (names.map fun(n,k)=>if (k==NameKind.free&&env.scope.kind==.function&&env.kindOf n==some .cell) then (n,NameKind.cell) else (n,k)).lookup x=some .cell \/
  (names.map fun(n,k)=>if (k==NameKind.free&&env.scope.kind==.function&&env.kindOf n==some .cell) then (n,NameKind.cell) else (n,k)).lookup x=some .free
 |[],h=>by simp at h
 |(n,k')::r,h=>by
  have ih:=@dv env x r;rw[AJ] at h;rw[zZ,AJ];by_cases hx:(x==n)=true
  ·simp only[hx] at h;have hk:k'=.free:=Di h;by_cases c:(k'==NameKind.free&&env.scope.kind==.function&&env.kindOf n==some .cell)=true
   ·rw[CZ c];simp only[hx];exact .inl trivial
   ·rw[CY c];simp only[hx,hk];exact .inr trivial
  ·have hx':(x==n)=false:=by simpa using hx
   simp only[hx'] at h;by_cases c:(k'==NameKind.free&&env.scope.kind==.function&&env.kindOf n==some .cell)=true
   ·rw[CZ c];simp only[hx'];exact ih h
   ·rw[CY c];simp only[hx'];exact ih h
def bO (js:List Nat)(σ:St):St:=js.map fun j=>(σ[j]?).join
theorem pk{l:List (Str×NameKind)}{acc:List (Str×Addr)}(h:∀y∈l,y.2≠.cell) :
  (forIn l acc (fun x r=>match x with
   | (name,kind)=>if (kind == NameKind.cell)=true then do let a <- alloc { cls:=.type "cell",data:=.cell none }; pure (ForInStep.yield ((name,a)::r)) else pure (ForInStep.yield r)):Sem (List (Str×Addr)))=pure acc:=by
 induction l generalizing acc with
 |nil=>rfl
 |cons y r ih=>
  obtain⟨n,k⟩:=y;rw[BP];have hk:¬(k==NameKind.cell)=true:=fun z=>h (n,k) zQ (by simpa using z);dsimp only;rw[CY hk];simp only[pure_bind];exact ih fun y hy=>h y (Ac _ hy)
theorem sY{t:Str}{a b:List (Str×NameKind)}{acc:List (Str×Addr)}(ha:∀y∈a,y.2≠.cell)(hb:∀y∈b,y.2≠.cell) :
  (forIn (a++(t,NameKind.cell)::b) acc (fun x r=>match x with
   | (name,kind)=>if (kind == NameKind.cell)=true then do let a <- alloc { cls:=.type "cell",data:=.cell none }; pure (ForInStep.yield ((name,a)::r)) else pure (ForInStep.yield r)):Sem (List (Str×Addr)))=(do let c <- alloc { cls:=.type "cell",data:=.cell none }; pure ((t,c)::acc)):=by
 induction a generalizing acc with
 |nil=>
  rw[BQ,BP];dsimp only;rw[CZ (show(NameKind.cell==NameKind.cell)=true from rfl)];simp only[bind_assoc,pure_bind]
  congr 1
  funext c
  exact pk hb
 |cons y r ih=>
  obtain⟨n,k⟩:=y;rw[List.cons_append,BP];have hk:¬(k==NameKind.cell)=true:=fun z=>ha (n,k) zQ (by simpa using z);dsimp only;rw[CY hk];simp only[pure_bind];exact ih fun y hy=>ha y (Ac _ hy)
def Gg(names:List (Str×NameKind)):Option Str->Prop
 |none=>∀y∈names,y.2≠.cell
 |some t=>∃a b,names=a++(t,NameKind.cell)::b/\(∀y∈a,y.2≠.cell)/\∀y∈b,y.2≠.cell
def tI (t:Option Str)(C:Addr)(cl:List (Str×Addr)):List (Str×Addr):=match t with
 |none=>cl
 |some t=>(t,C+1)::cl
theorem lW{M:Model}{A:Around}{E:Value->Shared->Prop}{s:Shared}{scope:Scope}{globals:Addr}{cl:List (Str×Addr)}{qual:Str}{func:Option Addr}{code:Value}{around:Option Env}{builtins:Addr}{Q:Env->Shared->Prop}{t:Option Str}(h1:Gg scope.names t)(hk:scope.kind=.function)
  (h:∀h',h'.Ns s.heap.objs.size (fun _=>none)->(∀x,t=some x->h'.IsCell (s.heap.objs.size+1) none)->(∀b o,s.heap.get? b=some o->h'.get? b=some o)->Q (newEnv scope s.heap.objs.size globals (tI t s.heap.objs.size cl) qual func code around builtins) {s with heap:=h'}) :
  wpAny M A (newFunctionEnv scope globals cl [] qual func code around builtins) Q E s:=by
 cases t with
 |none=>
  refine wpAny_newFunctionEnv h1 (by intro y hy;simp at hy) (fun h' n b=>h h' n (fun _ z=>by cases z) fun a o e=>?_) hk;exact b.extBut a o (zJ (Dh e)) (Dw _ e)
 |some t=>
 obtain⟨a,b,e,ha,hb⟩:=h1;unfold newFunctionEnv;refine CT (wpAny_alloc ?_);dsimp only;rw[e,sY ha hb];refine CT (CT (wpAny_alloc (CU ?_)));refine CT (CU (CU ?_));have z:(s.heap.push {cls:=.type (if around.isSome=true then "dict" else "frame"),data:=.dict #[]}).objs.size=s.heap.objs.size+1:=DE _ _;have q:=h ((s.heap.push {cls:=.type (if around.isSome=true then "dict" else "frame"),data:=.dict #[]}).push {cls:=.type "cell",data:=.cell none}) ⟨_,#[],_,Dw _ (Dx _ rfl),rfl,(by intro e he;simp at he),fun _=>rfl⟩ (fun _ _=>⟨_,by rw[<- z];exact Dx _ rfl,rfl⟩) (fun b o e=>Dw _ (Dw _ e));dsimp only;rw[z];cases around<;>exact q
def aP (X:Cx)(scope:Scope)(t:Option Str)(C:Addr)(fp:List Addr)(N:List Str)(s:Shared)(H:Hp):Cx:=
 {X with N:=N,s₀:=s,H₀:=H,env:=compEnvC scope (tI t C (cj X.env.cells scope.names [])) C X.env,outer:=X.stack,stack:=X.stack,ex:=fp,fn:=fun y=>match t with|some t=>y==t|none=>false,xe:=fun _ _=>False}
structure DT(X:Cx)(scope:Scope)(t:Option Str)(ts:List Str)(cap:List Str)(js:List Nat):Prop where
 kind:scope.kind=.function
 one:Gg scope.names t
 names:∀y∈scope.names,y.2=.local->scope.names.lookup y.1=some .local
 free:∀y∈scope.names,y.2=.free->X.env.kindOf y.1=some .cell\/X.env.kindOf y.1=some .free
 IH:cap.map some=js.map fun j=>X.N[j]?
 JH:∀y∈cap,scope.names.lookup y=some .free
 JS:∀x∈cap,t≠some x
 nd:(ts++cap).Nodup
abbrev aA(X:Cx)(scope:Scope)(C:Addr)(fp:List Addr)(N:List Str)(s:Shared)(H:Hp):Cx:=aP X scope none C fp N s H
abbrev aV(X:Cx)(scope:Scope)(ts:List Str)(cap:List Str)(js:List Nat):Prop:=DT X scope none ts cap js
theorem cx{env:Env}{t:Option Str}{x:Str}{k:NameKind}:∀{names:List (Str×NameKind)},(∀y∈names,y.2=.cell->t=some y.1) ->
  (names.map fun(n,k)=>if (k==NameKind.free&&env.scope.kind==.function&&env.kindOf n==some .cell) then (n,NameKind.cell) else (n,k)).lookup x=some k->(k=.cell\/k=.free)->t=some x\/(x,NameKind.free)∈names
 |[],_,h,_=>by simp at h
 |(n,k')::r,hc,h,hk=>by
  rw[zZ,AJ] at h;have ih:=@cx env t x k r (fun y hy=>hc y (Ac _ hy));by_cases c:(k'==NameKind.free&&env.scope.kind==.function&&env.kindOf n==some .cell)=true
  ·rw[CZ c] at h;have hf:k'=.free:=by
    have:=(Au _ _▸(Au _ _▸c).1).1;simpa using this
   by_cases hx:(x==n)=true
   ·have:x=n:=by simpa using hx
    subst this;subst hf;exact .inr zQ
   ·have hx':(x==n)=false:=by simpa using hx
    simp only[hx'] at h;exact(ih h hk).imp id (Ac _)
  ·rw[CY c] at h;by_cases hx:(x==n)=true
   ·simp only[hx] at h;have:x=n:=by simpa using hx
    subst this;have hkk:k'=k:=Di h;subst hkk;rcases hk with hk|hk
    ·exact .inl (hc (x,k') zQ hk)
    ·subst hk;exact .inr zQ
   ·have hx':(x==n)=false:=by simpa using hx
    simp only[hx'] at h;exact(ih h hk).imp id (Ac _)
theorem Gg.is{names:List (Str×NameKind)}:∀{t:Option Str},Gg names t->∀y∈names,y.2=.cell->t=some y.1
 |none,h,y,hy,e=>absurd e (h y hy)
 |some t,h,y,hy,e=>by
  obtain⟨a,b,rfl,ha,hb⟩:=h;rcases zH.mp hy with z|z
  ·exact absurd e (ha y z)
  ·rcases zU.mp z with z|z
   ·rw[z]
   ·exact absurd e (hb y z)
theorem bo{names:List (Str×NameKind)}{y:Str}{k:NameKind}(h:names.lookup y=some k):(y,k)∈names:=PySem.mem_of_lookup h
section
variable {X:Cx}{pins:List (Addr×Obj)}{σ:St}{H:Hp}{s:Shared}{scope:Scope}{t:Option Str}{ts cap:List Str}{js:List Nat}{fp:List Addr}{C D:Addr}
theorem DT.cells(CS:DT X scope t ts cap js)(ok:X.Ok):∀y∈scope.names,y.2=.free->∃c,X.env.cells.lookup y.1=some c:=fun y hy hf=>ok.has _ (CS.free y hy hf)
theorem DT.GJ(CS:aV X scope ts cap js):∀y∈scope.names,y.2≠.cell:=CS.one
theorem DT.look(CS:aV X scope ts cap js)(ok:X.Ok){x:Str}{c:Addr}(e:(cj X.env.cells scope.names []).lookup x=some c):X.env.cells.lookup x=some c:=
 dF (CS.cells ok) (fun _ _ z=>by simp at z) e
theorem DT.Fb(CS:DT X scope t ts cap js)(ok:X.Ok){x:Str}{c:Addr}(e:(tI t C (cj X.env.cells scope.names [])).lookup x=some c):(t=some x/\c=C+1)\/X.env.cells.lookup x=some c:=by
 have old:(cj X.env.cells scope.names []).lookup x=some c->X.env.cells.lookup x=some c:=fun e=>dF (CS.cells ok) (fun _ _ z=>by simp at z) e;cases t with
 |none=>exact .inr (old e)
 |some t=>
  replace e:((t,C+1)::cj X.env.cells scope.names []).lookup x=some c:=e
  rw[AJ] at e;by_cases hx:(x==t)=true
  ·rw[hx] at e;injection e with e;exact .inl ⟨by rw[show x=t by simpa using hx],e.symm⟩
  ·rw[show(x==t)=false by simpa using hx] at e;exact .inr (old e)
theorem DT.Iy(CS:DT X scope t ts cap js){x:Str}(hx:t≠some x)(hm:(x,NameKind.free)∈scope.names)(ok:X.Ok):∃c,(tI t C (cj X.env.cells scope.names [])).lookup x=some c/\X.env.cells.lookup x=some c:=by
 obtain⟨c,e⟩:=BN.mp (fb (cells:=X.env.cells) (acc:=[]) (.inl hm));refine⟨c,?_,dF (CS.cells ok) (fun _ _ z=>by simp at z) e⟩;cases t with
 |none=>exact e
 |some t=>
  show((t,C+1)::cj X.env.cells scope.names []).lookup x=_;rw[AJ,beq_false_of_ne (fun z=>hx (by rw[z]))];exact e
theorem hJ(I:Inv X pins σ H s)(CS:DT X scope t ts cap js)(hf:∀b∈fp,Eo X pins H b)(hfl:∀b∈fp,b<s.heap.objs.size)(hC:s.heap.objs.size<=C):(aP X scope t C fp (ts++cap) s H).Ok where
 mod:=I.ok.mod
 kind:=CS.kind
 glob:=I.ok.glob
 blt:=I.ok.blt
 above:=hC
 inj:=fun x y c h1 h2=>by
  have big:∀{x},X.env.cells.lookup x=some (C+1)->False:=fun {x} e=>by
   obtain⟨v,o,ho,_⟩:=I.cell x _ e;exact absurd (Dh ho) (Nat.not_lt.mpr (AS hC))
  rcases CS.Fb I.ok h1 with ⟨a,b⟩|a
  ·rcases CS.Fb I.ok h2 with ⟨a',b'⟩|a'
   ·exact Di (a.symm.trans a')
   ·rw[b] at a';exact(big a').elim
  ·rcases CS.Fb I.ok h2 with ⟨a',b'⟩|a'
   ·rw[b'] at a;exact(big a).elim
   ·exact I.ok.inj x y c a a'
 has:=fun x hx=>by
  have:t=some x\/(x,NameKind.free)∈scope.names:=by
   rcases hx with hx|hx
   ·exact cx (env:=X.env) CS.one.is hx (.inl rfl)
   ·exact cx (env:=X.env) CS.one.is hx (.inr rfl)
  by_cases hxt:t=some x
  ·subst hxt;exact⟨C+1,by show((x,C+1)::cj X.env.cells scope.names []).lookup x=_;rw[AJ,beq_self_eq_true]⟩
  ·obtain⟨c,e,_⟩:=CS.Iy hxt (this.resolve_left hxt) I.ok;exact⟨c,e⟩
 cab:=fun x c h e=>by
  cases t with
  |none=>cases (show false=true from h)
  |some t=>
   have hx:x=t:=by simpa using(show(x==t)=true from h)
   have e':((t,C+1)::cj X.env.cells scope.names []).lookup x=some c:=e;rw[hx,AJ,beq_self_eq_true] at e';injection e' with e';rw[<- e'];exact AS hC
 hd:=I.ok.hd
 frames:=I.ok.frames
 stk:=.inl rfl
 exf:=fun b hb=>⟨zJ (zP (hfl b hb) hC),fun x c e=>by
  rcases CS.Fb I.ok e with ⟨_,q⟩|q
  ·rw[q];exact Dv (zJ (zP (hfl b hb) (AS hC)))
  ·exact(hf b hb).2.2.2.2.1 x c q⟩
 bs:=I.bs
 bsz:=zO I.ok.bsz I.sz
 IE:=fun b o e hb=>by
  rcases (hf b hb).2.2.2.1 with z|z
  ·exact I.ok.IE b o e z
  ·have q:=(I.ok.bs b o e).1;rw[z] at q;cases q
 HK:=fun b hb z=>by
  rcases zU.mp (I.FD b z) with q|q
  ·exact(hf b hb).2.1 q
  ·exact(hf b hb).2.2.1 q
 Gz:=I.stack
 frf:=I.Fl
theorem fh{s₄:Shared}{m:Str->Option Value}{pins':List (Addr×Obj)}(I:Inv X pins σ H s)(CS:DT X scope t ts cap js)(hf:∀b∈fp,Eo X pins H b)(hfl:∀b∈fp,b<s.heap.objs.size)(hC:s.heap.objs.size<=C)
  (old:∀b o,s.heap.get? b=some o->s₄.heap.get? b=some o)(hn:s₄.heap.Ns C m)(hcl:∀x,t=some x->s₄.heap.IsCell (C+1) none)(hos:s₄.os=s.os)(hb:AllBare s₄.gens)
  (hp:∀p∈pins',s₄.heap.get? p.1=some p.2/\H p.1=none/\p.1≠C/\p.1∉frs X.stack/\∀v,p.2.data≠.cell v) :
  Inv (aP X scope t C fp (ts++cap) s H) pins' (List.replicate ts.length none++bO js σ) H s₄ where
 ok:=hJ I CS hf hfl hC
 os:=hos
 bare:=hb
 base:=Un.kept old
 loc:=⟨m,hn,fun i x v h1 h2 h3=>by
  by_cases hi:i<ts.length
  ·rw[Ba (by simpa using hi)] at h2;rw[Ck] at h2;split at h2<;>cases h2
  ·have h1':cap[i-ts.length]?=some x:=by
    have:=h1;show cap[i-ts.length]?=some x;rw[show(aP X scope t C fp (ts++cap) s H).N=ts++cap from rfl,AE (by lia)] at this;exact this
   rw[AE (by simpa using hi),Bs] at h2;unfold bO at h2;rw[zW] at h2;cases hj:js[i-ts.length]? with
   |none=>rw[hj] at h2;cases h2
   |some j=>
    rw[hj] at h2;have h2':(σ[j]?).join=some v:=Di h2;have hσ:σ[j]?=some (some v):=by
     cases e:σ[j]? with
     |none=>rw[e] at h2';cases h2'
     |some o=>rw[e] at h2';rw[show o=some v from h2']
    have hN:X.N[j]?=some x:=by
     have:=congrArg (fun l=>l[i-ts.length]?) CS.IH;simp only[zW,h1',hj] at this;exact(Di this).symm
    have hfr:=CS.JH x (zS h1');have hk:=CS.free _ (bo hfr) rfl;obtain⟨m0,hn0,hl⟩:=I.loc;obtain⟨u,r,l⟩:=hl j x v hN hσ (.inr hk);refine⟨u,r,?_⟩;rcases l with ⟨k,_⟩|⟨k,c,e,z⟩
    ·rcases hk with q|q<;>(rw[q] at k;cases k)
    ·have hxt:t≠some x:=CS.JS x (zS h1');obtain⟨c',e',e2⟩:=CS.Iy (C:=C) hxt (bo hfr) I.ok;have e3:X.env.cells.lookup x=some c:=e;rw[e3] at e2;cases e2;obtain⟨o,ho,hd⟩:=z
     exact .inr ⟨dv hfr,c,e',⟨o,old _ _ ho,hd⟩⟩⟩
 cell:=fun x c e=>by
  rcases CS.Fb I.ok e with ⟨p,q⟩|q
  ·rw[q];exact⟨none,hcl x p⟩
  ·obtain⟨v,o,ho,hd⟩:=I.cell x c q;exact⟨v,o,old _ _ ho,hd⟩
 free:=I.hok.fresh hC
 Ex:=fun x c e=>by
  rcases CS.Fb I.ok e with ⟨_,q⟩|q
  ·rw[q];exact I.hok.fresh (AS hC)
  ·exact I.Ex x c q
 pin:=fun p hp'=>by
  rcases zH.mp hp' with z|z
  ·obtain⟨e,n,ne,nf,d⟩:=I.pin p (Ad _ z);refine⟨old _ _ e,n,zJ (zP (Dh e) hC),fun q=>?_,d⟩;rcases zU.mp (I.FD _ q) with q|q
   ·exact ne q
   ·exact nf q
  ·exact hp p z
 hok:=I.hok.kept old
 len:=by
  show(List.replicate ts.length none++bO js σ).length=(ts++cap).length;have:=congrArg List.length CS.IH;simp only[zF] at this;rw[zG,zG,Bs,bO,zF,this]
theorem qx{s₄:Shared}{m:Str->Option Value}{pins':List (Addr×Obj)}(I:Inv X pins σ H s)(CS:aV X scope ts cap js)(hf:∀b∈fp,Eo X pins H b)(hfl:∀b∈fp,b<s.heap.objs.size)(hC:s.heap.objs.size<=C)
  (old:∀b o,s.heap.get? b=some o->s₄.heap.get? b=some o)(hn:s₄.heap.Ns C m)(hos:s₄.os=s.os)(hb:AllBare s₄.gens)
  (hp:∀p∈pins',s₄.heap.get? p.1=some p.2/\H p.1=none/\p.1≠C/\p.1∉frs X.stack/\∀v,p.2.data≠.cell v) :
  Inv (aA X scope C fp (ts++cap) s H) pins' (List.replicate ts.length none++bO js σ) H s₄:=fh I CS hf hfl hC old hn (fun _ z=>by cases z) hos hb hp
end
def Hv:TT:=fun _ H Q=>Q true H
def fL (J:It)(k:Nat)(js:List Nat)(g:TG)(tc:TT)(te:TE)(σ:St)(H1:Hp)(Q:VK):Prop:=
 ∃W:Nat->Nat->List V->Hp->Prop,(∃m,W 0 m [] H1)/\∀i m ys H,W i m ys H ->
  (J.stop i H/\ys.length<=sizeLine/\∀p,H p=none->Q (.ref p) (upd H p (.lst ys))) \/
  (J.go i H/\ys.length<sizeLine/\∀x H',J.yld i H x H'->g x (List.replicate k none++bO js σ) H' fun σ2 H2=>tc σ2 H2 fun b H3=>if b=true then te σ2 H3 fun y H4=>∃m',m'<m/\W (i+1) m' (ys++[y]) H4 else ∃m',m'<m/\W (i+1) m' ys H3)
def rP (wi:TI)(k:Nat)(js:List Nat)(g:TG)(tc:TT)(te:TE):TE:=fun σ H Q=>wi σ H fun J H1=>fL J k js g tc te σ H1 Q
def PTs (X:Cx)(ifs:List Expr)(t:TT):Prop:=
 ∀(pins:List (Addr×Obj))(s:Shared)(σ:St)(H:Hp)(Q:Bool->Hp->Prop),Inv X pins σ H s->t σ H Q ->
  (wq X) (forIn ifs true fun c r=>if r=true then do let ok <- isTrue c X.env (eval c X.env);pure (ForInStep.yield ok) else pure (ForInStep.yield r)) (TP X pins σ Q) X.xe s
theorem aM{X:Cx}:PTs X [] Hv:=fun _ _ _ H _ I h=>wpAny_tests_nil ⟨H,I,h⟩
theorem cH{X:Cx}{c:Expr}{t:TT}(h:PT X c t):PTs X [c] t:=fun pins s σ H Q I hw=>wpAny_tests_one (h pins s σ H Q I hw)
theorem kM{prog:Program}{w:World}{A:Around}{R:Result->Shared->Prop}{s:Shared}{elt target iter:Expr}{ifs:List Expr}{scope:Scope}{pos:Pos}{it acc:Value}{env:Env}(I:Nat->Shared->Prop)
  (turn:∀n s,I n s->wpAny (model prog w) A (pyNext it) (fun r s₁=>match r with
   |none=>R (.ok .next) s₁
   | some v=>wpAny (model prog w) A (letOwnedTupleGo target it v) (fun _ s₁'=>wpAny (model prog w) A (assign target env v) (fun _ s₂ =>
     wpAny (model prog w) A (forIn ifs true fun c r=>if r=true then do let ok <- isTrue c env (eval c env); pure (ForInStep.yield ok) else pure (ForInStep.yield r)) (fun ok s₃ =>
      if ok=true then wpAny (model prog w) A (eval elt env) (fun x s₄ =>
       wpAny (model prog w) A (call (.builtin "list.append") [acc,x]) (fun _ s₅=>∃m,m < n/\I m s₅) (fun _ _=>False) s₄) (fun _ _=>False) s₃
      else ∃m,m < n/\I m s₃) (fun _ _=>False) s₂) (fun _ _=>False) s₁') (fun _ _=>False) s₁) (fun _ _=>False) s)
  (n:Nat) (h:I n s):codeAny (model prog w) A (.compLoop (.ListComp elt [⟨target,iter,ifs,0⟩] scope pos) 0 it acc env) R s:=by
 refine codeAny_loop rfl I (fun n s hI=>?_) n h;show wpAny _ A ((compTurn (.ListComp elt [⟨target,iter,ifs,0⟩] scope pos) 0 it acc env).onRaise (fun x=>do noteFrame x env;theTreesLotGoes x)) _ _ s;refine wpAny_noted ?_;rw[compTurn_list];refine CT (wpAny_standAt (CT (De (turn n s hI) (fun r s₁ h₁=>?_) fun _ _ h'=>h'.elim)));cases r with
 |none=>exact CU h₁
 |some v=>
  refine CT (De h₁ (fun _ s₁' h₁'=>?_) fun _ _ h'=>h'.elim);refine CT (De h₁' (fun _ s₂ h₂=>CT (De h₂ (fun ok s₃ h₃=>?_) fun _ _ h'=>h'.elim)) fun _ _ h'=>h'.elim);cases ok with
  |false=>exact CU ⟨rfl,h₃⟩
  |true=>
   exact CT (CT (De h₃ (fun x s₄ h₄=>CT (De h₄ (fun _ s₅ h₅=>CU (CU ⟨rfl,h₅⟩)) fun _ _ h'=>h'.elim)) fun _ _ h'=>h'.elim))
abbrev cK(its:List Value)(n:Nat):Obj:={cls:=.type "list",data:=.seq its.toArray n}
section
variable {X:Cx}{pins:List (Addr×Obj)}{σ:St}{H:Hp}{s:Shared}{scope:Scope}{t:Option Str}{ts cap:List Str}{js:List Nat}{fp:List Addr}{C D:Addr}
theorem iY{s':Shared}{σ':St}{H':Hp}{ys:List V}{its:List Value}{n:Nat}(I:Inv X pins σ H s)(hf:∀b∈fp,Eo X pins H b)
  (hC:s.heap.objs.size<=C)(hD:s.heap.objs.size<=D)(I':Inv (aP X scope t C fp (ts++cap) s H) [(D,cK its n)] σ' H' s')(hv:Vals ys its)(hz:ys.length<=sizeLine):Inv X pins σ (upd H' D (.lst ys)) s':=by
 obtain⟨hDg,hDn,hDC,hDs,hDd⟩:=I'.pin (D,cK its n) (zI _ zQ);have nD:∀b o,s.heap.get? b=some o->b≠D:=fun b o e=>zJ (zP (Dh e) hD);have nDt:∀b o,H b=some o->b≠D:=fun b o e=>zJ (zP (I.hok.lt e) hD);have u:=I'.base;refine I.Jl (ch:=fp) I'.os ⟨fun b o e n hb hx=>u.keep b o e n hb hx,fun b o e n hb hx=>u.slot b o e n hb hx,fun b o e n hx=>?_,fun b o e hx=>u.there b o e hx,fun b xs e=>?_,fun b o xs e=>?_,fun b ps e=>?_⟩ ?_ I'.bare fun b hb=>?_
 ·rw[aq (nD b o e)];exact u.free b o e n hx
 ·rw[aq (nDt b _ e)];exact u.GH b xs e
 ·rw[aq (nDt b _ e)];exact u.GA b o xs e
 ·rw[aq (nDt b _ e)];exact u.GF b ps e
 ·intro b o e;by_cases hb:b=D
  ·subst hb;rw[ae] at e;cases e;exact⟨hz,its,n,hv,hDg⟩
  ·rw[aq hb] at e;refine(I'.hok b o e).Gd (fun _ _ _ q=>q) (fun c q=>?_) fun c xs q=>?_
   ·by_cases hc:c=D
    ·subst hc;rw[hDn] at q;cases q
    ·rw[aq hc];exact q
   ·by_cases hc:c=D
    ·subst hc;rw[hDn] at q;cases q
    ·rw[aq hc];exact q
 ·obtain⟨f0,f1,f2,f3,f4,f5⟩:=hf b hb;exact⟨f3,f1,f4,f5⟩
theorem bP{pins':List (Addr×Obj)}{σ':St}{H':Hp}{s':Shared}(I:Inv X pins σ H s)(CS:DT X scope t ts cap js)(hf:∀b∈fp,Eo X pins H b)(I':Inv (aP X scope t C fp (ts++cap) s H) pins' σ' H' s') :
  Inv (aP X scope t C fp (ts++cap) s H) pins' (List.replicate ts.length none++bO js σ) H' s':=by
 refine⟨I'.ok,I'.os,I'.bare,I'.base,?_,I'.cell,I'.free,I'.Ex,I'.pin,I'.hok,?_⟩
 ·obtain⟨m,hn,_⟩:=I'.loc;refine⟨m,hn,fun i x v h1 h2 h3=>?_⟩;by_cases hi:i<ts.length
  ·rw[Ba (by simpa using hi)] at h2;rw[Ck] at h2;split at h2<;>cases h2
  ·have h1':cap[i-ts.length]?=some x:=by
    have:=h1;rw[show(aP X scope t C fp (ts++cap) s H).N=ts++cap from rfl,AE (by lia)] at this;exact this
   rw[AE (by simpa using hi),Bs] at h2;unfold bO at h2;rw[zW] at h2;cases hj:js[i-ts.length]? with
   |none=>rw[hj] at h2;cases h2
   |some j=>
    rw[hj] at h2;have h2':(σ[j]?).join=some v:=Di h2;have hσ:σ[j]?=some (some v):=by
     cases e:σ[j]? with
     |none=>rw[e] at h2';cases h2'
     |some o=>rw[e] at h2';rw[show o=some v from h2']
    have hN:X.N[j]?=some x:=by
     have:=congrArg (fun l=>l[i-ts.length]?) CS.IH;simp only[zW,h1',hj] at this;exact(Di this).symm
    have hfr:=CS.JH x (zS h1');have hk:=CS.free _ (bo hfr) rfl;obtain⟨m0,hn0,hl⟩:=I.loc;obtain⟨u,r,l⟩:=hl j x v hN hσ (.inr hk);refine⟨u,r,?_⟩;rcases l with ⟨k,_⟩|⟨k,c,e,z⟩
    ·rcases hk with q|q<;>(rw[q] at k;cases k)
    ·have hxt:t≠some x:=CS.JS x (zS h1');obtain⟨c',e',e2⟩:=CS.Iy (C:=C) hxt (bo hfr) I.ok;have e3:X.env.cells.lookup x=some c:=e;rw[e3] at e2;cases e2;obtain⟨o,ho,hd⟩:=z;have nfp:c∉fp:=fun q=>(hf c q).2.2.2.2.1 x c e rfl;obtain⟨sl,hg⟩:=I'.base.any ho (I.Ex x c e) nfp;exact .inr ⟨dv hfr,c,e',⟨_,hg,hd⟩⟩
 ·show(List.replicate ts.length none++bO js σ).length=(ts++cap).length;have:=congrArg List.length CS.IH;simp only[zF] at this;rw[zG,zG,Bs,bO,zF,this]
structure Hy(X:Cx)(tg:Expr)(J:It)(fp:List Addr)(it:Addr)(tn:Nat->Heap->Prop):Prop where
 item:∀(i:Nat)(pins:List (Addr×Obj))(s:Shared)(σ:St)(H:Hp)(E:Value->Shared->Prop),Inv X pins σ H s->(∀b∈fp,Eo X pins H b)->tn i s.heap->J.go i H ->
  (wq X) (pyNext (.ref it)) (fun r s1=>∃u,r=some u /\
   (wq X) (letOwnedTupleGo tg (.ref it) u) (fun _ s2=>∃x H',Inv X pins σ H' s2/\RelV x u/\J.yld i H x H'/\tn (i+1) s2.heap/\∀b∈fp,H' b=none) E s1) E s
 done:∀(i:Nat)(pins:List (Addr×Obj))(s:Shared)(σ:St)(H:Hp)(E:Value->Shared->Prop),Inv X pins σ H s->(∀b∈fp,Eo X pins H b)->tn i s.heap->J.stop i H ->
  (wq X) (pyNext (.ref it)) (fun r s1=>r=none/\Inv X pins σ H s1) E s
structure TurnOk(P:Program)(w:World)(fp:List Addr)(it:Addr)(tn:Nat->Heap->Prop):Prop where
 obj:∀i h,tn i h->∀b∈fp,∃o,h.get? b=some o/\∀v,o.data≠.cell v
 keep:∀i h h',tn i h->(∀b∈fp,∀o,h.get? b=some o->h'.get? b=some o)->tn i h'
 self:∀(A:Around)(i:Nat)(s:Shared)(Q:Value->Shared->Prop)(E:Value->Shared->Prop),tn i s.heap->Q (.ref it) s->wpAny (model P w) A (pyIter (.ref it)) Q E s
theorem jI{tg elt iter:Expr}{ifs:List Expr}{pos:Pos}{g:TG}{tc:TT}{te:TE}{J:It}{it:Addr}{tn:Nat->Heap->Prop}{W:Nat->Nat->List V->Hp->Prop}{m0:Nat}{E:Value->Shared->Prop}
  {RR:Value->Addr->Result->Shared->Prop}{Fin:List V->Hp->Prop}
  (I:Inv X pins σ H s)(T:TurnOk X.prog X.w fp it tn)(TA:∀C,Hy (aP X scope t C fp (ts++cap) s H) tg J fp it tn)(st:tn 0 s.heap)(hf:∀b∈fp,Eo X pins H b)(CS:DT X scope t ts cap js)
  (hg:∀C fp s H,PG (aP X scope t C fp (ts++cap) s H) tg g)(ht:∀C fp s H,PTs (aP X scope t C fp (ts++cap) s H) ifs tc)(he:∀C fp s H,PE (aP X scope t C fp (ts++cap) s H) elt te)
  (w0:W 0 m0 [] H)
  (turn:∀i m ys H,W i m ys H->(J.stop i H/\ys.length<=sizeLine/\Fin ys H)\/(J.go i H/\ys.length < sizeLine/\∀x H',J.yld i H x H'->g x (List.replicate ts.length none++bO js σ) H' fun σ2 H2=>tc σ2 H2 fun b H3 =>
   if b=true then te σ2 H3 fun y H4=>∃m',m' < m/\W (i+1) m' (ys++[y]) H4 else ∃m',m' < m/\W (i+1) m' ys H3))
  (hRR:∀D C s' H' ys m,Inv X pins σ (upd H' D (.lst ys)) s'->s'.heap.Ns C m->s.heap.objs.size<=C->s.heap.objs.size<=D->C≠D->H' C=none->H' D=none->Fin ys H'->RR (.ref D) C (.ok .next) s') :
  (wq X) (newList []) (fun acc s₃=>(wq X) (newFunctionEnv scope X.env.globals (cj X.env.cells scope.names []) [] X.env.qual none .none (some X.env)) (fun cenv s₄ =>
   codeAny (model X.prog X.w) X.A (.compStart (.ListComp elt [⟨tg,iter,ifs,0⟩] scope pos) 0 (.ref it) acc { cenv with scope:=relabel scope X.env }) (RR acc cenv.locals) s₄) E s₃) E s:=by
 refine wpAny_newObj_type (lW CS.one CS.kind (fun h₁ hns₁ hcl₁ hold₁=>?_));dsimp only at hns₁ hcl₁ hold₁ ⊢;generalize hH2:s.heap.push {cls:=.type "list",dict:=none,data:=.seq ([]:List Value).toArray}=H2 at hns₁ hcl₁ hold₁ ⊢;have hCs:H2.objs.size=s.heap.objs.size+1:=by rw[<- hH2,DE]
 have hDC:s.heap.objs.size≠H2.objs.size:=by rw[hCs];exact zJ (Av _)
 have hCle:s.heap.objs.size<=H2.objs.size:=by rw[hCs];exact AA _
 have below:∀b,b<s.heap.objs.size->b≠H2.objs.size:=fun b hb=>by rw[hCs];exact zJ (AF hb)
 have old:∀b o,s.heap.get? b=some o->h₁.get? b=some o:=fun b o e=>hold₁ b o (hH2▸Dw _ e);have hacc:h₁.get? s.heap.objs.size=some (cK [] 0):=hold₁ _ _ (hH2▸Dx _ rfl);have hfl:∀b∈fp,b<s.heap.objs.size:=fun b hb=>by obtain⟨o,e,_⟩:=T.obj _ _ st b hb;exact Dh e
 have st₁:tn 0 h₁:=T.keep _ _ _ st fun b _ o e=>old b o e;have hDstk:s.heap.objs.size∉frs X.stack:=fun z=>by
  obtain⟨_,o,ho,_⟩:=I.stack.mem z;exact absurd (Dh ho) (Ai _)
 have I0:Inv (aP X scope t H2.objs.size fp (ts++cap) s H) [(s.heap.objs.size,cK [] 0)] (List.replicate ts.length none++bO js σ) H {s with heap:=h₁,toks:=s.toks}:=
  fh I CS hf hfl hCle old hns₁ hcl₁ rfl I.bare fun p hp=>by
   have e:p=(s.heap.objs.size,cK [] 0):=by simpa using hp
   subst e;exact⟨hacc,I.hok.fresh (zE _),hDC,hDstk,fun v z=>by cases z⟩
 have stat:∀{H':Hp}{ys:List Value}{n:Nat},(∀b∈fp,H' b=none)->∀b∈fp,Eo (aP X scope t H2.objs.size fp (ts++cap) s H) [(s.heap.objs.size,cK ys n)] H' b:=fun {H' ys n} hn b hb=>by
  obtain⟨f0,f1,f2,f3,f4,f5⟩:=hf b hb;refine⟨hn b hb,below b (hfl b hb),?_,.inl hb,fun x c e=>?_,fun p hp=>?_⟩
  ·exact(hJ I CS hf hfl hCle).HK b hb
  ·rcases CS.Fb I.ok e with ⟨_,q⟩|q
   ·rw[q];exact Dv (zJ (zP (hfl b hb) (AS hCle)))
   ·exact f4 x c q
  ·rcases zH.mp hp with z|z
   ·exact f5 p (Ad _ z)
   ·have e:p=(s.heap.objs.size,cK ys n):=by simpa using z
    subst e;intro q;have q':s.heap.objs.size=b:=q;exact absurd (hfl b hb) (by rw[<- q'];exact Ai _)
 have loop:∀s₃:Shared,s₃={s with heap:=h₁,toks:=s.toks} ->
   codeAny (model X.prog X.w) X.A (.compLoop (.ListComp elt [⟨tg,iter,ifs,0⟩] scope pos) 0 (.ref it) (.ref s.heap.objs.size) (compEnvC scope (tI t H2.objs.size (cj X.env.cells scope.names [])) H2.objs.size X.env))
    (RR (.ref s.heap.objs.size) H2.objs.size) s₃:=by
  rintro s₃ rfl;refine kM (fun k s'=>∃i H' ys its n,Inv (aP X scope t H2.objs.size fp (ts++cap) s H) [(s.heap.objs.size,cK its n)] (List.replicate ts.length none++bO js σ) H' s'/\Vals ys its/\tn i s'.heap/\(∀b∈fp,H' b=none)/\W i k ys H') ?_ m0
   ⟨0,H,[],[],0,I0,.nil,st₁,fun b hb=>(hf b hb).1,w0⟩
  rintro k s3 ⟨i,H3,ys,its,n,I3,v3,st3,fr3,w3⟩;rcases turn i k ys H3 w3 with ⟨stop,hz,fin⟩|⟨go,hz,step⟩
  ·refine thn ((TA _).done i _ s3 _ H3 _ I3 (stat fr3) st3 stop) fun r s4 hq49=>?_;obtain⟨hr,I4⟩:=hq49;subst hr;obtain⟨m4,hn4,_⟩:=I4.loc;exact hRR _ _ s4 H3 ys m4 (iY I hf hCle (zE _) I4 v3 hz) hn4 hCle (zE _) (Dv hDC) I4.free (I4.pin (s.heap.objs.size,cK its n) (zI _ zQ)).2.1 fin
  ·refine thn ((TA _).item i _ s3 _ H3 _ I3 (stat fr3) st3 go) fun r s4 hq50=>?_;obtain⟨u,hr,h4⟩:=hq50;subst hr;refine thn h4 fun _ s5 hq51=>?_;obtain⟨x,H5,I5,r5,y5,st5,fr5⟩:=hq51;have I5':=I5.pinned (stat fr5) (T.obj _ _ st5);refine thn (hg _ _ _ _ _ s5 _ H5 x u _ I5' r5 (step x H5 y5)) fun _ s6 hq52=>?_;obtain⟨σ6,H6,I6,q6⟩:=hq52;refine thn (ht _ _ _ _ _ s6 σ6 H6 _ I6 q6) fun ok s7 hq53=>?_;obtain⟨H7,I7,q7⟩:=hq53;have pinned:∀{σ':St}{H':Hp}{s':Shared},Inv (aP X scope t H2.objs.size fp (ts++cap) s H) ([(s.heap.objs.size,cK its n)]++cL fp s5.heap) σ' H' s'->tn (i+1) s'.heap/\∀b∈fp,H' b=none:=fun {σ' H' s'} J=>by
    refine⟨T.keep _ _ _ st5 fun b hb o e=>(J.pin (b,o) (zI _ (zI _ (aX hb e)))).1,fun b hb=>?_⟩;obtain⟨o,e,d⟩:=T.obj _ _ st5 b hb;exact(J.pin (b,o) (zI _ (zI _ (aX hb e)))).2.1
   cases ok with
   |false=>
    rw[CY Ag] at q7 ⊢;obtain⟨m',hm,w7⟩:=q7;obtain⟨st7,fr7⟩:=pinned I7;exact⟨m',hm,i+1,H7,ys,its,n,bP I CS hf I7.DX,v3,st7,fr7,w7⟩
   |true=>
    rw[CZ rfl] at q7 ⊢;refine thn (he _ _ _ _ _ s7 σ6 H7 _ I7 q7) fun yv s8 hq54=>?_;obtain⟨y,H8,I8,r8,m',hm,w8⟩:=hq54;obtain⟨st8,fr8⟩:=pinned I8;have I8':=bP I CS hf I8.DX;obtain⟨hDg,hDn,hDC',hDs,hDd⟩:=I8'.pin (s.heap.objs.size,cK its n) (zI _ zQ);have hl:=v3.length;refine append_at (hsz:=by rw[zY];lia) hDg fun h9 hs9 hD9=>?_;have tracked:∀b o,b≠s.heap.objs.size->s8.heap.get? b=some o->h9.get? b=some o:=fun b o hb e=>hs9.extBut b o hb e;have I9:Inv (aP X scope t H2.objs.size fp (ts++cap) s H) [(s.heap.objs.size,cK (its++[yv]) (n+1))] (List.replicate ts.length none++bO js σ) H8 {s8 with heap:=h9}:=by
     have J0:Inv (aP X scope t H2.objs.size fp (ts++cap) s H) [] (List.replicate ts.length none++bO js σ) H8 s8:=I8'.ED (fun p hp=>absurd hp (by simp))
     have J:Inv (aP X scope t H2.objs.size fp (ts++cap) s H) [] (List.replicate ts.length none++bO js σ) H8 { s8 with heap:=h9,toks:=s8.toks }:=J0.turned (it:=s.heap.objs.size) tracked hDn hDC' (.inr (Heap.get?_none_of_le (zE _))) (fun x c e q=>by
      rcases CS.Fb I.ok e with ⟨_,z⟩|z
      ·rw[z,hCs] at q;exact absurd q (Dv (zJ (AF (Av _))))
      ·obtain⟨v,o,ho,_⟩:=I.cell x c z;rw[q] at ho;exact absurd (Dh ho) (Ai _)) (fun p hp q=>by
       rw[AD] at hp;obtain⟨e,_⟩:=I.pin p (Ad _ hp);rw[q] at e
       exact absurd (Dh e) (Ai _))
     refine J.ED fun p hp=>?_;have e:p=(s.heap.objs.size,cK (its++[yv]) (n+1)):=by simpa using hp
     subst e;refine⟨?_,hDn,hDC',hDs,fun v z=>by cases z⟩;show h9.get? s.heap.objs.size=_;rw[hD9];simp[cK,List.push_toArray]
    have st9:tn (i+1) h9:=T.keep _ _ _ st8 fun b hb o e=>tracked b o (zJ (hfl b hb)) e;exact⟨m',hm,i+1,H8,ys++[y],its++[yv],n+1,I9,v3.append (.cons r8 .nil),st9,fr8,w8⟩
 exact codeAny_compStart_list (loop _ rfl) (T.self _ _ _ _ _ st₁ (loop _ rfl))
theorem fV{tg elt iter:Expr}{ifs:List Expr}{pos:Pos}{g:TG}{tc:TT}{te:TE}{J:It}{it:Addr}{tn:Nat->Heap->Prop}{W:Nat->Nat->List V->Hp->Prop}{m0:Nat}{E:Value->Shared->Prop}
  {RR:Value->Addr->Result->Shared->Prop}{Fin:List V->Hp->Prop}
  (I:Inv X pins σ H s)(hc:X.calm=true)(T:Turn X.prog X.w X.K tg J fp it tn)(st:tn 0 s.heap)(hf:∀b∈fp,Eo X pins H b)(CS:aV X scope ts cap js)
  (hg:∀C fp s H,PG (aA X scope C fp (ts++cap) s H) tg g)(ht:∀C fp s H,PTs (aA X scope C fp (ts++cap) s H) ifs tc)(he:∀C fp s H,PE (aA X scope C fp (ts++cap) s H) elt te)
  (w0:W 0 m0 [] H)
  (turn:∀i m ys H,W i m ys H->(J.stop i H/\ys.length<=sizeLine/\Fin ys H)\/(J.go i H/\ys.length < sizeLine/\∀x H',J.yld i H x H'->g x (List.replicate ts.length none++bO js σ) H' fun σ2 H2=>tc σ2 H2 fun b H3 =>
   if b=true then te σ2 H3 fun y H4=>∃m',m' < m/\W (i+1) m' (ys++[y]) H4 else ∃m',m' < m/\W (i+1) m' ys H3))
  (hRR:∀D C s' H' ys m,Inv X pins σ (upd H' D (.lst ys)) s'->s'.heap.Ns C m->s.heap.objs.size<=C->s.heap.objs.size<=D->C≠D->H' C=none->H' D=none->Fin ys H'->RR (.ref D) C (.ok .next) s') :
  (wq X) (newList []) (fun acc s₃=>(wq X) (newFunctionEnv scope X.env.globals (cj X.env.cells scope.names []) [] X.env.qual none .none (some X.env)) (fun cenv s₄ =>
   codeAny (model X.prog X.w) X.A (.compStart (.ListComp elt [⟨tg,iter,ifs,0⟩] scope pos) 0 (.ref it) acc { cenv with scope:=relabel scope X.env }) (RR acc cenv.locals) s₄) E s₃) E s :=
 jI I ⟨T.obj,T.keep,T.self⟩ (fun C=>⟨T.item (aA X scope C fp (ts++cap) s H) rfl rfl rfl hc,T.done (aA X scope C fp (ts++cap) s H) rfl rfl rfl hc⟩) st hf CS hg ht he w0 turn hRR
end
section
variable {X:Cx}{scope:Scope}{ts cap:List Str}{js:List Nat}{tg elt iter:Expr}{ifs:List Expr}{pos:Pos}{wi:TI}{g:TG}{tc:TT}{te:TE}
theorem cG{pins:List (Addr×Obj)}{σ:St}{H:Hp}{s:Shared}{C:Addr}{h':Heap}{n0:Nat}(I:Inv X pins σ H s)(hC0:X.s₀.heap.get? C=none)(hCL:X.env.locals≠C)(hcell:∀x c,X.env.cells.lookup x=some c->c≠C)(hpin:∀p∈X.pn++pins,p.1≠C)(hn:H C=none)(hs:Heap.SameBut C s.heap h'):Inv X pins σ H {s with heap:=h'}:=
 I.turned (t':=s.toks) (fun b o hb e=>hs.extBut b o hb e) hn (Dv hCL) (.inr hC0) hcell hpin
theorem aR(hc:X.calm=true)(CS:aV X scope ts cap js)(hi:PI X tg iter wi)(hg:∀C fp s H,PG (aA X scope C fp (ts++cap) s H) tg g)
  (ht:∀C fp s H,PTs (aA X scope C fp (ts++cap) s H) ifs tc)(he:∀C fp s H,PE (aA X scope C fp (ts++cap) s H) elt te)
  (hs:∀x,foldedSetIterable iter X.env x=pure x:=by intro _;rfl):PE X (.ListComp elt [⟨tg,iter,ifs,0⟩] scope pos) (rP wi ts.length js g tc te):=by
 intro pins s σ H Q I h;rw[eval_ListComp];refine wpAny_comprehension_free (use:=none) rfl hs (bu (CS.cells I.ok)) CS.kind CS.names (thn (hi pins s σ H _ I h) fun v s1 h1=>thn h1 fun itv s2 h2=>?_);obtain⟨it,fp,tn,J,H2,e,I2,T,st2,f2,W,⟨m0,w0⟩,turn⟩:=h2;subst e;refine fV (RR:=fun acc C=>compPost (model X.prog X.w) X.A X.xe none (EP X pins σ Q) acc C) I2 hc T st2 f2 CS hg ht he w0 turn ?_;intro D C s' H' ys m I' hn hC hD hCD hHC hHD fin;have szL:=I2.lt;have low:∀b o,s2.heap.get? b=some o->b≠C:=fun b o e=>zJ (zP (Dh e) hC);refine⟨m,hn,fun h' hs'=>⟨.ref D,_,cG (n0:=0) I' (Heap.get?_none_of_le (zO I2.sz hC)) (zJ (zP szL hC)) (fun x c e=>?_) (fun p hp=>?_) (by rw[aq hCD];exact hHC) hs',rfl,fin D hHD⟩⟩
 ·obtain⟨v,o,ho,_⟩:=I2.cell x c e;exact low c o ho
 ·exact low _ _ (I2.pin p hp).1
def tM (te:TE)(i:Nat):TS:=fun D σ H=>te σ H fun x H1=>D.nx (σ.set i (some x)) H1
theorem eK{i:Nat}{y:Str}{py spos:Pos}(hc:X.calm=true)(CS:aV X scope ts cap js)(hi:PI X tg iter wi)(hg:∀C fp s H,PG (aA X scope C fp (ts++cap) s H) tg g)
  (ht:∀C fp s H,PTs (aA X scope C fp (ts++cap) s H) ifs tc)(he:∀C fp s H,PE (aA X scope C fp (ts++cap) s H) elt te)
  (hN:X.N.Nodup)(hy:X.N[i]?=some y)(hx:Loc X.env.scope y)(hsw:swapsWith (.ListComp elt [⟨tg,iter,ifs,0⟩] scope pos) (some (.Name y py)) spos.line X.env=pure true)
  (hs:∀x,foldedSetIterable iter X.env x=pure x:=by intro _;rfl)(hf:X.fn y=true\/X.env.scope.names.lookup y=some .local:=by first|exact .inl rfl|exact .inr rfl|assumption) :
  PS X (.Assign [.Name y py] (.ListComp elt [⟨tg,iter,ifs,0⟩] scope pos) spos) (tM (rP wi ts.length js g tc te) i):=by
 intro pins s σ H D I h;rw[exec_Assign_Name_used _ _ _ _ hsw];refine CT (wpAny_standAt (CT ?_));show wpAny _ X.A (do let _ <- comprehension (.ListComp elt [⟨tg,iter,ifs,0⟩] scope pos) scope X.env _ (newList []) false (eval iter X.env) (some (assign (.Name y py) X.env))) _ _ s
 refine CT (De (wpAny_comprehension_free (use:=some (assign (.Name y py) X.env)) (Q:=fun _ s'=>SP X pins D .next s') rfl hs (bu (CS.cells I.ok)) CS.kind CS.names
  (thn (hi pins s σ H _ I h) fun v s1 h1=>thn h1 fun itv s2 h2=>?_)) (fun _ s' hq=>CU (CU hq)) fun _ _ e=>e)
 obtain⟨it,fp,tn,J,H2,e,I2,T,st2,f2,W,⟨m0,w0⟩,turn⟩:=h2;subst e;refine fV (RR:=fun acc C=>compPost (model X.prog X.w) X.A X.xe (some (assign (.Name y py) X.env)) (fun _ s'=>SP X pins D .next s') acc C) I2 hc T st2 f2 CS hg ht he w0 turn ?_;intro D' C s' H' ys m I' hn hC hD hCD hHC hHD fin;have szL:=I2.lt;have low:∀b o,s2.heap.get? b=some o->b≠C:=fun b o e=>zJ (zP (Dh e) hC);have hCL:X.env.locals≠C:=zJ (zP szL hC);have hcell:∀x c,X.env.cells.lookup x=some c->c≠C:=fun x c e=>by
  obtain⟨v,o,ho,_⟩:=I2.cell x c e;exact low c o ho
 show wpAny _ X.A (assign (.Name y py) X.env (.ref D')) _ _ _;refine wpAny_assign_Name (ft (v:=.ref D') I' hN hy hx rfl (fun s'' I'' hch=>?_) hf);obtain⟨a,hsb,ha⟩:=hch;have hCa:C≠a:=by
  rcases ha with z|z
  ·rw[z];exact Dv hCL
  ·exact Dv (hcell _ _ z)
 refine⟨m,hn.sameBut hsb hCa,fun h' hs'=>⟨_,_,cG (n0:=0) I'' (Heap.get?_none_of_le (zO I2.sz hC)) hCL hcell (fun p hp=>low _ _ (I2.pin p hp).1) (by rw[aq hCD];exact hHC) hs',fin D' hHD⟩⟩
end
section
variable {κ:Type} [DecidableEq κ]
def fM (kvs:List (κ×V))(k:κ):Option V:=(kvs.find? fun kv=>decide (kv.1=k)).map (·.2)
def dQ (kvs:List (κ×V))(k:κ)(v:V):List (κ×V):=
 if (kvs.any fun kv=>decide (kv.1=k))=true then kvs.map (fun kv=>if kv.1=k then (kv.1,v) else kv) else kvs++[(k,v)]
def cF (kvs:List (κ×V))(k:κ):List (κ×V):=kvs.filter fun kv=>decide (kv.1≠k)
theorem cV{p:κ×V}{r:List (κ×V)}{k:κ}(e:p.1=k):fM (p::r) k=some p.2:=by simp[fM,AU,e]
theorem cy{p:κ×V}{r:List (κ×V)}{k:κ}(e:¬p.1=k):fM (p::r) k=fM r k:=by simp[fM,AU,e]
theorem jZ(k:κ):∀kvs:List (κ×V),(kvs.any fun kv=>decide (kv.1=k))=(fM kvs k).isSome
 |[]=>rfl
 |p::r=>by
  rw[Bb];by_cases e:p.1=k
  ·simp only[cV e,Dc e,Bool.true_or,Option.isSome_some]
  ·rw[cy e,Dd e,Bool.false_or];exact jZ k r
theorem cY(kvs:List (κ×V))(k:κ)(v:V):(dQ kvs k v).length<=kvs.length+1:=by
 unfold dQ;split
 ·rw[zF];lia
 ·rw[zG,Ah,BR];lia
theorem GG.Ey{o:Option V}{u:Option Value}(r:GG o u):o.isSome=u.isSome:=by
 cases o with
 |none=>cases u with
  |none=>rfl
  |some _=>exact(show False from r).elim
 |some _=>cases u with
  |none=>exact(show False from r).elim
  |some _=>rfl
theorem KV.val{kvs:List (κ×V)}{vs:List (κ×Value)}(r:KV kvs vs)(k:κ):GG (fM kvs k) (valueAt vs k):=by
 unfold KV at r;induction r with
 |nil=>exact True.intro
 |@cons p q ps qs h t ih=>
  obtain⟨h1,h2⟩:=h;by_cases e:p.1=k
  ·have e':q.1=k:=h1.symm.trans e;have b:valueAt (q::qs) k=some q.2:=by simp[valueAt,AU,e']
   rw[cV e,b];exact h2
  ·have e':¬q.1=k:=fun z=>e (h1.trans z);have b:valueAt (q::qs) k=valueAt qs k:=by simp[valueAt,AU,e']
   rw[cy e,b];exact ih
theorem KV.any{kvs:List (κ×V)}{vs:List (κ×Value)}(r:KV kvs vs)(k:κ):(kvs.any fun kv=>decide (kv.1=k))=vs.any fun kv=>decide (kv.1=k):=by
 unfold KV at r;induction r with
 |nil=>rfl
 |cons h t ih=>rw[Bb,Bb,ih,h.1]
theorem KV.Kf{kvs:List (κ×V)}{vs:List (κ×Value)}(r:KV kvs vs)(k:κ){y:V}{u:Value}(ry:RelV y u) :
  KV (kvs.map fun kv=>if kv.1=k then (kv.1,y) else kv) (vs.map fun kv=>if kv.1=k then (kv.1,u) else kv):=by
 unfold KV at r ⊢;induction r with
 |nil=>exact .nil
 |@cons p q ps qs h t ih=>
  rw[zZ,zZ];refine .cons ?_ ih;obtain⟨h1,h2⟩:=h;by_cases e:p.1=k
  ·rw[CZ e,CZ (h1.symm.trans e)];exact⟨h1,ry⟩
  ·rw[CY e,CY (fun z=>e (h1.trans z))];exact⟨h1,h2⟩
theorem KV.put{kvs:List (κ×V)}{vs:List (κ×Value)}(r:KV kvs vs)(k:κ){y:V}{u:Value}(ry:RelV y u):KV (dQ kvs k y) (stored vs k u):=by
 unfold dQ stored;rw[r.any k];by_cases e:(vs.any fun kv=>decide (kv.1=k))=true
 ·rw[CZ e,CZ e];exact r.Kf k ry
 ·rw[CY e,CY e];exact Paired.snoc r ⟨rfl,ry⟩
theorem KV.drop{kvs:List (κ×V)}{vs:List (κ×Value)}(r:KV kvs vs)(k:κ):KV (cF kvs k) (without vs k):=by
 unfold KV at r ⊢;unfold cF without;induction r with
 |nil=>exact .nil
 |@cons p q ps qs h t ih=>
  obtain⟨h1,h2⟩:=h;rw[Be,Be];by_cases e:p.1=k
  ·have a:¬decide (p.1≠k)=true:=by simp[e]
   have b:¬decide (q.1≠k)=true:=by simp[h1.symm.trans e]
   rw[CY a,CY b];exact ih
  ·have e':¬q.1=k:=fun z=>e (h1.trans z);have a:decide (p.1≠k)=true:=by simp[e]
   have b:decide (q.1≠k)=true:=by simp[e']
   rw[CZ a,CZ b];exact .cons ⟨h1,h2⟩ ih
theorem KV.keys{kvs:List (κ×V)}{vs:List (κ×Value)}(r:KV kvs vs):kvs.map (·.1)=vs.map (·.1):=by
 unfold KV at r;induction r with
 |nil=>rfl
 |cons h t ih=>rw[zZ,zZ,ih,h.1]
theorem KV.length{kvs:List (κ×V)}{vs:List (κ×Value)}(r:KV kvs vs):kvs.length=vs.length:=Paired.length r
theorem pY(kvs:List (κ×V))(k:κ):(cF kvs k).length<=kvs.length:=Bt _ _
end
theorem iI{P:Program}{w:World}{k:Key}{u:Value}(r:RelV (kV k) u):(aI P w).is k u=true:=by
 cases k with
 |inl i=>obtain⟨t,e⟩:=(show ∃t,u=Value.int i t from r);subst e;exact jj P w i t
 |inr x=>obtain⟨t,e⟩:=(show ∃t,u=Value.str x t from r);subst e;exact jG P w x t
theorem jc{P:Program}{w:World}:∀{ks:List Key}{us:List Value},Vals (ks.map kV) us->ItemsAre (aI P w) ks us
 |[],_,r=>by rw[List.map_nil] at r;cases r;exact .nil
 |k::ks,_,r=>by
  rw[zZ] at r;cases r with
  |cons h t=>exact .cons (iI h) (jc t)
abbrev KT(H:Hp):List (List Key×V)->List (List Key×Addr×Value)->Prop:=Paired fun p q=>p.1=q.1/\H q.2.1=some (.tup (p.1.map kV))/\RelV p.2 q.2.2
theorem KT.val{H:Hp}{kvs:List (List Key×V)}{xs:List (List Key×Addr×Value)}(r:KT H kvs xs)(k:List Key):GG (fM kvs k) ((atKey xs k).map (·.2)):=by
 induction r with
 |nil=>exact True.intro
 |@cons p q ps qs h t ih=>
  obtain⟨h1,_,h2⟩:=h;by_cases e:p.1=k
  ·have e':q.1=k:=h1.symm.trans e;have b:atKey (q::qs) k=some q.2:=by simp[atKey,AU,e']
   rw[cV e,b];exact h2
  ·have e':¬q.1=k:=fun z=>e (h1.trans z);have b:atKey (q::qs) k=atKey qs k:=by simp[atKey,AU,e']
   rw[cy e,b];exact ih
theorem KT.Kf{H:Hp}{kvs:List (List Key×V)}{xs:List (List Key×Addr×Value)}(r:KT H kvs xs)(k:List Key){y:V}{u:Value}(ry:RelV y u) :
  KT H (kvs.map fun kv=>if kv.1=k then (kv.1,y) else kv) (xs.map (putAt k u)):=by
 induction r with
 |nil=>exact .nil
 |@cons p q ps qs h t ih=>
  rw[zZ,zZ];refine .cons ?_ ih;obtain⟨h1,h2,h3⟩:=h;unfold putAt;by_cases e:p.1=k
  ·rw[CZ e,CZ (h1.symm.trans e)];exact⟨h1,h2,ry⟩
  ·rw[CY e,CY (fun z=>e (h1.trans z))];exact⟨h1,h2,h3⟩
theorem KT.put{H:Hp}{kvs:List (List Key×V)}{xs:List (List Key×Addr×Value)}(r:KT H kvs xs)(k:List Key){b:Addr}{y:V}{u:Value}(hb:H b=some (.tup (k.map kV)))(ry:RelV y u) :
  KT H (dQ kvs k y) (storedH xs k b u):=by
 have e:(kvs.any fun kv=>decide (kv.1=k))=(atKey xs k).isSome:=by
  rw[jZ,(r.val k).Ey,Cp]
 unfold dQ storedH;rw[e];by_cases q:(atKey xs k).isSome=true
 ·rw[CZ q,CZ q];exact r.Kf k ry
 ·rw[CY q,CY q];exact Paired.snoc r ⟨rfl,hb,ry⟩
theorem KT.keeps{H H':Hp}{kvs:List (List Key×V)}{xs:List (List Key×Addr×Value)}(r:KT H kvs xs)(ht:∀b ys,H b=some (.tup ys)->H' b=some (.tup ys)):KT H' kvs xs:=
 Paired.EW r fun _ _ z=>⟨z.1,ht _ _ z.2.1,z.2.2⟩
section
variable {P:Program}{w:World}{H:Hp}{h:Heap}{a:Addr}
theorem ue{u:HO}(ok:HOk P w H h)(e:Rd H a u):Ed P w H h a u:=e.ok ok
theorem kU{kvs:List (Key×V)}(ok:HOk P w H h)(e:Rd H a (.dK kvs)):kvs.length<=sizeLine/\(a==sysModules)=false/\∃vs,KV kvs vs/\h.DictOf (aI P w) a vs:=
 show Ed P w H h a (.dK kvs) from ue ok e
theorem qb{kvs:List (Key×V)}(ok:HOk P w H h)(e:H a=some (.dK kvs)):kvs.length<=sizeLine/\(a==sysModules)=false/\∃vs,KV kvs vs/\h.DictOf (aI P w) a vs:=kU ok (.inl e)
theorem iO{ks:List Key}(ok:HOk P w H h)(e:H a=some (.tup (ks.map kV))):(tupleKind (aI P w)).is h ks a:=by
 obtain⟨_,its,r,o,h1,h2,n,h3⟩:=(show Ed P w H h a (.tup (ks.map kV)) from ok a _ e)
 exact⟨o,its.toArray,n,h1,h2,h3,by simpa using jc r⟩
theorem kL{kvs:List (List Key×V)}(ok:HOk P w H h)(e:Rd H a (.dT kvs)):kvs.length<=sizeLine/\(a==sysModules)=false /\
  ∃xs,KT H kvs xs/\h.DictOfH (tupleKind (aI P w)) a xs:=by
 obtain⟨z,y,xs,r,o,es,ep,h1,h2,h3,h4,h5⟩:=(show Ed P w H h a (.dT kvs) from ue ok e)
 refine⟨z,y,xs,r,o,es,ep,h1,h2,h3,h4,fun x hx=>?_,h5⟩;have all:∀{l:List (List Key×V)}{m:List (List Key×Addr×Value)},KT H l m->∀x∈m,(tupleKind (aI P w)).is h x.1 x.2.1:=by
  intro l m q;induction q with
  |nil=>intro x hx;exact nomatch hx
  |@cons p q ps qs hq t ih=>
   intro x hx;rcases zU.mp hx with e|hx
   ·subst e;exact iO ok (by rw[<- hq.1];exact hq.2.1)
   ·exact ih x hx
 exact all r x hx
theorem wG{kvs:List (List Key×V)}(ok:HOk P w H h)(e:H a=some (.dT kvs)):kvs.length<=sizeLine/\(a==sysModules)=false /\
  ∃xs,KT H kvs xs/\h.DictOfH (tupleKind (aI P w)) a xs:=kL ok (.inl e)
end
def Fz (H:Hp)(a:Addr)(y:V)(r:Option V):Prop:=
 (∃kvs k,Rd H a (.dK kvs)/\y=kV k/\r=fM kvs k)\/∃kvs k b,Rd H a (.dT kvs)/\y=.ref b/\H b=some (.tup (k.map kV))/\r=fM kvs k
def Iv (H:Hp)(a:Addr)(y v:V)(H':Hp):Prop:=
 (∃kvs k,H a=some (.dK kvs)/\y=kV k/\kvs.length<sizeLine/\H'=upd H a (.dK (dQ kvs k v))) \/
 ∃kvs k b,H a=some (.dT kvs)/\y=.ref b/\H b=some (.tup (k.map kV))/\kvs.length<sizeLine/\H'=upd H a (.dT (dQ kvs k v))
theorem Fz.k{H:Hp}{a:Addr}{kvs:List (Key×V)}{k:Key}(e:H a=some (.dK kvs)):Fz H a (kV k) (fM kvs k):=.inl ⟨kvs,k,.inl e,rfl,rfl⟩
theorem Iv.k{H:Hp}{a:Addr}{kvs:List (Key×V)}{k:Key}{v:V}(e:H a=some (.dK kvs))(hl:kvs.length<sizeLine):Iv H a (kV k) v (upd H a (.dK (dQ kvs k v))):=.inl ⟨kvs,k,e,rfl,hl,rfl⟩
section
variable {X:Cx}{pins:List (Addr×Obj)}{σ:St}{H:Hp}{s:Shared}{a:Addr}{y v:V}{u r:Value}{o:Option V}{A:Around}{E:Value->Shared->Prop}
theorem Inv.big(I:Inv X pins σ H s):sysModules<s.heap.objs.size:=by
 have h:mainGlobals<s.heap.objs.size:=(I.mod.glob.keeps I.bk).lt;exact BD (by decide) h
theorem mS{Q:Value->Shared->Prop}(hu:A.units+1<cLine)(I:Inv X pins σ H s)(g:Fz H a y (some v))(ry:RelV y u)(h:∀w' s',Inv X pins σ H s'->RelV v w'->Q w' s') :
  wpAny (model X.prog X.w) A (getItem (.ref a) u) Q E s:=by
 rcases g with ⟨kvs,k,e,ey,l⟩|⟨kvs,k,b,e,ey,eb,l⟩
 ·subst ey;obtain⟨z,hd,vs,rel,dd⟩:=kU I.hok e;obtain⟨w',hw,rw'⟩:=GG.some_of (v:=v) (o:=valueAt vs k) (by rw[l];exact rel.val k);exact wpAny_getItem_of (iI ry) dd.mapOf hw (h w' _ (I.tok _) rw')
 ·subst ey;cases (show u=Value.ref b from ry);obtain⟨z,hd,xs,rel,dd⟩:=kL I.hok e;obtain⟨w',hw,rw'⟩:=GG.some_of (v:=v) (o:=(atKey xs k).map (·.2)) (by rw[l];exact rel.val k);obtain⟨p,hp,hp2⟩:=AV.mp hw;refine wpAny_getItem_heap (tupleKind_room_in1 hu) (iO I.hok eb) dd hp ?_;rw[hp2];exact h w' _ (I.tok _) rw'
theorem d_in{Q:Value->Shared->Prop}(hu:A.units+1<cLine)(I:Inv X pins σ H s)(g:Fz H a y o)(ry:RelV y u)(h:∀s',Inv X pins σ H s'->Q (.bool o.isSome) s') :
  wpAny (model X.prog X.w) A (compareOp .In u (.ref a)) Q E s:=by
 rcases g with ⟨kvs,k,e,ey,l⟩|⟨kvs,k,b,e,ey,eb,l⟩
 ·subst ey;obtain⟨z,hd,vs,rel,dd⟩:=kU I.hok e;refine wpAny_in_of (iI ry) hd dd.mapOf ?_;rw[<- (rel.val k).Ey,<- l];exact h _ (I.tok _)
 ·subst ey;cases (show u=Value.ref b from ry);obtain⟨z,hd,xs,rel,dd⟩:=kL I.hok e;refine wpAny_in_heap (tupleKind_room_in1 hu) (iO I.hok eb) hd dd ?_;have q:=(rel.val k).Ey;rw[Cp] at q;rw[<- q,<- l];exact h _ (I.tok _)
theorem sW{Q:Value->Shared->Prop}(hu:A.units+1<cLine)(I:Inv X pins σ H s)(g:Fz H a y o)(ry:RelV y u)(h:∀s',Inv X pins σ H s'->Q (.bool (!o.isSome)) s') :
  wpAny (model X.prog X.w) A (compareOp .NotIn u (.ref a)) Q E s:=by
 rcases g with ⟨kvs,k,e,ey,l⟩|⟨kvs,k,b,e,ey,eb,l⟩
 ·subst ey;obtain⟨z,hd,vs,rel,dd⟩:=kU I.hok e;refine wpAny_notIn_of (iI ry) hd dd.mapOf ?_;rw[<- (rel.val k).Ey,<- l];exact h _ (I.tok _)
 ·subst ey;cases (show u=Value.ref b from ry);obtain⟨z,hd,xs,rel,dd⟩:=kL I.hok e;refine wpAny_notIn_heap (tupleKind_room_in1 hu) (iO I.hok eb) hd dd ?_;have q:=(rel.val k).Ey;rw[Cp] at q;rw[<- q,<- l];exact h _ (I.tok _)
theorem gK{h':Heap}{t':Nat}{ob:HO}(I:Inv X pins σ H s)(mu:Mut (H a))(hs:Heap.SameBut a s.heap h')(he:∃q,h'.get? a=some q)(new:Ed X.prog X.w (upd H a ob) h' a ob) :
  Inv X pins σ (upd H a ob) {s with heap:=h',toks:=t'}:=
 I.write (x:=a) (e:=a) mu (.inl rfl) (fun b q hb z=>(hs.2 b hb).trans z) he new
theorem mn{P:Program}{w:World}{H':Hp}{h':Heap}{kvs:List (Key×V)}{vs:List (Key×Value)}(z:kvs.length<=sizeLine)(hd:(a==sysModules)=false)(rel:KV kvs vs)(dd:h'.DictOf (aI P w) a vs) :
  Ed P w H' h' a (.dK kvs):=⟨z,hd,vs,rel,dd⟩
theorem mK{H':Hp}{Q:Unit->Shared->Prop}(hu:A.units+1<cLine)(I:Inv X pins σ H s)(g:Iv H a y v H')(ry:RelV y u)(rv:RelV v r)(h:∀s',Inv X pins σ H' s'->Q () s') :
  wpAny (model X.prog X.w) A (setItem (.ref a) u r) Q E s:=by
 rcases g with ⟨kvs,k,e,ey,l,eH⟩|⟨kvs,k,b,e,ey,eb,l,eH⟩
 ·subst ey eH;obtain⟨z,hd,vs,rel,dd⟩:=qb I.hok e;have hz:vs.length<=sizeLine:=by rw[<- rel.length];exact z
  have hl:(dQ kvs k v).length<=sizeLine:=by have:=cY kvs k v;lia
  refine wpAny_setItem_pairs (hsz:=hz) (iI ry) dd fun h' dd' hs=>h _ ?_;have he:∃q,h'.get? a=some q:=let ⟨q,_,_,hq,_⟩:=dd';⟨q,hq⟩;exact gK I (by rw[e];exact True.intro) hs he (mn hl hd (rel.put k rv) dd')
 ·subst ey eH;cases (show u=Value.ref b from ry);obtain⟨z,hd,xs,rel,dd⟩:=wG I.hok e;have hz:xs.length<=sizeLine:=by rw[<- Paired.length rel];exact z
  have hl:(dQ kvs k v).length<=sizeLine:=by have:=cY kvs k v;lia
  refine wpAny_setItem_heap (hsz:=hz) (tupleKind_room_in1 hu) (iO I.hok eb) dd fun h' dd' hs=>h _ ?_;obtain⟨q,es,ep,hq,h2,h3,h4,_,h5⟩:=dd';refine gK I (by rw[e];exact True.intro) hs ⟨q,hq⟩ ⟨hl,hd,_,(rel.put k eb rv).keeps fun c ys ec=>?_,q,es,ep,hq,h2,h3,h4,h5⟩;rw[aq (cD ec e (fun z=>nomatch z))];exact ec
end
section
variable {X:Cx}{pins:List (Addr×Obj)}{σ:St}{H:Hp}{s:Shared}{a:Addr}{kvs:List (Key×V)}{k:Key}{u:Value}{A:Around}{E:Value->Shared->Prop}
theorem vJ{v:V}{more:List Value}{Q:Value->Shared->Prop}(I:Inv X pins σ H s)(e:H a=some (.dK kvs))(ry:RelV (kV k) u)(l:fM kvs k=some v)(hm:more=[]\/∃x,more=[x])
  (h:∀w' s',Inv X pins σ (upd H a (.dK (cF kvs k))) s'->RelV v w'->Q w' s'):wpAny (model X.prog X.w) A (call (.builtin "dict.pop") (.ref a::u::more)) Q E s:=by
 obtain⟨z,hd,vs,rel,dd⟩:=qb I.hok e;obtain⟨w',hw,rw'⟩:=GG.some_of (v:=v) (o:=valueAt vs k) (by rw[<- l];exact rel.val k);have hp:(keyPart u).isSome=true:=by
  cases k with
  |inl i=>obtain⟨t,q⟩:=(show ∃t,u=Value.int i t from ry);subst q;rfl
  |inr x=>obtain⟨t,q⟩:=(show ∃t,u=Value.str x t from ry);subst q;rfl
 have ha:argsOk "dict.pop" ⟨.ref a::u::more,[]⟩:=by
  rcases hm with q|⟨x,q⟩
  ·subst q;exact PySem.F.args_dict_pop_2 _ _
  ·subst q;exact PySem.F.args_dict_pop_3 _ _ _
 refine call_meetsIn PySem.F.slot_dict_pop dd.typeIs PySem.F.entry_dict_pop ha (meets_dict_pop_there (aI X.prog X.w) a (iI ry) more hm hp)
  ⟨vs,w',dd,by rw[<- rel.length];exact z,hw,fun h' dd' hs=>h w' _ ?_ rw'⟩
 have he:∃q,h'.get? a=some q:=let ⟨q,_,_,hq,_⟩:=dd';⟨q,hq⟩;exact gK I (by rw[e];exact True.intro) hs he (mn (zO (pY kvs k) z) hd (rel.drop k) dd')
end
def xb (i:Expr):Prop:=∀ov iv,subscripted i false ov iv=operate [ov,iv] (getItem ov iv)
theorem sr{prog:Program}{w:World}{A:Around}{E:Value->Shared->Prop}{s:Shared}{env:Env}{value slice:Expr}{pos:Pos}{T id:String}{Q:Value->Shared->Prop}
  (hl:typeLookup (.type T) "__getitem__"=pure (some (.builtin id)))(hs:xb slice)
  (h:wpAny (model prog w) A (eval value env) (fun o s₁=>wpAny (model prog w) A (eval slice env) (fun i s₂=>s₂.TypeIs o T/\wpAny (model prog w) A (getItem o i) Q E s₂) E s₁) E s) :
  wpAny (model prog w) A (eval (.Subscript value slice pos) env) Q E s:=by
 refine Subscript_ (De h (fun o s₁ h₁=>De h₁ (fun i s₂ h₂=>?_) fun _ _ x=>x) fun _ _ x=>x);obtain⟨hT,h₂⟩:=h₂;unfold subscriptTail;refine CT ?_;rw[getitemInPython_of_ne hT.not_modules];refine CT (wpAny_specialOf hT hl ?_);have fin:wpAny (model prog w) A (subscripted slice false o i) (fun r s₃=>wpAny (model prog w) A (letTemporaryGo value o r >>= fun _=>pure r) Q E s₃) E s₂:=by
  rw[hs o i];exact wpAny_operating (De h₂ (fun r s₃ h₃=>CT (wpAny_letTemporaryGo (CU h₃))) fun _ _ x=>x)
 first
  |exact CU (CT fin)
  |exact CT (CU (CT fin))
  |exact CT fin
theorem jF{X:Cx}{pins:List (Addr×Obj)}{σ:St}{H:Hp}{s:Shared}{a:Addr}{y:V}{o:Option V}(I:Inv X pins σ H s)(g:Fz H a y o):s.TypeIs (.ref a) "dict":=by
 rcases g with ⟨kvs,k,e,_,_⟩|⟨kvs,k,b,e,_,_,_⟩
 ·obtain⟨_,_,vs,_,dd⟩:=kU I.hok e;exact dd.typeIs
 ·obtain⟨_,_,xs,_,dd⟩:=kL I.hok e;exact dd.typeIs
def vN (td ty:TE):TE:=fun σ H Q=>td σ H fun x H1=>ty σ H1 fun y H2=>∃a v,x=.ref a/\Fz H2 a y (some v)/\Q v H2
def tDIn (ty td:TE):TE:=fun σ H Q=>ty σ H fun y H1=>td σ H1 fun x H2=>∃a o,x=.ref a/\Fz H2 a y o/\Q (.bl o.isSome) H2
def rY (ty td:TE):TE:=fun σ H Q=>ty σ H fun y H1=>td σ H1 fun x H2=>∃a o,x=.ref a/\Fz H2 a y o/\Q (.bl (!o.isSome)) H2
def wF (td ty tv:TE):TS:=fun D σ H=>tv σ H fun v H1=>td σ H1 fun x H2=>ty σ H2 fun y H3=>∃a H4,x=.ref a/\Iv H3 a y v H4/\D.nx σ H4
section
variable {X:Cx}{o i e value:Expr}{pos pos' tpos:Pos}{td ty tv:TE}
theorem jN(hu:X.A.units+1<cLine)(ho:PE X o td)(hi:PE X i ty)(hs:xb i):PE X (.Subscript o i pos) (vN td ty):=by
 intro pins s σ H Q I h;refine sr PySem.F.slot_dict_getitem.lookup hs (thn (ho pins s σ H _ I h) fun u s1 hq55=>?_);obtain⟨x,H1,I1,rx,q1⟩:=hq55;refine thn (hi pins s1 σ H1 _ I1 q1) fun iv s2 ⟨y,H2,I2,ry,a,v,ex,g,q2⟩=>?_;subst ex;obtain rfl:u=Value.ref a:=rx;exact⟨jF I2 g,mS hu I2 g ry fun w' s3 I3 rw'=>⟨v,H2,I3,rw',q2⟩⟩
theorem rh(hu:X.A.units+1<cLine)(hi:PE X i ty)(ho:PE X o td):PC X .In i o (tDIn ty td):=by
 intro pins s σ H Q I h;refine thn (hi pins s σ H _ I h) fun iv s1 hq56=>?_;obtain⟨y,H1,I1,ry,q1⟩:=hq56;refine thn (ho pins s1 σ H1 _ I1 q1) fun u s2 ⟨x,H2,I2,rx,a,ov,ex,g,q2⟩=>?_;subst ex;obtain rfl:u=Value.ref a:=rx;exact d_in hu I2 g ry fun s3 I3=>⟨.bl ov.isSome,H2,I3,rfl,q2⟩
theorem dC(hu:X.A.units+1<cLine)(hi:PE X i ty)(ho:PE X o td):PC X .NotIn i o (rY ty td):=by
 intro pins s σ H Q I h;refine thn (hi pins s σ H _ I h) fun iv s1 hq57=>?_;obtain⟨y,H1,I1,ry,q1⟩:=hq57;refine thn (ho pins s1 σ H1 _ I1 q1) fun u s2 ⟨x,H2,I2,rx,a,ov,ex,g,q2⟩=>?_;subst ex;obtain rfl:u=Value.ref a:=rx;exact sW hu I2 g ry fun s3 I3=>⟨.bl (!ov.isSome),H2,I3,rfl,q2⟩
theorem gr(hu:X.A.units+1<cLine)(ho:PE X o td)(hi:PE X i ty)(hv:PE X value tv)(hs:swapsWith value (some (.Subscript o i pos')) pos.line X.env=pure false) :
  PS X (.Assign [.Subscript o i pos'] value pos) (wF td ty tv):=by
 intro pins s σ H D I h;refine wpAny_Assign_Subscript (thn (hv pins s σ H _ I h) fun r s1 hq58=>?_) hs;obtain⟨v,H1,I1,rv,q1⟩:=hq58;refine thn (ho pins s1 σ H1 _ I1 q1) fun u s2 ⟨x,H2,I2,rx,q2⟩=>thn (hi pins s2 σ H2 _ I2 q2) fun iv s3 ⟨y,H3,I3,ry,a,H4,ex,g,q3⟩=>?_;subst ex;obtain rfl:u=Value.ref a:=rx;exact mK hu I3 g ry rv fun s4 I4=>⟨σ,H4,I4,q3⟩
end
theorem kz{P:Program}{w:World}{H:Hp}(h:Heap)(hb:sysModules<h.objs.size):Ed P w H (h.push {cls:=.type "dict",data:=.dict #[]}) h.objs.size (.dK []):=
 ⟨zX _,beq_eq_false_iff_ne.mpr (Dv (zJ hb)),[],.nil,Heap.DictOf.new h⟩
def Jw:TE:=fun _ H Q=>∀p,H p=none->Q (.ref p) (upd H p (.dK []))
section
variable {X:Cx}{pos:Pos}
theorem EN:PE X (.Dict [] [] pos) Jw:=fun pins s σ H Q I h=>
 wpAny_Dict_empty ⟨.ref s.heap.objs.size,_,I.laid (a:=s.heap.objs.size) (o:=.dK []) (t':=s.toks) (fun _ _ q=>Dw _ q) (zE _) (kz s.heap I.big),rfl,h _ (I.hok.fresh (zE _))⟩
end
def Hn:List (TE×TE)->St->Hp->(List (V×V)->Hp->Prop)->Prop
 |[],_,H,Q=>Q [] H
 |(tk,tv)::r,σ,H,Q=>tk σ H fun x H1=>tv σ H1 fun y H2=>Hn r σ H2 fun ps H3=>Q ((x,y)::ps) H3
abbrev VV:List (V×V)->List (Value×Value)->Prop:=Paired fun p q=>RelV p.1 q.1/\RelV p.2 q.2
def PPs (X:Cx)(pos:Pos)(keys:List (Option Expr))(values:List Expr)(trs:List (TE×TE)):Prop:=
 ∀(pins:List (Addr×Obj))(s:Shared)(σ:St)(H:Hp)(Q:List (V×V)->Hp->Prop),Inv X pins σ H s->Hn trs σ H Q ->
  (wq X) (evalPairs (pairTrees keys values X.env pos)) (fun vs s'=>∃ps H',Inv X pins σ H' s'/\VV ps vs/\Q ps H') X.xe s
theorem mJ{X:Cx}{pos:Pos}:PPs X pos [] [] []:=fun pins s σ H Q I h=>pairTrees_nil_walk ⟨[],H,I,.nil,h⟩
theorem cQ{X:Cx}{pos:Pos}{k v:Expr}{ks:List (Option Expr)}{vs:List Expr}{tk tv:TE}{trs:List (TE×TE)}(hk:PE X k tk)(hv:PE X v tv)(hr:PPs X pos ks vs trs) :
  PPs X pos (some k::ks) (v::vs) ((tk,tv)::trs):=fun pins s σ H Q I h=>
 pairTrees_cons_walk (thn (hk pins s σ H _ I h) fun u s1 ⟨x,H1,I1,rx,q1⟩=>thn (hv pins s1 σ H1 _ I1 q1) fun w2 s2 ⟨y,H2,I2,ry,q2⟩ =>
  thn (hr pins s2 σ H2 _ I2 q2) fun ws s3 ⟨ps,H3,I3,rel,q3⟩=>⟨(x,y)::ps,H3,I3,.cons ⟨rx,ry⟩ rel,q3⟩)
def cC (kvs more:List (Key×V)):List (Key×V):=more.foldl (fun acc kv=>dQ acc kv.1 kv.2) kvs
theorem KV.merge:∀{more:List (Key×V)}{rs:List (Key×Value)}{kvs:List (Key×V)}{vs:List (Key×Value)},KV more rs->KV kvs vs->KV (cC kvs more) (merged vs rs):=by
 intro more rs kvs vs r;unfold KV at r;induction r generalizing kvs vs with
 |nil=>intro q;exact q
 |@cons p q ps qs h t ih=>
  intro r0;have e:KV (dQ kvs p.1 p.2) (stored vs q.1 q.2):=by
   have:=r0.put p.1 h.2;rw[<- h.1];exact this
  exact ih e
theorem Eu:∀(more kvs:List (Key×V)),(cC kvs more).length<=kvs.length+more.length
 |[],kvs=>by show kvs.length<=kvs.length+0;lia
 |p::r,kvs=>by
  have h1:=Eu r (dQ kvs p.1 p.2);have h2:=cY kvs p.1 p.2;show(cC (dQ kvs p.1 p.2) r).length<=_;rw[Ah];lia
theorem fT{P:Program}{w:World}:∀{kvs:List (Key×V)}{ws:List (Value×Value)},VV (kvs.map fun kv=>(kV kv.1,kv.2)) ws->∃rs,Carries (aI P w) ws rs/\KV kvs rs
 |[],_,r=>by rw[List.map_nil] at r;cases r;exact⟨[],True.intro,.nil⟩
 |p::kvs,_,r=>by
  rw[zZ] at r;cases r with
  |@cons a b as bs h t=>
   obtain⟨rs,c,q⟩:=fT (P:=P) (w:=w) t;obtain⟨b1,b2⟩:=b;exact⟨(p.1,b2)::rs,⟨iI h.1,rfl,c⟩,.cons ⟨rfl,h.2⟩ q⟩
def wM (trs:List (TE×TE)):TE:=fun σ H Q=>∀p,H p=none->Hn trs σ (upd H p (.dK [])) fun ps H2=>H2 p=some (.dK [])/\∃kvs:List (Key×V),ps=kvs.map (fun kv=>(kV kv.1,kv.2))/\kvs.length<=15/\Q (.ref p) (upd H2 p (.dK (cC [] kvs)))
theorem nE{X:Cx}{pos:Pos}{keys:List (Option Expr)}{values:List Expr}{trs:List (TE×TE)}(h:PPs X pos keys values trs)(hall:keys.all (·.isSome)=true)(hl:keys.length=values.length)(h0:keys≠[])
  (h15:keys.length<=15):PE X (.Dict keys values pos) (wM trs):=by
 intro pins s σ H Q I q;have hn:=I.hok.fresh (zE s.heap.objs.size);have I1:=I.laid (a:=s.heap.objs.size) (o:=.dK []) (h':=s.heap.push {cls:=.type "dict",data:=.dict #[]}) (t':=s.toks) (fun _ _ q=>Dw _ q) (zE _) (kz s.heap I.big);refine wpAny_Dict_walk (knd:=aI X.prog X.w) hall hl h0 h15 (thn (h pins _ σ _ _ I1 (q _ hn)) fun ws s2 hq59=>?_);obtain⟨ps,H2,I2,rel,e,kvs,ep,lk,q2⟩:=hq59;subst ep;obtain⟨rs,c,rk⟩:=fT (P:=X.prog) (w:=X.w) rel;obtain⟨z,hd,vs0,r0,dd⟩:=qb I2.hok e;cases r0;refine⟨rs,c,dd,fun h' dd' hs=>⟨.ref s.heap.objs.size,_,?_,rfl,q2⟩⟩;have hz:(cC [] kvs).length<=sizeLine:=by
  have h1:=Eu kvs [];rw[BR] at h1;rw[sizeLine_eq];lia
 have he:∃q,h'.get? s.heap.objs.size=some q:=let ⟨q,_,_,hq,_⟩:=dd';⟨q,hq⟩;exact gK I2 (by rw[e];exact True.intro) hs he (mn hz hd (rk.merge .nil) dd')
structure M1(X:Cx)(o:Expr)(m:Str)(apos:Pos)(e:Expr)(cpos:Pos):Prop where
 base:attributeBase o m X.env (eval o X.env)=eval o X.env
 few:((backTo cpos (starEach [e] X.env)).all (fun x=>!x.1) && (backToKw cpos (keywordEach [] X.env)).all (fun x=>x.1.isSome)
  && decide (([e]:List Expr).length+([]:List Keyword).length+(if ([]:List Keyword).isEmpty then 0 else 1) < 30))=true
 line:(apos.endLine==cpos.line)=true
 trees:backTo cpos (starEach [e] X.env)=[(false,eval e X.env)]
def IsD (H:Hp)(a:Addr):Prop:=(∃kvs,Rd H a (.dK kvs))\/∃kvs,Rd H a (.dT kvs)
theorem uM{X:Cx}{pins:List (Addr×Obj)}{σ:St}{H:Hp}{s:Shared}{a:Addr}(I:Inv X pins σ H s)(d:IsD H a) :
  s.TypeIs (.ref a) "dict"/\(∀b,Value.ref a=.ref b->∃ob,s.heap.get? b=some ob/\ob.dict=none)/\(a==sysModules)=false:=by
 rcases d with ⟨kvs,e⟩|⟨kvs,e⟩
 ·obtain⟨_,hd,vs,_,dd⟩:=kU I.hok e;refine⟨dd.typeIs,fun b q=>?_,hd⟩;cases q;obtain⟨ob,_,_,h1,h2,_⟩:=dd;exact⟨ob,h1,h2.2.1⟩
 ·obtain⟨_,hd,xs,_,dd⟩:=kL I.hok e;refine⟨dd.typeIs,fun b q=>?_,hd⟩;cases q;obtain⟨ob,_,_,h1,h2,_⟩:=dd;exact⟨ob,h1,h2.2.1⟩
def uE (td ty:TE):TE:=fun σ H Q=>td σ H fun x H1=>∃a,x=.ref a/\IsD H1 a/\ty σ H1 fun y H2=>∃kvs k v,H2 a=some (.dK kvs)/\y=kV k/\fM kvs k=some v/\Q v (upd H2 a (.dK (cF kvs k)))
section
variable {X:Cx}{o e f:Expr}{apos cpos:Pos}{td ty tx:TE}
theorem qg(ho:PE X o td)(he:PE X e ty)(m:M1 X o "pop" apos e cpos):PE X (.Call (.Attribute o "pop" apos) [e] [] cpos) (uE td ty):=by
 intro pins s σ H Q I h;refine wpAny_Call_method m.base m.few m.line PySem.F.plainAttrs_dict PySem.F.slot_dict_pop PySem.F.type_dict_pop (thn (ho pins s σ H _ I h) fun u s1 hq60=>?_);obtain⟨x,H1,I1,rx,a,ex,d,q1⟩:=hq60;subst ex;obtain rfl:u=Value.ref a:=rx;obtain⟨t1,t2,_⟩:=uM I1 d;refine⟨t1,t2,?_⟩;rw[m.trees];refine Calls.callWith_builtin rfl (Calls.evalArgs_plain (Calls.spliced_cons (thn (he pins s1 σ H1 _ I1 q1) fun iv s2 hq61=>?_)));obtain⟨y,H2,I2,ry,kvs,k,v,ea,ey,l,q2⟩:=hq61;refine Calls.spliced_nil ?_;subst ey;exact vJ I2 ea ry l (.inl rfl) fun w' s3 I3 rw'=>⟨v,_,I3,rw',q2⟩
end
mutual
inductive EF(K:W.Frag)(H:Hp):V->PyData->Prop
 |non:EF K H .non .none
 |bl (b:Bool):EF K H (.bl b) (.bool b)
 |int (i:Int):EF K H (.int i) (.int i)
 |str (x:Str):EF K H (.str x) (.str x)
 |lst {a:Addr}{xs:List V}{ds:List PyData}:SqL K H a xs->DatAll K H xs ds->EF K H (.ref a) (.list ds)
 |tup {a:Addr}{xs:List V}{ds:List PyData}:SqT K H a xs->DatAll K H xs ds->EF K H (.ref a) (.tuple ds)
inductive DatAll(K:W.Frag)(H:Hp):List V->List PyData->Prop
 |nil:DatAll K H [] []
 |cons {v:V}{d:PyData}{vs:List V}{ds:List PyData}:EF K H v d->DatAll K H vs ds->DatAll K H (v::vs) (d::ds)
end
theorem DO.Kc{K:W.Frag}{H H':Hp}{a:Addr}{xs:List V}(e:DO H H')(h:SqT K H a xs):SqT K H' a xs:=by
 rcases h with (h|⟨o,h⟩)|h
 ·exact .inl (.inl (e _ _ h))
 ·exact .inl (.inr ⟨o,e _ _ h⟩)
 ·exact .inr h
theorem ag{H:Hp}{p:Addr}(h:H p=none)(o:HO):DO H (upd H p o):=fun b u q=>by rw[aq (ax q h)];exact q
section
variable {X:Cx}{pins:List (Addr×Obj)}{σ:St}{H:Hp}{s:Shared}
mutual
theorem Inv.reads(I:Inv X pins σ H s):∀{v:V}{d:PyData}{u:Value},EF X.K H v d->RelV v u->∃as,Reads s.heap u d as
 |_,_,_,.non,r=>by cases r;exact⟨_,.none⟩
 |_,_,_,.bl b,r=>by cases r;exact⟨_,.bool b⟩
 |_,_,_,.int i,r=>by obtain⟨t,rfl⟩:=r;exact⟨_,.int i t⟩
 |_,_,_,.str x,r=>by obtain⟨t,rfl⟩:=r;exact⟨_,.str x t⟩
 |_,_,_,.lst h q,r=>by
  cases r;obtain⟨its,rv,⟨o,n,e,c,dd,d⟩,hz⟩:=I.list h;obtain⟨as,z⟩:=I.readsAll q rv;exact⟨_,.list e c d (by simpa using z)⟩
 |_,_,_,.tup h q,r=>by
  cases r;obtain⟨its,rv,⟨o,e,c,n,d⟩,hz⟩:=I.tuple h;obtain⟨as,z⟩:=I.readsAll q rv;exact⟨_,.tuple e c d (by simpa using z)⟩
theorem Inv.readsAll(I:Inv X pins σ H s):∀{vs:List V}{ds:List PyData}{us:List Value},DatAll X.K H vs ds->Vals vs us->∃as,ReadsAll s.heap us ds as
 |_,_,_,.nil,.nil=>⟨_,.nil⟩
 |_,_,_,.cons h q,.cons r t=>by
  obtain⟨as,z⟩:=I.reads h r;obtain⟨bs,y⟩:=I.readsAll q t;exact⟨_,.cons z y⟩
end
def wY (K:W.Frag)(neg:Bool):R2:=fun x y H Q=>∃d e,EF K H x d/\EF K H y e/\d.canLay0=true/\e.canLay0=true/\d.depth<=60/\Q (.bl (if neg then !PyData.eqv d e else PyData.eqv d e)) H
theorem uP(hu:X.A.units+64<cLine):OpR X (compareOp .Eq) (wY X.K false):=by
 intro pins s σ H x y v u Q I rx ry h;obtain⟨d,e,hd,he,c1,c2,hp,q⟩:=h;obtain⟨as,ra⟩:=I.reads hd rx;obtain⟨bs,rb⟩:=I.reads he ry;exact SeqAt.compareEq_reads ra rb c1 c2 (by have:=BE d.depth e.depth;lia) ⟨.bl _,H,I,rfl,q⟩
theorem fB(hu:X.A.units+64<cLine):OpR X (compareOp .NotEq) (wY X.K true):=by
 intro pins s σ H x y v u Q I rx ry h;obtain⟨d,e,hd,he,c1,c2,hp,q⟩:=h;obtain⟨as,ra⟩:=I.reads hd rx;obtain⟨bs,rb⟩:=I.reads he ry;exact SeqAt.compareNe_reads ra rb c1 c2 (by have:=BE d.depth e.depth;lia) ⟨.bl _,H,I,rfl,q⟩
end
def vG (i j:Int):Prop:=Builtin.Int.intBits i<=2^20/\Builtin.Int.intBits j<=2^20
theorem fu{X:Cx}:OpR X (binaryOp .Mult) (rI vG fun i j=>.int (i*j)):=opI fun _ _ _ _ _ _ _ hc q=>mul_int q (IntMulOk.of_bits hc.1 hc.2)
def Its (x:Str):It:=⟨fun i _=>i<x.cps.size,fun i H v H'=>H'=H/\∃c,x.cps[i]?=some c/\v=.str ⟨#[c]⟩,fun i _=>x.cps.size<=i⟩
theorem qc{P:Program}{w:World}{K:W.Frag}{tg:Expr}(it:Addr)(x:Str)(t:Tok):Turn P w K tg (Its x) [it] it (fun i h=>h.IsStrIter it "str_ascii_iterator" x t i) where
 mem:=by simp
 obj:=fun i h st b hb=>by
  have e:b=it:=by simpa using hb
  subst e;obtain⟨o,e,c,d⟩:=st;exact⟨o,e,fun v z=>by rw[d] at z;cases z⟩
 keep:=fun i h h' st k=>by
  obtain⟨o,e,r⟩:=st;exact⟨o,k it (by simp) o e,r⟩
 item:=by
  intro X hP hw hK hc i pins s σ H E I hf st hg;subst hP hw hK;obtain⟨f0,f1,f2,f3,f4,f5⟩:=hf it (by simp);have hi:i<x.cps.size:=hg;refine wpAny_pyNext_ascii_item st (c:=x.cps[i]) (by simp[hi]) fun h' st' sb=>?_;have I1:Inv X pins σ H {s with heap:=h',toks:=s.toks+1}:=I.turned (fun b o hb e=>(sb.2 b hb).trans e) f0 f1 f3 f4 f5;obtain⟨o,e,c,d⟩:=id st';exact⟨_,rfl,nU (s:={s with heap:=h',toks:=s.toks+1}) e c d (by decide) ⟨.str ⟨#[x.cps[i]]⟩,H,I1,⟨_,rfl⟩,⟨rfl,_,by simp[hi],rfl⟩,st',fun b hb=>(hf b hb).1⟩⟩
 done:=by
  intro X hP hw hK hc i pins s σ H E I hf st hg;subst hP hw hK;obtain⟨f0,f1,f2,f3,f4,f5⟩:=hf it (by simp);have hi:x.cps.size<=i:=hg;exact wpAny_pyNext_ascii_end (I.ok.hd hc) st (by simp;lia) fun h' eb=>⟨rfl,I.turned (t':=s.toks) (fun b o hb e=>eb b o hb e) f0 f1 f3 f4 f5⟩
 self:=fun A i s Q E st h=>by
  obtain⟨o,e,c,d⟩:=id st;refine wpAny_pyIter_slot (Heap.IsStrIter.typeIs st) F.slot_str_ascii_iterator_iter (DC F.slot_str_ascii_iterator_iter (Heap.IsStrIter.typeIs st) F.entry_str_ascii_iterator_iter ?_ (F.args_str_ascii_iterator_iter_1 _));show wpAny _ _ (ret (.ref it)) _ _ s;exact CU ⟨_,rfl,"str_ascii_iterator",_,Heap.IsStrIter.typeIs st,F.slot_str_ascii_iterator_next.lookup,h⟩
section
variable {X:Cx}{tg:Expr}
def iStr (tl:TE):TI:=fun σ H R=>tl σ H fun x H1=>∃z,x=.str z/\z.cps.all (·<128)=true/\R (Its z) H1
theorem vn{l:Expr}{tl:TE}(hl:PE X l tl):PI X tg l (iStr tl):=by
 intro pins s σ H R I h;refine thn (hl pins s σ H _ I h) fun v s1 hq62=>?_;obtain⟨x,H1,I1,r1,q1⟩:=hq62;obtain⟨z,e,ha,q⟩:=q1;subst e;obtain⟨t,rfl⟩:=r1;refine wpAny_pyIter_ascii ha ?_;refine⟨s1.heap.objs.size,[s1.heap.objs.size],_,_,H1,rfl,I1.kept (t':=s1.toks) fun b o e=>Dw _ e,qc _ z t,⟨_,Dx _ rfl,rfl,rfl⟩,fun b hb=>?_,q⟩;have e:b=s1.heap.objs.size:=by simpa using hb
 subst e;exact I1.HX (zE _) (I1.hok.fresh (zE _))
def Nx (n i:Nat)(P:Nat->List V->Hp->Prop)(ys:List V)(H:Hp):Prop:=∃m',m'<n-i/\(m'=n-(i+1)/\i+1<=n/\P (i+1) ys H)
theorem Nx.mk{n i:Nat}{P:Nat->List V->Hp->Prop}{ys:List V}{H:Hp}(hi:i<n)(h:P (i+1) ys H):Nx n i P ys H:=⟨n-(i+1),by lia,rfl,hi,h⟩
theorem fj{J:It}{n k:Nat}{js:List Nat}{g:TG}{tc:TT}{te:TE}{σ:St}{H:Hp}{Q:VK}(P:Nat->List V->Hp->Prop)(h0:P 0 [] H)(hz:∀i ys H,i<=n->P i ys H->ys.length<=i)(hn:n<=sizeLine)
  (hgo:∀i ys H,i<n->P i ys H->J.go i H)(hstop:∀ys H,P n ys H->J.stop n H)
  (hs:∀i ys H x H',i<n->P i ys H->J.yld i H x H'->g x (List.replicate k none++bO js σ) H' fun σ2 H2=>tc σ2 H2 fun b H3=>if b=true then te σ2 H3 fun y H4=>Nx n i P (ys++[y]) H4 else Nx n i P ys H3)
  (hd:∀ys H,P n ys H->∀p,H p=none->Q (.ref p) (upd H p (.lst ys))) :
  fL J k js g tc te σ H Q:=by
 refine⟨fun i m ys H=>m=n-i/\i<=n/\P i ys H,⟨n,by simp,zX _,h0⟩,?_⟩;rintro i m ys H ⟨rfl,hi,p⟩;have hy:=hz i ys H hi p;by_cases hlt:i<n
 ·exact .inr ⟨hgo i ys H hlt p,by lia,fun x H' y=>hs i ys H x H' hlt p y⟩
 ·have e:i=n:=by lia
  subst e;exact .inl ⟨hstop ys H p,by lia,hd ys H p⟩
theorem sD{lo:Int}{n k:Nat}{js:List Nat}{g:TG}{tc:TT}{te:TE}{σ:St}{H:Hp}{Q:VK}(P:Nat->List V->Hp->Prop)(h0:P 0 [] H)(hz:∀i ys H,i<=n->P i ys H->ys.length<=i)(hn:n<=sizeLine)
  (hs:∀i ys H,i<n->P i ys H->g (.int (lo+i)) (List.replicate k none++bO js σ) H fun σ2 H2=>tc σ2 H2 fun b H3=>if b=true then te σ2 H3 fun y H4=>Nx n i P (ys++[y]) H4 else Nx n i P ys H3)
  (hd:∀ys H,P n ys H->∀p,H p=none->Q (.ref p) (upd H p (.lst ys))) :
  fL (Itr lo n) k js g tc te σ H Q:=
 fj P h0 hz hn (fun _ _ _ h _=>h) (fun _ _ _=>zE _) (fun i ys H x H' hi p y=>by obtain⟨e,y⟩:=y;subst e y;exact hs i ys _ hi p) hd
theorem bM{K:W.Frag}{a:Addr}{xs:List V}{k:Nat}{js:List Nat}{g:TG}{tc:TT}{te:TE}{σ:St}{H:Hp}{Q:VK}(P:Nat->List V->Hp->Prop)(h0:P 0 [] H)(hz:∀i ys H,i<=xs.length->P i ys H->ys.length<=i)(hn:xs.length<=sizeLine)
  (hl:∀i ys H,i<=xs.length->P i ys H->SqL K H a xs)
  (hs:∀i x ys H,xs[i]?=some x->P i ys H->g x (List.replicate k none++bO js σ) H fun σ2 H2=>tc σ2 H2 fun b H3=>if b=true then te σ2 H3 fun y H4=>Nx xs.length i P (ys++[y]) H4 else Nx xs.length i P ys H3)
  (hd:∀ys H,P xs.length ys H->∀p,H p=none->Q (.ref p) (upd H p (.lst ys))) :
  fL (Itl K a) k js g tc te σ H Q:=
 fj P h0 hz hn (fun i ys H hi p=>⟨xs,xs[i],hl i ys H (Ax hi) p,by simp[hi]⟩) (fun ys H p=>⟨xs,hl _ ys H (zE _) p,zE _⟩)
  (fun i ys H x H' hi p y=>by obtain⟨e,y⟩:=y;subst e;exact hs i x ys _ (y xs (hl i ys _ (Ax hi) p)) p) hd
theorem wL{K:W.Frag}{a:Addr}{xs:List V}{k:Nat}{js:List Nat}{g:TG}{tc:TT}{te:TE}{σ:St}{H:Hp}{Q:VK}(P:Nat->List V->Hp->Prop)(h0:P 0 [] H)(hz:∀i ys H,i<=xs.length->P i ys H->ys.length<=i)(hn:xs.length<=sizeLine)
  (hl:∀i ys H,i<=xs.length->P i ys H->SqT K H a xs)
  (hs:∀i x ys H,xs[i]?=some x->P i ys H->g x (List.replicate k none++bO js σ) H fun σ2 H2=>tc σ2 H2 fun b H3=>if b=true then te σ2 H3 fun y H4=>Nx xs.length i P (ys++[y]) H4 else Nx xs.length i P ys H3)
  (hd:∀ys H,P xs.length ys H->∀p,H p=none->Q (.ref p) (upd H p (.lst ys))) :
  fL (Itt K a) k js g tc te σ H Q:=
 fj P h0 hz hn (fun i ys H hi p=>⟨xs,xs[i],hl i ys H (Ax hi) p,by simp[hi]⟩) (fun ys H p=>⟨xs,hl _ ys H (zE _) p,zE _⟩)
  (fun i ys H x H' hi p y=>by obtain⟨e,y⟩:=y;subst e;exact hs i x ys _ (y xs (hl i ys _ (Ax hi) p)) p) hd
theorem wj{z:Str}{k:Nat}{js:List Nat}{g:TG}{tc:TT}{te:TE}{σ:St}{H:Hp}{Q:VK}(P:Nat->List V->Hp->Prop)(h0:P 0 [] H)(hz:∀i ys H,i<=z.cps.size->P i ys H->ys.length<=i)(hn:z.cps.size<=sizeLine)
  (hs:∀i c ys H,z.cps[i]?=some c->P i ys H->g (.str ⟨#[c]⟩) (List.replicate k none++bO js σ) H fun σ2 H2=>tc σ2 H2 fun b H3=>if b=true then te σ2 H3 fun y H4=>Nx z.cps.size i P (ys++[y]) H4 else Nx z.cps.size i P ys H3)
  (hd:∀ys H,P z.cps.size ys H->∀p,H p=none->Q (.ref p) (upd H p (.lst ys))) :
  fL (Its z) k js g tc te σ H Q:=
 fj P h0 hz hn (fun i ys H hi p=>hi) (fun ys H p=>zE _)
  (fun i ys H x H' hi p y=>by obtain⟨e,c,y,rfl⟩:=y;subst e;exact hs i c ys _ y p) hd
theorem boolsOf:∀{bs:List Bool}{us:List Value},Vals (bs.map V.bl) us->us=bs.map Value.bool
 |[],_,.nil=>rfl
 |b::r,_,.cons h t=>by cases h;rw[boolsOf t];rfl
theorem dD(hc:X.calm=true):cb X (.builtin "all") (fun xs H Q=>∃(p:Addr)(bs:List Bool),xs=[.ref p]/\SqL X.K H p (bs.map V.bl)/\Q (.bl (bs.all id)) H):=by
 intro pins s σ H xs us Q I r h;obtain⟨p,bs,rfl,hq,q⟩:=h;obtain⟨u,rfl,rx⟩:=dB r;cases rx;obtain⟨its,rv,pl,hz⟩:=I.list hq;have hh:X.A.in1.handled=none:=I.ok.hd hc;have e:=boolsOf rv;subst e;have hp:p<s.heap.objs.size:=by obtain⟨o,n,e,_⟩:=pl;exact Dh e
 refine call_all_walk (wpAny_pyIter_list pl.isList ⟨s.heap.objs.size,_,_,_,_,_,fun i=>bs.getD i false,rfl,Walks.list hh s.heap.objs.size p (zJ hp) _,⟨⟨_,Dx _ rfl,rfl,rfl⟩,pl.isList.push _⟩,?_,fun h' tk hk=>?_⟩)
 ·intro i v s' Q' E' hv q';have hv':(bs.map Value.bool)[i]?=some v:=by simpa using hv
  rw[zW] at hv';cases eb:bs[i]? with
  |none=>rw[eb] at hv';cases hv'
  |some b=>
   rw[eb] at hv';cases hv';refine wpAny_truthy_bool ?_;have q2:Q' (bs.getD i false) s':=q';rw[Ae,eb] at q2;exact q2
 ·have e:(List.range (bs.map Value.bool).toArray.size).all (fun i=>bs.getD i false)=bs.all id:=by
   rw[Dy,AK,AK];constructor
   ·intro h b hb;obtain⟨i,hi,rfl⟩:=AO.mp hb;have:=h i (Bj.mpr (by simpa using hi));rw[Ae,zN hi] at this;exact this
   ·intro h i hi;have hi':i<bs.length:=by simpa using Bj.mp hi
    rw[Ae,zN hi'];exact h _ (An hi')
  rw[e];refine⟨.bl _,H,?_,rfl,q⟩;have I1:Inv X pins σ H {s with heap:=s.heap.push {cls:=.type "list_iterator",data:=.fields #[.ref p,.int 0 0]},toks:=s.toks}:=I.kept fun b o e=>Dw _ e;refine I1.turned (it:=s.heap.objs.size) (fun b o hb e=>hk b o (by simpa using hb) e) (I.hok.fresh (zE _)) (BC I.lt) (.inr (Heap.get?_none_of_le I.sz)) (fun x c e z=>?_) fun p hp z=>?_
  ·obtain⟨v,o,ho,_⟩:=I.cell x c e;rw[z] at ho;exact absurd (Dh ho) (Ai _)
  ·have:=(I.pin p hp).1;rw[z] at this;exact absurd (Dh this) (Ai _)
theorem strsOf:∀{zs:List Str}{us:List Value},Vals (zs.map V.str) us->StrsAre us zs
 |[],_,.nil=>.nil
 |z::r,_,.cons h t=>by obtain⟨tk,rfl⟩:=h;exact .cons z tk (strsOf t)
def uG (K:W.Frag):V->List V->Hp->VK->Prop:=fun x vs H Q=>∃(z:Str)(p:Addr)(zs:List Str),x=.str z/\vs=[.ref p]/\SqL K H p (zs.map V.str)/\(zs.map (·.length)).sum+zs.length*z.length<=16777216/\Q (.str (Txt.join z zs)) H
theorem ID:MtR X "str.join" (uG X.K):=by
 intro pins s σ H x vs v us Q I rx rv h;obtain⟨z,p,zs,rfl,rfl,hq,hz,q⟩:=h;obtain⟨t,rfl⟩:=rx;obtain⟨u,rfl,ru⟩:=rv.one;cases ru;obtain⟨its,r',pl,_⟩:=I.list hq;exact join_list pl.isList (by simpa using strsOf r') hz fun t' k=>⟨.str _,H,I.tok _,⟨_,rfl⟩,q⟩
def clsV:V->Option Value
 |.ty T=>some (.type T)
 |.ref a=>some (.ref a)
 |_=>none
def wZ (K:W.Frag):List V->Hp->VK->Prop:=fun xs H Q=>∃x y t c b,xs=[x,y]/\clsV y=some c/\FQ K H x t/\W.kitOne K t c=some b/\Q (.bl b) H
theorem Eh:cb X (.builtin "isinstance") (wZ X.K):=by
 intro pins s σ H xs us Q I r h;obtain⟨x,y,t,c,b,rfl,ec,ty,e,q⟩:=h;obtain⟨u,u',rfl,rx,ry⟩:=su r;have:u'=c:=by
  cases y with
  |ref _=>cases ry;exact Di ec
  |ty _=>cases ry;exact Di ec
  |_=>cases ec
 subst this;exact ma I rx ty e fun tk=>⟨.bl b,H,I.tok _,rfl,q⟩
def IK:V->List V->Hp->VK->Prop:=fun x vs H Q=>∃d o kvs more,x=.ref d/\vs=[.ref o]/\d≠o/\H d=some (.dK kvs)/\H o=some (.dK more)/\kvs.length+more.length<=sizeLine/\Q .non (upd H d (.dK (cC kvs more)))
theorem Hg:MtR X "dict.update" IK:=by
 intro pins s σ H x vs v us Q I rx rv h;obtain⟨d,o,kvs,more,rfl,rfl,hne,hd,ho,hz,q⟩:=h;cases rx;obtain⟨u,rfl,ru⟩:=rv.one;cases ru;obtain⟨z1,y1,ws1,r1,d1⟩:=(show Ed X.prog X.w H s.heap d (.dK kvs) from I.hok d _ hd)
 obtain⟨z2,y2,ws2,r2,d2⟩:=(show Ed X.prog X.w H s.heap o (.dK more) from I.hok o _ ho)
 have l1:kvs.length=ws1.length:=Paired.length r1;have l2:more.length=ws2.length:=Paired.length r2;refine PySem.call_meetsIn F.slot_dict_update d1.typeIs F.entry_dict_update (F.args_dict_update_2 _ _) (meets_dict_update (aI X.prog X.w) d o hne y2) ⟨ws1,ws2,d1,d2,by lia,fun h' e1 e2 hs=>?_⟩;refine⟨.non,_,I.write (x:=d) (e:=d) (o:=.dK (cC kvs more)) (t':=s.toks) (by rw[hd];trivial) (.inl rfl) (fun b u hb e=>hs.extBut b u hb e) ?_ ?_,rfl,q⟩
 ·obtain⟨o',es,ep,g,_⟩:=e1;exact⟨o',g⟩
 ·exact⟨zO (Eu more kvs) hz,y1,_,r2.merge r1,e1⟩
end
def Kp (F:Addr->Prop)(fs:List Addr)(h h':Heap):Prop:=
 (∀b o,h.get? b=some o->¬F b->b∉fs->h'.get? b=some o)/\(∀b o,h.get? b=some o->¬F b->∃sl,h'.get? b=some {o with slots:=sl})/\∀b o,h.get? b=some o->∃o',h'.get? b=some o'
section
variable {X:Cx}{pins:List (Addr×Obj)}{σ:St}{H:Hp}{s:Shared}{h':Heap}
theorem Inv.Jf{t':Nat}(I:Inv X pins σ H s)(k:Kp (Eo X pins H) (frs X.stack) s.heap h'):Inv X pins σ H {s with heap:=h',toks:=t'}:=by
 classical
 have nf:∀b o,H b=some o->¬Eo X pins H b:=fun b o e f=>by rw[f.1] at e;cases e
 have ns:∀b o,H b=some o->b∉frs X.stack:=fun b o e z=>by rw[I.Fl b z] at e;cases e
 have hch:∀b∈(List.range s.heap.objs.size).filter (fun b=>decide (Eo X pins H b)),Eo X pins H b:=fun b hb=>Dg (AN.mp hb).2;have nch:∀b o,s.heap.get? b=some o->b∉(List.range s.heap.objs.size).filter (fun b=>decide (Eo X pins H b))->¬Eo X pins H b:=fun b o e n f=>
  n (AN.mpr ⟨Bj.mpr (Dh e),Dc f⟩)
 have stk:∀b,b≠X.env.locals->b∉X.fs->b∉frs X.stack:=fun b h1 h2 z=>(zU.mp (I.FD b z)).elim h1 h2;refine I.step (g':=s.gens) (d':=s.drawn) (ch:=(List.range s.heap.objs.size).filter (fun b=>decide (Eo X pins H b))) (fun b hb=>?_) (fun b o hL hb hc e n=>k.1 b o e (nch b o e hc) (stk b hL hb)) (fun b o hL hb hc e n=>k.2.1 b o e (nch b o e hc))
  (fun b o hc e n=>n) (fun b o hc e=>k.2.2 b o e) (fun _ _ e=>e) (fun _ _ _ e=>e) (fun b ps e=>⟨#[],by rw[e];simp⟩) (fun m hm=>?_) (fun b o e=>?_) I.bare
 ·obtain⟨f0,f1,f2,f3,f4,f5⟩:=hch b hb;exact⟨f3,f1,f4,f5⟩
 ·obtain⟨o,es,ep,ho,r⟩:=hm;obtain⟨sl,q⟩:=k.2.1 _ o ho fun f=>f.2.1 rfl;exact⟨_,es,ep,q,r⟩
 ·refine(I.hok b o e).Gd (fun c u hc q=>?_) (fun _ q=>q) fun _ _ q=>q;rcases hc with z|z
  ·subst z;exact k.1 _ u q (nf _ o e) (ns _ o e)
  ·exact k.1 c u q (nf c _ z) (ns c _ z)
theorem Inv.GV(I:Inv X pins σ H s):∀b,s.heap.objs.size<=b->Eo X pins H b:=fun b hb=>I.HX hb (I.hok.fresh hb)
end
abbrev XS:=Value->St->Hp->Prop
section
variable {P:Program}{w:World}{K:PySem.W.Frag}{mg:Str->Option Value}{base:Heap}
theorem ES.calm{k:Nat}{A:Around}{env:Env}(r:ES k (A.deeper env)):A.handled.isNone=true:=by
 have:=r.hd;have h2:A.handled=none:=this;rw[h2];rfl
end
section
variable {X:Cx}{pins:List (Addr×Obj)}{σ:St}{H:Hp}{s:Shared}
theorem Inv.Kd{b:Addr}{o:HO}(I:Inv X pins σ H s)(f:Eo X pins H b)(ob:Ed X.prog X.w (upd H b o) s.heap b o):Inv X pins σ (upd H b o) s:=by
 obtain⟨f0,f1,f2,f3,f4,f5⟩:=f;have nb:∀c u,H c=some u->c≠b:=fun c u e z=>by rw[z,f0] at e;cases e
 refine⟨I.ok,I.os,I.bare,⟨I.base.keep,I.base.slot,fun c u e n hx=>?_,I.base.there,fun c xs e=>?_,fun c u xs e=>?_,fun c ps e=>?_⟩,I.loc,I.cell,?_,fun x c e=>?_,fun p hp=>?_,fun c u e=>?_,I.len⟩
 ·have z:c≠b:=fun z=>by
   subst z;rcases f3 with q|q
   ·exact hx q
   ·rw[q] at e;cases e
  rw[aq z];exact I.base.free c u e n hx
 ·have q:=I.base.GH c xs e;rw[aq (nb c _ q)];exact q
 ·have q:=I.base.GA c u xs e;rw[aq (nb c _ q)];exact q
 ·obtain⟨more,q⟩:=I.base.GF c ps e;exact⟨more,by rw[aq (nb c _ q)];exact q⟩
 ·rw[aq (Dv f1)];exact I.free
 ·rw[aq (f4 x c e)];exact I.Ex x c e
 ·obtain⟨a1,a2,a3⟩:=I.pin p hp;exact⟨a1,by rw[aq (f5 p hp)];exact a2,a3⟩
 ·by_cases z:c=b
  ·subst z;rw[ae] at e;cases e;exact ob
  ·rw[aq z] at e;refine(I.hok c u e).Gd (fun _ _ _ q=>q) (fun a q=>?_) fun a xs q=>?_
   ·rw[aq (nb a _ q)];exact q
   ·rw[aq (nb a _ q)];exact q
end
end L2
namespace SG
open PySem PyProof.Rows
def kf (κ:KeyKind)(p:Keyed):κ.α:=(κ.keyOf p.1).getD κ.dflt
def Has (κ:KeyKind)(p:Keyed):Prop:=∃a,κ.keyOf p.1=some a
def II:Bool->Keyed->Array Keyed->Nat->Nat->Nat->StateT SortSt Sem (Option Nat):=sortPriv% PySem.Builtin.gallop
section
variable {prog:Program}{w:World}{A:Around}{E:Value->Shared->Prop}{s:Shared}{κ:KeyKind}{st:SortSt}
theorem aO{arr:Array Keyed}{i:Nat}{p:Keyed}{Q:Keyed->SortSt->Prop}(e:arr[i]?=some p)(h:Q p st):wpS (model prog w) A E s (elem' arr i) Q st:=by
 rw[elem'_eq,e];exact CW h
theorem gO{x y:Keyed}{Q:Option Bool->SortSt->Prop}(hO:κ.OneLt)(hk:kindOf st=oneType')(hx:Has κ x)(hy:Has κ y)(h:Q (some (κ.blt (kf κ x) (kf κ y))) st):wpS (model prog w) A E s (lt' x y) Q st:=by
 obtain⟨a,ha⟩:=hx;obtain⟨b,hb⟩:=hy;unfold kf at h;rw[ha,hb] at h;rw[lt'_eq];refine CV (wpS_get ?_);rw[hk,keyLt'_oneType];exact CV (wpS_lift (DB (hO prog w A _ s x.1 y.1 a b ha hb ⟨rfl,CW h⟩)))
theorem bQ{left:Bool}{key:Keyed}{arr:Array Keyed}{base n hint:Nat}{Q:Option Nat->SortSt->Prop}(hO:κ.OneLt)(hk:kindOf st=oneType')(hkey:Has κ key)(ps:Nat->Keyed)(harr:∀i,i<n->arr[base+i]?=some (ps i)/\Has κ (ps i))(hn:hint<n)(B:Nat->Bool)
  (hB:∀i,B i=if left=true then κ.blt (kf κ (ps i)) (kf κ key) else !κ.blt (kf κ key) (kf κ (ps i)))(mono:∀i j,i<=j->j<n->B j=true->B i=true)
  (h:∀k,k<=n->(∀i,i<k->B i=true)->(∀i,k<=i->i<n->B i=false)->Q (some k) st):wpS (model prog w) A E s (II left key arr base n hint) Q st:=by
 have anti:∀i j,i<=j->j<n->B i=false->B j=false:=fun i j hij hj hi=>by
  cases e:B j with
  |false=>rfl
  |true=>rw[mono i j hij hj e] at hi;cases hi
 have hb:∀i,i < n->∀Q':Option Bool->SortSt->Prop,Q' (some (B i)) st->wpS (model prog w) A E s (do
   let x <- elem' arr (base+i)
   if left=true then lt' x key else do
    let r <- lt' key x
    pure (Option.map (fun x=>!x) r)) Q' st:=fun i hi Q' q=>by
  obtain⟨e,hp⟩:=harr i hi;refine CV (aO e ?_);rw[hB i] at q;cases left with
  |true=>
   simp only[if_true] at q ⊢;exact gO hO hk hp hkey q
  |false=>
   simp only[AW,if_false] at q ⊢;exact CV (gO hO hk hkey hp (CW q))
 refine CV (hb hint hn _ ?_);cases hr:B hint with
 |true=>
  refine CV (wpS_mono (wpS_forRange (I:=fun x c st'=>st'=st/\c.1=none/\x+1<=c.2.2/\c.2.1 < c.2.2/\hint+c.2.1 < n/\B (hint+c.2.1)=true)
   (Q:=fun c st'=>st'=st/\c.1=none/\c.2.1 < c.2.2/\hint+c.2.1 < n/\B (hint+c.2.1)=true/\(n - hint<=c.2.2\/B (hint+c.2.2)=false)) ?step ?fin ⟨rfl,rfl,by show 0+1<=1; lia,by show 0 < 1; lia,by show hint+0 < n; exact hn,by show B (hint+0)=true; exact hr⟩) ?post)
  case fin=>
   rintro⟨c0,l,o⟩ st' ⟨rfl,e0,a1,a2,a3,a4⟩;exact⟨rfl,e0,a2,a3,a4,.inl (by have:max 0 n+1<=o:=a1;show n-hint<=o;lia)⟩
  case post=>
   rintro⟨c0,l,o⟩ st' ⟨rfl,e0,a2,a3,a4,a5⟩;cases e0;dsimp only at a2 a3 a4 a5 ⊢;have h1:hint+l+1<=hint+min o (n-hint):=by lia
   have h2:hint+min o (n-hint)<=n:=by lia
   have h3:∀i,i<hint+l+1->B i=true:=fun i hi=>mono i _ (by lia) a3 a4;have h4:∀i,hint+min o (n-hint)<=i->i<n->B i=false:=fun i hi hn'=>by
    rcases a5 with a5|a5
    ·lia
    ·by_cases hm:o<=n-hint
     ·exact anti _ i (by lia) hn' a5
     ·lia
   generalize hint+l+1=lo at h1 h3 ⊢;generalize hint+min o (n-hint)=hi at h1 h2 h4 ⊢
   refine CV (wpS_mono (wpS_forRange (I:=fun x c st''=>st''=st'/\c.1=none/\c.2.1<=c.2.2/\c.2.2<=n/\c.2.2 - c.2.1<=n - x/\(∀i,i < c.2.1->B i=true)/\(∀i,c.2.2<=i->i < n->B i=false))
    (Q:=fun c st''=>st''=st'/\c.1=none/\c.2.1=c.2.2/\c.2.2<=n/\(∀i,i < c.2.2->B i=true)/\(∀i,c.2.2<=i->i < n->B i=false)) ?step2 ?fin2 ⟨rfl,rfl,h1,h2,(by show hi - lo<=n - 0; lia),h3,h4⟩) ?post2)
   case fin2=>
    rintro⟨c0,l,r⟩ st' ⟨rfl,e0,a1,a2,a3,a4,a5⟩;have a3':r-l<=n-max 0 n:=a3;have e:l=r:=by
     have:l<=r:=a1;lia
    exact⟨rfl,e0,e,a2,by rw[e] at a4;exact a4,a5⟩
   case post2=>
    rintro⟨c0,l,r⟩ st' ⟨rfl,e0,a1,a2,a4,a5⟩;cases e0;exact CW (h r a2 a4 a5)
   case step2=>
    rintro x ⟨c0,l,r⟩ st' _ hx ⟨rfl,e0,a1,a2,a3,a4,a5⟩;cases e0;dsimp only at a1 a2 a3 a4 a5 ⊢;by_cases hge:l≥r
    ·rw[CZ hge];have e:l=r:=by lia
     subst e;exact CW ⟨rfl,rfl,rfl,a2,a4,a5⟩
    ·rw[CY hge];refine CV (hb _ (by lia) _ ?_);cases hm:B (l+(r-l)/2) with
     |true=>
      simp only[if_true];exact CW ⟨rfl,rfl,by show l+(r-l)/2+1<=r;lia,a2,by show r-(l+(r-l)/2+1)<=n-(x+1);lia,fun i hi=>mono i _ (by have:i<l+(r-l)/2+1:=hi;lia) (by lia) hm,a5⟩
     |false=>
      simp only[AW,if_false];exact CW ⟨rfl,rfl,by show l<=l+(r-l)/2;lia,by show l+(r-l)/2<=n;lia,by show l+(r-l)/2-l<=n-(x+1);lia,a4,fun i hi hn'=>anti _ i hi hn' hm⟩
  case step=>
   rintro x ⟨c0,l,o⟩ st' _ hx ⟨rfl,e0,a1,a2,a3,a4⟩;cases e0;dsimp only at a1 a2 a3 a4 ⊢;by_cases hge:o≥n-hint
   ·rw[CZ hge];exact CW ⟨rfl,rfl,a2,a3,a4,.inl hge⟩
   ·rw[CY hge];refine CV (hb _ (by lia) _ ?_);cases hm:B (hint+o) with
    |true=>exact CW ⟨rfl,rfl,by show x+1+1<=2*o+1;lia,by show o<2*o+1;lia,by show hint+o<n;lia,hm⟩
    |false=>exact CW ⟨rfl,rfl,a2,a3,a4,.inr hm⟩
 |false=>
  refine CV (wpS_mono (wpS_forRange (I:=fun x c st'=>st'=st/\c.1=none/\x+1<=c.2.2/\c.2.1 < c.2.2/\c.2.1<=hint/\B (hint - c.2.1)=false)
   (Q:=fun c st'=>st'=st/\c.1=none/\c.2.1 < c.2.2/\c.2.1<=hint/\B (hint - c.2.1)=false/\(hint+1<=c.2.2\/B (hint - c.2.2)=true)) ?step ?fin ⟨rfl,rfl,by show 0+1<=1; lia,by show 0 < 1; lia,by show 0<=hint; lia,by show B (hint - 0)=false; exact hr⟩) ?post)
  case fin=>
   rintro⟨c0,l,o⟩ st' ⟨rfl,e0,a1,a2,a3,a4⟩;exact⟨rfl,e0,a2,a3,a4,.inl (by have:max 0 n+1<=o:=a1;show hint+1<=o;lia)⟩
  case post=>
   rintro⟨c0,l,o⟩ st' ⟨rfl,e0,a2,a3,a4,a5⟩;cases e0;dsimp only at a2 a3 a4 a5 ⊢;have h1:hint+1-min o (hint+1)<=hint-l:=by lia
   have h2:hint-l<=n:=by lia
   have h3:∀i,i<hint+1-min o (hint+1)->B i=true:=fun i hi=>by
    rcases a5 with a5|a5
    ·lia
    ·by_cases hm:o<=hint
     ·exact mono i _ (by lia) (by lia) a5
     ·lia
   have h4:∀i,hint-l<=i->i<n->B i=false:=fun i hi hn'=>anti _ i (by lia) hn' a4;generalize hint+1-min o (hint+1)=lo at h1 h3 ⊢;generalize hint-l=hi at h1 h2 h4 ⊢
   refine CV (wpS_mono (wpS_forRange (I:=fun x c st''=>st''=st'/\c.1=none/\c.2.1<=c.2.2/\c.2.2<=n/\c.2.2 - c.2.1<=n - x/\(∀i,i < c.2.1->B i=true)/\(∀i,c.2.2<=i->i < n->B i=false))
    (Q:=fun c st''=>st''=st'/\c.1=none/\c.2.1=c.2.2/\c.2.2<=n/\(∀i,i < c.2.2->B i=true)/\(∀i,c.2.2<=i->i < n->B i=false)) ?step2 ?fin2 ⟨rfl,rfl,h1,h2,(by show hi - lo<=n - 0; lia),h3,h4⟩) ?post2)
   case fin2=>
    rintro⟨c0,l,r⟩ st' ⟨rfl,e0,a1,a2,a3,a4,a5⟩;have a3':r-l<=n-max 0 n:=a3;have e:l=r:=by
     have:l<=r:=a1;lia
    exact⟨rfl,e0,e,a2,by rw[e] at a4;exact a4,a5⟩
   case post2=>
    rintro⟨c0,l,r⟩ st' ⟨rfl,e0,a1,a2,a4,a5⟩;cases e0;exact CW (h r a2 a4 a5)
   case step2=>
    rintro x ⟨c0,l,r⟩ st' _ hx ⟨rfl,e0,a1,a2,a3,a4,a5⟩;cases e0;dsimp only at a1 a2 a3 a4 a5 ⊢;by_cases hge:l≥r
    ·rw[CZ hge];have e:l=r:=by lia
     subst e;exact CW ⟨rfl,rfl,rfl,a2,a4,a5⟩
    ·rw[CY hge];refine CV (hb _ (by lia) _ ?_);cases hm:B (l+(r-l)/2) with
     |true=>
      simp only[if_true];exact CW ⟨rfl,rfl,by show l+(r-l)/2+1<=r;lia,a2,by show r-(l+(r-l)/2+1)<=n-(x+1);lia,fun i hi=>mono i _ (by have:i<l+(r-l)/2+1:=hi;lia) (by lia) hm,a5⟩
     |false=>
      simp only[AW,if_false];exact CW ⟨rfl,rfl,by show l<=l+(r-l)/2;lia,by show l+(r-l)/2<=n;lia,by show l+(r-l)/2-l<=n-(x+1);lia,a4,fun i hi hn'=>anti _ i hi hn' hm⟩
  case step=>
   rintro x ⟨c0,l,o⟩ st' _ hx ⟨rfl,e0,a1,a2,a3,a4⟩;cases e0;dsimp only at a1 a2 a3 a4 ⊢;by_cases hge:o≥hint+1
   ·rw[CZ hge];exact CW ⟨rfl,rfl,a2,a3,a4,.inl hge⟩
   ·rw[CY hge];refine CV (hb _ (by lia) _ ?_);cases hm:B (hint-o) with
    |true=>exact CW ⟨rfl,rfl,a2,a3,a4,.inr hm⟩
    |false=>exact CW ⟨rfl,rfl,by show x+1+1<=2*o+1;lia,by show o<2*o+1;lia,by show o<=hint;lia,hm⟩
end
def kl (κ:KeyKind)(x y:Keyed):Prop:=κ.kle (kf κ x) (kf κ y)
theorem kl.trans{κ:KeyKind}{x y z:Keyed}(a:kl κ x y)(b:kl κ y z):kl κ x z:=KeyOrd.kle_trans a b
structure MI(κ:KeyKind)(A B out ra rb:List Keyed):Prop where
 perm:(out++(ra++rb)).Perm (A++B)
 so:out.Pairwise (kl κ)
 sa:ra.Pairwise (kl κ)
 sb:rb.Pairwise (kl κ)
 le:∀x∈out,∀y∈ra++rb,kl κ x y
def Fin (κ:KeyKind)(A B r:List Keyed):Prop:=r.Perm (A++B)/\r.Pairwise (kl κ)
section
variable {κ:KeyKind}{A B out ra rb:List Keyed}
theorem me{l:List Keyed}{p:Keyed}(h:l.Pairwise (kl κ))(e:l[0]?=some p):∀y∈l,kl κ p y:=fun y hy=>by
 cases l with
 |nil=>cases e
 |cons a r=>
  cases e;rcases zU.mp hy with rfl|hy
  ·exact Do _
  ·exact(List.pairwise_cons.mp h).1 y hy
theorem MI.HL(h:MI κ A B out ra rb)(k:Nat)(hk:∀x∈ra.take k,∀y∈rb,kl κ x y):MI κ A B (out++ra.take k) (ra.drop k) rb:=by
 have e:ra=ra.take k++ra.drop k:=(AB k ra).symm;have sa:=h.sa;rw[e] at sa;obtain⟨s1,s2,s3⟩:=Aw.mp sa;refine⟨?_,Aw.mpr ⟨h.so,s1,fun x hx y hy=>h.le x hx y (Ad _ (Bn hy))⟩,s2,h.sb,fun x hx y hy=>?_⟩
 ·rw[Aj,<- Aj (ra.take k),AB];exact h.perm
 ·rcases zH.mp hx with hx|hx
  ·rcases zH.mp hy with hy|hy
   ·exact h.le x hx y (Ad _ (Bf hy))
   ·exact h.le x hx y (zI _ hy)
  ·rcases zH.mp hy with hy|hy
   ·exact s3 x hx y hy
   ·exact hk x hx y hy
theorem MI.HG(h:MI κ A B out ra rb)(k:Nat)(hk:∀x∈rb.take k,∀y∈ra,kl κ x y):MI κ A B (out++rb.take k) ra (rb.drop k):=by
 have e:rb=rb.take k++rb.drop k:=(AB k rb).symm;have sb:=h.sb;rw[e] at sb;obtain⟨s1,s2,s3⟩:=Aw.mp sb;refine⟨?_,Aw.mpr ⟨h.so,s1,fun x hx y hy=>h.le x hx y (zI _ (Bn hy))⟩,h.sa,s2,fun x hx y hy=>?_⟩
 ·refine List.Perm.trans ?_ h.perm;rw[Aj];refine List.Perm.append_left _ ?_;rw[<- Aj];refine(BF.append_right _).trans ?_;rw[Aj,AB]
 ·rcases zH.mp hx with hx|hx
  ·rcases zH.mp hy with hy|hy
   ·exact h.le x hx y (Ad _ hy)
   ·exact h.le x hx y (zI _ (Bf hy))
  ·rcases zH.mp hy with hy|hy
   ·exact hk x hx y hy
   ·exact s3 x hx y hy
theorem MI.last(h:MI κ A B out ra rb)(hk:∀x∈rb,∀y∈ra,kl κ x y):Fin κ A B (out++rb++ra):=by
 refine⟨?_,Aw.mpr ⟨Aw.mpr ⟨h.so,h.sb,fun x hx y hy=>h.le x hx y (zI _ hy)⟩,h.sa,fun x hx y hy=>?_⟩⟩
 ·rw[Aj];exact(BF.append_left _).trans h.perm
 ·rcases zH.mp hx with hx|hx
  ·exact h.le x hx y (Ad _ hy)
  ·exact hk x hx y hy
theorem MI.done(h:MI κ A B out ra rb)(hk:∀x∈ra,∀y∈rb,kl κ x y):Fin κ A B (out++ra++rb):=by
 refine⟨by rw[Aj];exact h.perm,Aw.mpr ⟨Aw.mpr ⟨h.so,h.sa,fun x hx y hy=>h.le x hx y (Ad _ hy)⟩,h.sb,fun x hx y hy=>?_⟩⟩;rcases zH.mp hx with hx|hx
 ·exact h.le x hx y (zI _ hy)
 ·exact hk x hx y hy
end
section
variable {α:Type}
theorem dU(a:Array α)(i:Nat):(a.extract i a.size).toList=a.toList.drop i:=by
 rw[BG];show(a.toList.drop i).take (a.size-i)=_;exact Af (by rw[AL,zR];exact zE _)
theorem oK(a:Array α)(i k:Nat):(a.extract i (i+k)).toList=(a.toList.drop i).take k:=by
 rw[BG];show(a.toList.drop i).take (i+k-i)=_;rw[Nat.add_sub_cancel_left]
theorem dh{l:List α}{i:Nat}{p:α}(e:l[i]?=some p):(l.drop i).take 1=[p]:=by
 have hi:=(zL.mp e).1;rw[BS hi,List.take_succ_cons,BH];exact congrArg (fun x=>[x]) (zL.mp e).2
theorem drop_zero{l:List α}{i:Nat}:(l.drop i)[0]?=l[i]?:=by rw[AQ,AX]
end
section
variable {prog:Program}{w:World}{A:Around}{E:Value->Shared->Prop}{s:Shared}{κ:KeyKind}{st:SortSt}
theorem az{α:Type}{c:Prop} [Decidable c]{m n:StateT SortSt Sem α}{Q:α->SortSt->Prop}(h1:c->wpS (model prog w) A E s m Q st)(h2:¬c->wpS (model prog w) A E s n Q st):wpS (model prog w) A E s (if c then m else n) Q st:=by
 by_cases h:c
 ·rw[CZ h];exact h1 h
 ·rw[CY h];exact h2 h
structure Ei(st st':SortSt):Prop where
 kind:kindOf st'=kindOf st
 arr:arrOf st'=arrOf st
 pend:pendingOf st'=pendingOf st
 fail:failedOf st'=failedOf st
theorem Ei.refl(st:SortSt):Ei st st:=⟨rfl,rfl,rfl,rfl⟩
theorem Ei.trans{a b c:SortSt}(h:Ei a b)(g:Ei b c):Ei a c:=⟨g.kind.trans h.kind,g.arr.trans h.arr,g.pend.trans h.pend,g.fail.trans h.fail⟩
theorem Ei.set(st:SortSt)(g:Nat):Ei st (SortSt.mk' (kindOf st) (arrOf st) (pendingOf st) g (failedOf st)):=⟨rfl,rfl,rfl,rfl⟩
theorem gH{g:Nat}{Q:Unit->SortSt->Prop}(h:∀st',Ei st st'->Q () st'):wpS (model prog w) A E s ((sortPriv% PySem.Builtin.setMinGallop) g) Q st:=wpS_modify (h _ (Ei.set st g))
def HH:Array Keyed->Array Keyed->StateT SortSt Sem (Array Keyed):=sortPriv% PySem.Builtin.mergeLo
theorem jK{a b:Array Keyed}{Q:Array Keyed->SortSt->Prop}(hO:κ.OneLt)(hk:kindOf st=oneType')(ka:∀p∈a.toList,Has κ p)(kb:∀p∈b.toList,Has κ p)(sa:a.toList.Pairwise (kl κ))(sb:b.toList.Pairwise (kl κ))
  (na:1<=a.size)(nb:1<=b.size)(h0:∀y∈a.toList,∀p,b[0]?=some p->kl κ p y)(hl:∀x∈b.toList,∀p,a[a.size-1]?=some p->kl κ x p)
  (h:∀r st',Ei st st'->Fin κ a.toList b.toList r.toList->Q r st'):wpS (model prog w) A E s (HH a b) Q st:=by
 have ea:∀i,i<a.size->∃p,a[i]?=some p/\a.toList[i]?=some p/\Has κ p:=fun i hi=>by
  have e:a.toList[i]?=some a[i]:=by rw[Ab];exact Ao hi
  exact⟨a[i],Ao hi,e,ka _ (zS e)⟩
 have eb:∀i,i<b.size->∃p,b[i]?=some p/\b.toList[i]?=some p/\Has κ p:=fun i hi=>by
  have e:b.toList[i]?=some b[i]:=by rw[Ab];exact Ao hi
  exact⟨b[i],Ao hi,e,kb _ (zS e)⟩
 have last1:∀{ia:Nat},ia+1=a.size->∀x∈b.toList,∀y∈a.toList.drop ia,kl κ x y:=fun {ia} hi x hx y hy=>by
  obtain⟨p,e1,e2,_⟩:=ea ia (by lia);have hd:a.toList.drop ia=[p]:=by
   rw[<- dh e2,Af (by rw[AL,zR];lia)]
  rw[hd] at hy;rw[zK.mp hy];exact hl x hx p (by rw[show a.size-1=ia by lia];exact e1)
 have finL:∀{out:Array Keyed}{ia ib:Nat},MI κ a.toList b.toList out.toList (a.toList.drop ia) (b.toList.drop ib)->ia+1=a.size->Fin κ a.toList b.toList (out++b.extract ib b.size++a.extract ia a.size).toList:=fun {out ia ib} m hi=>by
  rw[Ay,Ay,dU,dU];exact m.last fun x hx y hy=>last1 hi x (Bf hx) y hy
 have finD:∀{out:Array Keyed}{ia ib:Nat},MI κ a.toList b.toList out.toList (a.toList.drop ia) (b.toList.drop ib)->ib=b.size->Fin κ a.toList b.toList (out++a.extract ia a.size++b.extract ib b.size).toList:=fun {out ia ib} m hi=>by
  rw[Ay,Ay,dU,dU];refine m.done fun x hx y hy=>?_;rw[Bu (by rw[zR];lia)] at hy;cases hy
 have goA:∀{out:Array Keyed}{ia ib k:Nat}{q:Keyed},MI κ a.toList b.toList out.toList (a.toList.drop ia) (b.toList.drop ib)->b.toList[ib]?=some q->(∀i x,i<k->a.toList[ia+i]?=some x->kl κ x q)->MI κ a.toList b.toList (out.toList++(a.toList.drop ia).take k) (a.toList.drop (ia+k)) (b.toList.drop ib):=fun {out ia ib k q} m eq hk=>by
  have:=m.HL k fun x hx y hy=>by
   obtain⟨i,hi,e⟩:=AO.mp hx;rw[Aa] at hi;have e':a.toList[ia+i]?=some x:=by
    rw[<- AQ,<- e,List.getElem_take];exact zN (by lia)
   exact(hk i x (by lia) e').trans (me m.sb (drop_zero.trans eq) y hy)
  rwa [Cq] at this
 have goB:∀{out:Array Keyed}{ia ib k:Nat}{q:Keyed},MI κ a.toList b.toList out.toList (a.toList.drop ia) (b.toList.drop ib)->a.toList[ia]?=some q->(∀i x,i<k->b.toList[ib+i]?=some x->kl κ x q)->MI κ a.toList b.toList (out.toList++(b.toList.drop ib).take k) (a.toList.drop ia) (b.toList.drop (ib+k)):=fun {out ia ib k q} m eq hk=>by
  have:=m.HG k fun x hx y hy=>by
   obtain⟨i,hi,e⟩:=AO.mp hx;rw[Aa] at hi;have e':b.toList[ib+i]?=some x:=by
    rw[<- AQ,<- e,List.getElem_take];exact zN (by lia)
   exact(hk i x (by lia) e').trans (me m.sa (drop_zero.trans eq) y hy)
  rwa [Cq] at this
 have pushA:∀{out:Array Keyed}{ia ib:Nat}{p q:Keyed},MI κ a.toList b.toList out.toList (a.toList.drop ia) (b.toList.drop ib)->a.toList[ia]?=some p->b.toList[ib]?=some q->kl κ p q->MI κ a.toList b.toList (out.push p).toList (a.toList.drop (ia+1)) (b.toList.drop ib):=fun {out ia ib p q} m ep eq hk=>by
  have:=goA (k:=1) m eq fun i x hi e=>by
   have:i=0:=by lia
   subst this;rw[AX,ep] at e;cases e;exact hk
  rwa [dh ep,<- Bo] at this
 have pushB:∀{out:Array Keyed}{ia ib:Nat}{p q:Keyed},MI κ a.toList b.toList out.toList (a.toList.drop ia) (b.toList.drop ib)->a.toList[ia]?=some p->b.toList[ib]?=some q->kl κ q p->MI κ a.toList b.toList (out.push q).toList (a.toList.drop ia) (b.toList.drop (ib+1)):=fun {out ia ib p q} m ep eq hk=>by
  have:=goB (k:=1) m ep fun i x hi e=>by
   have:i=0:=by lia
   subst this;rw[AX,eq] at e;cases e;exact hk
  rwa [dh eq,<- Bo] at this
 refine CV (wpS_lift (DG ⟨rfl,?_⟩));obtain⟨q0,f1,f2,f3⟩:=eb 0 (by lia);refine CV (aO f1 ?_);have m0:MI κ a.toList b.toList (#[q0]:Array Keyed).toList (a.toList.drop 0) (b.toList.drop 1):=by
  have start:MI κ a.toList b.toList (#[]:Array Keyed).toList (a.toList.drop 0) (b.toList.drop 0):=⟨.refl _,.nil,sa,sb,fun x hx=>by cases hx⟩
  have:=start.HG 1 fun x hx y hy=>by
   have:(b.toList.drop 0).take 1=[q0]:=dh f2;rw[this] at hx;rw[zK.mp hx];exact h0 y hy q0 f1
  rw[dh f2,Cq] at this;exact this
 refine az (fun e=>CW (h _ st (.refl st) (finD m0 (by simpa using e)))) fun e1=>az (fun e=>CW (h _ st (.refl st) (finL m0 (by simpa using e)))) fun e2=>?_;have hb1:1<b.size:=by
  have:¬1=b.size:=by simpa using e1
  lia
 have ha1:0+1<a.size:=by
  have:¬0+1=a.size:=by simpa using e2
  lia
 refine CV (wpS_get ?_)
 refine CV (wpS_mono (wpS_forRange (I:=fun x c st'=>Ei st st'/\c.1=none/\MI κ a.toList b.toList c.2.1.toList (a.toList.drop c.2.2.1) (b.toList.drop c.2.2.2.1)/\c.2.2.1+1 < a.size/\c.2.2.2.1 < b.size/\x < c.2.2.1+c.2.2.2.1)
  (Q:=fun c st'=>Ei st st'/\∃r,c.1=some r/\Fin κ a.toList b.toList r.toList) ?step ?fin ⟨.refl st,rfl,m0,ha1,hb1,by show 0 < 0+1; lia⟩) ?post)
 case fin=>
  rintro⟨c0,out,ia,ib,mg⟩ st' ⟨_,_,_,a1,a2,a3⟩;exfalso;have a1':ia+1<a.size:=a1;have a2':ib<b.size:=a2;have a3':max 0 (a.size+b.size)<ia+ib:=a3;lia
 case post=>
  rintro⟨c0,out,ia,ib,mg⟩ st' ⟨g,r,e,f⟩;cases e;exact CW (h r st' g f)
 case step=>
  rintro x ⟨c0,out,ia,ib,mg⟩ st1 _ hx ⟨g1,e0,m1,a1,a2,a3⟩;cases e0;dsimp only at m1 a1 a2 a3
  refine CV (wpS_mono (wpS_forRange (I:=fun y c st'=>Ei st st'/\c.1=none/\MI κ a.toList b.toList c.2.1.toList (a.toList.drop c.2.2.1) (b.toList.drop c.2.2.2.1)/\c.2.2.1+1 < a.size/\c.2.2.2.1 < b.size/\x+y < c.2.2.1+c.2.2.2.1)
   (Q:=fun c st'=>Ei st st'/\((∃r,c.1=some r/\Fin κ a.toList b.toList r.toList)\/(c.1=none/\MI κ a.toList b.toList c.2.1.toList (a.toList.drop c.2.2.1) (b.toList.drop c.2.2.2.1)/\c.2.2.1+1 < a.size/\c.2.2.2.1 < b.size/\x < c.2.2.1+c.2.2.2.1))) ?stepA ?finA ⟨g1,rfl,m1,a1,a2,by show x+0 < ia+ib; lia⟩) ?postA)
  case finA=>
   rintro⟨c0,out,ia,ib,ac,bc⟩ st' ⟨_,_,_,a1,a2,a3⟩;exfalso;have a1':ia+1<a.size:=a1;have a2':ib<b.size:=a2;have a3':x+max 0 (a.size+b.size)<ia+ib:=a3;lia
  case stepA=>
   rintro y ⟨c0,out,ia,ib,ac,bc⟩ st2 _ hy ⟨g2,e0,m2,a1,a2,a3⟩;cases e0;dsimp only at m2 a1 a2 a3;obtain⟨q,q1,q2,q3⟩:=eb ib a2;obtain⟨p,p1,p2,p3⟩:=ea ia (by lia);refine CV (aO q1 (CV (aO p1 (CV (gO hO (g2.kind.trans hk) q3 p3 ?_)))));cases hlt:κ.blt (kf κ q) (kf κ p) with
   |true=>
    refine CV (aO q1 ?_);have m3:=pushB m2 p2 q2 (Dp hlt);refine az (fun e=>CW ⟨g2,.inl ⟨_,rfl,finD m3 (by simpa using e)⟩⟩) fun e=>?_;have e':ib+1<b.size:=by
     have:¬ib+1=b.size:=by simpa using e
     lia
    exact az (fun _=>CW ⟨g2,.inr ⟨rfl,m3,a1,e',by show x<ia+(ib+1);lia⟩⟩) fun _=>CW ⟨g2,rfl,m3,a1,e',by show x+(y+1)<ia+(ib+1);lia⟩
   |false=>
    refine CV (aO p1 ?_);have m3:=pushA m2 p2 q2 hlt;refine az (fun e=>CW ⟨g2,.inl ⟨_,rfl,finL m3 (by simpa using e)⟩⟩) fun e=>?_;have e':ia+1+1<a.size:=by
     have:¬ia+1+1=a.size:=by simpa using e
     lia
    exact az (fun _=>CW ⟨g2,.inr ⟨rfl,m3,e',a2,by show x<ia+1+ib;lia⟩⟩) fun _=>CW ⟨g2,rfl,m3,e',a2,by show x+(y+1)<ia+1+ib;lia⟩
  case postA=>
   rintro⟨c0,out,ia,ib,ac,bc⟩ st2 ⟨g2,z⟩;rcases z with ⟨r,e,f⟩|⟨e0,m2,a1,a2,a3⟩
   ·cases e;exact CW ⟨g2,r,rfl,f⟩
   cases e0;dsimp only at m2 a1 a2 a3;refine CV (wpS_lift (DG ⟨rfl,?_⟩))
   refine CV (wpS_mono (wpS_forRange (I:=fun y c st'=>Ei st st'/\c.1=none/\MI κ a.toList b.toList c.2.1.toList (a.toList.drop c.2.2.1) (b.toList.drop c.2.2.2.1)/\c.2.2.1+1 < a.size/\c.2.2.2.1 < b.size/\x+y < c.2.2.1+c.2.2.2.1)
    (Q:=fun c st'=>Ei st st'/\((∃r,c.1=some r/\Fin κ a.toList b.toList r.toList)\/(c.1=none/\MI κ a.toList b.toList c.2.1.toList (a.toList.drop c.2.2.1) (b.toList.drop c.2.2.2.1)/\c.2.2.1+1 < a.size/\c.2.2.2.1 < b.size/\x+1 < c.2.2.1+c.2.2.2.1))) ?stepB ?finB ⟨g2,rfl,m2,a1,a2,by show x+0 < ia+ib; lia⟩) ?postB)
   case finB=>
    rintro⟨c0,out,ia,ib,mg',ac,bc⟩ st' ⟨_,_,_,a1,a2,a3⟩;exfalso;have a1':ia+1<a.size:=a1;have a2':ib<b.size:=a2;have a3':x+max 0 (a.size+b.size)<ia+ib:=a3;lia
   case postB=>
    rintro⟨c0,out,ia,ib,mg',ac,bc⟩ st3 ⟨g3,z⟩;rcases z with ⟨r,e,f⟩|⟨e0,m3,a1,a2,a3⟩
    ·cases e;exact CW ⟨g3,r,rfl,f⟩
    cases e0;exact CV (wpS_modify (CW ⟨g3.trans (Ei.set st3 _),rfl,m3,a1,a2,a3⟩))
   case stepB=>
    rintro y ⟨c0,out,ia,ib,mg',ac,bc⟩ st3 _ hy ⟨g3,e0,m3,a1,a2,a3⟩;cases e0;dsimp only at m3 a1 a2 a3;obtain⟨q,q1,q2,q3⟩:=eb ib a2;refine az (fun _=>?_) fun _=>?_
    all_goals (
     refine CV (gH fun st4 g4'=>?_);have g4:=g3.trans g4';refine CV (aO q1 (CV (bQ (κ:=κ) (base:=ia) (n:=a.size-ia) (hint:=0) hO (g4.kind.trans hk) q3 (fun i=>(a[ia+i]?).getD q) (fun i hi=>?_) (by lia) (fun i=>!κ.blt (kf κ q) (kf κ ((a[ia+i]?).getD q))) (fun i=>rfl) (fun i j hij hj hB=>?_) fun k hkn hk1 hk2=>?_)))
     ·obtain⟨p,p1,p2,p3⟩:=ea (ia+i) (by lia);rw[p1];exact⟨rfl,p3⟩
     ·obtain⟨p,p1,p2,p3⟩:=ea (ia+i) (by lia);obtain⟨r,r1,r2,r3⟩:=ea (ia+j) (by lia);rw[r1] at hB;rw[p1];have hr:kl κ r q:=by
       show κ.blt (kf κ q) (kf κ r)=false;simpa using hB
      have hp:kl κ p r:=by
       by_cases e:i=j
       ·subst e;rw[p1] at r1;cases r1;exact Do _
       ·have h1:=Bp.mp sa (ia+i) (ia+j) (by rw[zR];lia) (by rw[zR];lia) (by lia);rw[(zL.mp p2).2,(zL.mp r2).2] at h1;exact h1
      have:=hp.trans hr;show(!κ.blt (kf κ q) (kf κ p))=true;have h2:κ.blt (kf κ q) (kf κ p)=false:=this;rw[h2];rfl
     have hkA:∀i x,i<k->a.toList[ia+i]?=some x->kl κ x q:=fun i x hi e=>by
      have:=hk1 i hi;rw[<- Ab,e] at this;show κ.blt (kf κ q) (kf κ x)=false;simpa using this
     have mA:=goA m3 q2 hkA;have hq:∀p,a.toList[ia+k]?=some p->kl κ q p:=fun p e=>by
      have hi:=(zL.mp e).1;rw[zR] at hi;have:=hk2 k (zE _) (by lia);rw[<- Ab,e] at this;exact Dp (show κ.blt (kf κ q) (kf κ p)=true by simpa using this)
     apply az
     case' h1=>
      intro hk0;rw[<- oK,<- Ay] at mA;refine az (fun e=>CW ⟨g4,.inl ⟨_,rfl,finL mA (by simpa using e)⟩⟩) fun e=>az (fun e2=>CW ⟨g4,.inl ⟨_,rfl,?_⟩⟩) fun e2=>?_;have e2':ia+k=a.size:=by simpa using e2
      ·rw[Ay,Ay,dU,dU];refine mA.done fun x hx y hy=>?_;rw[Bu (by rw[zR];lia)] at hx;cases hx
      have hi2:ia+k+1<a.size:=by
       have:¬ia+k+1=a.size:=by simpa using e
       have:¬ia+k=a.size:=by simpa using e2
       lia
      have hs2:x+y<ia+k+ib:=by lia
      generalize out++a.extract ia (ia+k)=o2 at mA ⊢;generalize ia+k=i2 at mA hi2 hs2 hq ⊢
     case' h2=>
      intro hk0;have k0:k=0:=by lia
      subst k0;rw[BH,AD,AX] at mA;rw[AX] at hq;have hi2:ia+1<a.size:=a1;have hs2:x+y<ia+ib:=a3;generalize out=o2 at mA ⊢;generalize ia=i2 at mA hi2 hs2 hq ⊢
     all_goals (
      obtain⟨p,p1,p2,p3⟩:=ea i2 (by lia);refine CV (aO q1 ?_);have mB:=pushB mA p2 q2 (hq p p2);refine az (fun e=>CW ⟨g4,.inl ⟨_,rfl,finD mB (by simpa using e)⟩⟩) fun e=>?_;have e':ib+1<b.size:=by
       have:¬ib+1=b.size:=by simpa using e
       lia
      refine CV (aO p1 (CV (bQ (κ:=κ) (base:=ib+1) (n:=b.size-(ib+1)) (hint:=0) hO (g4.kind.trans hk) p3 (fun i=>(b[ib+1+i]?).getD p) (fun i hi=>?_) (by lia) (fun i=>κ.blt (kf κ ((b[ib+1+i]?).getD p)) (kf κ p)) (fun i=>rfl) (fun i j hij hj hB=>?_) fun k2 hkn2 hj1 hj2=>?_)))
      ·obtain⟨r,r1,r2,r3⟩:=eb (ib+1+i) (by lia);rw[r1];exact⟨rfl,r3⟩
      ·obtain⟨u,u1,u2,u3⟩:=eb (ib+1+i) (by lia);obtain⟨r,r1,r2,r3⟩:=eb (ib+1+j) (by lia);rw[r1] at hB;rw[u1];have hp:kl κ u r:=by
        by_cases e:i=j
        ·subst e;rw[u1] at r1;cases r1;exact Do _
        ·have h1:=Bp.mp sb (ib+1+i) (ib+1+j) (by rw[zR];lia) (by rw[zR];lia) (by lia);rw[(zL.mp u2).2,(zL.mp r2).2] at h1;exact h1
       exact KeyOrd.klt_of_kle_of_klt hp hB
      have hkB:∀i x,i<k2->b.toList[ib+1+i]?=some x->kl κ x p:=fun i x hi e=>by
       have:=hj1 i hi;rw[<- Ab,e] at this;exact Dp this
      have mC:=goB mB p2 hkB;have hp:∀r,b.toList[ib+1+k2]?=some r->kl κ p r:=fun r e=>by
       have hi:=(zL.mp e).1;rw[zR] at hi;have:=hj2 k2 (zE _) (by lia);rw[<- Ab,e] at this;exact this
      apply az
      case' h1=>
       intro hk0;rw[<- oK,<- Ay] at mC;refine az (fun e=>CW ⟨g4,.inl ⟨_,rfl,finD mC (by simpa using e)⟩⟩) fun e=>?_;have hj:ib+1+k2<b.size:=by
        have:¬ib+1+k2=b.size:=by simpa using e
        lia
       have hs3:x+y+1<i2+(ib+1+k2):=by lia
       generalize o2.push q++b.extract (ib+1) (ib+1+k2)=o3 at mC ⊢;generalize ib+1+k2=j2 at mC hj hs3 hp ⊢
      case' h2=>
       intro hk0;have k0:k2=0:=by lia
       subst k0;rw[BH,AD,AX] at mC;rw[AX] at hp;have hj:ib+1<b.size:=e';have hs3:x+y+1<i2+(ib+1):=by lia
       generalize o2.push q=o3 at mC ⊢;generalize ib+1=j2 at mC hj hs3 hp ⊢
      all_goals (
       obtain⟨r,r1,r2,r3⟩:=eb j2 hj;refine CV (aO p1 ?_);have mD:=pushA mC p2 r2 (hp r r2);refine az (fun e=>CW ⟨g4,.inl ⟨_,rfl,finL mD (by simpa using e)⟩⟩) fun e=>?_;have e3:i2+1+1<a.size:=by
        have:¬i2+1+1=a.size:=by simpa using e
        lia
       exact az (fun _=>CW ⟨g4,.inr ⟨rfl,mD,e3,hj,by show x+1 < i2+1+j2; lia⟩⟩) fun _=>CW ⟨g4,rfl,mD,e3,hj,by show x+(y+1) < i2+1+j2; lia⟩)))
end
structure MH(κ:KeyKind)(A B ra rb suf:List Keyed):Prop where
 perm:(ra++rb++suf).Perm (A++B)
 so:suf.Pairwise (kl κ)
 sa:ra.Pairwise (kl κ)
 sb:rb.Pairwise (kl κ)
 le:∀x∈ra++rb,∀y∈suf,kl κ x y
section
variable {κ:KeyKind}{A B ra rb suf:List Keyed}
theorem oa{l:List Keyed}{p:Keyed}(h:l.Pairwise (kl κ))(e:l[l.length-1]?=some p):∀x∈l,kl κ x p:=fun x hx=>by
 obtain⟨i,hi,rfl⟩:=AO.mp hx;obtain⟨hj,rfl⟩:=zL.mp e;by_cases q:i=l.length-1
 ·subst q;exact Do _
 ·exact Bp.mp h i (l.length-1) hi hj (by lia)
theorem MH.HL(h:MH κ A B ra rb suf)(k:Nat)(hk:∀x∈rb,∀y∈ra.drop k,kl κ x y):MH κ A B (ra.take k) rb (ra.drop k++suf):=by
 have sa:=h.sa;rw[<- AB k ra] at sa;obtain⟨s1,s2,s3⟩:=Aw.mp sa;refine⟨?_,Aw.mpr ⟨s2,h.so,fun x hx y hy=>h.le x (Ad _ (Bf hx)) y hy⟩,s1,h.sb,fun x hx y hy=>?_⟩
 ·refine List.Perm.trans ?_ h.perm;rw[<- Aj];refine List.Perm.append_right _ ?_;rw[Aj];refine(BF.append_left _).trans ?_;rw[<- Aj,AB]
 ·rcases zH.mp hy with hy|hy
  ·rcases zH.mp hx with hx|hx
   ·exact s3 x hx y hy
   ·exact hk x hx y hy
  ·rcases zH.mp hx with hx|hx
   ·exact h.le x (Ad _ (Bn hx)) y hy
   ·exact h.le x (zI _ hx) y hy
theorem MH.HG(h:MH κ A B ra rb suf)(k:Nat)(hk:∀x∈ra,∀y∈rb.drop k,kl κ x y):MH κ A B ra (rb.take k) (rb.drop k++suf):=by
 have sb:=h.sb;rw[<- AB k rb] at sb;obtain⟨s1,s2,s3⟩:=Aw.mp sb;refine⟨?_,Aw.mpr ⟨s2,h.so,fun x hx y hy=>h.le x (zI _ (Bf hx)) y hy⟩,h.sa,s1,fun x hx y hy=>?_⟩
 ·refine List.Perm.trans ?_ h.perm;rw[<- Aj,Aj ra,AB]
 ·rcases zH.mp hy with hy|hy
  ·rcases zH.mp hx with hx|hx
   ·exact hk x hx y hy
   ·exact s3 x hx y hy
  ·rcases zH.mp hx with hx|hx
   ·exact h.le x (Ad _ hx) y hy
   ·exact h.le x (zI _ (Bn hx)) y hy
theorem MH.done(h:MH κ A B ra rb suf)(hk:∀x∈ra,∀y∈rb,kl κ x y):Fin κ A B (ra++rb++suf):=⟨h.perm,Aw.mpr ⟨Aw.mpr ⟨h.sa,h.sb,hk⟩,h.so,h.le⟩⟩
theorem MH.first(h:MH κ A B ra rb suf)(hk:∀x∈rb,∀y∈ra,kl κ x y):Fin κ A B (rb++ra++suf):=
 ⟨(BF.append_right _).trans h.perm,Aw.mpr ⟨Aw.mpr ⟨h.sb,h.sa,hk⟩,h.so,fun x hx y hy=>h.le x (zH.mpr ((zH.mp hx).symm)) y hy⟩⟩
end
theorem ip{α:Type}(a:Array α)(n:Nat):(a.extract 0 n).toList=a.toList.take n:=by
 rw[BG];show(a.toList.drop 0).take (n-0)=_;rw[BU,Nat.sub_zero]
theorem cM{α:Type}(a:Array α)(i n:Nat):(a.extract i n).toList=(a.toList.take n).drop i:=by
 rw[BG,Cr]
theorem lT{α:Type}(o x:Array α):(o++x.reverse).toList.reverse=x.toList++o.toList.reverse:=by rw[Ay,Cs,Ct,List.reverse_reverse]
theorem gv{α:Type}{l:List α}{n:Nat}{p:α}(h:1<=n)(e:l[n-1]?=some p):(l.take n).drop (n-1)=[p]:=by
 rw[Cr,show n-(n-1)=1 by lia];exact dh e
section
variable {prog:Program}{w:World}{A:Around}{E:Value->Shared->Prop}{s:Shared}{κ:KeyKind}{st:SortSt}
def HC:Array Keyed->Array Keyed->StateT SortSt Sem (Array Keyed):=sortPriv% PySem.Builtin.mergeHi
theorem jP{a b:Array Keyed}{Q:Array Keyed->SortSt->Prop}(hO:κ.OneLt)(hk:kindOf st=oneType')(ka:∀p∈a.toList,Has κ p)(kb:∀p∈b.toList,Has κ p)(sa:a.toList.Pairwise (kl κ))(sb:b.toList.Pairwise (kl κ))
  (na1:1<=a.size)(nb1:1<=b.size)(h0:∀y∈a.toList,∀p,b[0]?=some p->kl κ p y)(hl:∀x∈b.toList,∀p,a[a.size-1]?=some p->kl κ x p)
  (h:∀r st',Ei st st'->Fin κ a.toList b.toList r.toList->Q r st'):wpS (model prog w) A E s (HC a b) Q st:=by
 have ea:∀i,i<a.size->∃p,a[i]?=some p/\a.toList[i]?=some p/\Has κ p:=fun i hi=>by
  have e:a.toList[i]?=some a[i]:=by rw[Ab];exact Ao hi
  exact⟨a[i],Ao hi,e,ka _ (zS e)⟩
 have eb:∀i,i<b.size->∃p,b[i]?=some p/\b.toList[i]?=some p/\Has κ p:=fun i hi=>by
  have e:b.toList[i]?=some b[i]:=by rw[Ab];exact Ao hi
  exact⟨b[i],Ao hi,e,kb _ (zS e)⟩
 have la:a.toList.length=a.size:=zR;have lb:b.toList.length=b.size:=zR;have finF:∀{out:Array Keyed}{na nb:Nat},MH κ a.toList b.toList (a.toList.take na) (b.toList.take nb) out.toList.reverse->nb=1->Fin κ a.toList b.toList (b.extract 0 nb++a.extract 0 na++out.reverse).toList:=fun {out na nb} m hi=>by
  rw[Ay,Ay,ip,ip,Ct];refine m.first fun x hx y hy=>?_;obtain⟨q,q1,q2,_⟩:=eb 0 (by lia);have e:b.toList.take nb=[q]:=by rw[hi];exact dh (i:=0) q2
  rw[e] at hx;rw[zK.mp hx];exact h0 y (Bn hy) q q1
 have finD:∀{out:Array Keyed}{na nb:Nat},MH κ a.toList b.toList (a.toList.take na) (b.toList.take nb) out.toList.reverse->na=0\/nb=0->Fin κ a.toList b.toList (a.extract 0 na++b.extract 0 nb++out.reverse).toList:=fun {out na nb} m hi=>by
  rw[Ay,Ay,ip,ip,Ct];refine m.done fun x hx y hy=>?_;rcases hi with hi|hi
  ·rw[hi,BH] at hx;cases hx
  ·rw[hi,BH] at hy;cases hy
 have goA:∀{out:Array Keyed}{na nb at':Nat}{q:Keyed},MH κ a.toList b.toList (a.toList.take na) (b.toList.take nb) out.toList.reverse->1<=nb->nb<=b.size->at'<=na->b.toList[nb-1]?=some q->(∀i x,at'<=i->i<na->a.toList[i]?=some x->kl κ q x)->MH κ a.toList b.toList (a.toList.take at') (b.toList.take nb) ((a.toList.take na).drop at'++out.toList.reverse):=fun {out na nb at' q} m h1 h2 h3 eq hk=>by
  have:=m.HL at' fun x hx y hy=>by
   obtain⟨i,hi,e⟩:=AO.mp hy;rw[AL,Aa] at hi;have e':a.toList[at'+i]?=some y:=by
    have:((a.toList.take na).drop at')[i]?=some y:=by rw[<- e];exact zN _
    rw[AQ,AR (by lia)] at this;exact this
   refine(oa m.sb ?_ x hx).trans (hk (at'+i) y (by lia) (by lia) e');rw[Aa,lb,AM h2,AR (by lia)];exact eq
  rwa [AY,AM h3] at this
 have goB:∀{out:Array Keyed}{na nb at':Nat}{q:Keyed},MH κ a.toList b.toList (a.toList.take na) (b.toList.take nb) out.toList.reverse->1<=na->na<=a.size->at'<=nb->a.toList[na-1]?=some q->(∀i x,at'<=i->i<nb->b.toList[i]?=some x->kl κ q x)->MH κ a.toList b.toList (a.toList.take na) (b.toList.take at') ((b.toList.take nb).drop at'++out.toList.reverse):=fun {out na nb at' q} m h1 h2 h3 eq hk=>by
  have:=m.HG at' fun x hx y hy=>by
   obtain⟨i,hi,e⟩:=AO.mp hy;rw[AL,Aa] at hi;have e':b.toList[at'+i]?=some y:=by
    have:((b.toList.take nb).drop at')[i]?=some y:=by rw[<- e];exact zN _
    rw[AQ,AR (by lia)] at this;exact this
   refine(oa m.sa ?_ x hx).trans (hk (at'+i) y (by lia) (by lia) e');rw[Aa,la,AM h2,AR (by lia)];exact eq
  rwa [AY,AM h3] at this
 have pushA:∀{out:Array Keyed}{na nb:Nat}{p q:Keyed},MH κ a.toList b.toList (a.toList.take na) (b.toList.take nb) out.toList.reverse->1<=na->1<=nb->nb<=b.size->a.toList[na-1]?=some p->b.toList[nb-1]?=some q->kl κ q p->MH κ a.toList b.toList (a.toList.take (na-1)) (b.toList.take nb) (out.push p).toList.reverse:=fun {out na nb p q} m h1 h2 h3 ep eq hk=>by
  have:=goA (at':=na-1) m h2 h3 (by lia) eq fun i x h4 h5 e=>by
   have:i=na-1:=by lia
   subst this;rw[ep] at e;cases e;exact hk
  rw[gv h1 ep] at this;rw[Bo,Cs];exact this
 have pushB:∀{out:Array Keyed}{na nb:Nat}{p q:Keyed},MH κ a.toList b.toList (a.toList.take na) (b.toList.take nb) out.toList.reverse->1<=na->na<=a.size->1<=nb->a.toList[na-1]?=some p->b.toList[nb-1]?=some q->kl κ p q->MH κ a.toList b.toList (a.toList.take na) (b.toList.take (nb-1)) (out.push q).toList.reverse:=fun {out na nb p q} m h1 h2 h3 ep eq hk=>by
  have:=goB (at':=nb-1) m h1 h2 (by lia) ep fun i x h4 h5 e=>by
   have:i=nb-1:=by lia
   subst this;rw[eq] at e;cases e;exact hk
  rw[gv h3 eq] at this;rw[Bo,Cs];exact this
 refine CV (wpS_lift (DG ⟨rfl,?_⟩));obtain⟨p0,f1,f2,f3⟩:=ea (a.size-1) (by lia);refine CV (aO f1 ?_);have m0:MH κ a.toList b.toList (a.toList.take (a.size-1)) (b.toList.take b.size) (#[p0]:Array Keyed).toList.reverse:=by
  have ta:a.toList.take a.size=a.toList:=Af (by lia);have tb:b.toList.take b.size=b.toList:=Af (by lia);have start:MH κ a.toList b.toList (a.toList.take a.size) (b.toList.take b.size) []:=by
   rw[ta,tb];exact⟨by rw[AD],.nil,sa,sb,fun x _ y hy=>by cases hy⟩
  have:=start.HL (a.size-1) fun x hx y hy=>by
   rw[gv na1 f2] at hy;rw[zK.mp hy];exact hl x (Bn hx) p0 f1
  rw[gv na1 f2,AY,AM (by lia)] at this;exact this
 refine az (fun e=>CW (h _ st (.refl st) (finD m0 (.inl (by simpa using e))))) fun e1=>az (fun e=>CW (h _ st (.refl st) (finF m0 (by simpa using e)))) fun e2=>?_;have ha1:1<=a.size-1:=by
  have:¬a.size-1=0:=fun z=>e1 (by rw[z];rfl);lia
 have hb1:2<=b.size:=by
  have:¬b.size=1:=fun z=>e2 (by rw[z];rfl);lia
 refine CV (wpS_get ?_)
 refine CV (wpS_mono (wpS_forRange (I:=fun x c st'=>Ei st st'/\c.1=none/\MH κ a.toList b.toList (a.toList.take c.2.1) (b.toList.take c.2.2.1) c.2.2.2.1.toList.reverse/\1<=c.2.1/\2<=c.2.2.1/\c.2.1<=a.size/\c.2.2.1<=b.size/\x+c.2.1+c.2.2.1 < a.size+b.size)
  (Q:=fun c st'=>Ei st st'/\∃r,c.1=some r/\Fin κ a.toList b.toList r.toList) ?step ?fin ⟨.refl st,rfl,m0,ha1,hb1,by show a.size - 1<=a.size; lia,zE _,by show 0+(a.size - 1)+b.size < a.size+b.size; lia⟩) ?post)
 case fin=>
  rintro⟨c0,na,nb,out,mg⟩ st' ⟨_,_,_,a1,a2,_,_,a3⟩;exfalso;have a3':max 0 (a.size+b.size)+na+nb<a.size+b.size:=a3;lia
 case post=>
  rintro⟨c0,na,nb,out,mg⟩ st' ⟨g,r,e,f⟩;cases e;exact CW (h r st' g f)
 case step=>
  rintro x ⟨c0,na,nb,out,mg⟩ st1 _ hx ⟨g1,e0,m1,a1,a2,a4,a5,a3⟩;cases e0;dsimp only at m1 a1 a2 a3 a4 a5
  refine CV (wpS_mono (wpS_forRange (I:=fun y c st'=>Ei st st'/\c.1=none/\MH κ a.toList b.toList (a.toList.take c.2.1) (b.toList.take c.2.2.1) c.2.2.2.1.toList.reverse/\1<=c.2.1/\2<=c.2.2.1/\c.2.1<=a.size/\c.2.2.1<=b.size/\x+y+c.2.1+c.2.2.1 < a.size+b.size)
   (Q:=fun c st'=>Ei st st'/\((∃r,c.1=some r/\Fin κ a.toList b.toList r.toList)\/(c.1=none/\MH κ a.toList b.toList (a.toList.take c.2.1) (b.toList.take c.2.2.1) c.2.2.2.1.toList.reverse/\1<=c.2.1/\2<=c.2.2.1/\c.2.1<=a.size/\c.2.2.1<=b.size/\x+c.2.1+c.2.2.1 < a.size+b.size))) ?stepA ?finA ⟨g1,rfl,m1,a1,a2,a4,a5,by show x+0+na+nb < _; lia⟩) ?postA)
  case finA=>
   rintro⟨c0,na,nb,out,ac,bc⟩ st' ⟨_,_,_,_,_,_,_,a3⟩;exfalso;have a3':x+max 0 (a.size+b.size)+na+nb<a.size+b.size:=a3;lia
  case stepA=>
   rintro y ⟨c0,na,nb,out,ac,bc⟩ st2 _ hy ⟨g2,e0,m2,a1,a2,a4,a5,a3⟩;cases e0;dsimp only at m2 a1 a2 a3 a4 a5;obtain⟨q,q1,q2,q3⟩:=eb (nb-1) (by lia);obtain⟨p,p1,p2,p3⟩:=ea (na-1) (by lia);refine CV (aO q1 (CV (aO p1 (CV (gO hO (g2.kind.trans hk) q3 p3 ?_)))));cases hlt:κ.blt (kf κ q) (kf κ p) with
   |true=>
    refine CV (aO p1 ?_);have m3:=pushA m2 a1 (by lia) a5 p2 q2 (Dp hlt);refine az (fun e=>CW ⟨g2,.inl ⟨_,rfl,finD m3 (.inl (by simpa using e))⟩⟩) fun e=>?_;have e':1<=na-1:=by
     have:¬na-1=0:=fun z=>e (by show((na-1:Nat)==0)=true;rw[z];rfl);lia
    exact az (fun _=>CW ⟨g2,.inr ⟨rfl,m3,e',a2,by show na-1<=a.size;lia,a5,by show x+(na-1)+nb<_;lia⟩⟩) fun _=>CW ⟨g2,rfl,m3,e',a2,by show na-1<=a.size;lia,a5,by show x+(y+1)+(na-1)+nb<_;lia⟩
   |false=>
    refine CV (aO q1 ?_);have m3:=pushB m2 a1 a4 (by lia) p2 q2 hlt;refine az (fun e=>CW ⟨g2,.inl ⟨_,rfl,finF m3 (by simpa using e)⟩⟩) fun e=>?_;have e':2<=nb-1:=by
     have:¬nb-1=1:=fun z=>e (by show((nb-1:Nat)==1)=true;rw[z];rfl);lia
    exact az (fun _=>CW ⟨g2,.inr ⟨rfl,m3,a1,e',a4,by show nb-1<=b.size;lia,by show x+na+(nb-1)<_;lia⟩⟩) fun _=>CW ⟨g2,rfl,m3,a1,e',a4,by show nb-1<=b.size;lia,by show x+(y+1)+na+(nb-1)<_;lia⟩
  case postA=>
   rintro⟨c0,na,nb,out,ac,bc⟩ st2 ⟨g2,z⟩;rcases z with ⟨r,e,f⟩|⟨e0,m2,a1,a2,a4,a5,a3⟩
   ·cases e;exact CW ⟨g2,r,rfl,f⟩
   cases e0;dsimp only at m2 a1 a2 a3 a4 a5;refine CV (wpS_lift (DG ⟨rfl,?_⟩))
   refine CV (wpS_mono (wpS_forRange (I:=fun y c st'=>Ei st st'/\c.1=none/\MH κ a.toList b.toList (a.toList.take c.2.1) (b.toList.take c.2.2.1) c.2.2.2.1.toList.reverse/\1<=c.2.1/\2<=c.2.2.1/\c.2.1<=a.size/\c.2.2.1<=b.size/\x+y+c.2.1+c.2.2.1 < a.size+b.size)
    (Q:=fun c st'=>Ei st st'/\((∃r,c.1=some r/\Fin κ a.toList b.toList r.toList)\/(c.1=none/\MH κ a.toList b.toList (a.toList.take c.2.1) (b.toList.take c.2.2.1) c.2.2.2.1.toList.reverse/\1<=c.2.1/\2<=c.2.2.1/\c.2.1<=a.size/\c.2.2.1<=b.size/\x+1+c.2.1+c.2.2.1 < a.size+b.size))) ?stepB ?finB ⟨g2,rfl,m2,a1,a2,a4,a5,by show x+0+na+nb < _; lia⟩) ?postB)
   case finB=>
    rintro⟨c0,na,nb,out,mg',ac,bc⟩ st' ⟨_,_,_,_,_,_,_,a3⟩;exfalso;have a3':x+max 0 (a.size+b.size)+na+nb<a.size+b.size:=a3;lia
   case postB=>
    rintro⟨c0,na,nb,out,mg',ac,bc⟩ st3 ⟨g3,z⟩;rcases z with ⟨r,e,f⟩|⟨e0,m3,a1,a2,a4,a5,a3⟩
    ·cases e;exact CW ⟨g3,r,rfl,f⟩
    cases e0;exact CV (gH fun st4 g4=>CW ⟨g3.trans g4,rfl,m3,a1,a2,a4,a5,a3⟩)
   case stepB=>
    rintro y ⟨c0,na,nb,out,mg',ac,bc⟩ st3 _ hy ⟨g3,e0,m3,a1,a2,a4,a5,a3⟩;cases e0;dsimp only at m3 a1 a2 a3 a4 a5;obtain⟨q,q1,q2,q3⟩:=eb (nb-1) (by lia);refine az (fun _=>?_) fun _=>?_
    all_goals (
     refine CV (gH fun st4 g4'=>?_);have g4:=g3.trans g4';refine CV (aO q1 (CV (bQ (κ:=κ) (base:=0) (n:=na) (hint:=na-1) hO (g4.kind.trans hk) q3 (fun i=>(a[0+i]?).getD q) (fun i hi=>?_) (by lia) (fun i=>!κ.blt (kf κ q) (kf κ ((a[0+i]?).getD q))) (fun i=>rfl) (fun i j hij hj hB=>?_) fun at' hkn hk1 hk2=>?_)))
     ·obtain⟨p,p1,p2,p3⟩:=ea (0+i) (by lia);rw[p1];exact⟨rfl,p3⟩
     ·obtain⟨p,p1,p2,p3⟩:=ea (0+i) (by lia);obtain⟨r,r1,r2,r3⟩:=ea (0+j) (by lia);rw[r1] at hB;rw[p1];have hr:kl κ r q:=by
       show κ.blt (kf κ q) (kf κ r)=false;simpa using hB
      have hp:kl κ p r:=by
       by_cases e:i=j
       ·subst e;rw[p1] at r1;cases r1;exact Do _
       ·have h1:=Bp.mp sa (0+i) (0+j) (by lia) (by lia) (by lia);rw[(zL.mp p2).2,(zL.mp r2).2] at h1;exact h1
      have h2:κ.blt (kf κ q) (kf κ p)=false:=hp.trans hr;show(!κ.blt (kf κ q) (kf κ p))=true;rw[h2];rfl
     have hkA:∀i x,at'<=i->i<na->a.toList[i]?=some x->kl κ q x:=fun i x h1 h2 e=>by
      have:=hk2 i h1 h2;rw[BI,<- Ab,e] at this;exact Dp (show κ.blt (kf κ q) (kf κ x)=true by simpa using this)
     have mA:=goA m3 (by lia) a5 hkn q2 hkA;have hq:∀p,1<=at'->a.toList[at'-1]?=some p->kl κ p q:=fun p h1 e=>by
      have:=hk1 (at'-1) (by lia);rw[BI,<- Ab,e] at this;show κ.blt (kf κ q) (kf κ p)=false;simpa using this
     apply az
     case' h1=>
      intro hk0;rw[<- cM,<- lT] at mA;refine az (fun e=>CW ⟨g4,.inl ⟨_,rfl,finD mA (.inl (by simpa using e))⟩⟩) fun e=>?_;have hi2:1<=at':=by
       have:¬at'=0:=fun z=>e (by show((at':Nat)==0)=true;rw[z];rfl);lia
      have hi3:at'<=a.size:=by lia
      have hs2:x+y+at'+nb<a.size+b.size:=by lia
      generalize out++(a.extract at' na).reverse=o2 at mA ⊢
     case' h2=>
      intro hk0;have k0:at'=na:=by have:¬na-at' > 0:=hk0;lia
      subst k0;rw[Bu (by rw[Aa];lia),BQ] at mA;have hi2:1<=at':=a1;have hi3:at'<=a.size:=a4;have hs2:x+y+at'+nb<a.size+b.size:=a3;generalize out=o2 at mA ⊢
     all_goals (
      obtain⟨p,p1,p2,p3⟩:=ea (at'-1) (by lia);refine CV (aO q1 ?_);have mB:=pushB mA hi2 hi3 (by lia) p2 q2 (hq p hi2 p2);refine az (fun e=>CW ⟨g4,.inl ⟨_,rfl,finF mB (by simpa using e)⟩⟩) fun e=>?_;have e':2<=nb-1:=by
       have:¬nb-1=1:=fun z=>e (by show((nb-1:Nat)==1)=true;rw[z];rfl);lia
      refine CV (aO p1 (CV (bQ (κ:=κ) (base:=0) (n:=nb-1) (hint:=nb-1-1) hO (g4.kind.trans hk) p3 (fun i=>(b[0+i]?).getD p) (fun i hi=>?_) (by lia) (fun i=>κ.blt (kf κ ((b[0+i]?).getD p)) (kf κ p)) (fun i=>rfl) (fun i j hij hj hB=>?_) fun k2 hkn2 hj1 hj2=>?_)))
      ·obtain⟨r,r1,r2,r3⟩:=eb (0+i) (by lia);rw[r1];exact⟨rfl,r3⟩
      ·obtain⟨u,u1,u2,u3⟩:=eb (0+i) (by lia);obtain⟨r,r1,r2,r3⟩:=eb (0+j) (by lia);rw[r1] at hB;rw[u1];have hp:kl κ u r:=by
        by_cases e:i=j
        ·subst e;rw[u1] at r1;cases r1;exact Do _
        ·have h1:=Bp.mp sb (0+i) (0+j) (by lia) (by lia) (by lia);rw[(zL.mp u2).2,(zL.mp r2).2] at h1;exact h1
       exact KeyOrd.klt_of_kle_of_klt hp hB
      have hkB:∀i x,k2<=i->i<nb-1->b.toList[i]?=some x->kl κ p x:=fun i x h1 h2 e=>by
       have:=hj2 i h1 h2;rw[BI,<- Ab,e] at this;exact this
      have mC:=goB mB hi2 hi3 hkn2 p2 hkB;have hp:∀r,1<=k2->b.toList[k2-1]?=some r->kl κ r p:=fun r h1 e=>by
       have:=hj1 (k2-1) (by lia);rw[BI,<- Ab,e] at this;exact Dp this
      apply az
      case' h1=>
       intro hk0;rw[<- cM,<- lT] at mC;refine az (fun e=>CW ⟨g4,.inl ⟨_,rfl,finF mC (by simpa using e)⟩⟩) fun e=>az (fun e2=>CW ⟨g4,.inl ⟨_,rfl,finD mC (.inr (by simpa using e2))⟩⟩) fun e2=>?_;have hj:2<=k2:=by
        have:¬k2=1:=fun z=>e (by show((k2:Nat)==1)=true;rw[z];rfl);have:¬k2=0:=fun z=>e2 (by show((k2:Nat)==0)=true;rw[z];rfl);lia
       have hj3:k2<=b.size:=by lia
       have hs3:x+y+1+at'+k2<a.size+b.size:=by lia
       generalize o2.push q++(b.extract k2 (nb-1)).reverse=o3 at mC ⊢
      case' h2=>
       intro hk0;have k0:k2=nb-1:=by have:¬nb-1-k2>0:=hk0;lia
       subst k0;rw[Bu (by rw[Aa];lia),BQ] at mC;have hj:2<=nb-1:=e';have hj3:nb-1<=b.size:=by lia
       have hs3:x+y+1+at'+(nb-1)<a.size+b.size:=by lia
       generalize o2.push q=o3 at mC ⊢;generalize nb-1=k2 at mC hj hj3 hs3 hp ⊢
      all_goals (
       obtain⟨r,r1,r2,r3⟩:=eb (k2-1) (by lia);refine CV (aO p1 ?_);have mD:=pushA mC hi2 (by lia) hj3 p2 r2 (hp r (by lia) r2);refine az (fun e=>CW ⟨g4,.inl ⟨_,rfl,finD mD (.inl (by simpa using e))⟩⟩) fun e=>?_;have e3:1<=at'-1:=by
        have:¬at'-1=0:=fun z=>e (by show((at'-1:Nat)==0)=true;rw[z];rfl);lia
       exact az (fun _=>CW ⟨g4,.inr ⟨rfl,mD,e3,hj,by show at' - 1<=a.size; lia,hj3,by show x+1+(at' - 1)+k2 < _; lia⟩⟩) fun _=>CW ⟨g4,rfl,mD,e3,hj,by show at' - 1<=a.size; lia,hj3,by show x+(y+1)+(at' - 1)+k2 < _; lia⟩)))
end
def Seg (κ:KeyKind)(xs:Array Keyed)(lo hi:Nat):Prop:=∀i j p q,lo<=i->i<=j->j<hi->xs[i]?=some p->xs[j]?=some q->kl κ p q
theorem Seg.list{κ:KeyKind}{xs:Array Keyed}{lo hi:Nat}(h:Seg κ xs lo hi)(hh:hi<=xs.size):(xs.extract lo hi).toList.Pairwise (kl κ):=by
 refine Bp.mpr fun i j hi' hj hij=>?_;rw[cM,AL,Aa,zR] at hi' hj;have at':∀k (hk:k<(xs.extract lo hi).toList.length),xs[lo+k]?=some (xs.extract lo hi).toList[k]:=fun k hk=>by
  have e:(xs.extract lo hi).toList[k]?=some (xs.extract lo hi).toList[k]:=zN hk;rw[cM,AL,Aa,zR] at hk;have e2:(xs.extract lo hi).toList[k]?=xs[lo+k]?:=by
   rw[cM,AQ,AR (by lia),Ab]
  rw[<- e2];exact e
 exact h (lo+i) (lo+j) _ _ (by lia) (by lia) (by lia) (at' i _) (at' j _)
def wr (sa:Nat)(L:List (Keyed×Nat))(a:Array Keyed):Array Keyed:=L.foldl (fun a x=>match x with|(p,j)=>a.setIfInBounds (sa+j) p) a
theorem mE(sa:Nat):∀(L:List Keyed)(n:Nat)(a:Array Keyed)(k:Nat),sa+n+L.length<=a.size->(wr sa (L.zipIdx n) a)[k]?=if sa+n<=k/\k<sa+n+L.length then L[k-(sa+n)]? else a[k]?
 |[],n,a,k,_=>by rw[CY (by rw[BR];lia)];rfl
 |p::r,n,a,k,h=>by
  rw[Ah] at h;show(wr sa (r.zipIdx (n+1)) (a.setIfInBounds (sa+n) p))[k]?=_;rw[mE sa r (n+1) _ k (by rw[Array.size_setIfInBounds];lia),Array.getElem?_setIfInBounds,Ah];by_cases h1:k=sa+n
  ·subst h1;rw[CY (by lia),CZ rfl,CZ (by lia),CZ (by lia),BV];rfl
  ·by_cases h2:sa+(n+1)<=k/\k<sa+(n+1)+r.length
   ·rw[CZ h2,CZ (by lia),show k-(sa+n)=(k-(sa+(n+1)))+1 by lia];rfl
   ·rw[CY h2,CY (fun z=>h1 z.symm),CY (by lia)]
theorem tf(sa:Nat)(L:List Keyed)(a:Array Keyed)(h:sa+L.length<=a.size):(wr sa (L.zipIdx 0) a).toList=a.toList.take sa++L++a.toList.drop (sa+L.length):=by
 refine BW fun k=>?_;rw[Ab,mE sa L 0 a k (by lia),AX,Aj];have lt:(a.toList.take sa).length=sa:=by rw[Aa,zR];lia
 by_cases h1:k<sa
 ·rw[CY (by lia),Ba (by lia),AR h1,Ab]
 ·rw[AE (by lia),lt];by_cases h2:k<sa+L.length
  ·rw[CZ ⟨by lia,h2⟩,Ba (by lia)]
  ·rw[CY (by lia),AE (by lia),AQ,<- Ab]
   congr 1;lia
structure SB(κ:KeyKind)(a₀:Array Keyed)(st:SortSt):Prop where
 perm:(arrOf st).Perm a₀
 kind:kindOf st=oneType'
 failed:failedOf st=none
theorem SB.size{κ:KeyKind}{a₀:Array Keyed}{st:SortSt}(h:SB κ a₀ st):(arrOf st).size=a₀.size:=h.perm.size_eq
theorem SB.at{κ:KeyKind}{a₀:Array Keyed}{st:SortSt}(h:SB κ a₀ st)(h0:KeysOf κ a₀){i:Nat}(hi:i<a₀.size):∃p,(arrOf st)[i]?=some p/\Has κ p:=by
 have hi':i<(arrOf st).size:=by rw[h.size];exact hi
 exact⟨(arrOf st)[i],Ao hi',h0 _ ((Cv.mp h.perm).mem_iff.mp (by simp))⟩
section
variable {prog:Program}{w:World}{A:Around}{E:Value->Shared->Prop}{s:Shared}{κ:KeyKind}{st:SortSt}{a₀:Array Keyed}
theorem rq{Q:PUnit->SortSt->Prop}{st':SortSt}(h:Q ⟨⟩ st'):wpS (model prog w) A E s (set st':StateT SortSt Sem PUnit) Q st:=by
 unfold wpS;rw[StateT.run_set];exact CU ⟨rfl,h⟩
theorem jB{i sa na sb nb pw pw2:Nat}{Q:Bool->SortSt->Prop}(hO:κ.OneLt)(h0:KeysOf κ a₀)(hB:SB κ a₀ st)(e1:(pendingOf st)[i]?=some (sa,na,pw))(e2:(pendingOf st)[i+1]?=some (sb,nb,pw2))(es:sb=sa+na)(n1:1<=na)(n2:1<=nb)(hz:sb+nb<=a₀.size)
  (s1:Seg κ (arrOf st) sa (sa+na))(s2:Seg κ (arrOf st) sb (sb+nb))
  (h:∀st',SB κ a₀ st'->pendingOf st'=((pendingOf st).setIfInBounds i (sa,na+nb,pw)).eraseIdxIfInBounds (i+1)->Seg κ (arrOf st') sa (sa+(na+nb))->(∀k,k<sa\/sb+nb<=k->(arrOf st')[k]?=(arrOf st)[k]?)->Q true st'):wpS (model prog w) A E s (mergeAt' i) Q st:=by
 refine CV (wpS_get ?_);have e1':(sortPriv% PySem.Builtin.SortState.pending) st=pendingOf st:=rfl;rw[e1',e1,e2];refine CV (rq ?_);have hX:(arrOf st).size=a₀.size:=hB.size;have kk:∀p∈(arrOf st).toList,Has κ p:=fun p hp=>h0 _ ((Cv.mp hB.perm).mem_iff.mp hp);have whole:∀{q:Keyed},(arrOf st)[sb]?=some q->(∀i x,sa<=i->i<sb->(arrOf st)[i]?=some x->kl κ x q)->Seg κ (arrOf st) sa (sa+(na+nb)):=fun {q} eq hq i j p r h1 h2 h3 e3 e4=>by
  by_cases c1:j<sb
  ·exact s1 i j p r h1 h2 (by lia) e3 e4
  ·by_cases c2:i<sb
   ·exact(hq i p h1 c2 e3).trans (s2 sb j q r (zE _) (by lia) (by lia) eq e4)
   ·exact s2 i j p r (by lia) h2 (by lia) e3 e4
 obtain⟨q,q1,q3⟩:=hB.at h0 (i:=sb) (by lia);refine CV (aO q1 (CV (bQ (κ:=κ) (base:=sa) (n:=na) (hint:=0) hO hB.kind q3 (fun i=>((arrOf st)[sa+i]?).getD q) (fun i hi=>?_) (by lia) (fun i=>!κ.blt (kf κ q) (kf κ (((arrOf st)[sa+i]?).getD q))) (fun i=>rfl) (fun i j hij hj hBj=>?_) fun k hkn hk1 hk2=>?_)))
 ·obtain⟨p,p1,p3⟩:=hB.at h0 (i:=sa+i) (by lia);rw[p1];exact⟨rfl,p3⟩
 ·obtain⟨p,p1,p3⟩:=hB.at h0 (i:=sa+i) (by lia);obtain⟨r,r1,r3⟩:=hB.at h0 (i:=sa+j) (by lia);rw[r1] at hBj;rw[p1];have hr:kl κ r q:=by
   show κ.blt (kf κ q) (kf κ r)=false;simpa using hBj
  have h2:κ.blt (kf κ q) (kf κ p)=false:=(s1 (sa+i) (sa+j) p r (by lia) (by lia) (by lia) p1 r1).trans hr;show(!κ.blt (kf κ q) (kf κ p))=true;rw[h2];rfl
 have lo:∀i x,sa<=i->i<sa+k->(arrOf st)[i]?=some x->kl κ x q:=fun i x h1 h2 e=>by
  have:=hk1 (i-sa) (by lia);rw[show sa+(i-sa)=i by lia,e] at this;show κ.blt (kf κ q) (kf κ x)=false;simpa using this
 have hi':∀i x,sa+k<=i->i<sb->(arrOf st)[i]?=some x->kl κ q x:=fun i x h1 h2 e=>by
  have:=hk2 (i-sa) (by lia) (by lia);rw[show sa+(i-sa)=i by lia,e] at this;exact Dp (show κ.blt (kf κ q) (kf κ x)=true by simpa using this)
 refine az (fun e=>CW (h _ ⟨hB.perm,hB.kind,hB.failed⟩ rfl ?_ fun _ _=>rfl)) fun e=>?_
 ·have e':na-k=0:=by simpa using e
  exact whole q1 fun i x h1 h2 ex=>lo i x h1 (by lia) ex
 have k1:1<=na-k:=by
  have:¬na-k=0:=fun z=>e (by show((na-k:Nat)==0)=true;rw[z];rfl);lia
 obtain⟨p,p1,p3⟩:=hB.at h0 (i:=sa+k+(na-k)-1) (by lia);have p1':(arrOf st)[sb-1]?=some p:=by rw[<- p1];congr 1;lia
 refine CV (aO p1 (CV (bQ (κ:=κ) (base:=sb) (n:=nb) (hint:=nb-1) hO hB.kind p3 (fun i=>((arrOf st)[sb+i]?).getD p) (fun i hi=>?_) (by lia) (fun i=>κ.blt (kf κ (((arrOf st)[sb+i]?).getD p)) (kf κ p)) (fun i=>rfl) (fun i j hij hj hBj=>?_) fun k2 hkn2 hj1 hj2=>?_)))
 ·obtain⟨r,r1,r3⟩:=hB.at h0 (i:=sb+i) (by lia);rw[r1];exact⟨rfl,r3⟩
 ·obtain⟨u,u1,u3⟩:=hB.at h0 (i:=sb+i) (by lia);obtain⟨r,r1,r3⟩:=hB.at h0 (i:=sb+j) (by lia);rw[r1] at hBj;rw[u1];exact KeyOrd.klt_of_kle_of_klt (s2 (sb+i) (sb+j) u r (by lia) (by lia) (by lia) u1 r1) hBj
 have lo2:∀i x,sb<=i->i<sb+k2->(arrOf st)[i]?=some x->kl κ x p:=fun i x h1 h2 e=>by
  have:=hj1 (i-sb) (by lia);rw[show sb+(i-sb)=i by lia,e] at this;exact Dp this
 have hi2:∀i x,sb+k2<=i->i<sb+nb->(arrOf st)[i]?=some x->kl κ p x:=fun i x h1 h2 e=>by
  have:=hj2 (i-sb) (by lia) (by lia);rw[show sb+(i-sb)=i by lia,e] at this;exact this
 refine az (fun e=>CW (h _ ⟨hB.perm,hB.kind,hB.failed⟩ rfl ?_ fun _ _=>rfl)) fun e=>?_
 ·have e':k2=0:=by simpa using e
  exact whole q1 fun i x h1 h2 ex=>(s1 i (sb-1) x p h1 (by lia) (by lia) ex p1').trans (hi2 sb q (by lia) (by lia) q1)
 have k21:1<=k2:=by
  have:¬k2=0:=fun z=>e (by show((k2:Nat)==0)=true;rw[z];rfl);lia
 have mem:∀{lo hi:Nat}{v:Keyed},v∈((arrOf st).extract lo hi).toList->∃i,lo<=i/\i<hi/\(arrOf st)[i]?=some v:=fun {lo hi v} hv=>by
  obtain⟨i,hi'',e⟩:=AO.mp hv;have e1:((arrOf st).extract lo hi).toList[i]?=some v:=by rw[<- e];exact zN _
  rw[cM,AL,Aa] at hi'';rw[cM,AQ,AR (by lia),Ab] at e1;exact⟨lo+i,by lia,by lia,e1⟩
 have kx:∀{lo hi:Nat},∀v∈((arrOf st).extract lo hi).toList,Has κ v:=fun {lo hi} v hv=>by
  obtain⟨i,_,_,e⟩:=mem hv;exact kk v (zS (by rw[Ab];exact e))
 have zx:((arrOf st).extract (sa+k) sb).size=na-k:=by rw[Cw];lia
 have zy:((arrOf st).extract sb (sb+k2)).size=k2:=by rw[Cw];lia
 have sx:((arrOf st).extract (sa+k) sb).toList.Pairwise (kl κ):=Seg.list (fun i j p q a1 a2 a3=>s1 i j p q (by lia) a2 (by lia)) (by lia);have sy:((arrOf st).extract sb (sb+k2)).toList.Pairwise (kl κ):=Seg.list (fun i j p q a1 a2 a3=>s2 i j p q a1 a2 (by lia)) (by lia);have hx0:∀y∈((arrOf st).extract (sa+k) sb).toList,∀p,((arrOf st).extract sb (sb+k2))[0]?=some p->kl κ p y:=fun y hy p' e=>by
  rw[<- Ab,cM,AQ,AR (by lia),Ab,AX,q1] at e;cases e;obtain⟨i,a1,a2,a3⟩:=mem hy;exact hi' i y a1 a2 a3
 have hyl:∀x∈((arrOf st).extract sb (sb+k2)).toList,∀p,((arrOf st).extract (sa+k) sb)[((arrOf st).extract (sa+k) sb).size-1]?=some p->kl κ x p:=fun x hx p' e=>by
  rw[zx,<- Ab,cM,AQ,AR (by lia),Ab,show sa+k+(na-k-1)=sb-1 by lia,p1'] at e;cases e;obtain⟨i,a1,a2,a3⟩:=mem hx;exact lo2 i x a1 a2 a3
 have tail:∀(r:Array Keyed)(st2:SortSt),kindOf st2=oneType'->arrOf st2=arrOf st->pendingOf st2=((pendingOf st).setIfInBounds i (sa,na+nb,pw)).eraseIdxIfInBounds (i+1)->failedOf st2=none->Fin κ ((arrOf st).extract (sa+k) sb).toList ((arrOf st).extract sb (sb+k2)).toList r.toList->Q true (setArr st2 (wr (sa+k) (r.toList.zipIdx 0) (arrOf st2))):=fun r st2 c1 c2 c3 c4 f=>by
  have lr:r.toList.length=(na-k)+k2:=by
   have:=f.1.length_eq;rw[zG,zR (xs:=(arrOf st).extract (sa+k) sb),zR (xs:=(arrOf st).extract sb (sb+k2)),zx,zy] at this;exact this
  have wl:=tf (sa+k) r.toList (arrOf st) (by lia);have wg:∀t,(wr (sa+k) (r.toList.zipIdx 0) (arrOf st))[t]?=if sa+k<=t/\t<sb+k2 then r.toList[t-(sa+k)]? else (arrOf st)[t]?:=fun t=>by
   rw[mE (sa+k) r.toList 0 (arrOf st) t (by lia),AX,show sa+k+r.toList.length=sb+k2 by lia]
  have rmem:∀v∈r.toList,(∃i,sa+k<=i/\i<sb/\(arrOf st)[i]?=some v)\/∃i,sb<=i/\i<sb+k2/\(arrOf st)[i]?=some v:=fun v hv=>by
   rcases zH.mp (f.1.mem_iff.mp hv) with h1|h1
   ·exact .inl (mem h1)
   ·exact .inr (mem h1)
  have up:∀v∈r.toList,∀i u,sa<=i->i<sa+k->(arrOf st)[i]?=some u->kl κ u v:=fun v hv i u a1 a2 a3=>by
   rcases rmem v hv with ⟨t,b1,b2,b3⟩|⟨t,b1,b2,b3⟩
   ·exact s1 i t u v a1 (by lia) (by lia) a3 b3
   ·exact(lo i u a1 a2 a3).trans (s2 sb t q v (zE _) b1 (by lia) q1 b3)
  have dn:∀v∈r.toList,∀i u,sb+k2<=i->i<sb+nb->(arrOf st)[i]?=some u->kl κ v u:=fun v hv i u a1 a2 a3=>by
   rcases rmem v hv with ⟨t,b1,b2,b3⟩|⟨t,b1,b2,b3⟩
   ·exact(s1 t (sb-1) v p (by lia) (by lia) (by lia) b3 p1').trans (hi2 i u a1 a2 a3)
   ·exact s2 t i v u b1 (by lia) a2 b3 a3
  rw[c2];refine h _ ⟨?_,c1,c4⟩ c3 ?_ fun t ht=>?_
  ·refine Array.Perm.trans ?_ hB.perm;show(wr (sa+k) (r.toList.zipIdx 0) (arrOf st)).Perm (arrOf st);refine Cv.mpr ?_;rw[wl];have eo:(arrOf st).toList=(arrOf st).toList.take (sa+k)++(((arrOf st).extract (sa+k) sb).toList++((arrOf st).extract sb (sb+k2)).toList)++(arrOf st).toList.drop (sa+k+r.toList.length):=by
    rw[cM,cM,show sa+k+r.toList.length=sb+k2 by lia];have a1:(arrOf st).toList.take (sa+k)++((arrOf st).toList.take sb).drop (sa+k)=(arrOf st).toList.take sb:=by
     have:=AB (sa+k) ((arrOf st).toList.take sb)
     rwa [AY,AM (by lia)] at this
    have a2:(arrOf st).toList.take sb++((arrOf st).toList.take (sb+k2)).drop sb=(arrOf st).toList.take (sb+k2):=by
     have:=AB sb ((arrOf st).toList.take (sb+k2))
     rwa [AY,AM (by lia)] at this
    rw[<- Aj,a1,a2,AB]
   conv=>rhs;rw[eo]
   exact((f.1.append_left _).append_right _)
  ·intro i' j' u v a1 a2 a3 a4 a5;have a4':(wr (sa+k) (r.toList.zipIdx 0) (arrOf st))[i']?=some u:=a4;have a5':(wr (sa+k) (r.toList.zipIdx 0) (arrOf st))[j']?=some v:=a5;rw[wg] at a4' a5';by_cases d1:sa+k<=i'/\i'<sb+k2
   ·rw[CZ d1] at a4';by_cases d2:sa+k<=j'/\j'<sb+k2
    ·rw[CZ d2] at a5';obtain⟨w1,w2⟩:=zL.mp a4';obtain⟨w3,w4⟩:=zL.mp a5';rw[<- w2,<- w4];by_cases ee:i'=j'
     ·subst ee;exact Do _
     ·exact Bp.mp f.2 _ _ w1 w3 (by lia)
    ·rw[CY d2] at a5';exact dn u (zS a4') j' v (by lia) (by lia) a5'
   ·rw[CY d1] at a4';by_cases d2:sa+k<=j'/\j'<sb+k2
    ·rw[CZ d2] at a5';exact up v (zS a5') i' u a1 (by lia) a4'
    ·rw[CY d2] at a5';by_cases d3:j'<sa+k
     ·exact s1 i' j' u v a1 a2 (by lia) a4' a5'
     ·by_cases d4:i'<sa+k
      ·exact(lo i' u a1 d4 a4').trans (s2 sb j' q v (zE _) (by lia) (by lia) q1 a5')
      ·exact s2 i' j' u v (by lia) a2 (by lia) a4' a5'
  ·show(wr (sa+k) (r.toList.zipIdx 0) (arrOf st))[t]?=_;rw[wg,CY (by lia)]
 have fin:∀(r:Array Keyed)(st2:SortSt),Ei (setPending st (((pendingOf st).setIfInBounds i (sa,na+nb,pw)).eraseIdxIfInBounds (i+1))) st2->Fin κ ((arrOf st).extract (sa+k) sb).toList ((arrOf st).extract sb (sb+k2)).toList r.toList->kindOf st2=oneType'/\arrOf st2=arrOf st/\pendingOf st2=((pendingOf st).setIfInBounds i (sa,na+nb,pw)).eraseIdxIfInBounds (i+1)/\failedOf st2=none:=fun r st2 g f=>⟨g.kind.trans hB.kind,g.arr,g.pend,g.fail.trans hB.failed⟩
 refine az (fun _=>?_) fun _=>?_
 ·refine CV (jK hO hB.kind kx kx sx sy (show 1<=((arrOf st).extract (sa+k) sb).size by rw[zx];exact k1) (show 1<=((arrOf st).extract sb (sb+k2)).size by rw[zy];exact k21) hx0 hyl fun r st2 g f=>?_);obtain⟨c1,c2,c3,c4⟩:=fin r st2 g f;refine CV (wpS_modify (CV (wpS_get (CW ?_))));have:=tail r st2 c1 c2 c3 c4 f;show Q (failedOf st2).isNone _;rw[c4];exact this
 ·refine CV (jP hO hB.kind kx kx sx sy (show 1<=((arrOf st).extract (sa+k) sb).size by rw[zx];exact k1) (show 1<=((arrOf st).extract sb (sb+k2)).size by rw[zy];exact k21) hx0 hyl fun r st2 g f=>?_);obtain⟨c1,c2,c3,c4⟩:=fin r st2 g f;refine CV (wpS_modify (CV (wpS_get (CW ?_))));have:=tail r st2 c1 c2 c3 c4 f;show Q (failedOf st2).isNone _;rw[c4];exact this
end
structure Frm(κ:KeyKind)(a₀:Array Keyed)(st0:SortSt)(lo hi:Nat)(st:SortSt):Prop where
 sb:SB κ a₀ st
 pend:pendingOf st=pendingOf st0
 out:∀k,k<lo\/hi<=k->(arrOf st)[k]?=(arrOf st0)[k]?
section
variable {κ:KeyKind}{a₀:Array Keyed}{st0 st:SortSt}{lo hi:Nat}
theorem Frm.refl(h:SB κ a₀ st):Frm κ a₀ st lo hi st:=⟨h,rfl,fun _ _=>rfl⟩
theorem Frm.put(h:Frm κ a₀ st0 lo hi st){xs:Array Keyed}(p:xs.Perm (arrOf st))(o:∀k,k<lo\/hi<=k->xs[k]?=(arrOf st)[k]?):Frm κ a₀ st0 lo hi (setArr st xs):=⟨⟨p.trans h.sb.perm,h.sb.kind,h.sb.failed⟩,h.pend,fun k hk=>(o k hk).trans (h.out k hk)⟩
theorem Frm.mirror(h:Frm κ a₀ st0 lo hi st){i j:Nat}(h1:lo<=i)(h2:j<=hi)(h3:hi<=a₀.size):Frm κ a₀ st0 lo hi (setArr st (mirror (arrOf st) i j ((j-i)/2))):=h.put (mirror_perm _ _ _ _) fun k hk=>by
 rw[getElem?_mirror_all (by rw[h.sb.size];lia),CY (by lia)]
theorem Frm.bubble(h:Frm κ a₀ st0 lo hi st){src d:Nat}(h1:lo<=src-d)(h2:src<hi)(h3:hi<=a₀.size)(h4:d<=src):Frm κ a₀ st0 lo hi (setArr st (bubble (arrOf st) src d)):=h.put (bubble_perm _ _ _) fun k hk=>by
 rw[getElem?_bubble (by rw[h.sb.size];lia) d h4,CY (by lia),CY (by lia)]
end
def Up (κ:KeyKind)(xs:Array Keyed)(lo n:Nat):Prop:=∀i j,i<=j->j<n->κ.kle (KK κ xs (lo+i)) (KK κ xs (lo+j))
def Dn (κ:KeyKind)(xs:Array Keyed)(lo n:Nat):Prop:=∀i j,i<=j->j<n->κ.kle (KK κ xs (lo+j)) (KK κ xs (lo+i))
theorem Up.seg{κ:KeyKind}{xs:Array Keyed}{lo n:Nat}(h:Up κ xs lo n):Seg κ xs lo (lo+n):=fun i j p q h1 h2 h3 e1 e2=>by
 have:=h (i-lo) (j-lo) (by lia) (by lia);rw[show lo+(i-lo)=i by lia,show lo+(j-lo)=j by lia] at this;unfold KK at this;rw[e1,e2] at this;exact this
theorem Up.more{κ:KeyKind}{xs:Array Keyed}{lo n:Nat}(h:Up κ xs lo n)(h1:1<=n)(hl:κ.kle (KK κ xs (lo+n-1)) (KK κ xs (lo+n))):Up κ xs lo (n+1):=fun i j hij hj=>by
 by_cases c:j<n
 ·exact h i j hij c
 ·have e:j=n:=by lia
  subst e;by_cases d:i=j
  ·subst d;exact Do _
  ·refine KeyOrd.kle_trans (h i (j-1) (by lia) (by lia)) ?_;rw[show lo+(j-1)=lo+j-1 by lia];exact hl
theorem Dn.more{κ:KeyKind}{xs:Array Keyed}{lo n:Nat}(h:Dn κ xs lo n)(h1:1<=n)(hl:κ.kle (KK κ xs (lo+n)) (KK κ xs (lo+n-1))):Dn κ xs lo (n+1):=fun i j hij hj=>by
 by_cases c:j<n
 ·exact h i j hij c
 ·have e:j=n:=by lia
  subst e;by_cases d:i=j
  ·subst d;exact Do _
  ·refine KeyOrd.kle_trans ?_ (h i (j-1) (by lia) (by lia));rw[show lo+(j-1)=lo+j-1 by lia];exact hl
section
variable {prog:Program}{w:World}{A:Around}{E:Value->Shared->Prop}{s:Shared}{κ:KeyKind}{st:SortSt}{a₀:Array Keyed}
theorem eh{i j:Nat}{Q:Option Bool->SortSt->Prop}(hO:κ.OneLt)(hB:SB κ a₀ st)(h0:KeysOf κ a₀)(hi:i<a₀.size)(hj:j<a₀.size)(h:Q (some (κ.blt (KK κ (arrOf st) i) (KK κ (arrOf st) j))) st):wpS (model prog w) A E s (ltAt' i j) Q st:=by
 obtain⟨⟨x,p⟩,e1,a,ha⟩:=hB.at h0 hi;obtain⟨⟨y,q⟩,e2,b,hb⟩:=hB.at h0 hj;have ka:KK κ (arrOf st) i=a:=by unfold KK;rw[e1];simp[ha]
 have kb:KK κ (arrOf st) j=b:=by unfold KK;rw[e2];simp[hb]
 rw[ka,kb] at h;exact wpS_ltAtK hO hB.kind e1 e2 ha hb h
theorem hZ{i j:Nat}{Q:Unit->SortSt->Prop}(h:∀st',st'=setArr st (mirror (arrOf st) i j ((j-i)/2))->Q () st'):wpS (model prog w) A E s (reverseSlice' i j) Q st:=by
 rw[reverseSlice'_eq];exact wpS_modify (h _ rfl)
def Js:Nat->Nat->StateT SortSt Sem (Option Nat):=sortPriv% PySem.Builtin.countRun
def Iu:Nat->Nat->Nat->StateT SortSt Sem Bool:=sortPriv% PySem.Builtin.binarySort
theorem lg{lo nrem:Nat}{Q:Option Nat->SortSt->Prop}(hO:κ.OneLt)(h0:KeysOf κ a₀)(hn:lo+nrem<=a₀.size)(h1:1<=nrem)(hB:SB κ a₀ st)
  (h:∀m st',Frm κ a₀ st lo (lo+nrem) st'->1<=m->m<=nrem->Up κ (arrOf st') lo m->Q (some m) st'):wpS (model prog w) A E s (Js lo nrem) Q st:=by
 have fin:∀st1,Frm κ a₀ st lo (lo+nrem) st1->∀n,1<=n->n<=nrem->Dn κ (arrOf st1) lo n->Up κ (arrOf (setArr st1 (mirror (arrOf st1) lo (lo+n) ((lo+n-lo)/2)))) lo n:=fun st1 F n n1 n2 hd i j hij hj=>by
  have hz:lo+n<=(arrOf st1).size:=by rw[F.sb.size];lia
  show κ.kle (KK κ (mirror (arrOf st1) lo (lo+n) ((lo+n-lo)/2)) (lo+i)) (KK κ (mirror (arrOf st1) lo (lo+n) ((lo+n-lo)/2)) (lo+j));rw[KK_mirror hz,KK_mirror hz,CZ (by lia),CZ (by lia)];have:=hd (n-1-j) (n-1-i) (by lia) (by lia);rw[show lo+(n-1-j)=lo+(lo+n)-1-(lo+j) by lia,show lo+(n-1-i)=lo+(lo+n)-1-(lo+i) by lia] at this;exact this
 have init:Up κ (arrOf st) lo 1:=fun i j hij hj=>by
  have:i=j:=by lia
  subst this;exact Do _
 refine CV (wpS_mono (wpS_forRange (I:=fun x c st'=>st'=st/\c=(none,x)/\Up κ (arrOf st) lo x) (Q:=fun c st'=>st'=st/\∃n,c=(none,n)/\1<=n/\n<=nrem/\Up κ (arrOf st) lo n/\(n=nrem\/κ.klt (KK κ (arrOf st) (lo+n)) (KK κ (arrOf st) (lo+n-1)))) ?step ?fin ⟨rfl,rfl,init⟩) ?post)
 case fin=>
  rintro c st' ⟨rfl,rfl,u⟩;rw[show max 1 nrem=nrem by lia] at u ⊢;exact⟨rfl,nrem,rfl,h1,zE _,u,.inl rfl⟩
 case step=>
  rintro x c st' hx1 hx2 ⟨rfl,rfl,u⟩;refine CV (eh (i:=lo+x) (j:=lo+x-1) hO hB h0 (by lia) (by lia) ?_);cases hl:κ.blt (KK κ (arrOf st') (lo+x)) (KK κ (arrOf st') (lo+x-1)) with
  |true=>
   exact CW ⟨rfl,x,rfl,hx1,by lia,u,.inr hl⟩
  |false=>
   exact CW ⟨rfl,rfl,u.more hx1 hl⟩
 case post=>
  rintro c st' ⟨rfl,n,rfl,n1,n2,u,hor⟩;refine az (fun e=>CW (h n st' (.refl hB) n1 n2 u)) fun e=>?_;have hne:n≠nrem:=fun z=>e (by show((n:Nat)==nrem)=true;rw[z];exact beq_self_eq_true _);have hlt:κ.klt (KK κ (arrOf st') (lo+n)) (KK κ (arrOf st') (lo+n-1)):=hor.resolve_left hne;apply az
  case' h1=>
   intro hgt;have hgt':n>1:=hgt;refine CV (eh (i:=lo) (j:=lo+n-1) hO hB h0 (by lia) (by lia) ?_);cases hrose:κ.blt (KK κ (arrOf st') lo) (KK κ (arrOf st') (lo+n-1))
   case true=>exact CW (h n st' (.refl hB) n1 n2 u)
   have hall:∀k,lo<=k->k<lo+n->KK κ (arrOf st') k=KK κ (arrOf st') (lo+n-1):=fun k k1 k2=>by
    have a1:=u 0 (k-lo) (by lia) (by lia);have a2:=u (k-lo) (n-1) (by lia) (by lia);rw[show lo+(k-lo)=k by lia] at a1 a2;rw[show lo+(n-1)=lo+n-1 by lia] at a2;exact KeyOrd.kle_antisymm a2 (KeyOrd.kle_trans hrose a1)
   refine CV (hZ (i:=lo) (j:=lo+n) fun st1 hst=>?_);have hz:lo+n<=(arrOf st').size:=by rw[hB.size];lia
   have F1:Frm κ a₀ st' lo (lo+nrem) st1:=by rw[hst];exact(Frm.refl hB).mirror (zE _) (by lia) hn
   have D1:Dn κ (arrOf st1) lo (n+1):=by
    rw[hst];have e0:∀k,KK κ (arrOf (setArr st' (mirror (arrOf st') lo (lo+n) ((lo+n-lo)/2)))) k=KK κ (arrOf st') k:=KK_mirror_equal hz hall;have d0:Dn κ (arrOf (setArr st' (mirror (arrOf st') lo (lo+n) ((lo+n-lo)/2)))) lo n:=fun i j hij hj=>by
     rw[e0,e0,hall (lo+i) (by lia) (by lia),hall (lo+j) (by lia) (by lia)];exact Do _
    refine d0.more n1 ?_;rw[e0,e0];exact Dp hlt
  case' h2=>
   intro hgt;have hn1:n=1:=by
    have:¬n>1:=hgt;lia
   obtain⟨st1,e1⟩:∃st1,st1=st':=⟨_,rfl⟩
   have F1:Frm κ a₀ st' lo (lo+nrem) st1:=by rw[e1];exact .refl hB
   have D1:Dn κ (arrOf st1) lo (n+1):=by
    rw[e1];have d0:Dn κ (arrOf st') lo n:=fun i j hij hj=>by
     have:i=j:=by lia
     subst this;exact Do _
    exact d0.more n1 (Dp hlt)
   rw[<- e1]
  all_goals (
   clear hlt hor u;refine CV (wpS_lift (DG ⟨rfl,?_⟩))
   refine CV (wpS_mono (wpS_forRange (I:=fun x c st2=>∃neq,c=(none,x,neq)/\Frm κ a₀ st' lo (lo+nrem) st2/\Dn κ (arrOf st2) lo x/\neq+1<=x/\∀k,lo+x - (neq+1)<=k->k < lo+x->KK κ (arrOf st2) k=KK κ (arrOf st2) (lo+x - 1))
    (Q:=fun c st2=>∃m neq,c=(none,m,neq)/\Frm κ a₀ st' lo (lo+nrem) st2/\n+1<=m/\m<=nrem/\Dn κ (arrOf st2) lo m/\neq+1<=m/\∀k,lo+m - (neq+1)<=k->k < lo+m->KK κ (arrOf st2) k=KK κ (arrOf st2) (lo+m - 1)) (fun x c st2 hx1 hx2 z=>?_) (fun c st2 z=>?_) ⟨0,rfl,F1,D1,by lia,fun k k1 k2=>by congr 1; lia⟩) fun c st2 z=>?_)
   ·obtain⟨neq,rfl,F2,D2,q1,q2⟩:=z;have hz:lo+x<=(arrOf st2).size:=by rw[F2.sb.size];lia
    refine CV (eh (i:=lo+x) (j:=lo+x-1) hO F2.sb h0 (by lia) (by lia) ?_);cases hl:κ.blt (KK κ (arrOf st2) (lo+x)) (KK κ (arrOf st2) (lo+x-1)) with
    |true=>
     refine az (fun _=>az (fun hq=>?_) fun hq=>?_) fun z=>absurd rfl z
     ·refine CV (hZ (i:=lo+x-(neq+1)) (j:=lo+x) fun st3 hst=>CW ?_);have e0:∀k,KK κ (arrOf st3) k=KK κ (arrOf st2) k:=by rw[hst];exact KK_mirror_equal hz q2
      have d0:Dn κ (arrOf st3) lo x:=fun i j hij hj=>by rw[e0,e0];exact D2 i j hij hj
      exact⟨0,rfl,by rw[hst];exact F2.mirror (by lia) (by lia) hn,d0.more (by lia) (by rw[e0,e0];exact Dp hl),by lia,fun k k1 k2=>by congr 1;lia⟩
     ·exact CW ⟨0,rfl,F2,D2.more (by lia) (Dp hl),by lia,fun k k1 k2=>by congr 1;lia⟩
    |false=>
     refine CV (eh (i:=lo+x-1) (j:=lo+x) hO F2.sb h0 (by lia) (by lia) ?_);cases hg:κ.blt (KK κ (arrOf st2) (lo+x-1)) (KK κ (arrOf st2) (lo+x)) with
     |true=>exact CW ⟨x,neq,rfl,F2,hx1,by lia,D2,q1,q2⟩
     |false=>
      have heq:KK κ (arrOf st2) (lo+x)=KK κ (arrOf st2) (lo+x-1):=KeyOrd.kle_antisymm hg hl;refine CW ⟨neq+1,rfl,F2,D2.more (by lia) (by rw[heq];exact Do _),by lia,fun k k1 k2=>?_⟩;rw[show lo+(x+1)-1=lo+x by lia];by_cases c:k=lo+x
      ·rw[c]
      ·rw[heq];exact q2 k (by lia) (by lia)
   ·obtain⟨neq,rfl,F2,D2,q1,q2⟩:=z;rw[show max (n+1) nrem=nrem by lia] at D2 q1 q2 ⊢;exact⟨nrem,neq,rfl,F2,by lia,zE _,D2,q1,q2⟩
   ·obtain⟨m,neq,rfl,F2,m1,m2,D2,q1,q2⟩:=z;have hz:lo+m<=(arrOf st2).size:=by rw[F2.sb.size];lia
    apply az
    case' h1=>
     intro hq;refine CV (hZ (i:=lo+m-(neq+1)) (j:=lo+m) fun st3 hst=>?_);have e0:∀k,KK κ (arrOf st3) k=KK κ (arrOf st2) k:=by rw[hst];exact KK_mirror_equal hz q2
     have D3:Dn κ (arrOf st3) lo m:=fun i j hij hj=>by rw[e0,e0];exact D2 i j hij hj
     have F3:Frm κ a₀ st' lo (lo+nrem) st3:=by rw[hst];exact F2.mirror (by lia) (by lia) hn
     clear hst e0
    case' h2=>
     intro hq;obtain⟨st3,e3⟩:∃st3,st3=st2:=⟨_,rfl⟩
     have D3:Dn κ (arrOf st3) lo m:=by rw[e3];exact D2
     have F3:Frm κ a₀ st' lo (lo+nrem) st3:=by rw[e3];exact F2
     rw[<- e3];clear e3
    all_goals (
     refine CV (hZ (i:=lo) (j:=lo+m) fun st4 hst=>?_);have U4:Up κ (arrOf st4) lo m:=by rw[hst];exact fin st3 F3 m (by lia) m2 D3
     have F4:Frm κ a₀ st' lo (lo+nrem) st4:=by rw[hst];exact F3.mirror (zE _) (by lia) hn
     refine CV (wpS_mono (wpS_forRange (I:=fun x c st5=>st5=st4/\c=(none,x)/\Up κ (arrOf st4) lo x) (Q:=fun c st5=>st5=st4/\∃n,c=(none,n)/\1<=n/\n<=nrem/\Up κ (arrOf st4) lo n) (fun x c st5 hx1 hx2 z=>?_) (fun c st5 z=>?_) ⟨rfl,rfl,U4⟩) fun c st5 z=>?_)
     ·obtain⟨rfl,rfl,u⟩:=z;have hx1':m<=x:=hx1;have hx2':x<nrem:=hx2;refine CV (eh (i:=lo+x) (j:=lo+x-1) hO F4.sb h0 (by lia) (by lia) ?_);cases hl:κ.blt (KK κ (arrOf st5) (lo+x)) (KK κ (arrOf st5) (lo+x-1)) with
      |true=>exact CW ⟨rfl,x,rfl,by lia,by lia,u⟩
      |false=>exact CW ⟨rfl,rfl,u.more (by lia) hl⟩
     ·obtain⟨rfl,rfl,u⟩:=z;rw[show max m nrem=nrem by lia] at u ⊢;exact⟨rfl,nrem,rfl,h1,zE _,u⟩
     ·obtain⟨rfl,n',rfl,b1,b2,u⟩:=z
      exact CW (h n' st5 F4 b1 b2 u)))
theorem jz{lo n ok:Nat}{Q:Bool->SortSt->Prop}(hO:κ.OneLt)(h0:KeysOf κ a₀)(hn:lo+n<=a₀.size)(hok:ok<=n)(hB:SB κ a₀ st)(hs:Up κ (arrOf st) lo ok)
  (h:∀st',Frm κ a₀ st lo (lo+n) st'->Up κ (arrOf st') lo n->Q true st'):wpS (model prog w) A E s (Iu lo n ok) Q st:=by
 refine CV (wpS_mono (wpS_forRange (I:=fun k c st'=>c=(none,())/\Frm κ a₀ st lo (lo+n) st'/\Up κ (arrOf st') lo (min k n)) (Q:=fun c st'=>c=(none,())/\Frm κ a₀ st lo (lo+n) st'/\Up κ (arrOf st') lo n) (fun k c st1 hk1 hk2 z=>?_) (fun c st' z=>?_) ⟨rfl,.refl hB,?_⟩) fun c st' z=>?_)
 rotate_left
 ·obtain⟨hc,F,u⟩:=z;rw[show min (max (max ok 1) n) n=n by lia] at u;exact⟨hc,F,u⟩
 ·intro i j hij hj;by_cases c:ok=0
  ·have:i=j:=by lia
   subst this;exact Do _
  ·exact hs i j hij (by lia)
 ·obtain⟨rfl,F,u⟩:=z;exact CW (h st' F u)
 obtain⟨rfl,F1,u⟩:=z;rw[show min k n=k by lia] at u;have hk:lo+k<a₀.size:=by lia
 refine CV (wpS_mono (wpS_forRange (I:=fun x c st2=>st2=st1/\∃l r,c=(none,l,r)/\l<=r/\r<=k/\r - l<=k - x/\(∀i,i < l->κ.kle (KK κ (arrOf st1) (lo+i)) (KK κ (arrOf st1) (lo+k)))/\(∀i,r<=i->i < k->κ.klt (KK κ (arrOf st1) (lo+k)) (KK κ (arrOf st1) (lo+i))))
  (Q:=fun c st2=>st2=st1/\∃l r,c=(none,l,r)/\l<=k/\(∀i,i < l->κ.kle (KK κ (arrOf st1) (lo+i)) (KK κ (arrOf st1) (lo+k)))/\(∀i,l<=i->i < k->κ.klt (KK κ (arrOf st1) (lo+k)) (KK κ (arrOf st1) (lo+i)))) (fun x c st2 hx1 hx2 z=>?_) (fun c st2 z=>?_) ⟨rfl,0,k,rfl,zX _,zE _,by lia,fun i hi=>by lia,fun i h1 h2=>by lia⟩) fun c st2 z=>?_)
 ·obtain⟨rfl,l,r,rfl,b1,b2,b3,b4,b5⟩:=z;refine az (fun hge=>?_) fun hge=>?_
  ·have hge':l≥r:=hge;have:l=r:=by lia
   subst this;exact CW ⟨rfl,l,l,rfl,b2,b4,b5⟩
  have hge':¬l≥r:=hge;refine CV (eh (i:=lo+k) (j:=lo+(l+r)/2) hO F1.sb h0 hk (by lia) ?_);cases hl:κ.blt (KK κ (arrOf st2) (lo+k)) (KK κ (arrOf st2) (lo+(l+r)/2)) with
  |true=>exact CW ⟨rfl,l,(l+r)/2,rfl,by lia,by lia,by lia,b4,fun i h1 h2=>KeyOrd.klt_of_klt_of_kle hl (u _ _ h1 h2)⟩
  |false=>exact CW ⟨rfl,(l+r)/2+1,r,rfl,by lia,by lia,by lia,fun i h1=>KeyOrd.kle_trans (u i ((l+r)/2) (by lia) (by lia)) hl,b5⟩
 ·obtain⟨rfl,l,r,rfl,b1,b2,b3,b4,b5⟩:=z;have b3':r-l<=k-max 0 k:=b3;have:l=r:=by lia
  subst this;exact⟨rfl,l,l,rfl,b2,b4,b5⟩
 ·obtain⟨rfl,l,r,rfl,b1,b4,b5⟩:=z;have hz:lo+k<(arrOf st2).size:=by rw[F1.sb.size];exact hk
  refine CV (wpS_modify (CW ⟨rfl,F1.bubble (src:=lo+k) (d:=lo+k-(lo+l)) (by lia) (by lia) hn (by lia),?_⟩));rw[show min (k+1) n=k+1 by lia];intro i j hij hj;show κ.kle (KK κ (bubble (arrOf st2) (lo+k) (lo+k-(lo+l))) (lo+i)) (KK κ (bubble (arrOf st2) (lo+k) (lo+k-(lo+l))) (lo+j));rw[KK_bubble hz (by lia),KK_bubble hz (by lia),show lo+k-(lo+k-(lo+l))=lo+l by lia];by_cases c1:lo+j=lo+l
  ·rw[CZ c1];by_cases c2:lo+i=lo+l
   ·rw[CZ c2];exact Do _
   ·rw[CY c2,CY (by lia)];exact b4 i (by lia)
  ·rw[CY c1];by_cases c3:lo+l<lo+j/\lo+j<=lo+k
   ·rw[CZ c3,show lo+j-1=lo+(j-1) by lia];by_cases c2:lo+i=lo+l
    ·rw[CZ c2];exact Dp (b5 _ (by lia) (by lia))
    ·rw[CY c2];by_cases c4:lo+l<lo+i/\lo+i<=lo+k
     ·rw[CZ c4,show lo+i-1=lo+(i-1) by lia];exact u _ _ (by lia) (by lia)
     ·rw[CY c4];exact u _ _ (by lia) (by lia)
   ·rw[CY c3,CY (by lia),CY (by lia)];exact u _ _ (by lia) (by lia)
end
abbrev Rn:=Nat×Nat×Nat
def Chain(κ:KeyKind)(xs:Array Keyed):List Rn->Nat->Nat->Prop
 |[],s,e=>s=e
 |t::r,s,e=>t.1=s/\1<=t.2.1/\Seg κ xs s (s+t.2.1)/\Chain κ xs r (s+t.2.1) e
section
variable {κ:KeyKind}{xs ys:Array Keyed}
theorem Chain.app:∀{L M:List Rn}{s e:Nat},Chain κ xs (L++M) s e↔∃m,Chain κ xs L s m/\Chain κ xs M m e
 |[],M,s,e=>⟨fun h=>⟨s,rfl,h⟩,fun⟨m,h1,h2⟩=>by cases h1;exact h2⟩
 |t::r,M,s,e=>by
  constructor
  ·rintro⟨h1,h2,h3,h4⟩;obtain⟨m,a,b⟩:=Chain.app.mp h4;exact⟨m,⟨h1,h2,h3,a⟩,b⟩
  ·rintro⟨m,⟨h1,h2,h3,a⟩,b⟩;exact⟨h1,h2,h3,Chain.app.mpr ⟨m,a,b⟩⟩
theorem Chain.len:∀{L:List Rn}{s e:Nat},Chain κ xs L s e->s+L.length<=e
 |[],s,e,h=>by cases h;exact zE _
 |t::r,s,e,⟨_,h2,_,h4⟩=>by
  have:=h4.len;rw[Ah];lia
theorem Chain.keep:∀{L:List Rn}{s e:Nat},Chain κ xs L s e->(∀k,s<=k->k<e->ys[k]?=xs[k]?)->Chain κ ys L s e
 |[],s,e,h,_=>h
 |t::r,s,e,⟨h1,h2,h3,h4⟩,hk=>by
  have:=h4.len;exact⟨h1,h2,fun i j p q a1 a2 a3 e1 e2=>h3 i j p q a1 a2 a3 (by rw[<- hk i (by lia) (by lia)];exact e1) (by rw[<- hk j (by lia) (by lia)];exact e2),h4.keep fun k a b=>hk k (by lia) b⟩
theorem Chain.pow(pw:Nat):∀{L:List Rn}{s e:Nat}(i:Nat),Chain κ xs L s e->Chain κ xs (L.modify i fun t=>(t.1,t.2.1,pw)) s e
 |[],s,e,i,h=>by cases i<;>exact h
 |t::r,s,e,0,⟨h1,h2,h3,h4⟩=>⟨h1,h2,h3,h4⟩
 |t::r,s,e,i+1,⟨h1,h2,h3,h4⟩=>⟨h1,h2,h3,h4.pow pw i⟩
theorem nC{L:List Rn}{i:Nat}(h:i+1<L.length):∃L1 x y L2,L=L1++x::y::L2/\L1.length=i:=by
 refine⟨L.take i,L[i],L[i+1],L.drop (i+2),?_,by rw[Aa];lia⟩
 conv=>lhs;rw[<- AB i L]
 rw[BS (show i<L.length by lia),BS h]
end
structure RR(κ:KeyKind)(a₀:Array Keyed)(lo:Nat)(st:SortSt):Prop where
 sb:SB κ a₀ st
 ch:Chain κ (arrOf st) (pendingOf st).toList 0 lo
section
variable {prog:Program}{w:World}{A:Around}{E:Value->Shared->Prop}{s:Shared}{κ:KeyKind}{st:SortSt}{a₀:Array Keyed}
theorem fU{i lo:Nat}{Q:Bool->SortSt->Prop}(hO:κ.OneLt)(h0:KeysOf κ a₀)(R:RR κ a₀ lo st)(hi:i+1<(pendingOf st).size)(hl:lo<=a₀.size)
  (h:∀st',RR κ a₀ lo st'->(pendingOf st').size+1=(pendingOf st).size->(∀k,lo<=k->(arrOf st')[k]?=(arrOf st)[k]?)->Q true st'):wpS (model prog w) A E s (mergeAt' i) Q st:=by
 obtain⟨L1,x,y,L2,eL,l1⟩:=nC (L:=(pendingOf st).toList) (i:=i) (by rw[zR];exact hi);obtain⟨sa,na,pw⟩:=x;obtain⟨sb,nb,pw2⟩:=y;have ch:=R.ch;rw[eL] at ch;obtain⟨m,c1,b1,b2,b3,b4,b5,b6,c2⟩:=Chain.app.mp ch;have b1:sa=m:=b1;have b4:sb=m+na:=b4;have b2:1<=na:=b2;have b5:1<=nb:=b5;subst b1;have z1:=c1.len;have z2:=c2.len;have z2:sa+na+nb+L2.length<=lo:=z2;have e1:(pendingOf st)[i]?=some (sa,na,pw):=by rw[<- Ab,eL,AE (by lia),l1,BV];rfl
 have e2:(pendingOf st)[i+1]?=some (sb,nb,pw2):=by rw[<- Ab,eL,AE (by lia),show i+1-L1.length=1 by lia];rfl
 refine jB hO h0 R.sb e1 e2 b4 b2 b5 (by lia) b3 (by rw[b4];exact b6) fun st' B' p' s' o'=>?_;have eP:(pendingOf st').toList=L1++(sa,na+nb,pw)::L2:=by
  rw[p',Array.toList_eraseIdxIfInBounds,Array.toList_setIfInBounds,eL,List.set_append_right _ _ (by lia),List.eraseIdx_append_of_length_le (by lia),show i-L1.length=0 by lia,show i+1-L1.length=1 by lia];rfl
 refine h st' ⟨B',?_⟩ ?_ fun k hk=>o' k (.inr (by lia))
 ·rw[eP];refine Chain.app.mpr ⟨sa,c1.keep fun k _ hk=>o' k (.inl hk),rfl,?_,s',?_⟩
  ·show 1<=na+nb;lia
  ·have:=c2.keep (ys:=arrOf st') fun k hk _=>o' k (.inr (by have:sa+na+nb<=k:=hk;lia));show Chain κ (arrOf st') L2 (sa+(na+nb)) lo;rw[<- Nat.add_assoc];exact this
 ·have h1:=congrArg List.length eP;have h2:=congrArg List.length eL;rw[zR,zG,Ah] at h1;rw[zR,zG,Ah,Ah] at h2;lia
theorem less{N:Nat}(h:¬N<=1){c:Prop} [Decidable c]:(if c then N-2-1 else N-2)+1<N:=by split<;>lia
theorem jv{Q:Unit->SortSt->Prop}(hO:κ.OneLt)(h0:KeysOf κ a₀)(hB:SB κ a₀ st)(hp:pendingOf st=#[])
  (h:∀st',SB κ a₀ st'->Seg κ (arrOf st') 0 a₀.size->Q () st'):wpS (model prog w) A E s sortRuns' Q st:=by
 refine CV (wpS_get ?_);have hsz:(arrOf st).size=a₀.size:=hB.size;refine CV (wpS_mono (wpS_forRange (I:=fun x c st'=>c.1=none/\RR κ a₀ c.2 st'/\c.2<=a₀.size/\(x<=c.2\/c.2=a₀.size)) (Q:=fun c st'=>c.1=none/\RR κ a₀ a₀.size st') (fun x c st1 hx1 hx2 z=>?_) (fun c st' z=>?_) ⟨rfl,⟨hB,?_⟩,zX _,.inl (zE _)⟩) fun c st' z=>?_)
 rotate_left
 ·obtain⟨e,R,l1,l2⟩:=z;refine⟨e,?_⟩;have:c.2=a₀.size:=by
   rcases l2 with l2|l2
   ·have l2':max 0 (arrOf st).size<=c.2:=l2;lia
   ·exact l2
  rw[this] at R;exact R
 ·rw[hp];rfl
 ·obtain⟨c0,lo⟩:=c;obtain⟨e,R⟩:=z;cases e;refine CV (wpS_mono (wpS_forRange (I:=fun x c st2=>c=(none,())/\RR κ a₀ a₀.size st2/\((pendingOf st2).size+x<=a₀.size+0\/(pendingOf st2).size<=1)) (Q:=fun c st2=>c=(none,())/\RR κ a₀ a₀.size st2/\(pendingOf st2).size<=1) (fun x c st2 hx1 hx2 z=>?_) (fun c st2 z=>?_) ⟨rfl,R,?_⟩) fun c st2 z=>?_)
  rotate_left
  ·obtain⟨e,R2,l⟩:=z;refine⟨e,R2,?_⟩;have l':(pendingOf st2).size+max 0 (arrOf st).size<=a₀.size+0\/(pendingOf st2).size<=1:=l;lia
  ·have:=R.ch.len;rw[zR] at this;exact .inl (by lia)
  ·obtain⟨rfl,R2,l⟩:=z;refine CW (h st2 R2.sb ?_);have ch:=R2.ch;have ll:(pendingOf st2).toList.length<=1:=by rw[zR];exact l
   cases eL:(pendingOf st2).toList with
   |nil=>
    rw[eL] at ch;have ch:0=a₀.size:=ch;intro i j p q a1 a2 a3;lia
   |cons t r=>
    rw[eL,Ah] at ll;have hr:r=[]:=Az.mp (by lia);rw[eL,hr] at ch;obtain⟨_,_,sg,ee⟩:=ch;have ee:0+t.2.1=a₀.size:=ee;rw[ee] at sg;exact sg
  obtain⟨rfl,R2,l⟩:=z;refine CV (wpS_get ?_);refine az (fun e=>CW ⟨rfl,R2,e⟩) fun e=>?_;have e':¬(pendingOf st2).size<=1:=e;refine CV (fU hO h0 R2 (less e') (zE _) fun st3 R3 l3 _=>?_);exact CW ⟨rfl,R3,by lia⟩
 obtain⟨c0,lo⟩:=c;obtain⟨e,R,l1,l2⟩:=z;cases e;dsimp only at R l1 l2;refine az (fun e=>CW ⟨rfl,?_⟩) fun e=>?_
 ·have e':lo≥(arrOf st).size:=e;rw[show lo=a₀.size by lia] at R;exact R
 have e':¬lo≥(arrOf st).size:=e;refine CV (lg (lo:=lo) (nrem:=(arrOf st).size-lo) hO h0 (by lia) (by lia) R.sb fun m st2 F2 m1 m2 U2=>?_);apply az
 case' h1=>
  intro hm;refine CV (wpS_lift (DG ⟨rfl,?_⟩));have hm':m<minRun' (arrOf st).size (arrOf st).size 0:=hm;refine CV (jz (lo:=lo) (n:=min ((arrOf st).size-lo) (minRun' (arrOf st).size (arrOf st).size 0)) (ok:=m) hO h0 (by generalize minRun' (arrOf st).size (arrOf st).size 0=mr;lia) (by generalize minRun' (arrOf st).size (arrOf st).size 0=mr at hm' ⊢;lia) F2.sb U2 fun st3 F3 U3=>?_);have hmm:1<=min ((arrOf st).size-lo) (minRun' (arrOf st).size (arrOf st).size 0)/\lo+min ((arrOf st).size-lo) (minRun' (arrOf st).size (arrOf st).size 0)<=a₀.size:=by
   generalize minRun' (arrOf st).size (arrOf st).size 0=mr at hm' ⊢;lia
  refine az (fun z=>absurd z (by decide)) fun _=>?_;have R3:RR κ a₀ lo st3:=⟨F3.sb,by rw[F3.pend,F2.pend];exact R.ch.keep fun k _ hk=>(F3.out k (.inl hk)).trans (F2.out k (.inl hk))⟩
  obtain⟨n1,n2⟩:=hmm;have S3:=U3.seg;clear F3 U3;obtain⟨n,hn⟩:∃n,n=min ((arrOf st).size-lo) (minRun' (arrOf st).size (arrOf st).size 0):=⟨_,rfl⟩
  rw[<- hn] at n1 n2 S3
 case' h2=>
  intro hm;obtain⟨st3,e3⟩:∃st3,st3=st2:=⟨_,rfl⟩
  have R3:RR κ a₀ lo st3:=by rw[e3];exact⟨F2.sb,by rw[F2.pend];exact R.ch.keep fun k _ hk=>F2.out k (.inl hk)⟩
  have n1:1<=m:=m1;have n2:lo+m<=a₀.size:=by lia
  have S3:Seg κ (arrOf st3) lo (lo+m):=by rw[e3];exact U2.seg
  rw[<- e3];clear e3;obtain⟨n,hn⟩:∃n,n=m:=⟨_,rfl⟩
  rw[<- hn] at n1 n2 S3
 all_goals (
  have push:∀st4,RR κ a₀ lo st4->Seg κ (arrOf st4) lo (lo+n)->RR κ a₀ (lo+n) (setPending st4 ((pendingOf st4).push (lo,n,0))):=fun st4 R4 S4=>⟨⟨R4.sb.perm,R4.sb.kind,R4.sb.failed⟩,by
   show Chain κ (arrOf st4) ((pendingOf st4).push (lo,n,0)).toList 0 (lo+n);rw[Bo]
   exact Chain.app.mpr ⟨lo,R4.ch,rfl,n1,S4,rfl⟩⟩
  refine CV (wpS_get ?_);cases eb:(pendingOf st3).back? with
  |none=>
   subst hn;exact CV (wpS_modify (CW ⟨rfl,push st3 R3 S3,n2,.inl (by lia)⟩))
  |some t=>
   obtain⟨s1,n0,pw0⟩:=t;refine CV (wpS_mono (wpS_forRange (I:=fun y c st4=>c=(none,())/\RR κ a₀ lo st4/\∀k,lo<=k->(arrOf st4)[k]?=(arrOf st3)[k]?) (Q:=fun c st4=>c=(none,())/\RR κ a₀ lo st4/\∀k,lo<=k->(arrOf st4)[k]?=(arrOf st3)[k]?) (fun y c st4 hy1 hy2 z=>?_) (fun c st4 z=>z) ⟨rfl,R3,fun _ _=>rfl⟩) fun c st4 z=>?_)
   ·obtain⟨rfl,R4,o4⟩:=z;refine CV (wpS_get ?_);dsimp only;by_cases hp1:(pendingOf st4).size>1
    ·have e5:(if (pendingOf st4).size>1 then (pendingOf st4)[(pendingOf st4).size-2]? else none)=some ((pendingOf st4)[(pendingOf st4).size-2]'(by lia)):=by rw[CZ hp1];exact Ao _
     generalize (pendingOf st4)[(pendingOf st4).size-2]'(by lia)=u at e5;obtain⟨u1,u2,u3⟩:=u;rw[show(if ((sortPriv% PySem.Builtin.SortState.pending) st4).size>1 then ((sortPriv% PySem.Builtin.SortState.pending) st4)[((sortPriv% PySem.Builtin.SortState.pending) st4).size-2]? else none)=some (u1,u2,u3) from e5];refine az (fun _=>CW ⟨rfl,R4,o4⟩) fun _=>?_;refine CV (fU hO h0 R4 (show(pendingOf st4).size-2+1<(pendingOf st4).size by lia) l1 fun st5 R5 l5 o5=>?_);exact CW ⟨rfl,R5,fun k hk=>(o5 k hk).trans (o4 k hk)⟩
    ·rw[show(if ((sortPriv% PySem.Builtin.SortState.pending) st4).size>1 then ((sortPriv% PySem.Builtin.SortState.pending) st4)[((sortPriv% PySem.Builtin.SortState.pending) st4).size-2]? else none)=none from CY hp1];exact CW ⟨rfl,R4,o4⟩
   ·obtain⟨rfl,R4,o4⟩:=z;refine CV (wpS_modify (CV (wpS_modify ?_)));subst hn;refine CW ⟨rfl,push _ ⟨⟨R4.sb.perm,R4.sb.kind,R4.sb.failed⟩,?_⟩ (fun i j p q a1 a2 a3 e1 e2=>S3 i j p q a1 a2 a3 (by rw[<- o4 i a1];exact e1) (by rw[<- o4 j (by lia)];exact e2)),n2,.inl (by lia)⟩;show Chain κ (arrOf st4) ((pendingOf st4).modify ((pendingOf st4).size-1) _).toList 0 lo;rw[Array.toList_modify]
    exact R4.ch.pow _ _)
end
end SG
namespace L2
open PySem PySem.Spec PyProof.Rows
def qY {α:Type}(xs:List α)(lo hi:Option Int):List α:=(xs.drop (HT.sIx xs.length 0 lo)).take (HT.sIx xs.length xs.length hi-HT.sIx xs.length 0 lo)
theorem vm(lo hi:Option Int)(n:Nat):Builtin.Str.strSliceIndices lo hi 1 n=(List.range (HT.sIx n n hi-HT.sIx n 0 lo)).map fun k=>HT.sIx n 0 lo+k:=by
 have clipA:∀v:Int,max 0 (min (if v<0 then v+(n:Int) else v) (n:Int))=(((if v<0 then (v+(n:Int)).toNat else min v.toNat n):Nat):Int):=fun v=>by
  split<;>lia
 have key:∀i j:Nat,sliceRange (i:Int) (j:Int) 1=(List.range (j-i)).map fun k=>i+k:=fun i j=>by
  unfold sliceRange;simp only[show(1:Int)>0 by decide,if_true];have e:(if (i:Int)<(j:Int) then ((j:Int)-(i:Int)+1-1)/1 else 0).toNat=j-i:=by
   split<;>lia
  rw[e];apply Bq;intro k _;lia
 have lo':(match lo with|none=>(0:Int)|some i=>max 0 (min (if i<0 then i+(n:Int) else i) (n:Int)))=((HT.sIx n 0 lo:Nat):Int):=by
  cases lo with
  |none=>rfl
  |some v=>exact clipA v
 have hi':(match hi with|none=>(n:Int)|some i=>max 0 (min (if i<0 then i+(n:Int) else i) (n:Int)))=((HT.sIx n n hi:Nat):Int):=by
  cases hi with
  |none=>rfl
  |some v=>exact clipA v
 rw[<- key,<- lo',<- hi'];rfl
theorem oB{α:Type}(xs:List α)(i m:Nat)(h:i+m<=xs.length):((List.range m).map fun k=>i+k).filterMap (fun j=>xs[j]?)=(xs.drop i).take m:=by
 induction m with
 |zero=>simp
 |succ m ih=>
  have hm:i+m<xs.length:=by lia
  rw[List.range_succ,zV,Cy,ih (by lia),Ak,AQ,zN hm];simp[hm]
theorem cN(z:Str)(lo hi:Option Int):(Txt.slice z lo hi).cps.toList=qY z.cps.toList lo hi:=by
 have hn:z.length=z.cps.toList.length:=rfl;unfold Txt.slice;have e:=vm lo hi z.length;have h1:=HT.Ic z.length 0 (zX _) lo;have h2:=HT.Ic z.length z.length (zE _) hi;rw[e];split
 ·rename_i c;have c':(HT.sIx z.length z.length hi-HT.sIx z.length 0 lo)=z.length:=by
   have:=(Au _ _▸c).2;simpa using this
  unfold qY;rw[<- hn];have a0:HT.sIx z.length 0 lo=0\/z.length=0:=by lia
  rcases a0 with a0|a0
  ·rw[c',a0,BU];exact(Af (by rw[<- hn];exact zE _)).symm
  ·have:z.cps.toList=[]:=Az.mp (by rw[<- hn];exact a0);rw[this];simp
 ·show((List.map _ _).filterMap _).toArray.toList=_;unfold qY;rw[<- hn];have e2:(fun j:Nat=>z.cps[j]?)=fun j:Nat=>z.cps.toList[j]?:=by funext j;rw[Ab]
  rw[List.toList_toArray,e2];by_cases hle:HT.sIx z.length 0 lo<=HT.sIx z.length z.length hi
  ·exact oB _ _ _ (by rw[<- hn];lia)
  ·have:HT.sIx z.length z.length hi-HT.sIx z.length 0 lo=0:=by lia
   rw[this];simp
section
variable {X:Cx}
def rSlS:V->Option Int->Option Int->Hp->VK->Prop:=fun x lo hi H Q=>∃z,x=.str z/\z.length<=sizeLine/\Q (.str (Txt.slice z lo hi)) H
theorem Ek:SlR X rSlS:=by
 intro pins s σ H x v vl vu lo hi sl Q I rx hs pl pu q;obtain⟨z,rfl,hz,q⟩:=q;obtain⟨t,rfl⟩:=rx;refine⟨"str",_,PySem.F.slot_str_getitem.lookup,typeIs_str _ _ _,?_⟩;obtain⟨l',e1,e1'⟩:∃l':Option (Int×Tok),vl=partValue l'/\l'.map (·.1)=lo:=by
  cases pl with
  |none=>exact⟨none,rfl,rfl⟩
  |int i t=>exact⟨some (i,t),rfl,rfl⟩
 obtain⟨u',e2,e2'⟩:∃l':Option (Int×Tok),vu=partValue l'/\l'.map (·.1)=hi:=by
  cases pu with
  |none=>exact⟨none,rfl,rfl⟩
  |int i t=>exact⟨some (i,t),rfl,rfl⟩
 subst e1 e2 e1' e2';refine wpAny_getItem_str_slice (l:=l') (u:=u') (st:=none) hs rfl (post_val_or_str ⟨?_,fun t' k=>⟨.str (Txt.slice z (l'.map (·.1)) (u'.map (·.1))),H,I.tok _,⟨_,rfl⟩,q⟩⟩);exact zO (Txt.slice_le z (l'.map (·.1)) (u'.map (·.1))) hz
def JR:R2:=fun x y H Q=>∃z n,x=.str z/\y=.int n/\-(2^63)<=n/\n<2^63/\z.length*n.toNat<=16777216/\Q (.str (Txt.mul z n)) H
theorem Fo:OpR X (binaryOp .Mult) JR:=by
 intro pins s σ H x y v u Q I rx ry h;obtain⟨z,n,rfl,rfl,h0,h1,hz,q⟩:=h;obtain⟨t,rfl⟩:=rx;obtain⟨t',rfl⟩:=ry;refine SB.mul ⟨?_,fun hn _ hc=>?_,fun hn _=>?_⟩ fun tk k=>⟨.str _,H,I.tok _,⟨_,rfl⟩,q⟩
 ·rw[Dd (by lia),Dd (by lia)];rfl
 ·have hn':1<=n:=by lia
  have e:((z.length*n.toNat:Nat):Int)=(z.length:Int)*n:=by
   rw[Int.natCast_mul,Int.toNat_of_nonneg (by lia)]
  have h3:(z.length:Int)*n<=16777216:=by rw[<- e];lia
  have h4:(z.length:Int)<=(2^63-1)/n:=by
   rw[Int.le_ediv_iff_mul_le (by lia)];lia
  lia
 ·unfold Builtin.Str.tooLong;exact Dd (by rw[sizeLine_eq];lia)
end
theorem jR(a:Array Nat):∀(n:Nat)(acc:Array Nat),((List.replicate n a).foldl (·++·) acc).toList=acc.toList++(List.replicate n a.toList).flatten
 |0,acc=>by simp
 |n+1,acc=>by
  rw[Cz,Bv,jR a n,Cz,CA,Ay,Aj]
theorem mul_list(z:Str)(n:Int):(Txt.mul z n).cps.toList=(List.replicate n.toNat z.cps.toList).flatten:=by
 unfold Txt.mul;split
 ·have:n.toNat=0:=by lia
  rw[this];rfl
 ·split
  ·rename_i hn c;have c':n=1\/z.length=0:=by simpa using c
   rcases c' with rfl|c'
   ·simp
   ·have:z.cps.toList=[]:=Az.mp c';rw[this];simp
  ·show((List.replicate n.toNat z.cps).foldl (·++·) #[]).toList=_;rw[jR];simp
section
variable {X:Cx}
theorem Fe:∀{ns:List Int}{us:List Value}{i:Nat}{v:Value},Vals (ns.map V.int) us->us[i]?=some v->∃t,v=.int (ns.getD i 0) t
 |[],_,_,_,.nil,e=>by simp at e
 |n::r,_,0,_,.cons h _,e=>by
  simp at e;subst e;obtain⟨t,rfl⟩:=h;exact⟨t,rfl⟩
 |n::r,_,i+1,v,.cons _ t,e=>by
  obtain⟨tk,q⟩:=Fe (i:=i) (v:=v) t (by simpa using e);exact⟨tk,by simpa using q⟩
theorem Inv.Fm{pins:List (Addr×Obj)}{σ:St}{H:Hp}{s:Shared}{h':Heap}{tk:Nat}{o:Obj}(I:Inv X pins σ H s)(hk:∀b u,b∉[s.heap.objs.size]->(s.heap.push o).get? b=some u->h'.get? b=some u):Inv X pins σ H {s with heap:=h',toks:=tk}:=by
 have I1:Inv X pins σ H {s with heap:=s.heap.push o,toks:=s.toks}:=I.kept fun b o e=>Dw _ e;refine Inv.turned (s:={s with heap:=s.heap.push o,toks:=s.toks}) (it:=s.heap.objs.size) I1 (fun b o hb e=>hk b o (by simpa using hb) e) (I.hok.fresh (zE _)) (BC I.lt) (.inr (Heap.get?_none_of_le I.sz)) (fun x c e z=>?_) fun p hp z=>?_
 ·obtain⟨v,o,ho,_⟩:=I.cell x c e;rw[z] at ho;exact absurd (Dh ho) (Ai _)
 ·have:=(I.pin p hp).1;rw[z] at this;exact absurd (Dh this) (Ai _)
theorem jt(val:Nat->Int):∀k,argBest (fun i j=>decide (val i<val j)) k<=k/\∀j,j<=k->val (argBest (fun i j=>decide (val i<val j)) k)<=val j
 |0=>⟨zE _,fun j hj=>by have:j=0:=(by lia);subst this;exact Bw _⟩
 |k+1=>by
  obtain⟨h1,h2⟩:=jt val k;show(if decide (val (k+1)<val (argBest _ k))=true then k+1 else argBest _ k)<=k+1/\∀j,j<=k+1->val (if decide (val (k+1)<val (argBest _ k))=true then k+1 else argBest _ k)<=val j;by_cases c:val (k+1)<val (argBest (fun i j=>decide (val i<val j)) k)
  ·rw[CZ (Dc c)];refine⟨zE _,fun j hj=>?_⟩;by_cases e:j=k+1
   ·subst e;exact Bw _
   ·have:=h2 j (by lia);lia
  ·rw[CY (by rw[Dd c];decide)];refine⟨by lia,fun j hj=>?_⟩;by_cases e:j=k+1
   ·subst e;lia
   ·exact h2 j (by lia)
def wd (K:W.Frag):List V->Hp->VK->Prop:=fun xs H Q=>∃(p:Addr)(ns:List Int),xs=[.ref p]/\SqT K H p (ns.map V.int)/\ns≠[]/\∀m,m∈ns->(∀n∈ns,m<=n)->Q (.int m) H
theorem nV(hc:X.calm=true):cb X (.builtin "min") (wd X.K):=by
 intro pins s σ H xs us Q I r h;obtain⟨p,ns,rfl,hq,hne,q⟩:=h;obtain⟨u,rfl,rx⟩:=dB r;cases rx;obtain⟨its,rv,pl,hz⟩:=I.tuple hq;have hl:=rv.length;rw[zF] at hl;have hh:X.A.in1.handled=none:=I.ok.hd hc;obtain⟨ob,ho,hcl,n0,hd⟩:=id pl;have hp:p<s.heap.objs.size:=Dh ho;have it:s.heap.IsTuple p its.toArray:=pl;refine call_min_walk (wpAny_pyIter_tuple it ⟨s.heap.objs.size,_,_,_,_,_,fun i j=>decide (ns.getD i 0<ns.getD j 0),rfl,Walks.tuple hh s.heap.objs.size p (zJ hp) _,⟨⟨_,Dx _ rfl,rfl,rfl⟩,it.push _⟩,?_,?_,CmpOf.ints_lt (fun i=>ns.getD i 0) fun i v hv=>Fe rv (by rw[AZ] at hv;exact hv),fun v h' tk hv hk=>?_⟩)
 ·intro b hb;show b<(s.heap.push _).objs.size;rw[DE];simp only[zU,AC,or_false] at hb;rcases hb with e|e
  ·rw[e];exact Av _
  ·rw[e];exact AF hp
 ·rw[zY];cases ns with
  |nil=>exact absurd rfl hne
  |cons _ _=>rw[<- hl];exact BX _
 ·obtain⟨t,rfl⟩:=Fe rv (by rw[AZ] at hv;exact hv);obtain⟨h1,h2⟩:=jt (fun i=>ns.getD i 0) (its.toArray.size-1);have hs:its.toArray.size=ns.length:=by rw[zY,hl]
  have pos:0<ns.length:=by
   cases ns with
   |nil=>exact absurd rfl hne
   |cons _ _=>exact BX _
  refine⟨.int _,H,I.Fm hk,⟨_,rfl⟩,q _ ?_ fun n hn=>?_⟩
  ·have hi:argBest (fun i j=>decide (ns.getD i 0<ns.getD j 0)) (its.toArray.size-1)<ns.length:=by lia
   rw[Ae,zN hi];exact An hi
  ·obtain⟨j,hj,rfl⟩:=AO.mp hn;have:=h2 j (by lia);rw[Ae (i:=j),zN hj] at this;exact this
theorem iG(ns:List Int):∀k,k<=ns.length->preSum (fun i=>ns.getD i 0) k=(ns.take k).sum
 |0,_=>rfl
 |k+1,h=>by
  have hk:k<ns.length:=by lia
  show preSum (fun i=>ns.getD i 0) k+ns.getD k 0=_;rw[iG ns k (by lia),Ak,zN hk,Ae,zN hk,List.sum_append];show(ns.take k).sum+ns[k]=(ns.take k).sum+(ns[k]+0)
  lia
end
def vY (_ j:Int):Prop:=0<j/\j<1000000000000000000000000000000000
theorem oU{X:Cx}:OpR X (binaryOp .FloorDiv) (rI vY fun i j=>.int (i/j)):=opI fun i j _ _ _ _ _ hc q=>by
 have h1:(0:Int)<j:=hc.1;have h2:j<1000000000000000000000000000000000:=hc.2;refine floordiv_int (by lia) (by rw[CN i (by lia)];exact q) (.inl (PyProof.noPylong_of_log2 ?_));refine zP ((Nat.log2_lt (by lia)).mpr (show j.natAbs<2^111 by lia)) (by decide)
def Ite (K:W.Frag)(a:Addr):It:=
 ⟨fun i H=>∃xs x,SqL K H a xs/\xs[i]?=some x,fun i H v H'=>∃p x,H p=none/\v=.ref p/\H'=upd H p (.tup [.int i,x])/\∀xs,SqL K H a xs->xs[i]?=some x,fun i H=>∃xs,SqL K H a xs/\xs.length<=i⟩
theorem oN{P:Program}{w:World}{K:W.Frag}{elts:List Expr}{x1}{pos:Pos}(a e it:Addr)(hne:e≠it) :
  Turn P w K (.Tuple elts x1 pos) (Ite K a) [e,it] e (fun i h=>(∃old,IsEnum h e it ((i:Nat):Int) old)/\h.IsListIter it a i) where
 mem:=by simp
 obj:=fun i h st b hb=>by
  obtain⟨⟨old,s1⟩,s2⟩:=st;simp only[zU,AC,or_false] at hb;rcases hb with rfl|rfl
  ·exact⟨_,s1,fun v z=>by cases z⟩
  ·obtain⟨o,e,c,d⟩:=s2;exact⟨o,e,fun v z=>by rw[d] at z;cases z⟩
 keep:=fun i h h' st k=>by
  obtain⟨⟨old,s1⟩,s2⟩:=st;exact⟨⟨old,k e (by simp) _ s1⟩,s2.at fun o z=>k it (by simp) o z⟩
 item:=by
  intro X hP hw hK hc i pins s σ H E I hf st hg;subst hP hw hK;obtain⟨⟨old,s1⟩,s2⟩:=st;obtain⟨xs,x,hq,hx⟩:=hg;obtain⟨its,rv,p,hz⟩:=I.list hq;obtain⟨u,hu,ru⟩:=rv.get hx;have fe:=hf e (by simp);have fi:=hf it (by simp);refine wpAny_pyNext_enum_item s1 s2 p.isList (x:=u) (by simpa using hu) hne fun h₁ heo hit₁ ht₁ hz₁ hk₁=>?_;refine⟨_,rfl,wpAny_letOwnedTupleGo_enum heo fun h₂ he₂ hs₂=>?_⟩;have he0:e<s.heap.objs.size:=Dh s1;have kk:∀b o,b≠e->b≠it->s.heap.get? b=some o->h₂.get? b=some o:=fun b o b1 b2 q=>hs₂.extBut b o b1 (hk₁ b o b1 b2 q);have hit₂:=hit₁.extBut hs₂.extBut (Dv hne)
  have I1:Inv X pins σ H { s with heap:=h₂,toks:=s.toks+1 }:=I.Jf ⟨fun b o q n _=>kk b o (fun z=>n (z ▸ fe)) (fun z=>n (z ▸ fi)) q,fun b o q n=>⟨o.slots,kk b o (fun z=>n (z ▸ fe)) (fun z=>n (z ▸ fi)) q⟩,fun b o q=>by
   by_cases z1:b=e
   ·subst z1;exact⟨_,he₂⟩
   ·by_cases z2:b=it
    ·subst z2;obtain⟨oi,g,_⟩:=hit₂;exact⟨oi,g⟩
    ·exact⟨o,kk b o z1 z2 q⟩⟩
  have hn:=I.hok.fresh (zE s.heap.objs.size);have ht₂:h₂.get? s.heap.objs.size=some {cls:=.type "tuple",data:=.seq #[.int i s.toks,u]}:=(hs₂.2 _ (BC he0)).trans ht₁;have I2:Inv X pins σ (upd H s.heap.objs.size (.tup [.int i,x])) {s with heap:=h₂,toks:=s.toks+1}:=I1.Kd (I.GV _ (zE _)) ⟨by show 2<=sizeLine;decide,[.int i s.toks,u],.cons ⟨_,rfl⟩ (.cons ru .nil),_,ht₂,rfl,_,rfl⟩;refine⟨.ref s.heap.objs.size,_,I2,rfl,⟨_,x,hn,rfl,rfl,fun ys hy=>by rw[I.Gq hy hq];exact hx⟩,⟨⟨u,?_⟩,hit₂⟩,fun b hb=>?_⟩
  ·have z:((i+1:Nat):Int)=(i:Int)+1:=by lia
   rw[z];exact he₂
  ·have hb':b≠s.heap.objs.size:=by
    simp only[zU,AC,or_false] at hb;rcases hb with rfl|rfl
    ·exact zJ he0
    ·obtain⟨oi,g,_⟩:=s2;exact zJ (Dh g)
   rw[aq hb'];exact(hf b hb).1
 done:=by
  intro X hP hw hK hc i pins s σ H E I hf st hg;subst hP hw hK;obtain⟨⟨old,s1⟩,s2⟩:=st;obtain⟨xs,hq,hx⟩:=hg;obtain⟨its,rv,p,hz⟩:=I.list hq;obtain⟨f0,f1,f2,f3,f4,f5⟩:=hf it (by simp);have hl:=rv.length;exact wpAny_pyNext_enum_end (I.ok.hd hc) s1 s2 p.isList (by simp;lia) fun h' eb=>⟨rfl,I.turned (t':=s.toks) (fun b o hb e=>eb b o hb e) f0 f1 f3 f4 f5⟩
 self:=fun _ _ _ _ _ st h=>wpAny_pyIter_enum st.1.choose_spec h
section
variable {X:Cx}
theorem Fx:bootBuiltins "enumerate"=some (.type "enumerate"):=by decide +kernel
def vX (K:W.Frag)(ta:TA):TI:=fun σ H R=>ta σ H fun vs H1=>∃a,vs=[.ref a]/\(∃xs,SqL K H1 a xs)/\R (Ite K a) H1
theorem jC{elts:List Expr}{x1}{tpos:Pos}{a:Expr}{ta:TA}{p pos:Pos}(hg:Gl X "enumerate")(hm:X.mg "enumerate"=none)(ha:PA X [a] ta)(hs:starEach [a] X.env=[(false,eval a X.env)]:=by rfl) :
  PI X (.Tuple elts x1 tpos) (.Call (.Name "enumerate" p) [a] [] pos) (vX X.K ta):=by
 intro pins s σ H R I h;refine Call_ (dI I hg hm Fx (PyProof.Rows.callWith_type1 (thn (ha pos pins s σ H _ I h) fun us s1 hq63=>?_) hs rfl));obtain⟨vs,H1,I1,r1,q1⟩:=hq63;obtain⟨l,e,⟨xs,hq⟩,q⟩:=q1;subst e;obtain⟨u,rfl,ru⟩:=dB r1;cases ru;obtain⟨its,rv,pl,hz⟩:=I1.list hq;refine call_enumerate_list pl.isList fun h' he hit hsz hk=>?_;refine wpAny_pyIter_enum he ?_;have I2:Inv X pins σ H1 {s1 with heap:=h',toks:=s1.toks}:=I1.kept hk;refine⟨s1.heap.objs.size+1,[s1.heap.objs.size+1,s1.heap.objs.size],_,Ite X.K l,H1,rfl,I2,oN l _ _ (Nat.succ_ne_self _),⟨⟨_,he⟩,hit⟩,fun b hb=>?_,q⟩;simp only[zU,AC,or_false] at hb;rcases hb with rfl|rfl
 ·exact I1.HX (AA _) (I1.hok.fresh (AA _))
 ·exact I1.HX (zE _) (I1.hok.fresh (zE _))
theorem tE{K:W.Frag}{a:Addr}{xs:List V}{k:Nat}{js:List Nat}{g:TG}{tc:TT}{te:TE}{σ:St}{H:Hp}{Q:VK}(P:Nat->List V->Hp->Prop)(h0:P 0 [] H)(hz:∀i ys H,i<=xs.length->P i ys H->ys.length<=i)(hn:xs.length<=sizeLine)
  (hl:∀i ys H,i<=xs.length->P i ys H->SqL K H a xs)
  (hs:∀i x ys H p,xs[i]?=some x->P i ys H->H p=none->g (.ref p) (List.replicate k none++bO js σ) (upd H p (.tup [.int i,x])) fun σ2 H2=>tc σ2 H2 fun b H3=>if b=true then te σ2 H3 fun y H4=>Nx xs.length i P (ys++[y]) H4 else Nx xs.length i P ys H3)
  (hd:∀ys H,P xs.length ys H->∀p,H p=none->Q (.ref p) (upd H p (.lst ys))) :
  fL (Ite K a) k js g tc te σ H Q:=
 fj P h0 hz hn (fun i ys H hi p=>⟨xs,xs[i],hl i ys H (Ax hi) p,by simp[hi]⟩) (fun ys H p=>⟨xs,hl _ ys H (zE _) p,zE _⟩)
  (fun i ys H v H' hi p y=>by obtain⟨q,x,hq,rfl,rfl,y⟩:=y;exact hs i x ys H q (y xs (hl i ys _ (Ax hi) p)) p hq) hd
def JP:V->List V->Hp->VK->Prop:=fun x vs H Q=>∃z y,x=.str z/\vs=[.str y]/\Q (.bl (Txt.endswith z y)) H
theorem GK:MtR X "str.endswith" JP:=by
 intro pins s σ H x vs v us Q I rx rv h;obtain⟨z,y,rfl,rfl,q⟩:=h;obtain⟨t,rfl⟩:=rx;obtain⟨u,rfl,t',rfl⟩:=rv.one;exact SC.endswith ⟨.bl _,H,I,rfl,q⟩
def IA:V->List V->Hp->VK->Prop:=fun x vs H Q=>∃z y,x=.str z/\vs=[.str y]/\Q (.bl (Txt.startswith z y)) H
theorem Er:MtR X "str.startswith" IA:=by
 intro pins s σ H x vs v us Q I rx rv h;obtain⟨z,y,rfl,rfl,q⟩:=h;obtain⟨t,rfl⟩:=rx;obtain⟨u,rfl,t',rfl⟩:=rv.one;exact SC.startswith ⟨.bl _,H,I,rfl,q⟩
end
end L2
namespace L2
open PySem PySem.Spec PyProof.Rows
open PySem.SeqAt
open PySem.AutoSeq1 (wpAny_loadPart')
open PySem.MeetsSeq PySem.MeetsSeq2 PySem.MeetsSeq3
def dA (a c:Int)(ns ms:List Int):Bool:=if a=c then HT.lexLt ns ms else decide (a<c)
theorem DV:∀ns:List Int,HT.lexLt ns ns=false
 |[]=>rfl
 |n::r=>by rw[HT.DY,CZ rfl];exact DV r
end L2
namespace L2
open PySem PySem.Spec PyProof.Rows
theorem dy{M:Model}{A:Around}{E:Value->Shared->Prop}{s:Shared}{pos:Pos}{id:String}{first:List Value}{args:List (Bool×Sem Value)}{keywords:List (Option Str×Sem Value)}{Q:Value->Shared->Prop}
  (hplain:(args.any (·.1)||keywords.any (·.1.isNone))=false)
  (h:wpAny M A (evalArgs (.builtin id) true args keywords) (fun a s₁=>wpAny M A (call (.builtin id) (first++a.pos) a.kw) Q E s₁) E s) :
  wpAny M A (callWith pos (.builtin id) first args keywords) Q E s:=by
 unfold callWith;refine CT (Df (De h (fun a s₁ h₁=>CT (wpAny_standAt ?_)) fun _ _ x=>x));simp only[hplain];refine CT (CU ?_);exact CT (De h₁ (fun r s₂ hr=>CT (Df (wpAny_point (CU hr)))) fun _ _ x=>x)
theorem EV:∀{a b c:List Int},a.length=b.length->b.length=c.length->HT.lexLt a b=true->HT.lexLt b c=true->HT.lexLt a c=true
 |[],[],_,_,_,h,_=>by exact absurd h (by simp[DV])
 |x::a,y::b,z::c,e,f,h,g=>by
  rw[HT.DY] at h g ⊢;have e':a.length=b.length:=by simpa using e
  have f':b.length=c.length:=by simpa using f
  by_cases xy:x=y
  ·rw[CZ xy] at h;by_cases yz:y=z
   ·rw[CZ yz] at g;rw[CZ (xy.trans yz)];exact EV e' f' h g
   ·rw[CY yz] at g;rw[CY (by rw[xy];exact yz),xy];exact g
  ·rw[CY xy] at h;have h':x<y:=Dg h;by_cases yz:y=z
   ·rw[<- yz,CY xy];exact h
   ·rw[CY yz] at g;have g':y<z:=Dg g;rw[CY (by lia)];exact Dc (by lia)
def kLt (a b:List Int):Bool:=dA a.length b.length a b
theorem nh{a b c:List Int}(h:kLt a b=true)(g:kLt b c=true):kLt a c=true:=by
 unfold kLt dA at *;by_cases e:(a.length:Int)=b.length
 ·rw[CZ e] at h;by_cases f:(b.length:Int)=c.length
  ·rw[CZ f] at g;rw[CZ (e.trans f)];exact EV (by lia) (by lia) h g
  ·rw[CY f] at g;rw[CY (by rw[e];exact f),e];exact g
 ·rw[CY e] at h;have h':=Dg h;by_cases f:(b.length:Int)=c.length
  ·rw[<- f,CY e];exact h
  ·rw[CY f] at g;have g':=Dg g;rw[CY (by lia)];exact Dc (by lia)
theorem FX:∀(ns ms:List Int),PyData.eqv (.list (ns.map PyData.int)) (.list (ms.map PyData.int))=decide (ns=ms):=by
 intro ns;induction ns with
 |nil=>intro ms;cases ms<;>rfl
 |cons n ns ih=>
  intro ms;cases ms with
  |nil=>rfl
  |cons m ms=>
   have h:=ih ms;show(PyData.eqv (.int n) (.int m)&&PyData.eqv (.list (ns.map PyData.int)) (.list (ms.map PyData.int)))=_;rw[h];show(decide (n=m)&&decide (ns=ms))=_;by_cases e:n=m<;>by_cases f:ns=ms<;>simp[e,f]
end L2
namespace L2
open PySem PySem.Spec PyProof.Rows SeqAt
theorem dz{K:W.Frag}{H:Hp}:∀ns:List Int,DatAll K H (ns.map V.int) (ns.map PyData.int)
 |[]=>.nil
 |n::r=>.cons (.int n) (dz r)
theorem EU:∀ns:List Int,PyData.canLayAll0 (ns.map PyData.int)=true
 |[]=>rfl
 |n::r=>by
  show((PyData.int n).canLay0&&PyData.canLayAll0 (r.map PyData.int))=true;rw[EU r];rfl
theorem ki(ns:List Int):(PyData.list (ns.map PyData.int)).canLay0=true:=EU ns
theorem depthAll_ints:∀ns:List Int,PyData.depthAll (ns.map PyData.int)<=1
 |[]=>by show 0<=1;decide
 |n::r=>by
  have h:=depthAll_ints r;show max (PyData.int n).depth (PyData.depthAll (r.map PyData.int))<=1;have e:(PyData.int n).depth=0:=rfl;lia
theorem lJ(ns:List Int):(PyData.list (ns.map PyData.int)).depth<=2:=by
 have h:=depthAll_ints ns;have e:(PyData.list (ns.map PyData.int)).depth=PyData.depthAll (ns.map PyData.int)+1:=by simp[PyData.depth]
 lia
section
variable {X:Cx}{pins:List (Addr×Obj)}{σ:St}{H:Hp}{s:Shared}
theorem dP{α:Type}(f:α->Addr):∀{xs:List α}{us:List Value},Vals (xs.map fun x=>V.ref (f x)) us->us=xs.map fun x=>Value.ref (f x)
 |[],_,.nil=>rfl
 |x::xs,_,.cons r t=>by cases r;rw[dP f t];rfl
end
section
variable {X:Cx}{pins:List (Addr×Obj)}{σ:St}
theorem Eo.turn{t':Nat}{H:Hp}{s:Shared}{it:Addr}{h':Heap}(f:Eo X pins H it)(I:Inv X pins σ H s)(k:∀b o,b≠it->s.heap.get? b=some o->h'.get? b=some o):Inv X pins σ H {s with heap:=h',toks:=t'}:=
 I.turned k f.1 f.2.1 f.2.2.2.1 f.2.2.2.2.1 f.2.2.2.2.2
end
end L2
namespace L2
open PySem PySem.Spec PyProof.Rows
section
variable {X:Cx}
def wO (K:W.Frag):List V->Hp->VK->Prop:=fun xs H Q=>∃(p:Addr)(ns:List Int),xs=[.ref p]/\SqL K H p (ns.map V.int)/\ns≠[]/\∀m,m∈ns->(∀n∈ns,m<=n)->Q (.int m) H
theorem oE(hc:X.calm=true):cb X (.builtin "min") (wO X.K):=by
 intro pins s σ H xs us Q I r h;obtain⟨p,ns,rfl,hq,hne,q⟩:=h;obtain⟨u,rfl,rx⟩:=dB r;cases rx;obtain⟨its,rv,pl,hz⟩:=I.list hq;have hl:=rv.length;rw[zF] at hl;have hh:X.A.in1.handled=none:=I.ok.hd hc;obtain⟨ob,ho,hcl,n0,hd⟩:=id pl.isList;have hp:p<s.heap.objs.size:=Dh ho;have it:s.heap.IsList p its.toArray:=pl.isList;refine call_min_walk (wpAny_pyIter_list it ⟨s.heap.objs.size,_,_,_,_,_,fun i j=>decide (ns.getD i 0<ns.getD j 0),rfl,Walks.list hh s.heap.objs.size p (zJ hp) _,⟨⟨_,Dx _ rfl,rfl,rfl⟩,it.push _⟩,?_,?_,CmpOf.ints_lt (fun i=>ns.getD i 0) fun i v hv=>Fe rv (by rw[AZ] at hv;exact hv),fun v h' tk hv hk=>?_⟩)
 ·intro b hb;show b<(s.heap.push _).objs.size;rw[DE];simp only[zU,AC,or_false] at hb;rcases hb with e|e
  ·rw[e];exact Av _
  ·rw[e];exact AF hp
 ·rw[zY];cases ns with
  |nil=>exact absurd rfl hne
  |cons _ _=>rw[<- hl];exact BX _
 ·obtain⟨t,rfl⟩:=Fe rv (by rw[AZ] at hv;exact hv);obtain⟨h1,h2⟩:=jt (fun i=>ns.getD i 0) (its.toArray.size-1);have hs:its.toArray.size=ns.length:=by rw[zY,hl]
  have pos:0<ns.length:=by
   cases ns with
   |nil=>exact absurd rfl hne
   |cons _ _=>exact BX _
  refine⟨.int _,H,I.Fm hk,⟨_,rfl⟩,q _ ?_ fun n hn=>?_⟩
  ·have hi:argBest (fun i j=>decide (ns.getD i 0<ns.getD j 0)) (its.toArray.size-1)<ns.length:=by lia
   rw[Ae,zN hi];exact An hi
  ·obtain⟨j,hj,rfl⟩:=AO.mp hn;have:=h2 j (by lia);rw[Ae (i:=j),zN hj] at this;exact this
def uX (K:W.Frag):List V->Hp->VK->Prop:=fun xs H Q=>∃(p:Addr)(ns:List Int),xs=[.ref p]/\SqL K H p (ns.map V.int)/\Q (.int ns.sum) H
theorem dH(hc:X.calm=true):cb X (.builtin "sum") (uX X.K):=by
 intro pins s σ H xs us Q I r h;obtain⟨p,ns,rfl,hq,q⟩:=h;obtain⟨u,rfl,rx⟩:=dB r;cases rx;obtain⟨its,rv,pl,hz⟩:=I.list hq;have hl:=rv.length;rw[zF] at hl;have hh:X.A.in1.handled=none:=I.ok.hd hc;obtain⟨ob,ho,hcl,n0,hd⟩:=id pl.isList;have hp:p<s.heap.objs.size:=Dh ho;have it:s.heap.IsList p its.toArray:=pl.isList;refine call_sum_walkAnyS (wpAny_pyIter_list it ⟨s.heap.objs.size,_,_,_,_,_,_,fun i=>ns.getD i 0,rfl,(Walks.list hh s.heap.objs.size p (zJ hp) _).toS,⟨⟨_,Dx _ rfl,rfl,rfl⟩,it.push _⟩,?_,fun i v hv=>Fe rv (by rw[AZ] at hv;exact hv),fun s' t' hm=>?_⟩)
 ·intro b hb;show b<(s.heap.push _).objs.size;rw[DE];simp only[zU,AC,or_false] at hb;rcases hb with e|e
  ·rw[e];exact Av _
  ·rw[e];exact AF hp
 ·have e:preSum (fun i=>ns.getD i 0) its.toArray.size=ns.sum:=by
   rw[iG ns _ (by rw[zY];lia),Af (by rw[zY];lia)]
  rw[e];obtain⟨hp1,g1,d1,o1,t1⟩:=hm;obtain⟨h',g',d',tk',os'⟩:=s';have eg:g'=s.gens:=g1;have ed:d'=s.drawn:=d1;have eo:os'=s.os:=o1;subst eg ed eo;exact⟨.int _,H,I.Fm (o:=_) hp1,⟨_,rfl⟩,q⟩
end
theorem fN{X:Cx}{o e:Expr}{es:List Expr}{to:TE}{t:TA}{name:Str}{apos cpos:Pos}{T id:String}{r:V->List V->Hp->VK->Prop}(K':W.Frag)(hK:X.K=K')(pa:PlainAttrs T)(slot:Slot T name id)(hty:typeOf (.builtin id)=pure (.type "method_descriptor"))(hm:MtR X id r)(ho:PE X o to)(ha:PA X (e::es) t)
  (hbase:attributeBase o name X.env (eval o X.env)=eval o X.env:=by rfl)
  (hfew:((backTo cpos (starEach (e::es) X.env)).all (fun x=>!x.1) && (backToKw cpos (keywordEach [] X.env)).all (fun x=>x.1.isSome)
   && decide ((e::es).length+([]:List Keyword).length+(if ([]:List Keyword).isEmpty then 0 else 1) < 30))=true:=by rfl)
  (hline:(apos.endLine==cpos.line)=true:=by rfl) (hs:starEach (e::es) X.env=(false,eval e X.env)::starEach es X.env:=by rfl) (hplain:(backTo cpos (starEach es X.env)).any (·.1)=false:=by rfl) :
  PE X (.Call (.Attribute o name apos) (e::es) [] cpos) (tBM K' T r to t):=by
 subst hK;exact fG pa slot hty hm ho ha hbase hfew hline hs hplain
theorem cJ{X:Cx}{pos:Pos}{es:List Expr}{k:Nat}{t:TGs}{n:Nat}(K':W.Frag)(hK:X.K=K')(hc:X.calm=true)(h:PGs X es t)
  (hn:(assignEach es X.env).length=n:=by rfl)(hst:(assignEach es X.env).findIdx? (·.1)=none:=by rfl):PG X (.Tuple es k pos) (xi K' n t):=by
 subst hK;exact fq hc h hn hst
section
variable {X:Cx}
theorem Gp:∀{us:List Value}{zs:List Str},StrsAre us zs->Vals (zs.map V.str) us
 |_,_,.nil=>.nil
 |_,_,.cons x t h=>.cons ⟨t,rfl⟩ (Gp h)
end
section
variable {prog:Program}{w:World}{A:Around}{E:Value->Shared->Prop}{s:Shared}
theorem km{d:Addr}{od:Obj}{es:Array DictEntry}{ep:Nat}{Q:Value->Shared->Prop}(hs:(d==sysModules)=false)(hod:s.heap.get? d=some od)(hc:od.ExactDict)(hdd:od.data=.dict es ep)
  (hQ:Q (.ref s.heap.objs.size) {s with heap:=s.heap.push {cls:=.type "dict_keyiterator",data:=.fields #[.ref d,.int 0 0,.int es.size 0,.int ep 0]}}):wpAny (model prog w) A (pyIter (.ref d)) Q E s:=by
 have hT:s.TypeIs (.ref d) "dict":=⟨od,hod,hc.1⟩
 refine wpAny_pyIter_slot hT F.slot_dict_iter (DC F.slot_dict_iter hT F.entry_dict_iter ?_ (F.args_dict_iter_1 _));unfold Builtin.«dict.__iter__»;refine CT ?_;unfold Builtin.Dict.dictSlotNone;refine CT (wpAny_notOrdered_dict hT ?_);show wpAny _ _ (pure (Value.ref d)) _ _ s;refine CU ?_;show wpAny _ _ (Builtin.Dict.showsAll d >>= _) _ _ s;unfold Builtin.Dict.showsAll;rw[CY (by rw[hs];decide)];refine CT (CU (CT (wpAny_dictEntries hod hdd (CT (wpAny_dictEpoch hod hdd ?_)))));refine CT (wpAny_newObj_type (CU ⟨_,rfl,"dict_keyiterator",_,⟨_,Dx _ rfl,rfl⟩,F.slot_dict_keyiterator_next.lookup,by simpa [rawInt] using hQ⟩))
theorem pM{it d:Addr}{i ep:Nat}{od:Obj}{es:Array DictEntry}{Q:Option Value->Shared->Prop}(hit:s.heap.IsKeyIter it d i es.size ep)(hod:s.heap.get? d=some od)(hdd:od.data=.dict es ep)(hlt:i<es.size)
  (hQ:∀h',h'.IsKeyIter it d (i+1) es.size ep->Heap.SameBut it s.heap h'->Q (some es[i].key) {s with heap:=h'}):wpAny (model prog w) A (pyNext (.ref it)) Q E s:=by
 obtain⟨o,ho,hc,hd⟩:=id hit;unfold pyNext;refine CT (DB (wpAny_callSpecial?_slot (name:=Str.ofString "__next__") hit.typeIs F.slot_dict_keyiterator_next (DC F.slot_dict_keyiterator_next hit.typeIs F.entry_dict_keyiterator_next ?_ (F.args_dict_keyiterator_next_1 _))));refine CT (CU (CT (CT ?_)));(first|refine CT (wpAny_typeNameOfWhole_keyiter hit.typeIs (CU ?_))|refine CT (wpAny_typeNameOf_keyiter hit.typeIs (CU ?_)));refine CT (wpAny_fieldsOf ho hd ?_);have hown:Builtin.Dict_items.ownsTuple "dict_keyiterator"=false:=by decide
 simp only[hown,AW,if_false];show wpAny _ _ (if (Value.ref d==Value.none)=true then _ else _) _ _ s;rw[CY (show ¬((Value.ref d==Value.none)=true) by intro z;cases z)];refine CT (CU (CT (wpAny_dictEntries hod hdd ?_)));rw[CY (by simp)];refine CT (CU (CT (wpAny_dictEpoch hod hdd ?_)));rw[CY (by simp)];refine CU ?_;simp only[show ¬((i:Int)<0) by lia,if_false,Am,Ao hlt];refine CT ?_
 (first|refine CT (wpAny_typeNameOfWhole_keyiter hit.typeIs (CU ?_))|refine CT (wpAny_typeNameOf_keyiter hit.typeIs (CU ?_)));refine CT (wpAny_isOneOf_keyiter hit.typeIs ?_)
 show wpAny _ _ (setField (.ref it) 1 (rawInt ((i:Int)+1)) >>= _) _ _ s;refine CT (wpAny_setField ho hd (by simp) ?_);have hit2:(s.heap.update it (Obj.mapFields (·.setIfInBounds 1 (rawInt ((i:Int)+1))))).IsKeyIter it d (i+1) es.size ep:=⟨_,Heap.get?_update_self _ ho (Obj.isFreed_of_fields (Obj.data_mapFields hd _)),(Obj.cls_mapFields ..).trans hc,by rw[Obj.data_mapFields hd];simp[rawInt]⟩
 refine CT (Df (CT (wpAny_isOneOf_keyiter (s:={s with heap:=s.heap.update it (Obj.mapFields (·.setIfInBounds 1 (rawInt ((i:Int)+1))))}) hit2.typeIs ?_)));show wpAny _ _ (pure es[i].key) _ _ _;exact CU (CU ⟨_,rfl,CU (hQ _ hit2 (Heap.SameBut.update ..))⟩)
theorem tj{it d:Addr}{i ep:Nat}{od:Obj}{es:Array DictEntry}{Q:Option Value->Shared->Prop}(hh:A.handled=none)(hit:s.heap.IsKeyIter it d i es.size ep)(hod:s.heap.get? d=some od)(hdd:od.data=.dict es ep)(hge:es.size<=i)
  (hQ:∀h',Heap.ExtBut it s.heap h'->Q none {s with heap:=h'}):wpAny (model prog w) A (pyNext (.ref it)) Q E s:=by
 obtain⟨o,ho,hc,hd⟩:=id hit;unfold pyNext;refine CT (DB (wpAny_callSpecial?_slot (name:=Str.ofString "__next__") hit.typeIs F.slot_dict_keyiterator_next (DC F.slot_dict_keyiterator_next hit.typeIs F.entry_dict_keyiterator_next ?_ (F.args_dict_keyiterator_next_1 _))));refine CT (CU (CT (CT ?_)));(first|refine CT (wpAny_typeNameOfWhole_keyiter hit.typeIs (CU ?_))|refine CT (wpAny_typeNameOf_keyiter hit.typeIs (CU ?_)));refine CT (wpAny_fieldsOf ho hd ?_);have hown:Builtin.Dict_items.ownsTuple "dict_keyiterator"=false:=by decide
 simp only[hown,AW,if_false];show wpAny _ _ (if (Value.ref d==Value.none)=true then _ else _) _ _ s;rw[CY (show ¬((Value.ref d==Value.none)=true) by intro z;cases z)];refine CT (CU (CT (wpAny_dictEntries hod hdd ?_)));rw[CY (by simp)];refine CT (CU (CT (wpAny_dictEpoch hod hdd ?_)));rw[CY (by simp)];refine CU ?_;simp only[show ¬((i:Int)<0) by lia,if_false,Am,BY hge];refine CT ?_
 (first|refine CT (wpAny_typeNameOfWhole_keyiter hit.typeIs (CU ?_))|refine CT (wpAny_typeNameOf_keyiter hit.typeIs (CU ?_)));show wpAny _ _ (setField (.ref it) 0 .none >>= _) _ _ s
 refine CT (wpAny_setField ho hd (by simp) ?_);show wpAny _ _ (newExc (.type "StopIteration") [] >>= _) _ _ _;refine CT ?_;simp only[newExc,newTuple];refine CT (wpAny_newObj_type ?_ (by size_fits));refine CT (m:=firstArgMember _ _) (wpAny_of_eq (a:=Value.none) (by first|rfl|(simp only[firstArgMember];rfl)) ?_);refine wpAny_newObj_type ?_ (by size_fits);simp only[raiseNew];refine CT (wpAny_handled ?_);rw[show A.in1.handled=none from hh];refine CT (CU (wpAny_throw ?_));refine CT (wpAny_isInstance (T:="StopIteration") (b:=true) ⟨_,Dx _ rfl,rfl⟩ isSubtype_stop ?_);exact CU (hQ _ (((Heap.SameBut.update ..).extBut.push _).push _))
end
section
variable {X:Cx}{pins:List (Addr×Obj)}{σ:St}{H:Hp}{s:Shared}
theorem Inv.freeze{a:Addr}{u:HO}{o:Obj}(I:Inv X pins σ H s)(e:H a=some u)(ho:s.heap.get? a=some o)(nt:∀xs,u≠.tup xs)(nf:∀o' u',u≠.frz o' u')(nb:∀ps,u≠.tbl ps)(no:∀x,u≠.own x):Inv X pins σ (upd H a (.frz o u)) s:=by
 have tu:∀b xs,H b=some (.tup xs)->upd H a (.frz o u) b=some (.tup xs):=fun b xs q=>by
  rw[aq (fun z=>by rw[z,e] at q;exact nt xs (Di q))];exact q
 have ow:∀b x,H b=some (.own x)->upd H a (.frz o u) b=some (.own x):=fun b x q=>by
  rw[aq (fun z=>by rw[z,e] at q;exact no x (Di q))];exact q
 refine I.un (h':=s.heap) (t':=s.toks) ⟨fun b ob q _ _ _=>q,fun b ob q _ _ _=>⟨ob.slots,q⟩,fun b ob _ n _=>?_,fun b ob q _=>⟨ob,q⟩,tu,fun b ob uu q=>?_,fun b ps q=>⟨#[],?_⟩⟩ fun b ub q=>?_
 ·rw[aq (fun z=>by rw[z,e] at n;cases n)];exact n
 ·rw[aq (fun z=>by rw[z,e] at q;exact nf ob uu (Di q))];exact q
 ·rw[aq (fun z=>by rw[z,e] at q;exact nb ps (Di q)),q];simp
 ·by_cases hb:b=a
  ·subst hb;rw[ae] at q;cases q;exact⟨ho,(I.hok b u e).Gd (fun _ _ _ q=>q) (fun c q=>ow c _ q) tu⟩
  ·rw[aq hb] at q;exact(I.hok b ub q).Gd (fun _ _ _ q=>q) (fun c q=>ow c _ q) tu
end
def rJ (K:W.Frag):List V->Hp->VK->Prop:=fun xs H Q=>∃p ys,xs=[.ref p]/\(SqL K H p ys\/SqT K H p ys)/\Q (.int (ys.length:Nat)) H
theorem iN{X:Cx}:cb X (.builtin "len") (rJ X.K):=DQ
section
variable {X:Cx}{a b:Expr}{rest:List Expr}{pos:Pos}{ta tb:TE}
theorem qh{X:Cx}{tg}{l:Expr}{tl:TE}(K':W.Frag)(hK:X.K=K')(hl:PE X l tl):PI X tg l (rE K' tl):=by
 subst hK;exact aL hl
end
section
variable {X:Cx}
def IQ:V->List V->Hp->VK->Prop:=fun x vs H Q=>∃z y,x=.str z/\vs=[.str y]/\z.length<=sizeLine/\Q (.str (Txt.stripChars z y)) H
theorem HI:MtR X "str.strip" IQ:=by
 intro pins s σ H x vs v us Q I rx rv h;obtain⟨z,i,rfl,rfl,hp,q⟩:=h;obtain⟨t,rfl⟩:=rx;obtain⟨u,rfl,t',rfl⟩:=rv.one;exact SC.stripChars (fun _ _=>⟨.str _,H,I.tok _,⟨_,rfl⟩,q⟩) hp
end
section
variable {prog:Program}{w:World}{A:Around}{R:Result->Shared->Prop}{s:Shared}{elt tg0 iter0 tg1 iter1:Expr}{ifs0 ifs1:List Expr}{scope:Scope}{pos:Pos}{it acc:Value}{env:Env}
abbrev cE(elt tg0 iter0 tg1 iter1:Expr)(ifs0 ifs1:List Expr)(scope:Scope)(pos:Pos):Expr:=.ListComp elt [⟨tg0,iter0,ifs0,0⟩,⟨tg1,iter1,ifs1,0⟩] scope pos
theorem Ga:compTurn (cE elt tg0 iter0 tg1 iter1 ifs0 ifs1 scope pos) 1 it acc env=(do
   standAt iter1.pos
   match <- pyNext it with
   |none=>pure (.done .next)
   |some v=>
    letOwnedTupleGo tg1 it v
    assign tg1 env v
    let mut ok:=true
    for c in ifs1 do
     if ok then ok <- isTrue c env (eval c env)
    if ok then
     (do let _ <- call (.builtin "list.append") [acc,<- eval elt env])
    again (.compLoop (cE elt tg0 iter0 tg1 iter1 ifs0 ifs1 scope pos) 1 it acc env)):=by rfl
theorem FP:compTurn (cE elt tg0 iter0 tg1 iter1 ifs0 ifs1 scope pos) 0 it acc env=(do
   standAt iter0.pos
   match <- pyNext it with
   |none=>pure (.done .next)
   |some v=>
    letOwnedTupleGo tg0 it v
    assign tg0 env v
    let mut ok:=true
    for c in ifs0 do
     if ok then ok <- isTrue c env (eval c env)
    if ok then
     let x <- eval iter1 env
     standAt iter1.pos
     let x <- foldedSetIterable iter1 env x
     let _ <- runOwn (.compStart (cE elt tg0 iter0 tg1 iter1 ifs0 ifs1 scope pos) 1 (<- holding [x] (pyIter x)) acc env) env
    again (.compLoop (cE elt tg0 iter0 tg1 iter1 ifs0 ifs1 scope pos) 0 it acc env)):=by rfl
theorem rB(I:Nat->Shared->Prop)
  (turn:∀n s,I n s->wpAny (model prog w) A (pyNext it) (fun r s₁=>match r with
   |none=>R (.ok .next) s₁
   | some v=>wpAny (model prog w) A (letOwnedTupleGo tg1 it v) (fun _ s₁'=>wpAny (model prog w) A (assign tg1 env v) (fun _ s₂ =>
     wpAny (model prog w) A (forIn ifs1 true fun c r=>if r=true then do let ok <- isTrue c env (eval c env); pure (ForInStep.yield ok) else pure (ForInStep.yield r)) (fun ok s₃ =>
      if ok=true then wpAny (model prog w) A (eval elt env) (fun x s₄ =>
       wpAny (model prog w) A (call (.builtin "list.append") [acc,x]) (fun _ s₅=>∃m,m < n/\I m s₅) (fun _ _=>False) s₄) (fun _ _=>False) s₃
      else ∃m,m < n/\I m s₃) (fun _ _=>False) s₂) (fun _ _=>False) s₁') (fun _ _=>False) s₁) (fun _ _=>False) s)
  (n:Nat) (h:I n s):codeAny (model prog w) A (.compLoop (cE elt tg0 iter0 tg1 iter1 ifs0 ifs1 scope pos) 1 it acc env) R s:=by
 refine codeAny_loop rfl I (fun n s hI=>?_) n h;show wpAny _ A ((compTurn (cE elt tg0 iter0 tg1 iter1 ifs0 ifs1 scope pos) 1 it acc env).onRaise (fun x=>do noteFrame x env;theTreesLotGoes x)) _ _ s;refine wpAny_noted ?_;rw[Ga];refine CT (wpAny_standAt (CT (De (turn n s hI) (fun r s₁ h₁=>?_) fun _ _ h'=>h'.elim)));cases r with
 |none=>exact CU h₁
 |some v=>
  refine CT (De h₁ (fun _ s₁' h₁'=>?_) fun _ _ h'=>h'.elim);refine CT (De h₁' (fun _ s₂ h₂=>CT (De h₂ (fun ok s₃ h₃=>?_) fun _ _ h'=>h'.elim)) fun _ _ h'=>h'.elim);cases ok with
  |false=>exact CU ⟨rfl,h₃⟩
  |true=>
   exact CT (CT (De h₃ (fun x s₄ h₄=>CT (De h₄ (fun _ s₅ h₅=>CU (CU ⟨rfl,h₅⟩)) fun _ _ h'=>h'.elim)) fun _ _ h'=>h'.elim))
theorem qD(hs:∀x,foldedSetIterable iter1 env x=pure x)(I:Nat->Shared->Prop)
  (turn:∀n s,I n s->wpAny (model prog w) A (pyNext it) (fun r s₁=>match r with
   |none=>R (.ok .next) s₁
   | some v=>wpAny (model prog w) A (letOwnedTupleGo tg0 it v) (fun _ s₁'=>wpAny (model prog w) A (assign tg0 env v) (fun _ s₂ =>
     wpAny (model prog w) A (forIn ifs0 true fun c r=>if r=true then do let ok <- isTrue c env (eval c env); pure (ForInStep.yield ok) else pure (ForInStep.yield r)) (fun ok s₃ =>
      if ok=true then wpAny (model prog w) A (eval iter1 env) (fun x s₄ =>
       wpAny (model prog w) A (pyIter x) (fun itv s₅=>codeAny (model prog w) A (.compStart (cE elt tg0 iter0 tg1 iter1 ifs0 ifs1 scope pos) 1 itv acc env) (fun r s₆=>r=.ok .next/\∃m,m < n/\I m s₆) s₅) (fun _ _=>False) s₄) (fun _ _=>False) s₃
      else ∃m,m < n/\I m s₃) (fun _ _=>False) s₂) (fun _ _=>False) s₁') (fun _ _=>False) s₁) (fun _ _=>False) s)
  (n:Nat) (h:I n s):codeAny (model prog w) A (.compLoop (cE elt tg0 iter0 tg1 iter1 ifs0 ifs1 scope pos) 0 it acc env) R s:=by
 refine codeAny_loop rfl I (fun n s hI=>?_) n h;show wpAny _ A ((compTurn (cE elt tg0 iter0 tg1 iter1 ifs0 ifs1 scope pos) 0 it acc env).onRaise (fun x=>do noteFrame x env;theTreesLotGoes x)) _ _ s;refine wpAny_noted ?_;rw[FP];refine CT (wpAny_standAt (CT (De (turn n s hI) (fun r s₁ h₁=>?_) fun _ _ h'=>h'.elim)));cases r with
 |none=>exact CU h₁
 |some v=>
  refine CT (De h₁ (fun _ s₁' h₁'=>?_) fun _ _ h'=>h'.elim);refine CT (De h₁' (fun _ s₂ h₂=>CT (De h₂ (fun ok s₃ h₃=>?_) fun _ _ h'=>h'.elim)) fun _ _ h'=>h'.elim);cases ok with
  |false=>exact CU ⟨rfl,h₃⟩
  |true=>
   refine CT (De h₃ (fun x s₄ h₄=>CT (wpAny_standAt ?_)) fun _ _ h'=>h'.elim);rw[hs];refine CT (CU (CT (Df (De h₄ (fun itv s₅ h₅=>?_) fun _ _ h'=>h'.elim))));refine CT (wpAny_runOwn (codeAny_mono h₅ fun r s₆ h₆=>?_));obtain⟨rfl,h7⟩:=h₆;exact CU ⟨rfl,h7⟩
theorem pZ(h0:codeAny (model prog w) A (.compLoop (cE elt tg0 iter0 tg1 iter1 ifs0 ifs1 scope pos) 1 it acc env) R s)
  (h:wpAny (model prog w) A (pyIter it) (fun it' s'=>codeAny (model prog w) A (.compLoop (cE elt tg0 iter0 tg1 iter1 ifs0 ifs1 scope pos) 1 it' acc env) R s')
   (notedBy (model prog w) A env fun x s'=>R (.error x) s') s) :
  codeAny (model prog w) A (.compStart (cE elt tg0 iter0 tg1 iter1 ifs0 ifs1 scope pos) 1 it acc env) R s:=by
 refine codeAny_of_tree ?_;show wpAny _ _ ((compStart (cE elt tg0 iter0 tg1 iter1 ifs0 ifs1 scope pos) 1 it acc env).onRaise (fun x=>do noteFrame x env;standAt theWindowsPlace)) _ _ s;refine wpAny_notedAt ?_;unfold compStart;show wpAny _ _ (ask >>= _) _ _ s;refine CT (wpAny_askSetting (wpAny_ite ?_));split
 ·first
   |exact CT (CU (CU (And.intro rfl h0)))
   |exact CU (And.intro rfl h0)
 ·first
   |exact CT (DG (CT (wpAny_standAt (CT (De h (fun it' s' h'=>CU (And.intro rfl h')) fun _ _ x=>x)))))
   |(refine CT (DG ?_);show wpAny _ _ (standAt iter1.pos >>= _) _ _ s;exact CT (wpAny_standAt (CT (De h (fun it' s' h'=>CU (And.intro rfl h')) fun _ _ x=>x))))
end
def gx (J:It)(g:TG)(tc:TT)(te:TE)(σ:St)(H:Hp)(ys:List V)(Q:List V->Hp->Prop):Prop:=
 ∃W:Nat->Nat->St->List V->Hp->Prop,(∃m,W 0 m σ ys H)/\∀j m σ ys H,W j m σ ys H ->
  (J.stop j H/\ys.length<=sizeLine/\Q ys H) \/
  (J.go j H/\ys.length<sizeLine/\∀x H',J.yld j H x H'->g x σ H' fun σ2 H2=>tc σ2 H2 fun b H3=>if b=true then te σ2 H3 fun y H4=>∃m',m'<m/\W (j+1) m' σ2 (ys++[y]) H4 else ∃m',m'<m/\W (j+1) m' σ2 ys H3)
def kr (J:It)(k:Nat)(js:List Nat)(g:TG)(tc:TT)(wi1:TI)(g1:TG)(tc1:TT)(te:TE)(σ:St)(H1:Hp)(Q:VK):Prop:=
 ∃W:Nat->Nat->List V->Hp->Prop,(∃m,W 0 m [] H1)/\∀i m ys H,W i m ys H ->
  (J.stop i H/\ys.length<=sizeLine/\∀p,H p=none->Q (.ref p) (upd H p (.lst ys))) \/
  (J.go i H/\∀x H',J.yld i H x H'->g x (List.replicate k none++bO js σ) H' fun σ2 H2=>tc σ2 H2 fun b H3 =>
   if b=true then wi1 σ2 H3 fun J1 H4=>gx J1 g1 tc1 te σ2 H4 ys fun ys' H5=>∃m',m' < m/\W (i+1) m' ys' H5 else ∃m',m' < m/\W (i+1) m' ys H3)
def qL (wi:TI)(k:Nat)(js:List Nat)(g:TG)(tc:TT)(wi1:TI)(g1:TG)(tc1:TT)(te:TE):TE:=fun σ H Q=>wi σ H fun J H1=>kr J k js g tc wi1 g1 tc1 te σ H1 Q
section
variable {X:Cx}{scope:Scope}{ts cap:List Str}{js:List Nat}{elt tg0 iter0 tg1 iter1:Expr}{ifs0 ifs1:List Expr}{pos:Pos}
theorem lF{s0:Shared}{H0:Hp}{C:Addr}{fp:List Addr}{P:List (Addr×Obj)}{D:Addr}{its0:List Value}{n0:Nat}{ys0:List V}{σ:St}{H:Hp}{s:Shared}{J:It}{fp1:List Addr}{it1:Addr}{tn1:Nat->Heap->Prop}{g1:TG}{tc1:TT}{te:TE}{Q:List V->Hp->Prop}{R:Result->Shared->Prop}
  (hc:X.calm=true)(I:Inv (aA X scope C fp (ts++cap) s0 H0) ([(D,cK its0 n0)]++P) σ H s)(v0:Vals ys0 its0)(T:Turn X.prog X.w X.K tg1 J fp1 it1 tn1)(st:tn1 0 s.heap)(hf:∀b∈fp1,Eo (aA X scope C fp (ts++cap) s0 H0) ([(D,cK its0 n0)]++P) H b)
  (hD0:D∈(aA X scope C fp (ts++cap) s0 H0).ex\/s0.heap.get? D=none)(hDc:∀x c,(aA X scope C fp (ts++cap) s0 H0).env.cells.lookup x=some c->c≠D)(hDp:∀p∈X.pn++P,p.1≠D)
  (hg:PG (aA X scope C fp (ts++cap) s0 H0) tg1 g1)(ht:PTs (aA X scope C fp (ts++cap) s0 H0) ifs1 tc1)(he:PE (aA X scope C fp (ts++cap) s0 H0) elt te)
  (cv:gx J g1 tc1 te σ H ys0 Q)
  (hR:∀σ' ys its n H' s',Inv (aA X scope C fp (ts++cap) s0 H0) ([(D,cK its n)]++P) σ' H' s'->Vals ys its->Q ys H'->R (.ok .next) s') :
  codeAny (model X.prog X.w) X.A (.compStart (cE elt tg0 iter0 tg1 iter1 ifs0 ifs1 scope pos) 1 (.ref it1) (.ref D) (compEnvC scope (cj X.env.cells scope.names []) C X.env)) R s:=by
 obtain⟨W,⟨m0,w0⟩,turn⟩:=cv;have stat:∀{H':Hp}{its:List Value}{n:Nat},(∀b∈fp1,H' b=none)->∀b∈fp1,Eo (aA X scope C fp (ts++cap) s0 H0) ([(D,cK its n)]++P) H' b:=fun {H' its n} hn b hb=>by
  obtain⟨f0,f1,f2,f3,f4,f5⟩:=hf b hb;refine⟨hn b hb,f1,f2,f3,f4,fun p hp=>?_⟩;rcases zH.mp hp with z|z
  ·exact f5 p (Ad _ z)
  ·rcases zH.mp z with z|z
   ·have e:p=(D,cK its n):=by simpa using z
    subst e;exact f5 (D,cK its0 n0) (zI _ (Ad _ zQ))
   ·exact f5 p (zI _ (zI _ z))
 have nfp:∀b∈fp1,b≠D:=fun b hb=>by
  obtain⟨f0,f1,f2,f3,f4,f5⟩:=hf b hb;exact Dv (f5 (D,cK its0 n0) (zI _ (Ad _ zQ)))
 have loop:∀s3:Shared,s3=s->codeAny (model X.prog X.w) X.A (.compLoop (cE elt tg0 iter0 tg1 iter1 ifs0 ifs1 scope pos) 1 (.ref it1) (.ref D) (compEnvC scope (cj X.env.cells scope.names []) C X.env)) R s3:=by
  rintro s3 rfl;refine rB (fun k s'=>∃j σ' H' ys its n,Inv (aA X scope C fp (ts++cap) s0 H0) ([(D,cK its n)]++P) σ' H' s'/\Vals ys its/\tn1 j s'.heap/\(∀b∈fp1,H' b=none)/\W j k σ' ys H') ?_ m0
   ⟨0,σ,H,ys0,its0,n0,I,v0,st,fun b hb=>(hf b hb).1,w0⟩
  rintro k s3 ⟨j,σ3,H3,ys,its,n,I3,v3,st3,fr3,w3⟩;rcases turn j k σ3 ys H3 w3 with ⟨stop,hz,fin⟩|⟨go,hz,step⟩
  ·refine thn (T.done (aA X scope C fp (ts++cap) s0 H0) rfl rfl rfl hc j _ s3 _ H3 _ I3 (stat fr3) st3 stop) fun r s4 hq64=>?_;obtain⟨hr,I4⟩:=hq64;subst hr;exact hR _ _ _ _ _ _ I4 v3 fin
  ·refine thn (T.item (aA X scope C fp (ts++cap) s0 H0) rfl rfl rfl hc j _ s3 _ H3 _ I3 (stat fr3) st3 go) fun r s4 hq65=>?_;obtain⟨u,hr,h4⟩:=hq65;subst hr;refine thn h4 fun _ s5 hq66=>?_;obtain⟨x,H5,I5,r5,y5,st5,fr5⟩:=hq66;have I5':=I5.pinned (stat fr5) (T.obj _ _ st5);refine thn (hg _ s5 _ H5 x u _ I5' r5 (step x H5 y5)) fun _ s6 hq67=>?_;obtain⟨σ6,H6,I6,q6⟩:=hq67;refine thn (ht _ s6 σ6 H6 _ I6 q6) fun ok s7 hq68=>?_;obtain⟨H7,I7,q7⟩:=hq68;have pinned:∀{σ':St}{H':Hp}{s':Shared},Inv (aA X scope C fp (ts++cap) s0 H0) ([(D,cK its n)]++P++cL fp1 s5.heap) σ' H' s'->tn1 (j+1) s'.heap/\∀b∈fp1,H' b=none:=fun {σ' H' s'} J'=>by
    refine⟨T.keep _ _ _ st5 fun b hb o e=>(J'.pin (b,o) (zI _ (zI _ (aX hb e)))).1,fun b hb=>?_⟩;obtain⟨o,e,d⟩:=T.obj _ _ st5 b hb;exact(J'.pin (b,o) (zI _ (zI _ (aX hb e)))).2.1
   cases ok with
   |false=>
    rw[CY Ag] at q7 ⊢;obtain⟨m',hm,w7⟩:=q7;obtain⟨st7,fr7⟩:=pinned I7;exact⟨m',hm,j+1,σ6,H7,ys,its,n,I7.DX,v3,st7,fr7,w7⟩
   |true=>
    rw[CZ rfl] at q7 ⊢;refine thn (he _ s7 σ6 H7 _ I7 q7) fun yv s8 hq69=>?_;obtain⟨y,H8,I8,r8,m',hm,w8⟩:=hq69;obtain⟨st8,fr8⟩:=pinned I8;have I8':=I8.DX;obtain⟨hDg,hDn,hDC',hDs,hDd⟩:=I8'.pin (D,cK its n) (zI _ (Ad _ zQ));have hl:=v3.length;refine append_at (hsz:=by rw[zY];lia) hDg fun h9 hs9 hD9=>?_;have tracked:∀b o,b≠D->s8.heap.get? b=some o->h9.get? b=some o:=fun b o hb e=>hs9.extBut b o hb e;have I9:Inv (aA X scope C fp (ts++cap) s0 H0) ([(D,cK (its++[yv]) (n+1))]++P) σ6 H8 {s8 with heap:=h9}:=by
     have J0:Inv (aA X scope C fp (ts++cap) s0 H0) P σ6 H8 s8:=I8'.ED (fun p hp=>I8'.pin p (zI _ (zI _ hp)));have J1:Inv (aA X scope C fp (ts++cap) s0 H0) P σ6 H8 {s8 with heap:=h9,toks:=s8.toks}:=J0.turned (it:=D) tracked hDn hDC' hD0 hDc hDp;refine J1.ED fun p hp=>?_;rcases zH.mp hp with z|z
     ·have e:p=(D,cK (its++[yv]) (n+1)):=by simpa using z
      subst e;refine⟨?_,hDn,hDC',hDs,fun v z=>by cases z⟩;show h9.get? D=_;rw[hD9];simp[cK,List.push_toArray]
     ·exact J1.pin p (zI _ z)
    have st9:tn1 (j+1) h9:=T.keep _ _ _ st8 fun b hb o e=>tracked b o (nfp b hb) e;exact⟨m',hm,j+1,σ6,H8,ys++[y],its++[yv],n+1,I9,v3.append (.cons r8 .nil),st9,fr8,w8⟩
 exact pZ (loop _ rfl) (T.self _ _ _ _ _ st (loop _ rfl))
theorem fo{pins:List (Addr×Obj)}{σ:St}{H:Hp}{s:Shared}{fp:List Addr}{g:TG}{tc:TT}{wi1:TI}{g1:TG}{tc1:TT}{te:TE}{J:It}{it:Addr}{tn:Nat->Heap->Prop}{W:Nat->Nat->List V->Hp->Prop}{m0:Nat}{E:Value->Shared->Prop}
  {RR:Value->Addr->Result->Shared->Prop}{Fin:List V->Hp->Prop}(hc:X.calm=true)
  (I:Inv X pins σ H s)(T:Turn X.prog X.w X.K tg0 J fp it tn)(st:tn 0 s.heap)(hf:∀b∈fp,Eo X pins H b)(CS:aV X scope ts cap js)
  (hg:∀C fp s H,PG (aA X scope C fp (ts++cap) s H) tg0 g)(ht:∀C fp s H,PTs (aA X scope C fp (ts++cap) s H) ifs0 tc)(hi1:∀C fp s H,PI (aA X scope C fp (ts++cap) s H) tg1 iter1 wi1)
  (hg1:∀C fp s H,PG (aA X scope C fp (ts++cap) s H) tg1 g1)(ht1:∀C fp s H,PTs (aA X scope C fp (ts++cap) s H) ifs1 tc1)(he:∀C fp s H,PE (aA X scope C fp (ts++cap) s H) elt te)
  (hs1:∀C x,foldedSetIterable iter1 (compEnvC scope (cj X.env.cells scope.names []) C X.env) x=pure x)
  (w0:W 0 m0 [] H)
  (turn:∀i m ys H,W i m ys H->(J.stop i H/\ys.length<=sizeLine/\Fin ys H)\/(J.go i H/\∀x H',J.yld i H x H'->g x (List.replicate ts.length none++bO js σ) H' fun σ2 H2=>tc σ2 H2 fun b H3 =>
   if b=true then wi1 σ2 H3 fun J1 H4=>gx J1 g1 tc1 te σ2 H4 ys fun ys' H5=>∃m',m' < m/\W (i+1) m' ys' H5 else ∃m',m' < m/\W (i+1) m' ys H3))
  (hRR:∀D C s' H' ys m,Inv X pins σ (upd H' D (.lst ys)) s'->s'.heap.Ns C m->s.heap.objs.size<=C->s.heap.objs.size<=D->C≠D->H' C=none->H' D=none->Fin ys H'->RR (.ref D) C (.ok .next) s') :
  (wq X) (newList []) (fun acc s₃=>(wq X) (newFunctionEnv scope X.env.globals (cj X.env.cells scope.names []) [] X.env.qual none .none (some X.env)) (fun cenv s₄ =>
   codeAny (model X.prog X.w) X.A (.compStart (cE elt tg0 iter0 tg1 iter1 ifs0 ifs1 scope pos) 0 (.ref it) acc { cenv with scope:=relabel scope X.env }) (RR acc cenv.locals) s₄) E s₃) E s:=by
 have TA:∀C,Hy (aA X scope C fp (ts++cap) s H) tg0 J fp it tn:=fun C=>⟨T.item (aA X scope C fp (ts++cap) s H) rfl rfl rfl hc,T.done (aA X scope C fp (ts++cap) s H) rfl rfl rfl hc⟩
 refine wpAny_newObj_type (wpAny_newFunctionEnv CS.GJ (by intro y hy;simp at hy) (fun h₁ hns₁ hsb₁=>?_) CS.kind);dsimp only at hns₁ hsb₁ ⊢;generalize hH2:s.heap.push {cls:=.type "list",dict:=none,data:=.seq ([]:List Value).toArray}=H2 at hns₁ hsb₁ ⊢;have hCs:H2.objs.size=s.heap.objs.size+1:=by rw[<- hH2,DE]
 have hDC:s.heap.objs.size≠H2.objs.size:=by rw[hCs];exact zJ (Av _)
 have hCle:s.heap.objs.size<=H2.objs.size:=by rw[hCs];exact AA _
 have below:∀b,b<s.heap.objs.size->b≠H2.objs.size:=fun b hb=>by rw[hCs];exact zJ (AF hb)
 have old:∀b o,s.heap.get? b=some o->h₁.get? b=some o:=fun b o e=>hsb₁.extBut b o (below b (Dh e)) (Dw _ (hH2▸Dw _ e));have hacc:h₁.get? s.heap.objs.size=some (cK [] 0):=hsb₁.extBut _ _ hDC (Dw _ (hH2▸Dx _ rfl));have hfl:∀b∈fp,b<s.heap.objs.size:=fun b hb=>by obtain⟨o,e,_⟩:=T.obj _ _ st b hb;exact Dh e
 have st₁:tn 0 h₁:=T.keep _ _ _ st fun b _ o e=>old b o e;have hDstk:s.heap.objs.size∉frs X.stack:=fun z=>by
  obtain⟨_,o,ho,_⟩:=I.stack.mem z;exact absurd (Dh ho) (Ai _)
 have I0:Inv (aA X scope H2.objs.size fp (ts++cap) s H) [(s.heap.objs.size,cK [] 0)] (List.replicate ts.length none++bO js σ) H {s with heap:=h₁,toks:=s.toks+([]:List (Str×Value)).length}:=
  qx I CS hf hfl hCle old hns₁ rfl I.bare fun p hp=>by
   have e:p=(s.heap.objs.size,cK [] 0):=by simpa using hp
   subst e;exact⟨hacc,I.hok.fresh (zE _),hDC,hDstk,fun v z=>by cases z⟩
 have stat:∀{H':Hp}{ys:List Value}{n:Nat},(∀b∈fp,H' b=none)->∀b∈fp,Eo (aA X scope H2.objs.size fp (ts++cap) s H) [(s.heap.objs.size,cK ys n)] H' b:=fun {H' ys n} hn b hb=>by
  obtain⟨f0,f1,f2,f3,f4,f5⟩:=hf b hb;refine⟨hn b hb,below b (hfl b hb),?_,.inl hb,fun x c e=>f4 x c (CS.look I.ok e),fun p hp=>?_⟩
  ·exact(hJ I CS hf hfl hCle).HK b hb
  ·rcases zH.mp hp with z|z
   ·exact f5 p (Ad _ z)
   ·have e:p=(s.heap.objs.size,cK ys n):=by simpa using z
    subst e;intro q;have q':s.heap.objs.size=b:=q;exact absurd (hfl b hb) (by rw[<- q'];exact Ai _)
 have loop:∀s₃:Shared,s₃={s with heap:=h₁,toks:=s.toks+([]:List (Str×Value)).length} ->
   codeAny (model X.prog X.w) X.A (.compLoop (cE elt tg0 iter0 tg1 iter1 ifs0 ifs1 scope pos) 0 (.ref it) (.ref s.heap.objs.size) (compEnvC scope (cj X.env.cells scope.names []) H2.objs.size X.env))
    (RR (.ref s.heap.objs.size) H2.objs.size) s₃:=by
  rintro s₃ rfl;refine qD (hs1 _) (fun k s'=>∃i H' ys its n,Inv (aA X scope H2.objs.size fp (ts++cap) s H) [(s.heap.objs.size,cK its n)] (List.replicate ts.length none++bO js σ) H' s'/\Vals ys its/\tn i s'.heap/\(∀b∈fp,H' b=none)/\W i k ys H') ?_ m0
   ⟨0,H,[],[],0,I0,.nil,st₁,fun b hb=>(hf b hb).1,w0⟩
  rintro k s3 ⟨i,H3,ys,its,n,I3,v3,st3,fr3,w3⟩;rcases turn i k ys H3 w3 with ⟨stop,hz,fin⟩|⟨go,step⟩
  ·refine thn ((TA _).done i _ s3 _ H3 _ I3 (stat fr3) st3 stop) fun r s4 hq70=>?_;obtain⟨hr,I4⟩:=hq70;subst hr;obtain⟨m4,hn4,_⟩:=I4.loc;exact hRR _ _ s4 H3 ys m4 (iY I hf hCle (zE _) I4 v3 hz) hn4 hCle (zE _) (Dv hDC) I4.free (I4.pin (s.heap.objs.size,cK its n) (zI _ zQ)).2.1 fin
  ·refine thn ((TA _).item i _ s3 _ H3 _ I3 (stat fr3) st3 go) fun r s4 hq71=>?_;obtain⟨u,hr,h4⟩:=hq71;subst hr;refine thn h4 fun _ s5 hq72=>?_;obtain⟨x,H5,I5,r5,y5,st5,fr5⟩:=hq72;have I5':=I5.pinned (stat fr5) (T.obj _ _ st5);refine thn (hg _ _ _ _ _ s5 _ H5 x u _ I5' r5 (step x H5 y5)) fun _ s6 hq73=>?_;obtain⟨σ6,H6,I6,q6⟩:=hq73;refine thn (ht _ _ _ _ _ s6 σ6 H6 _ I6 q6) fun ok s7 hq74=>?_;obtain⟨H7,I7,q7⟩:=hq74;have pinned:∀{σ':St}{H':Hp}{s':Shared},Inv (aA X scope H2.objs.size fp (ts++cap) s H) ([(s.heap.objs.size,cK its n)]++cL fp s5.heap) σ' H' s'->tn (i+1) s'.heap/\∀b∈fp,H' b=none:=fun {σ' H' s'} J=>by
    refine⟨T.keep _ _ _ st5 fun b hb o e=>(J.pin (b,o) (zI _ (zI _ (aX hb e)))).1,fun b hb=>?_⟩;obtain⟨o,e,d⟩:=T.obj _ _ st5 b hb;exact(J.pin (b,o) (zI _ (zI _ (aX hb e)))).2.1
   cases ok with
   |false=>
    rw[CY Ag] at q7 ⊢;obtain⟨m',hm,w7⟩:=q7;obtain⟨st7,fr7⟩:=pinned I7;exact⟨m',hm,i+1,H7,ys,its,n,bP I CS hf I7.DX,v3,st7,fr7,w7⟩
   |true=>
    rw[CZ rfl] at q7 ⊢;refine thn (hi1 _ _ _ _ _ s7 σ6 H7 _ I7 q7) fun xv s8 h8=>thn h8 fun itv s9 h9=>?_;obtain⟨it1,fp1,tn1,J1,H9,e9,I9,T1,st9,f9,cv⟩:=h9;subst e9;refine lF (D:=s.heap.objs.size) (its0:=its) (n0:=n) (P:=cL fp s5.heap) hc I9 v3 T1 st9 f9 (.inr (Heap.get?_none_of_le (zE _))) (fun x c e q=>?_) (fun p hp q=>?_) (hg1 _ _ _ _) (ht1 _ _ _ _) (he _ _ _ _) cv (fun σ' ys' its' n' H' s' I' v' q'=>⟨rfl,?_⟩)
    ·obtain⟨v,o,ho,_⟩:=I.cell x c (CS.look I.ok e);rw[q] at ho;exact absurd (Dh ho) (Ai _)
    ·rcases zH.mp hp with z|z
     ·obtain⟨e,_⟩:=I.pin p (Ad _ z);rw[q] at e;exact absurd (Dh e) (Ai _)
     ·obtain⟨hb,_⟩:=je z;exact absurd (hfl _ hb) (by rw[q];exact Ai _)
    ·obtain⟨m',hm,w8⟩:=q';have st8:tn (i+1) s'.heap:=T.keep _ _ _ st5 fun b hb o e=>(I'.pin (b,o) (zI _ (zI _ (aX hb e)))).1;have fr8:∀b∈fp,H' b=none:=fun b hb=>by
      obtain⟨o,e,d⟩:=T.obj _ _ st5 b hb;exact(I'.pin (b,o) (zI _ (zI _ (aX hb e)))).2.1
     exact⟨m',hm,i+1,H',ys',its',n',bP I CS hf I'.DX,v',st8,fr8,w8⟩
 exact codeAny_compStart_list (loop _ rfl) (T.self _ _ _ _ _ st₁ (loop _ rfl))
theorem oS{wi:TI}{g:TG}{tc:TT}{wi1:TI}{g1:TG}{tc1:TT}{te:TE}(hc:X.calm=true)(CS:aV X scope ts cap js)(hi:PI X tg0 iter0 wi)(hg:∀C fp s H,PG (aA X scope C fp (ts++cap) s H) tg0 g)
  (ht:∀C fp s H,PTs (aA X scope C fp (ts++cap) s H) ifs0 tc)(hi1:∀C fp s H,PI (aA X scope C fp (ts++cap) s H) tg1 iter1 wi1)
  (hg1:∀C fp s H,PG (aA X scope C fp (ts++cap) s H) tg1 g1)(ht1:∀C fp s H,PTs (aA X scope C fp (ts++cap) s H) ifs1 tc1)(he:∀C fp s H,PE (aA X scope C fp (ts++cap) s H) elt te)
  (hs1:∀C x,foldedSetIterable iter1 (compEnvC scope (cj X.env.cells scope.names []) C X.env) x=pure x:=by intro _ _;rfl)
  (hs:∀x,foldedSetIterable iter0 X.env x=pure x:=by intro _;rfl):PE X (.ListComp elt [⟨tg0,iter0,ifs0,0⟩,⟨tg1,iter1,ifs1,0⟩] scope pos) (qL wi ts.length js g tc wi1 g1 tc1 te):=by
 intro pins s σ H Q I h;rw[eval_ListComp];refine wpAny_comprehension_free (use:=none) rfl hs (bu (CS.cells I.ok)) CS.kind CS.names (thn (hi pins s σ H _ I h) fun v s1 h1=>thn h1 fun itv s2 h2=>?_);obtain⟨it,fp,tn,J,H2,e,I2,T,st2,f2,W,⟨m0,w0⟩,turn⟩:=h2;subst e;refine fo (RR:=fun acc C=>compPost (model X.prog X.w) X.A X.xe none (EP X pins σ Q) acc C) hc I2 T st2 f2 CS hg ht hi1 hg1 ht1 he hs1 w0 turn ?_;intro D C s' H' ys m I' hn hC hD hCD hHC hHD fin;have szL:=I2.lt;have low:∀b o,s2.heap.get? b=some o->b≠C:=fun b o e=>zJ (zP (Dh e) hC);refine⟨m,hn,fun h' hs'=>⟨.ref D,_,cG (n0:=0) I' (Heap.get?_none_of_le (zO I2.sz hC)) (zJ (zP szL hC)) (fun x c e=>?_) (fun p hp=>?_) (by rw[aq hCD];exact hHC) hs',rfl,fin D hHD⟩⟩
 ·obtain⟨v,o,ho,_⟩:=I2.cell x c e;exact low c o ho
 ·exact low _ _ (I2.pin p hp).1
end
def NxV (n j:Nat)(P:Nat->St->List V->Hp->Prop)(σ:St)(ys:List V)(H:Hp):Prop:=∃m',m'<n-j/\(m'=n-(j+1)/\j+1<=n/\P (j+1) σ ys H)
theorem NxV.mk{n j:Nat}{P:Nat->St->List V->Hp->Prop}{σ:St}{ys:List V}{H:Hp}(hj:j<n)(h:P (j+1) σ ys H):NxV n j P σ ys H:=⟨n-(j+1),by lia,rfl,hj,h⟩
theorem jQ{J:It}{n:Nat}{g:TG}{tc:TT}{te:TE}{σ0:St}{H0:Hp}{ys0:List V}{Q:List V->Hp->Prop}(P:Nat->St->List V->Hp->Prop)(h0:P 0 σ0 ys0 H0)(hz:∀j σ ys H,j<=n->P j σ ys H->ys.length<sizeLine)
  (hgo:∀j σ ys H,j<n->P j σ ys H->J.go j H)(hstop:∀σ ys H,P n σ ys H->J.stop n H)
  (hs:∀j σ ys H x H',j<n->P j σ ys H->J.yld j H x H'->g x σ H' fun σ2 H2=>tc σ2 H2 fun b H3=>if b=true then te σ2 H3 fun y H4=>NxV n j P σ2 (ys++[y]) H4 else NxV n j P σ2 ys H3)
  (hd:∀σ ys H,P n σ ys H->Q ys H):gx J g tc te σ0 H0 ys0 Q:=by
 refine⟨fun j m σ ys H=>m=n-j/\j<=n/\P j σ ys H,⟨n,by simp,zX _,h0⟩,?_⟩;rintro j m σ ys H ⟨rfl,hj,p⟩;have hy:=hz j σ ys H hj p;by_cases hlt:j<n
 ·exact .inr ⟨hgo j σ ys H hlt p,hy,fun x H' y=>hs j σ ys H x H' hlt p y⟩
 ·have e:j=n:=by lia
  subst e;exact .inl ⟨hstop σ ys H p,Ax hy,hd σ ys H p⟩
theorem kq{J:It}{n k:Nat}{js:List Nat}{g:TG}{tc:TT}{wi1:TI}{g1:TG}{tc1:TT}{te:TE}{σ:St}{H:Hp}{Q:VK}(P:Nat->List V->Hp->Prop)(h0:P 0 [] H)(hz:∀i ys H,i<=n->P i ys H->ys.length<=sizeLine)
  (hgo:∀i ys H,i<n->P i ys H->J.go i H)(hstop:∀ys H,P n ys H->J.stop n H)
  (hs:∀i ys H x H',i<n->P i ys H->J.yld i H x H'->g x (List.replicate k none++bO js σ) H' fun σ2 H2=>tc σ2 H2 fun b H3=>if b=true then wi1 σ2 H3 fun J1 H4=>gx J1 g1 tc1 te σ2 H4 ys fun ys' H5=>Nx n i P ys' H5 else Nx n i P ys H3)
  (hd:∀ys H,P n ys H->∀p,H p=none->Q (.ref p) (upd H p (.lst ys))):kr J k js g tc wi1 g1 tc1 te σ H Q:=by
 refine⟨fun i m ys H=>m=n-i/\i<=n/\P i ys H,⟨n,by simp,zX _,h0⟩,?_⟩;rintro i m ys H ⟨rfl,hi,p⟩;have hy:=hz i ys H hi p;by_cases hlt:i<n
 ·exact .inr ⟨hgo i ys H hlt p,fun x H' y=>hs i ys H x H' hlt p y⟩
 ·have e:i=n:=by lia
  subst e;exact .inl ⟨hstop ys H p,hy,hd ys H p⟩
theorem ux{lo:Int}{n:Nat}{g:TG}{tc:TT}{te:TE}{σ0:St}{H0:Hp}{ys0:List V}{Q:List V->Hp->Prop}(P:Nat->St->List V->Hp->Prop)(h0:P 0 σ0 ys0 H0)(hz:∀j σ ys H,j<=n->P j σ ys H->ys.length<sizeLine)
  (hs:∀j σ ys H,j<n->P j σ ys H->g (.int (lo+j)) σ H fun σ2 H2=>tc σ2 H2 fun b H3=>if b=true then te σ2 H3 fun y H4=>NxV n j P σ2 (ys++[y]) H4 else NxV n j P σ2 ys H3)
  (hd:∀σ ys H,P n σ ys H->Q ys H):gx (Itr lo n) g tc te σ0 H0 ys0 Q:=
 jQ P h0 hz (fun _ _ _ _ h _=>h) (fun _ _ _ _=>zE _) (fun j σ ys H x H' hj p y=>by obtain⟨e,y⟩:=y;subst e y;exact hs j σ ys _ hj p) hd
theorem uj{lo:Int}{n k:Nat}{js:List Nat}{g:TG}{tc:TT}{wi1:TI}{g1:TG}{tc1:TT}{te:TE}{σ:St}{H:Hp}{Q:VK}(P:Nat->List V->Hp->Prop)(h0:P 0 [] H)(hz:∀i ys H,i<=n->P i ys H->ys.length<=sizeLine)
  (hs:∀i ys H,i<n->P i ys H->g (.int (lo+i)) (List.replicate k none++bO js σ) H fun σ2 H2=>tc σ2 H2 fun b H3=>if b=true then wi1 σ2 H3 fun J1 H4=>gx J1 g1 tc1 te σ2 H4 ys fun ys' H5=>Nx n i P ys' H5 else Nx n i P ys H3)
  (hd:∀ys H,P n ys H->∀p,H p=none->Q (.ref p) (upd H p (.lst ys))):kr (Itr lo n) k js g tc wi1 g1 tc1 te σ H Q:=
 kq P h0 hz (fun _ _ _ h _=>h) (fun _ _ _=>zE _) (fun i ys H x H' hi p y=>by obtain⟨e,y⟩:=y;subst e y;exact hs i ys _ hi p) hd
def CdO (c:Addr)(q:Str):HO:=.ext fun h=>∃o vs t,h.get? c=some o/\o.data=.fields vs/\vs[1]?=some (.str q t)
def FnO (a:Addr)(fd:FuncData):HO:=.ext fun h=>∃o,h.get? a=some o/\o.data=.func fd
structure Es(pos:Pos)(q:Str)(P:Addr)(H:Hp):Prop where
 ex:∃ps,H P=some (.tbl ps)/\TriplesOk ps.toList/\(codeAmong pos ps.toList=none\/∃c,codeAmong pos ps.toList=some (.ref c)/\H c=some (CdO c q))
structure JJ(K:W.Frag)(mg:Str->Option Value)(c P:Addr):Prop where
 hd:∀h:Heap,K.In h->W.CodeHd h c P
 bt:∀h:Heap,K.In h->h.BuiltinsAt mg P
 ne:mainGlobals≠P
def SmB (P:Addr)(H H':Hp):Prop:=∀b o,b≠P->H b=some o->H' b=some o
theorem SmB.trans{P:Addr}{H H1 H2:Hp}(a:SmB P H H1)(b:SmB P H1 H2):SmB P H H2:=fun c o n e=>b c o n (a c o n e)
theorem SmB.of{P:Addr}{H H':Hp}(a:DO H H'):SmB P H H':=fun c o _ e=>a c o e
theorem Es.same{pos:Pos}{q:Str}{P:Addr}{H H':Hp}(h:Es pos q P H)(S:DO H H'):Es pos q P H':=by
 obtain⟨ps,h1,h2,h3⟩:=h.ex;refine⟨ps,S _ _ h1,h2,?_⟩;rcases h3 with h3|⟨c,h3,h4⟩
 ·exact .inl h3
 ·exact .inr ⟨c,h3,S _ _ h4⟩
def tLam (pos:Pos)(q:Str)(P:Addr)(F:Value->Value->Value->FuncData):TE:=fun σ H Q=>Es pos q P H/\∀a c pm ct H',H a=none->H' a=some (FnO a (F pm (.ref c) ct))->H' c=some (CdO c q)->Es pos q P H'->SmB P H H'->Q (.ref a) H'
theorem uU{P:Program}{w:World}{H:Hp}{h:Heap}{a:Addr}{fd:FuncData}{o:Obj}(e:h.get? a=some o)(d:o.data=.func fd):Ed P w H h a (FnO a fd):=
 ⟨⟨o,e,d⟩,⟨o,e⟩,fun h1 h2 ⟨o1,e1,d1⟩ k=>⟨o1,k _ e1,d1⟩⟩
theorem vV{P:Program}{w:World}{H:Hp}{h:Heap}{c:Addr}{q:Str}(e:h.CodeRec (.ref c) q):Ed P w H h c (CdO c q):=by
 obtain⟨c',o,vs,t,e0,e1,e2,e3⟩:=e;cases e0;exact⟨⟨o,vs,t,e1,e2,e3⟩,⟨o,e1⟩,fun h1 h2 ⟨o1,vs1,t1,a1,a2,a3⟩ k=>⟨o1,vs1,t1,k _ a1,a2,a3⟩⟩
theorem uv{P:Program}{w:World}{H:Hp}{h:Heap}{c:Addr}{q:Str}(x:HOk P w H h)(e:H c=some (CdO c q)):h.CodeRec (.ref c) q:=by
 obtain⟨⟨o,vs,t,e1,e2,e3⟩,_⟩:=x c _ e;exact⟨c,o,vs,t,rfl,e1,e2,e3⟩
theorem tU{P:Program}{w:World}{H:Hp}{h:Heap}{a:Addr}{fd:FuncData}(x:HOk P w H h)(e:H a=some (FnO a fd)):∃o,h.get? a=some o/\o.data=.func fd:=by
 obtain⟨z,_⟩:=x a _ e;exact z
theorem uR{X:Cx}{params:Arguments}{body:Expr}{scope:Scope}{pos:Pos}{c P:Addr}{q:Str}{ts cap:List Str}{js:List Nat}(LK:JJ X.K X.mg c P)(hcode:X.env.code=.ref c)(hq:X.env.qual++"<lambda>"=q)(hd:defaultsOf params X.env=([],[]))(CS:aV X scope ts cap js) :
  PE X (.Lambda params body scope pos) (tLam pos q P fun pm cd ct=>W.kla_fn "<lambda>" q params body scope (cj X.env.cells scope.names []) pm cd ct):=by
 intro pins s σ H Q I h;obtain⟨⟨ps,hP,hT,hc⟩,h⟩:=h;refine W.kla_eval hd ?_;rw[hq];have hcl:=bu (CS.cells I.ok);have hns:s.heap.Ns mainGlobals X.mg:=by
  obtain⟨o,es,ep,e,r⟩:=I.ok.mod.glob;exact⟨o,es,ep,I.bk _ _ e,r⟩
 have gP:s.heap.get? P=some (W.tabObj ps):=I.hok P _ hP;rcases hc with hc|⟨c0,hc,hcc⟩
 ·refine W.kla_makeFunction hcl I.ok.glob hns hcode (LK.hd _ I.kIn) gP hT hc LK.ne (LK.bt _ I.kIn) fun c' ctv h' tk ext hsz hlt hrec htab=>?_;have tl:(ps++#[rawInt pos.line,rawInt pos.col,.ref c']).toList=ps.toList++[rawInt pos.line,rawInt pos.col,.ref c']:=by simp
  have nP:∀b u,H b=some u->(∀ps,u≠.tbl ps)->b≠P:=fun b u e n z=>by rw[z,hP] at e;exact n ps (Di e).symm
  have lc:∀b u,H b=some u->b≠c':=fun b u e=>zJ (zP (I.hok.lt e) hsz);have la:∀b u,H b=some u->b≠h'.objs.size:=fun b u e=>zJ (BD (zP (I.hok.lt e) hsz) hlt);have ca:c'≠h'.objs.size:=zJ hlt;have cP:c'≠P:=Dv (lc P _ hP);have Pa:P≠h'.objs.size:=la P _ hP;generalize hfd:W.kla_fn "<lambda>" q params body scope (cj X.env.cells scope.names []) ((X.mg "__name__").getD .none) (.ref c') ctv=fd;have hob:W.kla_obj "<lambda>" q params body scope (cj X.env.cells scope.names []) ((X.mg "__name__").getD .none) c' ctv={cls:=.type "function",data:=.func fd}:=by rw[<- hfd]
  rw[hob];obtain⟨H',eH⟩:∃H',H'=upd (upd (upd H P (.tbl (ps++#[rawInt pos.line,rawInt pos.col,.ref c']))) c' (CdO c' q)) h'.objs.size (FnO h'.objs.size fd):=⟨_,rfl⟩
  have eA:H' h'.objs.size=some (FnO h'.objs.size fd):=by rw[eH];exact ae
  have eC:H' c'=some (CdO c' q):=by rw[eH,aq ca];exact ae
  have eP:H' P=some (.tbl (ps++#[rawInt pos.line,rawInt pos.col,.ref c'])):=by rw[eH,aq Pa,aq (Dv cP)];exact ae
  have eO:∀b,b≠P->b≠c'->b≠h'.objs.size->H' b=H b:=fun b n1 n2 n3=>by rw[eH,aq n3,aq n2,aq n1]
  have SB:SmB P H H':=fun b o n e=>by rw[eO b n (lc b o e) (la b o e)];exact e
  have kp:∀b u,b≠P->s.heap.get? b=some u->(h'.push {cls:=.type "function",data:=.func fd}).get? b=some u:=fun b u n e=>Dw _ (ext b u n e);have gP':(h'.push {cls:=.type "function",data:=.func fd}).get? P=some (W.tabObj (ps++#[rawInt pos.line,rawInt pos.col,.ref c'])):=Dw _ htab;have tu:∀b xs,H b=some (.tup xs)->H' b=some (.tup xs):=fun b xs e=>SB b _ (nP b _ e fun _ z=>by cases z) e;have ow:∀b x,H b=some (.own x)->H' b=some (.own x):=fun b x e=>SB b _ (nP b _ e fun _ z=>by cases z) e;have I2:Inv X pins σ H' {s with heap:=h'.push {cls:=.type "function",data:=.func fd},toks:=tk}:=by
   refine I.un (t':=tk) ⟨fun b o e n _ _=>kp b o (fun z=>by rw[z,hP] at n;cases n) e,fun b o e n _ _=>⟨o.slots,kp b o (fun z=>by rw[z,hP] at n;cases n) e⟩,fun b o e n _=>?_,fun b o e _=>?_,tu,fun b o u e=>SB b _ (nP b _ e fun _ z=>by cases z) e,fun b ps' e=>?_⟩ fun b u e=>?_
   ·have lb:=Dh e;rw[eO b (fun z=>by rw[z,hP] at n;cases n) (zJ (zP lb hsz)) (zJ (BD (zP lb hsz) hlt))];exact n
   ·by_cases hb:b=P
    ·rw[hb];exact⟨_,gP'⟩
    ·exact⟨o,kp b o hb e⟩
   ·by_cases hb:b=P
    ·subst hb;rw[hP] at e;cases e;exact⟨_,eP⟩
    ·exact⟨#[],by rw[SB b _ hb e];simp⟩
   ·by_cases b1:b=h'.objs.size
    ·subst b1;rw[eA] at e;cases e;exact uU (Dx _ rfl) rfl
    ·by_cases b2:b=c'
     ·subst b2;rw[eC] at e;cases e;obtain⟨c2,o,vs,t,e0,e1,e2,e3⟩:=hrec;cases e0;exact vV ⟨_,o,vs,t,rfl,Dw _ e1,e2,e3⟩
     ·by_cases b3:b=P
      ·subst b3;rw[eP] at e;cases e;exact gP'
      ·rw[eO b b3 b2 b1] at e;refine(I.hok b u e).Gd (fun x v hx g=>kp x v (fun z=>?_) g) (fun x z=>ow x _ z) tu;rcases hx with hx|hx
       ·exact b3 (hx.symm.trans z)
       ·rw[z,hP] at hx;cases hx
  refine⟨.ref h'.objs.size,H',I2,rfl,h _ c' ((X.mg "__name__").getD .none) ctv H' ?_ (eA.trans (by rw[<- hfd])) eC ⟨_,eP,by rw[tl];exact TriplesOk_snoc _ _ _ _ hT,.inr ⟨c',by rw[tl];exact codeAmong_snoc _ hT hc,eC⟩⟩ SB⟩;exact I.hok.fresh (Ax (Bc hsz hlt))
 ·refine W.kla_makeFunctionHit hcl I.ok.glob hns hcode (LK.hd _ I.kIn) gP hT hc (LK.bt _ I.kIn) fun ctv h' tk ext hsz=>?_;have I2:=I.laid (a:=h'.objs.size) (o:=FnO h'.objs.size (W.kla_fn "<lambda>" q params body scope (cj X.env.cells scope.names []) ((X.mg "__name__").getD .none) (.ref c0) ctv)) (t':=tk) (h':=h'.push {cls:=.type "function",data:=.func (W.kla_fn "<lambda>" q params body scope (cj X.env.cells scope.names []) ((X.mg "__name__").getD .none) (.ref c0) ctv)}) (fun b u e=>Dw _ (ext b u e)) hsz (uU (Dx _ rfl) rfl);have hn:=I.hok.fresh (a:=h'.objs.size) hsz;have SS:=ag hn (FnO h'.objs.size (W.kla_fn "<lambda>" q params body scope (cj X.env.cells scope.names []) ((X.mg "__name__").getD .none) (.ref c0) ctv));exact⟨.ref h'.objs.size,_,I2,rfl,h _ c0 _ ctv _ hn ae (SS _ _ hcc) (Es.same ⟨ps,hP,hT,.inr ⟨c0,hc,hcc⟩⟩ SS) (SmB.of SS)⟩
def qi (X:Cx)(A:Around)(scope:Scope)(q:Str)(f:Addr)(cd:Value)(N:List Str)(s:Shared)(H:Hp):Cx where
 prog:=X.prog
 w:=X.w
 K:=X.K
 mg:=X.mg
 base:=X.base
 A:=A.deeper (W.envX q scope s.heap.objs.size f cd (cj X.env.cells scope.names []))
 N:=N
 s₀:=s
 H₀:=H
 env:=W.envX q scope s.heap.objs.size f cd (cj X.env.cells scope.names [])
 outer:=X.stack
 stack:=W.envX q scope s.heap.objs.size f cd (cj X.env.cells scope.names [])::X.stack
 ex:=[]
 fn:=fun _=>false
 calm:=A.handled.isNone
 pn:=[]
 xe:=fun _ _=>False
section
variable {X:Cx}{pins:List (Addr×Obj)}{σ:St}{H:Hp}{s:Shared}{scope:Scope}{cap:List Str}{js:List Nat}{A:Around}{q y:Str}{f:Addr}{cd:Value}
theorem uI(hA:A.frames=some X.stack)(I:Inv X pins σ H s)(CS:aV X scope [y] cap js):(qi X A scope q f cd ([y]++cap) s H).Ok where
 mod:=I.ok.mod
 kind:=CS.kind
 glob:=rfl
 blt:=rfl
 above:=zE _
 inj:=fun x z c h1 h2=>I.ok.inj x z c (CS.look I.ok h1) (CS.look I.ok h2)
 has:=fun x hx=>by
  have hx:scope.names.lookup x=some .cell\/scope.names.lookup x=some .free:=hx;rcases hx with hx|hx
  ·exact absurd rfl (CS.GJ _ (bo hx))
  ·exact BN.mp (fb (.inl (bo hx)))
 cab:=fun x c h _=>by cases (show false=true from h)
 hd:=fun h=>CO.mp h
 frames:=Around.frames_deeper hA
 stk:=.inr ⟨rfl,rfl⟩
 exf:=fun b hb=>absurd (show b∈([]:List Addr) from hb) (by simp)
 bs:=I.bs
 bsz:=zO I.ok.bsz I.sz
 IE:=fun b o e hb=>absurd (show b∈([]:List Addr) from hb) (by simp)
 HK:=fun b hb=>absurd (show b∈([]:List Addr) from hb) (by simp)
 Gz:=I.stack
 frf:=I.Fl
theorem sE{s₄:Shared}{x:V}{u:Value}(hA:A.frames=some X.stack)(I:Inv X pins σ H s)(CS:aV X scope [y] cap js)(hy:scope.names.lookup y=some .local)(r:RelV x u)
  (old:∀b o,s.heap.get? b=some o->s₄.heap.get? b=some o)(hn:s₄.heap.Ns s.heap.objs.size fun z=>[(y,u)].reverse.lookup z)(hos:s₄.os=s.os)(hb:AllBare s₄.gens) :
  Inv (qi X A scope q f cd ([y]++cap) s H) [] ([some x]++bO js σ) H s₄ where
 ok:=uI hA I CS
 os:=hos
 bare:=hb
 base:=Un.kept old
 loc:=⟨_,hn,fun i z v h1 h2 h3=>by
  cases i with
  |zero=>
   have e1:y=z:=Di h1;have e2:x=v:=Di (Di h2);subst e1 e2;exact⟨u,r,.inl ⟨hy,by simp⟩⟩
  |succ i=>
   have h1':cap[i]?=some z:=h1;have h2':(bO js σ)[i]?=some (some v):=h2;unfold bO at h2';rw[zW] at h2';cases hj:js[i]? with
   |none=>rw[hj] at h2';cases h2'
   |some j=>
    rw[hj] at h2';have h2'':(σ[j]?).join=some v:=Di h2';have hσ:σ[j]?=some (some v):=by
     cases e:σ[j]? with
     |none=>rw[e] at h2'';cases h2''
     |some o=>rw[e] at h2'';rw[show o=some v from h2'']
    have hN:X.N[j]?=some z:=by
     have:=congrArg (fun l=>l[i]?) CS.IH;simp only[zW,h1',hj] at this;exact(Di this).symm
    have hfr:=CS.JH z (zS h1');have hk:=CS.free _ (bo hfr) rfl;obtain⟨m0,hn0,hl⟩:=I.loc;obtain⟨u',r',l⟩:=hl j z v hN hσ (.inr hk);refine⟨u',r',?_⟩;rcases l with ⟨k,_⟩|⟨k,c,e,zz⟩
    ·rcases hk with q|q<;>(rw[q] at k;cases k)
    ·obtain⟨c',e'⟩:=BN.mp (fb (cells:=X.env.cells) (acc:=[]) (.inl (bo hfr)));have e2:=CS.look I.ok e';have e3:X.env.cells.lookup z=some c:=e;rw[e3] at e2;cases e2;obtain⟨o,ho,hd⟩:=zz
     exact .inr ⟨.inr hfr,c,e',⟨o,old _ _ ho,hd⟩⟩⟩
 cell:=fun x c e=>by
  obtain⟨v,o,ho,hd⟩:=I.cell x c (CS.look I.ok e);exact⟨v,o,old _ _ ho,hd⟩
 free:=I.hok.fresh (zE _)
 Ex:=fun x c e=>I.Ex x c (CS.look I.ok e)
 pin:=fun p hp=>absurd (show p∈([]:List (Addr×Obj)) from hp) (by simp)
 hok:=I.hok.kept old
 len:=by
  show([some x]++bO js σ).length=([y]++cap).length;have:=congrArg List.length CS.IH;simp only[zF] at this;rw[zG,zG,bO,zF,this];rfl
theorem oW{te:TE}{params:Arguments}{body:Expr}{pm ct:Value}{c:Addr}{x:V}{u:Value}{Q:VK}(hA:A.frames=some X.stack)(hdp:A.depth<recursionLimit)(I:Inv X pins σ H s)(CS:aV X scope [y] cap js)(hy:scope.names.lookup y=some .local)
  (hco:scope.isCoroutine=false)(hge:scope.isGenerator=false)(hf:H f=some (FnO f (W.kla_fn "<lambda>" q params body scope (cj X.env.cells scope.names []) pm (.ref c) ct)))(hcd:H c=some (CdO c q))
  (hbind:bindArgs (W.kla_fn "<lambda>" q params body scope (cj X.env.cells scope.names []) pm (.ref c) ct) ⟨[u],[]⟩=pure [(y,u)])
  (hb:PE (qi X A scope q f (.ref c) ([y]++cap) s H) body te)(r:RelV x u)(h:te ([some x]++bO js σ) H Q) :
  wpAny (model X.prog X.w) A (call (.ref f) [u]) (EP X pins σ Q) (fun _ _=>False) s:=by
 obtain⟨o,ho,hd⟩:=tU I.hok hf;refine wpAny_call (codeAny_mono (R:=CR CX0 X.stack X.prog X.w H s Q E0) (W.kla_callFunE hdp ho hd hco hge rfl (uv I.hok hcd) ?_) fun r s' hq=>?_)
 ·rw[hbind];refine CU (wpAny_newFunctionEnv CS.GJ (fun z hz=>by rw[zK.mp hz];exact hy) (fun h₁ hns hsb=>⟨?_,W.kla_codeExpr ?_⟩) CS.kind)
  ·exact Heap.NoLimit.fresh I.nolimit _ hsb
  ·have old:∀b o,s.heap.get? b=some o->h₁.get? b=some o:=fun b o e=>hsb.extBut b o (zJ (Dh e)) (Dw _ e);have J:=sE (A:=A) (q:=q) (f:=f) (cd:=.ref c) (s₄:={s with heap:=h₁,toks:=s.toks+[(y,u)].length}) hA I CS hy r old hns rfl I.bare;refine De (hb [] _ _ H Q J h) (fun v s' hs=>?_) fun _ _ hF=>(show False from hF).elim;obtain⟨v',H',J',rv,q'⟩:=hs;exact⟨v',H',J'.os,J'.bare,J'.base,J'.hok,rv,q'⟩
 ·cases r with
  |error e=>exact False.elim hq
  |ok fl=>
   cases fl with
   |ret u=>exact I.after hq
   |next=>exact False.elim hq
   |brk=>exact False.elim hq
   |cont=>exact False.elim hq
end
end L2
namespace L2
open PySem PySem.Spec PyProof.Rows SeqAt
def wV (X:Cx)(σ:St)(H:Hp)(q:Addr)(key:Str->Int)(ks:List Str):Prop:=
 ∀(pins:List (Addr×Obj))(s:Shared)(k:Str)(t:Tok),Inv X pins σ H s->k∈ks->wpAny (model X.prog X.w) X.A.in1 (call (.ref q) [.str k t]) (EP X pins σ fun v H'=>v=.int (key k)/\H'=H) (fun _ _=>False) s
section
variable {X:Cx}{pins:List (Addr×Obj)}{σ:St}{H:Hp}
theorem mF{k:Str}{v:Value}(h:FI (.inr k) v=true):∃t,v=.str k t:=by
 rcases DU h with ⟨i,t,e,_⟩|⟨x,t,e,rfl⟩
 ·cases e
 ·cases e;exact⟨t,rfl⟩
theorem Inv.thaw{σ':St}{s s':Shared}{a:Addr}{u:HO}{o:Obj}(I0:Inv X pins σ H s)(e:H a=some u)(nt:∀xs,u≠.tup xs)(nf:∀o' u',u≠.frz o' u')(nb:∀ps,u≠.tbl ps)(no:∀x,u≠.own x)(I:Inv X pins σ' (upd H a (.frz o u)) s'):Inv X pins σ' H s':=by
 have b1:=I.base;have fr:∀b,upd H a (.frz o u) b=none->H b=none:=fun b n=>by
  by_cases hb:b=a
  ·subst hb;rw[ae] at n;cases n
  ·rw[aq hb] at n;exact n
 have hat:upd H a (.frz o u) a=some (.frz o u):=ae;refine⟨I.ok,I.os,I.bare,⟨b1.keep,b1.slot,fun b o e n hx=>fr b (b1.free b o e n hx),b1.there,fun b xs q=>?_,fun b o' u' q=>?_,fun b ps q=>?_⟩,I.loc,I.cell,fr _ I.free,fun x c e=>fr _ (I.Ex x c e),fun p hp=>?_,fun b v q=>?_,I.len⟩
 ·have z:=b1.GH b xs q;by_cases hb:b=a
  ·subst hb;rw[ae] at z;cases z
  ·rw[aq hb] at z;exact z
 ·exact I0.base.GA b o' u' q
 ·obtain⟨more,z⟩:=b1.GF b ps q;by_cases hb:b=a
  ·subst hb;rw[ae] at z;cases z
  ·rw[aq hb] at z;exact⟨more,z⟩
 ·obtain⟨h1,h2,h3⟩:=I.pin p hp;exact⟨h1,fr _ h2,h3⟩
 ·have tu:∀c xs,upd H a (.frz o u) c=some (.tup xs)->H c=some (.tup xs):=fun c xs z=>by
   by_cases hc:c=a
   ·subst hc;rw[ae] at z;cases z
   ·rw[aq hc] at z;exact z
  have ow:∀c x,upd H a (.frz o u) c=some (.own x)->H c=some (.own x):=fun c x z=>by
   by_cases hc:c=a
   ·subst hc;rw[ae] at z;cases z
   ·rw[aq hc] at z;exact z
  by_cases hb:b=a
  ·subst hb;rw[e] at q;cases q;exact(I.hok b _ hat).2.Gd (fun _ _ _ q=>q) (fun c q=>ow c _ q) tu
  ·exact(I.hok b v (by rw[aq hb];exact q)).Gd (fun _ _ _ q=>q) (fun c q=>ow c _ q) tu
theorem lQ{q d IT S:Addr}{key:Str->Int}{ks:List Str}{ep:Nat}{o:Obj}{u:HO}{vs:List (Key×Value)}(hvs:vs.map (·.1)=ks.map Sum.inr)(hD:H d=some (.frz o u))(hat:∀h:Heap,h.get? d=some o->Heap.DictAt (aI X.prog X.w) h d vs ep)(hq:wV X σ H q key ks)(hc:X.calm=true)
  (hIS:IT≠S)(hdI:d≠IT){R:Result->Shared->Prop} :
  ∀(n j:Nat)(s:Shared)(rb:Str)(tb:Tok)(ti:Tok)(c:Nat),ks.length-j=n->j<=ks.length->Inv X pins σ H s ->
   Eo X pins H IT->Eo X pins H S->s.heap.IsKeyIter IT d j vs.length ep->s.heap.get? S=some (seqObj "list" #[.str rb tb,.int (key rb) ti] c)->rb∈ks->(∀k∈ks.take j,key rb<=key k) ->
   (∀(k:Str)(t:Tok)(s':Shared),k∈ks->(∀k'∈ks,key k<=key k')->Inv X pins σ H s'->R (.ok (.ret (.str k t))) s') ->
   codeAny (model X.prog X.w) X.A (.builtin "min.loop" ⟨[.ref IT,.ref q,.ref S],[]⟩) R s:=by
 have hname:(toString "min"++toString ".loop":String)="min.loop":=by decide
 have hlen:vs.length=ks.length:=by have:=congrArg List.length hvs;rw[zF,zF] at this;exact this
 intro n;induction n with
 |zero=>
  intro j s rb tb ti c hn hj I fI fS hit hS hrb hbest hR;obtain rfl:j=ks.length:=by lia
  have hdo:s.heap.get? d=some o:=(I.hok d _ hD).1;have W:=Walks.dictKeys (knd:=aI X.prog X.w) (prog:=X.prog) (w:=X.w) (A:=X.A.in1) (I.ok.hd hc) IT d hdI vs ep;refine codeAny_builtin PySem.F.entry_min_loop ?_;rw[Around.under_plainId PySem.F.plain_min_loop _];show wpAny _ X.A.in1 (seqItems? (.ref S) >>= _) _ _ _;refine CT (wpAny_seqItems hS rfl ?_);show wpAny _ X.A.in1 (tryCatch (pyNext (.ref IT)) _ >>= _) _ _ _;refine CT (wpAny_tryCatch (W.done _ _ _ ⟨by rw[hlen] at hit ⊢;exact hit,hat _ hdo⟩ fun h' tk' hk'=>?_));have I1:Inv X pins σ H {s with heap:=h',toks:=tk'}:=fI.turn I fun b o hb e=>hk' b o (by simpa using hb) e;have hS':=hk' S _ (by simpa using Dv hIS) hS;have s1:=Heap.SameBut.update h' S (Obj.mapSeq fun _=>(#[]:Array Value));show wpAny _ X.A.in1 (updateSeq S (fun _=>#[]) >>= _) _ _ _;refine CT ?_;refine wpAny_updateSeq hS' rfl (CT (wpAny_letGo (CU ?_)));exact hR rb tb _ hrb (fun k hk=>hbest k (by rw[Ap];exact hk)) (fS.turn I1 fun b o hb e=>by rw[s1.2 b hb];exact e)
 |succ n ih=>
  intro j s rb tb ti c hn hj I fI fS hit hS hrb hbest hR;have hlt:j<ks.length:=by lia
  have hdo:s.heap.get? d=some o:=(I.hok d _ hD).1;have W:=Walks.dictKeys (knd:=aI X.prog X.w) (prog:=X.prog) (w:=X.w) (A:=X.A.in1) (I.ok.hd hc) IT d hdI vs ep;refine codeAny_builtin PySem.F.entry_min_loop ?_;rw[Around.under_plainId PySem.F.plain_min_loop _];show wpAny _ X.A.in1 (seqItems? (.ref S) >>= _) _ _ _;refine CT (wpAny_seqItems hS rfl ?_);show wpAny _ X.A.in1 (tryCatch (pyNext (.ref IT)) _ >>= _) _ _ _;refine CT (wpAny_tryCatch (W.item j _ _ _ (by rw[hlen];exact hlt) ⟨hit,hat _ hdo⟩ fun v h' tk' hP hst' hk'=>?_));obtain⟨k0,x0,hk0,hkv⟩:=hP;have ek:k0=Sum.inr ks[j]:=by
   have:=congrArg (fun l=>l[j]?) hvs;simp only[zW,hk0,zN hlt] at this;exact Di this
  subst ek;obtain⟨tv,rfl⟩:=mF hkv;have hmem:ks[j]∈ks:=An hlt;obtain⟨oI,hoI,hoc,hod⟩:=id hst'.1;have I1:Inv X pins σ H {s with heap:=h',toks:=tk'}:=fI.turn I fun b o hb e=>hk' b o (by simpa using hb) e;have hS':=hk' S _ (by simpa using Dv hIS) hS
  have IP:=I1.pinned (fp:=[IT,S]) (fun b hb=>by
   rcases zU.mp hb with rfl|hb
   ·exact fI
   ·rw[zK.mp hb];exact fS) (fun b hb=>by
   rcases zU.mp hb with rfl|hb
   ·exact⟨oI,hoI,fun v e=>by rw[hod] at e;cases e⟩
   ·rw[zK.mp hb]; exact⟨_,hS',fun v e=>by cases e⟩)
  show wpAny _ X.A.in1 (tryCatch (holding [_] (call (.ref q) [_])) _ >>= _) _ _ _;refine CT (wpAny_tryCatch (Df (De (hq _ _ _ tv IP hmem) (fun x s2 he=>?_) fun _ _ hF=>hF.elim)));obtain⟨_,_,I2,r2,rfl,rfl⟩:=he;obtain⟨tn,rfl⟩:=r2;have pin:∀b o,b∈[IT,S]->h'.get? b=some o->s2.heap.get? b=some o:=fun b o hb e=>by
   have m:(b,o)∈cL [IT,S] h':=Bk.mpr ⟨b,hb,by rw[e];rfl⟩;exact(I2.pin (b,o) (zI _ (zI _ m))).1
  have gI2:=pin IT oI (.head _) hoI;have gS2:=pin S _ (.tail _ (.head _)) hS';have I3:=I2.DX;show wpAny _ X.A.in1 (tryCatch (holding [_,.int (key ks[j]) tn] (richCompare .Lt (.int (key ks[j]) tn) (.int (key rb) ti) >>= _)) _ >>= _) _ _ _;refine CT (wpAny_tryCatch (Df (CT (HT.Gv _ _ _ _ _ _ _ _ _ _ ?_))));refine CT (Df (wpAny_truthy_bool ?_));refine CT (wpAny_letGo (CU ?_));have htake:ks.take (j+1)=ks.take j++[ks[j]]:=by rw[Ak,zN hlt];rfl
  by_cases hb':key ks[j]<key rb
  ·have s1:=Heap.SameBut.update s2.heap S (Obj.mapSeq fun _=>#[.str ks[j] tv,.int (key ks[j]) tn]);obtain⟨c2,hc2⟩:∃c2,(s2.heap.update S (Obj.mapSeq fun _=>#[.str ks[j] tv,.int (key ks[j]) tn])).get? S=some (seqObj "list" #[.str ks[j] tv,.int (key ks[j]) tn] c2):=⟨_,get?_update_seq gS2 fun _=>#[.str ks[j] tv,.int (key ks[j]) tn]⟩
   simp only[Dc hb',if_true];refine CT ?_;refine wpAny_updateSeq gS2 rfl (CT (wpAny_letGo ?_));rw[hname];refine CU ⟨plainId_quiet PySem.F.plain_min_loop _,ih (j+1) _ _ tv tn c2 (by lia) hlt (fS.turn (t':=s2.toks) I3 fun b o hb e=>by rw[s1.2 b hb];exact e) fI fS ⟨oI,(s1.2 IT hIS).trans gI2,hoc,hod⟩ hc2 hmem (fun k h=>?_) hR⟩;rw[htake] at h;rcases zH.mp h with h|h
   ·have:=hbest k h;lia
   ·rw[zK.mp h];exact Bw _
  ·simp only[Dd hb',AW,if_false];refine CT (wpAny_letGo ?_);rw[hname];refine CU ⟨plainId_quiet PySem.F.plain_min_loop _,ih (j+1) s2 rb tb ti c (by lia) hlt I3 fI fS ⟨oI,gI2,hoc,hod⟩ gS2 hrb (fun k h=>?_) hR⟩;rw[htake] at h;rcases zH.mp h with h|h
   ·exact hbest k h
   ·rw[zK.mp h];lia
end
def ur (X:Cx)(σ:St)(q:Addr):List V->List V->Hp->VK->Prop:=fun xs zs H Q=>∃(d:Addr)(kvs:List (Key×V))(ks:List Str)(key:Str->Int),xs=[.ref d]/\zs=[.ref q]/\H d=some (.dK kvs)/\kvs.map (·.1)=ks.map Sum.inr/\ks≠[] /\
 (∀o,wV X σ (upd H d (.frz o (.dK kvs))) q key ks)/\∀k,k∈ks->(∀k'∈ks,key k<=key k')->Q (.str k) H
theorem GO:∀{kvs:List (Key×V)}{vs:List (Key×Value)},KV kvs vs->vs.map (·.1)=kvs.map (·.1)
 |_,_,.nil=>rfl
 |_,_,.cons r t=>by rw[zZ,zZ,GO t,r.1]
theorem iC{P:Program}{w:World}:∀{es:List DictEntry}{vs:List (Key×Value)},Pairs (aI P w) es vs->es.length=vs.length
 |_,_,.nil=>rfl
 |_,_,.cons _ _ t=>by rw[Ah,Ah,iC t]
theorem mY{X:Cx}{q:Addr}{pins:List (Addr×Obj)}{s:Shared}{σ:St}{H:Hp}{xs zs:List V}{us ws:List Value}{Q:VK}(hc:X.calm=true)(I:Inv X pins σ H s)(r:Vals xs us)(rz:Vals zs ws)(h:ur X σ q xs zs H Q) :
  (wq X) (call (.builtin "min") us ((["key"]:List Str).zip ws)) (EP X pins σ Q) X.xe s:=by
 obtain⟨d,kvs,ks,key,rfl,rfl,hd,hks,hne,hK,h1⟩:=h;obtain⟨u,rfl,rx⟩:=dB r;cases rx;obtain⟨rfl⟩:ws=[.ref q]:=by
  cases rz with
  |cons a b=>cases b;cases a;rfl
 have hname:(toString "min"++toString ".loop":String)="min.loop":=by decide
 show (wq X) (call (.builtin "min") [.ref d] [("key",.ref q)]) _ _ s;obtain⟨hz,hm,vs,kv,o,es,ep,ho,hex,hdd,hko,hpr,hnd⟩:=I.hok d _ hd;have hvs:vs.map (·.1)=ks.map Sum.inr:=(GO kv).trans hks;have hat:∀h:Heap,h.get? d=some o->Heap.DictAt (aI X.prog X.w) h d vs ep:=fun h e=>⟨o,es,e,hex,hdd,hko,hpr,hnd⟩
 have hesz:es.size=vs.length:=by rw[<- zR];exact iC hpr
 have hlen:vs.length=ks.length:=by have:=congrArg List.length hvs;rw[zF,zF] at this;exact this
 have If:=I.freeze hd ho (fun _ z=>by cases z) (fun _ _ z=>by cases z) (fun _ z=>by cases z) (fun _ z=>by cases z);have hKo:=hK o;obtain⟨Hf,eHf⟩:∃Hf,Hf=upd H d (.frz o (.dK kvs)):=⟨_,rfl⟩
 rw[<- eHf] at If hKo;have hDf:Hf d=some (.frz o (.dK kvs)):=by rw[eHf];exact ae
 have back:∀(k:Str)(t:Tok)(s':Shared),k∈ks->(∀k'∈ks,key k<=key k')->Inv X pins σ Hf s'->EP X pins σ Q (.str k t) s':=fun k t s' hk hb I'=>by
  rw[eHf] at I';exact⟨.str k,H,Inv.thaw I hd (fun _ z=>by cases z) (fun _ _ z=>by cases z) (fun _ z=>by cases z) (fun _ z=>by cases z) I',⟨t,rfl⟩,h1 k hk hb⟩
 refine kmk_tree PySem.F.kind_min PySem.F.plain_min PySem.F.entry_min (kmk_min_key _ _) ?_;show wpAny _ X.A.in1 (Builtin.Builtins.bindParams "min" ["key","default"] 0 ⟨[],[("key",.ref q)]⟩ >>= _) _ _ s;refine CT (wpAny_of_eq (show Builtin.Builtins.bindParams "min" ["key","default"] 0 ⟨[],[("key",.ref q)]⟩=pure [some (.ref q),none] from rfl) ?_);refine CT (CU ?_);refine CT (km hm ho hex hdd ?_);refine CT (wpAny_newList ?_ (zX _));rw[hname];have hll:d<s.heap.objs.size:=Dh ho;obtain⟨oi,eoi⟩:∃oi:Obj,oi={cls:=.type "dict_keyiterator",data:=.fields #[.ref d,.int 0 0,.int es.size 0,.int ep 0]}:=⟨_,rfl⟩
 rw[<- eoi];have hS:(s.heap.push oi).objs.size=s.heap.objs.size+1:=size_push' ..;have hlI:d≠s.heap.objs.size:=zJ hll;have hIS:s.heap.objs.size≠(s.heap.push oi).objs.size:=by rw[hS];exact zJ (Av _)
 refine CU ⟨plainId_quiet PySem.F.plain_min_loop _,?_⟩;have K0:∀b o,s.heap.get? b=some o->((s.heap.push oi).push (seqObj "list" #[] 0)).get? b=some o:=fun b x e=>Dw _ (Dw _ e);have gI:((s.heap.push oi).push (seqObj "list" #[] 0)).get? s.heap.objs.size=some oi:=Dw _ (Dx _ (by rw[eoi];rfl));have gS:((s.heap.push oi).push (seqObj "list" #[] 0)).get? (s.heap.push oi).objs.size=some (seqObj "list" #[] 0):=Dx _ rfl;have fI:Eo X pins Hf s.heap.objs.size:=If.GV _ (zE _);have fS:Eo X pins Hf (s.heap.push oi).objs.size:=If.GV _ (by rw[hS];exact AA _);have I0:Inv X pins σ Hf {s with heap:=(s.heap.push oi).push (seqObj "list" #[] 0)}:=If.kept (t':=s.toks) K0;have hit0:((s.heap.push oi).push (seqObj "list" #[] 0)).IsKeyIter s.heap.objs.size d 0 vs.length ep:=⟨oi,gI,by rw[eoi],by rw[eoi,<- hesz];rfl⟩
 have hd0:=K0 _ _ ho;generalize (s.heap.push oi).objs.size=S at *;generalize (s.heap.push oi).push (seqObj "list" #[] 0)=hh at *;have W:=Walks.dictKeys (knd:=aI X.prog X.w) (prog:=X.prog) (w:=X.w) (A:=X.A.in1) (I.ok.hd hc) s.heap.objs.size d hlI vs ep;refine codeAny_builtin PySem.F.entry_min_loop ?_;rw[Around.under_plainId PySem.F.plain_min_loop _];show wpAny _ X.A.in1 (seqItems? (.ref _) >>= _) _ _ _;refine CT (wpAny_seqItems gS rfl ?_);show wpAny _ X.A.in1 (tryCatch (pyNext (.ref s.heap.objs.size)) _ >>= _) _ _ _;have hlt:0<ks.length:=List.length_pos_iff.mpr hne;refine CT (wpAny_tryCatch (W.item 0 _ _ _ (by rw[hlen];exact hlt) ⟨hit0,hat _ hd0⟩ fun v h' tk' hP hst' hk'=>?_));obtain⟨k0,x0,hk0,hkv⟩:=hP;have ek:k0=Sum.inr ks[0]:=by
  have:=congrArg (fun l=>l[0]?) hvs;simp only[zW,hk0,zN hlt] at this;exact Di this
 subst ek;obtain⟨tv,rfl⟩:=mF hkv;have hmem:ks[0]∈ks:=An hlt;obtain⟨oI,hoI,hoc,hod⟩:=id hst'.1;have I1:Inv X pins σ Hf {s with heap:=h',toks:=tk'}:=fI.turn (s:={s with heap:=hh}) I0 fun b o hb e=>hk' b o (by simpa using hb) e;have hS':=hk' S _ (by simpa using Dv hIS) gS
 have IP:=I1.pinned (fp:=[s.heap.objs.size,S]) (fun b hb=>by
  rcases zU.mp hb with rfl|hb
  ·exact fI
  ·rw[zK.mp hb];exact fS) (fun b hb=>by
  rcases zU.mp hb with rfl|hb
  ·exact⟨oI,hoI,fun v e=>by rw[hod] at e;cases e⟩
  ·rw[zK.mp hb]; exact⟨_,hS',fun v e=>by cases e⟩)
 show wpAny _ X.A.in1 (tryCatch (holding [_] (call (.ref q) [_])) _ >>= _) _ _ _;refine CT (wpAny_tryCatch (Df (De (hKo _ _ _ tv IP hmem) (fun x s2 he=>?_) fun _ _ hF=>hF.elim)));obtain⟨_,_,I2,r2,rfl,rfl⟩:=he;obtain⟨tn,rfl⟩:=r2;have pin:∀b o,b∈[s.heap.objs.size,S]->h'.get? b=some o->s2.heap.get? b=some o:=fun b o hb e=>by
  have m:(b,o)∈cL [s.heap.objs.size,S] h':=Bk.mpr ⟨b,hb,by rw[e];rfl⟩;exact(I2.pin (b,o) (zI _ (zI _ m))).1
 have gI2:=pin _ oI (.head _) hoI;have gS2:=pin S _ (.tail _ (.head _)) hS';have I3:=I2.DX;have s1:=Heap.SameBut.update s2.heap S (Obj.mapSeq fun _=>#[.str ks[0] tv,.int (key ks[0]) tn]);obtain⟨c2,hc2⟩:∃c2,(s2.heap.update S (Obj.mapSeq fun _=>#[.str ks[0] tv,.int (key ks[0]) tn])).get? S=some (seqObj "list" #[.str ks[0] tv,.int (key ks[0]) tn] c2):=⟨_,get?_update_seq gS2 fun _=>#[.str ks[0] tv,.int (key ks[0]) tn]⟩
 show wpAny _ X.A.in1 (updateSeq S (fun _=>#[.str ks[0] tv,.int (key ks[0]) tn]) >>= _) _ _ _;refine CT ?_;refine wpAny_updateSeq gS2 rfl ?_;rw[hname]
 refine CU ⟨plainId_quiet PySem.F.plain_min_loop _,lQ (pins:=pins) (σ:=σ) hvs hDf hat hKo hc hIS hlI _ 1 _ _ tv tn c2 rfl hlt (fS.turn (t':=s2.toks) I3 fun b o hb e=>by rw[s1.2 b hb]; exact e) fI fS ⟨oI,(s1.2 _ hIS).trans gI2,hoc,hod⟩ hc2 hmem (fun k h=>?_)
  fun k t s' a1 a2 a3=>back k t s' a1 a2 a3⟩
 have e:ks.take 1=[ks[0]]:=by rw[Ak,zN hlt];rfl
 rw[e] at h;rw[zK.mp h];exact Bw _
def se (lpos:Pos)(q:Str)(P:Addr)(js:List Nat)(te:TE)(tl:TE):TE:=fun σ H Q=>tl σ H fun x H1=>Es lpos q P H1/\∃(d:Addr)(kvs:List (Key×V))(ks:List Str)(key:Str->Int),x=.ref d/\H1 d=some (.dK kvs)/\kvs.map (·.1)=ks.map Sum.inr/\ks≠[] /\
 (∀H2 o k,SmB P H1 H2->k∈ks->te ([some (.str k)]++bO js σ) (upd H2 d (.frz o (.dK kvs))) fun v H'=>v=.int (key k)/\H'=upd H2 d (.frz o (.dK kvs))) /\
 ∀k H2,k∈ks->(∀k'∈ks,key k<=key k')->SmB P H1 H2->Es lpos q P H2->Q (.str k) H2
theorem mX{X:Cx}{l body:Expr}{tl te:TE}{params:Arguments}{scope:Scope}{lpos kpos p pos:Pos}{c P:Addr}{q y:Str}{cap:List Str}{js:List Nat}(LK:JJ X.K X.mg c P)(hcode:X.env.code=.ref c)(hq:X.env.qual++"<lambda>"=q)(hd:defaultsOf params X.env=([],[]))(CS:aV X scope [y] cap js)
  (hy:scope.names.lookup y=some .local)(hco:scope.isCoroutine=false)(hge:scope.isGenerator=false)(hbind:∀cl pm cd ct u,bindArgs (W.kla_fn "<lambda>" q params body scope cl pm cd ct) ⟨[u],[]⟩=pure [(y,u)])
  (hc:X.calm=true)(hdp:X.A.depth<recursionLimit)(hb:∀f c s H,PE (qi X X.A.in1 scope q f (.ref c) ([y]++cap) s H) body te)(hg:Gl X "min")(hm:X.mg "min"=none)(hv:bootBuiltins "min"=some (.builtin "min"))(hl:PE X l tl)
  (hall:(backToKw pos (keywordEach [⟨some "key",.Lambda params body scope lpos,kpos⟩] X.env)).all (·.1.isSome)=true:=by rfl)(hks:(backToKw pos (keywordEach [⟨some "key",.Lambda params body scope lpos,kpos⟩] X.env)).filterMap (·.1)=(["key"]:List Str):=by rfl)
  (he:starEach [l] X.env=(false,eval l X.env)::starEach [] X.env:=by rfl)
  (hpl:((backTo pos (starEach [l] X.env)).any (·.1)||(backToKw pos (keywordEach [⟨some "key",.Lambda params body scope lpos,kpos⟩] X.env)).any (·.1.isNone))=false:=by rfl) :
  PE X (.Call (.Name "min" p) [l] [⟨some "key",.Lambda params body scope lpos,kpos⟩] pos) (se lpos q P js te tl):=by
 intro pins s σ H Q I h;refine wpAny_Call_Name_kw (dI I hg hm hv ?_ (by decide) (by decide));refine dy hpl ?_
 have hA:=(DI hl DZ he:PA X [l] (fD tl GI)) pos pins s σ H (fun vs H1=>match vs with
  |[x]=>Es lpos q P H1/\∃(d:Addr)(kvs:List (Key×V))(ks:List Str)(key:Str->Int),x=.ref d/\H1 d=some (.dK kvs)/\kvs.map (·.1)=ks.map Sum.inr/\ks≠[] /\
    (∀H2 o k,SmB P H1 H2->k∈ks->te ([some (.str k)]++bO js σ) (upd H2 d (.frz o (.dK kvs))) fun v H'=>v=.int (key k)/\H'=upd H2 d (.frz o (.dK kvs))) /\
    ∀k H2,k∈ks->(∀k'∈ks,key k<=key k')->SmB P H1 H2->Es lpos q P H2->Q (.str k) H2
  | _=>False) I h
 rw[he] at hA ⊢;refine evalArgs_kw hall (thn hA fun us s1 hq75=>?_);obtain⟨vs,H1,I1,r1,q1⟩:=hq75;obtain⟨x,rfl⟩:∃x,vs=[x]:=by
  match vs,q1 with
  |[x],_=>exact⟨x,rfl⟩
 obtain⟨hL,d,kvs,ks,key,rfl,hdk,hks',hne,hte,hfin⟩:=q1;have hdP:d≠P:=by
  obtain⟨ps,hP,_⟩:=hL.ex;exact cD hdk hP (fun z=>by cases z)
 have hkw:=(si (nm:=some "key") (kpos:=kpos) (uR (body:=body) (pos:=lpos) LK hcode hq hd CS) Jr) pos pins s1 σ H1 (fun zs H2=>∃a,zs=[.ref a]/\ur X σ a [.ref d] zs H2 Q) I1 (by
  refine⟨hL,fun a c' pm ct H' hn ha hcd hT hS=>⟨a,rfl,d,kvs,ks,key,rfl,rfl,hS d _ hdP hdk,hks',hne,fun o pins s k t I hk=>?_,fun k hk hmin=>hfin k H' hk hmin hS hT⟩⟩;have na:a≠d:=cD ha (hS d _ hdP hdk) (fun z=>by cases z);have nc:c'≠d:=cD hcd (hS d _ hdP hdk) (fun z=>by cases z)
  exact oW (A:=X.A.in1) (x:=.str k) I.ok.frames hdp I CS hy hco hge (by rw[aq na]; exact ha) (by rw[aq nc]; exact hcd) (hbind _ _ _ _ _) (hb _ _ _ _) ⟨t,rfl⟩ (hte H' o k hS hk))
 refine thn hkw fun ws s2 hq76=>?_;obtain⟨zs,H2,I2,rz,q2⟩:=hq76;obtain⟨a,_,q2⟩:=q2;rw[hks];exact mY hc I2 r1 rz q2
theorem Fun.okC{P:Program}{w:World}{K:W.Frag}{mg:Str->Option Value}{base:Heap}{x qual:Str}{st:Stmt}{f:Addr}{fd:FuncData}{N ps:List Str}{k:Nat}{sp:Sp}{c:Addr}(F:Fun K x qual st f fd)(hcode:fd.code=.ref c)(S:DN N ps (av st))(len:∀vs H Q E,sp vs H Q E->vs.length=ps.length)
  (hbody:∀(A:Around) (outer:List Env) (s:Shared) (H:Hp) (vs:List V) (Q:VK) (E:XK),ES k (A.deeper (envOfC qual (av st) s.heap.objs.size f (.ref c)))->sp vs H Q E ->
   ∃t,PSs (bX CX0 P w K mg base N qual (av st) f (.ref c) A outer s H E).nox (bI st) t/\t { nx:=fun _ H'=>Q .non H',rt:=Q } (start N vs) H):DS P w K mg base CX0 (k+1) f fd ps sp:=by
 obtain⟨oc,od,kV,doc,pm,an,cdv,ct,osl,rfl,lk,hcd⟩:=F.ex;have e:cdv=.ref c:=hcode;subst e;refine vh lk hcd S len fun A outer s H vs Q E hr hsp=>?_;obtain⟨t,h,q⟩:=hbody A outer s H vs Q E hr hsp;exact⟨t,h.nox,q⟩
end L2
namespace L2
open PySem PySem.Spec PyProof.Rows
def vd (T:Addr)(H:Hp):Prop:=∀b,b≠T->H b=none\/∃o xs,H b=some (.frz o (.lst xs))
theorem lP{P:Program}{T c0:Addr}{ps:Array Value}{w:World}{K:W.Frag}{mg mb:Str->Option Value}{CX:CXT}{k:Nat}{fa a:Addr}{fd:FuncData}{x:Str}{sp:Sp}{s₁:Shared}{vs:List Value}{ns:List Int}
  (gT:s₁.heap.get? T=some (W.tabObj ps))(kT:K.lookup T=none)(cT:W.CodeHd s₁.heap c0 T)
  (KX:K.In s₁.heap)(hns:s₁.heap.Ns mainGlobals mg)(hb:s₁.heap.Ns builtinsNs mb)(hbb:∀x:Str,x≠"__name__"->mb x=bootBuiltins x)(hlim:s₁.heap.NoLimit)(hg:s₁.gens=#[])
  (ha:s₁.heap.get? a=some {cls:=.type "list",data:=.seq vs.toArray})(hi:IntsAre vs ns)(hl:ns.length<=sizeLine)(hr:ES k callerA)
  (F:∀base:Heap,K.In base->base.Ns mainGlobals mg->DS P w K mg base CX k fa fd [x] sp)(hbind:∀(s:Shared)(u:Value),BindsTo s fd ⟨[u],[]⟩ [(x,u)])
  (hsp:∀H:Hp,H T=some (.tbl ps)->vd T H->SqL K H a (ns.map V.int)->sp [.ref a] H (fun v _=>v=.bl true) fun _ _ _=>False)
  (hCX:∀H e s',CX [] H s₁ (fun _ _ _=>False) e s'->False) :
  codeAny (model P w) callerA (.call (.ref fa) ⟨[.ref a],[]⟩) (fun r s'=>r=.ok (.ret (.bool true))/\OldK s₁.heap s'.heap/\s'.os=s₁.os/\AllBare s'.gens) s₁:=by
 have rv:=FC hi;have lenV:=hi.length;have aT:a≠T:=fun z=>by rw[z,gT] at ha;cases ha
 have core:∀H:Hp,H T=some (.tbl ps)->vd T H->SqL K H a (ns.map V.int)->HOk P w H s₁.heap->(∀b,H b≠none->b=a\/b=T)->(H a≠none->K.lookup a=none) ->
   codeAny (model P w) callerA (.call (.ref fa) ⟨[.ref a],[]⟩) (fun r s'=>r=.ok (.ret (.bool true))/\OldK s₁.heap s'.heap/\s'.os=s₁.os/\AllBare s'.gens) s₁:=by
  intro H hT hO hS hok hA hK;have base_of:∀{b:Addr}{o:Obj},s₁.heap.get? b=some o->H b=none->(qv s₁.heap H).get? b=some o:=fun e n=>pS e n;have noA:∀{b:Addr}{o:Obj}{es:Array DictEntry}{ep:Nat},s₁.heap.get? b=some o->o.data=.dict es ep->H b=none:=fun {b o es ep} e d=>by
   cases q:H b with
   |none=>rfl
   |some u=>
    rcases hA b (by rw[q];simp) with e'|e'
    ·subst e';rw[ha] at e;cases e;have d':Data.seq vs.toArray _=Data.dict es ep:=d;cases d'
    ·subst e';rw[gT] at e;cases e;have d':Data.fields ps=Data.dict es ep:=d;cases d'
  have nsK:∀{b:Addr}{m:Str->Option Value},s₁.heap.Ns b m->(qv s₁.heap H).Ns b m:=fun {b m} ⟨o,es,ep,e,d,r⟩=>⟨o,es,ep,base_of e (noA e d),d,r⟩
  have hKb:K.In (qv s₁.heap H):=fun b o e=>base_of (KX b o e) (by
   cases q:H b with
   |none=>rfl
   |some u=>
    rcases hA b (by rw[q];simp) with e'|e'
    ·subst e';rw[hK (by rw[q];simp)] at e;cases e
    ·subst e'
     rw[kT] at e; cases e)
  have hM:Mod K mg (qv s₁.heap H):=⟨hKb,nsK hns,⟨mb,nsK hb,hbb⟩,let ⟨mc,h1,h2⟩:=hlim;⟨mc,nsK h1,h2⟩⟩
  have e0:JF P w K mg (qv s₁.heap H) callerA [] s₁ H:=⟨rfl,hM,fun b o e=>sX e,Nat.le_of_eq (mR _ _),trivial,fun b hb=>absurd (show b∈([]:List Addr) from hb) (by simp),hok,.of_eq hg⟩
  refine codeAny_mono ((F _ hKb (nsK hns)).run callerA [] s₁ H ⟨[.ref a],[]⟩ [.ref a] [.ref a] _ _ hr e0 (hbind s₁ (.ref a)) (.cons rfl .nil) (hsp H hT hO hS)) fun r s' h=>?_;cases r with
  |error e=>exact(hCX H e s' h).elim
  |ok fl=>
   cases fl with
   |next=>exact False.elim h
   |brk=>exact False.elim h
   |cont=>exact False.elim h
   |ret u=>
    obtain⟨v,H',os,bare,un,hok',r',q⟩:=h;have q':v=.bl true:=q;subst q';obtain rfl:u=Value.bool true:=r';have key:∀b o,s₁.heap.get? b=some o->b≠T->s'.heap.get? b=some o:=fun b o e nT=>by
     cases q:H b with
     |none=>exact un.keep b o e q (by intro z;exact absurd (show b∈([]:List Addr) from z) (by simp)) (by simp)
     |some u=>
      rcases hO b nT with z|⟨ob,xs,z⟩
      ·rw[q] at z;cases z
      ·have z2:=un.GA b ob _ z;obtain⟨e1,_⟩:=hok b _ z;obtain⟨e2,_⟩:=hok' b _ z2;rw[e] at e1;cases e1;exact e2
    obtain⟨more,zT⟩:=un.GF T ps hT;have gT':s'.heap.get? T=some {cls:=.none,data:=.fields (ps++more)}:=hok' T _ zT;obtain⟨oc,vc,_,_,_,_,_,_,_,c1,c2,c3,c4,_⟩:=cT;refine⟨rfl,⟨fun b o e=>?_,fun b o e=>?_⟩,os,bare⟩
    ·by_cases nT:b=T
     ·subst nT;rw[gT] at e;cases e;exact .inr (.inl ⟨⟨c0,oc,vc,c1,c2,c3,c4⟩,rfl,ps,more,rfl,gT'⟩)
     ·exact .inl (key b o e nT)
    ·by_cases nT:b=T
     ·subst nT;exact⟨_,gT'⟩
     ·exact⟨o,key b o e nT⟩
 cases hk:K.lookup a with
 |some o=>
  have e:=KX a o hk;rw[ha] at e;cases e;refine core (fun b=>if b=T then some (.tbl ps) else none) (CZ rfl) (fun b nb=>.inl (CY nb)) (.inr ⟨_,vs.toArray,_,hk,rfl,rfl,rfl,by rw[zY,lenV];exact hl,by simpa using rv⟩) (fun b u z=>?_) (fun b z=>?_) fun z=>absurd (CY aT) z
  ·by_cases hb:b=T
   ·have z':=(CZ hb).symm.trans z;cases z';subst hb;exact gT
   ·have z':=(CY hb).symm.trans z;cases z'
  ·by_cases hb:b=T
   ·exact .inr hb
   ·exact absurd (CY hb) z
 |none=>
  refine core (fun b=>if b=T then some (.tbl ps) else if b=a then some (.frz {cls:=.type "list",data:=.seq vs.toArray} (.lst (ns.map V.int))) else none) (CZ rfl) (fun b nb=>?_) (.inl (.inr ⟨{cls:=.type "list",data:=.seq vs.toArray},(CY aT).trans (CZ rfl)⟩)) (fun b u z=>?_) (fun b z=>?_) fun _=>hk
  ·by_cases hb:b=a
   ·exact .inr ⟨_,_,(CY nb).trans (CZ hb)⟩
   ·exact .inl ((CY nb).trans (CY hb))
  ·by_cases hT:b=T
   ·have z':=(CZ hT).symm.trans z;cases z';subst hT;exact gT
   ·by_cases hb:b=a
    ·have z':=((CY hT).trans (CZ hb)).symm.trans z;cases z';subst hb;exact⟨ha,by rw[zF];exact hl,vs,_,rv,ha⟩
    ·have z':=((CY hT).trans (CY hb)).symm.trans z;cases z'
  ·by_cases hT:b=T
   ·exact .inr hT
   ·by_cases hb:b=a
    ·exact .inl hb
    ·exact absurd ((CY hT).trans (CY hb)) z
theorem HM{l:W.OpenLaw}{n k:Nat}{q:Program}{loose:List Str}{XP:(Str->Option Value)->Heap->Prop}{YP:World->Heap->Prop}{d:DefRec}{K KF:Params->W.Frag}{CX:World->CXT}{sp:World->Sp}{x:Str}{T c0:Addr}{ps:Array Value}
  (hn:l.most=some n)(hn2:n<=sizeLine)(hdf:d.params.defaults=[])(hr:ES k callerA)
  (hY:∀(w:World)(h:Heap),YP w h->(KF w.params).In h)(hKF:∀(p:Params)(h:Heap),(KF p).In h->(K p).In h/\h.get? T=some (W.tabObj ps)/\W.CodeHd h c0 T)(kT:∀p:Params,(K p).lookup T=none)
  (F:∀(w:World) (mg:Str->Option Value) (fa:Addr) (h:Heap),(K w.params).In h->h.Ns mainGlobals mg->mg d.name=some (.ref fa) ->
   ∃fd:FuncData,(∀(s:Shared)(u:Value),BindsTo s fd ⟨[u],[]⟩ [(x,u)]) /\
    ∀base:Heap,(K w.params).In base->base.Ns mainGlobals mg->DS l.prog w (K w.params) mg base (CX w) k fa fd [x] (sp w))
  (hsp:∀(w:World)(H:Hp)(a:Addr)(ns:List Int),ns.length<=n->H T=some (.tbl ps)->SqL (K w.params) H a (ns.map V.int)->sp w [.ref a] H (fun v _=>v=.bl true) fun _ _ _=>False)
  (hCX:∀(w:World)(H:Hp)(s:Shared)(e:Value)(s':Shared),CX w [] H s (fun _ _ _=>False) e s'->False) :
  W.WalkO q loose XP YP l.row.toRowW d [] (fun f vs=>PySem.call f vs):=by
 refine Att.FV hn hdf fun w s₀ s₁ mg mb fa o pm cd doc a vs ns G Y ho hd hcd hmg hobj hints hlen hg=>?_;obtain⟨KX,gT,cT⟩:=hKF _ _ (hY w _ Y);obtain⟨fd,hb,hF⟩:=F w mg fa _ KX G.T.g hmg;exact lP gT (kT _) cT KX G.T.g G.T.b G.T.builtins G.T.nolimit hg hobj hints (zO hlen hn2) hr hF hb (fun H hT hO hS=>hsp w H a ns hlen hT hS) fun H e s'=>hCX w H s₁ e s'
section
variable {X:Cx}{scope:Scope}{ts cap:List Str}{js:List Nat}{tg0 tg1 elt iter0 iter1:Expr}{ifs0 ifs1:List Expr}{pos:Pos}
theorem qu{wi:TI}{g:TG}{tc:TT}{wi1:TI}{g1:TG}{tc1:TT}{te:TE}{i:Nat}{y:Str}{py spos:Pos}(hc:X.calm=true)(CS:aV X scope ts cap js)(hi:PI X tg0 iter0 wi)(hg:∀C fp s H,PG (aA X scope C fp (ts++cap) s H) tg0 g)
  (ht:∀C fp s H,PTs (aA X scope C fp (ts++cap) s H) ifs0 tc)(hi1:∀C fp s H,PI (aA X scope C fp (ts++cap) s H) tg1 iter1 wi1)
  (hg1:∀C fp s H,PG (aA X scope C fp (ts++cap) s H) tg1 g1)(ht1:∀C fp s H,PTs (aA X scope C fp (ts++cap) s H) ifs1 tc1)(he:∀C fp s H,PE (aA X scope C fp (ts++cap) s H) elt te)
  (hN:X.N.Nodup)(hy:X.N[i]?=some y)(hx:Loc X.env.scope y)(hsw:swapsWith (.ListComp elt [⟨tg0,iter0,ifs0,0⟩,⟨tg1,iter1,ifs1,0⟩] scope pos) (some (.Name y py)) spos.line X.env=pure true)
  (hs1:∀C x,foldedSetIterable iter1 (compEnvC scope (cj X.env.cells scope.names []) C X.env) x=pure x:=by intro _ _;rfl)
  (hs:∀x,foldedSetIterable iter0 X.env x=pure x:=by intro _;rfl)(hf:X.fn y=true\/X.env.scope.names.lookup y=some .local:=by first|exact .inl rfl|exact .inr rfl|assumption) :
  PS X (.Assign [.Name y py] (.ListComp elt [⟨tg0,iter0,ifs0,0⟩,⟨tg1,iter1,ifs1,0⟩] scope pos) spos) (tM (qL wi ts.length js g tc wi1 g1 tc1 te) i):=by
 intro pins s σ H D I h;rw[exec_Assign_Name_used _ _ _ _ hsw];refine CT (wpAny_standAt (CT ?_));show wpAny _ X.A (do let _ <- comprehension (.ListComp elt [⟨tg0,iter0,ifs0,0⟩,⟨tg1,iter1,ifs1,0⟩] scope pos) scope X.env _ (newList []) false (eval iter0 X.env) (some (assign (.Name y py) X.env))) _ _ s
 refine CT (De (wpAny_comprehension_free (use:=some (assign (.Name y py) X.env)) (Q:=fun _ s'=>SP X pins D .next s') rfl hs (bu (CS.cells I.ok)) CS.kind CS.names
  (thn (hi pins s σ H _ I h) fun v s1 h1=>thn h1 fun itv s2 h2=>?_)) (fun _ s' hq=>CU (CU hq)) fun _ _ e=>e)
 obtain⟨it,fp,tn,J,H2,e,I2,T,st2,f2,W,⟨m0,w0⟩,turn⟩:=h2;subst e;refine fo (RR:=fun acc C=>compPost (model X.prog X.w) X.A X.xe (some (assign (.Name y py) X.env)) (fun _ s'=>SP X pins D .next s') acc C) hc I2 T st2 f2 CS hg ht hi1 hg1 ht1 he hs1 w0 turn ?_;intro D' C s' H' ys m I' hn hC hD hCD hHC hHD fin;have szL:=I2.lt;have low:∀b o,s2.heap.get? b=some o->b≠C:=fun b o e=>zJ (zP (Dh e) hC);have hCL:X.env.locals≠C:=zJ (zP szL hC);have hcell:∀x c,X.env.cells.lookup x=some c->c≠C:=fun x c e=>by
  obtain⟨v,o,ho,_⟩:=I2.cell x c e;exact low c o ho
 show wpAny _ X.A (assign (.Name y py) X.env (.ref D')) _ _ _;refine wpAny_assign_Name (ft (v:=.ref D') I' hN hy hx rfl (fun s'' I'' hch=>?_) hf);obtain⟨a,hsb,ha⟩:=hch;have hCa:C≠a:=by
  rcases ha with z|z
  ·rw[z];exact Dv hCL
  ·exact Dv (hcell _ _ z)
 refine⟨m,hn.sameBut hsb hCa,fun h' hs'=>⟨_,_,cG (n0:=0) I'' (Heap.get?_none_of_le (zO I2.sz hC)) hCL hcell (fun p hp=>low _ _ (I2.pin p hp).1) (by rw[aq hCD];exact hHC) hs',fin D' hHD⟩⟩
end
def tMid (t:TS):TS:=fun D σ H=>∃M:St->Hp->Prop,t {D with nx:=M} σ H/\∀σ' H',M σ' H'->D.nx σ' H'
theorem mH{X:Cx}{st:Stmt}{t:TS}(h:PS X st t):PS X st (tMid t):=by
 intro pins s σ H D I hw;obtain⟨M,h1,h2⟩:=hw;refine De (h pins s σ H {D with nx:=M} I h1) (fun fl s' hs=>?_) fun _ _ e=>e;cases fl with
 |next=>
  obtain⟨σ',H',J,q⟩:=hs;exact⟨σ',H',J,h2 σ' H' q⟩
 |ret u=>exact hs
 |brk=>exact hs
 |cont=>exact hs
def wz (t:TE):TE:=fun σ H Q=>∃M:VK,t σ H M/\∀v H',M v H'->Q v H'
theorem ku{X:Cx}{e:Expr}{t:TE}(h:PE X e t):PE X e (wz t):=by
 intro pins s σ H Q I hw;obtain⟨M,h1,h2⟩:=hw;refine De (h pins s σ H M I h1) (fun v s' hq77=>?_) fun _ _ e=>e;obtain⟨x,H',J,r,q⟩:=hq77;exact⟨x,H',J,r,h2 x H' q⟩
def ddS:List Str->List Str
 |[]=>[]
 |x::r=>if x∈ddS r then ddS r else x::ddS r
theorem EG{x:Str}:∀{l:List Str},x∈ddS l↔x∈l
 |[]=>Iff.rfl
 |y::r=>by
  unfold ddS;split
  ·rename_i h;rw[EG,zU];exact⟨.inr,fun z=>z.elim (fun e=>by rw[e];exact EG.mp h) id⟩
  ·rw[zU,zU,EG]
theorem GQ:∀l:List Str,(ddS l).Nodup
 |[]=>.nil
 |y::r=>by
  unfold ddS;split
  ·exact GQ r
  ·rename_i h;exact Bm.mpr ⟨h,GQ r⟩
theorem FW:∀l:List Str,(ddS l).length<=l.length
 |[]=>zE _
 |y::r=>by
  unfold ddS;have:=FW r;split
  ·exact AS this
  ·exact Dz this
theorem jx(t:SetTable)(n:Nat):(t.orStandIn n).led=t.led/\((t.orStandIn n).plain=t.plain\/(t.orStandIn n).plain=false):=by
 unfold SetTable.orStandIn;split
 ·exact⟨rfl,.inl rfl⟩
 ·exact⟨rfl,.inr rfl⟩
theorem lp(t:SetTable)(es:Array (Int×Value))(h:Int)(x:Value):(layNew t es h x).2.1.led=t.led:=by
 unfold layNew;split
 ·exact(jx _ _).1
 ·rfl
theorem pX{mask finger moves:Nat}{led plain:Bool}{hashes:Array Int}{r:SetTable×Array Nat}(h:SetTable.laid mask finger moves led plain hashes=some r):r.1.led=led/\r.1.plain=plain:=by
 unfold SetTable.laid at h;simp only[Option.bind_eq_bind,Option.pure_def,Option.bind_eq_some_iff] at h;obtain⟨_,_,h⟩:=h;cases h;exact⟨rfl,rfl⟩
theorem nZ(t:SetTable)(es:Array (Int×Value))(n:Nat):(relayAll t es n).2.1.led=t.led/\(t.plain=false->(relayAll t es n).2.1.plain=false):=by
 unfold relayAll;split
 ·rename_i t' order h;obtain⟨h1,h2⟩:=pX h;dsimp only;split
  ·exact⟨h1,fun z=>h2.trans z⟩
  ·exact⟨rfl,fun _=>rfl⟩
 ·exact⟨rfl,fun _=>rfl⟩
def FR (P:Program)(w:World)(L:Bool)(o:Obj)(ys:List Str):Prop:=o.ExactSet/\∃es ep t,o.data=.set es ep t/\ElemsOf (strKind P w) es.toList/\(es.toList.map fun e=>strOf e.2).Perm (ddS ys)/\t.fits es.size=true/\t.led=L/\(0<es.size->t.plain=false)
theorem FR.fresh(P:Program)(w:World)(L:Bool):FR P w L {cls:=.type "set",dict:=none,data:=.set #[] 0 (.fresh 0 0 L)} []:=
 ⟨⟨rfl,rfl,rfl⟩,#[],0,_,rfl,fun e he=>by simp at he,.refl _,by rfl,rfl,fun h=>absurd h (Ai _)⟩
section
variable {prog:Program}{w:World}{A:Around}{E:Value->Shared->Prop}{s:Shared}{a:Addr}{o:Obj}{L:Bool}{ys:List Str}{z:Str}{tz:Tok}
theorem rd{e:Int×Value}{l:List (Int×Value)}(h:ElemsOf (strKind prog w) l)(he:e∈l):∃x t,e.2=.str x t:=by
 obtain⟨k,hk⟩:=h.keys e he;obtain⟨t,ht⟩:=Value.isStrOf_shape hk;exact⟨k,t,ht⟩
theorem isz(x y:Str)(t:Tok):Value.isStrOf x (.str y t)=decide (x=y):=by
 cases h:Value.isStrOf x (.str y t) with
 |true=>
  obtain⟨u,e⟩:=Value.isStrOf_shape h;cases e;exact(Dc rfl).symm
 |false=>
  refine(Dd fun e=>?_).symm;subst e;have:Value.isStrOf x (.str x t)=true:=Dc rfl;rw[this] at h;cases h
theorem vw{g:Bool->Sem Unit}(hg:∀(b:Bool)(s₁:Shared)(Q':Unit->Shared->Prop),Q' () s₁->wpAny (model prog w) A (g b) Q' E s₁){es:Array (Int×Value)}{ep:Nat}{t:SetTable}(ho:s.heap.get? a=some o)(hex:o.ExactSet)(hd:o.data=.set es ep t)
  {es1:Array (Int×Value)}{t2:SetTable}(hel1:ElemsOf (strKind prog w) es1.toList)(hp1:(es1.toList.map fun e=>strOf e.2).Perm (ddS ys))(hb1:es1.size<scanBound)(hf2:t2.fits es1.size=true)(hl2:t2.led=L)(hpl2:t2.plain=false){wasDummy:Bool}{R:Option Bool->Shared->Prop}
  (h:∀h' o',Heap.SameBut a s.heap h'->h'.get? a=some o'->FR prog w L o' ys->R (some true) {s with heap:=h'}) :
  wpAny (model prog w) A (storeSet a es1 t2 >>= fun _=>if (!wasDummy&&t2.tooFull)=true then g (relayAll t2 es1 (SetTable.grown es1.size)).2.2 >>= fun _=>storeSet a (relayAll t2 es1 (SetTable.grown es1.size)).1 (relayAll t2 es1 (SetTable.grown es1.size)).2.1 >>= fun _=>pure (some true) else pure (some true)) R E s:=by
 have at1:∀(h0:Heap)(o0:Obj)(es0:Array (Int×Value))(ep0:Nat)(t0:SetTable)(es':Array (Int×Value))(t':SetTable),h0.get? a=some o0->o0.data=.set es0 ep0 t0->(h0.update a (Obj.putSet es' t')).get? a=some {o0 with data:=.set es' (ep0+1) t'}:=fun h0 o0 es0 ep0 t0 es' t' h1 h2=>by
  have:=Heap.get?_update_self (Obj.putSet es' t') h1 (by rw[putSet_of es' t' h2];rfl);rw[putSet_of es' t' h2] at this;exact this
 refine CT (wpAny_storeSet_of ho hd ?_ (fits_of_scanBound hb1));have g1:=at1 _ _ _ _ _ es1 t2 ho hd;have b1:=Heap.SameBut.update s.heap a (Obj.putSet es1 t2);split
 ·have hp:=relayAll_perm t2 es1 (SetTable.grown es1.size);have hfr:=relayAll_fits t2 es1 (SetTable.grown es1.size);obtain⟨hlr,hpr⟩:=nZ t2 es1 (SetTable.grown es1.size);generalize relayAll t2 es1 (SetTable.grown es1.size)=Rl at hp hfr hlr hpr ⊢;obtain⟨es2,t3,gave2⟩:=Rl;dsimp only at hp hfr hlr hpr ⊢;have hsz:es2.size=es1.size:=by rw[<- zR,hp.length_eq,zR]
  refine CT (hg _ _ _ (CT (wpAny_storeSet_of g1 rfl ?_ (fits_of_scanBound (by rw[hsz];exact hb1)))));refine CU (h _ _ (b1.trans (Heap.SameBut.update _ a _)) (at1 _ _ _ _ _ es2 t3 g1 rfl) ⟨hex,es2,_,t3,rfl,hel1.perm hp,(hp.map _).trans hp1,hfr,hlr.trans hl2,fun _=>hpr hpl2⟩)
 ·exact CU (h _ _ b1 g1 ⟨hex,es1,_,t2,rfl,hel1,hp1,hf2,hl2,fun _=>hpl2⟩)
def eU (w:World):Bool:=!w.params.followText "set-order"
end
section
variable {X:Cx}{scope:Scope}{ts cap:List Str}{js:List Nat}{tg elt iter:Expr}{ifs:List Expr}{pos:Pos}{wi:TI}{g:TG}{tc:TT}{te:TE}
abbrev GL:=St->Hp->(List Str->Hp->Prop)->Prop
def uZ (X:Cx)(e:Expr)(t:GL):Prop:=
 ∀(pins:List (Addr×Obj))(s:Shared)(σ:St)(H:Hp)(Q:List Str->Hp->Prop),Inv X pins σ H s->t σ H Q ->
  (wq X) (eval e X.env) (fun v s'=>∃D o ys H',v=.ref D/\Inv X pins σ H' s'/\s'.heap.get? D=some o/\FR X.prog X.w (eU X.w) o ys/\(ddS ys).length<scanBound/\Q ys H') X.xe s
end
theorem Em:Slot "set_iterator" "__next__" "set_iterator.__next__":=.of (owner:="set_iterator") (n:="__next__") (by rw[typeLookup_type,builtinLookup_eq_fast];kernel_rfl) (by decide +kernel) (by decide +kernel) (by decide +kernel) (by first|exact .inl (by decide +kernel)|exact .inr (by decide +kernel)) (by rw[isSubtype_type];kernel_rfl)
theorem EO:entryFor table "set_iterator.__next__"=some Builtin.«set_iterator.__next__»:=entryFor_of_tree (by kernel_rfl)
theorem FZ:entryFor table "set.__iter__"=some Builtin.«frozenset.__iter__»:=entryFor_alias (id':="frozenset.__iter__") (by kernel_rfl) rfl (by decide +kernel) (by kernel_rfl)
theorem gN(a:Value):argsOk "set_iterator.__next__" ⟨[a],[]⟩:=by unfold argsOk;kernel_rfl
abbrev siO(first:Value)(i:Nat)(D:Addr)(n ep:Nat):Obj:={cls:=.type "set_iterator",data:=.fields #[first,rawInt i,.ref D,rawInt n,rawInt ep]}
section
variable {prog:Program}{w:World}{A:Around}{E:Value->Shared->Prop}{s:Shared}{a:Addr}{o:Obj}{ys:List Str}
theorem eI{α:Type}:∀(l:List α)(i:Nat)(h:i<l.length),(l[i]::l.eraseIdx i).Perm l
 |x::xs,0,_=>.refl _
 |x::xs,i+1,h=>(List.Perm.swap x (xs[i]'(Nat.lt_of_succ_lt_succ h)) (xs.eraseIdx i)).trans ((eI xs i (Nat.lt_of_succ_lt_succ h)).cons x)
theorem lK{M:Model}{src:Source}{n:Nat}{Q:Nat->Shared->Prop}(hn:n≠0)(h:∀i d,i<n->Q i {s with drawn:=d}):wpAny M A (choose src n) Q E s:=fun Γ p _=>⟨hn,h _ _ (Nat.mod_lt _ (Nat.pos_of_ne_zero hn))⟩
theorem fY{α:Type}:∀(n:Nat)(xs:List α)(s:Shared)(Q:List α->Shared->Prop),xs.length=n->(∀ys d,ys.Perm xs->Q ys {s with drawn:=d})->wpAny (model prog w) A (drawOrder n xs) Q E s
 |0,xs,s,Q,hl,h=>by
  rw[Az.mp hl];have:=h [] s.drawn (by rw[Az.mp hl]);exact CU this
 |n+1,[],s,Q,hl,h=>by cases hl
 |n+1,x::xs,s,Q,hl,h=>by
  show wpAny _ _ (choose .order (x::xs).length >>= _) _ _ _;refine CT (lK (by simp) fun i d hi=>?_);rw[zN hi];refine CT (fY n ((x::xs).eraseIdx i) _ _ (by rw[CB hi,hl];rfl) fun ys d' hy=>?_);refine CU (h _ _ ?_);exact(hy.cons _).trans (eI _ i hi)
theorem qa{es:Array (Int×Value)}{ep:Nat}{t:SetTable}{Q:Value->Shared->Prop}(ho:s.heap.get? a=some o)(hex:o.ExactSet)(hd:o.data=.set es ep t)(hf:t.fits es.size=true)(hz:es.size<=sizeLine)
  (hA:(w.params.followText "set-order"=true\/t.plain=true\/es.size<=1)->Q (.ref s.heap.objs.size) {s with heap:=s.heap.push (siO (rawInt 0) 0 a es.size ep)})
  (hB:w.params.followText "set-order"=false->t.plain=false->1<es.size->∀(ps:List Nat) d,ps.Perm (List.range es.size)->Q (.ref (s.heap.objs.size+1)) {s with heap:=(s.heap.push (seqObj "tuple" (ps.map fun i=>rawInt (i:Nat)).toArray 0)).push (siO (.ref s.heap.objs.size) 0 a es.size ep),drawn:=d}) :
  wpAny (model prog w) A (pyIter (.ref a)) Q E s:=by
 have hT:s.TypeIs (.ref a) "set":=⟨o,ho,hex.1⟩
 refine wpAny_pyIter_slot hT F.slot_set_iter (DC F.slot_set_iter hT FZ ?_ (F.args_set_iter_1 _));unfold Builtin.«frozenset.__iter__» Builtin.Frozenset.slot0 Builtin.Frozenset.sizeOf Builtin.Frozenset.addrOf setDrawn setEpoch setEntries setsByText;refine CT (CT (CU (CU ?_)));refine CT (CT (CT (Du ho hd hf (CU (CU ?_)))));refine CT (CT (Du ho hd hf (CT (CT (wpAny_askSetting (CU (CU ?_)))))));dsimp only;split
 ·rename_i hc;have h2:(!w.params.followText "set-order" && (!t.plain&&decide (es.size>1)))=true:=hc;rw[Au,Au,decide_eq_true_eq] at h2;obtain⟨h3,h4,h5⟩:=h2;refine CT (fY _ _ _ _ Br fun ps d hp=>?_);refine CT (wpAny_newTuple ?_ (by rw[zF,hp.length_eq,Br];exact hz));refine CT (CT (Du (Dw _ ho) hd hf (CU ?_)));refine CT (wpAny_newObj_type (CU ⟨_,rfl,"set_iterator",_,⟨_,Dx _ rfl,rfl⟩,Em.lookup,?_⟩));have:=hB (by cases q:w.params.followText "set-order" with|false=>rfl|true=>rw[q] at h3;cases h3) (by cases q:t.plain with|false=>rfl|true=>rw[q] at h4;cases h4) h5 ps d hp;rw[show s.heap.objs.size+1=(s.heap.push (seqObj "tuple" (ps.map fun i=>rawInt (i:Nat)).toArray 0)).objs.size by rw[DE]] at this;exact this
 ·rename_i hc;have h2:¬(!w.params.followText "set-order" && (!t.plain&&decide (es.size>1)))=true:=hc;refine CT (CU (CT (CT (Du ho hd hf (CU ?_)))));refine CT (wpAny_newObj_type (CU ⟨_,rfl,"set_iterator",_,⟨_,Dx _ rfl,rfl⟩,Em.lookup,hA ?_⟩));by_cases h3:w.params.followText "set-order"=true
  ·exact .inl h3
  ·by_cases h4:t.plain=true
   ·exact .inr (.inl h4)
   ·refine .inr (.inr (Co fun h5=>h2 ?_));rw[BJ.mpr h3,BJ.mpr h4,Dc h5];rfl
theorem kP{I D Pl:Addr}{ps:List Nat}{i p n ep:Nat}{es:Array (Int×Value)}{t:SetTable}{e:Int×Value}{Q:Option Value->Shared->Prop}(hI:s.heap.get? I=some (siO (.ref Pl) i D n ep))(hP:s.heap.get? Pl=some (seqObj "tuple" (ps.map fun i=>rawInt (i:Nat)).toArray 0))(ho:s.heap.get? D=some o)(hd:o.data=.set es ep t)(hf:t.fits es.size=true)(hn:es.size=n)(hi:ps[i]?=some p)(he:es[p]?=some e)
  (hQ:∀h',Heap.SameBut I s.heap h'->h'.get? I=some (siO (.ref Pl) (i+1) D n ep)->Q (some e.2) {s with heap:=h'}):wpAny (model prog w) A (pyNext (.ref I)) Q E s:=by
 have hT:s.TypeIs (.ref I) "set_iterator":=⟨_,hI,rfl⟩
 unfold pyNext;refine CT (DB (wpAny_callSpecial?_slot (name:=Str.ofString "__next__") hT Em (DC Em hT EO ?_ (gN _))));unfold Builtin.«set_iterator.__next__» setEntries;refine CT (CU ?_);refine CT (wpAny_fieldsOf hI rfl ?_);refine CT (CT (Du ho hd hf (CU ?_)));dsimp only;rw[CY (by rw[hn];simp)];have hpl:(ps.map fun i=>rawInt (i:Nat)).toArray[((i:Nat):Int).toNat]?=some (rawInt (p:Nat)):=by rw[Am,AZ,zW,hi];rfl
 refine CT (wpAny_seqItems hP rfl ?_);dsimp only;rw[hpl];show wpAny _ _ (setNextDrawn D ((p:Nat):Int).toNat ((ep:Nat):Int).toNat >>= _) _ _ _;rw[Am,Am];unfold setNextDrawn;refine CT (CT (Du ho hd hf ?_));dsimp only;rw[CY (by simp),he];refine CU ?_;refine CT (wpAny_setField hI rfl (by simp) ?_);refine CU ⟨_,rfl,CU (hQ _ (Heap.SameBut.update ..) ?_)⟩;exact Heap.get?_update_self (Obj.mapFields (·.setIfInBounds 1 (rawInt ((i:Nat)+1)))) hI rfl
theorem iT{F:PySem.Fin->Shared->Prop}{Q:Option Value->Shared->Prop}(hh:A.handled=none)(hQ:∀h',(∀b u,s.heap.get? b=some u->h'.get? b=some u)->Q none {s with heap:=h'}) :
  wpAny (model prog w) A.in1 (newExc (.type "StopIteration") [] >>= fun e=>raiseNew e) F (fun e s'=>wpAny (model prog w) A (isInstance e (.type "StopIteration") >>= fun b=>if b=true then pure none else throw e) Q E s') s:=by
 refine CT ?_;simp only[newExc,newTuple];refine CT (wpAny_newObj_type (CT (m:=firstArgMember _ _) (wpAny_of_eq (a:=Value.none) (by first|rfl|(simp only[firstArgMember];rfl)) (wpAny_newObj_type ?_ (by size_fits)))) (by size_fits));simp only[raiseNew];refine CT (wpAny_handled ?_);rw[show A.in1.handled=none from hh];refine CT (CU (wpAny_throw ?_));refine CT (wpAny_isInstance (T:="StopIteration") (b:=true) ⟨_,Dx _ rfl,rfl⟩ isSubtype_stop (CU (hQ _ fun b u e=>?_)));exact Dw _ (Dw _ e)
theorem oj{I D Pl:Addr}{ps:List Nat}{i n ep:Nat}{es:Array (Int×Value)}{t:SetTable}{Q:Option Value->Shared->Prop}(hh:A.handled=none)(hI:s.heap.get? I=some (siO (.ref Pl) i D n ep))(hP:s.heap.get? Pl=some (seqObj "tuple" (ps.map fun i=>rawInt (i:Nat)).toArray 0))(ho:s.heap.get? D=some o)(hd:o.data=.set es ep t)(hf:t.fits es.size=true)(hn:es.size=n)(hi:ps[i]?=none)
  (hQ:∀h',(∀b u,b≠I->s.heap.get? b=some u->h'.get? b=some u)->Q none {s with heap:=h'}):wpAny (model prog w) A (pyNext (.ref I)) Q E s:=by
 have hT:s.TypeIs (.ref I) "set_iterator":=⟨_,hI,rfl⟩
 unfold pyNext;refine CT (DB (wpAny_callSpecial?_slot (name:=Str.ofString "__next__") hT Em (DC Em hT EO ?_ (gN _))));unfold Builtin.«set_iterator.__next__» setEntries;refine CT (CU ?_);refine CT (wpAny_fieldsOf hI rfl ?_);refine CT (CT (Du ho hd hf (CU ?_)));dsimp only;rw[CY (by rw[hn];simp)];have hpl:(ps.map fun i=>rawInt (i:Nat)).toArray[((i:Nat):Int).toNat]?=none:=by rw[Am,AZ,zW,hi];rfl
 refine CT (wpAny_seqItems hP rfl ?_);dsimp only;rw[hpl];dsimp only;refine CT (wpAny_setField hI rfl (by simp) ?_);have h1:=Heap.get?_update_self (Obj.mapFields (·.setIfInBounds 0 (rawInt 0))) hI rfl;refine CT (wpAny_setField h1 rfl (by simp) ?_);refine iT hh fun h' hk=>?_;refine hQ h' fun b u nb e=>hk b u ?_;exact(Heap.SameBut.update _ I _).extBut b u nb ((Heap.SameBut.update _ I _).extBut b u nb e)
theorem iy{I D:Addr}{i n ep slot nxt:Nat}{x:Value}{es:Array (Int×Value)}{t:SetTable}{Q:Option Value->Shared->Prop}(hI:s.heap.get? I=some (siO (rawInt (slot:Nat)) i D n ep))(ho:s.heap.get? D=some o)(hd:o.data=.set es ep t)(hf:t.fits es.size=true)(hn:es.size=n)
  (hx:∀(B:Around)(E':Value->Shared->Prop)(Q':Option (Value×Nat)->Shared->Prop),Q' (some (x,nxt)) s->wpAny (model prog w) B (setNext D slot i ep) Q' E' s)
  (hQ:∀h',Heap.SameBut I s.heap h'->h'.get? I=some (siO (rawInt (nxt:Nat)) (i+1) D n ep)->Q (some x) {s with heap:=h'}):wpAny (model prog w) A (pyNext (.ref I)) Q E s:=by
 have hT:s.TypeIs (.ref I) "set_iterator":=⟨_,hI,rfl⟩
 unfold pyNext;refine CT (DB (wpAny_callSpecial?_slot (name:=Str.ofString "__next__") hT Em (DC Em hT EO ?_ (gN _))));unfold Builtin.«set_iterator.__next__» setEntries;refine CT (CU ?_);refine CT (wpAny_fieldsOf hI rfl ?_);refine CT (CT (Du ho hd hf (CU ?_)));dsimp only;rw[CY (by rw[hn];simp)];show wpAny _ _ (setNext D ((slot:Nat):Int).toNat ((i:Nat):Int).toNat ((ep:Nat):Int).toNat >>= _) _ _ _;rw[Am,Am,Am];refine CT (hx _ _ _ ?_);dsimp only;refine CT (wpAny_setField hI rfl (by simp) ?_);have h1:=Heap.get?_update_self (Obj.mapFields (·.setIfInBounds 0 (rawInt (nxt:Nat)))) hI rfl;refine CT (wpAny_setField h1 rfl (by simp) ?_);refine CU ⟨_,rfl,CU (hQ _ ((Heap.SameBut.update ..).trans (Heap.SameBut.update ..)) ?_)⟩;exact Heap.get?_update_self (Obj.mapFields (·.setIfInBounds 1 (rawInt ((i:Nat)+1)))) h1 rfl
theorem ke{I D:Addr}{i n ep slot:Nat}{es:Array (Int×Value)}{t:SetTable}{Q:Option Value->Shared->Prop}(hh:A.handled=none)(hI:s.heap.get? I=some (siO (rawInt (slot:Nat)) i D n ep))(ho:s.heap.get? D=some o)(hd:o.data=.set es ep t)(hf:t.fits es.size=true)(hn:es.size=n)
  (hx:∀(B:Around)(E':Value->Shared->Prop)(Q':Option (Value×Nat)->Shared->Prop),Q' none s->wpAny (model prog w) B (setNext D slot i ep) Q' E' s)
  (hQ:∀h',(∀b u,b≠I->s.heap.get? b=some u->h'.get? b=some u)->Q none {s with heap:=h'}):wpAny (model prog w) A (pyNext (.ref I)) Q E s:=by
 have hT:s.TypeIs (.ref I) "set_iterator":=⟨_,hI,rfl⟩
 unfold pyNext;refine CT (DB (wpAny_callSpecial?_slot (name:=Str.ofString "__next__") hT Em (DC Em hT EO ?_ (gN _))));unfold Builtin.«set_iterator.__next__» setEntries;refine CT (CU ?_);refine CT (wpAny_fieldsOf hI rfl ?_);refine CT (CT (Du ho hd hf (CU ?_)));dsimp only;rw[CY (by rw[hn];simp)];show wpAny _ _ (setNext D ((slot:Nat):Int).toNat ((i:Nat):Int).toNat ((ep:Nat):Int).toNat >>= _) _ _ _;rw[Am,Am,Am];refine CT (hx _ _ _ ?_);dsimp only;refine CT (wpAny_setField hI rfl (by simp) ?_);exact iT hh fun h' hk=>hQ h' fun b u nb e=>hk b u ((Heap.SameBut.update _ I _).extBut b u nb e)
theorem iH{D:Addr}{es:Array (Int×Value)}{t:SetTable}{ep slot i:Nat}{Q:Option (Value×Nat)->Shared->Prop}(hb:w.params.followText "set-order"=true)(ho:s.heap.get? D=some o)(hd:o.data=.set es ep t)(hf:t.fits es.size=true)
  (h:Q (((pickOrder (w.params.setOrder D ep) es)[i]?).map fun e=>(e.2,slot)) s):wpAny (model prog w) A (setNext D slot i ep) Q E s:=by
 unfold setNext setWalk setsByText;refine CT (Du ho hd hf (CT (CT (wpAny_askSetting (CU ?_)))));dsimp only;rw[CZ (show(model prog w).w.params.followText "set-order"=true from hb),CY (by simp)];refine CT (CT (Du ho hd hf (CT (CT (wpAny_askSetting (CU ?_))))));dsimp only;rw[CZ (show(model prog w).w.params.followText "set-order"=true from hb)];refine CT (wpAny_askSetting (CU (CU ?_)));exact h
theorem kj{D:Addr}{es:Array (Int×Value)}{t:SetTable}{ep ep' slot i:Nat}{Q:Option (Value×Nat)->Shared->Prop}(hb:w.params.followText "set-order"=false)(hl:t.led=true)(h1:es.size<=1)(ho:s.heap.get? D=some o)(hd:o.data=.set es ep t)(hf:t.fits es.size=true)
  (h:Q (match es[SetTable.below t.place slot]?,t.place[SetTable.below t.place slot]? with|some (_,x),some j=>some (x,j+1)|_,_=>none) s):wpAny (model prog w) A (setNext D slot i ep') Q E s:=by
 unfold setNext setsByText;refine CT (Du ho hd hf (CT (CT (wpAny_askSetting (CU ?_)))));dsimp only;rw[CY (show ¬(model prog w).w.params.followText "set-order"=true from fun q=>by rw[show(model prog w).w.params.followText "set-order"=false from hb] at q;cases q)];split
 ·rename_i q;have q':(!t.plain&&decide (es.size>1))=true:=q;rw[Au,decide_eq_true_eq] at q';exact absurd q'.2 (by lia)
 ·refine CT (show wpAny (model prog w) A (if (!t.led && !es.isEmpty)=true then unsupported "set:maker-not-led" else pure ()) _ E s from ?_);rw[hl];exact CU (CU h)
theorem ny{α:Type}(next:Nat->Nat):∀(fuel k:Nat)(left:List α)(out:Array α),left.length=fuel->(pickOrder.go next fuel k left out).toList.Perm (out.toList++left)
 |0,k,left,out,h=>by
  rw[Az.mp h,AD];exact .refl _
 |fuel+1,k,left,out,h=>by
  have hi:next k % left.length<left.length:=Nat.mod_lt _ (by lia);unfold pickOrder.go;rw[zN hi];refine(ny next fuel (k+1) (left.eraseIdx _) (out.push _) (by rw[CB hi,h];rfl)).trans ?_;rw[Bo,Aj];exact(List.Perm.refl _).append (eI _ _ hi)
theorem fF{α:Type}(next:Nat->Nat)(xs:Array α):(pickOrder next xs).toList.Perm xs.toList:=by
 have:=ny next xs.size 0 xs.toList #[] (by rw[zR]);exact this
end
theorem Gy:Slot "set_iterator" "__iter__" "set_iterator.__iter__":=.of (owner:="set_iterator") (n:="__iter__") (by rw[typeLookup_type,builtinLookup_eq_fast];kernel_rfl) (by decide +kernel) (by decide +kernel) (by decide +kernel) (by first|exact .inl (by decide +kernel)|exact .inr (by decide +kernel)) (by rw[isSubtype_type];kernel_rfl)
theorem pj(a:Value):argsOk "set_iterator.__iter__" ⟨[a],[]⟩:=by unfold argsOk;kernel_rfl
section
variable {prog:Program}{w:World}{A:Around}{E:Value->Shared->Prop}{s:Shared}{o:Obj}{I D Pl:Addr}{ps:List Nat}{n ep:Nat}{es:Array (Int×Value)}{t:SetTable}
theorem lL(hh:A.handled=none)(nD:D≠I)(nP:Pl≠I)(hd:o.data=.set es ep t)(hf:t.fits es.size=true)(hn:es.size=n)(hp:ps.Perm (List.range n))(self:∀(i:Nat)(s:Shared)(Q:Value->Shared->Prop)(E:Value->Shared->Prop),s.heap.get? I=some (siO (.ref Pl) i D n ep)->Q (.ref I) s->wpAny (model prog w) A (pyIter (.ref I)) Q E s) :
  WalksS prog w A I [I,D,Pl] [I] (fun a b=>b=a) n (fun i v=>∃p e,ps[i]?=some p/\es[p]?=some e/\v=e.2) (fun i s=>s.heap.get? I=some (siO (.ref Pl) i D n ep)/\s.heap.get? D=some o/\s.heap.get? Pl=some (seqObj "tuple" (ps.map fun i=>rawInt (i:Nat)).toArray 0)) where
 sub:=fun b hb=>by rw[zK.mp hb];exact zQ
 grefl:=fun _=>rfl
 gtrans:=fun a b c h1 h2=>h2.trans h1
 frame:=fun _ _ _ _ st _ hk=>⟨hk I (by simp) _ st.1,hk D (by simp) _ st.2.1,hk Pl (by simp) _ st.2.2⟩
 item:=fun i s Q E hi st hQ=>by
  have hl:ps.length=n:=by rw[hp.length_eq,Br]
  have hi':i<ps.length:=by lia
  have hm:ps[i]<n:=Bj.mp (hp.mem_iff.mp (An hi'));have e1:ps[i]?=some ps[i]:=zN hi';have e2:es[ps[i]]?=some es[ps[i]]:=Ao (by lia);refine kP st.1 st.2.2 st.2.1 hd hf hn e1 e2 fun h' hs' hI'=>?_;exact hQ _ {s with heap:=h'} ⟨_,_,e1,e2,rfl⟩ ⟨hI',hs'.extBut _ _ nD st.2.1,hs'.extBut _ _ nP st.2.2⟩ ⟨fun b u hb e=>hs'.extBut b u (fun q=>hb (by simp[q])) e,rfl,rfl,rfl,zE _⟩
 done:=fun s Q E st hQ=>oj hh st.1 st.2.2 st.2.1 hd hf hn (Bx (by rw[hp.length_eq,Br];exact zE _)) fun h' hk=>hQ {s with heap:=h'} ⟨fun b u hb e=>hk b u (fun q=>hb (by simp[q])) e,rfl,rfl,rfl,zE _⟩
 self:=fun i s Q E st hQ=>self i s Q E st.1 hQ
theorem He:entryFor table "set_iterator.__iter__"=some Builtin.«dict_keyiterator.__iter__»:=entryFor_alias (id':="dict_keyiterator.__iter__") (by kernel_rfl) rfl (by decide +kernel) (by kernel_rfl)
theorem jk{f:Value}{i:Nat}{Q:Value->Shared->Prop}(hI:s.heap.get? I=some (siO f i D n ep))(h:Q (.ref I) s):wpAny (model prog w) A (pyIter (.ref I)) Q E s:=by
 have hT:s.TypeIs (.ref I) "set_iterator":=⟨_,hI,rfl⟩
 refine wpAny_pyIter_slot hT Gy (DC Gy hT He (show wpAny _ _ (ret (.ref I)) _ _ s from CU ⟨_,rfl,"set_iterator",_,hT,Em.lookup,h⟩) (pj _))
theorem nK(hh:A.handled=none)(nD:D≠I)(hb:w.params.followText "set-order"=true)(hd:o.data=.set es ep t)(hf:t.fits es.size=true)(hn:es.size=n) :
  WalksS prog w A I [I,D] [I] (fun a b=>b=a) n (fun i v=>∃e,(pickOrder (w.params.setOrder D ep) es)[i]?=some e/\v=e.2) (fun i s=>s.heap.get? I=some (siO (rawInt ((0:Nat):Int)) i D n ep)/\s.heap.get? D=some o) where
 sub:=fun b hb=>by rw[zK.mp hb];exact zQ
 grefl:=fun _=>rfl
 gtrans:=fun a b c h1 h2=>h2.trans h1
 frame:=fun _ _ _ _ st _ hk=>⟨hk I (by simp) _ st.1,hk D (by simp) _ st.2⟩
 item:=fun i s Q E hi st hQ=>by
  have hl:(pickOrder (w.params.setOrder D ep) es).size=n:=by rw[<- zR,(fF _ _).length_eq,zR,hn]
  have e1:(pickOrder (w.params.setOrder D ep) es)[i]?=some (pickOrder (w.params.setOrder D ep) es)[i]:=Ao (by lia);refine iy (nxt:=0) st.1 st.2 hd hf hn (fun B E' Q' q=>iH hb st.2 hd hf (by rw[e1];exact q)) fun h' hs' hI'=>?_;exact hQ _ {s with heap:=h'} ⟨_,e1,rfl⟩ ⟨hI',hs'.extBut _ _ nD st.2⟩ ⟨fun b u hb e=>hs'.extBut b u (fun q=>hb (by simp[q])) e,rfl,rfl,rfl,zE _⟩
 done:=fun s Q E st hQ=>ke hh st.1 st.2 hd hf hn (fun B E' Q' q=>iH hb st.2 hd hf (by
  rw[BY (by rw[<- zR,(fF _ _).length_eq,zR,hn]; exact zE _)]; exact q)) fun h' hk=>hQ { s with heap:=h' } ⟨fun b u hb e=>hk b u (fun q=>hb (by simp [q])) e,rfl,rfl,rfl,zE _⟩
 self:=fun i s Q E st hQ=>jk st.1 hQ
theorem iz(pl:Array Nat)(h:pl.size<=1):SetTable.below pl 0=0/\∀j,pl[0]?=some j->SetTable.below pl (j+1)=1:=by
 obtain⟨l⟩:=pl
 match l,h with
 |[],_=>exact⟨rfl,fun j e=>by cases e⟩
 |[j],_=>
  refine⟨by simp[SetTable.below,SetTable.below.go],fun k e=>?_⟩;have:k=j:=by simpa using e.symm
  subst this;simp[SetTable.below,SetTable.below.go]
theorem pH(hh:A.handled=none)(nD:D≠I)(hb:w.params.followText "set-order"=false)(hl:t.led=true)(h1:es.size<=1)(hd:o.data=.set es ep t)(hf:t.fits es.size=true)(hn:es.size=n) :
  WalksS prog w A I [I,D] [I] (fun a b=>b=a) n (fun i v=>∃e,es[i]?=some e/\v=e.2) (fun i s=>(∃slot:Nat,s.heap.get? I=some (siO (rawInt (slot:Nat)) i D n ep)/\SetTable.below t.place slot=i)/\s.heap.get? D=some o) where
 sub:=fun b hb=>by rw[zK.mp hb];exact zQ
 grefl:=fun _=>rfl
 gtrans:=fun a b c h1 h2=>h2.trans h1
 frame:=fun _ _ _ _ st _ hk=>by
  obtain⟨⟨sl,h1,h2⟩,h3⟩:=st;exact⟨⟨sl,hk I (by simp) _ h1,h2⟩,hk D (by simp) _ h3⟩
 item:=fun i s Q E hi st hQ=>by
  obtain⟨⟨sl,hI,hbl⟩,hD⟩:=st;have hps:t.place.size=es.size:=by
   have:=hf;unfold SetTable.fits at this;rw[Au,DH] at this;exact this.1
  have i0:i=0:=by lia
  subst i0;have e1:es[0]?=some es[0]:=Ao (by lia);have e2:t.place[0]?=some t.place[0]:=Ao (by lia);refine iy (nxt:=t.place[0]+1) hI hD hd hf hn (fun B E' Q' q=>kj hb hl h1 hD hd hf (by rw[hbl,e1,e2];exact q)) fun h' hs' hI'=>?_;exact hQ _ {s with heap:=h'} ⟨_,e1,rfl⟩ ⟨⟨_,hI',(iz t.place (by lia)).2 _ e2⟩,hs'.extBut _ _ nD hD⟩ ⟨fun b u hb e=>hs'.extBut b u (fun q=>hb (by simp[q])) e,rfl,rfl,rfl,zE _⟩
 done:=fun s Q E st hQ=>by
  obtain⟨⟨sl,hI,hbl⟩,hD⟩:=st;refine ke hh hI hD hd hf hn (fun B E' Q' q=>kj hb hl h1 hD hd hf ?_) fun h' hk=>hQ {s with heap:=h'} ⟨fun b u hb e=>hk b u (fun q=>hb (by simp[q])) e,rfl,rfl,rfl,zE _⟩;rw[hbl,BY (by lia)];exact q
 self:=fun i s Q E st hQ=>by
  obtain⟨⟨sl,hI,hbl⟩,hD⟩:=st;exact jk hI hQ
end
section
variable {prog:Program}{w:World}{A B:Around}{E:Value->Shared->Prop}{s:Shared}{o:Obj}{D:Addr}{ys:List Str}
theorem gy{P:Nat->Value->Prop}{acc:Array Value}{n:Nat}{vs:List Value}(h:ItemsOf P acc n)(hl:vs.length=n)(hP:∀j v,P j v->vs[j]?=some v):acc.toList=vs:=by
 refine BW fun j=>?_;by_cases hj:j<n
 ·have hj':j<acc.size:=by rw[h.1];exact hj
  have e:acc[j]?=some (acc[j]'hj'):=Ao hj';rw[Ab,e,hP j _ (h.2 j _ e)]
 ·rw[Bx (by rw[zR,h.1];lia),Bx (by lia)]
theorem rK{es:List (Int×Value)}(hel:ElemsOf (strKind prog w) es){vs:List Value}(hp:vs.Perm (es.map (·.2))):∀v∈vs,∃x t,v=.str x t:=fun v hv=>by
 obtain⟨e,he,rfl⟩:=zM.mp (hp.mem_iff.mp hv);exact rd hel he
theorem nu{Q:Value->Shared->Prop}(hh:B.handled=none)(ho:s.heap.get? D=some o)(hS:FR prog w (eU w) o ys)(hb:(ddS ys).length<scanBound)
  (hQ:∀(I n:Nat)(fp:List Addr)(P:Nat->Value->Prop)(St:Nat->Shared->Prop)(s1:Shared),n<=sizeLine->WalksS prog w B I fp [I] (fun a b=>b=a) n P St->St 0 s1->s.heap.objs.size<=I->(∀b∈fp,b=D\/s.heap.objs.size<=b)->(∀b u,s.heap.get? b=some u->s1.heap.get? b=some u)->s1.gens=s.gens->s1.os=s.os->(∀acc:Array Value,ItemsOf P acc n->(acc.toList.map strOf).Perm (ddS ys)/\∀v∈acc.toList,∃x t,v=.str x t)->Q (.ref I) s1) :
  wpAny (model prog w) A (pyIter (.ref D)) Q E s:=by
 obtain⟨hex,es,ep,t,hd,hel,hp,hf,hl,hpl⟩:=hS;have hz:es.size<=sizeLine:=fits_of_scanBound (by rw[<- zR,<- zF (f:=fun e=>strOf e.2),hp.length_eq];exact hb);have hlt:=Dh ho;have told:∀vs:List Value,vs.Perm (es.toList.map (·.2))->(vs.map strOf).Perm (ddS ys)/\∀v∈vs,∃x t,v=.str x t:=fun vs hv=>⟨((hv.map strOf).trans (by rw[AG];exact .refl _)).trans hp,rK hel hv⟩
 refine qa ho hex hd hf hz (fun hc=>?_) (fun h1 h2 h3 ps d hps=>?_)
 ·have g1:(s.heap.push (siO (rawInt 0) 0 D es.size ep)).get? s.heap.objs.size=some (siO (rawInt 0) 0 D es.size ep):=Dx _ rfl;have g2:(s.heap.push (siO (rawInt 0) 0 D es.size ep)).get? D=some o:=Dw _ ho;have nD:D≠s.heap.objs.size:=fun e=>absurd hlt (by rw[<- e];exact Ai _);have hfp:∀b∈[s.heap.objs.size,D],b=D\/s.heap.objs.size<=b:=fun b hb=>by
   simp only[zU,AC,or_false] at hb;rcases hb with rfl|rfl
   ·exact .inr (zE _)
   ·exact .inl rfl
  by_cases hbt:w.params.followText "set-order"=true
  ·refine hQ _ es.size _ _ _ _ hz (nK hh nD hbt hd hf rfl) ⟨g1,g2⟩ (zE _) hfp (fun b u e=>Dw _ e) rfl rfl fun acc ha=>?_;have:=fF (w.params.setOrder D ep) es;rw[gy (vs:=(pickOrder (w.params.setOrder D ep) es).toList.map (·.2)) ha (by rw[zF,this.length_eq,zR]) (fun j v ⟨e,h1,h2⟩=>by rw[zW,Ab,h1,h2];rfl)];exact told _ (this.map _)
  ·have hbf:w.params.followText "set-order"=false:=BJ.mpr hbt;have h1:es.size<=1:=by
    rcases hc with h|h|h
    ·exact absurd h hbt
    ·refine Co fun q=>?_;rw[hpl (by lia)] at h;cases h
    ·exact h
   refine hQ _ es.size _ _ _ _ hz (pH hh nD hbf (by rw[hl];unfold eU;rw[hbf];rfl) h1 hd hf rfl) ⟨⟨0,g1,?_⟩,g2⟩ (zE _) hfp (fun b u e=>Dw _ e) rfl rfl fun acc ha=>?_
   ·refine(iz t.place ?_).1;have:=hf;unfold SetTable.fits at this;rw[Au,DH] at this;rw[this.1];exact h1
   ·rw[gy (vs:=es.toList.map (·.2)) ha (by rw[zF,zR]) (fun j v ⟨e,h1,h2⟩=>by rw[zW,Ab,h1,h2];rfl)];exact told _ (.refl _)
 ·generalize hH1:s.heap.push (seqObj "tuple" (ps.map fun i=>rawInt (i:Nat)).toArray 0)=hp1;have z1:hp1.objs.size=s.heap.objs.size+1:=by rw[<- hH1,DE]
  have k1:∀b u,s.heap.get? b=some u->hp1.get? b=some u:=fun b u e=>by rw[<- hH1];exact Dw _ e
  have gP:hp1.get? s.heap.objs.size=some (seqObj "tuple" (ps.map fun i=>rawInt (i:Nat)).toArray 0):=by rw[<- hH1];exact Dx _ rfl
  have g1:(hp1.push (siO (.ref s.heap.objs.size) 0 D es.size ep)).get? (s.heap.objs.size+1)=some (siO (.ref s.heap.objs.size) 0 D es.size ep):=by rw[<- z1];exact Dx _ rfl
  refine hQ _ es.size _ _ _ _ hz (lL (I:=s.heap.objs.size+1) (Pl:=s.heap.objs.size) hh (fun e=>absurd hlt (by rw[e];exact Nat.not_lt.mpr (AA _))) (zJ (Av _)) hd hf rfl hps fun i s Q E h q=>jk h q) ⟨g1,Dw _ (k1 _ _ ho),Dw _ gP⟩ (AA _) (fun b hb=>?_) (fun b u e=>Dw _ (k1 b u e)) rfl rfl fun acc ha=>?_
  ·simp only[zU,AC,or_false] at hb;rcases hb with rfl|rfl|rfl
   ·exact .inr (AA _)
   ·exact .inl rfl
   ·exact .inr (zE _)
  ·rw[gy (vs:=ps.map fun p=>(es.toList.getD p (0,.none)).2) ha (by rw[zF,hps.length_eq,Br]) (fun j v hq78=>by
    obtain⟨p,e,h1,h2,h3⟩:=hq78;rw[zW,h1,h3];show some (es.toList.getD p (0,.none)).2=_
    rw[Ae,Ab,h2]; rfl)]
   refine told _ ((hps.map _).trans ?_);have:(List.range es.size).map (fun p=>(es.toList.getD p (0,.none)).2)=es.toList.map (·.2):=by
    refine BW fun j=>?_;rw[zW,zW];by_cases hj:j<es.size
    ·rw[List.getElem?_range hj];show some (es.toList.getD j (0,.none)).2=_;rw[Ae,Ab,Ao hj];rfl
    ·rw[Bx (by rw[Br];lia),Ab,BY (by lia)];rfl
   rw[this]
end
theorem HB:splitId "set.__len__"=some ("set","__len__"):=by kernel_rfl
section
variable {prog:Program}{w:World}{A:Around}{E:Value->Shared->Prop}{s:Shared}{o:Obj}{D:Addr}
theorem qB{Q:Bool->Shared->Prop}(hT:s.TypeIs (.ref D) "set")(h:Q false s):wpAny (model prog w) A (Builtin.List.listLengthHint (.ref D)) Q E s:=by
 unfold Builtin.List.listLengthHint;refine CT (wpAny_specialOf hT F.slot_set_len.lookup ?_);dsimp only;rw[HB];dsimp only;refine CT (wpAny_isInstance hT sub_set_self ?_);refine wpAny_ite ?_;rw[CY (show ¬(!true)=true from Ag)];refine wpAny_ite ?_;rw[CZ]
 ·exact CT (wpAny_typeOf hT (CU h))
 ·kernel_rfl
theorem ji{ys:List Str}{Q:List Value->Shared->Prop}(hh:A.handled=none)(ho:s.heap.get? D=some o)(hS:FR prog w (eU w) o ys)(hb:(ddS ys).length<scanBound)
  (hQ:∀s' vs,(∀b u,s.heap.get? b=some u->s'.heap.get? b=some u)->s.heap.objs.size<=s'.heap.objs.size->s'.gens=s.gens->s'.os=s.os->(vs.map strOf).Perm (ddS ys)->(∀v∈vs,∃x t,v=.str x t)->Q vs s'):wpAny (model prog w) A (collect (.ref D)) Q E s:=by
 have hex:=hS.1;have hT:∀h' tk d,(∀b u,s.heap.get? b=some u->h'.get? b=some u)->({s with heap:=h',toks:=tk,drawn:=d}:Shared).TypeIs (.ref D) "set":=fun h' tk d hk=>⟨o,hk _ _ ho,hex.1⟩
 unfold collect;refine CT (wpAny_runValue (codeAny_builtin F.entry_proto_collect ?_));rw[Around.under_plainId F.plain_proto_collect _];show wpAny _ A.in1 (newList [] >>= fun l=>again (.builtin "list.__iadd__" ⟨[l,.ref D],[]⟩)) _ _ s;refine CT (wpAny_newObj_type (CU ⟨plainId_quiet F.plain_list_iadd _,codeAny_builtin F.entry_list_iadd ?_⟩));rw[Around.under_plainId F.plain_list_iadd _];show wpAny _ A.in1 (Builtin.List.listExtendWith (.ref s.heap.objs.size) (.ref D) (.ref s.heap.objs.size)) _ _ _;unfold Builtin.List.listExtendWith;have k1:∀b u,s.heap.get? b=some u->(s.heap.push {cls:=.type "list",data:=.seq ([]:List Value).toArray}).get? b=some u:=fun b u e=>Dw _ e;refine CT (wpAny_typeOf (hT _ _ _ k1) ?_);have hSD:s.heap.objs.size≠D:=fun e=>absurd (Dh ho) (by rw[e];exact Ai _);have h1:Builtin.List.listSameRef (.ref s.heap.objs.size) (.ref D)=false:=by simp[Builtin.List.listSameRef,hSD]
 have h2:(Value.type "set" == Value.type "list")=false:=by decide
 have h3:(Value.type "set" == Value.type "tuple")=false:=by decide
 simp only[h1,h2,h3,Bool.or_false,AW,if_false];generalize hH1:s.heap.push {cls:=.type "list",data:=.seq ([]:List Value).toArray}=h1' at k1 ⊢;have hS1:h1'.get? s.heap.objs.size=some {cls:=.type "list",data:=.seq ([]:List Value).toArray}:=by rw[<- hH1];exact Dx _ rfl
 have hz1:h1'.objs.size=s.heap.objs.size+1:=by rw[<- hH1,DE]
 refine CT (nu (B:=A.in1) (s:={s with heap:=h1'}) hh (k1 _ _ ho) hS hb fun I n fp P St s1 hn W st0 hI hfp hk hg hos hacc=>?_);have hSf:s.heap.objs.size∉fp:=fun hm=>by
  rcases hfp _ hm with e|e
  ·exact hSD e
  ·rw[show({s with heap:=h1'}:Shared).heap.objs.size=s.heap.objs.size+1 from hz1] at e;exact absurd e (Nat.not_le.mpr (Av _))
 refine CT (Df (qB ⟨o,hk _ _ (k1 _ _ ho),hex.1⟩ (wpAny_ite ?_)));rw[CZ]
 ·have g1:=hk _ _ hS1;have g2:=Heap.get?_update_self (Obj.mapSeq (·.push Value.none)) g1 rfl;have g3:=Heap.get?_update_self (Obj.mapSeq (·.pop)) g2 rfl;refine CT (DG (CT (show wpAny _ A.in1 (updateSeq s.heap.objs.size (·.push .none) >>= fun _=>updateSeq s.heap.objs.size (·.pop)) _ _ _ from CT (wpAny_updateSeq g1 rfl (wpAny_updateSeq g2 rfl ?_)))));refine CU ⟨plainId_quiet F.plain_extend_loop _,codeAny_extend_loopS W hn _ hSf _ n 0 _ _ _ rfl (zX _) (W.frame 0 s1 _ s1.toks st0 (zE _) fun b hb u e=>?_) g3 (ItemsOf.nil P) fun s' acc c' hm hS' ha=>?_⟩
  ·have nb:s.heap.objs.size≠b:=fun q=>hSf (by rw[q];exact hb);exact(Heap.get?_update_other _ _ nb).trans ((Heap.get?_update_other _ _ nb).trans e)
  ·obtain⟨a1,a2⟩:=hacc acc ha;refine CT (wpAny_load hS' (CU (hQ s' acc.toList (fun b u e=>?_) (Ax (Dh hS')) ?_ ?_ a1 a2)))
   ·have hlt:b<s.heap.objs.size:=Dh e;have nb:s.heap.objs.size≠b:=Dv (zJ hlt);refine hm.heap b u (fun q=>?_) ((Heap.get?_update_other _ _ nb).trans ((Heap.get?_update_other _ _ nb).trans (hk b u (k1 b u e))));rcases zU.mp q with q|q
    ·exact nb q.symm
    ·rw[zK.mp q] at hlt;have:s.heap.objs.size+1<=I:=by rw[<- hz1];exact hI
     exact absurd hlt (Nat.not_lt.mpr (Nat.le_of_succ_le this))
   ·exact hm.gens.trans hg
   ·exact hm.os.trans hos
 ·kernel_rfl
end
end L2
namespace SG
open PySem PyProof.Rows
section
variable {prog:Program}{w:World}{A:Around}{E:Value->Shared->Prop}{s:Shared}
theorem lI{κ:KeyKind}{a₀:Array Keyed}{st:SortSt}(B:SB κ a₀ st)(h:Seg κ (arrOf st) 0 a₀.size):SortedToK κ (arrOf st) a₀.size:=fun i j hij hj=>by
 have z:=B.size;have e1:(arrOf st)[i]?=some ((arrOf st)[i]'(by lia)):=Ao _;have e2:(arrOf st)[j]?=some ((arrOf st)[j]'(by lia)):=Ao _;have:=h i j _ _ (zX _) hij hj e1 e2;unfold KK;rw[e1,e2];exact this
theorem Ew{κ:KeyKind}(hO:κ.OneLt){a:Addr}{vs:List Value}{n:Nat}{P:PySem.Fin->Shared->Prop}(ho:s.heap.get? a=some (seqObj "list" vs.toArray n))(h0:KeysOf κ (pairsOf vs))(hkk:∀v₁ v₂ rest,vs=v₁::v₂::rest->keyKind' (v₁::v₂::rest).toArray=pure oneType')(hz:vs.length<=sizeLine)
  (h:∀st':SortSt,(arrOf st').Perm (pairsOf vs)->SortedToK κ (arrOf st') (pairsOf vs).size->P (.done (.ret .none)) {s with heap:=sortedHeap s.heap a vs ((arrOf st').map (·.2))}):wpAny (model prog w) A (Builtin.«list.sort» ⟨[.ref a],[]⟩) P E s:=by
 rw[list_sort_plain];have ha:a<s.heap.objs.size:=Dh ho;refine CT (listItems_at ho rfl (CT (listUpdate_at ho rfl ?_)));obtain⟨e1,ho1⟩:∃e1,(s.heap.update a (Obj.mapSeq fun _=>#[])).get? a=some (seqObj "list" #[] e1):=⟨_,get?_update_seq ho (fun _=>#[])⟩
 refine CT (seqEpoch_at ho1 rfl (CT (wpAny_newTuple (CT (wpAny_newList (Df ?_))) (by show vs.toArray.size<=sizeLine;rw[zY];exact hz))));have ho6:(((s.heap.update a (Obj.mapSeq fun _=>#[])).push (seqObj "tuple" vs.toArray 0)).push (seqObj "list" #[] 0)).get? a=some (seqObj "list" #[] e1):=by rw[Heap.get?_push_ne _ _ _ (by rw[size_push',Heap.size_update];exact zJ (AF ha)),Heap.get?_push_ne _ _ _ (by rw[Heap.size_update];exact zJ ha)];exact ho1
 show wpAny (model prog w) A _ P E {s with heap:=((s.heap.update a (Obj.mapSeq fun _=>#[])).push (seqObj "tuple" vs.toArray 0)).push (seqObj "list" #[] 0)};dsimp only;have hsz:vs.toArray.size=vs.length:=by simp
 by_cases h2:vs.toArray.size<2
 ·rw[CZ h2,CZ h2];refine CT (CU ?_);rw[StateT.run_pure];refine CT (CU ?_);dsimp only;refine CT (seqEpoch_at ho6 rfl (CT (listUpdate_at ho6 rfl ?_ (hsz2:=by rw[Array.size_map];show(pairsOf vs).size<=_;rw[pairsOf_size];exact AS hz))));simp only[bne_self_eq_false,AW,if_false];refine CU (h (SortSt.mk' general' (vs.toArray.zip vs.toArray) #[] 7 none) (Array.Perm.refl _) fun i j hij hj=>?_);have:i=j:=by rw[pairsOf_size] at hj;lia
  subst this;exact Do _
 ·rw[CY h2,CY h2];obtain⟨v₁,v₂,rest,rfl⟩:∃v₁ v₂ rest,vs=v₁::v₂::rest:=match vs,hsz,h2 with
   |[],_,h2=>absurd (show 0<2 by decide) h2
   |[_],_,h2=>absurd (show 1<2 by decide) h2
   |v₁::v₂::rest,_,_=>⟨v₁,v₂,rest,rfl⟩
  rw[hkk _ _ _ rfl];refine CT (CU ?_);refine CT (De (jv (κ:=κ) hO (a₀:=pairsOf (v₁::v₂::rest)) (st:=SortSt.mk' oneType' ((v₁::v₂::rest).toArray.zip (v₁::v₂::rest).toArray) #[] 7 none) (Q:=fun _ st'=>SB κ (pairsOf (v₁::v₂::rest)) st'/\Seg κ (arrOf st') 0 (pairsOf (v₁::v₂::rest)).size) h0 ⟨Array.Perm.refl _,rfl,rfl⟩ rfl fun st' a1 a2=>⟨a1,a2⟩) ?_ fun _ _ e=>e);rintro⟨⟨⟩,st'⟩ s' ⟨rfl,hp,hs⟩;dsimp only;refine CT (seqEpoch_at ho6 rfl (CT (listUpdate_at ho6 rfl ?_ (hsz2:=by refine zO (Nat.le_of_eq ((Array.size_map ..).trans (hp.perm.size_eq.trans (pairsOf_size _)))) (AS hz)))));rw[hp.failed];simp only[bne_self_eq_false,AW,if_false];exact CU (h st' hp.perm (lI hp hs))
theorem GB{l:Addr}{vs:List Value}{ss:List Str}{Q:Value->Shared->Prop}(hl:s.heap.IsList l vs.toArray)(hst:StrsAre vs ss)(hz:vs.length<=sizeLine)
  (h:∀out ss',StrsAre out.toList ss'->ss'.Perm ss->sortedS ss'=true->Q (.ref (s.heap.objs.size+1)) {s with heap:=sortedAll s.heap vs out}):wpAny (model prog w) A (call (.builtin "sorted") [.ref l]) Q E s:=by
 refine Calls.call_function_entry kind_sorted plain_sorted entry_sorted (args_sorted1 _) ?_;unfold Builtin.«sorted»;refine CT (m:=checkCount "sorted" 1 1 _) (CU (CT (collect_list hl (CT (wpAny_newList ?_ (by show vs.toArray.size<=sizeLine;rw[zY];exact hz))) (by first|(show vs.toArray.size<=sizeLine;rw[zY];exact hz)|skip))));have hsz:((s.heap.push (seqObj "list" #[] 0)).update s.heap.objs.size (Obj.mapSeq (·++vs.toArray))).objs.size=s.heap.objs.size+1:=by rw[Heap.size_update,size_push']
 have hoL:(((s.heap.push (seqObj "list" #[] 0)).update s.heap.objs.size (Obj.mapSeq (·++vs.toArray))).push (seqObj "list" vs.toArray 0)).get? (s.heap.objs.size+1)=some (seqObj "list" vs.toArray 0):=by rw[<- hsz];exact Dx _ rfl
 show wpAny _ _ _ _ _ {s with heap:=((s.heap.push (seqObj "list" #[] 0)).update s.heap.objs.size (Obj.mapSeq (·++vs.toArray))).push (seqObj "list" vs.toArray 0)};rw[hsz];refine CT (Df (DC slot_list_sort ⟨_,hoL,rfl⟩ entry_list_sort (Ew strKind_oneLt hoL hst.keysOf (fun v₁ v₂ rest e=>keyKind_strs (by rw[<- e];exact hst)) hz fun st' a1 a2=>⟨_,rfl,?_⟩) (args_list_sort _)));obtain⟨ss',b1,b2,b3⟩:=sorted_out_str hst a1 a2;exact CU ⟨_,rfl,h _ ss' b1 b2 b3⟩
end
end SG
namespace L2
open PySem PySem.Spec PyProof.Rows
theorem qV{prog:Program}{w:World}{z:Str}{v:Value}(h:(aI prog w).is (.inr z) v=true):∃t,v=.str z t:=by
 rw[kY] at h;rcases DU h with ⟨i,t,e,_⟩|⟨x,t,e,ev⟩
 ·cases e
 ·cases e;exact⟨t,ev⟩
section
variable {prog:Program}{w:World}{A:Around}{E:Value->Shared->Prop}{s:Shared}{o:Obj}{D:Addr}{ys:List Str}
theorem jf{Q:Value->Shared->Prop}(hh:A.handled=none)(ho:s.heap.get? D=some o)(hS:FR prog w (eU w) o ys)(hb:(ddS ys).length<scanBound)(hb2:scanBound<=sizeLine)
  (hQ:∀s' l zs out e,(∀b u,s.heap.get? b=some u->s'.heap.get? b=some u)->s'.gens=s.gens->s'.os=s.os->zs.Perm (ddS ys)->sortedS zs=true->s.heap.objs.size<=l->s'.heap.get? l=some (seqObj "list" out e)->StrsAre out.toList zs->Q (.ref l) s') :
  wpAny (model prog w) A (call (.builtin "sorted") [.ref D]) Q E s:=by
 refine Calls.call_function_entry kind_sorted plain_sorted entry_sorted (args_sorted1 _) ?_;unfold Builtin.«sorted»;refine CT (m:=checkCount "sorted" 1 1 _) (CU (CT (ji hh ho hS hb fun s1 vs hk hle hg hos hp ha=>?_)));have hst:=strsAre_map vs ha;have hl:vs.length=(ddS ys).length:=by rw[<- hp.length_eq,zF]
 have hz:vs.length<=sizeLine:=by lia
 have hoL:(s1.heap.push (seqObj "list" vs.toArray 0)).get? s1.heap.objs.size=some (seqObj "list" vs.toArray 0):=Dx _ rfl;refine CT (wpAny_newList ?_ hz);refine CT (Df (DC slot_list_sort ⟨_,hoL,rfl⟩ entry_list_sort (SG.Ew strKind_oneLt hoL hst.keysOf (fun v₁ v₂ rest e=>keyKind_strs (by rw[<- e];exact hst)) hz fun st' a1 a2=>⟨_,rfl,?_⟩) (args_list_sort _)));obtain⟨ss',b1,b2,b3⟩:=sorted_out_str hst a1 a2;obtain⟨e,he⟩:=sortedHeap_at (out:=(arrOf st').map (·.2)) hoL;refine CU ⟨_,rfl,hQ _ _ ss' _ e (fun b u q=>?_) hg hos (b2.trans hp) b3 hle he b1⟩;have q1:=hk b u q;have lt1:=Dh q1;exact(sortedHeap_old (zJ lt1) (by rw[DE];exact AF lt1)).trans (Dw _ q1)
theorem iM{d:Addr}{kvs:List (Key×Value)}{zs:List Str}{Q:Value->Shared->Prop}(hh:A.handled=none)(lo:(d==sysModules)=false)(hd:s.heap.DictOf (aI prog w) d kvs)(ek:kvs.map (·.1)=zs.map fun z=>(Sum.inr z:Key))(hz:kvs.length<=sizeLine)
  (hQ:∀(h1 h':Heap)(t:Nat)(l:Addr)(zs':List Str)(out:Array Value)(e:Nat),(∀b u,s.heap.get? b=some u->h1.get? b=some u)->(∀b u,h1.get? b=some u->h'.get? b=some u)->zs'.Perm zs->sortedS zs'=true->h1.objs.size<=l->h'.get? l=some (seqObj "list" out e)->StrsAre out.toList zs'->Q (.ref l) {s with heap:=h',toks:=t}) :
  wpAny (model prog w) A (call (.builtin "sorted") [.ref d]) Q E s:=by
 obtain⟨ep,hat⟩:=hd.dictAt;refine Calls.call_function_entry kind_sorted plain_sorted entry_sorted (args_sorted1 _) ?_;unfold Builtin.«sorted»;refine CT (m:=checkCount "sorted" 1 1 _) (CU (CT (W.kdu_collect (A:=A.in1) (W.kdl_dict (knd:=aI prog w) lo) hh hat hz fun h' tk acc hk hacc=>?_)));have hl:acc.toList.length=kvs.length:=by rw[zR];exact hacc.1
 have lz:zs.length=kvs.length:=by have:=congrArg List.length ek;rw[zF,zF] at this;exact this.symm
 have hst:StrsAre acc.toList zs:=by
  have go:∀(us:List Value)(ts:List Str),us.length=ts.length->(∀i (h1:i<us.length) (h2:i<ts.length),∃t,us[i]=.str ts[i] t)->StrsAre us ts:=by
   intro us;induction us with
   |nil=>intro ts h _;cases ts with
    |nil=>exact .nil
    |cons a b=>cases h
   |cons u us ih=>
    intro ts h hu;cases ts with
    |nil=>cases h
    |cons a b=>
     obtain⟨t,e⟩:=hu 0 (Nat.succ_pos _) (Nat.succ_pos _);have e:u=.str a t:=e;rw[e];exact .cons a t (ih b (Nat.succ.inj h) fun i h1 h2=>hu (i+1) (Nat.succ_lt_succ h1) (Nat.succ_lt_succ h2))
  refine go _ _ (by lia) fun i h1 h2=>?_;have e0:acc[i]?=some acc.toList[i]:=by rw[<- Ab];exact zN h1
  obtain⟨k,x,e1,e2⟩:=hacc.2 i _ e0;have e3:(kvs.map (·.1))[i]?=some k:=by rw[zW,e1];rfl
  rw[ek,zW,zN h2] at e3;have e4:k=.inr zs[i]:=(Di e3).symm;rw[e4] at e2;generalize acc.toList[i]=v at e2;obtain⟨t,ev⟩:∃t,v=.str zs[i] t:=qV e2;exact⟨t,ev⟩
 have hz':acc.toList.length<=sizeLine:=by lia
 have hoL:(h'.push (seqObj "list" acc.toList.toArray 0)).get? h'.objs.size=some (seqObj "list" acc.toList.toArray 0):=Dx _ rfl;refine CT (wpAny_newList ?_ hz');refine CT (Df (DC slot_list_sort ⟨_,hoL,rfl⟩ entry_list_sort (SG.Ew strKind_oneLt hoL hst.keysOf (fun v₁ v₂ rest e=>keyKind_strs (by rw[<- e];exact hst)) hz' fun st' a1 a2=>⟨_,rfl,?_⟩) (args_list_sort _)));obtain⟨ss',b1,b2,b3⟩:=sorted_out_str hst a1 a2;obtain⟨e,he⟩:=sortedHeap_at (out:=(arrOf st').map (·.2)) hoL;refine CU ⟨_,rfl,hQ h' _ _ _ ss' _ e hk (fun b u q1=>?_) b2 b3 (zE _) he b1⟩;have lt1:=Dh q1;exact(sortedHeap_old (zJ lt1) (by rw[DE];exact AF lt1)).trans (Dw _ q1)
end
section
variable {X:Cx}{x:Str}{p pos:Pos}{e:Expr}{t:GL}
def oq (t:GL):TE:=fun σ H Q=>t σ H fun ys H1=>∀l zs,zs.Perm (ddS ys)->sortedS zs=true->H1 l=none->Q (.ref l) (upd H1 l (.lst (zs.map V.str)))
theorem jD(hc:X.A.handled=none)(he:uZ X e t)(hg:Gl X "sorted")(hm:X.mg "sorted"=none)(hv:bootBuiltins "sorted"=some (.builtin "sorted"))(hs:starEach [e] X.env=(false,eval e X.env)::starEach [] X.env:=by rfl):PE X (.Call (.Name "sorted" p) [e] [] pos) (oq t):=by
 intro pins s σ H Q I h;refine wpAny_Call_Name_kw (dI I hg hm hv ?_ (by decide) (by decide));refine PyProof.Rows.callWith_builtin1 ?_ hs rfl;rw[hs];refine Calls.spliced_cons (thn (he pins s σ H _ I h) fun v s1 z=>?_);obtain⟨D,o,ys,H1,rfl,I1,ho,hS,hb,q⟩:=z;refine Calls.spliced_nil ?_;have sb:scanBound<=sizeLine:=by decide
 refine jf hc ho hS hb sb fun s' l zs out ep hk hg' hos hp hso hle hl hst=>?_;have I2:Inv X pins σ (upd H1 l (.lst (zs.map V.str))) {s1 with heap:=s'.heap,toks:=s'.toks}:=I1.laid hk hle ⟨by rw[zF,hp.length_eq];lia,out.toList,ep,Gp hst,by rw[CC];exact hl⟩;have e3:s'={s1 with heap:=s'.heap,toks:=s'.toks,drawn:=s'.drawn}:=by
  obtain⟨a1,a2,a3,a4,a5⟩:=s';cases hg';cases hos;rfl
 rw[e3];exact⟨.ref l,_,⟨I2.ok,I2.os,I2.bare,I2.base,I2.loc,I2.cell,I2.free,I2.Ex,I2.pin,I2.hok,I2.len⟩,rfl,q l zs hp hso (I1.hok.fresh hle)⟩
def tX (K:W.Frag):List V->Hp->VK->Prop:=fun xs H Q=>∃p zs,xs=[.ref p]/\(SqL K H p (zs.map V.str)\/∃kvs,H p=some (.dK kvs)/\kvs.map (·.1)=zs.map fun z=>(Sum.inr z:Key))/\∀l zs',zs'.Perm zs->sortedS zs'=true->H l=none->Q (.ref l) (upd H l (.lst (zs'.map V.str)))
theorem kW(hc:X.calm=true):cb X (.builtin "sorted") (tX X.K):=by
 intro pins s σ H xs us Q I r h;obtain⟨p,zs,rfl,hq,q⟩:=h;obtain⟨u,rfl,rx⟩:=dB r;cases rx;rcases hq with hq|⟨kvs,hd,ek⟩
 ·obtain⟨its,rv,pl,hz⟩:=I.list hq;have hl:=rv.length;rw[zF] at hl hz;refine SG.GB pl.isList (strsOf rv) (by lia) fun out ss' a1 a2 a3=>?_;obtain⟨e,he⟩:=sortedAll_at s.heap its out;refine⟨.ref (s.heap.objs.size+1),_,I.laid (t':=s.toks) (o:=.lst (ss'.map V.str)) (fun _ _=>sortedAll_old) (AA _) ?_,rfl,q _ ss' a2 a3 (I.hok.fresh (AA _))⟩;refine⟨?_,out.toList,e,Gp a1,?_⟩
  ·rw[zF,a2.length_eq];lia
  ·rw[CC];exact he
 ·obtain⟨hz,lo,vs,rel,dd⟩:=qb I.hok hd;have hh:X.A.handled=none:=I.ok.hd hc;refine iM hh lo dd (by rw[<- rel.keys];exact ek) (by rw[<- rel.length];exact hz) fun h1 h' t l zs' out e k1 k2 a1 a2 a3 a4 a5=>?_;have I1:Inv X pins σ H {s with heap:=h1,toks:=s.toks}:=I.kept k1;have lz:zs.length=kvs.length:=by have:=congrArg List.length ek;rw[zF,zF] at this;exact this.symm
  exact⟨.ref l,_,I1.laid (t':=t) (o:=.lst (zs'.map V.str)) k2 a3 ⟨by rw[zF,a1.length_eq];lia,out.toList,e,Gp a5,by rw[CC];exact a4⟩,rfl,q l zs' a1 a2 (I1.hok.fresh a3)⟩
end
section
variable {prog:Program}{w:World}{A:Around}{E:Value->Shared->Prop}{s:Shared}{a:Addr}{o:Obj}{L:Bool}{ys:List Str}{z:Str}{tz:Tok}
theorem sV{Q:Bool->Shared->Prop}(ho:s.heap.get? a=some o)(h:FR prog w L o ys)(hb:(ddS ys).length+1<scanBound)
  (hQ:∀h' o',Heap.SameBut a s.heap h'->h'.get? a=some o'->FR prog w L o' (z::ys)->∀c,Q c {s with heap:=h',toks:=s.toks+1}) :
  wpAny (model prog w) A (setAdd a (.str z tz)) Q E s:=by
 obtain⟨hex,es,ep,t,hd,hel,hp,hf,hl,hpl⟩:=h;have hn:es.size=(ddS ys).length:=by rw[<- hp.length_eq,zF,zR]
 have hkey:(strKind prog w).is z (.str z tz)=true:=Dc rfl;have hsc:(Value.str z tz).scannable=true:=rfl;unfold setAdd setAddHashed setAddHashedIn;refine Df (CT ((strKind prog w).pyHash hkey (Df (CT (Du (s:={s with toks:=s.toks+1}) ho hd hf ?_)))));dsimp only;rw[byScan_of hsc (by rw[hn];lia) hel];simp only[↓reduceIte];unfold setAddByScan;refine CT (CT (DG (CT (wpAny_setScan_of hkey ho hd hf hel ?_))));have hfind:∀e∈es.toList,((strKind prog w).is z e.2=true↔strOf e.2=z):=fun e he=>by
  obtain⟨x,t,ex⟩:=rd hel he;rw[ex];show Value.isStrOf z (.str x t)=true↔x=z;rw[isz,decide_eq_true_iff];exact eq_comm
 have hmem:z∈ys↔∃e∈es.toList,strOf e.2=z:=by
  rw[<- EG,<- hp.mem_iff,zM]
 cases hr:List.findIdx? (fun e=>(strKind prog w).is z e.2) es.toList with
 |some j=>
  obtain⟨hj,hpj,_⟩:=List.findIdx?_eq_some_iff_getElem.mp hr;have hz:z∈ys:=hmem.mpr ⟨_,An hj,(hfind _ (An hj)).mp hpj⟩;have e1:ddS (z::ys)=ddS ys:=by
   show(if z∈ddS ys then ddS ys else z::ddS ys)=_;rw[CZ (EG.mpr hz)]
  refine CU (CU ?_);exact hQ s.heap o (Heap.SameBut.refl a s.heap) ho ⟨hex,es,ep,t,hd,hel,by rw[e1];exact hp,hf,hl,hpl⟩ _
 |none=>
  have hz:z∉ys:=fun hz=>by
   obtain⟨e,he,ez⟩:=hmem.mp hz;have:=List.findIdx?_eq_none_iff.mp hr e he;rw[(hfind e he).mpr ez] at this;cases this
  have e1:ddS (z::ys)=z::ddS ys:=by
   show(if z∈ddS ys then ddS ys else z::ddS ys)=_;rw[CY (fun q=>hz (EG.mp q))]
  have hperm:=layNew_perm t es ((strKind prog w).hash z) (.str z tz);have hfits:=layNew_fits t es ((strKind prog w).hash z) (.str z tz);have hled:=lp t es ((strKind prog w).hash z) (.str z tz);dsimp only;generalize layNew t es ((strKind prog w).hash z) (.str z tz)=Ln at hperm hfits hled ⊢;obtain⟨es1,t1,wasDummy,gave⟩:=Ln;dsimp only at hperm hfits hled ⊢;rw[Bo] at hperm;have hsz:es1.size=(ddS ys).length+1:=by rw[<- zR,hperm.length_eq,zG,zR,hn];rfl
  have hp1:(es1.toList.map fun e=>strOf e.2).Perm (ddS (z::ys)):=by
   rw[e1];refine(hperm.map _).trans ?_;rw[zV];exact(BF).trans (hp.cons z)
  have gw:∀(b:Bool)(s₁:Shared)(Q':Unit->Shared->Prop),Q' () s₁->wpAny (model prog w) A (match b with|true=>rule "set.scan.the-table-gave-way" |false=>pure ()) Q' E s₁:=fun b s₁ Q' hq=>by
   cases b
   ·exact CU hq
   ·exact DG hq
  refine CT (gw _ _ _ ?_);have fin:∀h' o',Heap.SameBut a s.heap h'->h'.get? a=some o'->FR prog w L o' (z::ys)->wpAny (model prog w) A (pure true) Q E {s with heap:=h',toks:=s.toks+1}:=fun h' o' h1 h2 h3=>CU (hQ h' o' h1 h2 h3 true);split
  ·refine CT ?_;rw[hashByValue_scannable 8 hsc];refine CU (vw (s:={s with toks:=s.toks+1}) gw ho hex hd ((hel.push hkey hsc).perm hperm) hp1 (by lia) (SetTable.fits_plain_off hfits) (hled.trans hl) rfl fin)
  ·rename_i npl;refine CT (CU ?_);exact vw (s:={s with toks:=s.toks+1}) gw ho hex hd ((hel.push hkey hsc).perm hperm) hp1 (by lia) hfits (hled.trans hl) (by cases hq:t1.plain with|false=>rfl|true=>exact absurd hq npl) fin
end
def de (val:Nat->Str):Nat->List Str
 |0=>[]
 |i+1=>val i::de val i
theorem iS(val:Nat->Str):∀i,(de val i).length=i
 |0=>rfl
 |i+1=>by show(de val i).length+1=_;rw[iS val i]
section
variable {prog:Program}{w:World}{A:Around}{R:Result->Shared->Prop}{I:Addr}{fp wr:List Addr}{G:Array GenState->Array GenState->Prop}{n:Nat}{P:Nat->Value->Prop}{St:Nat->Shared->Prop}{L:Bool}
theorem og(W:WalksS prog w A.in1 I fp wr G n P St)(S:Addr)(hSf:S∉fp)(val:Nat->Str)(hval:∀i v,P i v->∃t,v=.str (val i) t)(hb:n+1<scanBound):∀(k i:Nat)(s:Shared)(o:Obj),n-i=k->i<=n->St i s->s.heap.get? S=some o->FR prog w L o (de val i) ->
  (∀s' o',Moved (S::wr) G s s'->s'.heap.get? S=some o'->FR prog w L o' (de val n)->R (.ok (.ret .none)) s')->codeAny (model prog w) A (.builtin "set.update.loop" ⟨[.ref S,.ref I],[]⟩) R s:=by
 have hSw:S∉wr:=fun h=>hSf (W.sub _ h);have hsub:∀b∈wr,b∈S::wr:=fun b hb=>Ac _ hb;intro k;induction k with
 |zero=>
  intro i s o hk hi hst ho hS hR;have hin:i=n:=by lia
  subst hin;refine codeAny_builtin PyProof.Rows.F.entry_set_update_loop ?_;rw[Around.under_plainId PyProof.Rows.F.plain_set_update_loop _];show wpAny _ A.in1 (pyNext (.ref I) >>= _) _ _ s;refine CT (W.done s _ _ hst fun s' hm=>?_);show wpAny _ A.in1 (ret Value.none) _ _ s';exact CU (hR s' o (hm.mono hsub) (hm.heap S _ hSw ho) hS)
 |succ k ih=>
  intro i s o hk hi hst ho hS hR;have hlt:i<n:=by lia
  refine codeAny_builtin PyProof.Rows.F.entry_set_update_loop ?_;rw[Around.under_plainId PyProof.Rows.F.plain_set_update_loop _];show wpAny _ A.in1 (pyNext (.ref I) >>= _) _ _ s;refine CT (W.item i s _ _ hlt hst fun v s' hP hst' hm=>?_);obtain⟨t,rfl⟩:=hval i v hP;have ho':=hm.heap S _ hSw ho;show wpAny _ A.in1 (PySem.holding [Value.str (val i) t] (setAdd S (.str (val i) t)) >>= _) _ _ s';have hd:=FW (de val i);rw[iS] at hd;refine CT (Df (sV ho' hS (by lia) fun h' o2 hsb ho2 hS2 c=>?_));refine CU ⟨plainId_quiet PyProof.Rows.F.plain_set_update_loop _,ih (i+1) _ o2 (by lia) hlt (W.frame _ s' _ _ hst' (AA _) fun b hb o e=>?_) ho2 hS2 fun s'' o3 hm'' ho3 hS3=>?_⟩
  ·rw[hsb.2 b (fun h:b=S=>hSf (by rw[<- h];exact hb))];exact e
  ·refine hR s'' o3 (Moved.trans W.gtrans ((hm.mono hsub).then_heap (AA _) fun b o hb e=>?_) hm'') ho3 hS3;rw[hsb.2 b (fun h:b=S=>hb (by rw[h];exact zQ))];exact e
end
section
variable {prog:Program}{w:World}{A:Around}{E:Value->Shared->Prop}{s:Shared}
theorem pA(a:Value){Q₁:Value->Shared->Prop}(h:Q₁ (.ref s.heap.objs.size) {s with heap:=s.heap.push {cls:=.type "set",dict:=none,data:=.set #[] 0 (.fresh 0 0 (eU w))}}):codeAny (model prog w) A (.call (.builtin "set.__new__") ⟨[.type "set",a],[]⟩) (wants Q₁ E) s:=by
 refine codeAny_of_tree ?_;show wpAny _ A.in1 (do checkBuiltinCall "set.__new__" ⟨[.type "set",a],[]⟩;again (.builtin "set.__new__" ⟨[.type "set",a],[]⟩)) _ _ s;refine CT (wpAny_of_eq (PySem.F.newCall_set_1 a) (CU ⟨plainId_quiet PySem.F.plain_set_new _,codeAny_builtin PySem.F.entry_set_new ?_⟩));rw[Around.under_plainId PySem.F.plain_set_new _];unfold Builtin.«set.__new__» Builtin.Frozenset.newClass;have hsub:=sub_set_self;obtain⟨hp,g,d,tk,os⟩:=s;dsimp only;wp_walk;refine wpAny_askSetting (CU ?_);dsimp only;simp only[newObj];exact CT (wpAny_alloc (CU (CU h)))
end
theorem strAt:∀{vs:List Value}{zs:List Str},StrsAre vs zs->∀(i:Nat)(v:Value),vs[i]?=some v->∃t,v=.str (zs.getD i "") t
 |_,_,.nil,i,v,h=>by simp at h
 |_,_,.cons z t r,0,v,h=>by simp at h;exact⟨t,by rw[<- h];rfl⟩
 |_,_,.cons z t r,i+1,v,h=>by
  rw[List.getElem?_cons_succ] at h;obtain⟨t',e⟩:=strAt r i v h;exact⟨t',by rw[e];rfl⟩
theorem jd{f g:Nat->Str}:∀i,(∀j,j<i->f j=g j)->de f i=de g i
 |0,_=>rfl
 |i+1,h=>by show f i::de f i=g i::de g i;rw[h i (Av i),jd i fun j hj=>h j (AF hj)]
theorem mG(zs:List Str)(x:Str):de (fun i=>(zs++[x]).getD i "") zs.length=de (fun i=>zs.getD i "") zs.length:=jd _ fun j hj=>by
 show(zs++[x]).getD j ""=zs.getD j "";rw[Ae,Ae,Ba hj]
theorem nk(zs:List Str):de (fun i=>zs.getD i "") zs.length=zs.reverse:=by
 suffices h:∀rs:List Str,de (fun i=>rs.reverse.getD i "") rs.reverse.length=rs by
  have:=h zs.reverse
  rwa [List.reverse_reverse] at this
 intro rs;induction rs with
 |nil=>rfl
 |cons x r ih=>
  have e:(x::r).reverse.length=r.reverse.length+1:=by simp
  rw[e,List.reverse_cons];show(r.reverse++[x]).getD r.reverse.length ""::de _ _=_;rw[mG,ih]
  congr 1
  rw[Ae,AE (zE _)];simp
section
variable {prog:Program}{w:World}{A:Around}{E:Value->Shared->Prop}{s:Shared}
theorem mW{l:Addr}{items:Array Value}{zs:List Str}{Q:Value->Shared->Prop}(hh:A.handled=none)(hl:s.heap.IsList l items)(hi:StrsAre items.toList zs)(hb:items.size+1<scanBound)
  (h:∀(h':Heap)(tk:Nat) o,h'.get? s.heap.objs.size=some o->FR prog w (eU w) o zs.reverse->(∀b u,s.heap.get? b=some u->h'.get? b=some u)->Q (.ref s.heap.objs.size) {s with heap:=h',toks:=tk}):wpAny (model prog w) A (call (.type "set") [.ref l]) Q E s:=by
 have ez:items.size=zs.length:=by rw[<- zR];exact hi.length
 generalize eb:({cls:=.type "set",dict:=none,data:=.set #[] 0 (.fresh 0 0 (eU w))}:Obj)=o0;have hs0:FR prog w (eU w) o0 []:=by rw[<- eb];exact FR.fresh _ _ _
 have hc0:o0.cls=.type "set":=by rw[<- eb]
 have hf0:o0.isFreed=false:=by rw[<- eb];rfl
 obtain⟨c,tl,hmro⟩:=PySem.F.called_set.mro;have hmade:=PySem.F.called_set.made;have hsub:=PySem.F.called_set.sub;refine wpAny_call (codeAny_of_tree ?_);show wpAny _ _ (callAny (.type "set") _) _ _ _;refine CU ⟨Code.quiet_builtin _ (by decide +kernel),codeAny_builtin PySem.F.entry_type_call ?_⟩;rw[Around.under_plain (weight_type_call_type "set" [.ref l] []) rfl];have h1:=PySem.F.called_set.notType;have h2:=PySem.F.called_set.canCreate;have hct:=PySem.F.typeCall_set_1 (.ref l)
 repeat' (first|assumption|wp_step)
 refine codeAny_mono (pA (.ref l) (E:=E) (Q₁:=fun obj s₁=>obj=.ref s.heap.objs.size/\s₁={s with heap:=s.heap.push o0}) (by rw[eb];exact⟨rfl,rfl⟩)) fun r s₁ hr=>?_;cases r with
 |error e=>exact hr
 |ok fl=>
  cases fl with
  |ret obj=>
   obtain⟨rfl,rfl⟩:=hr;have hS:(s.heap.push o0).get? s.heap.objs.size=some o0:=Dx _ hf0;have hT:Shared.TypeIs {s with heap:=s.heap.push o0} (.ref s.heap.objs.size) "set":=⟨_,hS,hc0⟩
   have hli:=PySem.F.called_set.init.lookup;have hbi:=PySem.F.called_set.init.bind (.ref s.heap.objs.size)
   repeat' (first|assumption|wp_step)
   refine codeAny_mono (codeAny_call_builtin (R:=wants (fun r s₂=>r=.none/\∃h' tk o,s₂={s with heap:=h',toks:=tk}/\h'.get? s.heap.objs.size=some o/\FR prog w (eU w) o zs.reverse/\(∀b u,s.heap.get? b=some u->h'.get? b=some u)) E) PySem.F.called_set.init.plain PySem.F.entry_set_init (check_set_init_1 hT ?_)) fun r₂ s₂ hr₂=>?_
   ·obtain⟨ol,hol,hcl,nl,hdl⟩:=hl;obtain⟨ocls,odict,odata,oslots⟩:=ol;simp only at hcl hdl;subst hcl;subst hdl;have hol':(s.heap.push o0).get? l=some {cls:=.type "list",dict:=odict,data:=.seq items nl,slots:=oslots}:=Dw _ hol;have hsls:=PySem.F.sub_list_set;have hslf:=PySem.F.sub_list_frozenset;have hne:(Value.type "list" == Value.type "dict")=false:=by decide
    have hl1:(s.heap.push o0).IsList l items:=⟨_,hol',rfl,nl,rfl⟩
    subst eb;unfold Builtin.«set.__init__» noKeywords Builtin.Frozenset.updateFrom;generalize hPI:pyIter=PI
    wp_walk
    subst hPI;refine wpAny_pyIter_list hl1 ?_;refine CT (wpAny_runValue ?_);have hlS:l<s.heap.objs.size:=Dh hol;have hh3:A.in1.in1.in1.handled=none:=by simp[hh]
    have hneI:l≠(s.heap.push {cls:=.type "set",dict:=none,data:=.set #[] 0 (.fresh 0 0 (eU w))}).objs.size:=by rw[DE];exact zJ (AF hlS)
    have hSf:s.heap.objs.size∉[(s.heap.push {cls:=.type "set",dict:=none,data:=.set #[] 0 (.fresh 0 0 (eU w))}).objs.size,l]:=by
     rw[DE];intro z;rcases zU.mp z with z|z
     ·exact absurd z (zJ (Av _))
     ·exact absurd (zK.mp z) (BC hlS)
    refine og ((Walks.list hh3 _ l hneI items).toS) s.heap.objs.size hSf (fun i=>zs.getD i "") (fun i v hv=>strAt hi i v (by rw[Ab];exact hv)) hb (items.size-0) 0 _ _ (by lia) (zX _) ⟨⟨_,Dx _ rfl,rfl,rfl⟩,(hl1.push _)⟩ (Dw _ hS) hs0 fun s' o' hm hg hS'=>?_;obtain⟨h',g',d',tk',os'⟩:=s';have eg:g'=s.gens:=hm.gens;have ed:d'=s.drawn:=hm.drawn;have eo:os'=s.os:=hm.os;subst eg;subst ed;subst eo;rw[ez,nk] at hS';show wpAny _ _ _ _ _ _;refine CU ?_;show wpAny _ _ (ret Value.none) _ _ _;refine CU ⟨rfl,h',tk',o',rfl,hg,hS',fun b u e=>?_⟩;have hb0:=Dh e;refine hm.heap b u (fun z=>?_) (Dw _ (Dw _ e));rcases zU.mp z with z|z
    ·exact absurd z (zJ hb0)
    ·rw[zK.mp z,DE] at hb0;exact absurd (BD (Av _) hb0) (Ai _)
   ·cases r₂ with
    |error e=>exact hr₂
    |ok fl₂=>
     cases fl₂ with
     |ret r=>
      obtain⟨rfl,h',tk,o,rfl,hg,hS',hk'⟩:=hr₂
      repeat' (first|assumption|wp_step)
      exact h _ _ _ hg hS' hk'
     |_=>exact hr₂.elim
  |_=>exact hr.elim
end
theorem IJ:bootBuiltins "set"=some (.type "set"):=by decide +kernel
section
variable {X:Cx}{p pos:Pos}{e:Expr}{te:TE}
def uz (K:W.Frag)(te:TE):GL:=fun σ H Q=>te σ H fun v H1=>∃l,∃zs:List Str,v=.ref l/\SqL K H1 l (zs.map V.str)/\zs.length<4000/\Q zs.reverse H1
theorem rN(hc:X.A.handled=none)(he:PE X e te)(hg:Gl X "set")(hm:X.mg "set"=none)(hs:starEach [e] X.env=(false,eval e X.env)::starEach [] X.env:=by rfl):uZ X (.Call (.Name "set" p) [e] [] pos) (uz X.K te):=by
 intro pins s σ H Q I h;refine wpAny_Call_Name_kw (dI I hg hm IJ ?_ (by decide) (by decide));refine PyProof.Rows.callWith_type1 ?_ hs rfl;rw[hs];refine Calls.spliced_cons (thn (he pins s σ H _ I h) fun v s1 z=>Calls.spliced_nil ?_);obtain⟨y,H1,I1,r,l,zs,rfl,hq,hz,q⟩:=z;cases r;obtain⟨its,rv,pl,_⟩:=I1.list hq;have hl:=rv.length;rw[zF] at hl;refine mW hc pl.isList (zs:=zs) (by simpa using strsOf rv) (by rw[zY];unfold scanBound;lia) fun h' tk o hg' hS hk=>?_;refine⟨_,o,zs.reverse,H1,rfl,I1.kept hk,hg',hS,?_,q⟩;refine Bc (FW _) ?_;rw[List.length_reverse];unfold scanBound;lia
end
theorem jo{prog:Program}{w:World}{A:Around}{R:Result->Shared->Prop}{s:Shared}{kx vx target iter:Expr}{ifs:List Expr}{scope:Scope}{pos:Pos}{it:Value}{D:Addr}{env:Env}(I:Nat->Shared->Prop)
  (turn:∀n s,I n s->wpAny (model prog w) A (pyNext it) (fun r s₁=>match r with
   |none=>R (.ok .next) s₁
   | some v=>wpAny (model prog w) A (letOwnedTupleGo target it v) (fun _ s₁'=>wpAny (model prog w) A (assign target env v) (fun _ s₂ =>
     wpAny (model prog w) A (forIn ifs true fun c r=>if r=true then do let ok <- isTrue c env (eval c env); pure (ForInStep.yield ok) else pure (ForInStep.yield r)) (fun ok s₃ =>
      if ok=true then wpAny (model prog w) A (eval kx env) (fun kv s₄=>wpAny (model prog w) A (eval vx env) (fun vv s₅ =>
       wpAny (model prog w) A (dictSet D kv vv) (fun _ s₆=>∃m,m < n/\I m s₆) (fun _ _=>False) s₅) (fun _ _=>False) s₄) (fun _ _=>False) s₃
      else ∃m,m < n/\I m s₃) (fun _ _=>False) s₂) (fun _ _=>False) s₁') (fun _ _=>False) s₁) (fun _ _=>False) s)
  (n:Nat) (h:I n s):codeAny (model prog w) A (.compLoop (.DictComp kx vx [⟨target,iter,ifs,0⟩] scope pos) 0 it (.ref D) env) R s:=by
 refine codeAny_loop rfl I (fun n s hI=>?_) n h;show wpAny _ A ((compTurn (.DictComp kx vx [⟨target,iter,ifs,0⟩] scope pos) 0 it (.ref D) env).onRaise (fun x=>do noteFrame x env;theTreesLotGoes x)) _ _ s;refine wpAny_noted ?_;rw[PySem.compTurn_dict];refine CT (wpAny_standAt (CT (De (turn n s hI) (fun r s₁ h₁=>?_) fun _ _ h'=>h'.elim)));cases r with
 |none=>exact CU h₁
 |some v=>
  refine CT (De h₁ (fun _ s₁' h₁'=>?_) fun _ _ h'=>h'.elim);refine CT (De h₁' (fun _ s₂ h₂=>CT (De h₂ (fun ok s₃ h₃=>?_) fun _ _ h'=>h'.elim)) fun _ _ h'=>h'.elim);cases ok with
  |false=>exact CU ⟨rfl,h₃⟩
  |true=>
   exact CT (CT (De h₃ (fun kv s₄ h₄=>CT (Df (De h₄ (fun vv s₅ h₅=>CT (wpAny_standAt (Df (De h₅ (fun _ s₆ h₆=>CU ⟨rfl,h₆⟩) fun _ _ h'=>h'.elim)))) fun _ _ h'=>h'.elim))) fun _ _ h'=>h'.elim))
def EZ(P:Program)(w:World)(o:Obj)(kvs:List (Key×V)):Prop:=∃vs,KV kvs vs/\o.IsDictOf (aI P w) vs
theorem EZ.fresh(P:Program)(w:World):EZ P w {cls:=.type "dict",data:=.dict #[]} []:=by
 obtain⟨o,ho,r⟩:=Heap.dictOf_iff.mp (Heap.DictOf.new (knd:=aI P w) (h:={objs:=#[]}));rw[Dx _ rfl] at ho;cases ho;exact⟨[],.nil,r⟩
section
variable {prog:Program}{w:World}{A:Around}{E:Value->Shared->Prop}{s:Shared}{a:Addr}{o:Obj}{kvs:List (Key×V)}{k:Key}{v:V}{u r:Value}
theorem EZ.nc(h:EZ prog w o kvs):∀v,o.data≠.cell v:=fun v q=>by
 obtain⟨vs,_,es,ep,h1,h2,_⟩:=h;rw[h2] at q;cases q
theorem putL{Q:Unit->Shared->Prop}(ho:s.heap.get? a=some o)(h:EZ prog w o kvs)(rk:RelV (kV k) u)(rv:RelV v r)(hz:kvs.length<=sizeLine)
  (hQ:∀h' o',Heap.SameBut a s.heap h'->h'.get? a=some o'->EZ prog w o' (dQ kvs k v)->Q () {s with heap:=h',toks:=s.toks+1}) :
  wpAny (model prog w) A (dictSet a u r) Q E s:=by
 obtain⟨vs,rel,d⟩:=h;refine wpAny_dictSet_pairs (hsz:=by rw[<- rel.length];exact hz) (iI rk) (Heap.dictOf_iff.mpr ⟨o,ho,d⟩) fun h' dd hs=>?_;obtain⟨o',ho',d'⟩:=Heap.dictOf_iff.mp dd;exact hQ h' o' hs ho' ⟨_,rel.put k rv,d'⟩
theorem qf{Q:Value->Shared->Prop}(h:Q (.ref s.heap.objs.size) {s with heap:=s.heap.push {cls:=.type "dict",data:=.dict #[]}}):wpAny (model prog w) A newDict Q E s:=by
 unfold newDict;simp only[newObj]
 (first|exact CT (wpAny_alloc (CU h))|exact wpAny_alloc h)
end
section
variable {X:Cx}{pins:List (Addr×Obj)}{σ:St}{H:Hp}{s:Shared}{scope:Scope}{t:Option Str}{ts cap:List Str}{js:List Nat}{fp:List Addr}{C D:Addr}
theorem lh{s':Shared}{σ':St}{H':Hp}{ys:List (Key×V)}{o:Obj}(I:Inv X pins σ H s)(hf:∀b∈fp,Eo X pins H b)
  (hC:s.heap.objs.size<=C)(hD:s.heap.objs.size<=D)(I':Inv (aP X scope t C fp (ts++cap) s H) [(D,o)] σ' H' s')(hv:EZ X.prog X.w o ys)(hz:ys.length<=sizeLine):Inv X pins σ (upd H' D (.dK ys)) s':=by
 obtain⟨hDg,hDn,hDC,hDs,hDd⟩:=I'.pin (D,o) (zI _ zQ);have nD:∀b o,s.heap.get? b=some o->b≠D:=fun b o e=>zJ (zP (Dh e) hD);have nDt:∀b o,H b=some o->b≠D:=fun b o e=>zJ (zP (I.hok.lt e) hD);have u:=I'.base;refine I.Jl (ch:=fp) I'.os ⟨fun b o e n hb hx=>u.keep b o e n hb hx,fun b o e n hb hx=>u.slot b o e n hb hx,fun b o e n hx=>?_,fun b o e hx=>u.there b o e hx,fun b xs e=>?_,fun b o xs e=>?_,fun b ps e=>?_⟩ ?_ I'.bare fun b hb=>?_
 ·rw[aq (nD b o e)];exact u.free b o e n hx
 ·rw[aq (nDt b _ e)];exact u.GH b xs e
 ·rw[aq (nDt b _ e)];exact u.GA b o xs e
 ·rw[aq (nDt b _ e)];exact u.GF b ps e
 ·intro b o e;by_cases hb:b=D
  ·subst hb;rw[ae] at e;cases e;obtain⟨vs,rel,dd⟩:=hv;exact⟨hz,beq_eq_false_iff_ne.mpr (Dv (zJ (zP I.big hD))),vs,rel,Heap.dictOf_iff.mpr ⟨_,hDg,dd⟩⟩
  ·rw[aq hb] at e;refine(I'.hok b o e).Gd (fun _ _ _ q=>q) (fun c q=>?_) fun c xs q=>?_
   ·by_cases hc:c=D
    ·subst hc;rw[hDn] at q;cases q
    ·rw[aq hc];exact q
   ·by_cases hc:c=D
    ·subst hc;rw[hDn] at q;cases q
    ·rw[aq hc];exact q
 ·obtain⟨f0,f1,f2,f3,f4,f5⟩:=hf b hb;exact⟨f3,f1,f4,f5⟩
theorem jr{tg kx vx iter:Expr}{ifs:List Expr}{pos:Pos}{g:TG}{tc:TT}{tk tv:TE}{J:It}{it:Addr}{tn:Nat->Heap->Prop}{W:Nat->Nat->List (Key×V)->Hp->Prop}{m0:Nat}{E:Value->Shared->Prop}
  {RR:Value->Addr->Result->Shared->Prop}{Fin:List (Key×V)->Hp->Prop}
  (I:Inv X pins σ H s)(T:TurnOk X.prog X.w fp it tn)(TA:∀C,Hy (aP X scope t C fp (ts++cap) s H) tg J fp it tn)(st:tn 0 s.heap)(hf:∀b∈fp,Eo X pins H b)(CS:DT X scope t ts cap js)
  (hg:∀C fp s H,PG (aP X scope t C fp (ts++cap) s H) tg g)(ht:∀C fp s H,PTs (aP X scope t C fp (ts++cap) s H) ifs tc)(hk:∀C fp s H,PE (aP X scope t C fp (ts++cap) s H) kx tk)(he:∀C fp s H,PE (aP X scope t C fp (ts++cap) s H) vx tv)
  (w0:W 0 m0 [] H)
  (turn:∀i m ys H,W i m ys H->(J.stop i H/\ys.length<=4000000/\Fin ys H)\/(J.go i H/\ys.length < 4000000/\∀x H',J.yld i H x H'->g x (List.replicate ts.length none++bO js σ) H' fun σ2 H2=>tc σ2 H2 fun b H3 =>
   if b=true then tk σ2 H3 fun y H4=>∃z,y=kV z/\tv σ2 H4 fun v H5=>∃m',m' < m/\W (i+1) m' (dQ ys z v) H5 else ∃m',m' < m/\W (i+1) m' ys H3))
  (hRR:∀D C s' H' ys m,Inv X pins σ (upd H' D (.dK ys)) s'->s'.heap.Ns C m->s.heap.objs.size<=C->s.heap.objs.size<=D->C≠D->H' C=none->H' D=none->Fin ys H'->RR (.ref D) C (.ok .next) s') :
  (wq X) (newDict) (fun acc s₃=>(wq X) (newFunctionEnv scope X.env.globals (cj X.env.cells scope.names []) [] X.env.qual none .none (some X.env)) (fun cenv s₄ =>
   codeAny (model X.prog X.w) X.A (.compStart (.DictComp kx vx [⟨tg,iter,ifs,0⟩] scope pos) 0 (.ref it) acc { cenv with scope:=relabel scope X.env }) (RR acc cenv.locals) s₄) E s₃) E s:=by
 refine qf ?_;refine(lW CS.one CS.kind (fun h₁ hns₁ hcl₁ hold₁=>?_));dsimp only at hns₁ hcl₁ hold₁ ⊢;generalize hH2:s.heap.push {cls:=.type "dict",data:=.dict #[]}=H2 at hns₁ hcl₁ hold₁ ⊢;generalize ho0:({cls:=.type "dict",data:=.dict #[]}:Obj)=o0 at hH2;have hs0:EZ X.prog X.w o0 []:=by rw[<- ho0];exact EZ.fresh _ _
 have hnc:∀v,o0.data≠.cell v:=by rw[<- ho0];intro v z;cases z
 have hfz:o0.isFreed=false:=by rw[<- ho0];rfl
 clear ho0;have hCs:H2.objs.size=s.heap.objs.size+1:=by rw[<- hH2,DE]
 have hDC:s.heap.objs.size≠H2.objs.size:=by rw[hCs];exact zJ (Av _)
 have hCle:s.heap.objs.size<=H2.objs.size:=by rw[hCs];exact AA _
 have below:∀b,b<s.heap.objs.size->b≠H2.objs.size:=fun b hb=>by rw[hCs];exact zJ (AF hb)
 have old:∀b o,s.heap.get? b=some o->h₁.get? b=some o:=fun b o e=>hold₁ b o (hH2▸Dw _ e);have hacc:h₁.get? s.heap.objs.size=some (o0):=hold₁ _ _ (hH2▸Dx _ hfz);have hfl:∀b∈fp,b<s.heap.objs.size:=fun b hb=>by obtain⟨o,e,_⟩:=T.obj _ _ st b hb;exact Dh e
 have st₁:tn 0 h₁:=T.keep _ _ _ st fun b _ o e=>old b o e;have hDstk:s.heap.objs.size∉frs X.stack:=fun z=>by
  obtain⟨_,o,ho,_⟩:=I.stack.mem z;exact absurd (Dh ho) (Ai _)
 have I0:Inv (aP X scope t H2.objs.size fp (ts++cap) s H) [(s.heap.objs.size,o0)] (List.replicate ts.length none++bO js σ) H {s with heap:=h₁,toks:=s.toks}:=
  fh I CS hf hfl hCle old hns₁ hcl₁ rfl I.bare fun p hp=>by
   have e:p=(s.heap.objs.size,o0):=by simpa using hp
   subst e;exact⟨hacc,I.hok.fresh (zE _),hDC,hDstk,hnc⟩
 have stat:∀{H':Hp}{o:Obj},(∀b∈fp,H' b=none)->∀b∈fp,Eo (aP X scope t H2.objs.size fp (ts++cap) s H) [(s.heap.objs.size,o)] H' b:=fun {H' o} hn b hb=>by
  obtain⟨f0,f1,f2,f3,f4,f5⟩:=hf b hb;refine⟨hn b hb,below b (hfl b hb),?_,.inl hb,fun x c e=>?_,fun p hp=>?_⟩
  ·exact(hJ I CS hf hfl hCle).HK b hb
  ·rcases CS.Fb I.ok e with ⟨_,q⟩|q
   ·rw[q];exact Dv (zJ (zP (hfl b hb) (AS hCle)))
   ·exact f4 x c q
  ·rcases zH.mp hp with z|z
   ·exact f5 p (Ad _ z)
   ·have e:p=(s.heap.objs.size,o):=by simpa using z
    subst e;intro q;have q':s.heap.objs.size=b:=q;exact absurd (hfl b hb) (by rw[<- q'];exact Ai _)
 have loop:∀s₃:Shared,s₃={s with heap:=h₁,toks:=s.toks} ->
   codeAny (model X.prog X.w) X.A (.compLoop (.DictComp kx vx [⟨tg,iter,ifs,0⟩] scope pos) 0 (.ref it) (.ref s.heap.objs.size) (compEnvC scope (tI t H2.objs.size (cj X.env.cells scope.names [])) H2.objs.size X.env))
    (RR (.ref s.heap.objs.size) H2.objs.size) s₃:=by
  rintro s₃ rfl;refine jo (fun k s'=>∃i H' ys o,Inv (aP X scope t H2.objs.size fp (ts++cap) s H) [(s.heap.objs.size,o)] (List.replicate ts.length none++bO js σ) H' s'/\EZ X.prog X.w o ys/\tn i s'.heap/\(∀b∈fp,H' b=none)/\W i k ys H') ?_ m0
   ⟨0,H,[],o0,I0,hs0,st₁,fun b hb=>(hf b hb).1,w0⟩
  rintro k s3 ⟨i,H3,ys,o,I3,v3,st3,fr3,w3⟩;rcases turn i k ys H3 w3 with ⟨stop,hz,fin⟩|⟨go,hz,step⟩
  ·refine thn ((TA _).done i _ s3 _ H3 _ I3 (stat fr3) st3 stop) fun r s4 hq79=>?_;obtain⟨hr,I4⟩:=hq79;subst hr;obtain⟨m4,hn4,_⟩:=I4.loc;exact hRR _ _ s4 H3 ys m4 (lh I hf hCle (zE _) I4 v3 (zO hz (by have:=sizeLine_eq;lia))) hn4 hCle (zE _) (Dv hDC) I4.free (I4.pin (s.heap.objs.size,o) (zI _ zQ)).2.1 fin
  ·refine thn ((TA _).item i _ s3 _ H3 _ I3 (stat fr3) st3 go) fun r s4 hq80=>?_;obtain⟨u,hr,h4⟩:=hq80;subst hr;refine thn h4 fun _ s5 hq81=>?_;obtain⟨x,H5,I5,r5,y5,st5,fr5⟩:=hq81;have I5':=I5.pinned (stat fr5) (T.obj _ _ st5);refine thn (hg _ _ _ _ _ s5 _ H5 x u _ I5' r5 (step x H5 y5)) fun _ s6 hq82=>?_;obtain⟨σ6,H6,I6,q6⟩:=hq82;refine thn (ht _ _ _ _ _ s6 σ6 H6 _ I6 q6) fun ok s7 hq83=>?_;obtain⟨H7,I7,q7⟩:=hq83;have pinned:∀{σ':St}{H':Hp}{s':Shared},Inv (aP X scope t H2.objs.size fp (ts++cap) s H) ([(s.heap.objs.size,o)]++cL fp s5.heap) σ' H' s'->tn (i+1) s'.heap/\∀b∈fp,H' b=none:=fun {σ' H' s'} J=>by
    refine⟨T.keep _ _ _ st5 fun b hb o e=>(J.pin (b,o) (zI _ (zI _ (aX hb e)))).1,fun b hb=>?_⟩;obtain⟨o,e,d⟩:=T.obj _ _ st5 b hb;exact(J.pin (b,o) (zI _ (zI _ (aX hb e)))).2.1
   cases ok with
   |false=>
    rw[CY Ag] at q7 ⊢;obtain⟨m',hm,w7⟩:=q7;obtain⟨st7,fr7⟩:=pinned I7;exact⟨m',hm,i+1,H7,ys,o,bP I CS hf I7.DX,v3,st7,fr7,w7⟩
   |true=>
    rw[CZ rfl] at q7 ⊢;refine thn (hk _ _ _ _ _ s7 σ6 H7 _ I7 q7) fun kv s7' hq84=>?_;obtain⟨y,H7',I7',r7,z,ez,q7'⟩:=hq84;subst ez;refine thn (he _ _ _ _ _ s7' σ6 H7' _ I7' q7') fun yv s8 hq85=>?_;obtain⟨v,H8,I8,r8,m',hm,w8⟩:=hq85;obtain⟨st8,fr8⟩:=pinned I8;have I8':=bP I CS hf I8.DX;obtain⟨hDg,hDn,hDC',hDs,hDd⟩:=I8'.pin (s.heap.objs.size,o) (zI _ zQ);refine putL hDg v3 r7 r8 (zO (Ax hz) (by have:=sizeLine_eq;lia)) fun h9 o9 hs9 hD9 v9=>?_;have nc9:=v9.nc;have tracked:∀b o,b≠s.heap.objs.size->s8.heap.get? b=some o->h9.get? b=some o:=fun b o hb e=>hs9.extBut b o hb e;have I9:Inv (aP X scope t H2.objs.size fp (ts++cap) s H) [(s.heap.objs.size,o9)] (List.replicate ts.length none++bO js σ) H8 {s8 with heap:=h9,toks:=s8.toks+1}:=by
     have J0:Inv (aP X scope t H2.objs.size fp (ts++cap) s H) [] (List.replicate ts.length none++bO js σ) H8 s8:=I8'.ED (fun p hp=>absurd hp (by simp))
     have J:Inv (aP X scope t H2.objs.size fp (ts++cap) s H) [] (List.replicate ts.length none++bO js σ) H8 { s8 with heap:=h9,toks:=s8.toks+1 }:=J0.turned (it:=s.heap.objs.size) tracked hDn hDC' (.inr (Heap.get?_none_of_le (zE _))) (fun x c e q=>by
      rcases CS.Fb I.ok e with ⟨_,z⟩|z
      ·rw[z,hCs] at q;exact absurd q (Dv (zJ (AF (Av _))))
      ·obtain⟨v,o,ho,_⟩:=I.cell x c z;rw[q] at ho;exact absurd (Dh ho) (Ai _)) (fun p hp q=>by
       rw[AD] at hp;obtain⟨e,_⟩:=I.pin p (Ad _ hp);rw[q] at e
       exact absurd (Dh e) (Ai _))
     refine J.ED fun p hp=>?_;have e:p=(s.heap.objs.size,o9):=by simpa using hp
     subst e;exact⟨hD9,hDn,hDC',hDs,nc9⟩
    have st9:tn (i+1) h9:=T.keep _ _ _ st8 fun b hb o e=>tracked b o (zJ (hfl b hb)) e;exact⟨m',hm,i+1,H8,dQ ys z v,o9,I9,v9,st9,fr8,w8⟩
 exact codeAny_compStart_dict (loop _ rfl) (T.self _ _ _ _ _ st₁ (loop _ rfl))
end
section
variable {X:Cx}{scope:Scope}{ts cap:List Str}{js:List Nat}{tg kx vx iter:Expr}{ifs:List Expr}{pos:Pos}{wi:TI}{g:TG}{tc:TT}{tk tv:TE}
def qJ (J:It)(k:Nat)(js:List Nat)(g:TG)(tc:TT)(tk tv:TE)(σ:St)(H1:Hp)(Q:List (Key×V)->Hp->Prop):Prop:=
 ∃W:Nat->Nat->List (Key×V)->Hp->Prop,(∃m,W 0 m [] H1)/\∀i m ys H,W i m ys H ->
  (J.stop i H/\ys.length<=4000000/\Q ys H) \/
  (J.go i H/\ys.length<4000000/\∀x H',J.yld i H x H'->g x (List.replicate k none++bO js σ) H' fun σ2 H2=>tc σ2 H2 fun b H3=>if b=true then tk σ2 H3 fun y H4=>∃z,y=kV z/\tv σ2 H4 fun v H5=>∃m',m'<m/\W (i+1) m' (dQ ys z v) H5 else ∃m',m'<m/\W (i+1) m' ys H3)
def vq (wi:TI)(k:Nat)(js:List Nat)(g:TG)(tc:TT)(tk tv:TE):TE:=fun σ H Q=>wi σ H fun J H1=>qJ J k js g tc tk tv σ H1 fun ys H2=>∀l,H2 l=none->Q (.ref l) (upd H2 l (.dK ys))
theorem pD(hc:X.calm=true)(CS:aV X scope ts cap js)(hi:PI X tg iter wi)(hg:∀C fp s H,PG (aA X scope C fp (ts++cap) s H) tg g)
  (ht:∀C fp s H,PTs (aA X scope C fp (ts++cap) s H) ifs tc)(hk:∀C fp s H,PE (aA X scope C fp (ts++cap) s H) kx tk)(he:∀C fp s H,PE (aA X scope C fp (ts++cap) s H) vx tv)
  (hs:∀x,foldedSetIterable iter X.env x=pure x:=by intro _;rfl):PE X (.DictComp kx vx [⟨tg,iter,ifs,0⟩] scope pos) (vq wi ts.length js g tc tk tv):=by
 intro pins s σ H Q I h;refine wpAny_comprehension_free (e:=.DictComp kx vx [⟨tg,iter,ifs,0⟩] scope pos) (use:=none) rfl hs (bu (CS.cells I.ok)) CS.kind CS.names (thn (hi pins s σ H _ I h) fun v s1 h1=>thn h1 fun itv s2 h2=>?_);obtain⟨it,fp,tn,J,H2,e,I2,T,st2,f2,W,⟨m0,w0⟩,turn⟩:=h2;subst e;refine jr (Fin:=fun ys H2=>∀l,H2 l=none->Q (.ref l) (upd H2 l (.dK ys))) (RR:=fun acc C=>compPost (model X.prog X.w) X.A X.xe none (EP X pins σ Q) acc C) I2 ⟨T.obj,T.keep,T.self⟩ (fun C=>⟨T.item (aA X scope C fp (ts++cap) s2 H2) rfl rfl rfl hc,T.done (aA X scope C fp (ts++cap) s2 H2) rfl rfl rfl hc⟩) st2 f2 CS hg ht hk he w0 turn ?_;intro D C s' H' ys m I' hn hC hD hCD hHC hHD fin;have szL:=I2.lt;have low:∀b o,s2.heap.get? b=some o->b≠C:=fun b o e=>zJ (zP (Dh e) hC);refine⟨m,hn,fun h' hs'=>⟨.ref D,_,cG (n0:=0) I' (Heap.get?_none_of_le (zO I2.sz hC)) (zJ (zP szL hC)) (fun x c e=>?_) (fun p hp=>?_) (by rw[aq hCD];exact hHC) hs',rfl,fin D hHD⟩⟩
 ·obtain⟨v,o,ho,_⟩:=I2.cell x c e;exact low c o ho
 ·exact low _ _ (I2.pin p hp).1
end
theorem lG{P:Program}{w:World}{es:List DictEntry}{vs:List (Key×Value)}(h:Pairs (aI P w) es vs):es.length=vs.length:=by
 induction h with
 |nil=>rfl
 |cons _ _ _ ih=>exact congrArg (·+1) ih
theorem pJ{P:Program}{w:World}{es:List DictEntry}{vs:List (Key×Value)}(h:Pairs (aI P w) es vs):∀{i:Nat}{e:DictEntry}{q:Key×Value},es[i]?=some e->vs[i]?=some q->(aI P w).is q.1 e.key=true:=by
 induction h with
 |nil=>intro i e q h1;simp at h1
 |cons a _ _ ih=>
  intro i e q h1 h2;cases i with
  |zero=>simp at h1 h2;subst h1 h2;exact a
  |succ i=>exact ih (by simpa using h1) (by simpa using h2)
theorem KV.at:∀{kvs:List (Key×V)}{xs:List (Key×Value)}{i:Nat}{p:Key×V},KV kvs xs->kvs[i]?=some p->∃q,xs[i]?=some q/\p.1=q.1/\RelV p.2 q.2
 |_,_,_,_,.nil,h=>by simp at h
 |_,_,0,_,.cons r _,h=>by simp at h;subst h;exact⟨_,rfl,r⟩
 |_,_,i+1,p,.cons _ t,h=>by
  obtain⟨q,e,r⟩:=KV.at (i:=i) (p:=p) t (by simpa using h);exact⟨q,by simpa using e,r⟩
def ItK (a:Addr)(o:Obj)(kvs:List (Key×V)):It:=
 ⟨fun i H=>H a=some (.frz o (.dK kvs))/\(∀p∈kvs,∃z,p.1=Sum.inr z)/\i<kvs.length,fun i H x H'=>H'=H/\∃p z,kvs[i]?=some p/\p.1=Sum.inr z/\x=.str z,fun i H=>H a=some (.frz o (.dK kvs))/\(∀p∈kvs,∃z,p.1=Sum.inr z)/\kvs.length<=i⟩
theorem kZ{P:Program}{w:World}{K:W.Frag}{tg:Expr}(a it:Addr)(o:Obj)(kvs:List (Key×V)):Turn P w K tg (ItK a o kvs) [it] it (fun i h=>∃es ep,o.data=.dict es ep/\es.size=kvs.length/\h.IsKeyIter it a i es.size ep) where
 mem:=by simp
 obj:=fun i h st b hb=>by
  have e:b=it:=by simpa using hb
  subst e;obtain⟨es,ep,_,_,o',e,c,d⟩:=st;exact⟨o',e,fun v z=>by rw[d] at z;cases z⟩
 keep:=fun i h h' st k=>by
  obtain⟨es,ep,e1,e2,st⟩:=st;exact⟨es,ep,e1,e2,st.at fun o e=>k it (by simp) o e⟩
 item:=by
  intro X hP hw hK hc i pins s σ H E I hf st hg;subst hP hw hK;obtain⟨es,ep,hd,hn,st⟩:=st;obtain⟨ha,hs,hi⟩:=hg;obtain⟨hoa,hz,hm,xs,kt,o',es',ep',ho',hc',hd',hks,he',_⟩:=I.hok a _ ha;rw[hoa] at ho';cases ho';rw[hd] at hd';cases hd';have hi':i<es.size:=by lia
  obtain⟨f0,f1,f2,f3,f4,f5⟩:=hf it (by simp);refine pM st hoa hd hi' fun h' st' sb=>?_;have I1:Inv X pins σ H {s with heap:=h'}:=I.turned (t':=s.toks) (fun b o hb e=>(sb.2 b hb).trans e) f0 f1 f3 f4 f5;obtain⟨q,eq,e1,e2⟩:=KV.at kt (zN hi);obtain⟨z,ez⟩:=hs kvs[i] (An hi);have e4:(aI X.prog X.w).is q.1 es[i].key=true:=pJ he' (by simp[hi']) eq;rw[<- e1,ez] at e4;obtain⟨tz,ev⟩:=qV e4;obtain⟨oi,e,c,d⟩:=id st';rw[ev];exact⟨_,rfl,nU (s:={s with heap:=h'}) e c d (by decide) ⟨.str z,H,I1,⟨tz,rfl⟩,⟨rfl,kvs[i],z,zN hi,ez,rfl⟩,⟨es,ep,hd,hn,st'⟩,fun b hb=>(hf b hb).1⟩⟩
 done:=by
  intro X hP hw hK hc i pins s σ H E I hf st hg;subst hP hw hK;obtain⟨es,ep,hd,hn,st⟩:=st;obtain⟨ha,hs,hi⟩:=hg;obtain⟨hoa,_⟩:=I.hok a _ ha;obtain⟨f0,f1,f2,f3,f4,f5⟩:=hf it (by simp);exact tj (I.ok.hd hc) st hoa hd (by lia) fun h' eb=>⟨rfl,I.turned (t':=s.toks) (fun b o hb e=>eb b o hb e) f0 f1 f3 f4 f5⟩
 self:=fun _ _ _ _ _ st h=>by
  obtain⟨es,ep,_,_,st⟩:=st;exact wpAny_pyIter_keyiter st h
section
variable {X:Cx}{tg:Expr}
def uN (tl:TE):TI:=fun σ H R=>tl σ H fun x H1=>∃a kvs,x=.ref a/\H1 a=some (.dK kvs)/\∀o,R (ItK a o kvs) (upd H1 a (.frz o (.dK kvs)))
theorem qq{l:Expr}{tl:TE}(hl:PE X l tl):PI X tg l (uN tl):=by
 intro pins s σ H R I h;refine thn (hl pins s σ H _ I h) fun v s1 hq86=>?_;obtain⟨x,H1,I1,r1,q1⟩:=hq86;obtain⟨a,kvs,e,hd,q⟩:=q1;subst e;cases r1;obtain⟨hz,hm,xs,kt,o,es,ep,ho,hc,hdd,hks,he,_⟩:=I1.hok a _ hd;refine km hm ho hc hdd ?_;have I2:=I1.freeze hd ho (fun _ z=>by cases z) (fun _ _ z=>by cases z) (fun _ z=>by cases z) (fun _ z=>by cases z);have hn:es.size=kvs.length:=by
  have h1:es.toList.length=xs.length:=lG he;rw[zR] at h1;rw[h1];exact kt.length.symm
 refine⟨s1.heap.objs.size,[s1.heap.objs.size],_,_,upd H1 a (.frz o (.dK kvs)),rfl,I2.kept (t':=s1.toks) fun b o e=>Dw _ e,kZ a _ o kvs,⟨es,ep,hdd,hn,_,Dx _ rfl,rfl,rfl⟩,fun b hb=>?_,q o⟩;have e:b=s1.heap.objs.size:=by simpa using hb
 subst e;exact I2.HX (zE _) (I2.hok.fresh (zE _))
end
abbrev NxD(n i:Nat)(P:Nat->List (Key×V)->Hp->Prop)(ys:List (Key×V))(H:Hp):Prop:=∃m',m'<n-i/\(m'=n-(i+1)/\i+1<=n/\P (i+1) ys H)
theorem NxD.mk{n i:Nat}{P:Nat->List (Key×V)->Hp->Prop}{ys:List (Key×V)}{H:Hp}(hi:i<n)(h:P (i+1) ys H):NxD n i P ys H:=⟨n-(i+1),by lia,rfl,hi,h⟩
theorem uq{K:W.Frag}{a:Addr}{xs:List V}{k:Nat}{js:List Nat}{g:TG}{tc:TT}{tk tv:TE}{σ:St}{H:Hp}{Q:List (Key×V)->Hp->Prop}(P:Nat->List (Key×V)->Hp->Prop)(h0:P 0 [] H)(hz:∀i ys H,i<=xs.length->P i ys H->ys.length<=i)(hn:xs.length<=4000000)
  (hl:∀i ys H,i<=xs.length->P i ys H->SqL K H a xs)
  (hs:∀i x ys H,xs[i]?=some x->P i ys H->g x (List.replicate k none++bO js σ) H fun σ2 H2=>tc σ2 H2 fun b H3=>if b=true then tk σ2 H3 fun y H4=>∃z,y=kV z/\tv σ2 H4 fun v H5=>NxD xs.length i P (dQ ys z v) H5 else NxD xs.length i P ys H3)
  (hd:∀ys H,P xs.length ys H->Q ys H):qJ (Itl K a) k js g tc tk tv σ H Q:=by
 refine⟨fun i m ys H=>m=xs.length-i/\i<=xs.length/\P i ys H,⟨_,rfl,zX _,h0⟩,?_⟩;rintro i m ys H ⟨rfl,hi,p⟩;have q:=hl i ys H hi p;have ly:=hz i ys H hi p;by_cases hlt:i<xs.length
 ·refine .inr ⟨⟨xs,xs[i],q,by simp[hlt]⟩,by lia,fun x H' y=>?_⟩;obtain⟨e,y⟩:=y;subst e;exact hs i x ys _ (y xs q) p
 ·have e:i=xs.length:=by lia
  subst e;exact .inl ⟨⟨xs,q,zE _⟩,by lia,hd ys H p⟩
theorem vo{a:Addr}{o:Obj}{kvs:List (Key×V)}{k:Nat}{js:List Nat}{g:TG}{tc:TT}{wi1:TI}{g1:TG}{tc1:TT}{te:TE}{σ:St}{H:Hp}{Q:VK}(hk:∀p∈kvs,∃z,p.1=Sum.inr z)(P:Nat->List V->Hp->Prop)(h0:P 0 [] H)(hz:∀i ys H,i<=kvs.length->P i ys H->ys.length<=sizeLine)
  (hl:∀i ys H,i<=kvs.length->P i ys H->H a=some (.frz o (.dK kvs)))
  (hs:∀i z v ys H,kvs[i]?=some (Sum.inr z,v)->P i ys H->g (.str z) (List.replicate k none++bO js σ) H fun σ2 H2=>tc σ2 H2 fun b H3=>if b=true then wi1 σ2 H3 fun J1 H4=>gx J1 g1 tc1 te σ2 H4 ys fun ys' H5=>Nx kvs.length i P ys' H5 else Nx kvs.length i P ys H3)
  (hd:∀ys H,P kvs.length ys H->∀p,H p=none->Q (.ref p) (upd H p (.lst ys))):kr (ItK a o kvs) k js g tc wi1 g1 tc1 te σ H Q:=
 kq P h0 hz (fun i ys H h p=>⟨hl i ys H (Ax h) p,hk,h⟩) (fun ys H p=>⟨hl _ ys H (zE _) p,hk,zE _⟩) (fun i ys H x H' hi p y=>by
  obtain⟨e,q,z,h1,h2,h3⟩:=y;subst e h3;refine hs i z q.2 ys _ ?_ p
  rw[h1,<- h2]) hd
theorem uy{K:W.Frag}{a:Addr}{xs:List V}{g:TG}{tc:TT}{te:TE}{σ0:St}{H0:Hp}{ys0:List V}{Q:List V->Hp->Prop}(P:Nat->St->List V->Hp->Prop)(h0:P 0 σ0 ys0 H0)(hz:∀j σ ys H,j<=xs.length->P j σ ys H->ys.length<sizeLine)
  (hl:∀j σ ys H,j<=xs.length->P j σ ys H->SqL K H a xs)
  (hs:∀j σ ys H x,xs[j]?=some x->P j σ ys H->g x σ H fun σ2 H2=>tc σ2 H2 fun b H3=>if b=true then te σ2 H3 fun y H4=>NxV xs.length j P σ2 (ys++[y]) H4 else NxV xs.length j P σ2 ys H3)
  (hd:∀σ ys H,P xs.length σ ys H->Q ys H):gx (Itl K a) g tc te σ0 H0 ys0 Q:=
 jQ P h0 hz (fun j σ ys H h p=>⟨xs,xs[j],hl j σ ys H (Ax h) p,by simp [h]⟩) (fun σ ys H p=>⟨xs,hl _ σ ys H (zE _) p,zE _⟩) (fun j σ ys H x H' hj p y=>by
  obtain⟨e,y⟩:=y;subst e
  exact hs j σ ys _ x (y xs (hl j σ ys _ (Ax hj) p)) p) hd
theorem Hj:bootBuiltins "int"=some (.type "int"):=by decide +kernel
theorem GN:bootBuiltins "bool"=some (.type "bool"):=by decide +kernel
theorem Fn:bootBuiltins "tuple"=some (.type "tuple"):=by decide +kernel
theorem EC:bootBuiltins "list"=some (.type "list"):=by decide +kernel
theorem Jm:bootBuiltins "str"=some (.type "str"):=by decide +kernel
theorem HW:bootBuiltins "len"=some (.builtin "len"):=by decide +kernel
theorem DR:bootBuiltins "isinstance"=some (.builtin "isinstance"):=by decide +kernel
theorem FN:bootBuiltins "all"=some (.builtin "all"):=by decide +kernel
theorem Jq:bootBuiltins "max"=some (.builtin "max"):=by decide +kernel
theorem Fj:bootBuiltins "min"=some (.builtin "min"):=by decide +kernel
theorem ao{X:Cx}{scope:Scope}{ts cap:List Str}{js:List Nat}(h1:scope.kind=.function)(h2:(scope.names.all fun y=>y.2 != .cell)=true)(h3:(scope.names.all fun y=>y.2 != .local||scope.names.lookup y.1==some .local)=true)
  (h4:(scope.names.all fun y=>y.2 != .free||X.env.kindOf y.1==some .cell||X.env.kindOf y.1==some .free)=true)(h5:cap.map some=js.map fun j=>X.N[j]?)(h6:(cap.all fun y=>scope.names.lookup y==some .free)=true)(h7:(ts++cap).Nodup):aV X scope ts cap js where
 kind:=h1
 one:=fun y hy e=>by have:=AK.mp h2 y hy;rw[e] at this;cases this
 names:=fun y hy e=>by
  have:=AK.mp h3 y hy;rw[e] at this;simpa using this
 free:=fun y hy e=>by
  have:=AK.mp h4 y hy;rw[e] at this;simpa using this
 IH:=h5
 JS:=fun _ _ z=>by cases z
 JH:=fun y hy=>by
  have:=AK.mp h6 y hy;simpa using this
 nd:=h7
theorem bB{env:Env}{c j pos}{es:List Expr}:starEach (.Constant c j pos::es) env=(false,eval (.Constant c j pos) env)::starEach es env:=rfl
theorem aC{env:Env}{x pos}{es:List Expr}:starEach (.Name x pos::es) env=(false,eval (.Name x pos) env)::starEach es env:=rfl
theorem fE{env:Env}{a b c pos}{es:List Expr}:starEach (.Call a b c pos::es) env=(false,eval (.Call a b c pos) env)::starEach es env:=rfl
def strOf:Expr->Option Str
 |.Constant (.str x) _ _=>some x
 |_=>none
structure DD where
 f:Addr
 fd:FuncData
structure Def(K:W.Frag)(mg:Str->Option Value)(x:Str)(st:Stmt)(ps:List Str)(d:DD):Prop where
 fn:Fun K x x st d.f d.fd
 m:mg x=some (.ref d.f)
 b:Binds K d.fd ps []
def hid (p:Addr)(H:Hp):Hp:=fun b=>if b=p then none else H b
theorem dG{p b:Addr}{H:Hp}(h:b≠p):hid p H b=H b:=CY h
theorem bg(p:Addr)(H:Hp):DO (hid p H) H:=fun b o e=>by
 unfold hid at e;split at e
 ·cases e
 ·exact e
theorem DO.hid{p:Addr}{H H':Hp}(e:DO H H'):DO (hid p H) (L2.hid p H'):=fun b o q=>by
 unfold L2.hid at q ⊢;split at q
 ·cases q
 ·rename_i h;rw[CY h];exact e b o q
def DOk (a b c:Int):Prop:=1<=b/\b<=2147483648/\1000000000<=c/\c<=2147483647
def Ds (H:Hp)(p:Addr):Prop:=∃a b c,H p=some (.lst [.int a,.int b,.int c])/\DOk a b c
structure Dr(p:Addr)(H H':Hp):Prop where
 same:DO (hid p H) (hid p H')
 ds:Ds H' p
theorem Dr.trans{p:Addr}{H H1 H2:Hp}(a:Dr p H H1)(b:Dr p H1 H2):Dr p H H2:=⟨a.same.trans b.same,b.ds⟩
theorem Ds.same{p:Addr}{H H':Hp}(h:Ds H p)(e:DO H H'):Ds H' p:=by
 obtain⟨a,b,c,q,r⟩:=h;exact⟨a,b,c,e _ _ q,r⟩
theorem Dr.of_same{p:Addr}{H H':Hp}(h:Ds H p)(e:DO H H'):Dr p H H':=⟨e.hid,h.same e⟩
theorem Dr.Ii{p:Addr}{H:Hp}{a b c:Int}(h:DOk a b c):Dr p H (upd H p (.lst [.int a,.int b,.int c])):=
 ⟨fun q o e=>by
  unfold hid at e ⊢;split at e
  ·cases e
  ·rename_i n;rw[CY n,aq n];exact e,a,b,c,ae,h⟩
theorem Ds.ne{p q:Addr}{H:Hp}(h:Ds H p)(n:H q=none):p≠q:=by
 obtain⟨a,b,c,e,_⟩:=h;exact ax e n
theorem Dr.new{p q:Addr}{H:Hp}(h:Ds H p)(n:H q=none)(o:HO):Dr p H (upd H q o):=Dr.of_same h (ag n o)
theorem eM{p q:Addr}{H:Hp}(h:Ds H p)(n:H q=none)(o:HO):hid p (upd H q o) q=some o:=by
 rw[dG (Dv (h.ne n)),ae]
structure Tb where
 a:Int
 b:Int
 c:Int
 d:Int
def Tb.vs(t:Tb):List V:=[.int t.a,.int t.b,.int t.c,.int t.d]
def Tb.mul(s t:Tb):Tb:=⟨s.a*t.a+s.b*t.c,s.a*t.b+s.b*t.d,s.c*t.a+s.d*t.c,s.c*t.b+s.d*t.d⟩
def Tb.one:Tb:=⟨1,0,0,1⟩
def Tb.worth(t:Tb):Int:=t.a*t.d-t.b*t.c
def Tb.dat(t:Tb):PyData:=.tuple [.int t.a,.int t.b,.int t.c,.int t.d]
def T4 (K:W.Frag)(H:Hp)(v:V)(t:Tb):Prop:=∃a,v=.ref a/\SqT K H a t.vs
def T4o (H:Hp)(v:V)(t:Tb):Prop:=∃a,v=.ref a/\H a=some (.tup t.vs)
theorem T4o.t4{K:W.Frag}{H:Hp}{v:V}{t:Tb}(h:T4o H v t):T4 K H v t:=by
 obtain⟨a,rfl,e⟩:=h;exact⟨a,rfl,SqT.of e⟩
theorem T4o.mono{H H':Hp}{v:V}{t:Tb}(h:T4o H v t)(e:DO H H'):T4o H' v t:=by
 obtain⟨a,rfl,q⟩:=h;exact⟨a,rfl,e _ _ q⟩
theorem T4.mono{K:W.Frag}{H H':Hp}{v:V}{t:Tb}(h:T4 K H v t)(e:DO H H'):T4 K H' v t:=by
 obtain⟨a,rfl,q⟩:=h;exact⟨a,rfl,e.Kc q⟩
theorem T4.dat{K:W.Frag}{H:Hp}{v:V}{t:Tb}(h:T4 K H v t):EF K H v t.dat:=by
 obtain⟨a,rfl,q⟩:=h;exact .tup q (.cons (.int _) (.cons (.int _) (.cons (.int _) (.cons (.int _) .nil))))
theorem Tb.lay(t:Tb):t.dat.canLay0=true:=rfl
theorem Tb.depth(t:Tb):t.dat.depth<=60:=by show 1<=60;decide
theorem Tb.eqv(t:Tb):PyData.eqv t.dat t.dat=true:=SeqAt.eqv_refl _ t.lay
def Lt2 (n:Nat)(x:Int):Prop:=x.natAbs<2^n
structure Bd(n:Nat)(t:Tb):Prop where
 a:Lt2 n t.a
 b:Lt2 n t.b
 c:Lt2 n t.c
 d:Lt2 n t.d
theorem Lt2.mono{n m:Nat}{x:Int}(h:Lt2 n x)(l:n<=m):Lt2 m x:=zP h (CD (by decide) l)
theorem Bd.mono{n m:Nat}{t:Tb}(h:Bd n t)(l:n<=m):Bd m t:=⟨h.a.mono l,h.b.mono l,h.c.mono l,h.d.mono l⟩
theorem Lt2.dot{n m:Nat}{a e b g:Int}(ha:Lt2 n a)(he:Lt2 m e)(hb:Lt2 n b)(hg:Lt2 m g):Lt2 (n+m+1) (a*e+b*g):=by
 unfold Lt2 at *;have h1:(a*e+b*g).natAbs<=(a*e).natAbs+(b*g).natAbs:=Int.natAbs_add_le _ _;rw[Int.natAbs_mul,Int.natAbs_mul] at h1;have h2:a.natAbs*e.natAbs<2^n*2^m:=Nat.mul_lt_mul'' ha he;have h3:b.natAbs*g.natAbs<2^n*2^m:=Nat.mul_lt_mul'' hb hg;rw[Nat.pow_succ,Nat.pow_add];lia
theorem Bd.mul{n m:Nat}{s t:Tb}(hs:Bd n s)(ht:Bd m t):Bd (n+m+1) (s.mul t):=
 ⟨hs.a.dot ht.a hs.b ht.c,hs.a.dot ht.b hs.b ht.d,hs.c.dot ht.a hs.d ht.c,hs.c.dot ht.b hs.d ht.d⟩
theorem Lt2.bits{n:Nat}{x:Int}(h:Lt2 n x):Builtin.Int.intBits x<=n:=by
 unfold Builtin.Int.intBits;unfold Lt2 at h;split
 ·exact zX _
 ·rename_i z;have nz:x.natAbs≠0:=fun q=>z (by rw[Int.natAbs_eq_zero.mp q];rfl);exact(Nat.log2_lt nz).mpr h
theorem Lt2.big{n m:Nat}{x y:Int}(hx:Lt2 n x)(hy:Lt2 m y)(hn:n<=1048576)(hm:m<=1048576):vG x y:=⟨zO hx.bits hn,zO hy.bits hm⟩
def Fs:V->Bool
 |.int _=>true
 |_=>false
inductive Kn(H:Hp):V->Prop where
 |non:Kn H .non
 |bl (b:Bool):Kn H (.bl b)
 |int (i:Int):Kn H (.int i)
 |str (x:Str):Kn H (.str x)
 |lst {a:Addr}{xs:List V} (e:H a=some (.lst xs)):Kn H (.ref a)
 |tup {a:Addr}{xs:List V} (e:H a=some (.tup xs)):Kn H (.ref a)
inductive Th(H:Hp):V->Bool->Prop where
 |non:Th H .non false
 |bl (b:Bool):Th H (.bl b) false
 |int (i:Int):Th H (.int i) false
 |str (x:Str):Th H (.str x) false
 |lst {a:Addr}{xs:List V} (e:H a=some (.lst xs)):Th H (.ref a) false
 |tup {a:Addr}{xs:List V} (e:H a=some (.tup xs)) (k:∀x∈xs,Kn H x):Th H (.ref a) (xs.length==4&&xs.all Fs)
section
variable {K:PySem.W.Frag}{H:Hp}{v:V}
def Kh:V->Bool
 |.int _=>true
 |.bl _=>true
 |_=>false
def isB:V->Bool
 |.bl _=>true
 |_=>false
theorem Kn.as_int(h:Kn H v):∃t,FQ K H v t/\W.kitOne K t (.type "int")=some (Kh v):=by
 cases h with
 |non=>exact⟨_,.non,rfl⟩
 |bl b=>exact⟨_,.bl b,rfl⟩
 |int i=>exact⟨_,.int i,rfl⟩
 |str x=>exact⟨_,.str x,rfl⟩
 |lst e=>exact⟨_,.lst e,rfl⟩
 |tup e=>exact⟨_,.tup e,rfl⟩
theorem Kn.as_bool(h:Kn H v):∃t,FQ K H v t/\W.kitOne K t (.type "bool")=some (isB v):=by
 cases h with
 |non=>exact⟨_,.non,rfl⟩
 |bl b=>exact⟨_,.bl b,rfl⟩
 |int i=>exact⟨_,.int i,rfl⟩
 |str x=>exact⟨_,.str x,rfl⟩
 |lst e=>exact⟨_,.lst e,rfl⟩
 |tup e=>exact⟨_,.tup e,rfl⟩
end
def Hm:Sp:=fun vs H Q _=>∃v,vs=[v]/\Kn H v/\Q (.bl (Fs v)) H
def FE:Sp:=fun vs H Q _=>∃v b,vs=[v]/\Th H v b/\∀H',DO H H'->Q (.bl b) H'
structure Hs(H:Hp)(L:List (Addr×HO))(H':Hp):Prop where
 all:DO H H'
 at':∀a o,(a,o)∈L->H' a=some o
 nd:(L.map (·.1)).Nodup
 fr:∀a o,(a,o)∈L->H a=none
theorem Hs.start(H:Hp):Hs H [] H:=⟨DO.refl H,fun _ _ h=>absurd h (by simp),by simp,fun _ _ h=>absurd h (by simp)⟩
theorem Hs.new{H H':Hp}{L:List (Addr×HO)}{a:Addr}(h:Hs H L H')(n:H' a=none)(o:HO):Hs H (L++[(a,o)]) (upd H' a o) where
 all:=h.all.trans (ag n o)
 at':=fun b u hm=>by
  rcases zH.mp hm with z|z
  ·exact ag n o _ _ (h.at' b u z)
  ·have e:(b,u)=(a,o):=by simpa using z
   cases e;exact ae
 nd:=by
  rw[zV,BK];refine⟨h.nd,by simp,fun x hx y hy=>?_⟩;have ey:y=a:=by simpa using hy
  subst ey;obtain⟨⟨b,u⟩,hb,e⟩:=zM.mp hx;cases e;exact ax (h.at' b u hb) n
 fr:=fun b u hm=>by
  rcases zH.mp hm with z|z
  ·exact h.fr b u z
  ·have e:(b,u)=(a,o):=by simpa using z
   cases e;exact h.all.free n
theorem Hs.get{H H':Hp}{L:List (Addr×HO)}{a:Addr}{o:HO}(h:Hs H L H')(i:Nat)(e:L[i]?=some (a,o):=by rfl):H' a=some o:=h.at' a o (zS e)
theorem Hs.ne{H H':Hp}{L:List (Addr×HO)}{a b:Addr}{o u:HO}(h:Hs H L H')(i j:Nat)(ij:i≠j)(e:L[i]?=some (a,o):=by rfl)(f:L[j]?=some (b,u):=by rfl):a≠b:=fun z=>by
 have e1:(L.map (·.1))[i]?=some a:=by rw[zW,e];rfl
 have f1:(L.map (·.1))[j]?=some b:=by rw[zW,f];rfl
 rw[z] at e1;obtain⟨hi,e2⟩:=zL.mp e1;obtain⟨hj,f2⟩:=zL.mp f1;exact ij ((List.getElem_inj h.nd).mp (e2.trans f2.symm))
theorem Hs.put{H H':Hp}{L:List (Addr×HO)}{a:Addr}{o:HO}(h:Hs H L H')(i:Nat)(o':HO)(e:L[i]?=some (a,o):=by rfl):Hs H (L.set i (a,o')) (upd H' a o') where
 all:=fun b u q=>by
  have ha:=h.fr a o (zS e);rw[aq (ax q ha)];exact h.all b u q
 at':=fun b u hm=>by
  obtain⟨j,ej⟩:=List.getElem?_of_mem hm;by_cases hj:i=j
  ·subst hj;have hi:=(zL.mp e).1;rw[BA hi] at ej;cases ej;exact ae
  ·rw[BB hj] at ej;rw[aq (Dv (h.ne i j hj e ej))];exact h.at' b u (zS ej)
 nd:=by
  have:(L.set i (a,o')).map (·.1)=L.map (·.1):=by
   apply BW;intro j;rw[zW,zW];by_cases hj:i=j
   ·subst hj;have hi:=(zL.mp e).1;rw[BA hi,e];rfl
   ·rw[BB hj]
  rw[this];exact h.nd
 fr:=fun b u hm=>by
  obtain⟨j,ej⟩:=List.getElem?_of_mem hm;by_cases hj:i=j
  ·subst hj;have hi:=(zL.mp e).1;rw[BA hi] at ej;cases ej;exact h.fr a o (zS e)
  ·rw[BB hj] at ej;exact h.fr b u (zS ej)
theorem Hs.mono{H H' H'':Hp}{L:List (Addr×HO)}(h:Hs H L H')(s:DO H' H''):Hs H L H'':=⟨h.all.trans s,fun a o m=>s _ _ (h.at' a o m),h.nd,h.fr⟩
theorem aJ{X:Cx}{e:Expr}{te:TE}(h:PE X e te)(hs:starEach [e] X.env=(false,eval e X.env)::starEach [] X.env):PA X [e] (fD te GI):=@DI _ _ _ _ _ h (@DZ _) hs
theorem aU{X:Cx}{r:List V->Hp->VK->Prop}{e:Expr}{te:TE}{p pos:Pos}(hc:cb X (.builtin "len") r)(hg:Gl X "len")(hm:X.mg "len"=none)(h:PE X e te)(hs:starEach [e] X.env=(false,eval e X.env)::starEach [] X.env):PE X (.Call (.Name "len" p) [e] [] pos) (tCB r (fD te GI)):=@aG _ _ _ _ _ _ _ _ _ hc hg hm HW (aJ h hs) (by decide) (by decide) hs rfl
theorem bh{X:Cx}{k k':Nat}{x:Str}{st:Stmt}{ps:List Str}{d:DD}{sp:Sp}{p pos:Pos}{e:Expr}{es:List Expr}{t:TA}(D:Def X.K X.mg x st ps d)(F:DS X.prog X.w X.K X.mg X.base CX0 k d.f d.fd ps sp)(hk:k<=k')(hr:ES k' X.A)(hg:Gl X x)(ha:PA X (e::es) t)(hdb:(x==("__debug__":Str))=false)(he:starEach (e::es) X.env=(false,eval e X.env)::starEach es X.env)(hpl:(backTo pos (starEach es X.env)).any (·.1)=false):PE X (.Call (.Name x p) (e::es) [] pos) (rC sp [] E0 t):=@nv _ _ _ _ _ _ _ _ _ _ _ _ _ _ _ _ (F.mono hk) hr hg D.m D.fn.kp D.b .nil tV ha hdb he hpl
theorem bD{X:Cx}{k k':Nat}{x:Str}{st:Stmt}{ps:List Str}{d:DD}{sp:Sp}{p pos:Pos}{e:Expr}{te:TE}(D:Def X.K X.mg x st ps d)(F:DS X.prog X.w X.K X.mg X.base CX0 k d.f d.fd ps sp)(hk:k<=k')(hr:ES k' X.A)(hg:Gl X x)(h:PE X e te)(hs:starEach [e] X.env=(false,eval e X.env)::starEach [] X.env)(hdb:(x==("__debug__":Str))=false):PE X (.Call (.Name x p) [e] [] pos) (rC sp [] E0 (fD te GI)):=@bh _ _ _ _ _ _ _ _ _ _ _ _ _ D F hk hr hg (aJ h hs) hdb hs rfl
theorem nj{X:Cx}{c:Str}{j:Nat}{cp apos cpos:Pos}{e:Expr}{te:TE}(h:PE X e te)(hs:starEach [e] X.env=(false,eval e X.env)::starEach [] X.env)(hfew:((backTo cpos (starEach [e] X.env)).all (fun x=>!x.1)&&(backToKw cpos (keywordEach [] X.env)).all (fun x=>x.1.isSome)&&decide ([e].length+([]:List Keyword).length+(if ([]:List Keyword).isEmpty then 0 else 1)<30))=true)(hline:(apos.endLine==cpos.line)=true):PE X (.Call (.Attribute (.Constant (.str c) j cp) "join" apos) [e] [] cpos) (tBM X.K "str" (uG X.K) (tC (.str c)) (fD te GI)):=@fG _ _ _ _ _ _ _ _ _ _ _ _ Dk PySem.F.slot_str_join PySem.F.type_str_join ID (bA _) (aJ h hs) rfl hfew hline hs rfl
theorem eQ{X:Cx}{apos cpos:Pos}{o e:Expr}{to te:TE}(ho:PE X o to)(h:PE X e te)(hs:starEach [e] X.env=(false,eval e X.env)::starEach [] X.env)(hbase:attributeBase o "append" X.env (eval o X.env)=eval o X.env)(hfew:((backTo cpos (starEach [e] X.env)).all (fun x=>!x.1)&&(backToKw cpos (keywordEach [] X.env)).all (fun x=>x.1.isSome)&&decide ([e].length+([]:List Keyword).length+(if ([]:List Keyword).isEmpty then 0 else 1)<30))=true)(hline:(apos.endLine==cpos.line)=true):PE X (.Call (.Attribute o "append" apos) [e] [] cpos) (tBM X.K "list" GW to (fD te GI)):=@fG _ _ _ _ _ _ _ _ _ _ _ _ Dj Dm Dl FG ho (aJ h hs) hbase hfew hline hs rfl
end L2
local macro_rules|`(tactic|walk_at "s")=>`(tactic|exact⟨rfl,rfl,rfl,by decide +kernel,rfl,by decide +kernel,by decide +kernel⟩)
set_option hygiene false in
local macro_rules|`((fk $k $d $p $s))=>`(DS P w K mg base CX0 $k ($d).f ($d).fd $p $s)|`((dg $n $i $p $d $k $s))=>`(Def K mg $n (top $i) $p $d/\(fk $k $d $p $s))
set_option hygiene false in
local macro_rules|`(tactic|exists $s)=>`(tactic|(refine D.fn.ok (N:=$s) (by walk_at "s") (fun vs H Q E h=>?_) (fun cdv A outer s H vs Q E hr h=>?_);(focus(repeat obtain⟨_,h⟩:=h);subst_vars;rfl);have hc:=hr.calm;have nd:List.Nodup (α:=Str) $s :=by decide +kernel))
local macro_rules|`(tactic|walk_at "d")=>`(tactic|try dsimp only [bX,Cx.nox,Cx.El])
set_option hygiene false in
local macro_rules|`(tactic|walk_at "u")=>`(tactic|exact fun _ _ _ _ _ _ us hl=>by first|(obtain ⟨_,rfl⟩ :=eF hl;rfl)|(obtain⟨_,_,rfl⟩:=lO hl;rfl)|(obtain⟨_,_,_,rfl⟩:=vK hl;rfl)|(obtain⟨_,_,_,_,rfl⟩:=len4 hl;rfl))
set_option hygiene false in
local macro_rules|`(($n:num))=>`(pv $n)|`((nd $s))=>`(show List.Nodup (α:=Str) $s by decide +kernel)
namespace K3
open PySem
def top (i:Nat):Stmt:=PySem.Challenge.pw_quadwords_k22_whole_free_or_twins.main.body.getD i (.Pass ⟨0,0,0,0⟩)
end K3
namespace K3
open PySem PySem.Spec PyProof.Rows L2
abbrev JC:Stmt:=top 41
def Fv:Sp:=fun vs H Q _=>∃(p:Addr)(m:Int),vs=[.ref p,.int m]/\Ds H p/\1<=m/\m<1000000000000000000000000000000000/\∀(r:Int)(H':Hp),0<=r->r<m->Dr p H H'->Q (.int r) H'
section
variable {P:Program}{w:World}{K:PySem.W.Frag}{mg:Str->Option Value}{base:Heap}
theorem Ih:DN ["draws","many","found"] ["draws","many"] (av JC):=by walk_at "s"
theorem rH{d:DD}(D:Def K mg "_law_draw" JC ["draws","many"] d):(fk 1 d ["draws","many"] Fv):=by
 refine D.fn.ok Ih (fun vs H Q E h=>?_) (fun cdv A outer s H vs Q E hr h=>?_)
 ·obtain⟨p,m,rfl,_⟩:=h;rfl
 obtain⟨p,m,rfl,⟨a,b,c,hp,hb1,hb2,hc1,hc2⟩,hm1,hm2,q⟩:=h;have nd:=Ih.nd;refine⟨_,(af (bf (aE Iz (aQ DK (0) ah (fun _ _=>rfl)) ah (aH _)) (af (ay (i:=2) nd rfl (Or.inl rfl) (aF Ez (aQ DK (0) ah (fun _ _=>rfl)) (1))) (af (fw (aF oU (aQ DK (0) ah (fun _ _=>rfl)) (1)) (qM (0) ah set_list)) (ak (aD (2))))) DP) (af (fw (aF Eb (aF Ez (aF EA (aQ DK (0) ah (fun _ _=>rfl)) ah) (aQ DK (0) ah (fun _ _=>rfl))) ah) (qM (0) ah set_list)) (ak (aD (aF Ez (aF Hq (aF Ez (aF EA (aQ DK (0) ah (fun _ _=>rfl)) (aF Eb (aF Hq (aQ DK (0) ah (fun _ _=>rfl)) ah) ah)) ah) ah) (1)))))),?_⟩
 walk_at "d"
 have g0:SqL K H p [.int a,.int b,.int c]:=SqL.of hp;refine⟨_,rfl,p,_,0,_,rfl,rfl,g0,rfl,_,_,rfl,rfl,_,rfl,tJ (fun h1=>?_) (fun h1=>?_)⟩
 ·refine⟨_,rfl,p,_,0,_,rfl,rfl,g0,rfl,_,rfl,_,_,rfl,rfl,by lia,?_⟩;refine⟨_,rfl,p,_,0,_,rfl,rfl,g0,rfl,_,rfl,_,_,rfl,rfl,⟨by lia,by lia⟩,?_⟩;refine⟨_,rfl,p,_,0,0,rfl,rfl,hp,rfl,?_⟩;refine⟨_,rfl,?_⟩;exact q _ _ (Bg _ (by lia)) (Bh _ (by lia)) (Dr.Ii ⟨hb1,hb2,hc1,hc2⟩)
 ·refine⟨_,rfl,p,_,1,_,rfl,rfl,g0,rfl,_,_,rfl,rfl,.inr ⟨by decide,by decide⟩,?_⟩;refine⟨_,rfl,p,_,2,_,rfl,rfl,g0,rfl,_,_,rfl,rfl,(show(0:Int)<c by lia),_,_,rfl,rfl,?_⟩;refine⟨_,rfl,p,_,1,1,rfl,rfl,hp,rfl,?_⟩;have e0:=Bg (b*69621) (show c≠0 by lia);have e1:=Bh (b*69621) (show(0:Int)<c by lia);have z1:1<=b*69621 % c+1:=by lia
  have z2:b*69621 % c+1<=2147483648:=by lia
  have g1:SqL K (upd H p (.lst [.int a,.int (b*69621 % c+1),.int c])) p [.int a,.int (b*69621 % c+1),.int c]:=SqL.of ae;have u0:0<=(b*69621 % c+1)/128:=Int.ediv_nonneg (by lia) (by decide);have u1:(b*69621 % c+1)/128<=16777216:=by lia
  refine⟨_,rfl,p,_,1,_,rfl,rfl,g1,rfl,_,rfl,p,_,1,_,rfl,rfl,g1,rfl,_,_,rfl,rfl,⟨by decide,by decide⟩,_,_,rfl,rfl,_,_,rfl,rfl,.inl ⟨?_,?_⟩,_,_,rfl,rfl,(show(0:Int)<2147483423 by decide),_,_,rfl,rfl,⟨by decide,by decide⟩,_,rfl,_,_,rfl,rfl,(show(0:Int)<m by lia),?_⟩
  ·lia
  ·lia
  exact q _ _ (Bg _ (by lia)) (Bh _ (by lia)) (Dr.Ii ⟨z1,z2,hc1,hc2⟩)
theorem HJ:DN ["thing"] ["thing"] (av (top 7)):=by walk_at "s"
theorem pE{d:DD}(D:Def K mg "is_whole" (top 7) ["thing"] d)(xT:mg "int"=none)(xP:mg "bool"=none)(xk:mg "isinstance"=none):(fk 1 d ["thing"] Hm):=by
 refine D.fn.ok HJ (fun vs H Q E h=>?_) (fun cdv A outer s H vs Q E hr h=>?_)
 ·obtain⟨v,rfl,_⟩:=h;rfl
 obtain⟨v,rfl,hk,q⟩:=h;refine⟨_,(ak (aD (fA (aG Eh rfl xk DR (DI (0) (DI (cf (v:=.ty "int") rfl xT Hj rfl) DZ))) (iR (qG (aG Eh rfl xk DR (DI (0) (DI (cf (v:=.ty "bool") rfl xP GN rfl) DZ)))))))),?_⟩
 walk_at "d"
 obtain⟨t1,y1,e1⟩:=hk.as_int (K:=K);obtain⟨t2,y2,e2⟩:=hk.as_bool (K:=K);refine⟨v,rfl,v,.ty "int",t1,_,_,rfl,rfl,y1,e1,_,rfl,?_⟩;cases hb:Kh v with
 |true=>
  refine xj ⟨v,rfl,v,.ty "bool",t2,_,_,rfl,rfl,y2,e2,_,rfl,?_⟩;have z:(!isB v)=Fs v:=by cases v<;>first|rfl|(cases hb)
  rw[z];exact q
 |false=>
  refine xa ?_;have z:false=Fs v:=by cases v<;>first|rfl|(cases hb)
  rw[z];exact q
theorem Ju:DN ["thing"] ["thing"] (av (top 8)):=by walk_at "s"
theorem Th.HE{H:Hp}{v:V}{b:Bool}(h:Th H v b):∃t,FQ K H v t/\((W.kitOne K t (.type "tuple")=some false/\b=false)\/(W.kitOne K t (.type "tuple")=some true/\∃a xs,v=.ref a/\H a=some (.tup xs)/\(∀x∈xs,Kn H x)/\b=(xs.length==4&&xs.all Fs))):=by
 cases h with
 |non=>exact⟨_,.non,.inl ⟨rfl,rfl⟩⟩
 |bl b=>exact⟨_,.bl b,.inl ⟨rfl,rfl⟩⟩
 |int i=>exact⟨_,.int i,.inl ⟨rfl,rfl⟩⟩
 |str x=>exact⟨_,.str x,.inl ⟨rfl,rfl⟩⟩
 |lst e=>exact⟨_,.lst e,.inl ⟨rfl,rfl⟩⟩
 |tup e k=>exact⟨_,.tup e,.inr ⟨rfl,_,_,rfl,e,k,rfl⟩⟩
theorem aw{n:Nat}(h:n<=1000000):n<=sizeLine:=zO h (by rw[sizeLine_eq];decide)
theorem tK{dw d:DD}(xH:(dg "is_whole" 7 ["thing"] dw 1 Hm))(D:Def K mg "is_table" (top 8) ["thing"] d)(xu:mg "tuple"=none)(xm:mg "len"=none)(xO:mg "all"=none)(xk:mg "isinstance"=none):(fk 2 d ["thing"] FE):=by
 refine D.fn.ok Ju (fun vs H Q E h=>?_) (fun cdv A outer s H vs Q E hr h=>?_)
 ·obtain⟨v,b,rfl,_⟩:=h;rfl
 obtain⟨v,b,rfl,ht,q⟩:=h;have hc:=hr.calm;refine⟨_,(ak (aD (fA (aG Eh rfl xk DR (DI (0) (DI (cf (v:=.ty "tuple") rfl xu Fn rfl) DZ))) (fA (bS Fc (aG DQ rfl xm HW (DI (0) DZ)) ah (aH _)) (iR (aG (dD hc) rfl xO FN (DI (aR hc (ao (ts:=["number"]) (cap:=[]) (js:=[]) rfl rfl rfl rfl rfl rfl (by decide +kernel)) (mi (0)) (fun _ _ _ _=>ar (i:=0) (nd ["number"]) rfl (Or.inl rfl) (.inr rfl)) (fun _ _ _ _=>aM) (fun _ _ _ _=>(nv (xH.2.mono (by decide)) hr rfl xH.1.m xH.1.fn.kp xH.1.b .nil tV (DI (0) DZ)))) DZ))))))),?_⟩
 walk_at "d"
 obtain⟨t1,y1,e1⟩:=Th.HE (K:=K) ht;rcases e1 with ⟨e1,eb⟩|⟨e1,a,xs,ev,ea,hk,eb⟩
 ·refine⟨v,rfl,v,.ty "tuple",t1,_,_,rfl,rfl,y1,e1,_,rfl,xa ?_⟩;rw[eb] at q;exact q H (DO.refl H)
 ·subst ev;refine⟨_,rfl,.ref a,.ty "tuple",t1,_,_,rfl,rfl,y1,e1,_,rfl,xj ?_⟩;refine⟨_,rfl,a,xs,rfl,.inr (SqT.of ea),rfl,_,rfl,tJ (fun h1=>?_) (fun h1=>?_)⟩
  ·have l4:xs.length=4:=by
    have z:=Dg h1;injection z with z;lia
   refine⟨_,rfl,a,rfl,⟨xs,SqT.of ea⟩,?_⟩;refine wL (K:=K) (xs:=xs) (fun i ys H'=>H'=H/\ys=((xs.take i).map Fs).map V.bl) ⟨rfl,by simp⟩ (fun i ys H' hi z=>?_) (aw (by lia)) (fun i ys H' hi z=>by rw[z.1];exact SqT.of ea) (fun i x ys H' hx z=>?_) (fun ys H' z p hp=>?_)
   ·rw[z.2];simp;lia
   ·obtain⟨rfl,rfl⟩:=z;have hi:i<xs.length:=(zL.mp hx).1;refine⟨x,rfl,x,rfl,hk x (zS hx),Nx.mk hi ⟨rfl,?_⟩⟩;rw[Ak,hx,zV,zV];rfl
   ·obtain⟨rfl,rfl⟩:=z;refine⟨p,(xs.map Fs),rfl,?_,?_⟩
    ·rw[Ap];exact SqL.of ae
    ·have z:((xs.map Fs).all id)=b:=by
      rw[eb,l4];simp[List.all_map]
     rw[z];exact q _ (ag hp _)
  ·have z:b=false:=by
    rw[eb];cases hb:(xs.length==4) with
    |false=>rfl
    |true=>exact absurd (Dc (congrArg (fun n:Nat=>V.int (n:Int)) (by simpa using hb))) h1
   rw[z] at q;exact q H (DO.refl H)
def qK (K:W.Frag):Sp:=fun vs H Q _=>∃u v s t n m,vs=[u,v]/\T4 K H u s/\T4 K H v t/\Bd n s/\Bd m t/\n<=1048576/\m<=1048576/\∀r H',DO H H'->T4o H' r (s.mul t)->Q r H'
def mN (K:W.Frag):Sp:=fun vs H Q _=>∃u t n,vs=[u]/\T4 K H u t/\Bd n t/\n<=1048576/\Q (.int t.worth) H
theorem pV{d:DD}(D:Def K mg "worth" (top 9) ["table"] d):(fk 1 d ["table"] (mN K)):=by
 exists["table","a","b","c","d"]
 obtain⟨u,t,n,rfl,⟨p,rfl,hp⟩,ht,hn,q⟩:=h;refine⟨_,(af (fw (0) (fq hc (aB (ar (i:=1) nd rfl (Or.inl rfl)) (aB (ar (i:=2) nd rfl (Or.inl rfl)) (aB (ar (i:=3) nd rfl (Or.inl rfl)) (aB (ar (i:=4) nd rfl (Or.inl rfl)) Ee)))))) (ak (aD (aF EL (aF fu (1) (4)) (aF fu (2) (3)))))),?_⟩
 walk_at "d"
 refine⟨_,rfl,p,_,rfl,hp,rfl,_,_,rfl,_,_,rfl,_,_,rfl,_,_,rfl,rfl,?_⟩;refine⟨_,rfl,_,rfl,_,_,rfl,rfl,ht.a.big ht.d hn hn,_,rfl,_,rfl,_,_,rfl,rfl,ht.b.big ht.c hn hn,_,_,rfl,rfl,?_⟩;exact q
theorem pI{d:DD}(D:Def K mg "_law_times" (top 39) ["one","other"] d)(xn:mg "range"=none)(xu:mg "tuple"=none):(fk 1 d ["one","other"] (qK K)):=by
 exists["one","other","found","row","column","top"]
 obtain⟨u,v,s,t,n,m,rfl,⟨p,rfl,hp⟩,⟨r,rfl,hr'⟩,hs,ht,hn,hm,q⟩:=h;refine⟨_,(af (ay (i:=2) nd rfl (Or.inl rfl) (bw DZ)) (af (bZ PassesOwn.never hc (mi (aZ (DI ah (DI ah DZ)))) (ar (i:=3) nd rfl (Or.inl rfl)) (ak (bZ PassesOwn.never hc (bp rfl xn (DI ah DZ)) (ar (i:=4) nd rfl (Or.inl rfl)) (af (ay (i:=5) nd rfl (Or.inl rfl) (aF fu (aQ Eg (0) (3) (fun _ _=>rfl)) (aQ Eg (1) (4) (fun _ _=>rfl)))) (ak (bE (fG Dj Dm Dl FG (2) (DI (aF Eb (5) (aF fu (aQ Eg (0) (aF Eb (3) ah) (fun _ _=>rfl)) (aQ Eg (1) (aF Eb ah (4)) (fun _ _=>rfl)))) DZ)))))))) (ak (aD (bW Fq rfl xu Fn (DI (2) DZ)))))),?_⟩
 walk_at "d"
 refine⟨aw (by show 0<=1000000;decide),fun f hf=>?_⟩;refine⟨aw (by show 2<=1000000;decide),fun w hw=>⟨w,rfl,⟨_,SqT.of ae⟩,?_⟩⟩;have S0:DO H (upd H f (.lst [])):=ag hf _;have S1:DO H (upd (upd H f (.lst [])) w (.tup [.int 0,.int 2])):=S0.trans (ag hw _);have nfw:f≠w:=ax (H:=upd H f (.lst [])) ae hw;have keep:∀{H':Hp}(l:List V),DO H H'->H' w=some (.tup [.int 0,.int 2])->DO H (upd H' f (.lst l))/\upd H' f (.lst l) f=some (.lst l)/\upd H' f (.lst l) w=some (.tup [.int 0,.int 2]):=fun {H'} l e1 e2=>
  ⟨fun b o e=>by rw[aq (ax e hf)];exact e1 b o e,ae,by rw[aq (Dv nfw)];exact e2⟩
 refine oG (K:=K) (xs:=[.int 0,.int 2]) (fun i σ H'=>∃o1 o2 o3,σ=[some (.ref p),some (.ref r),some (.ref f),o1,o2,o3]/\DO H H'/\H' f=some (.lst ((s.mul t).vs.take (2*i)))/\H' w=some (.tup [.int 0,.int 2]))
  ⟨none,none,none,rfl,S1,by rw[aq nfw];exact ae,ae⟩ (fun i σ H' hi z=>by obtain⟨_,_,_,_,_,_,e⟩:=z;exact SqT.of e) (fun i x σ H' hx z=>?_) (fun σ H' z=>?_)
 ·obtain⟨o1,o2,o3,rfl,e1,e2,e3⟩:=z;have hi:i<2:=(zL.mp hx).1;refine⟨2,rfl,by decide,by decide,?_⟩;refine cm (lo:=0) (n:=2) (fun j σ H'=>∃o2 o3,σ=[some (.ref p),some (.ref r),some (.ref f),some x,o2,o3]/\DO H H'/\H' f=some (.lst ((s.mul t).vs.take (2*i+j)))/\H' w=some (.tup [.int 0,.int 2]))
   ⟨o2,o3,rfl,e1,e2,e3⟩ (fun j σ H' hj z=>?_) (fun σ H' z=>?_)
  ·obtain⟨o2,o3,rfl,e1,e2,e3⟩:=z;have hp':=e1.Kc hp;have hr'':=e1.Kc hr';have fct:∃(ri α β γ δ:Int),x=.int ri/\atI s.vs ri=some (.int α)/\atI s.vs (ri+1)=some (.int β)/\atI t.vs (0+(j:Int))=some (.int γ)/\atI t.vs (2+(0+(j:Int)))=some (.int δ)/\vG α γ/\vG β δ /\
     (s.mul t).vs.take (2*i+(j+1))=(s.mul t).vs.take (2*i+j)++[.int (α * γ+β * δ)]:=by
    have two:∀k:Nat,k<2->k=0\/k=1:=fun k hk=>by lia
    rcases two i hi with rfl|rfl<;>rcases two j hj with rfl|rfl<;>(cases hx)
    ·exact⟨0,s.a,s.b,t.a,t.c,rfl,rfl,rfl,rfl,rfl,hs.a.big ht.a hn hm,hs.b.big ht.c hn hm,rfl⟩
    ·exact⟨0,s.a,s.b,t.b,t.d,rfl,rfl,rfl,rfl,rfl,hs.a.big ht.b hn hm,hs.b.big ht.d hn hm,rfl⟩
    ·exact⟨2,s.c,s.d,t.a,t.c,rfl,rfl,rfl,rfl,rfl,hs.c.big ht.a hn hm,hs.d.big ht.c hn hm,rfl⟩
    ·exact⟨2,s.c,s.d,t.b,t.d,rfl,rfl,rfl,rfl,rfl,hs.c.big ht.b hn hm,hs.d.big ht.d hn hm,rfl⟩
   obtain⟨ri,α,β,γ,δ,rfl,A0,A1,B0,B1,c1,c2,tk⟩:=fct;refine⟨_,rfl,_,rfl,p,_,ri,_,rfl,rfl,hp',A0,_,rfl,_,rfl,r,_,_,_,rfl,rfl,hr'',B0,_,_,rfl,rfl,c1,?_⟩;refine⟨_,rfl,.inl ⟨rfl,_,SqL.of e2⟩,_,rfl,_,rfl,_,rfl,_,_,rfl,rfl,p,_,_,_,rfl,rfl,hp',A1,_,rfl,_,rfl,_,_,rfl,rfl,r,_,_,_,rfl,rfl,hr'',B1,_,_,rfl,rfl,c2,_,_,rfl,rfl,?_⟩;have ln:((s.mul t).vs.take (2*i+j)).length<=4:=by rw[Aa];exact Cm _ _
   refine⟨f,_,_,rfl,rfl,e2,Bc ln (zP (show 4<1000000 by decide) (aw (zE _))),?_⟩;obtain⟨a1,a2,a3⟩:=keep ((s.mul t).vs.take (2*i+j)++[.int (α * γ+β * δ)]) e1 e3;exact⟨_,_,rfl,a1,by rw[tk];exact a2,a3⟩
  ·obtain⟨o2,o3,rfl,e1,e2,e3⟩:=z;exact⟨_,o2,o3,rfl,e1,e2,e3⟩
 ·obtain⟨o1,o2,o3,rfl,e1,e2,e3⟩:=z;refine⟨_,rfl,f,(s.mul t).vs,rfl,.inl ⟨SqL.of e2,fun l hl=>?_⟩⟩;exact q _ _ (e1.trans (ag hl _)) ⟨l,rfl,ae⟩
def dR (ts:List Tb):Tb:=ts.foldl Tb.mul Tb.one
inductive TL(K:W.Frag)(H:Hp):List V->List Tb->Prop where
 |nil:TL K H [] []
 |cons {v:V}{t:Tb}{vs:List V}{ts:List Tb}:T4 K H v t->TL K H vs ts->TL K H (v::vs) (t::ts)
theorem TL.length{H:Hp}:∀{vs:List V}{ts:List Tb},TL K H vs ts->vs.length=ts.length
 |_,_,.nil=>rfl
 |_,_,.cons _ r=>by simp[TL.length r]
theorem TL.get{H:Hp}:∀{vs:List V}{ts:List Tb}{i:Nat}{v:V},TL K H vs ts->vs[i]?=some v->∃t,ts[i]?=some t/\T4 K H v t
 |_,_,_,_,.nil,e=>by simp at e
 |_,_,0,_,.cons h _,e=>by simp at e;subst e;exact⟨_,rfl,h⟩
 |_,_,i+1,v,.cons _ r,e=>by
  obtain⟨d,h1,h2⟩:=TL.get (i:=i) (v:=v) r (by simpa using e);exact⟨d,by simpa using h1,h2⟩
theorem dX(ts:List Tb)(t:Tb):dR (ts++[t])=(dR ts).mul t:=by unfold dR;rw[List.foldl_append];rfl
theorem kJ{n:Nat}:∀{ts:List Tb},(∀t∈ts,Bd n t)->∀i,Bd ((n+1)*i+1) (dR (ts.take i)):=by
 intro ts h i;induction i with
 |zero=>exact(show Bd 1 Tb.one from⟨(by show(1:Int).natAbs<2^1;decide),(by show(0:Int).natAbs<2^1;decide),(by show(0:Int).natAbs<2^1;decide),(by show(1:Int).natAbs<2^1;decide)⟩)
 |succ i ih=>
  by_cases hi:i<ts.length
  ·rw[Ak,zN hi];show Bd _ (dR (ts.take i++[ts[i]]));rw[dX];have z:=ih.mul (h ts[i] (An hi));have e:(n+1)*(i+1)+1=(n+1)*i+1+n+1:=by rw[Nat.mul_add];lia
   rw[e];exact z
  ·have e:ts.take (i+1)=ts.take i:=by rw[Af (by lia),Af (by lia)]
   rw[e];exact ih.mono (by rw[Nat.mul_add];lia)
def jU (K:W.Frag):Sp:=fun vs H Q _=>∃l xs ts n,vs=[.ref l]/\SqL K H l xs/\TL K H xs ts/\(∀t∈ts,Bd n t)/\(n+1)*ts.length+1<=1048576/\n<=1048576/\∀r H',DO H H'->T4o H' r (dR ts)->Q r H'
theorem pG{dp d:DD}(xQ:(dg "_law_times" 39 ["one","other"] dp 1 (qK K)))(D:Def K mg "_law_made" (top 40) ["tables"] d):(fk 2 d ["tables"] (jU K)):=by
 exists["tables","found","table"]
 obtain⟨l,xs,ts,n,rfl,hl,ht,hb,hz,hn,q⟩:=h;refine⟨_,(af (ay 1 (Or.inl rfl) (aZ (DI (ah _) (DI (ah _) (DI (ah _) (aJ (ah _) bB) bB) bB) bB))) (af (bZ (aL (0)) (ar 2) (ak (ay 1 (Or.inl rfl) (bh xQ.1 xQ.2 (DI (1) (aJ (2) aC) aC))))) (ak (aD (1))))),?_⟩
 walk_at "d"
 refine⟨aw (by show 4<=1000000;decide),fun f hf=>?_⟩;refine⟨_,rfl,l,rfl,⟨xs,(ag hf _).seq hl⟩,?_⟩;refine gz (K:=K) (xs:=xs) (fun i σ H'=>∃v o,σ=[some (.ref l),some v,o]/\DO H H'/\T4o H' v (dR (ts.take i))) ⟨.ref f,none,rfl,ag hf _,⟨f,rfl,ae⟩⟩ (fun i σ H' hi z=>by obtain⟨_,_,_,e,_⟩:=z;exact e.seq hl) (fun i x σ H' hx z=>?_) (fun σ H' z=>?_)
 ·obtain⟨v,o,rfl,e1,e2⟩:=z;obtain⟨t,et,h4⟩:=ht.get hx;have hi:i<ts.length:=(zL.mp et).1;have bl:(n+1)*i+1<=1048576:=by
   have:(n+1)*i<=(n+1)*ts.length:=Nat.mul_le_mul_left _ (by lia);lia
  refine⟨_,rfl,_,rfl,v,x,dR (ts.take i),t,(n+1)*i+1,n,rfl,e2.t4,h4.mono e1,kJ hb i,hb t (zS et),bl,hn,fun r H2 S2 h2=>?_⟩;refine⟨r,_,rfl,e1.trans S2,?_⟩;rw[Ak,et];show T4o H2 r (dR (ts.take i++[t]));rw[dX];exact h2
 ·obtain⟨v,o,rfl,e1,e2⟩:=z;refine⟨v,rfl,q v H' e1 ?_⟩;rw[ht.length,Ap] at e2;exact e2
def lts:List (Nat×Tb):=[(108,⟨1,0,1,1⟩),(114,⟨1,1,0,1⟩),(117,⟨1,2,0,1⟩),(118,⟨1,0,2,1⟩),(85,⟨1,-2,0,1⟩),(86,⟨1,0,-2,1⟩)]
def qw (c:Nat):Prop:=c=108\/c=114\/c=117\/c=118\/c=85\/c=86
def cW (c:Nat):Tb:=if c=108 then ⟨1,0,1,1⟩ else if c=114 then ⟨1,1,0,1⟩ else if c=117 then ⟨1,2,0,1⟩ else if c=118 then ⟨1,0,2,1⟩ else if c=85 then ⟨1,-2,0,1⟩ else ⟨1,0,-2,1⟩
theorem rV{c:Nat}(h:qw c):Bd 2 (cW c):=by
 rcases h with rfl|rfl|rfl|rfl|rfl|rfl<;>exact⟨by show _<4;decide,by show _<4;decide,by show _<4;decide,by show _<4;decide⟩
def sS (K:W.Frag):Sp:=fun vs H Q _=>∃z:Str,vs=[.str z]/\z.cps.size<=1000/\(∀c∈z.cps.toList,qw c)/\∀r H',DO H H'->T4o H' r (dR (z.cps.toList.map cW))->Q r H'
theorem pR{z:Str}(h:∀c∈z.cps.toList,qw c):z.cps.all (·<128)=true:=by
 rw[<- Array.all_toList,AK];intro c hc;rcases h c hc with rfl|rfl|rfl|rfl|rfl|rfl<;>rfl
def adr (t1 t2 t3 t4 t5 t6:Addr)(c:Nat):Addr:=if c=108 then t1 else if c=114 then t2 else if c=117 then t3 else if c=118 then t4 else if c=85 then t5 else t6
def ni (t1 t2 t3 t4 t5 t6:Addr):List (Key×V):=cC (cC [] [(.inr "l",.ref t1),(.inr "r",.ref t2),(.inr "u",.ref t3),(.inr "v",.ref t4)]) (cC [] [(.inr "U",.ref t5),(.inr "V",.ref t6)])
theorem pN(t1 t2 t3 t4 t5 t6:Addr)(c:Nat)(h:qw c):fM (ni t1 t2 t3 t4 t5 t6) (.inr ⟨#[c]⟩)=some (.ref (adr t1 t2 t3 t4 t5 t6 c)):=by
 rcases h with rfl|rfl|rfl|rfl|rfl|rfl<;>kernel_rfl
theorem qF{H:Hp}{f:Nat->V}:∀{cs:List Nat},(∀c∈cs,qw c)->(∀c,qw c->T4o H (f c) (cW c))->TL K H (cs.map f) (cs.map cW)
 |[],_,_=>.nil
 |c::r,h,g=>.cons (g c (h c zQ)).t4 (qF (fun c hc=>h c (Ac _ hc)) g)
theorem uH{dm d:DD}(xx:(dg "_law_made" 40 ["tables"] dm 2 (jU K)))(D:Def K mg "_law_of_letters" (top 43) ["word"] d):(fk 3 d ["word"] (sS K)):=by
 exists["word","letters"]
 obtain⟨z,rfl,hz,hl,q⟩:=h;refine⟨_,(af (ay 1 (Or.inr rfl) (nE (cQ (bA _) (aZ (DI (ah _) (DI (ah _) (DI (ah _) (aJ (ah _) bB) bB) bB) bB)) (cQ (bA _) (aZ (DI (ah _) (DI (ah _) (DI (ah _) (aJ (ah _) bB) bB) bB) bB)) (cQ (bA _) (aZ (DI (ah _) (DI (ah _) (DI (ah _) (aJ (ah _) bB) bB) bB) bB)) (cQ (bA _) (aZ (DI (ah _) (DI (ah _) (DI (ah _) (aJ (ah _) bB) bB) bB) bB)) (@mJ _ _))))) (by simp))) (af (bE (fG PySem.F.plainAttrs_dict PySem.F.slot_dict_update PySem.F.type_dict_update Hg (1) (aJ (nE (cQ (bA _) (aZ (DI (ah _) (DI (tq GR (ah _)) (DI (ah _) (aJ (ah _) bB) bB) (by rfl)) bB)) (cQ (bA _) (aZ (DI (ah _) (DI (ah _) (DI (tq GR (ah _)) (aJ (ah _) bB) (by rfl)) bB) bB)) (@mJ _ _))) (by simp)) (by rfl)))) (ak (aD (bD xx.1 xx.2 (aR (ao (ts:=["letter"]) (cap:=["letters"]) (js:=[1]) rfl rfl rfl rfl rfl rfl (by decide +kernel)) (@vn _ _ _ _ (0)) (ad 0 (nd ["letter","letters"])) (@aM _) (jN (eG hr) (1) (0))) (by rfl)))))),?_⟩
 walk_at "d"
 have l4:(4:Nat)<=sizeLine:=aw (by decide);refine fun d hd=>?_;refine⟨l4,fun t1 h1=>⟨l4,fun t2 h2=>⟨l4,fun t3 h3=>⟨l4,fun t4 h4=>?_⟩⟩⟩⟩;have F4:=((((Hs.start H).new hd (.dK [])).new h1 (.tup (Tb.mk 1 0 1 1).vs)).new h2 (.tup (Tb.mk 1 1 0 1).vs)).new h3 (.tup (Tb.mk 1 2 0 1).vs) |>.new h4 (.tup (Tb.mk 1 0 2 1).vs);refine⟨F4.get 0,[(.inr "l",.ref t1),(.inr "r",.ref t2),(.inr "u",.ref t3),(.inr "v",.ref t4)],rfl,Nat.le_of_ble_eq_true rfl,?_⟩;have F5:=F4.put 0 (.dK (cC [] [(.inr "l",.ref t1),(.inr "r",.ref t2),(.inr "u",.ref t3),(.inr "v",.ref t4)]));refine⟨_,rfl,.inr (.inr (.inl ⟨rfl,.inl ⟨_,ae⟩⟩)),fun e he=>?_⟩;refine⟨_,rfl,l4,fun t5 h5=>⟨_,rfl,l4,fun t6 h6=>?_⟩⟩;have F8:=((F5.new he (.dK [])).new h5 (.tup (Tb.mk 1 (-2) 0 1).vs)).new h6 (.tup (Tb.mk 1 0 (-2) 1).vs);refine⟨F8.get 5,[(.inr "U",.ref t5),(.inr "V",.ref t6)],rfl,Nat.le_of_ble_eq_true rfl,?_⟩;have F9:=F8.put 5 (.dK (cC [] [(.inr "U",.ref t5),(.inr "V",.ref t6)]));refine⟨d,e,_,_,rfl,rfl,F9.ne 0 5 (by decide),F9.get 0,F9.get 5,aw (by show 6<=1000000;decide),?_⟩;have FA:=F9.put 0 (.dK (ni t1 t2 t3 t4 t5 t6));refine⟨_,rfl,z,rfl,pR hl,?_⟩;have okc:∀c,qw c->fM (ni t1 t2 t3 t4 t5 t6) (.inr ⟨#[c]⟩)=some (.ref (adr t1 t2 t3 t4 t5 t6 c)):=pN t1 t2 t3 t4 t5 t6;have okt:∀c,qw c->T4o _ (.ref (adr t1 t2 t3 t4 t5 t6 c)) (cW c):=fun c h=>by
  rcases h with rfl|rfl|rfl|rfl|rfl|rfl
  ·exact⟨_,rfl,FA.get 1⟩
  ·exact⟨_,rfl,FA.get 2⟩
  ·exact⟨_,rfl,FA.get 3⟩
  ·exact⟨_,rfl,FA.get 4⟩
  ·exact⟨_,rfl,FA.get 6⟩
  ·exact⟨_,rfl,FA.get 7⟩
 have gd:=FA.get 0;have all:=FA.all;refine wj (z:=z) (fun i ys H'=>H'=_/\ys=(z.cps.toList.take i).map fun c=>V.ref (adr t1 t2 t3 t4 t5 t6 c)) ⟨rfl,rfl⟩ (fun i ys H' hi y=>by rw[y.2,zF,Aa];lia) (aw (by lia)) (fun i c ys H' hc y=>?_) (fun ys H' y p hp=>?_)
 ·obtain⟨rfl,rfl⟩:=y;have hi:i<z.cps.size:=(Array.getElem?_eq_some_iff.mp hc).1;have hc':z.cps.toList[i]?=some c:=by rw[Ab];exact hc
  have lc:=hl c (zS hc');refine⟨_,rfl,_,rfl,d,.ref (adr t1 t2 t3 t4 t5 t6 c),rfl,?_,Nx.mk hi ⟨rfl,?_⟩⟩
  ·have:=Fz.k (k:=Sum.inr ⟨#[c]⟩) gd;rw[okc c lc] at this;exact this
  ·rw[Ak,hc',zV];rfl
 ·obtain⟨rfl,rfl⟩:=y;have e1:z.cps.toList.take z.cps.size=z.cps.toList:=Af (by rw[zR];exact zE _);rw[e1];refine⟨p,_,z.cps.toList.map cW,2,rfl,SqL.of ae,qF hl fun c hc=>(okt c hc).mono (ag hp _),fun t ht=>?_,?_,by decide,fun r H' S h4=>q r H' (all.trans ((ag hp _).trans S)) h4⟩
  ·obtain⟨c,hc,rfl⟩:=zM.mp ht;exact rV (hl c hc)
  ·rw[zF,zR];lia
def oe (K:W.Frag):Sp:=fun vs H Q _=>∃(a:Addr)(ns:List Int)(k:Int),vs=[.ref a,.int k]/\SqL K H a (ns.map V.int)/\0<=k/\k<=100/\∀l H',DO H H'->H l=none->Ds H' l->Q (.ref l) H'
def FL:List Int:=[2147483647,2147483629,2147483587,2147483579,2147483563,2147483549,2147483543,2147483497]
def dk (c k:Int):Int:=(c % 2147483423+3*k+1)*(48271+2*k*k) % 2147483423
def pC (c k:Int):Int:=dk c k*dk c k*dk c k % 2147483399+k+1
theorem qt{d:DD}(D:Def K mg "_law_draws" (top 45) ["script","k"] d)(xm:mg "len"=none)(xT:mg "int"=none):(fk 1 d ["script","k"] (oe K)):=by
 exists["script","k","primes","cell","seed"]
 obtain⟨a,ns,k,rfl,ha,k0,k1,q⟩:=h;obtain⟨tr,hR,qR⟩:∃t,PSs (bX CX0 P w K mg base ["script","k","primes","cell","seed"] "_law_draws" (av (top 45)) d.f cdv A outer s H E).nox ((bI (top 45)).drop 3) t /\
   ∀(c:Int)(p:Addr),H p=none->t {nx:=fun _ H'=>Q .non H',rt:=Q} [some (.ref a),some (.int k),some (.ref p),some (.int c),none] (upd H p (.tup (FL.map V.int))):=by
  refine⟨_,(af (ay 4 (Or.inl rfl) (aF Ez (aF EA (aF Eb (aF Eb (aF Ez (3) (ah _)) (aF EA (ah _) (1))) (ah _)) (aF Eb (ah _) (aF EA (aF EA (ah _) (1)) (1)))) (ah _))) (af (ay 4 (Or.inl rfl) (aF Eb (aF Eb (aF Ez (aF EA (aF EA (4) (4)) (4)) (ah _)) (1)) (ah _))) (ak (aD (bw (DI (aF EA (3) (bW GU xT Hj (aJ (bS GZ (3) (aF Gj (ah _) (ah _)) (aH _)) (by rfl)))) (DI (4) (aJ (aQ Eg (2) (aF Ez (1) (ah _))) (by rfl)) aC) (by rfl))))))),fun c p hp=>?_⟩;have c0:=Bg c (show(2147483423:Int)≠0 by decide);have c1:=Bh c (show(0:Int)<2147483423 by decide);refine⟨_,rfl,_,_,rfl,rfl,(show(0:Int)<2147483423 by decide),_,rfl,_,_,rfl,rfl,.inl ⟨by decide,by decide⟩,_,_,rfl,rfl,_,_,rfl,rfl,_,rfl,_,_,rfl,rfl,.inl ⟨by decide,by decide⟩,_,rfl,_,_,rfl,rfl,.inl ⟨by lia,by lia⟩,_,_,rfl,rfl,_,_,rfl,rfl,.inl ⟨by lia,by lia⟩,_,_,rfl,rfl,(show(0:Int)<2147483423 by decide),?_⟩;have z0:0<=dk c k:=Bg _ (by decide);have z1:dk c k<2147483423:=Bh _ (by decide);have zz0:0<=dk c k*dk c k:=Int.mul_nonneg z0 z0;have zz1:dk c k*dk c k<2^64:=Int.lt_of_le_of_lt (Int.mul_le_mul (Int.le_of_lt z1) (Int.le_of_lt z1) z0 (by decide)) (by decide);refine⟨_,rfl,_,rfl,_,_,rfl,rfl,.inl ⟨?_,?_⟩,_,rfl,_,_,rfl,rfl,.inl ⟨?_,?_⟩,_,_,rfl,rfl,(show(0:Int)<2147483399 by decide),_,rfl,_,_,rfl,rfl,_,_,rfl,rfl,?_⟩
  ·exact Int.lt_of_lt_of_le (by decide) z0
  ·exact Int.lt_trans z1 (by decide)
  ·exact Int.lt_of_lt_of_le (by decide) zz0
  ·exact zz1
  have y0:1<=pC c k/\pC c k<=2147483648:=by
   have:=Bg (dk c k*dk c k*dk c k) (show(2147483399:Int)≠0 by decide);have:=Bh (dk c k*dk c k*dk c k) (show(0:Int)<2147483399 by decide);unfold pC;lia
  have g8:0<=k % 8/\k % 8<8:=⟨Bg _ (by decide),Bh _ (by decide)⟩
  have pr:∃r:Int,atI (FL.map V.int) (k % 8)=some (.int r)/\1000000000<=r/\r<=2147483647:=by
   generalize k % 8=j at g8;have:j=0\/j=1\/j=2\/j=3\/j=4\/j=5\/j=6\/j=7:=by lia
   rcases this with rfl|rfl|rfl|rfl|rfl|rfl|rfl|rfl<;>exact⟨_,rfl,by decide,by decide⟩
  obtain⟨r,er,r0,r1⟩:=pr;refine⟨_,rfl,_,rfl,_,_,rfl,rfl,⟨by decide,by decide,by decide⟩,_,_,rfl,rfl,.inr ⟨_,rfl,_,_,rfl,rfl,.inr ⟨?_,?_⟩,_,rfl,_,rfl,_,rfl,_,_,rfl,rfl,(show(0:Int)<8 by decide),p,_,_,_,rfl,rfl,SqT.of ae,er,aw (by show 3<=1000000;decide),fun l hl=>?_⟩⟩
  ·split<;>decide
  ·split<;>decide
  have S1:=ag hp (.tup (FL.map V.int));exact q l _ (S1.trans (ag hl _)) (S1.free hl) ⟨_,pC c k,r,ae,y0.1,y0.2,r0,r1⟩
 refine⟨_,(af (ay 2 (Or.inl rfl) (aZ (DI (ah _) (DI (ah _) (DI (ah _) (DI (ah _) (DI (ah _) (DI (ah _) (DI (ah _) (aJ (ah _) bB) bB) bB) bB) bB) bB) bB) bB))) (af (ay 3 (Or.inl rfl) (aF Eb (aF EA (ah _) (1)) (ah _))) (af (bf (aE GD (1) (aU DQ xm (0) aC) (aH _)) (ak (ay 3 (Or.inl rfl) (aF Ez (aQ DK (0) (1)) (aF fu (aF Gj (ah _) (ah _)) (aF Gj (ah _) (ah _)))))) (ak (bf (aE Iz (aU DQ xm (0) aC) (ah _) (aH _)) (ak (ay 3 (Or.inl rfl) (aF Eb (aF Ez (aQ DK (0) (aF Ez (1) (aU DQ xm (0) aC))) (aF Gj (ah _) (ah _))) (aF EA (ah _) (1))))) (DP _)))) hR))),?_⟩
 walk_at "d"
 refine⟨aw (by show 8<=1000000;decide),fun p hp=>?_⟩;have S1:=ag hp (.tup (FL.map V.int));have ha1:SqL K (upd H p (.tup (FL.map V.int))) a (ns.map V.int):=S1.seq ha;have hl:(ns.map V.int).length=ns.length:=zF _;refine⟨_,rfl,_,_,rfl,rfl,.inl ⟨by decide,by decide⟩,_,_,rfl,rfl,?_⟩;refine⟨_,rfl,_,rfl,a,_,rfl,.inl ha1,_,_,rfl,rfl,_,rfl,tJ (fun h1=>?_) (fun h1=>?_)⟩
 ·have h1':k<(((ns.map V.int).length:Nat):Int):=Dg h1;rw[hl] at h1';obtain⟨v,ev⟩:∃v:Int,atI (ns.map V.int) k=some (.int v):=by
   have hk:k.toNat<ns.length:=by lia
   have ek:k=((k.toNat:Nat):Int):=by lia
   have e:=bC (xs:=ns.map V.int) (j:=k.toNat) (v:=.int ns[k.toNat]) (by rw[zW,zN hk];rfl);rw[<- ek] at e;exact⟨ns[k.toNat],e⟩
  refine⟨_,rfl,_,rfl,a,_,_,_,rfl,rfl,ha1,ev,_,_,rfl,rfl,⟨by decide,by decide,by decide⟩,_,_,rfl,rfl,⟨by decide,by decide,by decide⟩,_,_,rfl,rfl,Lt2.big (n:=200) (m:=200) (by show(10^60:Int).natAbs<2^200;decide) (by show(10^60:Int).natAbs<2^200;decide) (by decide) (by decide),_,_,rfl,rfl,(show(0:Int)<10^60*10^60 by decide),?_⟩;exact qR _ p hp
 ·refine⟨_,rfl,a,_,rfl,.inl ha1,_,_,rfl,rfl,_,rfl,tJ (fun h2=>?_) (fun h2=>?_)⟩
  ·have h2':(0:Int)<(((ns.map V.int).length:Nat):Int):=Dg h2;rw[hl] at h2';have m0:=Bg k (show(ns.length:Int)≠0 by lia);have m1:=Bh k h2';obtain⟨v,ev⟩:∃v:Int,atI (ns.map V.int) (k % (((ns.map V.int).length:Nat):Int))=some (.int v):=by
    rw[hl];generalize k % (ns.length:Int)=j at m0 m1;have hk:j.toNat<ns.length:=by lia
    have ek:j=((j.toNat:Nat):Int):=by lia
    have e:=bC (xs:=ns.map V.int) (j:=j.toNat) (v:=.int ns[j.toNat]) (by rw[zW,zN hk];rfl);rw[<- ek] at e;exact⟨ns[j.toNat],e⟩
   refine⟨_,rfl,_,rfl,_,rfl,a,_,rfl,.inl ha1,_,_,rfl,rfl,(show(0:Int)<(((ns.map V.int).length:Nat):Int) by rw[hl];exact h2'),a,_,_,_,rfl,rfl,ha1,ev,_,_,rfl,rfl,⟨by decide,by decide,by decide⟩,_,_,rfl,rfl,(show(0:Int)<10^15 by decide),_,rfl,_,_,rfl,rfl,.inl ⟨by decide,by decide⟩,_,_,rfl,rfl,?_⟩;exact qR _ p hp
  ·exact qR _ p hp
end
theorem Tb.ext'{s t:Tb}(h1:s.a=t.a)(h2:s.b=t.b)(h3:s.c=t.c)(h4:s.d=t.d):s=t:=by
 cases s;cases t;simp only at h1 h2 h3 h4;subst h1 h2 h3 h4;rfl
theorem fZ(s t u:Tb):(s.mul t).mul u=s.mul (t.mul u):=by
 apply Tb.ext'<;>simp only[Tb.mul]<;>grind
theorem jY(t:Tb):Tb.one.mul t=t:=by
 apply Tb.ext'<;>simp only[Tb.mul,Tb.one]<;>grind
theorem oV(t:Tb):t.mul Tb.one=t:=by
 apply Tb.ext'<;>simp only[Tb.mul,Tb.one]<;>grind
def wt:List Nat->Tb
 |[]=>Tb.one
 |c::r=>(cW c).mul (wt r)
theorem rG(ts:List Tb):∀s:Tb,ts.foldl Tb.mul s=s.mul (ts.foldr Tb.mul Tb.one):=by
 induction ts with
 |nil=>intro s;exact(oV s).symm
 |cons t r ih=>intro s;rw[Bv,ih,List.foldr_cons,fZ]
theorem gJ(cs:List Nat):dR (cs.map cW)=wt cs:=by
 unfold dR;rw[rG,jY];induction cs with
 |nil=>rfl
 |cons c r ih=>rw[zZ,List.foldr_cons,ih];rfl
def EK (c:Nat):Prop:=c=108\/c=114
theorem EK.lt{c:Nat}(h:EK c):qw c:=by
 rcases h with rfl|rfl
 ·exact .inl rfl
 ·exact .inr (.inl rfl)
structure Plain(t:Tb):Prop where
 a:0<=t.a
 b:0<=t.b
 c:0<=t.c
 d:0<=t.d
 w:t.a*t.d-t.b*t.c=1
theorem pP(t:Tb):(cW 108).mul t=⟨t.a,t.b,t.a+t.c,t.b+t.d⟩:=by
 apply Tb.ext'<;>simp only[Tb.mul,cW,CZ]<;>grind
theorem pF(t:Tb):(cW 114).mul t=⟨t.a+t.c,t.b+t.d,t.c,t.d⟩:=by
 apply Tb.ext'<;>simp[Tb.mul,cW]<;>grind
theorem Plain.l{t:Tb}(h:Plain t):Plain ((cW 108).mul t):=by
 rw[pP];exact⟨h.a,h.b,by have:=h.a;have:=h.c;show 0<=t.a+t.c;lia,by have:=h.b;have:=h.d;show 0<=t.b+t.d;lia,by have:=h.w;show t.a*(t.b+t.d)-t.b*(t.a+t.c)=1;grind⟩
theorem Plain.r{t:Tb}(h:Plain t):Plain ((cW 114).mul t):=by
 rw[pF];exact⟨by have:=h.a;have:=h.c;show 0<=t.a+t.c;lia,by have:=h.b;have:=h.d;show 0<=t.b+t.d;lia,h.c,h.d,by have:=h.w;show(t.a+t.c)*t.d-(t.b+t.d)*t.c=1;grind⟩
theorem GY:Plain Tb.one:=⟨by decide,by decide,by decide,by decide,by decide⟩
theorem EI:∀{cs:List Nat},(∀c∈cs,EK c)->Plain (wt cs)
 |[],_=>GY
 |c::r,h=>by
  have ih:=EI (cs:=r) fun c hc=>h c (Ac _ hc);rcases h c zQ with rfl|rfl
  ·exact ih.l
  ·exact ih.r
theorem Plain.top{t:Tb}(h:Plain t):1<=t.a+t.b:=by
 have:=h.a;have:=h.b;by_cases z:t.a=0/\t.b=0
 ·have:=h.w;rw[z.1,z.2] at this;lia
 ·lia
theorem Plain.low{t:Tb}(h:Plain t):1<=t.c+t.d:=by
 have:=h.c;have:=h.d;by_cases z:t.c=0/\t.d=0
 ·have:=h.w;rw[z.1,z.2] at this;lia
 ·lia
def Tb.sum(t:Tb):Int:=t.a+t.b+t.c+t.d
theorem Ig:∀{cs:List Nat},(∀c∈cs,EK c)->(cs.length:Int)+2<=Tb.sum (wt cs)
 |[],_=>by show((0:Nat):Int)+2<=2;decide
 |c::r,h=>by
  have h':=fun c hc=>h c (Ac _ hc);have ih:=Ig (cs:=r) h';have p:=EI (cs:=r) h';have e1:=p.top;have e2:=p.low;unfold Tb.sum at ih ⊢;rw[Ah];show((r.length+1:Nat):Int)+2<=((cW c).mul (wt r)).a+((cW c).mul (wt r)).b+((cW c).mul (wt r)).c+((cW c).mul (wt r)).d;rcases h c zQ with rfl|rfl
  ·rw[pP];show((r.length+1:Nat):Int)+2<=(wt r).a+(wt r).b+((wt r).a+(wt r).c)+((wt r).b+(wt r).d);lia
  ·rw[pF];show((r.length+1:Nat):Int)+2<=((wt r).a+(wt r).c)+((wt r).b+(wt r).d)+(wt r).c+(wt r).d;lia
theorem vg{cs:List Nat}(h:∀c∈cs,EK c)(e:wt cs=Tb.one):cs=[]:=by
 have:=Ig h;rw[e] at this;have z:Tb.sum Tb.one=2:=rfl;rw[z] at this;exact Az.mp (by lia)
theorem sI{t:Tb}(h:Plain t):((cW 108).mul t).c≥((cW 108).mul t).a/\((cW 108).mul t).d≥((cW 108).mul t).b:=by
 rw[pP];have:=h.c;have:=h.d;show t.a+t.c≥t.a/\t.b+t.d≥t.b;lia
theorem tm{t:Tb}(h:Plain t):¬(((cW 114).mul t).c≥((cW 114).mul t).a/\((cW 114).mul t).d≥((cW 114).mul t).b):=by
 rw[pF];have:=h.a;have:=h.b;have:=h.top;show ¬(t.c≥t.a+t.c/\t.d≥t.b+t.d);lia
theorem wQ{c:Nat}(h:EK c):Bd 1 (cW c):=by
 rcases h with rfl|rfl<;>exact⟨by show _<2;decide,by show _<2;decide,by show _<2;decide,by show _<2;decide⟩
section
variable {P:Program}{w:World}{K:PySem.W.Frag}{mg:Str->Option Value}{base:Heap}
def dJ (t:Tb):Bool:=decide (0<=t.a/\0<=t.b/\0<=t.c/\0<=t.d)&&decide (t.worth=1)
theorem Ff{t:Tb}:dJ t=true↔Plain t:=by
 unfold dJ;rw[Au,decide_eq_true_iff,decide_eq_true_iff];refine⟨fun hq87=>?_,fun h=>⟨⟨h.a,h.b,h.c,h.d⟩,h.w⟩⟩;obtain⟨⟨h1,h2,h3,h4⟩,h5⟩:=hq87;exact⟨h1,h2,h3,h4,h5⟩
theorem vQ{H:Hp}{a:Addr}{t:Tb}(e:H a=some (.tup t.vs)):Th H (.ref a) true:=
 (Th.tup e fun x hx=>by
  unfold Tb.vs at hx;simp only[zU,AC,or_false] at hx
  rcases hx with rfl | rfl | rfl | rfl <;> exact .int _:Th H (.ref a) (t.vs.length == 4 && t.vs.all Fs))
def FT:Sp:=fun vs H Q _=>∃v t n,vs=[v]/\T4o H v t/\Bd n t/\n<=1048576/\∀H',DO H H'->Q (.bl (dJ t)) H'
theorem HA:DN ["table"] ["table"] (av (top 12)):=by walk_at "s"
theorem oZ{di dw d:DD}(yC:(dg "is_table" 8 ["thing"] di 2 FE))(xR:(dg "worth" 9 ["table"] dw 1 (mN K)))(D:Def K mg "is_plain" (top 12) ["table"] d)(xw:mg "min"=none):(fk 3 d ["table"] FT):=by
 refine D.fn.ok HA (fun vs H Q E h=>?_) (fun cdv A outer s H vs Q E hr h=>?_)
 ·obtain⟨v,t,n,rfl,_⟩:=h;rfl
 obtain⟨v,t,n,rfl,⟨a,rfl,ha⟩,hb,hn,q⟩:=h;have hc:=hr.calm;refine⟨_,(ak (aD (fA (bD yC.1 yC.2 (0) aC) (fA (bS GZ (aG (nV hc) xw Fj (aJ (0) aC)) (ah _) (aH _)) (iR (bS Fc (bD xR.1 xR.2 (0) aC) (ah _) (aH _))))))),?_⟩
 walk_at "d"
 refine⟨_,rfl,.ref a,true,rfl,vQ ha,fun H1 S1=>⟨true,rfl,?_⟩⟩;refine⟨_,rfl,a,[t.a,t.b,t.c,t.d],rfl,SqT.of (S1 _ _ ha),(fun z=>by cases z),fun m hm hmin=>?_⟩;have ha':=hmin t.a (by simp);have hb':=hmin t.b (by simp);have hc':=hmin t.c (by simp);have hd':=hmin t.d (by simp);refine⟨_,_,rfl,rfl,decide (m≥0),rfl,tJ (fun h1=>?_) (fun h1=>?_)⟩
 ·have h1':m≥0:=Dg h1;refine⟨_,rfl,.ref a,t,n,rfl,⟨a,rfl,SqT.of (S1 _ _ ha)⟩,hb,hn,rfl,?_⟩;have e:decide (V.int t.worth=V.int 1)=dJ t:=by
   unfold dJ;rw[Dc (show 0<=t.a/\0<=t.b/\0<=t.c/\0<=t.d by lia),Bool.true_and];exact decide_eq_decide.mpr ⟨fun h=>by injection h,fun h=>by rw[h]⟩
  have z:=q H1 S1;rw[<- e] at z;exact z
 ·have h1':¬m≥0:=of_decide_eq_false (BJ.mpr h1);have e:false=dJ t:=by
   have:¬(0<=t.a/\0<=t.b/\0<=t.c/\0<=t.d):=fun hq88=>by
    obtain⟨a1,a2,a3,a4⟩:=hq88;simp only[zU,AC,or_false] at hm;rcases hm with rfl|rfl|rfl|rfl<;>lia
   unfold dJ;rw[Dd this];rfl
  have z:=q H1 S1;rw[<- e] at z;exact z
theorem el:("l":Str)=⟨#[108]⟩:=by decide +kernel
theorem er:("r":Str)=⟨#[114]⟩:=by decide +kernel
def txt (cs:List Nat):Str:=⟨cs.toArray⟩
abbrev eZ(cs:List Nat):List Str:=cs.map fun c=>⟨#[c]⟩
theorem Gf:∀(r:List Str)(a:Array Nat),(r.foldl (fun acc p=>acc++("":Str).cps++p.cps) a).toList=a.toList++(r.map (·.cps.toList)).flatten
 |[],a=>by simp
 |x::r,a=>by
  have z:("":Str).cps=#[]:=rfl;rw[Bv,Gf r,z];simp
theorem pO(zs:List Str):(Txt.join "" zs).cps.toList=(zs.map (·.cps.toList)).flatten:=by
 cases zs with
 |nil=>rfl
 |cons x r=>exact Gf r x.cps
theorem eJ{x y:Str}(h:x.cps.toList=y.cps.toList):x=y:=by
 obtain⟨⟨x⟩⟩:=x;obtain⟨⟨y⟩⟩:=y;simp only at h;subst h;rfl
theorem iJ(cs:List Nat):Txt.join "" (eZ cs)=txt cs:=by
 apply eJ;rw[pO,AG];show _=cs;induction cs with
 |nil=>rfl
 |cons c r ih=>rw[zZ,CA,ih];rfl
theorem Fp:∀(cs:List Nat),((eZ cs).map (·.length)).sum=cs.length
 |[]=>rfl
 |c::r=>by
  show 1+((eZ r).map (·.length)).sum=r.length+1;rw[Fp r];lia
def JV:Sp:=fun vs H Q _=>∃v cs m,vs=[v,.int ((m:Nat):Int)]/\m<=10000/\(∀c∈cs,EK c)/\T4o H v (wt cs)/\(cs.length<=m->∀H',DO H H'->Q (.str (txt cs)) H')/\(m<cs.length->∀H',DO H H'->Q .non H')
theorem rL(t u:Tb)(h:t≠u):PyData.eqv t.dat u.dat=false:=by
 obtain⟨a,b,c,d⟩:=t;obtain⟨e,f,g,i⟩:=u;show(a==e&&(b==f&&(c==g&&(d==i&&true))))=false;rw[BJ];intro z;simp only[Au,DH,Bool.and_true] at z;obtain⟨rfl,rfl,rfl,rfl⟩:=z;exact h rfl
theorem we{d:DD}{one:Addr}(zD:mg "ONE"=some (.ref one))(k_one:∀H,SqT K H one Tb.one.vs)(D:Def K mg "word_within" (top 13) ["table","most"] d)(xm:mg "len"=none):(fk 1 d ["table","most"] JV):=by
 exists["table","most","a","b","c","d","letters"]
 obtain⟨v,cs,m,rfl,hm,hlr,⟨a,rfl,ha⟩,q1,q2⟩:=h;refine⟨_,(af (fw (0) (fq (aB (ar 2) (aB (ar 3) (aB (ar 4) (aB (ar 5) (@Ee _))))))) (af (ay 6 (Or.inl rfl) (bw (@DZ _))) (af (fc (aE (fB hr.units) (aZ (DI (2) (DI (3) (DI (4) (aJ (5) aC) aC) aC) aC)) (gL (.ref one) zD rfl) (aH _)) (af (bf (aE Fc (aU DQ xm (6) aC) (1) (aH _)) (ak (aD (cn _))) (DP _)) (ak (bf (@PW.pt _ _ _ (jT (aE GZ (4) (2) (aH _)) (iu (aE GZ (5) (3) (aH _))))) (af (bE (eQ (6) (bA _) bB)) (ak (rm 4 5 (DI (aF EL (4) (2)) (aJ (aF EL (5) (3)) (by rfl)) (by rfl))))) (af (bE (eQ (6) (bA _) bB)) (ak (rm 2 3 (DI (aF EL (2) (4)) (aJ (aF EL (3) (5)) (by rfl)) (by rfl))))))))) (ak (aD (nj (6) aC)))))),?_⟩
 walk_at "d"
 refine⟨_,rfl,a,_,rfl,SqT.of ha,rfl,_,_,rfl,_,_,rfl,_,_,rfl,_,_,rfl,rfl,?_⟩;refine⟨aw (by show 0<=1000000;decide),fun L nL=>?_⟩;have F0:=(Hs.start H).new nL (.lst []);refine⟨fun k σ H'=>∃i,k=cs.length-i/\i<=cs.length/\i<=m/\σ=[some (.ref a),some (.int m),some (.int (wt (cs.drop i)).a),some (.int (wt (cs.drop i)).b),some (.int (wt (cs.drop i)).c),some (.int (wt (cs.drop i)).d),some (.ref L)]/\Hs H [(L,.lst ((eZ (cs.take i)).map V.str))] H',⟨_,0,rfl,zX _,zX _,rfl,F0⟩,fun k σ H' z=>?_⟩;obtain⟨i,rfl,hi,him,rfl,F⟩:=z;refine⟨_,rfl,_,rfl,_,rfl,_,rfl,aw (by show 4<=1000000;decide),fun p np=>?_⟩;have F1:=F.mono (ag np (.tup (wt (cs.drop i)).vs));have dt:EF K (upd H' p (.tup (wt (cs.drop i)).vs)) (.ref p) (wt (cs.drop i)).dat:=T4.dat ⟨p,rfl,SqT.of ae⟩;have d1:∀H,EF K H (.ref one) Tb.one.dat:=fun H=>T4.dat ⟨one,rfl,k_one H⟩;have lt':∀c∈cs.drop i,EK c:=fun c hc=>hlr c (Bf hc);by_cases hend:i=cs.length
 ·
  have e0:cs.drop i=[]:=List.drop_eq_nil_of_le (by lia);rw[e0] at dt F1 ⊢;refine⟨Tb.one.dat,Tb.one.dat,dt,d1 _,Tb.lay _,Tb.lay _,Tb.depth _,false,(by rw[Tb.eqv];rfl),?_⟩;have e1:cs.take i=cs:=Af (by lia);rw[e1] at F1;refine⟨rfl,_,rfl,"",L,eZ cs,rfl,rfl,SqL.of (F1.get 0),?_,?_⟩
  ·rw[Fp];have:("":Str).length=0:=rfl;rw[this];lia
  ·rw[iJ];exact q1 (by lia) _ F1.all
 ·have hlt:i<cs.length:=by lia
  have ed:cs.drop i=cs[i]::cs.drop (i+1):=BS hlt;have hne:wt (cs.drop i)≠Tb.one:=fun z=>by
   have:=vg lt' z;rw[ed] at this;cases this
  refine⟨_,Tb.one.dat,dt,d1 _,Tb.lay _,Tb.lay _,Tb.depth _,true,(by rw[rL _ _ hne];rfl),?_⟩;refine⟨fun σ' H''=>∃j,j=i+1/\j<=m/\σ'=[some (.ref a),some (.int m),some (.int (wt (cs.drop j)).a),some (.int (wt (cs.drop j)).b),some (.int (wt (cs.drop j)).c),some (.int (wt (cs.drop j)).d),some (.ref L)]/\Hs H [(L,.lst ((eZ (cs.take j)).map V.str))] H'',fun σ' H'' z=>?_,?_⟩
  ·obtain⟨j,rfl,h1,rfl,F2⟩:=z;exact⟨cs.length-(i+1),by lia,i+1,rfl,hlt,h1,rfl,F2⟩
  have ll:((eZ (cs.take i)).map V.str).length=i:=by
   rw[zF,zF,Aa];lia
  refine⟨_,rfl,L,_,rfl,.inl (SqL.of (F1.get 0)),_,rfl,rfl,_,rfl,tJ (fun h1=>?_) (fun h1=>?_)⟩
  ·have h1':i=m:=by
    have:=Dg h1;injection this with this;rw[ll] at this;lia
   exact q2 (by lia) _ F1.all
  ·have h1':i<m:=by
    have:i≠m:=fun z=>h1 (Dc (by rw[ll,z]));lia
   have et:cs.take (i+1)=cs.take i++[cs[i]]:=by rw[Ak,zN hlt];rfl
   have ep:Plain (wt (cs.drop (i+1))):=EI fun c hc=>hlr c (Bf hc);have ew:wt (cs.drop i)=(cW cs[i]).mul (wt (cs.drop (i+1))):=by rw[ed];rfl
   have lc:EK cs[i]:=hlr _ (An hlt);have lsz:((eZ (cs.take i)).map V.str).length<sizeLine:=zP (show _<1000000 by rw[ll];lia) (aw (zE _));generalize hT:wt (cs.drop (i+1))=T at ep ew;generalize hc0:cs[i]=c0 at lc ew et;rw[ew] at dt;rcases lc with rfl|rfl
   ·have f1:=sI ep;rw[pP] at ew f1;rw[ew] at F1 ⊢;simp only at f1;refine⟨_,rfl,_,rfl,_,_,rfl,rfl,true,(by show V.bl (decide (T.a<=T.a+T.c))=_;rw[Dc f1.1]),_,rfl,_,rfl,_,_,rfl,rfl,true,(by show V.bl (decide (T.b<=T.b+T.d))=_;rw[Dc f1.2]),?_⟩;refine⟨_,rfl,.inl ⟨rfl,_,SqL.of (F1.get 0)⟩,L,_,_,rfl,rfl,F1.get 0,lsz,?_⟩;refine⟨_,rfl,_,rfl,_,_,rfl,rfl,_,rfl,_,rfl,_,_,rfl,rfl,_,_,rfl,?_⟩;refine⟨_,rfl,h1',?_,?_⟩
    ·rw[hT];show[some (V.ref a),some (V.int ↑m),some (V.int T.a),some (V.int T.b),some (V.int (T.a+T.c-T.a)),some (V.int (T.b+T.d-T.b)),some (V.ref L)]=_;rw[show T.a+T.c-T.a=T.c by lia,show T.b+T.d-T.b=T.d by lia]
    ·have F2:=F1.put 0 (.lst ((eZ (cs.take (i+1))).map V.str));rw[et] at F2 ⊢;have e3:(eZ (cs.take i++[108])).map V.str=(eZ (cs.take i)).map V.str++[.str "l"]:=by
      rw[el];simp[eZ]
     rw[e3] at F2 ⊢;exact F2
   ·have f1:=tm ep;rw[pF] at ew f1;rw[ew] at F1 ⊢;simp only at f1;by_cases g1:T.a+T.c<=T.c
    ·have g2:¬T.b+T.d<=T.d:=fun z=>f1 ⟨g1,z⟩;refine⟨_,rfl,_,rfl,_,_,rfl,rfl,true,(by show V.bl (decide (T.a+T.c<=T.c))=_;rw[Dc g1]),_,rfl,_,rfl,_,_,rfl,rfl,false,(by show V.bl (decide (T.b+T.d<=T.d))=_;rw[Dd g2]),?_⟩;refine⟨_,rfl,.inl ⟨rfl,_,SqL.of (F1.get 0)⟩,L,_,_,rfl,rfl,F1.get 0,lsz,?_⟩;refine⟨_,rfl,_,rfl,_,_,rfl,rfl,_,rfl,_,rfl,_,_,rfl,rfl,_,_,rfl,?_⟩;refine⟨_,rfl,h1',?_,?_⟩
     ·rw[hT];show[some (V.ref a),some (V.int ↑m),some (V.int (T.a+T.c-T.c)),some (V.int (T.b+T.d-T.d)),some (V.int T.c),some (V.int T.d),some (V.ref L)]=_;rw[show T.a+T.c-T.c=T.a by lia,show T.b+T.d-T.d=T.b by lia]
     ·have F2:=F1.put 0 (.lst ((eZ (cs.take (i+1))).map V.str));rw[et] at F2 ⊢;have e3:(eZ (cs.take i++[114])).map V.str=(eZ (cs.take i)).map V.str++[.str "r"]:=by
       rw[er];simp[eZ]
      rw[e3] at F2 ⊢;exact F2
    ·refine⟨_,rfl,_,rfl,_,_,rfl,rfl,false,(by show V.bl (decide (T.a+T.c<=T.c))=_;rw[Dd g1]),?_⟩;refine⟨_,rfl,.inl ⟨rfl,_,SqL.of (F1.get 0)⟩,L,_,_,rfl,rfl,F1.get 0,lsz,?_⟩;refine⟨_,rfl,_,rfl,_,_,rfl,rfl,_,rfl,_,rfl,_,_,rfl,rfl,_,_,rfl,?_⟩;refine⟨_,rfl,h1',?_,?_⟩
     ·rw[hT];show[some (V.ref a),some (V.int ↑m),some (V.int (T.a+T.c-T.c)),some (V.int (T.b+T.d-T.d)),some (V.int T.c),some (V.int T.d),some (V.ref L)]=_;rw[show T.a+T.c-T.c=T.a by lia,show T.b+T.d-T.d=T.b by lia]
     ·have F2:=F1.put 0 (.lst ((eZ (cs.take (i+1))).map V.str));rw[et] at F2 ⊢;have e3:(eZ (cs.take i++[114])).map V.str=(eZ (cs.take i)).map V.str++[.str "r"]:=by
       rw[er];simp[eZ]
      rw[e3] at F2 ⊢;exact F2
def LRs (z:Str):Prop:=∀c∈z.cps.toList,EK c
def As (z:Str):Prop:=∀c∈z.cps.toList,c<128
theorem LRs.as{z:Str}(h:LRs z):As z:=fun c hc=>by rcases h c hc with rfl|rfl<;>decide
theorem cZ(z:Str):z.length=z.cps.toList.length:=rfl
theorem gU{z:Str}{n:Int}{c:Nat}(h:c∈(Txt.mul z n).cps.toList):c∈z.cps.toList:=by
 rw[L2.mul_list] at h;obtain⟨l,hl,hc⟩:=CF.mp h;rw[List.eq_of_mem_replicate hl] at hc;exact hc
theorem rD{α:Type}{l:List α}{lo hi:Option Int}{c:α}(h:c∈qY l lo hi):c∈l:=Bf (Bn h)
theorem cI{z:Str}{lo hi:Option Int}{c:Nat}(h:c∈(Txt.slice z lo hi).cps.toList):c∈z.cps.toList:=by
 rw[cN] at h;exact rD h
theorem ig(x y:Str):(x++y).cps.toList=x.cps.toList++y.cps.toList:=by
 show(x.cps++y.cps).toList=_;rw[Ay]
theorem eD(x y:Str):(x++y).length=x.length+y.length:=by rw[cZ,ig,zG];rfl
theorem cX(z:Str)(n:Int):(Txt.mul z n).length=n.toNat*z.length:=by
 rw[cZ,L2.mul_list,List.length_flatten];simp[cZ]
theorem jX{α:Type}(l:List α)(k:Nat):qY l none (some (k:Int))=l.take k:=by
 unfold qY;rw[HT.Ho,HT.Gh,BU,Nat.sub_zero];rcases Nat.le_total k l.length with h|h
 ·rw[AM h]
 ·rw[Nat.min_eq_right h,Af (zE _),Af h]
theorem dE(z:Str)(k:Nat):(Txt.slice z none (some (k:Int))).length=min k z.length:=by
 rw[cZ,cN,jX,Aa];rfl
def FU:Sp:=fun vs H Q _=>∃p m,vs=[.ref p,.int m]/\1<=m/\m<=1000/\Ds H p/\∀z H',Dr p H H'->LRs z->1<=z.length->(z.length:Int)<=m->Q (.str z) H'
theorem wb{r:Int}(h0:0<=r)(h1:r<2):∃c,("lr":Str).cps[r.toNat]?=some c/\EK c:=by
 have:r=0\/r=1:=by lia
 rcases this with rfl|rfl
 ·exact⟨108,by decide +kernel,.inl rfl⟩
 ·exact⟨114,by decide +kernel,.inr rfl⟩
theorem JM:LRs "lr":=by
 have e:("lr":Str).cps.toList=[108,114]:=by decide +kernel
 intro c hc;rw[e] at hc;simp only[zU,AC,or_false] at hc;exact hc
theorem Gs:("lr":Str).length=2:=by decide +kernel
theorem qk{dd d:DD}(xp:(dg "_law_draw" 41 ["draws","many"] dd 1 Fv))(D:Def K mg "_law_piece" (top 42) ["draws","most"] d)(xn:mg "range"=none):(fk 2 d ["draws","most"] FU):=by
 exists["draws","most","way","many","text","some"]
 obtain⟨p,m,rfl,m0,m1,hp,q⟩:=h;refine⟨_,(af (ay 2 (Or.inl rfl) (bh xp.1 xp.2 (DI (0) (aJ (ah _) bB) aC))) (af (ay 3 (Or.inl rfl) (aF Eb (ah _) (bh xp.1 xp.2 (DI (0) (aJ (1) aC) aC)))) (af (ay 4 (Or.inl rfl) (nj (aR (ao (ts:=["k"]) (cap:=["draws"]) (js:=[0]) rfl rfl rfl rfl rfl rfl (by decide +kernel)) (bp xn (aJ (3) aC)) (ad 0 (nd ["k","draws"])) (@aM _) (jJ (bA _) (bh xp.1 xp.2 (DI (1) (aJ (ah _) bB) aC)))) (by rfl))) (af (ay 5 (Or.inl rfl) (bw (DI (4) (DI (aF Fo (aQ IS (4) (ah _)) (3)) (DI (ba Ek (aF Fo (bA _) (3)) (Ea _) (bx (3))) (aJ (ba Ek (aF Fo (ba Ek (4) (Ea _) (bx (ah _))) (3)) (Ea _) (bx (3))) (by rfl)) (by rfl)) (by rfl)) aC))) (ak (aD (aQ DK (5) (2)))))))),?_⟩
 walk_at "d"
 refine⟨_,rfl,p,4,rfl,hp,by decide,by decide,fun way H0 w0 w1 dr0=>?_⟩;refine⟨_,rfl,_,rfl,p,m,rfl,dr0.ds,m0,by lia,fun r1 H1 a0 a1 dr1=>?_⟩;refine⟨_,_,rfl,rfl,?_⟩;obtain⟨n,en⟩:∃n:Nat,1+r1=((n:Nat):Int):=⟨(1+r1).toNat,by lia⟩
 show jw 3 (V.int (1+r1)) _ _ _;rw[en];have n1:1<=n:=by lia
 have nm:(n:Int)<=m:=by lia
 refine⟨rfl,_,rfl,_,rfl,by lia,by lia,?_⟩;have D1:=dr0.trans dr1;refine sD (lo:=0) (n:=(n:Int).toNat) (fun i ys H'=>Dr p H H'/\∃cs:List Nat,ys=(eZ cs).map V.str/\cs.length=i/\∀c∈cs,EK c) ⟨D1,[],rfl,rfl,fun n hn=>absurd hn (by simp)⟩ (fun i ys H' hi z=>by obtain⟨_,ns,rfl,e,_⟩:=z;rw[zF,zF,e];exact zE _) (aw (by lia)) (fun i ys H' hi z=>?_) (fun ys H' z l hl=>?_)
 ·obtain⟨z1,cs,rfl,z2,z3⟩:=z;refine⟨_,rfl,p,2,rfl,z1.ds,by decide,by decide,fun r H2 c0 c1 dr2=>?_⟩;obtain⟨c,ec,lc⟩:=wb c0 c1;refine⟨_,r,c,rfl,rfl,c0,by lia,by rw[Gs];lia,ec,Nx.mk hi ⟨z1.trans dr2,cs++[c],?_,by rw[zG,z2];rfl,fun x hx=>?_⟩⟩
  ·simp[eZ]
  ·rcases zH.mp hx with y|y
   ·exact z3 x y
   ·have e:x=c:=by simpa using y
    subst e;exact lc
 obtain⟨z1,cs,rfl,z2,z3⟩:=z;have DL:=Dr.new z1.ds hl (.lst ((eZ cs).map V.str));refine⟨"",l,eZ cs,rfl,rfl,SqL.of ae,?_,?_⟩
 ·rw[Fp];have:("":Str).length=0:=rfl;rw[this];lia
 rw[iJ];have z2':cs.length=n:=by rw[z2,Am]
 have tl:(txt cs).length=n:=z2';have tlr:LRs (txt cs):=z3;have big:n<=1000:=by lia
 generalize txt cs=text at tl tlr;obtain⟨c0,ec0⟩:∃c,atI text.cps.toList 0=some c:=by
  have h0:0<text.cps.toList.length:=by rw[<- cZ,tl];lia
  exact⟨text.cps.toList[0],bC (j:=0) (zN h0)⟩
 have lc0:EK c0:=tlr c0 (by
  have h0:0<text.cps.toList.length:=by rw[<- cZ,tl];lia
  have:=bC (j:=0) (zN h0);rw[show((0:Nat):Int)=0 from rfl] at this;rw[ec0] at this;injection this with this
  rw[this]; exact An h0)
 have l1000:∀k:Nat,k<=1000000->k<=sizeLine:=fun k hk=>aw hk;have t2:(Txt.slice text none (some 2)).length=min 2 n:=by rw[show(2:Int)=((2:Nat):Int) from rfl,dE,tl]
 have nt:((n:Int)).toNat=n:=Am n;refine⟨_,rfl,_,rfl,text,0,c0,rfl,rfl,l1000 _ (by lia),ec0,_,rfl,_,_,rfl,rfl,by lia,by lia,(by show 1*(n:Int).toNat<=16777216;lia),?_⟩;refine⟨_,rfl,_,_,rfl,rfl,by lia,by lia,(by rw[Gs];lia),_,rfl,_,rfl,_,rfl,(l1000 _ (by rw[cX,Gs];lia)),?_⟩;refine⟨_,rfl,_,rfl,_,rfl,l1000 _ (by lia),_,rfl,_,_,rfl,rfl,by lia,by lia,(by rw[t2];have:min 2 n<=2:=BE _ _;have:=CG this (zE (n:Int).toNat);lia),_,rfl,_,rfl,_,rfl,(l1000 _ (by rw[cX,t2];have:min 2 n<=2:=BE _ _;have:=CG (zE (n:Int).toNat) this;lia)),?_⟩;refine⟨aw (by show 4<=1000000;decide),fun L nL=>?_⟩;have DF:=z1.trans (DL.trans (Dr.new DL.ds nL (.lst [.str text,.str (Txt.mul ⟨#[c0]⟩ n),.str (Txt.slice (Txt.mul "lr" n) none (some n)),.str (Txt.slice (Txt.mul (Txt.slice text none (some 2)) n) none (some n))])));have bO:∃z,atI [V.str text,.str (Txt.mul ⟨#[c0]⟩ n),.str (Txt.slice (Txt.mul "lr" n) none (some n)),.str (Txt.slice (Txt.mul (Txt.slice text none (some 2)) n) none (some n))] way=some (.str z)/\LRs z/\z.length=n:=by
  have:way=0\/way=1\/way=2\/way=3:=by lia
  rcases this with rfl|rfl|rfl|rfl
  ·exact⟨_,rfl,tlr,tl⟩
  ·refine⟨_,rfl,fun c hc=>?_,?_⟩
   ·have:=gU hc;have e:c=c0:=by simpa using this
    rw[e];exact lc0
   ·rw[cX,nt];show n*1=n;lia
  ·refine⟨_,rfl,fun c hc=>JM c (gU (cI hc)),?_⟩;rw[dE,cX,nt,Gs];lia
  ·refine⟨_,rfl,fun c hc=>tlr c (cI (gU (cI hc))),?_⟩;rw[dE,cX,nt,t2];have:1<=min 2 n:=by lia
   have:=CG (zE n) this;lia
 obtain⟨z,ez,lz,nz⟩:=bO;refine⟨_,rfl,_,rfl,L,_,_,_,rfl,rfl,SqL.of ae,ez,?_⟩;exact q z _ DF lz (by lia) (by lia)
theorem vy{cs:List Nat}(h:∀c∈cs,EK c):Bd (2*cs.length+1) (wt cs):=by
 have:=kJ (n:=1) (ts:=cs.map cW) (fun t ht=>by
  obtain⟨c,hc,rfl⟩:=zM.mp ht
  exact wQ (h c hc)) cs.length
 rw[Af (by rw[zF];exact zE _),gJ] at this;exact this
def IW:Sp:=fun vs H Q _=>∃v cs,vs=[v]/\(∀c∈cs,EK c)/\cs.length<=400/\T4o H v (wt cs)/\∀H',DO H H'->Q (.str (txt cs)) H'
theorem uY{dp dw d:DD}{lt:Tok}(m_lw:mg "LONGEST_WORD"=some (.int 400 lt))(xE:(dg "is_plain" 12 ["table"] dp 3 FT))(D_ww:(dg "word_within" 13 ["table","most"] dw 1 JV))(D:Def K mg "word_of" (top 14) ["table"] d):(fk 4 d ["table"] IW):=by
 exists["table","word"]
 obtain⟨v,cs,rfl,hlr,hl,h4,q⟩:=h;refine⟨_,(af (bf (cB (bH (bD xE.1 xE.2 (0) aC))) (ak (@EJ _ _)) (DP _)) (af (ay 1 (Or.inl rfl) (bh D_ww.1 D_ww.2 (DI (0) (aJ (gL (.int 400) m_lw ⟨_,rfl⟩) aC) aC))) (af (bf (aE Fh (1) (cn _) (aH _)) (ak (@EJ _ _)) (DP _)) (ak (aD (1)))))),?_⟩
 walk_at "d"
 refine⟨_,rfl,v,_,_,rfl,h4,vy hlr,(by lia),fun H1 S1=>⟨dJ (wt cs),rfl,?_⟩⟩;rw[Ff.mpr (EI hlr)];refine⟨_,rfl,v,cs,400,rfl,by decide,hlr,h4.mono S1,fun hl H2 S2=>?_,fun hl' H2 S2=>absurd hl' (by lia)⟩;refine⟨_,rfl,rfl,false,rfl,?_⟩;exact⟨_,rfl,q H2 (S1.trans S2)⟩
def JB:Sp:=fun vs H Q _=>∃v cs,vs=[v]/\(∀c∈cs,EK c)/\1<=cs.length/\cs.length<=40/\T4o H v (wt cs)/\∀H',DO H H'->Q (.str (txt cs)) H'
theorem uf{cs:List Nat}(h:1<=cs.length):txt cs≠"":=fun z=>by
 have:(txt cs).cps.toList=("":Str).cps.toList:=by rw[z]
 have e:cs=[]:=this;rw[e] at h;exact absurd h (by decide)
theorem uK{dp dw d:DD}{lt:Tok}(m_lm:mg "LONGEST_MAKER"=some (.int 40 lt))(xE:(dg "is_plain" 12 ["table"] dp 3 FT))(D_ww:(dg "word_within" 13 ["table","most"] dw 1 JV))(D:Def K mg "maker_word" (top 18) ["maker"] d):(fk 4 d ["maker"] JB):=by
 exists["maker","word"]
 obtain⟨v,cs,rfl,hlr,h1,hl,h4,q⟩:=h;refine⟨_,(af (bf (cB (bH (bD xE.1 xE.2 (0) aC))) (ak (@EJ _ _)) (DP _)) (af (ay 1 (Or.inl rfl) (bh D_ww.1 D_ww.2 (DI (0) (aJ (gL (.int 40) m_lm ⟨_,rfl⟩) aC) aC))) (af (bf (@PW.pt _ _ _ (gQ (aE Fh (1) (cn _) (aH _)) (eR (aE Fc (1) (bA _) (aH _))))) (ak (@EJ _ _)) (DP _)) (ak (aD (1)))))),?_⟩
 walk_at "d"
 refine⟨_,rfl,v,_,_,rfl,h4,vy hlr,(by lia),fun H1 S1=>⟨dJ (wt cs),rfl,?_⟩⟩;rw[Ff.mpr (EI hlr)];refine⟨_,rfl,v,cs,40,rfl,by decide,hlr,h4.mono S1,fun hl H2 S2=>?_,fun hl' H2 S2=>absurd hl' (by lia)⟩;refine⟨_,rfl,rfl,false,rfl,?_⟩;refine⟨_,rfl,rfl,false,?_,?_⟩
 ·show V.bl (decide (V.str (txt cs)=V.str ""))=_;rw[Dd (fun z=>uf h1 (by injection z))]
 exact⟨_,rfl,q H2 (S1.trans S2)⟩
abbrev Mks(H:Hp)(vs:List V)(ws:List (List Nat)):Prop:=Paired (fun v cs=>T4o H v (wt cs)) vs ws
structure Wds(ws:List (List Nat)):Prop where
 n1:1<=ws.length
 n8:ws.length<=8
 lr:∀cs∈ws,∀c∈cs,EK c
 l1:∀cs∈ws,1<=cs.length
 l40:∀cs∈ws,cs.length<=40
abbrev au(ws:List (List Nat)):List V:=ws.map fun cs=>.str (txt cs)
theorem Mks.at{H:Hp}:∀{vs:List V}{ws:List (List Nat)}{i:Nat}{v:V},Mks H vs ws->vs[i]?=some v->∃cs,ws[i]?=some cs/\T4o H v (wt cs)
 |_,_,_,_,.nil,e=>by simp at e
 |_,_,0,_,.cons h _,e=>by simp at e;subst e;exact⟨_,rfl,h⟩
 |_,_,i+1,v,.cons _ r,e=>by
  obtain⟨cs,h1,h2⟩:=Mks.at (i:=i) (v:=v) r (by simpa using e);exact⟨cs,by simpa using h1,h2⟩
def GS:Sp:=fun vs H Q _=>∃l us ws,vs=[.ref l]/\H l=some (.lst us)/\Mks H us ws/\Wds ws/\∀p H',DO H H'->H' p=some (.lst (au ws))->Q (.ref p) H'
theorem uw{dm d:DD}{lt:Tok}(m_mm:mg "MOST_MAKERS"=some (.int 8 lt))(yG:(dg "maker_word" 18 ["maker"] dm 4 JB))(D:Def K mg "maker_words" (top 19) ["makers"] d)(xk:mg "isinstance"=none)(xr:mg "list"=none)(xm:mg "len"=none):(fk 5 d ["makers"] GS):=by
 exists["makers"]
 obtain⟨l,us,ws,rfl,hl,hm,hw,q⟩:=h;have el:us.length=ws.length:=hm.length;have h1:=hw.n1;have h8:=hw.n8;refine⟨_,(af (bf (@PW.pt _ _ _ (gQ (cB (bH (aG Eh xk DR (DI (0) (aJ (cf (.ty "list") xr EC) aC) aC)))) (eR (cB (@oX _ _ _ _ _ _ _ _ _ _ _ _ HD HD (ah _) (aU DQ xm (0) aC) (gL (.int 8) m_mm ⟨_,rfl⟩) (by with_unfolding_all rfl)))))) (ak (@EJ _ _)) (DP _)) (ak (aD (aR (ao (ts:=["maker"]) (cap:=[]) (js:=[]) rfl rfl rfl rfl rfl rfl (by decide +kernel)) (aL (0)) (ad 0 (nd ["maker"])) (@aM _) (bD yG.1 yG.2 (0) aC))))),?_⟩
 walk_at "d"
 refine⟨_,rfl,.ref l,.ty "list",.type "list",.type "list",true,rfl,rfl,.lst hl,rfl,true,rfl,?_⟩;refine⟨_,rfl,l,us,rfl,.inl (SqL.of hl),_,_,rfl,rfl,true,?_,?_⟩
 ·show V.bl (decide ((1:Int)<=(us.length:Int)))=_;rw[Dc (by lia)]
 refine⟨_,_,rfl,rfl,true,?_,?_⟩
 ·show V.bl (decide ((us.length:Int)<=8))=_;rw[Dc (by lia)]
 refine⟨_,rfl,l,rfl,⟨_,SqL.of hl⟩,?_⟩;refine bM (K:=K) (a:=l) (xs:=us) (fun i ys H'=>DO H H'/\ys=au (ws.take i)) ⟨DO.refl H,rfl⟩ (fun i ys H' hi z=>by rw[z.2,zF,Aa];lia) (aw (by lia)) (fun i ys H' hi z=>SqL.of (z.1 _ _ hl)) (fun i x ys H' hx z=>?_) (fun ys H' z p hp=>?_)
 ·obtain⟨z1,rfl⟩:=z;have hi:i<us.length:=(zL.mp hx).1;obtain⟨cs,ec,h4⟩:=hm.at hx;have mc:=zS ec;refine⟨_,rfl,x,cs,rfl,hw.lr cs mc,hw.l1 cs mc,hw.l40 cs mc,h4.mono z1,fun H2 S2=>Nx.mk hi ⟨z1.trans S2,?_⟩⟩;rw[Ak,ec];simp[au]
 ·obtain⟨z1,rfl⟩:=z;have e:ws.take us.length=ws:=Af (by lia);rw[e];exact q p _ (z1.trans (ag hp _)) ae
def bJ (x w:List Nat):Bool:=Txt.endswith (txt x) (txt w)
def aS (ws:List (List Nat))(x:List Nat)(e:Nat):List (Nat×Nat):=(ws.zipIdx.filter fun p=>bJ (x.take e) p.1).map fun p=>(p.2,e-p.1.length)
theorem eS(ws:List (List Nat))(w x:List Nat)(e:Nat):aS (ws++[w]) x e=aS ws x e++(if bJ (x.take e) w=true then [(ws.length,e-w.length)] else []):=by
 unfold aS;rw[List.zipIdx_append,CH,zV]
 congr 1
 show((List.filter _ [(w,0+ws.length)]).map _)=_;rw[BI,Be];split<;>rfl
theorem fR(x:List Nat)(e:Nat):Txt.slice (txt x) none (some (e:Int))=txt (x.take e):=by
 apply eJ;rw[cN,jX];rfl
abbrev Stp(H:Hp)(vs:List V)(ss:List (Nat×Nat)):Prop:=Paired (fun v s=>∃a,v=.ref a/\H a=some (.tup [.int ((s:Nat×Nat).1:Int),.int (s.2:Int)])) vs ss
theorem Stp.mono{H H':Hp}(S:DO H H'){vs:List V}{ss:List (Nat×Nat)}(h:Stp H vs ss):Stp H' vs ss:=Paired.EW h fun v s hq89=>by obtain⟨a,e,g⟩:=hq89;exact⟨a,e,S _ _ g⟩
def Ik:Sp:=fun vs H Q _=>∃l ws x e,vs=[.ref l,.str (txt x),.int ((e:Nat):Int)]/\H l=some (.lst (au ws))/\ws.length<=8/\(∀cs∈ws,cs.length<=40)/\x.length<=400/\(∀cs∈ws,bJ (x.take e) cs=true->cs.length<=e) /\
 ∀p us H',DO H H'->H' p=some (.lst us)->Stp H' us (aS ws x e)->Q (.ref p) H'
theorem sv{d:DD}(D:Def K mg "last_steps" (top 20) ["words","text","end"] d)(xo:mg "enumerate"=none)(xm:mg "len"=none):(fk 1 d ["words","text","end"] Ik):=by
 exists["words","text","end","ahead"]
 obtain⟨l,ws,x,e,rfl,hl,h8,h40,h400,hle,q⟩:=h;refine⟨_,(af (ay 3 (Or.inr rfl) (ba Ek (1) (Ea _) (bx (2)))) (ak (aD (aR (ao (ts:=["number","word"]) (cap:=["end","ahead"]) (js:=[2,3]) rfl rfl rfl rfl rfl rfl (by decide +kernel)) (jC xo (aJ (0) aC)) (@cJ _ _ _ _ _ 2 K rfl hc (aB (ad 0 (nd ["number","word","end","ahead"])) (aB (ad 1 (nd ["number","word","end","ahead"])) (@Ee _))) (by rfl) (by rfl)) (@cH _ _ _ (bH (fN Dk PySem.F.slot_str_endswith PySem.F.type_str_endswith GK (3) (aJ (1) aC)))) (aZ (DI (0) (aJ (aF EL (2) (aU DJ xm (1) aC)) (by rfl)) aC)))))),?_⟩
 walk_at "d"
 refine⟨_,rfl,_,rfl,_,rfl,txt x,rfl,aw (by show x.length<=1000000;lia),?_⟩;rw[fR];refine⟨_,rfl,l,rfl,⟨_,SqL.of hl⟩,?_⟩;have el:(au ws).length=ws.length:=zF ..;refine tE (K:=K) (a:=l) (xs:=au ws) (fun i ys H'=>DO H H'/\ys.length<=i/\Stp H' ys (aS (ws.take i) x e)) ⟨DO.refl H,zE _,.nil⟩ (fun i ys H' hi z=>z.2.1) (aw (by lia)) (fun i ys H' hi z=>SqL.of (z.1 _ _ hl)) (fun i v ys H' p hx z hp=>?_) (fun ys H' z p hp=>?_)
 ·obtain⟨z1,z2,z3⟩:=z;have hi:i<(au ws).length:=(zL.mp hx).1;have hi':i<ws.length:=by lia
  have ev:v=.str (txt ws[i]):=by
   rw[zW,zN hi'] at hx;exact(Di hx).symm
  subst ev;have S1:=ag hp (.tup [.int (i:Int),.str (txt ws[i])]);refine⟨p,_,rfl,SqT.of ae,rfl,_,_,rfl,_,_,rfl,rfl,?_⟩;have hm:ws[i]∈ws:=An hi';have et:ws.take (i+1)=ws.take i++[ws[i]]:=by rw[Ak,zN hi'];rfl
  have elt:(ws.take i).length=i:=by rw[Aa];lia
  refine⟨_,rfl,rfl,_,rfl,txt (x.take e),txt ws[i],rfl,rfl,bJ (x.take e) ws[i],rfl,?_⟩;have st:=eS (ws.take i) ws[i] x e;rw[<- et,elt] at st;cases hB:bJ (x.take e) ws[i] with
  |false=>
   rw[hB] at st;show Nx (au ws).length i (fun i ys H'=>DO H H'/\ys.length<=i/\Stp H' ys (aS (List.take i ws) x e)) ys _;refine Nx.mk hi ⟨z1.trans S1,by lia,?_⟩;rw[st];simpa using z3.mono S1
  |true=>
   rw[hB] at st;have h2:=hle _ hm hB;have h4:=h40 _ hm;refine⟨_,rfl,_,rfl,_,rfl,txt ws[i],rfl,aw (by show ws[i].length<=1000000;lia),_,_,rfl,rfl,aw (by show 2<=1000000;decide),fun a na=>?_⟩;have S2:=ag na (.tup [.int (i:Int),.int ((e:Int)-((txt ws[i]).length:Nat))]);refine Nx.mk hi ⟨z1.trans (S1.trans S2),by rw[zG];exact Dz z2,?_⟩;rw[st];refine Paired.snoc ((z3.mono S1).mono S2) ⟨a,rfl,?_⟩;have e1:((e:Int)-((txt ws[i]).length:Nat))=((e-ws[i].length:Nat):Int):=by
    show(e:Int)-(ws[i].length:Nat)=_;lia
   show upd _ a (.tup [.int (i:Int),.int ((e:Int)-((txt ws[i]).length:Nat))]) a=some (.tup [.int (i:Int),.int ((e-ws[i].length:Nat):Int)]);rw[e1];exact ae
 ·obtain⟨z1,z2,z3⟩:=z;rw[el,Af (zE _)] at z3;exact q p _ _ (z1.trans (ag hp _)) ae (z3.mono (ag hp _))
theorem Gn:bootBuiltins "sum"=some (.builtin "sum"):=by decide +kernel
structure Wok(ws:List (List Nat)):Prop where
 n8:ws.length<=8
 l1:∀cs∈ws,1<=cs.length
 l40:∀cs∈ws,cs.length<=40
theorem Wds.ok{ws:List (List Nat)}(h:Wds ws):Wok ws:=⟨h.n8,h.l1,h.l40⟩
theorem dM{x w:List Nat}(h:bJ x w=true):w.length<=x.length:=by
 unfold bJ Txt.endswith at h;have:=Dg (Au _ _▸h).1;have e1:(txt w).length=w.length:=rfl;have e2:(txt x).length=x.length:=rfl;lia
theorem iB{x w:List Nat}{e:Nat}(h:bJ (x.take e) w=true):w.length<=e:=by
 have:=dM h;rw[Aa] at this;lia
theorem fz{ws:List (List Nat)}{x:List Nat}{e:Nat}{s:Nat×Nat}(h:s∈aS ws x e):∃w,ws[s.1]?=some w/\bJ (x.take e) w=true/\s.2=e-w.length:=by
 unfold aS at h;obtain⟨p,hp,rfl⟩:=zM.mp h;obtain⟨hp,hb⟩:=AN.mp hp;exact⟨p.1,CP.mp hp,hb,rfl⟩
theorem cS{ws:List (List Nat)}(W:Wok ws){x:List Nat}{e:Nat}{s:Nat×Nat}(h:s∈aS ws x (e+1)):s.2<=e:=by
 obtain⟨w,hw,_,e2⟩:=fz h;have:=W.l1 w (zS hw);lia
def bL (ws:List (List Nat))(x:List Nat):Nat->List Int
 |0=>[1]
 |n+1=>bL ws x n++[((aS ws x (n+1)).map fun s=>(bL ws x n).getD s.2 0).sum]
theorem ck(ws:List (List Nat))(x:List Nat):∀n,(bL ws x n).length=n+1
 |0=>rfl
 |n+1=>by rw[bL,zG,ck ws x n];rfl
abbrev ivs(ns:List Int):List V:=ns.map V.int
theorem Stp.at{H:Hp}:∀{vs:List V}{ss:List (Nat×Nat)}{i:Nat}{v:V},Stp H vs ss->vs[i]?=some v->∃s a,ss[i]?=some s/\v=.ref a/\H a=some (.tup [.int (s.1:Int),.int (s.2:Int)])
 |_,_,_,_,.nil,e=>by simp at e
 |_,_,0,_,.cons ⟨a,h1,h2⟩ _,e=>by simp at e;subst e;exact⟨_,a,rfl,h1,h2⟩
 |_,_,i+1,v,.cons _ r,e=>by
  obtain⟨s,a,h1,h2⟩:=Stp.at (i:=i) (v:=v) r (by simpa using e);exact⟨s,a,by simpa using h1,h2⟩
theorem kB{ns:List Int}{j:Nat}(h:j<ns.length):atI (ivs ns) ((j:Nat):Int)=some (.int (ns.getD j 0)):=by
 apply bC;rw[zW,zN h,Ae,zN h];rfl
def Ia:Sp:=fun vs H Q _=>∃l ws x,vs=[.ref l,.str (txt x)]/\H l=some (.lst (au ws))/\Wok ws/\x.length<=400/\∀p H',DO H H'->H p=none->H' p=some (.lst (ivs (bL ws x x.length)))->Q (.ref p) H'
theorem sJ{dl d:DD}(yk:(dg "last_steps" 20 ["words","text","end"] dl 1 Ik))(D:Def K mg "ways_to_places" (top 21) ["words","text"] d)(xn:mg "range"=none)(xm:mg "len"=none)(xM:mg "sum"=none):(fk 2 d ["words","text"] Ia):=by
 exists["words","text","ways","end"]
 obtain⟨l,ws,x,rfl,hl,W,h400,q⟩:=h;refine⟨_,(af (ay 2 (Or.inr rfl) (bw (aJ (ah _) bB))) (af (bZ (fk xn (DI (ah _) (aJ (aF Eb (aU DJ xm (1) aC) (ah _)) (by rfl)) bB)) (ar 3) (ak (bE (eQ (2) (aG (dH hc) xM Gn (aJ (aR (ao (ts:=["number","start"]) (cap:=["ways"]) (js:=[2]) rfl rfl rfl rfl rfl rfl (by decide +kernel)) (aL (bh yk.1 yk.2 (DI (0) (DI (1) (aJ (3) aC) aC) aC))) (@cJ _ _ _ _ _ 2 K rfl hc (aB (ad 0 (nd ["number","start","ways"])) (aB (ad 1 (nd ["number","start","ways"])) (@Ee _))) (by rfl) (by rfl)) (@aM _) (aQ (show IxR _ (eT K) from DK) (2) (1))) (by rfl))) fE)))) (ak (aD (2))))),?_⟩
 walk_at "d"
 refine⟨aw (by show 1<=1000000;decide),fun L nL=>?_⟩;have F0:=(Hs.start H).new nL (.lst [.int 1]);refine⟨_,rfl,txt x,rfl,aw (by show x.length<=1000000;lia),_,_,rfl,rfl,?_⟩;have big:x.length<2^62:=by lia
 refine⟨1,((txt x).length:Nat)+1,rfl,⟨by decide,by decide,by show -(2^62)<=((x.length:Nat):Int)+1;lia,by show((x.length:Nat):Int)+1<2^62;lia⟩,?_⟩;have en:((((txt x).length:Nat):Int)+1-1).toNat=x.length:=by show(((x.length:Nat):Int)+1-1).toNat=_;lia
 rw[en];refine⟨fun i m σ H'=>m=x.length-i/\i<=x.length/\(∃e',σ=[some (.ref l),some (.str (txt x)),some (.ref L),e'])/\Hs H [(L,.lst (ivs (bL ws x i)))] H',⟨_,rfl,zX _,⟨_,rfl⟩,F0⟩,fun i m σ H' z=>?_⟩;obtain⟨rfl,hi,⟨e',rfl⟩,F⟩:=z;have hlL:l≠L:=ax hl nL;by_cases hend:i=x.length
 ·subst hend;exact .inl ⟨zE _,_,rfl,q L H' F.all nL (F.get 0)⟩
 have hlt:i<x.length:=by lia
 refine .inr ⟨hlt,fun σ' H''=>(∃e',σ'=[some (.ref l),some (.str (txt x)),some (.ref L),e'])/\Hs H [(L,.lst (ivs (bL ws x (i+1))))] H'',fun σ' H'' z=>⟨x.length-(i+1),by lia,rfl,hlt,z.1,z.2⟩,fun v H'' z=>?_⟩;obtain⟨rfl,ev⟩:=z;obtain rfl:v=.int ((i+1:Nat):Int):=by rw[ev];congr 1;lia
 have wl:=ck ws x i;refine⟨_,rfl,.inl ⟨rfl,_,SqL.of (F.get 0)⟩,_,rfl,_,rfl,_,rfl,l,ws,x,i+1,rfl,F.all _ _ hl,W.n8,W.l40,h400,fun cs _ h=>iB h,fun p us H1 S1 hp hs=>⟨p,rfl,⟨_,SqL.of hp⟩,?_⟩⟩;have sl:(aS ws x (i+1)).length<=8:=by
  unfold aS;rw[zF];refine zO (Bt _ _) ?_;rw[CI];exact W.n8
 have eu:=Paired.length hs;refine bM (K:=K) (a:=p) (xs:=us) (fun k ys H2=>DO H1 H2/\ys=ivs (((aS ws x (i+1)).take k).map fun s=>(bL ws x i).getD s.2 0)) ⟨DO.refl H1,rfl⟩ (fun k ys H2 hk z=>by rw[z.2,zF,zF,Aa];lia) (aw (by lia)) (fun k ys H2 hk z=>SqL.of (z.1 _ _ hp)) (fun k v ys H2 hv z=>?_) (fun ys H2 z p' hp'=>?_)
 ·obtain⟨z1,rfl⟩:=z;have hk:k<us.length:=(zL.mp hv).1;obtain⟨s',a,es,rfl,ha⟩:=hs.at hv;have hst:=cS W (zS es);refine⟨a,_,rfl,SqT.of (z1 _ _ ha),rfl,_,_,rfl,_,_,rfl,rfl,?_⟩;refine⟨_,rfl,_,rfl,L,_,_,_,rfl,rfl,SqL.of (z1 _ _ (S1 _ _ (F.get 0))),kB (by lia),Nx.mk hk ⟨z1,?_⟩⟩;rw[Ak,es];simp[ivs]
 ·obtain⟨z1,rfl⟩:=z;rw[eu,Af (zE _)];refine⟨p',_,rfl,SqL.of ae,L,ivs (bL ws x i),_,rfl,rfl,?_,?_,?_⟩
  ·exact ag hp' _ _ _ (z1 _ _ (S1 _ _ (F.get 0)))
  ·refine zP (show _<1000000 from ?_) (aw (zE _));rw[zF];lia
  ·refine⟨⟨_,rfl⟩,?_⟩;have F1:=F.mono (S1.trans (z1.trans (ag hp' (.lst (ivs ((aS ws x (i+1)).map fun s=>(bL ws x i).getD s.2 0))))));have F2:=F1.put 0 (.lst (ivs (bL ws x (i+1))));rw[bL] at F2 ⊢;simpa [ivs] using F2
def qe (ws:List (List Nat))(x:List Nat)(L:List (Option (List Int)))(e:Nat):List (List Int):=(aS ws x e).filterMap fun s=>(L.getD s.2 none).map fun r=>r++[(s.1:Int)]
inductive Lst(ws:List (List Nat))(x:List Nat):Nat->List (Option (List Int))->Prop
 |zero:Lst ws x 0 [some []]
 |miss {n:Nat}{L:List (Option (List Int))}:Lst ws x n L->qe ws x L (n+1)=[]->Lst ws x (n+1) (L++[none])
 |hit {n:Nat}{L:List (Option (List Int))}{r:List Int}:Lst ws x n L->r∈qe ws x L (n+1)->(∀r'∈qe ws x L (n+1),kLt r' r=false)->Lst ws x (n+1) (L++[some r])
theorem Lst.len{ws:List (List Nat)}{x:List Nat}{n:Nat}{L:List (Option (List Int))}(h:Lst ws x n L):L.length=n+1:=by
 induction h with
 |zero=>rfl
 |miss _ _ ih=>rw[zG,ih];rfl
 |hit _ _ _ ih=>rw[zG,ih];rfl
theorem iX{α:Type}(L:List α)(y d:α)(i:Nat):(L++[y]).getD i d=if i<L.length then L.getD i d else if i=L.length then y else d:=by
 rw[Ae,Ae];by_cases h:i<L.length
 ·rw[CZ h,Ba h]
 ·rw[CY h,AE (by lia)];by_cases h2:i=L.length
  ·rw[CZ h2,h2,BV];rfl
  ·rw[CY h2,Bx (by show 1<=_;lia)];rfl
def Ask (H:Hp)(vs:List V)(ws:List (List Nat))(x:List Nat):Prop:=∃l us v,vs=[.ref l,v]/\H l=some (.lst us)/\Mks H us ws/\Wds ws/\(∀c∈x,EK c)/\x.length<=400/\T4o H v (wt x)
def Ke:Sp:=fun vs H Q _=>∃ws x,Ask H vs ws x/\∀H',DO H H'->Q (.int ((bL ws x x.length).getD x.length 0)) H'
theorem Jy:DN ["makers","table","words","text"] ["makers","table"] (av (top 22)):=by walk_at "s"
theorem wA{dm dw dx d:DD}(xG:(dg "maker_words" 19 ["makers"] dm 5 GS))(yK:(dg "word_of" 14 ["table"] dw 4 IW))(ym:(dg "ways_to_places" 21 ["words","text"] dx 2 Ia))(D:Def K mg "many_rows" (top 22) ["makers","table"] d)(xm:mg "len"=none):(fk 6 d ["makers","table"] Ke):=by
 refine D.fn.ok Jy (fun vs H Q E h=>?_) (fun cdv A outer s H vs Q E hr h=>?_)
 ·obtain⟨ws,x,⟨l,us,v,rfl,_⟩,_⟩:=h;rfl
 obtain⟨ws,x,⟨l,us,v,rfl,hl,hm,hw,hlr,h400,h4⟩,q⟩:=h;have hc:=hr.calm;have nd:=Jy.nd;refine⟨_,(af (ay 2 (Or.inl rfl) (bD xG.1 xG.2 (0) aC)) (af (ay 3 (Or.inl rfl) (bD yK.1 yK.2 (1) aC)) (ak (aD (aQ DK (bh ym.1 ym.2 (DI (2) (aJ (3) aC) aC)) (aU DJ xm (3) aC)))))),?_⟩
 walk_at "d"
 refine⟨_,rfl,l,us,ws,rfl,hl,hm,hw,fun p1 H1 S1 g1=>?_⟩;refine⟨_,rfl,v,x,rfl,hlr,h400,h4.mono S1,fun H2 S2=>?_⟩;refine⟨_,rfl,_,rfl,p1,ws,x,rfl,S2 _ _ g1,hw.ok,h400,fun p H3 S3 n3 g3=>?_⟩;refine⟨_,rfl,txt x,rfl,aw (by show x.length<=1000000;lia),p,_,_,_,rfl,rfl,SqL.of g3,kB (j:=x.length) (by rw[ck];lia),?_⟩;exact q H3 (S1.trans (S2.trans S3))
theorem DatAll.strs{H:Hp}:∀xs:List Str,DatAll K H (xs.map V.str) (xs.map PyData.str)
 |[]=>.nil
 |x::r=>.cons (.str x) (DatAll.strs r)
theorem Iw:∀xs:List Str,PyData.eqv (.list (xs.map PyData.str)) (.list [])=xs.isEmpty
 |[]=>rfl
 |_::_=>rfl
theorem Gx:∀xs:List Str,(∀x∈xs,PyData.strOk x=true)->PyData.canLayAll0 (xs.map PyData.str)=true
 |[],_=>rfl
 |x::r,h=>by
  show(PyData.strOk x&&PyData.canLayAll0 (r.map PyData.str))=true;rw[h x zQ,Gx r fun y hy=>h y (Ac _ hy)];rfl
theorem Fg:∀xs:List Str,PyData.depthAll (xs.map PyData.str)=0
 |[]=>rfl
 |x::r=>by
  show max 0 (PyData.depthAll (r.map PyData.str))=0;rw[Fg r];rfl
theorem jE(xs:List Str):(PyData.list (xs.map PyData.str)).depth<=60:=by
 have e:(PyData.list (xs.map PyData.str)).depth=PyData.depthAll (xs.map PyData.str)+1:=by simp[PyData.depth]
 rw[e,Fg];decide
theorem tW{x:Str}(h:As x):PyData.strOk x=true:=by
 unfold PyData.strOk;rw[<- Array.all_toList,AK];intro c hc;exact Dc (BD (h c hc) (by decide))
theorem nH{α:Type}{l:List α}{r:Int}(h0:0<=r)(h1:r<l.length):∃c,atI l r=some c/\c∈l:=by
 have hk:r.toNat<l.length:=by lia
 have ek:r=((r.toNat:Nat):Int):=by lia
 have e:=bC (zN hk);rw[<- ek] at e;exact⟨_,e,An hk⟩
theorem Dr.put{p W:Addr}{H H':Hp}(h:Dr p H H')(n:H W=none)(ne:W≠p)(o:HO):Dr p H (upd H' W o):=by
 refine⟨fun b u e=>?_,?_⟩
 ·have e1:=bg p H _ _ e;have nb:b≠W:=ax e1 n;have e2:=h.same _ _ e;have np:b≠p:=fun z=>by unfold hid at e;rw[CZ z] at e;cases e
  rw[dG np] at e2 ⊢;rw[aq nb];exact e2
 ·obtain⟨a,b,c,e,r⟩:=h.ds;exact⟨a,b,c,by rw[aq (Dv ne)];exact e,r⟩
theorem jn{p W:Addr}{H:Hp}(ne:W≠p)(o:HO):hid p (upd H W o) W=some o:=by rw[dG ne,ae]
theorem tS(z:Str):z=txt z.cps.toList:=eJ rfl
structure Gw(cs:List Nat):Prop where
 lr:∀c∈cs,EK c
 l1:1<=cs.length
 l40:cs.length<=40
abbrev vE(ws:List (List Nat)):List Str:=ws.map txt
theorem kQ(ws:List (List Nat)):au ws=(vE ws).map V.str:=by rw[AG];rfl
theorem cR(ws:List (List Nat))(z:Str):au ws++[V.str z]=au (ws++[z.cps.toList]):=by
 show(ws.map fun cs=>V.str (txt cs))++[V.str z]=(ws++[z.cps.toList]).map fun cs=>V.str (txt cs);rw[zV];show _=_++[V.str (txt z.cps.toList)]
 rw[<- tS]
def Jo:Sp:=fun vs H Q _=>∃p,vs=[.ref p]/\Ds H p/\∀W ws H',Dr p H H'->H W=none->hid p H' W=some (.lst (au ws))->Wds ws->Q (.ref W) H'
theorem sq{z:Str}(h:LRs z)(h1:1<=z.length):Gw ((Txt.slice z none (some 40)).cps.toList):=by
 have e:(Txt.slice z none (some 40)).length=min 40 z.length:=by rw[show(40:Int)=((40:Nat):Int) from rfl,dE]
 rw[cZ] at e;exact⟨fun c hc=>h c (cI hc),by lia,by lia⟩
theorem tN{dd dp d:DD}(xp:(dg "_law_draw" 41 ["draws","many"] dd 1 Fv))(xD:(dg "_law_piece" 42 ["draws","most"] dp 2 FU))(D:Def K mg "_law_makers" (top 46) ["draws"] d)(xn:mg "range"=none)(xm:mg "len"=none):(fk 3 d ["draws"] Jo):=by
 exists["draws","words","many","most","k","word","one","other","way"]
 obtain⟨p,rfl,hp,q⟩:=h;refine⟨_,(af (ay 1 (Or.inl rfl) (bw (@DZ _))) (af (ay 2 (Or.inl rfl) (aQ DK (bw (DI (aF Eb (ah _) (bh xp.1 xp.2 (DI (0) (aJ (ah _) bB) aC))) (DI (ah _) (aJ (ah _) bB) bB) (by rfl))) (bh xp.1 xp.2 (DI (0) (aJ (ah _) bB) aC)))) (af (ay 3 (Or.inl rfl) (aQ DK (bw (DI (ah _) (DI (ah _) (DI (ah _) (aJ (ah _) bB) bB) bB) bB)) (bh xp.1 xp.2 (DI (0) (aJ (ah _) bB) aC)))) (af (bZ (bp xn (aJ (2) aC)) (ar 4) (af (ay 5 (Or.inl rfl) (bh xD.1 xD.2 (DI (0) (aJ (3) aC) aC))) (af (bf (aE (fB hr.units) (1) (bw (@DZ _)) (aH _)) (af (ay 6 (Or.inl rfl) (aQ DK (1) (bh xp.1 xp.2 (DI (0) (aJ (aU DQ xm (1) aC) fE) aC)))) (af (ay 7 (Or.inl rfl) (aQ DK (1) (bh xp.1 xp.2 (DI (0) (aJ (aU DQ xm (1) aC) fE) aC)))) (af (ay 8 (Or.inl rfl) (bh xp.1 xp.2 (DI (0) (aJ (ah _) bB) aC))) (ak (bf (aE GD (8) (ah _) (aH _)) (ak (ay 5 (Or.inl rfl) (aQ DK (bw (DI (aF Ep (6) (7)) (DI (aF Ep (6) (5)) (DI (aF Ep (5) (6)) (aJ (6) aC) (by rfl)) (by rfl)) (by rfl))) (8)))) (DP _)))))) (DP _)) (ak (bE (eQ (1) (ba Ek (5) (Ea _) (bx (ah _))) (by rfl))))))) (ak (aD (1))))))),?_⟩
 walk_at "d"
 refine⟨zX _,fun W nW=>?_⟩;have W0:=Dr.new hp nW (.lst []);have neW:W≠p:=Dv (hp.ne nW);have g0:hid p (upd H W (.lst [])) W=some (.lst (au [])):=eM hp nW _;refine⟨_,rfl,p,8,rfl,W0.ds,by decide,by decide,fun r1 H1 a0 a1 dr1=>?_⟩;refine⟨_,_,rfl,rfl,aw (by show 3<=1000000;decide),fun L1 nL1=>?_⟩;have D1:=Dr.new dr1.ds nL1 (.lst [.int (1+r1),.int 2,.int 3]);refine⟨_,rfl,p,3,rfl,D1.ds,by decide,by decide,fun r2 H2 b0 b1 dr2=>?_⟩;have gL1:=bg p _ _ _ (dr2.same _ _ (eM dr1.ds nL1 (.lst [.int (1+r1),.int 2,.int 3])));obtain⟨v1,ev1,mv1⟩:=nH (l:=[V.int (1+r1),.int 2,.int 3]) b0 b1;obtain⟨many,rfl,mn1,mn8⟩:∃n:Nat,v1=.int (n:Int)/\1<=n/\n<=8:=by
  simp only[zU,AC,or_false] at mv1;rcases mv1 with rfl|rfl|rfl
  ·exact⟨(1+r1).toNat,by congr 1;lia,by lia,by lia⟩
  ·exact⟨2,rfl,by decide,by decide⟩
  ·exact⟨3,rfl,by decide,by decide⟩
 refine⟨L1,_,r2,_,rfl,rfl,SqL.of gL1,ev1,?_⟩;refine⟨aw (by show 4<=1000000;decide),fun L2 nL2=>?_⟩;have D2:=Dr.new dr2.ds nL2 (.lst [.int 3,.int 6,.int 20,.int 40]);refine⟨_,rfl,p,4,rfl,D2.ds,by decide,by decide,fun r3 H3 c0 c1 dr3=>?_⟩;have gL2:=bg p _ _ _ (dr3.same _ _ (eM dr2.ds nL2 (.lst [.int 3,.int 6,.int 20,.int 40])));obtain⟨v2,ev2,mv2⟩:=nH (l:=[V.int 3,.int 6,.int 20,.int 40]) c0 c1;obtain⟨most,rfl,ms1,ms40⟩:∃n:Int,v2=.int n/\1<=n/\n<=40:=by
  simp only[zU,AC,or_false] at mv2;rcases mv2 with rfl|rfl|rfl|rfl
  ·exact⟨3,rfl,by decide,by decide⟩
  ·exact⟨6,rfl,by decide,by decide⟩
  ·exact⟨20,rfl,by decide,by decide⟩
  ·exact⟨40,rfl,by decide,by decide⟩
 refine⟨L2,_,r3,_,rfl,rfl,SqL.of gL2,ev2,?_⟩;have DD3:=W0.trans (dr1.trans (D1.trans (dr2.trans (D2.trans dr3))));have g3:hid p H3 W=some (.lst (au [])):=dr3.same _ _ (D2.same _ _ (dr2.same _ _ (D1.same _ _ (dr1.same _ _ g0))));clear D1 D2 gL1 gL2 ev1 ev2 dr1 dr2 dr3;refine⟨_,rfl,(many:Int),rfl,by lia,by lia,?_⟩;rw[Am];refine⟨fun i m σ H'=>m=many-i/\i<=many/\(∃a4 a5 a6 a7 a8,σ=[some (.ref p),some (.ref W),some (.int (many:Int)),some (.int most),a4,a5,a6,a7,a8])/\Dr p H H'/\∃ws,hid p H' W=some (.lst (au ws))/\ws.length=i/\∀cs∈ws,Gw cs,⟨_,rfl,zX _,⟨_,_,_,_,_,rfl⟩,DD3,[],g3,rfl,fun cs h=>absurd h (by simp)⟩,fun i m σ H' z=>?_⟩;obtain⟨rfl,hi,⟨a4,a5,a6,a7,a8,rfl⟩,dr,ws,gW,lw,hw⟩:=z;by_cases hend:i=many
 ·subst hend;exact .inl ⟨zE _,_,rfl,q W ws H' dr nW gW ⟨by lia,by lia,fun cs h=>(hw cs h).lr,fun cs h=>(hw cs h).l1,fun cs h=>(hw cs h).l40⟩⟩
 have hlt:i<many:=by lia
 refine .inr ⟨hlt,fun σ' H''=>(∃a4 a5 a6 a7 a8,σ'=[some (.ref p),some (.ref W),some (.int (many:Int)),some (.int most),a4,a5,a6,a7,a8])/\Dr p H H''/\∃ws,hid p H'' W=some (.lst (au ws))/\ws.length=i+1/\∀cs∈ws,Gw cs,fun σ' H'' z=>⟨many-(i+1),by lia,rfl,hlt,z.1,z.2⟩,fun v H'' z=>?_⟩;obtain⟨rfl,ev⟩:=z;refine⟨_,rfl,_,rfl,p,most,rfl,ms1,by lia,dr.ds,fun word H1 dr1 lr1 eF lenm=>?_⟩;have gW1:=dr1.same _ _ gW;have lzl:∀n:Nat,n<=1000->n<=sizeLine:=fun n h=>aw (by lia);have lws:(au ws).length<sizeLine:=zP (show _<1000000 by rw[zF];lia) (aw (zE _));have word80:word.length<=80:=by lia
 have ew:∀cs∈ws,PyData.strOk (txt cs)=true:=fun cs h=>tW (LRs.as (z:=txt cs) (hw cs h).lr);refine⟨_,rfl,zX _,fun e1 ne1=>?_⟩;have S1:=ag ne1 (.lst []);have gW2:hid p (upd H1 e1 (.lst [])) W=some (.lst (au ws)):=S1.hid _ _ gW1;have dr2:=dr1.trans (Dr.of_same dr1.ds S1);refine⟨.list ((vE ws).map PyData.str),.list [],.lst (SqL.of (bg p _ _ _ gW2)) (kQ ws▸DatAll.strs _),.lst (SqL.of ae) .nil,Gx _ (fun z h=>by obtain⟨cs,hcs,rfl⟩:=zM.mp h;exact ew cs hcs),rfl,jE _,!(vE ws).isEmpty,(by show V.bl (!PyData.eqv _ _)=_;rw[Iw]),?_⟩;cases hE:(!(vE ws).isEmpty) with
 |false=>
  refine⟨_,rfl,.inl ⟨rfl,_,SqL.of (bg p _ _ _ (gW2))⟩,_,rfl,_,rfl,word,rfl,lzl _ (by have:=word80;lia),W,au ws,_,rfl,rfl,bg p _ _ _ (gW2),lws,⟨_,_,_,_,_,rfl⟩,Dr.put (dr.trans dr2) nW neW _,ws++[(Txt.slice word none (some 40)).cps.toList],?_,by rw[zG,lw];rfl,fun cs h=>?_⟩
  ·rw[jn neW,cR]
  ·rcases zH.mp h with h|h
   ·exact hw cs h
   ·rw[zK.mp h];exact sq lr1 eF
 |true=>
  have l0:1<=ws.length:=by
   cases ws with
   |nil=>cases hE
   |cons _ _=>exact Dz (zX _)
  have lwi:ws.length<=8:=by lia
  have el:(au ws).length=ws.length:=zF ..;refine⟨_,rfl,_,rfl,_,rfl,W,_,rfl,.inl (SqL.of (bg p _ _ _ gW2)),p,_,rfl,dr2.ds,by lia,by lia,fun k1 H3 b0 b1 dr3=>?_⟩;obtain⟨v3,ev3,mv3⟩:=nH b0 b1;obtain⟨one,ho,rfl⟩:=zM.mp mv3;have gW3:=dr3.same _ _ gW2;refine⟨W,_,k1,_,rfl,rfl,SqL.of (bg p _ _ _ gW3),ev3,?_⟩;refine⟨_,rfl,_,rfl,_,rfl,W,_,rfl,.inl (SqL.of (bg p _ _ _ gW3)),p,_,rfl,dr3.ds,by lia,by lia,fun k2 H4 c0 c1 dr4=>?_⟩;obtain⟨v4,ev4,mv4⟩:=nH c0 c1;obtain⟨other,hoo,rfl⟩:=zM.mp mv4;have gW4:=dr4.same _ _ gW3;refine⟨W,_,k2,_,rfl,rfl,SqL.of (bg p _ _ _ gW4),ev4,?_⟩;refine⟨_,rfl,p,8,rfl,dr4.ds,by decide,by decide,fun way H5 d0 d1 dr5=>?_⟩;have gW5:=dr5.same _ _ gW4;have dr25:=dr2.trans (dr3.trans (dr4.trans dr5));have o40:=(hw one ho).l40;have o1:=(hw one ho).l1;have oo40:=(hw other hoo).l40;have to:(txt one).length=one.length:=rfl;have too:(txt other).length=other.length:=rfl;refine⟨_,rfl,_,_,rfl,rfl,decide (way<4),rfl,?_⟩;cases hB:decide (way<4) with
  |false=>
   refine⟨_,rfl,.inl ⟨rfl,_,SqL.of (bg p _ _ _ (gW5))⟩,_,rfl,_,rfl,word,rfl,lzl _ (by have:=word80;lia),W,au ws,_,rfl,rfl,bg p _ _ _ (gW5),lws,⟨_,_,_,_,_,rfl⟩,Dr.put (dr.trans dr25) nW neW _,ws++[(Txt.slice word none (some 40)).cps.toList],?_,by rw[zG,lw];rfl,fun cs h=>?_⟩
   ·rw[jn neW,cR]
   ·rcases zH.mp h with h|h
    ·exact hw cs h
    ·rw[zK.mp h];exact sq lr1 eF
  |true=>
   have hB':=Dg hB;refine⟨_,rfl,_,rfl,_,_,rfl,rfl,lzl _ (by lia),_,rfl,_,rfl,_,_,rfl,rfl,lzl _ (by lia),_,rfl,_,rfl,_,_,rfl,rfl,lzl _ (by lia),_,rfl,aw (by show 4<=1000000;decide),fun L5 nL5=>?_⟩;have S5:=ag nL5 (.lst [.str (txt one++txt other),.str (txt one++word),.str (word++txt one),.str (txt one)]);have gW6:=S5.hid _ _ gW5;have dr26:=dr25.trans (Dr.of_same dr5.ds S5);obtain⟨v6,ev6,mv6⟩:=nH (l:=[V.str (txt one++txt other),.str (txt one++word),.str (word++txt one),.str (txt one)]) d0 hB';obtain⟨z,rfl,lrz,l1z,l80z⟩:∃z:Str,v6=.str z/\LRs z/\1<=z.length/\z.length<=80:=by
    have lo:LRs (txt one):=(hw one ho).lr;have loo:LRs (txt other):=(hw other hoo).lr;have app:∀a b:Str,LRs a->LRs b->LRs (a++b):=fun a b ha hb c hc=>by
     rw[ig] at hc;rcases zH.mp hc with h|h
     ·exact ha c h
     ·exact hb c h
    simp only[zU,AC,or_false] at mv6;rcases mv6 with rfl|rfl|rfl|rfl
    ·exact⟨_,rfl,app _ _ lo loo,by rw[eD];lia,by rw[eD];lia⟩
    ·exact⟨_,rfl,app _ _ lo lr1,by rw[eD];lia,by rw[eD];lia⟩
    ·exact⟨_,rfl,app _ _ lr1 lo,by rw[eD];lia,by rw[eD];lia⟩
    ·exact⟨_,rfl,lo,by lia,by lia⟩
   refine⟨_,rfl,L5,_,way,_,rfl,rfl,SqL.of ae,ev6,?_⟩;refine⟨_,rfl,.inl ⟨rfl,_,SqL.of (bg p _ _ _ (gW6))⟩,_,rfl,_,rfl,z,rfl,lzl _ (by have:=l80z;lia),W,au ws,_,rfl,rfl,bg p _ _ _ (gW6),lws,⟨_,_,_,_,_,rfl⟩,Dr.put (dr.trans dr26) nW neW _,ws++[(Txt.slice z none (some 40)).cps.toList],?_,by rw[zG,lw];rfl,fun cs h=>?_⟩
   ·rw[jn neW,cR]
   ·rcases zH.mp h with h|h
    ·exact hw cs h
    ·rw[zK.mp h];exact sq lrz l1z
def fK (ws:List (List Nat))(x:List Nat):Nat->List (Option Int×Int)
 |0=>[(some 0,1)]
 |n+1=>fK ws x n++[(((aS ws x (n+1)).filterMap fun s=>((fK ws x n).getD s.2 (none,0)).1.map (·+1)).min?,((aS ws x (n+1)).map fun s=>((fK ws x n).getD s.2 (none,0)).2).sum)]
theorem eY(ws:List (List Nat))(x:List Nat):∀n,(fK ws x n).length=n+1
 |0=>rfl
 |n+1=>by rw[fK,zG,eY ws x n];rfl
def ov:Option Int->V
 |none=>.non
 |some i=>.int i
def Cn (H:Hp)(v:V)(c:Option Int×Int):Prop:=∃a,v=.ref a/\H a=some (.tup [ov c.1,.int c.2])
abbrev Cns(H:Hp)(us:List V)(cs:List (Option Int×Int)):Prop:=Paired (Cn H) us cs
theorem Cns.mono{H H':Hp}(S:DO H H'){us:List V}{cs:List (Option Int×Int)}(h:Cns H us cs):Cns H' us cs:=Paired.EW h fun v c hq90=>by obtain⟨a,e,g⟩:=hq90;exact⟨a,e,S _ _ g⟩
theorem Cns.put{H:Hp}{F:Addr}{xs:List V}(g:H F=some (.lst xs))(o:HO){us:List V}{cs:List (Option Int×Int)}(h:Cns H us cs):Cns (upd H F o) us cs:=
 Paired.EW h fun v c hq91=>by obtain⟨a,e,ga⟩:=hq91;exact⟨a,e,by rw[aq (fun z=>by rw[z,g] at ga;cases ga)];exact ga⟩
theorem Cns.at{H:Hp}:∀{us:List V}{cs:List (Option Int×Int)}{i:Nat},Cns H us cs->i<cs.length->∃a,us[i]?=some (.ref a)/\H a=some (.tup [ov (cs.getD i (none,0)).1,.int (cs.getD i (none,0)).2])
 |_,_,_,.nil,h=>absurd h (by simp)
 |_,_,0,.cons ⟨a,e,g⟩ _,_=>⟨a,by rw[e];rfl,g⟩
 |_,_,i+1,.cons _ r,h=>by
  obtain⟨a,h1,h2⟩:=Cns.at (i:=i) r (by simpa using h);exact⟨a,by simpa using h1,by simpa using h2⟩
def IZ:Sp:=fun vs H Q _=>∃l ws x,vs=[.ref l,.str (txt x)]/\H l=some (.lst (au ws))/\Wok ws/\x.length<=400/\∀p us H',DO H H'->H p=none->H' p=some (.lst us)->Cns H' us (fK ws x x.length)->Q (.ref p) H'
abbrev nvs(ns:List Nat):List V:=ns.map fun(n:Nat)=>V.int (n:Int)
def bF (ws:List (List Nat))(x:List Nat)(e:Nat):List Nat:=(aS ws x e).map (·.2)
theorem ju(ws:List (List Nat))(w x:List Nat)(e:Nat):bF (ws++[w]) x e=bF ws x e++(if bJ (x.take e) w=true then [e-w.length] else []):=by
 unfold bF;rw[eS,zV];split<;>rfl
theorem ot(ws:List (List Nat))(x:List Nat)(e:Nat):(bF ws x e).length<=ws.length:=by
 unfold bF aS;rw[zF,zF];refine zO (Bt _ _) ?_;rw[CI];exact zE _
theorem mP{ns:List Nat}{k:Nat}{v:V}(h:(nvs ns)[k]?=some v):k<ns.length/\∃e,ns[k]?=some e/\v=.int (e:Int):=by
 have hk:k<(nvs ns).length:=(zL.mp h).1;rw[zF] at hk;rw[zW,zN hk] at h;exact⟨hk,_,zN hk,(Di h).symm⟩
theorem qm{ns:List Int}{m:Int}(h1:m∈ns)(h2:∀n∈ns,m<=n):ns.min?=some m:=List.min?_eq_some_iff.mpr ⟨h1,h2⟩
theorem ve{d:DD}(D:Def K mg "_law_counts" (top 44) ["words","text"] d)(xn:mg "range"=none)(xm:mg "len"=none)(xw:mg "min"=none)(xM:mg "sum"=none):(fk 1 d ["words","text"] IZ):=by
 exists["words","text","found","at","ends","steps"]
 obtain⟨l,ws,x,rfl,hl,W,h400,q⟩:=h;refine⟨_,(af (ay 2 (Or.inr rfl) (bw (aJ (aZ (DI (ah _) (aJ (ah _) bB) bB)) (by rfl)))) (af (bZ (fk xn (DI (ah _) (aJ (aF Eb (aU DJ xm (1) aC) (ah _)) (by rfl)) bB)) (am 3) (af (eK 4 (ao (ts:=["word"]) (cap:=["text","at"]) (js:=[1,3]) rfl rfl rfl rfl rfl rfl (by decide +kernel)) (aL (0)) (ad 0 (nd ["word","text","at"])) (@cH _ _ _ (bH (fN Dk PySem.F.slot_str_endswith PySem.F.type_str_endswith GK (ba Ek (1) (Ea _) (bx (2))) (aJ (0) aC)))) (aF EL (2) (aU DJ xm (0) aC))) (af (eK 5 (ao (ts:=["end"]) (cap:=["found"]) (js:=[2]) rfl rfl rfl rfl rfl rfl (by decide +kernel)) (aL (4)) (ad 0 (nd ["end","found"])) (@cH _ _ _ (aE FY (aQ (show IxR _ (rF K) from Eg) (aQ (show IxR _ (eT K) from DK) (1) (0)) (ah _)) (cn _) (aH _))) (aF Eb (aQ (show IxR _ (rF K) from Eg) (aQ (show IxR _ (eT K) from DK) (1) (0)) (ah _)) (ah _))) (ak (bE (eQ (2) (aZ (DI (iw (aE (fB hr.units) (5) (bw (@DZ _)) (aH _)) (aG (oE hc) xw Fj (aJ (5) aC)) (cn _)) (aJ (aG (dH hc) xM Gn (aJ (aR (ao (ts:=["end"]) (cap:=["found"]) (js:=[2]) rfl rfl rfl rfl rfl rfl (by decide +kernel)) (aL (4)) (ad 0 (nd ["end","found"])) (@aM _) (aQ (show IxR _ (rF K) from Eg) (aQ (show IxR _ (eT K) from DK) (1) (0)) (ah _))) (by rfl))) fE) (by rfl))) (by rfl))))))) (ak (aD (2))))),?_⟩
 walk_at "d"
 refine⟨aw (by show 2<=1000000;decide),fun t0 nt0=>⟨aw (by show 1<=1000000;decide),fun F nF=>?_⟩⟩;have S0:=(ag nt0 (.tup [.int 0,.int 1])).trans (ag nF (.lst [.ref t0]));have n0:H F=none:=(ag nt0 (.tup [.int 0,.int 1])).free nF;have g0:upd (upd H t0 (.tup [.int 0,.int 1])) F (.lst [.ref t0]) F=some (.lst [.ref t0]):=ae;have C0:Cns (upd (upd H t0 (.tup [.int 0,.int 1])) F (.lst [.ref t0])) [.ref t0] (fK ws x 0):=.cons ⟨t0,rfl,ag nF _ _ _ ae⟩ .nil;generalize upd (upd H t0 (.tup [.int 0,.int 1])) F (.lst [.ref t0])=HF at S0 g0 C0;refine⟨_,rfl,txt x,rfl,aw (by show x.length<=1000000;lia),_,_,rfl,rfl,?_⟩;have big:x.length<2^62:=by lia
 refine⟨1,((txt x).length:Nat)+1,rfl,⟨by decide,by decide,by show -(2^62)<=((x.length:Nat):Int)+1;lia,by show((x.length:Nat):Int)+1<2^62;lia⟩,?_⟩;have en:((((txt x).length:Nat):Int)+1-1).toNat=x.length:=by show(((x.length:Nat):Int)+1-1).toNat=_;lia
 rw[en];refine⟨fun i m σ H'=>m=x.length-i/\i<=x.length/\(∃e' s' r',σ=[some (.ref l),some (.str (txt x)),some (.ref F),e',s',r'])/\∃us,DO H H'/\H' F=some (.lst us)/\Cns H' us (fK ws x i),⟨_,rfl,zX _,⟨_,_,_,rfl⟩,_,S0,g0,C0⟩,fun i m σ H' z=>?_⟩;obtain⟨rfl,hi,⟨e',s',r',rfl⟩,us,SH,gF,hC⟩:=z;by_cases hend:i=x.length
 ·subst hend;exact .inl ⟨zE _,_,rfl,q F us H' SH n0 gF hC⟩
 have hlt:i<x.length:=by lia
 refine .inr ⟨hlt,fun σ' H''=>(∃e' s' r',σ'=[some (.ref l),some (.str (txt x)),some (.ref F),e',s',r'])/\∃us,DO H H''/\H'' F=some (.lst us)/\Cns H'' us (fK ws x (i+1)),fun σ' H'' z=>⟨x.length-(i+1),by lia,rfl,hlt,z.1,z.2⟩,fun v H'' z=>?_⟩;obtain⟨rfl,ev⟩:=z;obtain rfl:v=.int ((i+1:Nat):Int):=by rw[ev];congr 1;lia
 have Cl:=eY ws x i;have Cu:=Paired.length hC;have el:(au ws).length=ws.length:=zF ..;have w8:=W.n8;have eends:bF ws x (i+1)=(aS ws x (i+1)).map (·.2):=rfl;have mends:∀e∈bF ws x (i+1),e<=i:=fun e h=>by
  obtain⟨s,hs,rfl⟩:=zM.mp h;exact cS W hs
 have lends:(bF ws x (i+1)).length<=8:=by
  unfold bF aS;rw[zF,zF];refine zO (Bt _ _) ?_;rw[CI];exact w8
 have eC:fK ws x (i+1)=fK ws x i++[(((bF ws x (i+1)).filterMap fun e=>((fK ws x i).getD e (none,0)).1.map (·+1)).min?,((bF ws x (i+1)).map fun e=>((fK ws x i).getD e (none,0)).2).sum)]:=by
  unfold bF;rw[List.filterMap_map,AG];rfl
 have lzu:us.length<sizeLine:=zP (show _<1000000 by lia) (aw (zE _));refine⟨_,rfl,l,rfl,⟨_,SqL.of (SH _ _ hl)⟩,?_⟩;refine bM (K:=K) (a:=l) (xs:=au ws) (fun k ys H1=>DO H'' H1/\ys=nvs (bF (ws.take k) x (i+1))) ⟨DO.refl H'',rfl⟩ (fun k ys H1 hk z=>?_) (aw (by lia)) (fun k ys H1 hk z=>SqL.of (z.1 _ _ (SH _ _ hl))) (fun k v ys H1 hv z=>?_) (fun ys H1 z p1 hp1=>?_)
 ·rw[z.2,zF];refine zO (ot _ _ _) ?_;rw[Aa];lia
 ·obtain⟨z1,rfl⟩:=z;have hk:k<(au ws).length:=(zL.mp hv).1;have hk':k<ws.length:=by lia
  have ev:v=.str (txt ws[k]):=by
   rw[zW,zN hk'] at hv;exact(Di hv).symm
  subst ev;have hm:ws[k]∈ws:=An hk';have h40:=W.l40 _ hm;have et:ws.take (k+1)=ws.take k++[ws[k]]:=by rw[Ak,zN hk'];rfl
  have st:=ju (ws.take k) ws[k] x (i+1);rw[<- et] at st;refine⟨_,rfl,_,rfl,_,rfl,txt x,rfl,aw (by show x.length<=1000000;lia),rfl,_,rfl,_,txt ws[k],rfl,rfl,bJ (x.take (i+1)) ws[k],(by rw[fR];rfl),?_⟩;cases hB:bJ (x.take (i+1)) ws[k] with
  |false=>
   rw[hB] at st;show Nx (au ws).length k (fun k ys H1=>DO H'' H1/\ys=nvs (bF (ws.take k) x (i+1))) _ _;refine Nx.mk hk ⟨z1,?_⟩;rw[st];simp
  |true=>
   rw[hB] at st;have hle:=iB hB;refine⟨_,rfl,_,rfl,txt ws[k],rfl,aw (by show ws[k].length<=1000000;lia),_,_,rfl,rfl,Nx.mk hk ⟨z1,?_⟩⟩;rw[st];have e1:(((i+1:Nat):Int)-((txt ws[k]).length:Nat))=((i+1-ws[k].length:Nat):Int):=by
    show((i+1:Nat):Int)-(ws[k].length:Nat)=_;lia
   show nvs _++[V.int (((i+1:Nat):Int)-((txt ws[k]).length:Nat))]=_;rw[e1];simp[nvs]
 obtain⟨z1,rfl⟩:=z;rw[el,Af (zE _)];have S1:DO H'' (upd H1 p1 (.lst (nvs (bF ws x (i+1))))):=z1.trans (ag hp1 _);have g1:upd H1 p1 (.lst (nvs (bF ws x (i+1)))) p1=some (.lst (nvs (bF ws x (i+1)))):=ae;generalize upd H1 p1 (.lst (nvs (bF ws x (i+1))))=H1p at S1 g1;generalize bF ws x (i+1)=ends at *;generalize fK ws x i=C at *;have lne:(nvs ends).length=ends.length:=zF ..;refine⟨_,rfl,p1,rfl,⟨_,SqL.of g1⟩,?_⟩;refine bM (K:=K) (a:=p1) (xs:=nvs ends) (fun k ys H2=>DO H1p H2/\ys.length<=k/\ys=ivs ((ends.take k).filterMap fun e=>(C.getD e (none,0)).1.map (·+1))) ⟨DO.refl H1p,zE _,rfl⟩ (fun k ys H2 hk z=>z.2.1) (aw (by lia)) (fun k ys H2 hk z=>SqL.of (z.1 _ _ g1)) (fun k v ys H2 hv z=>?_) (fun ys H2 z p2 hp2=>?_)
 ·obtain⟨z1,z2,rfl⟩:=z;obtain⟨hk,e,ee,rfl⟩:=mP hv;have he:=mends e (zS ee);obtain⟨a,eu,ga⟩:=hC.at (i:=e) (by lia);have et:ends.take (k+1)=ends.take k++[e]:=by rw[Ak,ee];rfl
  refine⟨_,rfl,_,rfl,F,us,_,_,rfl,rfl,SqL.of (z1 _ _ (S1 _ _ gF)),bC eu,a,_,0,_,rfl,rfl,SqT.of (z1 _ _ (S1 _ _ ga)),rfl,rfl,!decide (ov (C.getD e (none,0)).1=.non),rfl,?_⟩;cases ho:(C.getD e (none,0)).1 with
  |none=>
   show Nx (nvs ends).length k (fun k ys H2=>DO H1p H2/\ys.length<=k/\ys=ivs ((ends.take k).filterMap fun e=>(C.getD e (none,0)).1.map (·+1))) _ _;refine Nx.mk (by lia) ⟨z1,by lia,?_⟩;rw[et,Cy,List.filterMap_cons_none (by rw[ho];rfl)];simp
  |some m=>
   rw[ho] at ga;refine⟨_,rfl,_,rfl,F,us,_,_,rfl,rfl,SqL.of (z1 _ _ (S1 _ _ gF)),bC eu,a,_,0,.int m,rfl,rfl,SqT.of (z1 _ _ (S1 _ _ ga)),rfl,_,_,rfl,rfl,Nx.mk (by lia) ⟨z1,by rw[zG];exact Dz z2,?_⟩⟩;rw[et,Cy,List.filterMap_cons_some (b:=m+1) (by rw[ho];rfl)];simp[ivs]
 obtain⟨z2,z3,rfl⟩:=z;rw[lne,Af (zE _)];clear z3;have S2:DO H1p (upd H2 p2 (.lst (ivs (ends.filterMap fun e=>(C.getD e (none,0)).1.map (·+1))))):=z2.trans (ag hp2 _);have g2:upd H2 p2 (.lst (ivs (ends.filterMap fun e=>(C.getD e (none,0)).1.map (·+1)))) p2=some (.lst (ivs (ends.filterMap fun e=>(C.getD e (none,0)).1.map (·+1)))):=ae;generalize upd H2 p2 (.lst (ivs (ends.filterMap fun e=>(C.getD e (none,0)).1.map (·+1))))=H2p at S2 g2;generalize (ends.filterMap fun e=>(C.getD e (none,0)).1.map (·+1))=ss at *;refine⟨_,rfl,.inl ⟨rfl,_,SqL.of (S2 _ _ (S1 _ _ gF))⟩,_,rfl,zX _,fun e1 ne1=>?_⟩;have S3:DO H1p (upd H2p e1 (.lst [])):=S2.trans (ag ne1 _);have g3:upd H2p e1 (.lst []) p2=some (.lst (ivs ss)):=ag ne1 _ _ _ g2;refine⟨.list (ss.map PyData.int),.list [],.lst (SqL.of g3) (dz ss),.lst (SqL.of ae) .nil,ki ss,rfl,zO (lJ ss) (by decide),!decide (ss=[]),(by show V.bl (!PyData.eqv _ (.list (([]:List Int).map PyData.int)))=_;rw[FX]),?_⟩;generalize upd H2p e1 (.lst [])=H3 at S3 g3;cases hE:(!decide (ss=[])) with
 |false=>
  have es:ss=[]:=by simpa using hE
  refine⟨_,rfl,p1,rfl,⟨_,SqL.of (S3 _ _ g1)⟩,?_⟩;refine bM (K:=K) (a:=p1) (xs:=nvs ends) (fun k ys H4=>DO H3 H4/\ys=ivs ((ends.take k).map fun e=>(C.getD e (none,0)).2)) ⟨DO.refl H3,rfl⟩ (fun k ys H4 hk z=>by rw[z.2,zF,zF,Aa];lia) (aw (by lia)) (fun k ys H4 hk z=>SqL.of (z.1 _ _ (S3 _ _ g1))) (fun k v ys H4 hv z=>?_) (fun ys H4 z p4 hp4=>?_)
  ·obtain⟨z1,rfl⟩:=z;obtain⟨hk,e,ee,rfl⟩:=mP hv;have he:=mends e (zS ee);obtain⟨a,eu,ga⟩:=hC.at (i:=e) (by lia);refine⟨_,rfl,_,rfl,F,us,_,_,rfl,rfl,SqL.of (z1 _ _ (S3 _ _ (S1 _ _ gF))),bC eu,a,_,1,_,rfl,rfl,SqT.of (z1 _ _ (S3 _ _ (S1 _ _ ga))),rfl,Nx.mk (by lia) ⟨z1,?_⟩⟩;rw[Ak,ee];simp[ivs]
  obtain⟨z1,rfl⟩:=z;rw[lne,Af (zE _)];refine⟨p4,_,rfl,SqL.of ae,aw (by show 2<=1000000;decide),fun t5 nt5=>?_⟩;have S5:DO H'' (upd (upd H4 p4 (.lst (ivs (ends.map fun e=>(C.getD e (none,0)).2)))) t5 (.tup [ov (none),.int (ends.map fun e=>(C.getD e (none,0)).2).sum])):=S1.trans (S3.trans (z1.trans ((ag hp4 _).trans (ag nt5 _))));have gF5:=S5 _ _ gF;refine⟨F,us,_,rfl,rfl,gF5,lzu,⟨_,_,_,rfl⟩,us++[.ref t5],fun b o h=>?_,ae,?_⟩
  ·rw[aq (ax h n0)];exact S5 _ _ (SH _ _ h)
  ·have C5:Cns _ (us++[.ref t5]) (C++[(none,(ends.map fun e=>(C.getD e (none,0)).2).sum)]):=Paired.snoc (hC.mono S5) ⟨t5,rfl,ae⟩;rw[eC,show ss.min?=none by rw[es];rfl];exact C5.put gF5 _
 |true=>
  have es:ss≠[]:=by simpa using hE
  refine⟨_,rfl,p2,ss,rfl,SqL.of g3,es,fun mm hm hmin=>?_⟩;refine⟨_,rfl,p1,rfl,⟨_,SqL.of (S3 _ _ g1)⟩,?_⟩;refine bM (K:=K) (a:=p1) (xs:=nvs ends) (fun k ys H4=>DO H3 H4/\ys=ivs ((ends.take k).map fun e=>(C.getD e (none,0)).2)) ⟨DO.refl H3,rfl⟩ (fun k ys H4 hk z=>by rw[z.2,zF,zF,Aa];lia) (aw (by lia)) (fun k ys H4 hk z=>SqL.of (z.1 _ _ (S3 _ _ g1))) (fun k v ys H4 hv z=>?_) (fun ys H4 z p4 hp4=>?_)
  ·obtain⟨z1,rfl⟩:=z;obtain⟨hk,e,ee,rfl⟩:=mP hv;have he:=mends e (zS ee);obtain⟨a,eu,ga⟩:=hC.at (i:=e) (by lia);refine⟨_,rfl,_,rfl,F,us,_,_,rfl,rfl,SqL.of (z1 _ _ (S3 _ _ (S1 _ _ gF))),bC eu,a,_,1,_,rfl,rfl,SqT.of (z1 _ _ (S3 _ _ (S1 _ _ ga))),rfl,Nx.mk (by lia) ⟨z1,?_⟩⟩;rw[Ak,ee];simp[ivs]
  obtain⟨z1,rfl⟩:=z;rw[lne,Af (zE _)];refine⟨p4,_,rfl,SqL.of ae,aw (by show 2<=1000000;decide),fun t5 nt5=>?_⟩;have S5:DO H'' (upd (upd H4 p4 (.lst (ivs (ends.map fun e=>(C.getD e (none,0)).2)))) t5 (.tup [ov (some mm),.int (ends.map fun e=>(C.getD e (none,0)).2).sum])):=S1.trans (S3.trans (z1.trans ((ag hp4 _).trans (ag nt5 _))));have gF5:=S5 _ _ gF;refine⟨F,us,_,rfl,rfl,gF5,lzu,⟨_,_,_,rfl⟩,us++[.ref t5],fun b o h=>?_,ae,?_⟩
  ·rw[aq (ax h n0)];exact S5 _ _ (SH _ _ h)
  ·have C5:Cns _ (us++[.ref t5]) (C++[(some mm,(ends.map fun e=>(C.getD e (none,0)).2).sum)]):=Paired.snoc (hC.mono S5) ⟨t5,rfl,ae⟩;rw[eC,qm hm hmin];exact C5.put gF5 _
abbrev revs(ws:List (List Nat)):List (List Nat):=ws.map List.reverse
def rst (ws:List (List Nat))(x:List Nat):List (Option Int×Int):=(fK (revs ws) x.reverse x.length).reverse
def few (ws:List (List Nat))(x:List Nat)(i:Nat):Option Int:=((rst ws x).getD i (none,0)).1
end
inductive Mk(ws:List (List Nat))(x:List Nat):Nat->List Int->Prop
 |nil:Mk ws x 0 []
 |snoc {e k:Nat}{w:List Nat}{r:List Int}:Mk ws x e r->ws[k]?=some w->(x.drop e).take w.length=w->e+w.length<=x.length->Mk ws x (e+w.length) (r++[(k:Int)])
theorem kg(y w:List Nat):bJ y w=true↔w.length<=y.length/\(y.drop (y.length-w.length)).take w.length=w:=by
 unfold bJ Txt.endswith;show(decide (0+w.length<=y.length)&&(y.toArray.extract (y.length-w.length) (y.length-w.length+w.length)==w.toArray))=true↔_;rw[Au,decide_eq_true_iff,DH];have e:(y.toArray.extract (y.length-w.length) (y.length-w.length+w.length)).toList=(y.drop (y.length-w.length)).take w.length:=by
  rw[BG];show(y.drop (y.length-w.length)).take (y.length-w.length+w.length-(y.length-w.length))=_;rw[Nat.add_sub_cancel_left]
 refine⟨fun⟨h1,h2⟩=>⟨by lia,by rw[<- e,h2]⟩,fun hq92=>?_⟩;obtain⟨h1,h2⟩:=hq92;refine⟨by lia,?_⟩;apply Array.toList_inj.mp;rw[e,h2]
theorem iq{ws:List (List Nat)}{x:List Nat}{e:Nat}(he:e<=x.length){k j:Nat}:(k,j)∈aS ws x e↔∃w,ws[k]?=some w/\j+w.length=e/\(x.drop j).take w.length=w:=by
 have tl:(x.take e).length=e:=by rw[Aa];lia
 have eb:∀w:List Nat,bJ (x.take e) w=true↔w.length<=e/\(x.drop (e-w.length)).take w.length=w:=fun w=>by
  rw[kg,tl,Cr];refine⟨fun⟨h1,h2⟩=>⟨h1,?_⟩,fun⟨h1,h2⟩=>⟨h1,?_⟩⟩
  ·rw[AY,AM (by lia)] at h2;exact h2
  ·rw[AY,AM (by lia)];exact h2
 constructor
 ·intro h;obtain⟨w,h1,h2,h3⟩:=fz h;obtain⟨h4,h5⟩:=(eb w).mp h2;have h3':j=e-w.length:=h3;exact⟨w,h1,by lia,by rw[h3'];exact h5⟩
 ·rintro⟨w,h1,h2,h3⟩;have ej:j=e-w.length:=by lia
  unfold aS;refine zM.mpr ⟨(w,k),AN.mpr ⟨CP.mpr h1,(eb w).mpr ⟨by lia,by rw[<- ej];exact h3⟩⟩,?_⟩;show(k,e-w.length)=_;rw[ej]
theorem Mk.step{ws:List (List Nat)}{x:List Nat}{e:Nat}(he:e<=x.length){r:List Int}{s:Nat×Nat}(hs:s∈aS ws x e)(h:Mk ws x s.2 r):Mk ws x e (r++[(s.1:Int)]):=by
 obtain⟨k,j⟩:=s;obtain⟨w,h1,h2,h3⟩:=(iq he).mp hs;subst h2;exact .snoc h h1 h3 he
theorem Mk.inv{ws:List (List Nat)}{x:List Nat}{e:Nat}{r:List Int}(h:Mk ws x e r):(e=0/\r=[])\/∃s r',s∈aS ws x e/\Mk ws x s.2 r'/\r=r'++[(s.1:Int)]:=by
 cases h with
 |nil=>exact .inl ⟨rfl,rfl⟩
 |@snoc e k w r h hw hx hl=>exact .inr ⟨(k,e),r,(iq hl).mpr ⟨w,hw,rfl,hx⟩,h,rfl⟩
theorem Mk.zero{ws:List (List Nat)}(W:Wok ws){x:List Nat}{r:List Int}(h:Mk ws x 0 r):r=[]:=by
 rcases h.inv with ⟨_,e⟩|⟨s,r',hs,_⟩
 ·exact e
 ·obtain⟨w,hw,_,e2⟩:=fz hs;obtain⟨w',h1,h2,_⟩:=(iq (k:=s.1) (j:=s.2) (zX x.length)).mp hs;have:=W.l1 w' (zS h1);lia
theorem gG(ws:List (List Nat))(x:List Nat):∀n,bL ws x n=(fK ws x n).map (·.2)
 |0=>rfl
 |n+1=>by
  rw[bL,fK,zV,<- gG ws x n]
  congr 1
  show[_]=[_]
  congr 2
  apply Bq;intro s _;rw[gG ws x n,Ae,Ae,zW];cases (fK ws x n)[s.2]?<;>rfl
theorem iZ(k:Int):∀{a b:List Int},a.length=b.length->HT.lexLt (a++[k]) (b++[k])=HT.lexLt a b
 |[],[],_=>by show HT.lexLt [k] [k]=HT.lexLt [] [];rw[DV,DV]
 |x::a,y::b,h=>by
  show HT.lexLt (x::(a++[k])) (y::(b++[k]))=_;rw[HT.DY,HT.DY,iZ k (by simpa using h)]
theorem tD(k:Int)(a b:List Int):kLt (a++[k]) (b++[k])=kLt a b:=by
 unfold kLt dA;rw[zG,zG];by_cases h:a.length=b.length
 ·rw[CZ (by rw[h]),CZ (by rw[h]),iZ k h]
 ·rw[CY (by show ¬((a.length+1:Nat):Int)=((b.length+1:Nat):Int);lia),CY (by lia)];apply decide_eq_decide.mpr;show((a.length+1:Nat):Int)<((b.length+1:Nat):Int)↔_;lia
theorem FO:∀{a b:List Int},a.length=b.length->HT.lexLt a b=false->HT.lexLt b a=false->a=b
 |[],[],_,_,_=>rfl
 |x::a,y::b,h,h1,h2=>by
  rw[HT.DY] at h1 h2;by_cases e:x=y
  ·rw[CZ e] at h1;rw[CZ e.symm] at h2;rw[e,FO (by simpa using h) h1 h2]
  ·rw[CY e] at h1;rw[CY (Dv e)] at h2;have:=of_decide_eq_false h1;have:=of_decide_eq_false h2;lia
theorem rT{a b:List Int}(h1:kLt a b=false)(h2:kLt b a=false):a=b:=by
 unfold kLt dA at h1 h2;by_cases h:a.length=b.length
 ·rw[CZ (by rw[h])] at h1 h2;exact FO h h1 h2
 ·rw[CY (by lia)] at h1 h2;have:=of_decide_eq_false h1;have:=of_decide_eq_false h2;lia
theorem uC{a b c:List Int}(h1:kLt a b=false)(h2:kLt b c=false):kLt a c=false:=by
 cases h:kLt a c with
 |false=>rfl
 |true=>
  cases q:kLt c b with
  |true=>rw[nh h q] at h1;cases h1
  |false=>rw[rT h2 q,h] at h1;cases h1
theorem tL{ws:List (List Nat)}(W:Wok ws){x:List Nat}{n:Nat}{L:List (Option (List Int))}(h:Lst ws x n L):n<=x.length->∀e,e<=n ->
  (L.getD e none=none->∀r,¬Mk ws x e r)/\∀r,L.getD e none=some r->Mk ws x e r/\∀r',Mk ws x e r'->kLt r' r=false:=by
 induction h with
 |zero=>
  intro _ e he;obtain rfl:e=0:=by lia
  refine⟨(fun h=>by cases h),fun r h=>?_⟩;have h':some ([]:List Int)=some r:=h;cases h';exact⟨.nil,fun r' h=>by rw[h.zero W];unfold kLt dA;rw[CZ rfl];rfl⟩
 |@miss n L hL hc ih=>
  intro hn e he;rw[iX];by_cases e1:e<=n
  ·rw[CZ (by rw[hL.len];lia)];exact ih (by lia) e e1
  ·obtain rfl:e=n+1:=by lia
   rw[CY (by rw[hL.len];lia),CZ (by rw[hL.len])];refine⟨fun _ r hr=>?_,(fun r h=>by cases h)⟩;rcases hr.inv with ⟨z,_⟩|⟨s,r',hs,hr',rfl⟩
   ·lia
   ·have hle:=cS W hs;cases q:L.getD s.2 none with
    |none=>exact(ih (by lia) s.2 hle).1 q r' hr'
    |some b=>
     have:b++[(s.1:Int)]∈qe ws x L (n+1):=Bk.mpr ⟨s,hs,by rw[q];rfl⟩;rw[hc] at this;cases this
 |@hit n L r hL hr hm ih=>
  intro hn e he;rw[iX];by_cases e1:e<=n
  ·rw[CZ (by rw[hL.len];lia)];exact ih (by lia) e e1
  ·obtain rfl:e=n+1:=by lia
   rw[CY (by rw[hL.len];lia),CZ (by rw[hL.len])];refine⟨(fun h=>by cases h),fun r0 h=>?_⟩;cases h;constructor
   ·obtain⟨s,hs,es⟩:=Bk.mp hr;have hle:=cS W hs;cases q:L.getD s.2 none with
    |none=>rw[q] at es;cases es
    |some b=>
     rw[q] at es;have es':b++[(s.1:Int)]=r:=by simpa using es
     rw[<- es'];exact((ih (by lia) s.2 hle).2 b q).1.step hn hs
   ·intro r' hr';rcases hr'.inv with ⟨z,_⟩|⟨s,r0,hs,hr0,rfl⟩
    ·lia
    ·have hle:=cS W hs;cases q:L.getD s.2 none with
     |none=>exact absurd hr0 ((ih (by lia) s.2 hle).1 q r0)
     |some b=>
      have h1:=((ih (by lia) s.2 hle).2 b q).2 r0 hr0;have h2:=hm (b++[(s.1:Int)]) (Bk.mpr ⟨s,hs,by rw[q];rfl⟩);rw[<- tD (s.1:Int)] at h1;exact uC h1 h2
theorem pq(y w:List Nat):bJ y w=true↔w <:+ y:=by
 rw[kg];constructor
 ·rintro⟨h1,h2⟩;refine⟨y.take (y.length-w.length),?_⟩;have e:(y.drop (y.length-w.length)).take w.length=y.drop (y.length-w.length):=Af (by rw[AL];lia);rw[e] at h2;rw[<- h2,AL];have:y.length-(y.length-(y.length-w.length))=y.length-w.length:=by lia
  rw[this];exact AB _ _
 ·rintro⟨t,rfl⟩;refine⟨by rw[zG];lia,?_⟩;rw[zG,show t.length+w.length-w.length=t.length by lia,AH,Af (zE _)]
theorem bz{α:Type}{l:List α}{f g:α->Int}(h:∀x∈l,f x=g x):(l.map f).sum=(l.map g).sum:=by
 rw[Bq h]
theorem ff{α:Type}(l:List α):(l.map fun _=>(0:Int)).sum=0:=by
 induction l with
 |nil=>rfl
 |cons a l ih=>rw[zZ,AI,ih];rfl
theorem lY{α:Type}(f g:α->Int):∀l:List α,(l.map fun x=>f x+g x).sum=(l.map f).sum+(l.map g).sum
 |[]=>rfl
 |a::l=>by rw[zZ,AI,zZ,AI,zZ,AI,lY f g l];lia
theorem ie{α β:Type}(f:α->β->Int)(m:List β):∀l:List α,(l.map fun x=>(m.map fun y=>f x y).sum).sum=(m.map fun y=>(l.map fun x=>f x y).sum).sum
 |[]=>(ff m).symm
 |a::l=>by
  rw[zZ,AI,ie f m l,<- lY];apply bz;intro y _;rw[zZ,AI]
theorem gi(l:List Int)(y:Int)(i:Nat):(l++[y]).getD i 0=if i<l.length then l.getD i 0 else if i=l.length then y else 0:=by
 rw[Ae,Ae];by_cases h:i<l.length
 ·rw[CZ h,Ba h]
 ·rw[CY h,AE (by lia)];by_cases e:i=l.length
  ·rw[CZ e,e,BV];rfl
  ·rw[CY e,Bx (by show 1<=_;lia)];rfl
theorem oT(ws:List (List Nat))(x:List Nat):∀n i,i<=n->∀m,n<=m->(bL ws x m).getD i 0=(bL ws x n).getD i 0:=by
 intro n i hi m hm;induction m with
 |zero=>have:n=0:=(by lia);subst this;rfl
 |succ m ih=>
  by_cases e:n=m+1
  ·subst e;rfl
  ·rw[bL,gi,CZ (by rw[ck];lia)];exact ih (by lia)
theorem ko(ws:List (List Nat))(x y:List Nat):∀n,x.take n=y.take n->bL ws x n=bL ws y n
 |0,_=>rfl
 |n+1,h=>by
  have h':x.take n=y.take n:=by
   have:=congrArg (List.take n) h
   rwa [AY,AY,AM (by lia)] at this
  rw[bL,bL,ko ws x y n h'];unfold aS;rw[h]
def Wn (ws:List (List Nat))(x:List Nat):Int:=(bL ws x x.length).getD x.length 0
theorem ou(q:List Nat->Bool)(g:List Nat->Int):∀(ws:List (List Nat))(k:Nat),(((ws.zipIdx k).filter fun p=>q p.1).map fun p=>g p.1).sum=(ws.map fun w=>if q w=true then g w else 0).sum
 |[],_=>rfl
 |w::ws,k=>by
  rw[List.zipIdx_cons,Be,zZ,AI,<- ou q g ws (k+1)];cases h:q w with
  |true=>rw[CZ rfl,zZ,AI,CZ rfl]
  |false=>rw[CY (by decide),CY (by decide),By]
theorem tY{ws:List (List Nat)}(W:Wok ws){x:List Nat}{n:Nat}(hx:x.length=n+1):Wn ws x=(ws.map fun w=>if bJ x w=true then Wn ws (x.take (n+1-w.length)) else 0).sum:=by
 unfold Wn;rw[hx,bL,gi,CY (by rw[ck];lia),CZ (by rw[ck])];have e:((aS ws x (n+1)).map fun s=>(bL ws x n).getD s.2 0)=(aS ws x (n+1)).map fun s=>Wn ws (x.take s.2):=by
  apply Bq;intro s hs;have:=cS W hs;have hl:(x.take s.2).length=s.2:=by rw[Aa];lia
  unfold Wn;rw[hl,oT ws x s.2 s.2 (zE _) n this,ko ws x (x.take s.2) s.2 (by rw[AY,Nat.min_self])]
 rw[e];unfold aS;rw[AG];have:=ou (fun w=>bJ (x.take (n+1)) w) (fun w=>Wn ws (x.take (n+1-w.length))) ws 0;rw[Af (by lia)] at this ⊢;exact this
def cw (ws:List (List Nat))(r:List Nat):List Nat:=(r.map fun k=>ws.getD k []).flatten
theorem ic(ws:List (List Nat))(r:List Nat)(k:Nat):cw ws (r++[k])=cw ws r++ws.getD k []:=by
 unfold cw;rw[zV,List.flatten_append];show _++([ws.getD k []]:List (List Nat)).flatten=_;rw[CA,List.flatten_nil,AD]
def nxt (m:Nat)(rs:List (List Nat)):List (List Nat):=rs.flatMap fun r=>(List.range m).map fun k=>r++[k]
def Rr (m:Nat):Nat->List (List Nat)
 |0=>[[]]
 |n+1=>nxt m (Rr m n)
def fH (m:Nat):Nat->List (List Nat)
 |0=>Rr m 0
 |n+1=>fH m n++Rr m (n+1)
theorem dN(m:Nat):∀n r,r∈Rr m n↔r.length=n/\∀k∈r,k<m
 |0,r=>by
  show r∈[[]]↔_;rw[zK];constructor
  ·rintro rfl;exact⟨rfl,fun k h=>by cases h⟩
  ·rintro⟨h,_⟩;exact Az.mp h
 |n+1,r=>by
  rw[Rr,nxt,List.mem_flatMap];constructor
  ·rintro⟨a,ha,hr⟩;obtain⟨k,hk,rfl⟩:=zM.mp hr;obtain⟨h1,h2⟩:=(dN m n a).mp ha;refine⟨by rw[zG,h1];rfl,fun j hj=>?_⟩;rcases zH.mp hj with h|h
   ·exact h2 j h
   ·rw[zK.mp h];exact Bj.mp hk
  ·rintro⟨h1,h2⟩;rcases BZ r with rfl|⟨a,k,rfl⟩
   ·cases h1
   ·rw[Ca] at h1 h2 ⊢;refine⟨a,(dN m n a).mpr ⟨by rw[zG] at h1;exact Nat.succ.inj h1,fun j hj=>h2 j (Ad _ hj)⟩,zM.mpr ⟨k,Bj.mpr (h2 k (zI _ zQ)),rfl⟩⟩
theorem cu(m:Nat):∀n r,r∈fH m n↔r.length<=n/\∀k∈r,k<m
 |0,r=>by
  rw[fH,dN];constructor
  ·rintro⟨h1,h2⟩;exact⟨by lia,h2⟩
  ·rintro⟨h1,h2⟩;exact⟨by lia,h2⟩
 |n+1,r=>by
  rw[fH,zH,cu m n,dN];constructor
  ·rintro (⟨h1,h2⟩|⟨h1,h2⟩)<;>exact⟨by lia,h2⟩
  ·rintro⟨h1,h2⟩;by_cases h:r.length=n+1
   ·exact .inr ⟨h,h2⟩
   ·exact .inl ⟨by lia,h2⟩
abbrev rI(r:List Nat):List Int:=r.map fun(k:Nat)=>(k:Int)
theorem dS(r:List Nat)(k:Nat):rI (r++[k])=rI r++[(k:Int)]:=zV
theorem gj(r:List Nat):(rI r).length=r.length:=zF ..
theorem tF{a b:List Int}(hl:a.length=b.length)(h:HT.lexLt a b=true)(x y:Int):HT.lexLt (a++[x]) (b++[y])=true:=by
 induction a generalizing b with
 |nil=>
  cases b with
  |nil=>rw[DV] at h;cases h
  |cons _ _=>cases hl
 |cons p a ih=>
  cases b with
  |nil=>cases hl
  |cons q b=>
   rw[HT.DY] at h;show HT.lexLt (p::(a++[x])) (q::(b++[y]))=true;rw[HT.DY];by_cases e:p=q
   ·rw[CZ e] at h ⊢;exact ih (by simpa using hl) h
   ·rw[CY e] at h ⊢;exact h
theorem qy(a:List Int){x y:Int}(h:x<y):HT.lexLt (a++[x]) (a++[y])=true:=by
 induction a with
 |nil=>
  show HT.lexLt [x] [y]=true;rw[HT.DY,CY (by lia)];exact Dc h
 |cons p a ih=>
  show HT.lexLt (p::(a++[x])) (p::(a++[y]))=true;rw[HT.DY,CZ rfl];exact ih
theorem rn(m:Nat):∀n,(Rr m n).Pairwise fun a b=>HT.lexLt (rI a) (rI b)=true
 |0=>List.pairwise_singleton _ _
 |n+1=>by
  rw[Rr,nxt,List.pairwise_flatMap];refine⟨fun a _=>?_,?_⟩
  ·rw[List.pairwise_map];refine List.Pairwise.imp (fun {i j} h=>?_) List.pairwise_lt_range;rw[dS,dS];exact qy _ (by lia)
  ·refine List.Pairwise.imp_of_mem (fun {a b} ha hb h x hx y hy=>?_) (rn m n);obtain⟨i,_,rfl⟩:=zM.mp hx;obtain⟨j,_,rfl⟩:=zM.mp hy;rw[dS,dS];exact tF (by rw[gj,gj,((dN m n a).mp ha).1,((dN m n b).mp hb).1]) h _ _
theorem pQ{a b:List Int}(hl:a.length=b.length)(h:HT.lexLt a b=true):kLt a b=true:=by
 unfold kLt dA;rw[CZ (by rw[hl])];exact h
theorem oH{a b:List Int}(hl:a.length<b.length):kLt a b=true:=by
 unfold kLt dA;rw[CY (by lia)];exact Dc (by lia)
theorem hG(m:Nat):∀n,(fH m n).Pairwise fun a b=>kLt (rI a) (rI b)=true
 |0=>List.pairwise_singleton _ _
 |n+1=>by
  rw[fH,Aw];refine⟨hG m n,?_,fun a ha b hb=>oH ?_⟩
  ·refine List.Pairwise.imp_of_mem (fun {a b} ha hb h=>pQ ?_ h) (rn m (n+1));rw[gj,gj,((dN m _ a).mp ha).1,((dN m _ b).mp hb).1]
  ·have h1:=((cu m n a).mp ha).1;have h2:=((dN m _ b).mp hb).1;rw[gj,gj];lia
theorem wR{ws:List (List Nat)}:∀(r:List Nat),(∀k∈r,k<ws.length)->∀t,Mk ws (cw ws r++t) (cw ws r).length (rI r):=by
 intro r;induction h:r.length generalizing r with
 |zero=>
  intro _ t;obtain rfl:=Az.mp h;exact .nil
 |succ n ih=>
  intro hk t;rcases BZ r with rfl|⟨a,k,rfl⟩
  ·cases h
  ·rw[Ca] at h hk ⊢;have hl:k<ws.length:=hk k (zI _ zQ);have hg:ws[k]?=some (ws.getD k []):=by rw[Ae,zN hl];rfl
   have h1:=ih a (by rw[zG] at h;exact Nat.succ.inj h) (fun j hj=>hk j (Ad _ hj)) (ws.getD k []++t);rw[ic,dS,zG,Aj];refine .snoc h1 hg ?_ ?_
   ·rw[AH,Cb]
   ·rw[zG,zG];lia
theorem wK{ws:List (List Nat)}{x:List Nat}{e:Nat}{r:List Int}(h:Mk ws x e r):∃r':List Nat,r=rI r'/\(∀k∈r',k<ws.length)/\cw ws r'=x.take e:=by
 induction h with
 |nil=>exact⟨[],rfl,(fun k h=>by cases h),rfl⟩
 |@snoc e k w r h hw hx hl ih=>
  obtain⟨r',e1,e2,e3⟩:=ih;refine⟨r'++[k],by rw[dS,e1],fun j hj=>?_,?_⟩
  ·rcases zH.mp hj with h|h
   ·exact e2 j h
   ·rw[zK.mp h];exact(zL.mp hw).1
  ·rw[ic,e3,Ae,hw,List.take_add,hx];rfl
theorem fQ(p:List Nat->Bool)(m:Nat):∀rs:List (List Nat),(((nxt m rs).countP p:Nat):Int)=(rs.map fun r=>((List.range m).map fun k=>if p (r++[k])=true then (1:Int) else 0).sum).sum
 |[]=>rfl
 |r::rs=>by
  have ih:=fQ p m rs;unfold nxt at ih ⊢;rw[List.flatMap_cons,List.countP_append,zZ,AI,<- ih,Cc]
  congr 1
  induction List.range m with
  |nil=>rfl
  |cons k l ih2=>
   rw[zZ,CJ,zZ,AI,Cc,ih2];split<;>simp<;>lia
theorem fP(p:List Nat->Bool):∀rs:List (List Nat),((rs.countP p:Nat):Int)=(rs.map fun r=>if p r=true then (1:Int) else 0).sum
 |[]=>rfl
 |r::rs=>by
  rw[CJ,zZ,AI,Cc,fP p rs];split<;>simp<;>lia
def Cn' (ws:List (List Nat))(n:Nat)(x:List Nat):Int:=(((Rr ws.length n).countP fun r=>decide (cw ws r=x):Nat):Int)
theorem kE(a w x:List Nat):(a++w=x)↔(bJ x w=true/\a=x.take (x.length-w.length)):=by
 rw[pq];constructor
 ·rintro rfl;refine⟨⟨a,rfl⟩,?_⟩;rw[zG,Nat.add_sub_cancel,Cb]
 ·rintro⟨⟨t,rfl⟩,e⟩;rw[zG,Nat.add_sub_cancel,Cb] at e;rw[e]
theorem fJ(ws:List (List Nat))(f:List Nat->Int):((List.range ws.length).map fun k=>f (ws.getD k []))=ws.map f:=by
 apply List.ext_getElem
 ·rw[zF,zF,Br]
 ·intro i h1 h2;rw[zF] at h2;rw[List.getElem_map,List.getElem_map,List.getElem_range,Ae,zN h2];rfl
theorem rQ(ws:List (List Nat))(n:Nat)(x:List Nat):Cn' ws (n+1) x=(ws.map fun w=>if bJ x w=true then Cn' ws n (x.take (x.length-w.length)) else 0).sum:=by
 unfold Cn';rw[Rr,fQ,ie,<- fJ ws fun w=>if bJ x w=true then (((Rr ws.length n).countP fun r=>decide (cw ws r=x.take (x.length-w.length)):Nat):Int) else 0];apply bz;intro k _;by_cases h:bJ x (ws.getD k [])=true
 ·rw[CZ h,fP];apply bz;intro r _
  congr 1
  rw[ic];apply propext;rw[decide_eq_true_iff,decide_eq_true_iff,kE];exact⟨fun z=>z.2,fun z=>⟨h,z⟩⟩
 ·rw[CY h];refine Eq.trans (bz (g:=fun _=>0) fun r _=>?_) (ff _);rw[CY];rw[decide_eq_true_iff,ic,kE];exact fun z=>h z.1
theorem kc(ws:List (List Nat))(x:List Nat):∀n,(((fH ws.length n).countP fun r=>decide (cw ws r=x):Nat):Int)=((List.range (n+1)).map fun i=>Cn' ws i x).sum
 |0=>by
  show _=Cn' ws 0 x+0;rw[Int.add_zero];rfl
 |n+1=>by
  rw[fH,List.countP_append,Cc,kc ws x n,List.range_succ (n:=n+1),zV,List.sum_append];show _=_+(Cn' ws (n+1) x+0)
  rw[Int.add_zero];rfl
theorem uQ{ws:List (List Nat)}(W:Wok ws):∀(n:Nat)(x:List Nat),x.length<=n->((List.range (n+1)).map fun i=>Cn' ws i x).sum=Wn ws x:=by
 have c0:∀x,Cn' ws 0 x=if x=[] then 1 else 0:=fun x=>by
  unfold Cn';show(((([]:List Nat)::[]).countP fun r=>decide (cw ws r=x):Nat):Int)=_;rw[CJ,List.countP_nil,show cw ws []=[] from rfl];by_cases h:x=[]
  ·subst h;rfl
  ·rw[CY h,CY (by rw[decide_eq_true_iff];exact fun z=>h z.symm)];rfl
 intro n;induction n with
 |zero=>
  intro x hx;obtain rfl:=Az.mp (Nat.le_zero.mp hx);show Cn' ws 0 []+0=_;rw[c0,CZ rfl];rfl
 |succ n ih=>
  intro x hx;have e:((List.range (n+1+1)).map fun i=>Cn' ws i x).sum=Cn' ws 0 x+((List.range (n+1)).map fun i=>Cn' ws (i+1) x).sum:=by
   rw[List.range_succ_eq_map,zZ,AI,AG];rfl
  rw[e,c0];have e2:((List.range (n+1)).map fun i=>Cn' ws (i+1) x).sum=(ws.map fun w=>if bJ x w=true then ((List.range (n+1)).map fun i=>Cn' ws i (x.take (x.length-w.length))).sum else 0).sum:=by
   rw[bz (g:=fun i=>(ws.map fun w=>if bJ x w=true then Cn' ws i (x.take (x.length-w.length)) else 0).sum) fun i _=>rQ ws i x,ie];apply bz;intro w _;by_cases h:bJ x w=true
   ·rw[CZ h];apply bz;intro i _;rw[CZ h]
   ·rw[CY h];refine Eq.trans (bz (g:=fun _=>0) fun i _=>?_) (ff _);rw[CY h]
  rw[e2];cases hl:x.length with
  |zero=>
   obtain rfl:=Az.mp hl;rw[CZ rfl];have:(ws.map fun w=>if bJ [] w=true then ((List.range (n+1)).map fun i=>Cn' ws i (([]:List Nat).take (0-w.length))).sum else 0).sum=0:=by
    refine Eq.trans (bz (g:=fun _=>0) fun w hw=>?_) (ff _);rw[CY];intro h;have h3:=dM h;have h4:=W.l1 w hw;rw[BR] at h3;lia
   rw[this];rfl
  |succ l=>
   rw[CY (fun z=>by rw[z] at hl;cases hl),By,tY W hl];apply bz;intro w hw;by_cases h:bJ x w=true
   ·rw[CZ h,CZ h];have h1:=W.l1 w hw;exact ih _ (by rw[Aa];lia)
   ·rw[CY h,CY h]
theorem ef{ws:List (List Nat)}(W:Wok ws)(n:Nat)(x:List Nat)(h:x.length<=n):(((fH ws.length n).countP fun r=>decide (cw ws r=x):Nat):Int)=Wn ws x:=(kc ws x n).trans (uQ W n x h)
end K3
namespace KM
def tup (k:Nat):Nat->List (List Nat)
 |0=>[[]]
 |n+1=>(List.range k).flatMap fun i=>(tup k n).map (i::·)
def bq (ws:List (List Nat))(t:List Nat):List Nat:=(t.map fun i=>ws.getD i []).flatten
theorem aY(ws:List (List Nat))(i:Nat)(t:List Nat):bq ws (i::t)=ws.getD i []++bq ws t:=rfl
def S (L:Nat)(ws:List (List Nat)):Nat:=((List.range ws.length).map fun i=>2^(L-(ws.getD i []).length)).sum
def UD (ws:List (List Nat)):Prop:=∀s t:List Nat,(∀i∈s,i<ws.length)->(∀i∈t,i<ws.length)->bq ws s=bq ws t->s=t
structure IV(ws:List (List Nat))(Q:List Nat->Prop):Prop where
 first:∀i j x,i<ws.length->j<ws.length->i≠j->ws.getD i []=ws.getD j []++x->Q x
 within:∀n x y,n<ws.length->Q x->x=ws.getD n []++y->Q y
 beyond:∀n x y,n<ws.length->Q x->ws.getD n []=x++y->Q y
 none:¬Q []
theorem Gb:∀{a b c d:List Nat},a++b=c++d->(∃x,a=c++x/\x++b=d)\/(∃x,c=a++x/\b=x++d)
 |a,b,[],d,h=>.inl ⟨a,rfl,h⟩
 |[],b,e::c,d,h=>.inr ⟨e::c,rfl,h⟩
 |f::a,b,e::c,d,h=>by
  injection h with h1 h2;subst h1;rcases Gb h2 with ⟨x,h3,h4⟩|⟨x,h3,h4⟩
  ·exact .inl ⟨x,by rw[h3];rfl,h4⟩
  ·exact .inr ⟨x,by rw[h3];rfl,h4⟩
abbrev Fd:=Nat×List Nat×List Nat
structure Trk(ws:List (List Nat))(x:List Nat)(f:Fd):Prop where
 a:∀i∈f.2.1,i<ws.length
 b:∀i∈f.2.2,i<ws.length
 ne:∃i j s t,f.2.1=i::s/\f.2.2=j::t/\i≠j
 eq:bq ws f.2.1=bq ws f.2.2++x
 len:f.1=(bq ws f.2.1).length
def Sfx (ws:List (List Nat))(x:List Nat):Prop:=∃w∈ws,∃z,w=z++x
abbrev Ent:=List (List Nat×Fd)
def ix (E:Ent)(x:List Nat):Option Fd:=(E.find? fun e=>decide (e.1=x)).map (·.2)
def kI (E:Ent)(x:List Nat)(f:Fd):Ent:=if (E.any fun e=>decide (e.1=x))=true then E.map (fun e=>if e.1=x then (e.1,f) else e) else E++[(x,f)]
def dW (E:Ent)(x:List Nat):Ent:=E.filter fun e=>decide (e.1≠x)
def bG (dn:List (List Nat))(E:Ent)(s:List Nat×Fd):Ent:=if s.1∈dn then E else match ix E s.1 with
 |none=>kI E s.1 s.2
 |some f=>if s.2.1<f.1 then kI E s.1 s.2 else E
theorem kd{E:Ent}{x:List Nat}{f:Fd}(h:ix E x=some f):(x,f)∈E:=by
 unfold ix at h;obtain⟨e,h1,h2⟩:=AV.mp h;have h3:=List.find?_some h1;have h4:e.1=x:=Dg h3;have h5:=List.mem_of_find?_eq_some h1;have:e=(x,f):=Prod.ext h4 h2;rw[<- this];exact h5
theorem iL{E:Ent}{x:List Nat}(h:ix E x=none):∀e∈E,e.1≠x:=by
 unfold ix at h;have h1:=Option.map_eq_none_iff.mp h;intro e he z;have:=List.find?_eq_none.mp h1 e he;exact this (Dc z)
theorem gm{E:Ent}(nd:(E.map (·.1)).Nodup){x:List Nat}{f:Fd}(h:(x,f)∈E):ix E x=some f:=by
 cases e:ix E x with
 |none=>exact absurd rfl (iL e _ h)
 |some g=>
  have h2:=kd e
  congr 1
  induction E with
  |nil=>cases h
  |cons p r ih=>
   rw[zZ,Bm] at nd;rcases zU.mp h with h|h<;>rcases zU.mp h2 with h3|h3
   ·rw[<- h] at h3;exact(Prod.mk.inj h3).2
   ·exact absurd (zM.mpr ⟨_,h3,by rw[<- h]⟩) nd.1
   ·exact absurd (zM.mpr ⟨_,h,by rw[<- h3]⟩) nd.1
   ·refine ih nd.2 h ?_ h3;unfold ix at e ⊢;rw[AU] at e;split at e
    ·rename_i c;have c':p.1=x:=Dg c;exact absurd (zM.mpr ⟨_,h,by rw[c']⟩) nd.1
    ·exact e
theorem eX{E:Ent}{x:List Nat}{f:Fd}{e:List Nat×Fd}(h:e∈kI E x f):e=(x,f)\/(e∈E/\e.1≠x):=by
 unfold kI at h;split at h
 ·obtain⟨d,hd,rfl⟩:=zM.mp h;by_cases c:d.1=x
  ·rw[CZ c,c];exact .inl rfl
  ·rw[CY c];exact .inr ⟨hd,c⟩
 ·rename_i c;rcases zH.mp h with h|h
  ·refine .inr ⟨h,fun z=>c ?_⟩;rw[BL];exact⟨e,h,Dc z⟩
  ·exact .inl (zK.mp h)
theorem kD{E:Ent}{x:List Nat}{f:Fd}:(x,f)∈kI E x f:=by
 unfold kI;split
 ·rename_i c;obtain⟨e,he,hx⟩:=BL.mp c;have hx':e.1=x:=Dg hx;exact zM.mpr ⟨e,he,by rw[CZ hx',hx']⟩
 ·exact zI _ (zK.mpr rfl)
theorem pU{E:Ent}{x:List Nat}{f:Fd}{e:List Nat×Fd}(h:e∈E)(n:e.1≠x):e∈kI E x f:=by
 unfold kI;split
 ·exact zM.mpr ⟨e,h,by rw[CY n]⟩
 ·exact Ad _ h
theorem sO{E:Ent}{x:List Nat}{f:Fd}(nd:(E.map (·.1)).Nodup):((kI E x f).map (·.1)).Nodup:=by
 unfold kI;split
 ·have:(E.map fun e=>if e.1=x then (e.1,f) else e).map (·.1)=E.map (·.1):=by
   rw[AG];refine Bq fun e _=>?_;show(if e.1=x then (e.1,f) else e).1=e.1;split<;>rfl
  rw[this];exact nd
 ·rename_i c;rw[zV,BK];refine⟨nd,by simp,fun a ha b hb z=>?_⟩;obtain⟨e,he,rfl⟩:=zM.mp ha;have hb':b=x:=by simpa using hb
  exact c (BL.mpr ⟨e,he,Dc (z.trans hb')⟩)
theorem EB{E:Ent}{x:List Nat}{e:List Nat×Fd}:e∈dW E x↔e∈E/\e.1≠x:=by
 unfold dW;rw[AN];refine⟨fun hq93=>?_,fun⟨a,b⟩=>⟨a,Dc b⟩⟩;obtain⟨a,b⟩:=hq93;exact⟨a,Dg b⟩
theorem ph{E:Ent}{x:List Nat}(nd:(E.map (·.1)).Nodup):((dW E x).map (·.1)).Nodup:=nd.sublist (List.filter_sublist.map _)
def Has (dn:List (List Nat×Nat))(E:Ent)(y:List Nat)(m:Nat):Prop:=(∃p∈dn,p.1=y/\p.2<=m)\/∃e∈E,e.1=y/\e.2.1<=m
structure Wt(ws:List (List Nat))(dn:List (List Nat×Nat))(E:Ent):Prop where
 trk:∀e∈E,Trk ws e.1 e.2/\Sfx ws e.1
 ndE:(E.map (·.1)).Nodup
 dis:∀e∈E,∀p∈dn,e.1≠p.1
 low:∀p∈dn,∀e∈E,p.2<=e.2.1
theorem bT(dn:List (List Nat))(E:Ent)(s:List Nat×Fd):(s.1∈dn/\bG dn E s=E)\/(s.1∉dn/\(∃f,ix E s.1=some f/\f.1<=s.2.1)/\bG dn E s=E)\/(s.1∉dn/\(∀f,ix E s.1=some f->s.2.1<f.1)/\bG dn E s=kI E s.1 s.2):=by
 unfold bG;by_cases h:s.1∈dn
 ·rw[CZ h];exact .inl ⟨h,rfl⟩
 ·rw[CY h];cases e:ix E s.1 with
  |none=>exact .inr (.inr ⟨h,(fun f z=>(by cases z)),rfl⟩)
  |some f=>
   by_cases c:s.2.1<f.1
   ·simp only[CZ c];exact .inr (.inr ⟨h,(fun g z=>(by cases z;exact c)),trivial⟩)
   ·simp only[CY c];exact .inr (.inl ⟨h,⟨f,rfl,by lia⟩,trivial⟩)
theorem Wt.keep{ws:List (List Nat)}{dn:List (List Nat×Nat)}{E:Ent}{s:List Nat×Fd}(h:Wt ws dn E)(ht:Trk ws s.1 s.2)(hs:Sfx ws s.1)(hl:∀p∈dn,p.2<=s.2.1):Wt ws dn (bG (dn.map (·.1)) E s):=by
 rcases bT (dn.map (·.1)) E s with ⟨_,e⟩|⟨_,_,e⟩|⟨n,_,e⟩
 ·rw[e];exact h
 ·rw[e];exact h
 ·rw[e];refine⟨fun e he=>?_,sO h.ndE,fun e he p hp=>?_,fun p hp e he=>?_⟩
  ·rcases eX he with rfl|⟨he,_⟩
   ·exact⟨ht,hs⟩
   ·exact h.trk e he
  ·rcases eX he with rfl|⟨he,_⟩
   ·exact fun z=>n (zM.mpr ⟨p,hp,z.symm⟩)
   ·exact h.dis e he p hp
  ·rcases eX he with rfl|⟨he,_⟩
   ·exact hl p hp
   ·exact h.low p hp e he
theorem mI{dn:List (List Nat×Nat)}{E:Ent}{s:List Nat×Fd}{y:List Nat}{m:Nat}(nd:(E.map (·.1)).Nodup)(h:Has dn E y m):Has dn (bG (dn.map (·.1)) E s) y m:=by
 rcases bT (dn.map (·.1)) E s with ⟨_,e⟩|⟨_,_,e⟩|⟨n,lt,e⟩
 ·rw[e];exact h
 ·rw[e];exact h
 ·rw[e];rcases h with h|⟨d,hd,rfl,hm⟩
  ·exact .inl h
  ·by_cases c:d.1=s.1
   ·refine .inr ⟨(s.1,s.2),kD,c.symm,?_⟩;have:=lt d.2 (gm nd (by rw[<- c];exact hd));show s.2.1<=m;lia
   ·exact .inr ⟨d,pU hd c,rfl,hm⟩
theorem lN{dn:List (List Nat×Nat)}{E:Ent}{s:List Nat×Fd}(hl:∀p∈dn,p.2<=s.2.1):Has dn (bG (dn.map (·.1)) E s) s.1 s.2.1:=by
 rcases bT (dn.map (·.1)) E s with ⟨h,e⟩|⟨_,⟨f,hf,le⟩,e⟩|⟨n,lt,e⟩
 ·rw[e];obtain⟨p,hp,z⟩:=zM.mp h;exact .inl ⟨p,hp,z,hl p hp⟩
 ·rw[e];exact .inr ⟨_,kd hf,rfl,le⟩
 ·rw[e];exact .inr ⟨_,kD,rfl,zE _⟩
theorem jh{ws:List (List Nat)}{dn:List (List Nat×Nat)}:∀(ss:List (List Nat×Fd)){E:Ent},Wt ws dn E->(∀s∈ss,Trk ws s.1 s.2/\Sfx ws s.1/\∀p∈dn,p.2<=s.2.1) ->
  Wt ws dn (ss.foldl (bG (dn.map (·.1))) E)/\(∀y m,Has dn E y m->Has dn (ss.foldl (bG (dn.map (·.1))) E) y m)/\∀s∈ss,Has dn (ss.foldl (bG (dn.map (·.1))) E) s.1 s.2.1
 |[],E,h,_=>⟨h,fun _ _ z=>z,fun s hs=>absurd hs (by simp)⟩
 |s::r,E,h,hs=>by
  obtain⟨h1,h2,h3⟩:=hs s zQ;obtain⟨g1,g2,g3⟩:=jh r (h.keep h1 h2 h3) fun t ht=>hs t (Ac _ ht);rw[Bv];refine⟨g1,fun y m z=>g2 y m (mI h.ndE z),fun t ht=>?_⟩;rcases zU.mp ht with rfl|ht
  ·exact g2 _ _ (lN h3)
  ·exact g3 t ht
structure Dij(ws:List (List Nat))(dn:List (List Nat×Nat))(E:Ent):Prop where
 wt:Wt ws dn E
 ndD:(dn.map (·.1)).Nodup
 nil:∀p∈dn,p.1≠[]/\Sfx ws p.1
 first:∀i j x,i<ws.length->j<ws.length->i≠j->ws.getD i []=ws.getD j []++x->Has dn E x (ws.getD i []).length
 within:∀p∈dn,∀k y,k<ws.length->p.1=ws.getD k []++y->Has dn E y p.2
 beyond:∀p∈dn,∀k y,k<ws.length->ws.getD k []=p.1++y->Has dn E y (p.2+y.length)
theorem Dij.start{ws:List (List Nat)}{ss:List (List Nat×Fd)}(h1:∀s∈ss,Trk ws s.1 s.2/\Sfx ws s.1)
  (h2:∀i j x,i<ws.length->j<ws.length->i≠j->ws.getD i []=ws.getD j []++x->∃s∈ss,s.1=x/\s.2.1=(ws.getD i []).length):Dij ws [] (ss.foldl (bG []) []):=by
 obtain⟨g1,g2,g3⟩:=jh (ws:=ws) (dn:=[]) ss (E:=[]) ⟨fun e h=>absurd h (by simp),by simp,fun e h=>absurd h (by simp),fun p h=>absurd h (by simp)⟩ fun s hs=>⟨(h1 s hs).1,(h1 s hs).2,fun p h=>absurd h (by simp)⟩
 refine⟨g1,by simp,fun p h=>absurd h (by simp),fun i j x hi hj n e=>?_,fun p h=>absurd h (by simp),fun p h=>absurd h (by simp)⟩;obtain⟨s,hs,rfl,e2⟩:=h2 i j x hi hj n e;rw[<- e2];exact g3 s hs
theorem Dij.step{ws:List (List Nat)}{dn:List (List Nat×Nat)}{E:Ent}{x:List Nat}{f:Fd}{ss:List (List Nat×Fd)}(h:Dij ws dn E)(hx:(x,f)∈E)(hmin:∀e∈E,f.1<=e.2.1)(hne:x≠[])
  (h1:∀s∈ss,Trk ws s.1 s.2/\Sfx ws s.1/\f.1<=s.2.1)(h2:∀k y,k<ws.length->x=ws.getD k []++y->∃s∈ss,s.1=y/\s.2.1=f.1)(h3:∀k y,k<ws.length->ws.getD k []=x++y->∃s∈ss,s.1=y/\s.2.1=f.1+y.length) :
  Dij ws (dn++[(x,f.1)]) (ss.foldl (bG ((dn.map (·.1))++[x])) (dW E x)):=by
 have em:(dn++[(x,f.1)]).map (·.1)=dn.map (·.1)++[x]:=by rw[zV];rfl
 have lo:∀p∈dn++[(x,f.1)],p.2<=f.1:=fun p hp=>by
  rcases zH.mp hp with hp|hp
  ·exact h.wt.low p hp _ hx
  ·rw[zK.mp hp];exact zE _
 have w0:Wt ws (dn++[(x,f.1)]) (dW E x):=by
  refine⟨fun e he=>h.wt.trk e (EB.mp he).1,ph h.wt.ndE,fun e he p hp=>?_,fun p hp e he=>?_⟩
  ·obtain⟨he,hn⟩:=EB.mp he;rcases zH.mp hp with hp|hp
   ·exact h.wt.dis e he p hp
   ·rw[zK.mp hp];exact hn
  ·exact zO (lo p hp) (hmin e (EB.mp he).1)
 obtain⟨g1,g2,g3⟩:=jh ss w0 fun s hs=>⟨(h1 s hs).1,(h1 s hs).2.1,fun p hp=>zO (lo p hp) (h1 s hs).2.2⟩
 rw[em] at g1 g2 g3;have up:∀y m,Has dn E y m->Has (dn++[(x,f.1)]) (ss.foldl (bG ((dn.map (·.1))++[x])) (dW E x)) y m:=fun y m z=>by
  refine g2 y m ?_;rcases z with ⟨p,hp,z⟩|⟨e,he,rfl,hm⟩
  ·exact .inl ⟨p,Ad _ hp,z⟩
  ·by_cases c:e.1=x
   ·refine .inl ⟨(x,f.1),zI _ (zK.mpr rfl),c.symm,?_⟩;have:=hmin e he;show f.1<=m;lia
   ·exact .inr ⟨e,EB.mpr ⟨he,c⟩,rfl,hm⟩
 refine⟨g1,?_,fun p hp=>?_,fun i j y hi hj n e=>up _ _ (h.first i j y hi hj n e),fun p hp k y hk e=>?_,fun p hp k y hk e=>?_⟩
 ·rw[em,BK];refine⟨h.ndD,by simp,fun a ha b hb z=>?_⟩;obtain⟨p,hp,rfl⟩:=zM.mp ha;have hb':b=x:=by simpa using hb
  exact h.wt.dis _ hx p hp (z.trans hb').symm
 ·rcases zH.mp hp with hp|hp
  ·exact h.nil p hp
  ·rw[zK.mp hp];exact⟨hne,(h.wt.trk _ hx).2⟩
 ·rcases zH.mp hp with hp|hp
  ·exact up _ _ (h.within p hp k y hk e)
  ·rw[zK.mp hp] at e ⊢;obtain⟨s,hs,rfl,e2⟩:=h2 k y hk e;have:=g3 s hs;rw[e2] at this;exact this
 ·rcases zH.mp hp with hp|hp
  ·exact up _ _ (h.beyond p hp k y hk e)
  ·rw[zK.mp hp] at e ⊢;obtain⟨s,hs,rfl,e2⟩:=h3 k y hk e;have:=g3 s hs;rw[e2] at this;exact this
theorem Dij.closed{ws:List (List Nat)}{dn:List (List Nat×Nat)}(h:Dij ws dn []):IV ws fun x=>∃p∈dn,p.1=x:=by
 have has:∀{y m},Has dn [] y m->∃p∈dn,p.1=y:=fun z=>by
  rcases z with ⟨p,hp,e,_⟩|⟨e,he,_⟩
  ·exact⟨p,hp,e⟩
  ·cases he
 refine⟨fun i j x hi hj n e=>has (h.first i j x hi hj n e),fun n x y hn ⟨p,hp,e1⟩ e2=>has (h.within p hp n y hn (by rw[e1];exact e2)),fun n x y hn ⟨p,hp,e1⟩ e2=>has (h.beyond p hp n y hn (by rw[e1];exact e2)),fun hq95=>by obtain⟨p,hp,e⟩:=hq95;exact(h.nil p hp).1 e⟩
theorem jq{α:Type} [DecidableEq α]:∀(U:List α){l:List α},l.Nodup->(∀x∈l,x∈U)->l.length<=U.length
 |[],l,_,h=>by
  cases l with
  |nil=>exact zE _
  |cons a r=>exact absurd (h a zQ) (by simp)
 |u::U,l,nd,h=>by
  have h1:=jq U (l:=l.erase u) (nd.erase u) fun x hx=>by
   have hm:=List.mem_of_mem_erase hx;rcases zU.mp (h x hm) with e|e
   ·exact absurd (by rw[e] at hx;exact hx) (List.Nodup.not_mem_erase nd)
   ·exact e
  have h2:l.length<=(l.erase u).length+1:=by
   rw[List.length_erase];split<;>lia
  rw[Ah];lia
def ends:List Nat->List (List Nat)
 |[]=>[[]]
 |c::r=>(c::r)::ends r
theorem dM:∀w,(ends w).length=w.length+1
 |[]=>rfl
 |c::r=>by rw[ends,Ah,dM r,Ah]
theorem Ge:∀(z:List Nat){w x:List Nat},w=z++x->x∈ends w
 |[],w,x,e=>by
  rw[e];show x∈ends x;cases x<;>simp[ends]
 |c::z,w,x,e=>by
  subst e;exact Ac _ (Ge z rfl)
theorem EH:∀{ws:List (List Nat)}{k:Nat},(∀w∈ws,w.length<=k)->(ws.flatMap ends).length<=ws.length*(k+1)
 |[],_,_=>zX _
 |w::r,k,h=>by
  have h1:=EH (ws:=r) (k:=k) fun v hv=>h v (Ac _ hv);have h2:=h w zQ;rw[List.flatMap_cons,zG,dM,Ah,Nat.add_mul];lia
theorem fC{ws l:List (List Nat)}(h8:ws.length<=8)(h40:∀w∈ws,w.length<=40)(nd:l.Nodup)(h:∀x∈l,Sfx ws x):l.length<=328:=by
 have h1:=jq (ws.flatMap ends) nd fun x hx=>by
  obtain⟨w,hw,z,e⟩:=h x hx;exact List.mem_flatMap.mpr ⟨w,hw,Ge z e⟩
 have h2:=EH h40;have:ws.length*41<=8*41:=Nat.mul_le_mul_right _ h8;lia
end KM
namespace K3
open PySem PySem.Spec PyProof.Rows L2
section
variable {P:Program}{w:World}{K:PySem.W.Frag}{mg:Str->Option Value}{base:Heap}
open KM
theorem hU{x y:List Nat}(h:txt x=txt y):x=y:=by
 have:(txt x).cps.toList=(txt y).cps.toList:=by rw[h]
 exact this
theorem mV(x y:List Nat):Txt.startswith (txt x) (txt y)=decide (x.take y.length=y):=by
 unfold Txt.startswith;have hn:(txt x).length=x.length:=by show x.toArray.size=_;simp
 have hm:(txt y).length=y.length:=by show y.toArray.size=_;simp
 rw[StrLaws.subAt_eq,hm,hn];show(decide (0+y.length<=x.length)&&((x.drop 0).take y.length==y))=_;rw[BU];rw[Dy];simp only[Au,decide_eq_true_eq,DH];refine⟨fun h=>h.2,fun h=>⟨?_,h⟩⟩;have:=congrArg List.length h;rw[Aa] at this;lia
theorem bb(x y:List Nat):Txt.startswith (txt x) (txt y)=true↔∃z,x=y++z:=by
 rw[mV,decide_eq_true_eq];constructor
 ·intro h;exact⟨x.drop y.length,by have:=AB y.length x;rw[h] at this;exact this.symm⟩
 ·rintro⟨z,rfl⟩;exact Cb
theorem bK(x:List Nat)(e:Nat):Txt.slice (txt x) (some (e:Int)) none=txt (x.drop e):=by
 apply eJ;rw[cN];show qY x (some (e:Int)) none=x.drop e;unfold qY;rw[HT.Ho,HT.Gh];rcases Nat.le_total e x.length with h|h
 ·rw[AM h,Af (by rw[AL];exact zE _)]
 ·rw[Nat.min_eq_right h,Bu h,Bu (zE _)];simp
theorem gC{ws:List (List Nat)}{i:Nat}(h:i<ws.length):(au ws)[i]?=some (.str (txt (ws.getD i []))):=by
 rw[zW,zN h,Ae,zN h];rfl
theorem aN{ws:List (List Nat)}{i:Nat}(h:i<ws.length):ws.getD i []∈ws:=by
 rw[Ae,zN h];exact An h
theorem bj{ws:List (List Nat)}{i:Nat}(h:i<ws.length):atI (au ws) ((i:Nat):Int)=some (.str (txt (ws.getD i []))):=bC (gC h)
theorem aK(ws:List (List Nat)):(au ws).length=ws.length:=zF _
abbrev iv(os:List Nat):List V:=(os.map fun n=>((n:Nat):Int)).map V.int
theorem gY(os:List Nat)(n:Nat):iv os++[V.int ((n:Nat):Int)]=iv (os++[n]):=by
 show _=((os++[n]).map _).map V.int;rw[zV,zV];rfl
theorem bN(os:List Nat):(iv os).length=os.length:=by rw[zF,zF]
def JY:Sp:=fun vs H Q _=>∃l ws,vs=[.ref l]/\H l=some (.lst (au ws))/\Wds ws/\∀p us ps H',DO H H'->H' p=some (.lst us)->Stp H' us ps->ps.length<=64->(∀i j,(i,j)∈ps↔i<ws.length/\j<ws.length/\i≠j/\∃z,ws.getD i []=ws.getD j []++z)->Q (.ref p) H'
theorem vR{d:DD}(D:Def K mg "first_pairs" (top 24) ["words"] d)(xm:mg "len"=none)(xn:mg "range"=none):(fk 1 d ["words"] JY):=by
 exists["words","many","pairs"]
 obtain⟨l,ws,rfl,hl,hw,q⟩:=h;have h8:=hw.n8;refine⟨_,(af (ay 1 (Or.inr rfl) (aU DQ xm (0) aC)) (af (qu 2 (ao (ts:=["longer","shorter"]) (cap:=["many"]) (js:=[1]) rfl rfl rfl rfl rfl rfl (by decide +kernel)) (bp xn (aJ (1) aC)) (ad 0 (nd ["longer","shorter","many"])) (@aM _) (bp xn (aJ (2) aC)) (ad 1 (nd ["longer","shorter","many"])) (@cH _ _ _ (aE GC (0) (1) (aH _))) (aZ (DI (0) (aJ (1) aC) aC)) (by intro _ _;rfl)) (ak (aD (aR (ao (ts:=["longer","shorter"]) (cap:=["words"]) (js:=[0]) rfl rfl rfl rfl rfl rfl (by decide +kernel)) (aL (2)) (@cJ _ _ _ _ _ 2 K rfl hc (aB (ad 0 (nd ["longer","shorter","words"])) (aB (ad 1 (nd ["longer","shorter","words"])) (@Ee _))) (by rfl) (by rfl)) (@cH _ _ _ (bH (fN Dk PySem.F.slot_str_startswith PySem.F.type_str_startswith Er (aQ (show IxR _ (eT K) from DK) (2) (0)) (aJ (aQ (show IxR _ (eT K) from DK) (2) (1)) (by rfl))))) (aZ (DI (0) (aJ (1) aC) aC))))))),?_⟩
 walk_at "d"
 refine⟨_,rfl,l,_,rfl,.inl (SqL.of hl),?_⟩;rw[aK];refine⟨_,rfl,((ws.length:Nat):Int),rfl,by lia,by lia,?_⟩;refine uj (lo:=0) (n:=(((ws.length:Nat):Int)).toNat) (fun i ys H'=>DO H H'/\∃ps,Stp H' ys ps/\ps.length<=8*i/\∀a b,(a,b)∈ps↔a<i/\b<ws.length/\a≠b) ⟨DO.refl _,[],.nil,zE _,fun a b=>⟨fun h=>absurd h (by simp),fun h=>absurd h.1 (Bz _)⟩⟩ (fun i ys H' hi z=>by obtain⟨_,ps,h1,h2,_⟩:=z;rw[Paired.length h1];exact aw (by lia)) (fun i ys H' hi z=>?_) (fun ys H1 z p1 hp1=>?_)
 ·obtain⟨z1,ps,z2,z3,z4⟩:=z;have hi':i<ws.length:=by lia
  refine⟨_,rfl,((ws.length:Nat):Int),rfl,by lia,by lia,?_⟩;refine ux (lo:=0) (n:=(((ws.length:Nat):Int)).toNat) (fun j σ ys H'=>DO H H'/\(∃e1,σ=[some (.int (0+(i:Int))),e1,some (.int ((ws.length:Nat):Int))])/\∃ps,Stp H' ys ps/\ps.length<=8*i+j/\∀a b,(a,b)∈ps↔(a<i/\b<ws.length/\a≠b)\/(a=i/\b<j/\a≠b)) ⟨z1,⟨_,rfl⟩,ps,z2,z3,fun a b=>by rw[z4];lia⟩ (fun j σ ys H' hj z=>by obtain⟨_,_,ps,h1,h2,_⟩:=z;rw[Paired.length h1];exact Bc (show _<=1000 by lia) (by decide)) (fun j σ ys H' hj z=>?_) (fun σ ys H' z=>?_)
  ·obtain⟨z1,⟨e1,rfl⟩,ps,z2,z3,z4⟩:=z;have hj':j<ws.length:=by lia
   refine⟨_,rfl,_,rfl,rfl,_,rfl,?_⟩;by_cases hij:i=j
   ·subst hij;refine Eq.mpr (CY (by simp)) ?_;exact NxV.mk hj ⟨z1,⟨_,rfl⟩,ps,z2,by lia,fun a b=>by rw[z4];lia⟩
   ·refine Eq.mpr (CZ (by simp;lia)) ?_;refine⟨_,rfl,_,rfl,aw (by show 2<=1000000;decide),fun a na=>?_⟩;have S1:=ag na (.tup [.int (0+(i:Int)),.int (0+(j:Int))]);refine NxV.mk hj ⟨z1.trans S1,⟨_,rfl⟩,ps++[(i,j)],?_,by rw[zG];show ps.length+1<=_;lia,fun x y=>?_⟩
    ·refine Paired.snoc (z2.mono S1) ⟨a,rfl,?_⟩;rw[ae,By,By]
    ·rw[zH,z4,zK,Prod.mk.injEq];lia
  ·obtain⟨z1,_,ps,z2,z3,z4⟩:=z;exact Nx.mk hi ⟨z1,ps,z2,by lia,fun a b=>by rw[z4];lia⟩
 obtain⟨z1,ps,z2,z3,z4⟩:=z;have S1:=ag hp1 (.lst ys);have gp1:upd H1 p1 (.lst ys) p1=some (.lst ys):=ae;have hs1:=z2.mono S1;have SA:=z1.trans S1;have yl:=Paired.length hs1;generalize upd H1 p1 (.lst ys)=H2 at S1 gp1 hs1 SA;refine⟨_,rfl,p1,rfl,⟨_,SqL.of gp1⟩,?_⟩;refine bM (K:=K) (a:=p1) (xs:=ys) (fun k ys' H'=>DO H2 H'/\ys'.length<=k/\Stp H' ys' ((ps.take k).filter fun s=>Txt.startswith (txt (ws.getD s.1 [])) (txt (ws.getD s.2 [])))) ⟨DO.refl _,zE _,.nil⟩ (fun k ys' H' hk z=>z.2.1) (aw (by lia)) (fun k ys' H' hk z=>SqL.of (z.1 _ _ gp1)) (fun k v ys' H' hv z=>?_) (fun ys' H' z p hp=>?_)
 ·obtain⟨z1,z2',z3'⟩:=z;have hk:k<ys.length:=(zL.mp hv).1;obtain⟨⟨i,j⟩,a,es,rfl,ha⟩:=Stp.at hs1 hv;obtain⟨hi,hj,_⟩:=(z4 i j).mp (zS es);have hi:i<ws.length:=by lia
  have et:ps.take (k+1)=ps.take k++[(i,j)]:=by rw[Ak,es];rfl
  have gl:=z1 _ _ (SA _ _ hl);refine⟨a,_,rfl,SqT.of (z1 _ _ ha),rfl,_,_,rfl,_,_,rfl,rfl,?_⟩;refine⟨_,rfl,_,rfl,l,_,_,_,rfl,rfl,SqL.of gl,bj hi,rfl,_,rfl,_,rfl,l,_,_,_,rfl,rfl,SqL.of gl,bj hj,_,_,rfl,rfl,_,rfl,?_⟩;cases hB:Txt.startswith (txt (ws.getD i [])) (txt (ws.getD j [])) with
  |false=>
   refine Nx.mk (i:=k) (n:=ys.length) (P:=fun k ys' H'=>DO H2 H'/\ys'.length<=k/\Stp H' ys' ((ps.take k).filter fun s=>Txt.startswith (txt (ws.getD s.1 [])) (txt (ws.getD s.2 [])))) hk ?_;refine⟨z1,by lia,?_⟩;rw[et,CH,Be,hB];simpa using z3'
  |true=>
   refine⟨_,rfl,_,rfl,aw (by show 2<=1000000;decide),fun a2 na2=>Nx.mk hk ⟨z1.trans (ag na2 _),by rw[zG];exact Dz z2',?_⟩⟩;rw[et,CH,Be,hB];exact Paired.snoc (z3'.mono (ag na2 _)) ⟨a2,rfl,ae⟩
 obtain⟨z1,z2',z3'⟩:=z;rw[yl,Af (zE _)] at z3';refine q p ys' _ _ (SA.trans (z1.trans (ag hp _))) ae (z3'.mono (ag hp _)) (zO (Bt _ _) (by lia)) fun i j=>?_;rw[AN,z4];show _/\Txt.startswith (txt (ws.getD i [])) (txt (ws.getD j []))=true↔_;rw[bb];constructor
 ·rintro⟨⟨h1,h2,h3⟩,h4⟩;exact⟨by lia,h2,h3,h4⟩
 ·rintro⟨h1,h2,h3,h4⟩;exact⟨⟨by lia,h2,h3⟩,h4⟩
def IG:Sp:=fun vs H Q _=>∃l ws x,vs=[.ref l,.str (txt x)]/\H l=some (.lst (au ws))/\Wds ws/\∀p is H',DO H H'->H' p=some (.lst (iv is))->is.length<=8->(∀i,i∈is↔i<ws.length/\∃z,x=ws.getD i []++z)->Q (.ref p) H'
theorem uk{d:DD}(D:Def K mg "words_within" (top 26) ["words","text"] d)(xo:mg "enumerate"=none):(fk 1 d ["words","text"] IG):=by
 exists["words","text"]
 obtain⟨l,ws,x,rfl,hl,hw,q⟩:=h;have h8:=hw.n8;refine⟨_,(ak (aD (aR (ao (ts:=["number","word"]) (cap:=["text"]) (js:=[1]) rfl rfl rfl rfl rfl rfl (by decide +kernel)) (jC xo (aJ (0) aC)) (@cJ _ _ _ _ _ 2 K rfl hc (aB (ad 0 (nd ["number","word","text"])) (aB (ad 1 (nd ["number","word","text"])) (@Ee _))) (by rfl) (by rfl)) (@cH _ _ _ (bH (fN Dk PySem.F.slot_str_startswith PySem.F.type_str_startswith Er (2) (aJ (1) aC)))) (0)))),?_⟩
 walk_at "d"
 refine⟨_,rfl,l,rfl,⟨_,SqL.of hl⟩,?_⟩;have el:=aK ws;refine tE (K:=K) (a:=l) (xs:=au ws) (fun i ys H'=>DO H H'/\∃is,ys=iv is/\is.length<=i/\∀a,a∈is↔a<i/\∃z,x=ws.getD a []++z) ⟨DO.refl H,[],rfl,zE _,fun a=>⟨fun h=>absurd h (by simp),fun h=>absurd h.1 (Bz _)⟩⟩ (fun i ys H' hi z=>by obtain⟨_,is,rfl,h,_⟩:=z;rw[bN];exact h) (aw (by lia)) (fun i ys H' hi z=>SqL.of (z.1 _ _ hl)) (fun i v ys H' p hx z hp=>?_) (fun ys H' z p hp=>?_)
 ·obtain⟨z1,is,rfl,z2,z3⟩:=z;have hi:i<(au ws).length:=(zL.mp hx).1;have hi':i<ws.length:=by lia
  rw[gC hi'] at hx;cases hx;have S1:=ag hp (.tup [.int (i:Int),.str (txt (ws.getD i []))]);refine⟨p,_,rfl,SqT.of ae,rfl,_,_,rfl,_,_,rfl,rfl,?_⟩;refine⟨_,rfl,rfl,_,rfl,_,_,rfl,rfl,_,rfl,?_⟩;cases hB:Txt.startswith (txt x) (txt (ws.getD i [])) with
  |false=>
   refine Nx.mk (i:=i) (n:=(au ws).length) (P:=fun i ys H'=>DO H H'/\∃is,ys=iv is/\is.length<=i/\∀a,a∈is↔a<i/\∃z,x=ws.getD a []++z) hi ?_;refine⟨z1.trans S1,is,rfl,by lia,fun a=>?_⟩;rw[z3];have hn:¬∃z,x=ws.getD i []++z:=fun h=>by rw[(bb _ _).mpr h] at hB;cases hB
   constructor
   ·rintro⟨h1,h2⟩;exact⟨by lia,h2⟩
   ·rintro⟨h1,h2⟩;by_cases e:a=i
    ·subst e;exact absurd h2 hn
    ·exact⟨by lia,h2⟩
  |true=>
   refine⟨_,rfl,Nx.mk hi ⟨z1.trans S1,is++[i],gY is i,by rw[zG];exact Dz z2,fun a=>?_⟩⟩;have hn:=(bb _ _).mp hB;rw[zH,z3,zK];constructor
   ·rintro (⟨h1,h2⟩|rfl)
    ·exact⟨by lia,h2⟩
    ·exact⟨by lia,hn⟩
   ·rintro⟨h1,h2⟩;by_cases e:a=i
    ·exact .inr e
    ·exact .inl ⟨by lia,h2⟩
 ·obtain⟨z1,is,rfl,z2,z3⟩:=z;rw[el] at z2 z3;exact q p is _ (z1.trans (ag hp _)) ae (by lia) z3
def IF:Sp:=fun vs H Q _=>∃l ws x,vs=[.ref l,.str (txt x)]/\H l=some (.lst (au ws))/\Wds ws/\∀p is H',DO H H'->H' p=some (.lst (iv is))->is.length<=8->(∀i,i∈is↔i<ws.length/\∃z,ws.getD i []=x++z)->Q (.ref p) H'
theorem uT{d:DD}(D:Def K mg "words_beyond" (top 27) ["words","text"] d)(xo:mg "enumerate"=none):(fk 1 d ["words","text"] IF):=by
 exists["words","text"]
 obtain⟨l,ws,x,rfl,hl,hw,q⟩:=h;have h8:=hw.n8;refine⟨_,(ak (aD (aR (ao (ts:=["number","word"]) (cap:=["text"]) (js:=[1]) rfl rfl rfl rfl rfl rfl (by decide +kernel)) (jC xo (aJ (0) aC)) (@cJ _ _ _ _ _ 2 K rfl hc (aB (ad 0 (nd ["number","word","text"])) (aB (ad 1 (nd ["number","word","text"])) (@Ee _))) (by rfl) (by rfl)) (@cH _ _ _ (bH (fN Dk PySem.F.slot_str_startswith PySem.F.type_str_startswith Er (1) (aJ (2) aC)))) (0)))),?_⟩
 walk_at "d"
 refine⟨_,rfl,l,rfl,⟨_,SqL.of hl⟩,?_⟩;have el:=aK ws;refine tE (K:=K) (a:=l) (xs:=au ws) (fun i ys H'=>DO H H'/\∃is,ys=iv is/\is.length<=i/\∀a,a∈is↔a<i/\∃z,ws.getD a []=x++z) ⟨DO.refl H,[],rfl,zE _,fun a=>⟨fun h=>absurd h (by simp),fun h=>absurd h.1 (Bz _)⟩⟩ (fun i ys H' hi z=>by obtain⟨_,is,rfl,h,_⟩:=z;rw[bN];exact h) (aw (by lia)) (fun i ys H' hi z=>SqL.of (z.1 _ _ hl)) (fun i v ys H' p hx z hp=>?_) (fun ys H' z p hp=>?_)
 ·obtain⟨z1,is,rfl,z2,z3⟩:=z;have hi:i<(au ws).length:=(zL.mp hx).1;have hi':i<ws.length:=by lia
  rw[gC hi'] at hx;cases hx;have S1:=ag hp (.tup [.int (i:Int),.str (txt (ws.getD i []))]);refine⟨p,_,rfl,SqT.of ae,rfl,_,_,rfl,_,_,rfl,rfl,?_⟩;refine⟨_,rfl,rfl,_,rfl,_,_,rfl,rfl,_,rfl,?_⟩;cases hB:Txt.startswith (txt (ws.getD i [])) (txt x) with
  |false=>
   refine Nx.mk (i:=i) (n:=(au ws).length) (P:=fun i ys H'=>DO H H'/\∃is,ys=iv is/\is.length<=i/\∀a,a∈is↔a<i/\∃z,ws.getD a []=x++z) hi ?_;refine⟨z1.trans S1,is,rfl,by lia,fun a=>?_⟩;rw[z3];have hn:¬∃z,ws.getD i []=x++z:=fun h=>by rw[(bb _ _).mpr h] at hB;cases hB
   constructor
   ·rintro⟨h1,h2⟩;exact⟨by lia,h2⟩
   ·rintro⟨h1,h2⟩;by_cases e:a=i
    ·subst e;exact absurd h2 hn
    ·exact⟨by lia,h2⟩
  |true=>
   refine⟨_,rfl,Nx.mk hi ⟨z1.trans S1,is++[i],gY is i,by rw[zG];exact Dz z2,fun a=>?_⟩⟩;have hn:=(bb _ _).mp hB;rw[zH,z3,zK];constructor
   ·rintro (⟨h1,h2⟩|rfl)
    ·exact⟨by lia,h2⟩
    ·exact⟨by lia,hn⟩
   ·rintro⟨h1,h2⟩;by_cases e:a=i
    ·exact .inr e
    ·exact .inl ⟨by lia,h2⟩
 ·obtain⟨z1,is,rfl,z2,z3⟩:=z;rw[el] at z2 z3;exact q p is _ (z1.trans (ag hp _)) ae (by lia) z3
open KM
def Ft (H:Hp)(v:V)(f:Fd):Prop:=∃p la lb,v=.ref p/\H p=some (.tup [.int ((f.1:Nat):Int),.ref la,.ref lb])/\H la=some (.lst (iv f.2.1))/\H lb=some (.lst (iv f.2.2))
theorem Ft.mono{H H':Hp}(S:DO H H'){v:V}{f:Fd}(h:Ft H v f):Ft H' v f:=by
 obtain⟨p,la,lb,h1,h2,h3,h4⟩:=h;exact⟨p,la,lb,h1,S _ _ h2,S _ _ h3,S _ _ h4⟩
def JG (H:Hp)(v:V)(s:List Nat×Fd):Prop:=∃p u,v=.ref p/\H p=some (.tup [.str (txt s.1),u])/\Ft H u s.2
abbrev SsL(H:Hp)(us:List V)(ss:List (List Nat×Fd)):Prop:=Paired (JG H) us ss
theorem JG.mono{H H':Hp}(S:DO H H'){v:V}{s:List Nat×Fd}(h:JG H v s):JG H' v s:=by
 obtain⟨p,u,h1,h2,h3⟩:=h;exact⟨p,u,h1,S _ _ h2,h3.mono S⟩
theorem SsL.mono{H H':Hp}(S:DO H H'){us:List V}{ss:List (List Nat×Fd)}(h:SsL H us ss):SsL H' us ss:=Paired.EW h fun v s z=>z.mono S
theorem gn(ws:List (List Nat))(i:Nat):bq ws [i]=ws.getD i []:=by rw[aY];exact AD _
theorem fm(ws:List (List Nat))(a:List Nat)(i:Nat):bq ws (a++[i])=bq ws a++ws.getD i []:=by
 unfold bq;rw[zV,List.flatten_append];show _++([ws.getD i []]).flatten=_;simp
theorem mU{ws:List (List Nat)}{i j:Nat}{z:List Nat}(hi:i<ws.length)(hj:j<ws.length)(ne:i≠j)(e:ws.getD i []=ws.getD j []++z):Trk ws z ((ws.getD i []).length,[i],[j]):=
 ⟨fun k h=>by rw[zK.mp h];exact hi,fun k h=>by rw[zK.mp h];exact hj,⟨i,j,[],[],rfl,rfl,ne⟩,by show bq ws [i]=bq ws [j]++z;rw[gn,gn];exact e,by show _=(bq ws [i]).length;rw[gn]⟩
def rp (ws:List (List Nat))(s:Nat×Nat):List Nat×Fd:=((ws.getD s.1 []).drop (ws.getD s.2 []).length,(ws.getD s.1 []).length,[s.1],[s.2])
def Kg:Sp:=fun vs H Q _=>∃l ws,vs=[.ref l]/\H l=some (.lst (au ws))/\Wds ws/\∀p us ss H',DO H H'->H' p=some (.lst us)->SsL H' us ss->ss.length<=64->(∀s∈ss,Trk ws s.1 s.2/\Sfx ws s.1/\s.2.1<=40) ->
 (∀i j x,i<ws.length->j<ws.length->i≠j->ws.getD i []=ws.getD j []++x->∃s∈ss,s.1=x/\s.2.1=(ws.getD i []).length)->Q (.ref p) H'
theorem wq{df d:DD}(D_fp:(dg "first_pairs" 24 ["words"] df 1 JY))(D:Def K mg "first_steps" (top 32) ["words"] d)(xm:mg "len"=none):(fk 2 d ["words"] Kg):=by
 exists["words","pairs"]
 obtain⟨l,ws,rfl,hl,hw,q⟩:=h;have h8:=hw.n8;refine⟨_,(af (ay 1 (Or.inl rfl) (bD D_fp.1 D_fp.2 (0) aC)) (ak (aD (aR (ao (ts:=["one","other"]) (cap:=["words"]) (js:=[0]) rfl rfl rfl rfl rfl rfl (by decide +kernel)) (aL (1)) (@cJ _ _ _ _ _ 2 K rfl hc (aB (ad 0 (nd ["one","other","words"])) (aB (ad 1 (nd ["one","other","words"])) (@Ee _))) (by rfl) (by rfl)) (@aM _) (aZ (DI (ba Ek (aQ (show IxR _ (eT K) from DK) (2) (0)) (bx (aU DJ xm (aQ (show IxR _ (eT K) from DK) (2) (1)) (by rfl))) (Ea _)) (aJ (aZ (DI (aU DJ xm (aQ (show IxR _ (eT K) from DK) (2) (0)) (by rfl)) (DI (bw (aJ (0) aC)) (aJ (bw (aJ (1) aC)) (by rfl)) (by rfl)) fE)) (by rfl)) (by rfl))))))),?_⟩
 walk_at "d"
 refine⟨_,rfl,l,ws,rfl,hl,hw,fun p0 us0 ps H1 S1 g0 hs0 hl0 hp0=>?_⟩;have yl:=Paired.length hs0;refine⟨_,rfl,p0,rfl,⟨_,SqL.of g0⟩,?_⟩;refine bM (K:=K) (a:=p0) (xs:=us0) (fun k ys' H'=>DO H1 H'/\ys'.length<=k/\SsL H' ys' ((ps.take k).map (rp ws))) ⟨DO.refl _,zE _,.nil⟩ (fun k ys' H' hk z=>z.2.1) (aw (by lia)) (fun k ys' H' hk z=>SqL.of (z.1 _ _ g0)) (fun k v ys' H' hv z=>?_) (fun ys' H' z p hp=>?_)
 ·obtain⟨z1,z2,z3⟩:=z;have hk:k<us0.length:=(zL.mp hv).1;obtain⟨⟨i,j⟩,a,es,rfl,ha⟩:=Stp.at hs0 hv;obtain⟨hi,hj,_⟩:=(hp0 i j).mp (zS es);have et:ps.take (k+1)=ps.take k++[(i,j)]:=by rw[Ak,es];rfl
  have gl:=z1 _ _ (S1 _ _ hl);have li:=hw.l40 _ (aN hi);have lj:=hw.l40 _ (aN hj);refine⟨a,_,rfl,SqT.of (z1 _ _ ha),rfl,_,_,rfl,_,_,rfl,rfl,?_⟩;refine⟨_,rfl,_,rfl,l,_,_,_,rfl,rfl,SqL.of gl,bj hi,_,rfl,_,rfl,l,_,_,_,rfl,rfl,SqL.of gl,bj hj,txt (ws.getD j []),rfl,aw (by show(ws.getD j []).length<=1000000;lia),_,rfl,txt (ws.getD i []),rfl,aw (by show(ws.getD i []).length<=1000000;lia),?_⟩;rw[show Txt.slice (txt (ws.getD i [])) (some (((txt (ws.getD j [])).length:Nat):Int)) none=txt ((ws.getD i []).drop (ws.getD j []).length) from bK _ _];refine⟨_,rfl,_,rfl,l,_,_,_,rfl,rfl,SqL.of gl,bj hi,txt (ws.getD i []),rfl,aw (by show(ws.getD i []).length<=1000000;lia),?_⟩;refine⟨_,rfl,aw (by show 1<=1000000;decide),fun la nla=>⟨_,rfl,aw (by show 1<=1000000;decide),fun lb nlb=>⟨aw (by show 3<=1000000;decide),fun pf npf=>⟨aw (by show 2<=1000000;decide),fun pp npp=>?_⟩⟩⟩⟩;have S2:=ag nla (.lst [.int (i:Int)]);have S3:=ag nlb (.lst [.int (j:Int)]);have S4:=ag npf (.tup [.int (((txt (ws.getD i [])).length:Nat):Int),.ref la,.ref lb]);have S5:=ag npp (.tup [.str (txt ((ws.getD i []).drop (ws.getD j []).length)),.ref pf]);have SS:=S2.trans (S3.trans (S4.trans S5));refine Nx.mk hk ⟨z1.trans SS,by rw[zG];exact Dz z2,?_⟩;rw[et,zV];exact Paired.snoc (SsL.mono SS z3) ⟨pp,.ref pf,rfl,ae,pf,la,lb,rfl,S5 _ _ ae,S5 _ _ (S4 _ _ (S3 _ _ ae)),S5 _ _ (S4 _ _ ae)⟩
 obtain⟨z1,z2,z3⟩:=z;rw[yl,Af (zE _)] at z3;refine q p ys' _ _ (S1.trans (z1.trans (ag hp _))) ae (SsL.mono (ag hp _) z3) (by rw[zF];exact hl0) (fun s hs=>?_) fun i j x hi hj ne e=>?_
 ·obtain⟨⟨i,j⟩,hm,rfl⟩:=zM.mp hs;obtain⟨hi,hj,ne,z,e⟩:=(hp0 i j).mp hm;have ez:(ws.getD i []).drop (ws.getD j []).length=z:=by rw[e];exact AH
  refine⟨?_,?_,hw.l40 _ (aN hi)⟩
  ·show Trk ws ((ws.getD i []).drop (ws.getD j []).length) _;rw[ez];exact mU hi hj ne e
  ·exact⟨_,aN hi,ws.getD j [],by show _=_++(ws.getD i []).drop (ws.getD j []).length;rw[ez];exact e⟩
 ·refine⟨rp ws (i,j),zM.mpr ⟨_,(hp0 i j).mpr ⟨hi,hj,ne,x,e⟩,rfl⟩,?_,rfl⟩;show(ws.getD i []).drop (ws.getD j []).length=x;rw[e];exact AH
theorem cq{ws:List (List Nat)}(h1:∀cs∈ws,1<=cs.length):∀(t:List Nat),(∀i∈t,i<ws.length)->t.length<=(bq ws t).length
 |[],_=>zE _
 |i::t,h=>by
  have a1:=cq h1 t fun j hj=>h j (Ac _ hj);have a2:=h1 _ (aN (h i zQ));rw[aY,zG,Ah];lia
theorem sf{ws:List (List Nat)}{x:List Nat}{f:Fd}(hw:Wds ws)(h:Trk ws x f):f.2.1.length<=f.1/\f.2.2.length<=f.1:=by
 have a1:=cq hw.l1 f.2.1 h.a;have a2:=cq hw.l1 f.2.2 h.b;have e:=congrArg List.length h.eq;rw[zG] at e;have:=h.len;lia
theorem sZ{ws:List (List Nat)}{x:List Nat}(hw:Wds ws)(h:Sfx ws x):x.length<=40:=by
 obtain⟨w,hm,z,e⟩:=h;have:=hw.l40 w hm;rw[e,zG] at this;lia
theorem kR{ws:List (List Nat)}{x y:List Nat}{f:Fd}{n:Nat}(h:Trk ws x f)(hs:Sfx ws x)(hn:n<ws.length)(e:x=ws.getD n []++y):Trk ws y (f.1,f.2.1,f.2.2++[n])/\Sfx ws y:=by
 obtain⟨i,j,s,t,e1,e2,ne⟩:=h.ne;refine⟨⟨h.a,fun k hk=>?_,⟨i,j,s,t++[n],e1,?_,ne⟩,?_,h.len⟩,?_⟩
 ·rcases zH.mp hk with hk|hk
  ·exact h.b k hk
  ·rw[zK.mp hk];exact hn
 ·show f.2.2++[n]=_;rw[e2];rfl
 ·show bq ws f.2.1=bq ws (f.2.2++[n])++y;rw[fm,h.eq,e,Aj]
 ·obtain⟨w,hm,z,ez⟩:=hs;exact⟨w,hm,z++ws.getD n [],by rw[ez,e,Aj]⟩
theorem lC{ws:List (List Nat)}{x y:List Nat}{f:Fd}{n:Nat}(h:Trk ws x f)(hn:n<ws.length)(e:ws.getD n []=x++y):Trk ws y (f.1+y.length,f.2.2++[n],f.2.1)/\Sfx ws y:=by
 obtain⟨i,j,s,t,e1,e2,ne⟩:=h.ne;have eq:bq ws (f.2.2++[n])=bq ws f.2.1++y:=by rw[fm,h.eq,e,Aj]
 refine⟨⟨fun k hk=>?_,h.a,⟨j,i,t++[n],s,?_,e1,Dv ne⟩,eq,?_⟩,_,aN hn,x,e⟩
 ·rcases zH.mp hk with hk|hk
  ·exact h.b k hk
  ·rw[zK.mp hk];exact hn
 ·show f.2.2++[n]=_;rw[e2];rfl
 ·show f.1+y.length=(bq ws (f.2.2++[n])).length;rw[eq,zG,h.len]
def wiS (ws:List (List Nat))(x:List Nat)(n0:Nat)(a b:List Nat)(n:Nat):List Nat×Fd:=(x.drop (ws.getD n []).length,n0,a,b++[n])
def beS (ws:List (List Nat))(x:List Nat)(n0:Nat)(a b:List Nat)(n:Nat):List Nat×Fd:=((ws.getD n []).drop x.length,n0+((ws.getD n []).drop x.length).length,b++[n],a)
abbrev BeL(H:Hp)(us:List V)(bs:List (List Nat×Nat)):Prop:=Paired (fun v b=>∃p,v=.ref p/\H p=some (.tup [.str (txt (b:List Nat×Nat).1),.int ((b.2:Nat):Int)])) us bs
theorem BeL.mono{H H':Hp}(S:DO H H'){us:List V}{bs:List (List Nat×Nat)}(h:BeL H us bs):BeL H' us bs:=Paired.EW h fun v s hq96=>by obtain⟨p,e,g⟩:=hq96;exact⟨p,e,S _ _ g⟩
theorem eB{α β:Type}{R:α->β->Prop}:∀{xs:List α}{ys:List β}{i:Nat}{x:α},Paired R xs ys->xs[i]?=some x->∃y,ys[i]?=some y/\R x y
 |_,_,_,_,.nil,h=>by cases h
 |_,_,0,x,.cons r _,h=>by cases h;exact⟨_,rfl,r⟩
 |_,_,i+1,x,.cons _ p,h=>eB (i:=i) p h
theorem cU{α β:Type}{R:α->β->Prop}:∀{xs:List α}{ys:List β}{xs':List α}{ys':List β},Paired R xs ys->Paired R xs' ys'->Paired R (xs++xs') (ys++ys')
 |_,_,_,_,.nil,h=>h
 |_,_,_,_,.cons a r,h=>.cons a (cU r h)
theorem wc{H:Hp}{us:List V}{js:List Nat}{g:Nat->List Nat}{k:Nat}{v:V}(h:BeL H us (js.map fun n=>(g n,n)))(hv:us[k]?=some v):∃n,js[k]?=some n/\∃p,v=.ref p/\H p=some (.tup [.str (txt (g n)),.int ((n:Nat):Int)]):=by
 obtain⟨y,hy,p,e,hp⟩:=eB h hv;rw[zW] at hy;obtain⟨n,hn,rfl⟩:=AV.mp hy;exact⟨n,hn,p,e,hp⟩
theorem jL{os:List Nat}{k:Nat}{v:V}(h:(iv os)[k]?=some v):∃n,os[k]?=some n/\v=.int ((n:Nat):Int):=by
 rw[zW,zW] at h;obtain⟨i,h1,rfl⟩:=AV.mp h;obtain⟨n,h2,rfl⟩:=AV.mp h1;exact⟨n,h2,rfl⟩
def Kj:Sp:=fun vs H Q _=>∃l ws x v f,vs=[.ref l,.str (txt x),v]/\H l=some (.lst (au ws))/\Wds ws/\Ft H v f/\Trk ws x f/\Sfx ws x/\f.1<=100000/\∀p us ss H',DO H H'->H' p=some (.lst us)->SsL H' us ss->ss.length<=64->(∀s∈ss,Trk ws s.1 s.2/\Sfx ws s.1/\f.1<=s.2.1/\s.2.1<=f.1+40) ->
 (∀k y,k<ws.length->x=ws.getD k []++y->∃s∈ss,s.1=y/\s.2.1=f.1)->(∀k y,k<ws.length->ws.getD k []=x++y->∃s∈ss,s.1=y/\s.2.1=f.1+y.length)->Q (.ref p) H'
theorem wC{dw db d:DD}(xY:(dg "words_within" 26 ["words","text"] dw 1 IG))(xX:(dg "words_beyond" 27 ["words","text"] db 1 IF))(D:Def K mg "next_steps" (top 33) ["words","left","found"] d)(xm:mg "len"=none):(fk 2 d ["words","left","found"] Kj):=by
 exists["words","left","found","length","ahead","behind","within","beyond"]
 obtain⟨l,ws,x,v,f,rfl,hl,hw,hf,ht,hsx,hfb,q⟩:=h;have h8:=hw.n8;refine⟨_,(af (fw (2) (fq (aB (am 3) (aB (am 4) (aB (am 5) (@Ee _)))))) (af (eK 6 (ao (ts:=["number"]) (cap:=["words","left","length","ahead","behind"]) (js:=[0,1,3,4,5]) rfl rfl rfl rfl rfl rfl (by decide +kernel)) (aL (bh xY.1 xY.2 (DI (0) (aJ (1) aC) aC))) (ad 0 (nd ["number","words","left","length","ahead","behind"])) (@aM _) (aZ (DI (ba Ek (2) (bx (aU DJ xm (aQ (show IxR _ (eT K) from DK) (1) (0)) (by rfl))) (Ea _)) (aJ (aZ (DI (3) (DI (4) (aJ (aF Fy (5) (bw (aJ (0) aC))) (by rfl)) aC) aC)) (by rfl)) (by rfl)))) (af (eK 7 (ao (ts:=["number"]) (cap:=["words","left"]) (js:=[0,1]) rfl rfl rfl rfl rfl rfl (by decide +kernel)) (aL (bh xX.1 xX.2 (DI (0) (aJ (1) aC) aC))) (ad 0 (nd ["number","words","left"])) (@aM _) (aZ (DI (ba Ek (aQ (show IxR _ (eT K) from DK) (1) (0)) (bx (aU DJ xm (2) aC)) (Ea _)) (aJ (0) aC) (by rfl)))) (ak (aD (aF Fy (6) (aR (ao (ts:=["over","number"]) (cap:=["length","ahead","behind"]) (js:=[3,4,5]) rfl rfl rfl rfl rfl rfl (by decide +kernel)) (aL (7)) (@cJ _ _ _ _ _ 2 K rfl hc (aB (ad 0 (nd ["over","number","length","ahead","behind"])) (aB (ad 1 (nd ["over","number","length","ahead","behind"])) (@Ee _))) (by rfl) (by rfl)) (@aM _) (aZ (DI (0) (aJ (aZ (DI (aF Eb (2) (aU DJ xm (0) aC)) (DI (aF Fy (4) (bw (aJ (1) aC))) (aJ (3) aC) (by rfl)) (by rfl))) (by rfl)) aC))))))))),?_⟩
 walk_at "d"
 obtain⟨pf,la,lb,rfl,gf,ga,gb⟩:=hf;have hbl:=sf hw ht;have xl:x.length<=40:=sZ hw hsx;obtain⟨n0,a,b⟩:=f;have hfb:n0<=100000:=hfb;have hbl:a.length<=n0/\b.length<=n0:=hbl;have ga:H la=some (.lst (iv a)):=ga;have gb:H lb=some (.lst (iv b)):=gb;refine⟨_,rfl,pf,_,rfl,SqT.of gf,rfl,_,_,rfl,_,_,rfl,_,_,rfl,rfl,?_⟩;refine⟨_,rfl,_,rfl,l,ws,x,rfl,hl,hw,fun p1 is H1 S1 g1 n1 hi1=>⟨p1,rfl,⟨_,SqL.of g1⟩,?_⟩⟩;refine bM (K:=K) (a:=p1) (xs:=iv is) (fun k ys' H'=>DO H1 H'/\ys'.length<=k/\SsL H' ys' ((is.take k).map (wiS ws x n0 a b))) ⟨DO.refl _,zE _,.nil⟩ (fun k ys' H' hk z=>z.2.1) (aw (by rw[bN];lia)) (fun k ys' H' hk z=>SqL.of (z.1 _ _ g1)) (fun k v ys' H' hv z=>?_) (fun ys2 H2 z p2 hp2=>?_)
 ·obtain⟨z1,z2,z3⟩:=z;have hk:k<(iv is).length:=(zL.mp hv).1;obtain⟨n,en,rfl⟩:=jL hv;obtain⟨hn,y,ey⟩:=(hi1 n).mp (zS en);have et:is.take (k+1)=is.take k++[n]:=by rw[Ak,en];rfl
  have gl:=z1 _ _ (S1 _ _ hl);have ln:=hw.l40 _ (aN hn);refine⟨_,rfl,_,rfl,_,rfl,l,_,_,_,rfl,rfl,SqL.of gl,bj hn,txt (ws.getD n []),rfl,aw (by show(ws.getD n []).length<=1000000;lia),_,rfl,txt x,rfl,aw (by show x.length<=1000000;lia),?_⟩;rw[show Txt.slice (txt x) (some (((txt (ws.getD n [])).length:Nat):Int)) none=txt (x.drop (ws.getD n []).length) from bK _ _];refine⟨_,rfl,_,rfl,_,rfl,_,rfl,aw (by show 1<=1000000;decide),fun l1 nl1=>?_⟩;have S2:=ag nl1 (.lst [.int (n:Int)]);refine⟨lb,l1,_,_,rfl,rfl,S2 _ _ (z1 _ _ (S1 _ _ gb)),ae,aw (by rw[bN];show b.length+1<=1000000;lia),fun l2 nl2=>⟨aw (by show 3<=1000000;decide),fun p3 np3=>⟨aw (by show 2<=1000000;decide),fun p4 np4=>?_⟩⟩⟩;rw[gY] at np3 np4 ⊢;have S3:=ag nl2 (.lst (iv (b++[n])));have S4:=ag np3 (.tup [.int ((n0:Nat):Int),.ref la,.ref l2]);have S5:=ag np4 (.tup [.str (txt (x.drop (ws.getD n []).length)),.ref p3]);have SS:=S2.trans (S3.trans (S4.trans S5));refine Nx.mk hk ⟨z1.trans SS,by rw[zG];exact Dz z2,?_⟩;rw[et,zV];exact Paired.snoc (SsL.mono SS z3) ⟨p4,.ref p3,rfl,ae,p3,la,l2,rfl,S5 _ _ ae,SS _ _ (z1 _ _ (S1 _ _ ga)),S5 _ _ (S4 _ _ ae)⟩
 obtain⟨z1,z2,z3⟩:=z;rw[bN,Af (zE _)] at z3;have S2:=ag hp2 (.lst ys2);have g2:upd H2 p2 (.lst ys2) p2=some (.lst ys2):=ae;have hs2:=SsL.mono S2 z3;have SA:=S1.trans (z1.trans S2);generalize upd H2 p2 (.lst ys2)=H3 at g2 hs2 SA ⊢;clear z1 z2 z3 S2 hp2;refine⟨_,rfl,_,rfl,l,ws,x,rfl,SA _ _ hl,hw,fun q1 js H4 S4 gq nq hj1=>⟨q1,rfl,⟨_,SqL.of gq⟩,?_⟩⟩;refine bM (K:=K) (a:=q1) (xs:=iv js) (fun k ys' H'=>DO H4 H'/\ys'.length<=k/\BeL H' ys' ((js.take k).map fun n=>((ws.getD n []).drop x.length,n))) ⟨DO.refl _,zE _,.nil⟩ (fun k ys' H' hk z=>z.2.1) (aw (by rw[bN];lia)) (fun k ys' H' hk z=>SqL.of (z.1 _ _ gq)) (fun k v ys' H' hv z=>?_) (fun ys5 H5 z p5 hp5=>?_)
 ·obtain⟨z1,z2,z3⟩:=z;have hk:k<(iv js).length:=(zL.mp hv).1;obtain⟨n,en,rfl⟩:=jL hv;obtain⟨hn,y,ey⟩:=(hj1 n).mp (zS en);have et:js.take (k+1)=js.take k++[n]:=by rw[Ak,en];rfl
  have gl:=z1 _ _ (S4 _ _ (SA _ _ hl));have ln:=hw.l40 _ (aN hn);refine⟨_,rfl,_,rfl,l,_,_,_,rfl,rfl,SqL.of gl,bj hn,_,rfl,txt x,rfl,aw (by show x.length<=1000000;lia),_,rfl,txt (ws.getD n []),rfl,aw (by show(ws.getD n []).length<=1000000;lia),?_⟩;rw[show Txt.slice (txt (ws.getD n [])) (some (((txt x).length:Nat):Int)) none=txt ((ws.getD n []).drop x.length) from bK _ _];refine⟨_,rfl,aw (by show 2<=1000000;decide),fun p4 np4=>?_⟩;have S5:=ag np4 (.tup [.str (txt ((ws.getD n []).drop x.length)),.int (n:Int)]);refine Nx.mk hk ⟨z1.trans S5,by rw[zG];exact Dz z2,?_⟩;rw[et,zV];exact Paired.snoc (BeL.mono S5 z3) ⟨p4,rfl,ae⟩
 obtain⟨z1,z2,z3⟩:=z;rw[bN,Af (zE _)] at z3;have S5:=ag hp5 (.lst ys5);have g5:upd H5 p5 (.lst ys5) p5=some (.lst ys5):=ae;have hs5:=BeL.mono S5 z3;have SB:=S4.trans (z1.trans S5);generalize upd H5 p5 (.lst ys5)=H6 at g5 hs5 SB ⊢;clear z1 z2 z3 S5 hp5;have yl5:=Paired.length hs5;rw[zF] at yl5;refine⟨_,rfl,_,rfl,p5,rfl,⟨_,SqL.of g5⟩,?_⟩;refine bM (K:=K) (a:=p5) (xs:=ys5) (fun k ys' H'=>DO H6 H'/\ys'.length<=k/\SsL H' ys' ((js.take k).map (beS ws x n0 a b))) ⟨DO.refl _,zE _,.nil⟩ (fun k ys' H' hk z=>z.2.1) (aw (by lia)) (fun k ys' H' hk z=>SqL.of (z.1 _ _ g5)) (fun k v ys' H' hv z=>?_) (fun ys7 H7 z p7 hp7=>?_)
 ·obtain⟨z1,z2,z3⟩:=z;have hk:k<ys5.length:=(zL.mp hv).1;obtain⟨n,en,pe,rfl,hpe⟩:=wc hs5 hv;obtain⟨hn,y,ey⟩:=(hj1 n).mp (zS en);have et:js.take (k+1)=js.take k++[n]:=by rw[Ak,en];rfl
  have ln:=hw.l40 _ (aN hn);have ld:((ws.getD n []).drop x.length).length<=40:=by rw[AL];lia
  refine⟨pe,_,rfl,SqT.of (z1 _ _ hpe),rfl,_,_,rfl,_,_,rfl,rfl,?_⟩;refine⟨_,rfl,_,rfl,_,rfl,txt ((ws.getD n []).drop x.length),rfl,aw (by show((ws.getD n []).drop x.length).length<=1000000;lia),_,_,rfl,rfl,?_⟩;refine⟨_,rfl,_,rfl,aw (by show 1<=1000000;decide),fun l1 nl1=>?_⟩;have S2:=ag nl1 (.lst [.int (n:Int)]);refine⟨lb,l1,_,_,rfl,rfl,S2 _ _ (z1 _ _ (SB _ _ (SA _ _ gb))),ae,aw (by rw[bN];show b.length+1<=1000000;lia),fun l2 nl2=>⟨_,rfl,aw (by show 3<=1000000;decide),fun p3 np3=>⟨aw (by show 2<=1000000;decide),fun p4 np4=>?_⟩⟩⟩;rw[gY] at np3 np4 ⊢;have S3:=ag nl2 (.lst (iv (b++[n])));have S4:=ag np3 (.tup [.int (((n0:Nat):Int)+(((txt ((ws.getD n []).drop x.length)).length:Nat):Int)),.ref l2,.ref la]);have S5:=ag np4 (.tup [.str (txt ((ws.getD n []).drop x.length)),.ref p3]);have SS:=S2.trans (S3.trans (S4.trans S5));refine Nx.mk hk ⟨z1.trans SS,by rw[zG];exact Dz z2,?_⟩;rw[et,zV];exact Paired.snoc (SsL.mono SS z3) ⟨p4,.ref p3,rfl,ae,p3,l2,la,rfl,S5 _ _ ae,S5 _ _ (S4 _ _ ae),SS _ _ (z1 _ _ (SB _ _ (SA _ _ ga)))⟩
 obtain⟨z1,z2,z3⟩:=z;rw[yl5,Af (zE _)] at z3;have S7:=ag hp7 (.lst ys7);have hs7:=SsL.mono S7 z3;have hs2':=SsL.mono (SB.trans (z1.trans S7)) hs2;have l2:=Paired.length hs2;have l7:=Paired.length z3;rw[zF] at l2 l7;refine⟨p2,p7,_,_,rfl,rfl,S7 _ _ (z1 _ _ (SB _ _ g2)),ae,aw (by lia),fun p np=>?_⟩;have S8:=ag np (.lst (ys2++ys7));refine q p _ _ _ (SA.trans (SB.trans (z1.trans (S7.trans S8)))) ae (SsL.mono S8 (cU hs2' hs7)) (by rw[zG,zF,zF];lia) (fun s hs=>?_) (fun n y hn e=>?_) fun n y hn e=>?_
 ·rcases zH.mp hs with hs|hs
  ·obtain⟨n,hm,rfl⟩:=zM.mp hs;obtain⟨hn,y,e⟩:=(hi1 n).mp hm;have ez:x.drop (ws.getD n []).length=y:=by rw[e];exact AH
   obtain⟨t1,t2⟩:=kR ht hsx hn e;have t1:Trk ws y (n0,a,b++[n]):=t1;refine⟨?_,?_,zE _,Bi _ _⟩
   ·show Trk ws (x.drop (ws.getD n []).length) _;rw[ez];exact t1
   ·show Sfx ws (x.drop (ws.getD n []).length);rw[ez];exact t2
  ·obtain⟨n,hm,rfl⟩:=zM.mp hs;obtain⟨hn,y,e⟩:=(hj1 n).mp hm;have ez:(ws.getD n []).drop x.length=y:=by rw[e];exact AH
   obtain⟨t1,t2⟩:=lC ht hn e;have t1:Trk ws y (n0+y.length,b++[n],a):=t1;have ln:=hw.l40 _ (aN hn);have ly:y.length<=40:=by rw[e,zG] at ln;lia
   refine⟨?_,?_,?_,?_⟩
   ·show Trk ws ((ws.getD n []).drop x.length) (n0+((ws.getD n []).drop x.length).length,_,_);rw[ez];exact t1
   ·show Sfx ws ((ws.getD n []).drop x.length);rw[ez];exact t2
   ·exact Bi _ _
   ·show n0+((ws.getD n []).drop x.length).length<=n0+40;rw[ez];lia
 ·refine⟨wiS ws x n0 a b n,Ad _ (zM.mpr ⟨n,(hi1 n).mpr ⟨hn,y,e⟩,rfl⟩),?_,rfl⟩;show x.drop (ws.getD n []).length=y;rw[e];exact AH
 ·have ez:(ws.getD n []).drop x.length=y:=by rw[e];exact AH
  refine⟨beS ws x n0 a b n,zI _ (zM.mpr ⟨n,(hj1 n).mpr ⟨hn,y,e⟩,rfl⟩),ez,?_⟩;show n0+((ws.getD n []).drop x.length).length=n0+y.length;rw[ez]
open KM
abbrev Ef(H:Hp)(kvs:List (Key×V))(E:KM.Ent):Prop:=Paired (fun kv e=>(kv:Key×V).1=.inr (txt (e:List Nat×Fd).1)/\Ft H kv.2 e.2) kvs E
theorem Ef.mono{H H':Hp}(S:DO H H'){kvs:List (Key×V)}{E:KM.Ent}(h:Ef H kvs E):Ef H' kvs E:=Paired.EW h fun kv e z=>⟨z.1,z.2.mono S⟩
theorem Et{x y:List Nat}:(Sum.inr (txt x):Key)=.inr (txt y)↔x=y:=⟨fun h=>hU (Sum.inr.inj h),fun h=>by rw[h]⟩
theorem kA{H:Hp}{x:List Nat}:∀{kvs:List (Key×V)}{E:KM.Ent},Ef H kvs E->ix E x=none->fM kvs (.inr (txt x))=none
 |_,_,.nil,_=>rfl
 |_,_,.cons (l₁:=kvs) (a:=kv) (b:=e) ⟨h1,h2⟩ r,h=>by
  have ne:e.1≠x:=iL h e zQ;rw[cy (by rw[h1];exact fun z=>ne (Et.mp z))];refine kA r ?_;unfold ix at h ⊢;rw[AU,Dd ne] at h;exact h
theorem eW{H:Hp}{x:List Nat}{f:Fd}:∀{kvs:List (Key×V)}{E:KM.Ent},Ef H kvs E->ix E x=some f->∃v,fM kvs (.inr (txt x))=some v/\Ft H v f
 |_,_,.nil,h=>by cases h
 |_,_,.cons (a:=kv) (b:=e) ⟨h1,h2⟩ r,h=>by
  by_cases ne:e.1=x
  ·rw[cV (by rw[h1,ne])];unfold ix at h;rw[AU,Dc ne] at h;have:e.2=f:=Di h;rw[<- this];exact⟨_,rfl,h2⟩
  ·rw[cy (by rw[h1];exact fun z=>ne (Et.mp z))];refine eW r ?_;unfold ix at h ⊢;rw[AU,Dd ne] at h;exact h
theorem oF{H:Hp}{x:List Nat}:∀{kvs:List (Key×V)}{E:KM.Ent},Ef H kvs E->(kvs.any fun kv=>decide (kv.1=.inr (txt x)))=(E.any fun e=>decide (e.1=x))
 |_,_,.nil=>rfl
 |_,_,.cons ⟨h1,h2⟩ r=>by
  rw[Bb,Bb,oF r,h1]
  congr 1
  exact decide_eq_decide.mpr Et
theorem om{H:Hp}{x:List Nat}{v:V}{f:Fd}(hv:Ft H v f):∀{kvs:List (Key×V)}{E:KM.Ent},Ef H kvs E->Ef H (kvs.map fun kv=>if kv.1=.inr (txt x) then (kv.1,v) else kv) (E.map fun e=>if e.1=x then (e.1,f) else e)
 |_,_,.nil=>.nil
 |_,_,.cons (a:=kv) (b:=e) ⟨h1,h2⟩ r=>by
  refine .cons ?_ (om hv r);show(if kv.1=.inr (txt x) then (kv.1,v) else kv).1=.inr (txt (if e.1=x then (e.1,f) else e).1)/\Ft H (if kv.1=.inr (txt x) then (kv.1,v) else kv).2 (if e.1=x then (e.1,f) else e).2;by_cases c:e.1=x
  ·rw[CZ c,CZ (by rw[h1,c])];exact⟨h1,hv⟩
  ·rw[CY c,CY (by rw[h1];exact fun z=>c (Et.mp z))];exact⟨h1,h2⟩
theorem nG{H:Hp}{x:List Nat}{v:V}{f:Fd}{kvs:List (Key×V)}{E:KM.Ent}(h:Ef H kvs E)(hv:Ft H v f):Ef H (dQ kvs (.inr (txt x)) v) (kI E x f):=by
 unfold dQ kI;rw[oF h];split
 ·exact om hv h
 ·exact cU h (.cons ⟨rfl,hv⟩ .nil)
theorem kH{H:Hp}{x:List Nat}:∀{kvs:List (Key×V)}{E:KM.Ent},Ef H kvs E->Ef H (cF kvs (.inr (txt x))) (dW E x)
 |_,_,.nil=>.nil
 |_,_,.cons (a:=kv) (b:=e) ⟨h1,h2⟩ r=>by
  have ih:=kH (x:=x) r;unfold cF dW at ih ⊢;rw[Be,Be];by_cases c:e.1=x
  ·rw[Dd (fun z=>z (by rw[h1,c])),Dd (fun z=>z c)];exact ih
  ·rw[Dc (show kv.1≠_ by rw[h1];exact fun z=>c (Et.mp z)),Dc c];exact .cons ⟨h1,h2⟩ ih
def dnK (dn:List (List Nat)):List (Key×V):=dn.map fun x=>(.inr (txt x),.bl true)
theorem iQ(x:List Nat):∀dn:List (List Nat),(fM (dnK dn) (.inr (txt x))).isSome=decide (x∈dn)
 |[]=>by rfl
 |y::r=>by
  have ih:=iQ x r;show(fM ((.inr (txt y),.bl true)::dnK r) (.inr (txt x))).isSome=_;by_cases c:y=x
  ·rw[cV (by rw[c]),c];simp
  ·rw[cy (fun z=>c (Et.mp z)),ih];refine decide_eq_decide.mpr ⟨fun z=>Ac _ z,fun z=>(zU.mp z).elim (fun q=>absurd q.symm c) id⟩
theorem mQ{x:List Nat}{dn:List (List Nat)}(h:x∉dn):dQ (dnK dn) (.inr (txt x)) (.bl true)=dnK (dn++[x]):=by
 have e:((dnK dn).any fun kv=>decide (kv.1=.inr (txt x)))=false:=by
  rw[Ci];intro kv hk;obtain⟨y,hy,rfl⟩:=zM.mp hk;intro z;have:y=x:=Et.mp (Dg z);rw[this] at hy;exact h hy
 unfold dQ;rw[e];show dnK dn++[_]=_;unfold dnK;rw[zV];rfl
theorem Ft.upd{H:Hp}{a:Addr}{kvs:List (Key×V)}{o:HO}(ha:H a=some (.dK kvs)){v:V}{f:Fd}(h:Ft H v f):Ft (L2.upd H a o) v f:=by
 obtain⟨p,la,lb,h1,h2,h3,h4⟩:=h;have n:∀b u,H b=some u->u≠.dK kvs->b≠a:=fun b u e ne z=>by rw[z,ha] at e;exact ne (Di e).symm
 exact⟨p,la,lb,h1,by rw[aq (n _ _ h2 (fun z=>by cases z))];exact h2,by rw[aq (n _ _ h3 (fun z=>by cases z))];exact h3,by rw[aq (n _ _ h4 (fun z=>by cases z))];exact h4⟩
theorem SsL.upd{H:Hp}{a:Addr}{kvs:List (Key×V)}{o:HO}(ha:H a=some (.dK kvs)){us:List V}{ss:List (List Nat×Fd)}(h:SsL H us ss):SsL (L2.upd H a o) us ss:=Paired.EW h fun v s ⟨p,u,h1,h2,h3⟩=>
 ⟨p,u,h1,by rw[aq (fun z=>by rw[z,ha] at h2;cases h2)];exact h2,h3.upd ha⟩
theorem Ef.upd{H:Hp}{a:Addr}{kvs0:List (Key×V)}{o:HO}(ha:H a=some (.dK kvs0)){kvs:List (Key×V)}{E:KM.Ent}(h:Ef H kvs E):Ef (L2.upd H a o) kvs E:=Paired.EW h fun kv e z=>⟨z.1,z.2.upd ha⟩
theorem va{H:Hp}{a:Addr}{o:HO}(h:H a=some o):L2.upd H a o=H:=by
 funext b
 by_cases e:b=a
 ·rw[e,ae,h]
 ·rw[aq e]
theorem jS{dn:List (List Nat)}:∀(ss:List (List Nat×Fd))(E:KM.Ent),(ss.foldl (bG dn) E).length<=E.length+ss.length
 |[],E=>zE _
 |s::r,E=>by
  have h1:=jS (dn:=dn) r (bG dn E s);have h2:(bG dn E s).length<=E.length+1:=by
   rcases bT dn E s with ⟨_,e⟩|⟨_,_,e⟩|⟨_,_,e⟩
   ·rw[e];lia
   ·rw[e];lia
   ·rw[e];unfold kI;split
    ·rw[zF];lia
    ·rw[zG];exact zE _
  rw[Bv,Ah];lia
def Kq:Sp:=fun vs H Q _=>∃a b l kvs E dn us ss,vs=[.ref a,.ref b,.ref l]/\H a=some (.dK kvs)/\Ef H kvs E/\a≠b/\H b=some (.dK (dnK dn))/\H l=some (.lst us)/\SsL H us ss/\E.length+ss.length<=1000 /\
 ∀kvs' H',H'=upd H a (.dK kvs')->Ef H' kvs' (ss.foldl (bG dn) E)->Q .non H'
theorem wu{d:DD}(D:Def K mg "keep_shorter" (top 34) ["waiting","done","steps"] d):(fk 1 d ["waiting","done","steps"] Kq):=by
 exists["waiting","done","steps","left","found"]
 obtain⟨a,b,l,kvs,E',dn,us,ss,rfl,ha,hE,nab,hb,hl,hS,hz,q⟩:=h;refine⟨_,(ak (bZ (aL (2)) (fq (aB (ar 3) (aB (ar 4) (@Ee _)))) (ak (bf (@PW.pt _ _ _ (jT (kn (dC (eG hr) (3) (1)) (by first|exact bY _ (by decide) (by decide)|rfl)) (iu (@PW.pt _ _ _ (gQ (kn (dC (eG hr) (3) (0)) (by first|exact bY _ (by decide) (by decide)|rfl)) (eR (aE GD (aQ Eg (4) (ah _)) (aQ Eg (jN (eG hr) (0) (3)) (ah _)) (aH _)))))))) (ak (gr (eG hr) (0) (3) (4))) (DP _))))),?_⟩
 walk_at "d"
 have yl:=Paired.length hS;refine⟨_,rfl,l,rfl,⟨_,SqL.of hl⟩,?_⟩;have nla:l≠a:=cD hl ha (fun z=>by cases z);refine gz (K:=K) (a:=l) (xs:=us) (fun i σ H'=>∃e3 e4 kvs',σ=[some (.ref a),some (.ref b),some (.ref l),e3,e4]/\H'=upd H a (.dK kvs')/\Ef H' kvs' ((ss.take i).foldl (bG dn) E')) ⟨_,_,kvs,rfl,(va ha).symm,hE⟩ (fun i σ H' hi z=>?_) (fun i v σ H' hv z=>?_) (fun σ H' z=>?_)
 ·obtain⟨_,_,kvs',_,rfl,_⟩:=z;exact SqL.of (by rw[aq nla];exact hl)
 ·obtain⟨e3,e4,kvs',rfl,eH,hE'⟩:=z;have hi:i<us.length:=(zL.mp hv).1;obtain⟨s0,es,p,u,rfl,hp,hu⟩:=eB (by rw[eH];exact SsL.upd ha hS:SsL H' us ss) hv;have ha':H' a=some (.dK kvs'):=by rw[eH];exact ae
  have hb':H' b=some (.dK (dnK dn)):=by rw[eH,aq (Dv nab)];exact hb
  have et:(ss.take (i+1)).foldl (bG dn) E'=bG dn ((ss.take i).foldl (bG dn) E') s0:=by rw[Ak,es,List.foldl_append];rfl
  have few:kvs'.length<sizeLine:=by
   rw[Paired.length hE'];have:=jS (dn:=dn) (ss.take i) E';rw[Aa] at this;exact Bc (show _<=1000 by lia) (by decide)
  generalize (ss.take i).foldl (bG dn) E'=Ec at hE' et;refine⟨p,_,rfl,SqT.of hp,rfl,_,_,rfl,_,_,rfl,rfl,?_⟩;refine⟨_,rfl,_,rfl,b,_,rfl,Fz.k (k:=.inr (txt s0.1)) hb',_,rfl,?_⟩;rw[iQ];by_cases hd:s0.1∈dn
  ·rw[Dc hd];refine⟨_,_,kvs',rfl,eH,?_⟩;rw[et];unfold bG;rw[CZ hd];exact hE'
  rw[Dd hd];refine⟨_,rfl,_,rfl,a,_,rfl,Fz.k (k:=.inr (txt s0.1)) ha',_,rfl,?_⟩;cases hg:ix Ec s0.1 with
  |none=>
   rw[kA hE' hg];refine⟨_,rfl,_,rfl,_,rfl,a,_,rfl,Iv.k (k:=.inr (txt s0.1)) ha' few,?_⟩;refine⟨_,_,_,rfl,by rw[eH,lS],?_⟩;rw[et];unfold bG;rw[CY hd,hg];exact Ef.upd ha' (nG hE' hu)
  |some f=>
   obtain⟨v',hv',hf⟩:=eW hE' hg;rw[hv'];obtain⟨p1,la1,lb1,eu,g1,_,_⟩:=id hu;obtain⟨p2,la2,lb2,ev,g2,_,_⟩:=id hf;have hv2:Fz H' a (.str (txt s0.1)) (some v'):=by rw[<- hv'];exact Fz.k (k:=.inr (txt s0.1)) ha'
   refine⟨_,rfl,p1,_,0,_,eu,rfl,SqT.of g1,rfl,_,rfl,_,rfl,a,v',rfl,hv2,p2,_,0,_,ev,rfl,SqT.of g2,rfl,_,_,rfl,rfl,decide (s0.2.1<f.1),?_,?_⟩
   ·show V.bl (decide (((s0.2.1:Nat):Int)<((f.1:Nat):Int)))=_
    congr 1
    exact decide_eq_decide.mpr ⟨fun h=>by lia,fun h=>by lia⟩
   by_cases hlt:s0.2.1<f.1
   ·rw[Dc hlt];refine⟨_,rfl,_,rfl,_,rfl,a,_,rfl,Iv.k (k:=.inr (txt s0.1)) ha' few,?_⟩;refine⟨_,_,_,rfl,by rw[eH,lS],?_⟩;rw[et];unfold bG;rw[CY hd,hg];simp only[CZ hlt];exact Ef.upd ha' (nG hE' hu)
   ·rw[Dd hlt];refine⟨_,_,kvs',rfl,eH,?_⟩;rw[et];unfold bG;rw[CY hd,hg];simp only[CY hlt];exact hE'
 ·obtain⟨e3,e4,kvs',rfl,eH,hE'⟩:=z;rw[yl,Af (zE _)] at hE';exact q kvs' H' eH hE'
open KM
def FJ:Str:="twins_of.<locals>.<lambda>"
def FF:Pos:=⟨122,32,122,61⟩
def wW (T:Addr):Sp:=fun vs H Q _=>∃l ws,vs=[.ref l]/\H l=some (.lst (au ws))/\Wds ws/\Es FF FJ T H/\(∀dn H',Dij ws dn []->SmB T H H'->Es FF FJ T H'->Q .non H') /\
 ∀p la lb a b dn E f H',Dij ws dn E->([],f)∈E->((∀e∈E,f.1<=e.2.1)/\f.1<=15000)->(f.2=(a,b)\/f.2=(b,a))->a.headD 0<b.headD 0->H' p=some (.tup [.ref la,.ref lb])->H' la=some (.lst (iv a))->H' lb=some (.lst (iv b))->SmB T H H'->Es FF FJ T H'->Q (.ref p) H'
theorem Ft.smb{H H':Hp}{T:Addr}{ps:Array Value}(hT:H T=some (.tbl ps))(S:SmB T H H'){v:V}{f:Fd}(h:Ft H v f):Ft H' v f:=by
 obtain⟨p,la,lb,h1,h2,h3,h4⟩:=h;have n:∀b u,H b=some u->u≠.tbl ps->b≠T:=fun b u e ne z=>by rw[z,hT] at e;exact ne (Di e).symm
 exact⟨p,la,lb,h1,S _ _ (n _ _ h2 (fun z=>by cases z)) h2,S _ _ (n _ _ h3 (fun z=>by cases z)) h3,S _ _ (n _ _ h4 (fun z=>by cases z)) h4⟩
theorem Ef.smb{H H':Hp}{T:Addr}{ps:Array Value}(hT:H T=some (.tbl ps))(S:SmB T H H'){kvs:List (Key×V)}{E:KM.Ent}(h:Ef H kvs E):Ef H' kvs E:=Paired.EW h fun kv e z=>⟨z.1,z.2.smb hT S⟩
theorem Es.upd{pos:Pos}{q:Str}{T a:Addr}{H:Hp}{kvs:List (Key×V)}{o:HO}(h:Es pos q T H)(ha:H a=some (.dK kvs)):Es pos q T (L2.upd H a o):=by
 obtain⟨ps,h1,h2,h3⟩:=h.ex;refine⟨ps,by rw[aq (fun z=>by rw[z,ha] at h1;cases h1)];exact h1,h2,?_⟩;rcases h3 with h3|⟨c,h3,h4⟩
 ·exact .inl h3
 ·exact .inr ⟨c,h3,by rw[aq (fun z=>by rw[z,ha] at h4;cases h4)];exact h4⟩
theorem du{dn:List (List Nat)}:∀(ss:List (List Nat×Fd)){E:KM.Ent}{e:List Nat×Fd},e∈ss.foldl (bG dn) E->e∈E\/e∈ss
 |[],E,e,h=>.inl h
 |s::r,E,e,h=>by
  rw[Bv] at h;rcases du r h with h|h
  ·rcases bT dn E s with ⟨_,z⟩|⟨_,_,z⟩|⟨_,_,z⟩
   ·rw[z] at h;exact .inl h
   ·rw[z] at h;exact .inl h
   ·rw[z] at h;rcases eX h with h|⟨h,_⟩
    ·exact .inr (by rw[h];exact zQ)
    ·exact .inl h
  ·exact .inr (Ac _ h)
structure Tst(T:Addr)(ws:List (List Nat))(H0:Hp)(Da Wa:Addr)(dn:List (List Nat×Nat))(E:KM.Ent)(kvs:List (Key×V))(H:Hp):Prop where
 sm:SmB T H0 H
 gD:H Da=some (.dK (dnK (dn.map (·.1))))
 gW:H Wa=some (.dK kvs)
 nD:H0 Da=none
 nW:H0 Wa=none
 ne:Da≠Wa
 en:Ef H kvs E
 lt:Es FF FJ T H
 dj:Dij ws dn E
 bd:∀e∈E,e.2.1<=40*(dn.length+1)
theorem kF{H:Hp}:∀{kvs:List (Key×V)}{E:KM.Ent},Ef H kvs E->kvs.map (·.1)=(E.map fun e=>txt e.1).map Sum.inr
 |_,_,.nil=>rfl
 |_,_,.cons ⟨h1,_⟩ r=>by rw[zZ,zZ,zZ,kF r,h1]
def vC (E:KM.Ent)(k:Str):Int:=((ix E k.cps.toList).map fun f=>((f.1:Nat):Int)).getD 0
theorem jm{E:KM.Ent}(nd:(E.map (·.1)).Nodup){x:List Nat}{f:Fd}(h:(x,f)∈E):vC E (txt x)=((f.1:Nat):Int):=by
 unfold vC;rw[show(txt x).cps.toList=x from rfl,gm nd h];rfl
theorem Jn:DN ["words","done","waiting","left","found","length","one","other"] ["words"] (av (top 35)):=by walk_at "s"
theorem vM{dfs dks dns d:DD}{cd T:Addr}(LK:JJ K mg cd T)(hcode:d.fd.code=.ref cd)(D_fs:(dg "first_steps" 32 ["words"] dfs 2 Kg))(D_ks:(dg "keep_shorter" 34 ["waiting","done","steps"] dks 1 Kq))(D_ns:(dg "next_steps" 33 ["words","left","found"] dns 2 Kj))(D:Def K mg "twins_of" (top 35) ["words"] d)(xw:mg "min"=none):(fk 4 d ["words"] (wW T)):=by
 refine D.fn.okC hcode Jn (fun vs H Q E h=>?_) (fun A outer s H vs Q E hr h=>?_)
 ·obtain⟨l,ws,rfl,_⟩:=h;rfl
 obtain⟨l,ws,rfl,hl,hw,hT,qN,qS⟩:=h;have hc:=hr.calm;have nd:=Jn.nd;have hdp:=Bc (zO (Bi _ _) (Bi _ _)) hr.dp;have hu2:A.units+3+1+3+1<cLine:=by have:=hr.un;simp only[Around.deeper] at this;lia
 refine⟨_,(af (ay 1 (Or.inl rfl) (@EN _ _)) (af (ay 2 (Or.inr rfl) (@EN _ _)) (af (bE (bh D_ks.1 D_ks.2 (DI (2) (DI (1) (aJ (bD D_fs.1 D_fs.2 (0) aC) fE) aC) aC))) (af (fc (ir (2)) (af (ay 3 (Or.inl rfl) (mX (cd) (T) (FJ) ("text") (["waiting"]) ([2]) LK (ao (ts:=["text"]) (cap:=["waiting"]) (js:=[2]) rfl rfl rfl rfl rfl rfl (by decide +kernel)) (fun _ _ _ _ _=>rfl) hdp (aQ (show IxR _ (rF K) from Eg) (jN hu2 (1) (0)) (ah _)) xw Fj (2))) (af (ay 4 (Or.inl rfl) (@qg _ _ _ _ _ _ _ (2) (3) ⟨rfl,rfl,rfl,rfl⟩)) (af (fw (4) (fq (aB (ar 5) (aB (ar 6) (aB (ar 7) (@Ee _)))))) (af (bf (aE Fc (3) (bA _) (aH _)) (ak (aD (iw (aE GD (aQ DK (6) (ah _)) (aQ DK (7) (ah _)) (aH _)) (aZ (DI (6) (aJ (7) aC) aC)) (aZ (DI (7) (aJ (6) aC) aC))))) (DP _)) (af (gr (eG hr) (1) (3) (cc _)) (ak (bE (bh D_ks.1 D_ks.2 (DI (2) (DI (1) (aJ (bh D_ns.1 D_ns.2 (DI (0) (DI (3) (aJ (4) aC) aC) aC)) fE) aC) aC)))))))))) (ak (aD (cn _))))))),?_⟩
 walk_at "d"
 have h8:=hw.n8;refine fun Da nDa Wa nWa=>?_;have nDa':H Da=none:=nDa;have neDW:Da≠Wa:=fun z=>by rw[<- z,ae] at nWa;cases nWa
 have nWa':H Wa=none:=by rw[aq (Dv neDW)] at nWa;exact nWa
 have S1:DO H (upd (upd H Da (.dK [])) Wa (.dK [])):=(ag nDa _).trans (ag nWa _);have gD1:upd (upd H Da (.dK [])) Wa (.dK []) Da=some (.dK []):=by rw[aq neDW];exact ae
 have gW1:upd (upd H Da (.dK [])) Wa (.dK []) Wa=some (.dK []):=ae;generalize upd (upd H Da (.dK [])) Wa (.dK [])=H1 at S1 gD1 gW1;refine⟨_,rfl,_,rfl,_,rfl,l,ws,rfl,S1 _ _ hl,hw,fun p1 us1 ss1 H2 S2 gp1 hss1 ls1 hs1 hf1=>?_⟩;refine⟨Wa,Da,p1,[],[],[],us1,ss1,rfl,S2 _ _ gW1,.nil,Dv neDW,S2 _ _ gD1,gp1,hss1,by show 0+ss1.length<=1000;lia,fun kvs1 H3 eH3 hE3=>?_⟩;have gW2:=S2 _ _ gW1;have t0:Tst T ws H Da Wa [] (ss1.foldl (bG []) []) kvs1 H3:=by
  refine⟨fun b o nT e=>?_,?_,by rw[eH3];exact ae,nDa',nWa',neDW,hE3,?_,Dij.start (fun s hs=>⟨(hs1 s hs).1,(hs1 s hs).2.1⟩) hf1,fun e he=>?_⟩
  ·have:=S2 _ _ (S1 _ _ e);rw[eH3,aq (ax e nWa')];exact this
  ·rw[eH3,aq neDW];exact S2 _ _ gD1
  ·rw[eH3];exact Es.upd ((hT.same S1).same S2) gW2
  ·rcases du _ he with he|he
   ·cases he
   ·have:=(hs1 e he).2.2;show _<=40*(0+1);lia
 clear hE3 hs1 hf1 hss1 gp1;refine⟨fun m σ H'=>∃(dn:List (List Nat×Nat))(E:KM.Ent)(kvs:List (Key×V))(e3 e4 e5 e6 e7:Option V),σ=[some (.ref l),some (.ref Da),some (.ref Wa),e3,e4,e5,e6,e7]/\Tst T ws H Da Wa dn E kvs H'/\m=1000-dn.length,⟨1000,[],_,kvs1,_,_,_,_,_,rfl,t0,rfl⟩,?_⟩;rintro m σ H4 ⟨dn,E',kvs,e3,e4,e5,e6,e7,rfl,t,rfl⟩;have gW:=t.gW;have lE:E'.length<=328:=by
  have:=fC h8 hw.l40 t.dj.wt.ndE (fun x hx=>by obtain⟨e,he,rfl⟩:=zM.mp hx;exact(t.dj.wt.trk e he).2);rw[zF] at this;exact this
 have lD:dn.length<=328:=by
  have:=fC h8 hw.l40 t.dj.ndD (fun x hx=>by obtain⟨e,he,rfl⟩:=zM.mp hx;exact(t.dj.nil e he).2);rw[zF] at this;exact this
 have lk:=Paired.length t.en;obtain⟨psT,gT,_⟩:=t.lt.ex;refine⟨_,rfl,!kvs.isEmpty,.inr (.inr ⟨kvs,gW,rfl⟩),?_⟩;cases hke:kvs.isEmpty with
 |true=>
  have ek:kvs=[]:=CK.mp hke;have eE:E'=[]:=by
   rw[ek] at lk;exact Az.mp lk.symm
  have dj:=t.dj;rw[eE] at dj;exact qN dn H4 dj t.sm t.lt
 |false=>
  have hne:E'≠[]:=fun z=>by
   rw[z] at lk;rw[Az.mp lk] at hke;cases hke
  refine⟨_,fun σ' H' z=>z,?_⟩;refine⟨_,rfl,t.lt,Wa,kvs,E'.map (fun e=>txt e.1),vC E',rfl,gW,kF t.en,(fun z=>hne (List.map_eq_nil_iff.mp z)),fun H5 o k0 S5 hk=>?_,fun k0 H5 hk hmin S5 L5=>?_⟩
  ·obtain⟨⟨x,f⟩,he,rfl⟩:=zM.mp hk;obtain⟨v,hv,hf⟩:=eW t.en (gm t.dj.wt.ndE he);obtain⟨pf,la,lb,rfl,gf,_,_⟩:=hf.smb gT S5;have gW5:H5 Wa=some (.dK kvs):=S5 _ _ (cD gW gT (fun z=>by cases z)) gW;have npf:pf≠Wa:=cD gf gW5 (fun z=>by cases z);refine⟨_,rfl,_,rfl,Wa,_,rfl,.inl ⟨kvs,.inr (txt x),.inr ⟨o,ae⟩,rfl,hv.symm⟩,pf,_,0,_,rfl,rfl,SqT.of (by rw[aq npf];exact gf),rfl,?_,rfl⟩;show V.int ((f.1:Nat):Int)=V.int (vC E' (txt x));rw[jm t.dj.wt.ndE he]
  obtain⟨⟨x,f⟩,he,rfl⟩:=zM.mp hk;have hmin':∀e∈E',f.1<=e.2.1:=fun e hm=>by
   have:=hmin (txt e.1) (zM.mpr ⟨e,hm,rfl⟩);rw[jm t.dj.wt.ndE he,jm t.dj.wt.ndE hm] at this;lia
  have gW5:H5 Wa=some (.dK kvs):=S5 _ _ (cD gW gT (fun z=>by cases z)) gW;have gD5:H5 Da=some (.dK (dnK (dn.map (·.1)))):=S5 _ _ (cD t.gD gT (fun z=>by cases z)) t.gD;have en5:=t.en.smb gT S5;obtain⟨v,hv,hf⟩:=eW en5 (gm t.dj.wt.ndE he);obtain⟨htrk,hsfx⟩:=t.dj.wt.trk _ he;have hfb:=t.bd _ he;refine⟨_,rfl,Wa,rfl,.inl ⟨kvs,.inl gW5⟩,_,rfl,kvs,.inr (txt x),v,gW5,rfl,hv,?_⟩;have hf6:Ft (upd H5 Wa (.dK (cF kvs (.inr (txt x))))) v f:=hf.upd gW5;have en6:Ef (upd H5 Wa (.dK (cF kvs (.inr (txt x))))) (cF kvs (.inr (txt x))) (dW E' x):=Ef.upd gW5 (kH en5);have gW6:upd H5 Wa (.dK (cF kvs (.inr (txt x)))) Wa=some (.dK (cF kvs (.inr (txt x)))):=ae;have gD6:upd H5 Wa (.dK (cF kvs (.inr (txt x)))) Da=some (.dK (dnK (dn.map (·.1)))):=by rw[aq neDW];exact gD5
  have L6:Es FF FJ T (upd H5 Wa (.dK (cF kvs (.inr (txt x))))):=Es.upd L5 gW5;have sm6:SmB T H (upd H5 Wa (.dK (cF kvs (.inr (txt x))))):=fun b o nT e=>by
   rw[aq (ax e nWa')];exact S5 b o nT (t.sm b o nT e)
  generalize upd H5 Wa (.dK (cF kvs (.inr (txt x))))=H6 at hf6 en6 gW6 gD6 L6 sm6;obtain⟨pf,la,lb,rfl,gf,ga,gb⟩:=id hf6;refine⟨_,rfl,pf,_,rfl,SqT.of gf,rfl,_,_,rfl,_,_,rfl,_,_,rfl,rfl,?_⟩;refine⟨_,rfl,rfl,decide (x=[]),?_,?_⟩
  ·show V.bl (decide (V.str (txt x)=V.str ""))=_
   congr 1
   refine decide_eq_decide.mpr ⟨fun z=>?_,fun z=>by rw[z];rfl⟩;have z1:txt x="":=by injection z
   have z2:(txt x).cps.toList=("":Str).cps.toList:=by rw[z1]
   exact z2
  by_cases hx:x=[]
  ·rw[Dc hx];subst hx;obtain⟨i,j,s1,s2,ea,eb,nij⟩:=htrk.ne;have aa:atI (iv f.2.1) 0=some (.int ((i:Nat):Int)):=by rw[ea];show atI (iv (i::s1)) ((0:Nat):Int)=_;exact bC rfl
   have ab:atI (iv f.2.2) 0=some (.int ((j:Nat):Int)):=by rw[eb];show atI (iv (j::s2)) ((0:Nat):Int)=_;exact bC rfl
   refine⟨_,rfl,la,_,0,_,rfl,rfl,SqL.of ga,aa,_,rfl,lb,_,0,_,rfl,rfl,SqL.of gb,ab,_,_,rfl,rfl,decide (i<j),?_,?_⟩
   ·show V.bl (decide (((i:Nat):Int)<((j:Nat):Int)))=_
    congr 1
    exact decide_eq_decide.mpr ⟨fun h=>by lia,fun h=>by lia⟩
   by_cases hij:i<j
   ·rw[Dc hij];refine⟨_,rfl,_,rfl,aw (by show 2<=1000000;decide),fun p np=>?_⟩;have S7:=ag np (.tup [.ref la,.ref lb]);exact qS p la lb f.2.1 f.2.2 dn E' f _ t.dj he ⟨hmin',by show f.1<=15000;have:f.1<=40*(dn.length+1):=hfb;lia⟩ (.inl rfl) (by rw[ea,eb];exact hij) ae (S7 _ _ ga) (S7 _ _ gb) (sm6.trans (SmB.of S7)) (L6.same S7)
   ·rw[Dd hij];refine⟨_,rfl,_,rfl,aw (by show 2<=1000000;decide),fun p np=>?_⟩;have S7:=ag np (.tup [.ref lb,.ref la]);exact qS p lb la f.2.2 f.2.1 dn E' f _ t.dj he ⟨hmin',by show f.1<=15000;have:f.1<=40*(dn.length+1):=hfb;lia⟩ (.inr rfl) (by rw[ea,eb];show j<i;lia) ae (S7 _ _ gb) (S7 _ _ ga) (sm6.trans (SmB.of S7)) (L6.same S7)
  ·rw[Dd hx];have nxd:x∉dn.map (·.1):=fun z=>by
    obtain⟨p,hp,e⟩:=zM.mp z;exact t.dj.wt.dis _ he p hp e.symm
   refine⟨_,rfl,_,rfl,Da,_,rfl,Iv.k (k:=.inr (txt x)) gD6 (Bc (show _<=1000 by unfold dnK;rw[zF,zF];lia) (by decide)),?_⟩;rw[mQ nxd];have gD7:upd H6 Da (.dK (dnK (dn.map (·.1)++[x]))) Da=some (.dK (dnK (dn.map (·.1)++[x]))):=ae;have gW7:upd H6 Da (.dK (dnK (dn.map (·.1)++[x]))) Wa=some (.dK (cF kvs (.inr (txt x)))):=by rw[aq (Dv neDW)];exact gW6
   have hf7:Ft (upd H6 Da (.dK (dnK (dn.map (·.1)++[x])))) (.ref pf) f:=hf6.upd gD6;have en7:Ef (upd H6 Da (.dK (dnK (dn.map (·.1)++[x])))) (cF kvs (.inr (txt x))) (dW E' x):=Ef.upd gD6 en6;have L7:Es FF FJ T (upd H6 Da (.dK (dnK (dn.map (·.1)++[x])))):=Es.upd L6 gD6;have sm7:SmB T H (upd H6 Da (.dK (dnK (dn.map (·.1)++[x])))):=fun b o nT e=>by
    rw[aq (ax e nDa')];exact sm6 b o nT e
   generalize upd H6 Da (.dK (dnK (dn.map (·.1)++[x])))=H7 at gD7 gW7 hf7 en7 L7 sm7;have hlT:l≠T:=by
    obtain⟨ps0,g0,_⟩:=hT.ex;exact cD hl g0 (fun z=>by cases z)
   refine⟨_,rfl,_,rfl,_,rfl,_,rfl,_,rfl,l,ws,x,.ref pf,f,rfl,sm7 _ _ hlT hl,hw,hf7,htrk,hsfx,by show f.1<=100000;have:f.1<=40*(dn.length+1):=hfb;lia,fun p8 us8 ss8 H8 S8 gp8 hss8 ls8 h81 h82 h83=>?_⟩;have ldr:(dW E' x).length<=328:=zO (Bt _ _) lE;refine⟨Wa,Da,p8,_,dW E' x,dn.map (·.1)++[x],us8,ss8,rfl,S8 _ _ gW7,en7.mono S8,Dv neDW,S8 _ _ gD7,gp8,hss8,by lia,fun kvs9 H9 eH9 hE9=>?_⟩;refine⟨1000-(dn.length+1),by lia,dn++[(x,f.1)],ss8.foldl (bG (dn.map (·.1)++[x])) (dW E' x),kvs9,_,_,_,_,_,rfl,?_,by rw[zG];rfl⟩;have gW8:=S8 _ _ gW7;refine⟨fun b o nT e=>?_,?_,by rw[eH9];exact ae,nDa',nWa',neDW,hE9,?_,Dij.step t.dj he hmin' hx (fun s hs=>⟨(h81 s hs).1,(h81 s hs).2.1,(h81 s hs).2.2.1⟩) h82 h83,fun e hem=>?_⟩
   ·rw[eH9,aq (ax e nWa')];exact S8 _ _ (sm7 b o nT e)
   ·rw[eH9,aq neDW,zV];exact S8 _ _ gD7
   ·rw[eH9];exact Es.upd (L7.same S8) gW8
   ·rw[zG];show e.2.1<=40*(dn.length+1+1);rcases du _ hem with hm|hm
    ·have:=t.bd e (EB.mp hm).1;lia
    ·have h1:=(h81 e hm).2.2.2;have:f.1<=40*(dn.length+1):=hfb;lia
def rS (T:Addr):Sp:=fun vs H Q _=>∃l us ws,vs=[.ref l]/\H l=some (.lst us)/\Mks H us ws/\Wds ws/\Es FF FJ T H/\(∀dn H',Dij ws dn []->SmB T H H'->Es FF FJ T H'->Q .non H') /\
 ∀p la lb a b dn E f H',Dij ws dn E->([],f)∈E->((∀e∈E,f.1<=e.2.1)/\f.1<=15000)->(f.2=(a,b)\/f.2=(b,a))->a.headD 0<b.headD 0->H' p=some (.tup [.ref la,.ref lb])->H' la=some (.lst (iv a))->H' lb=some (.lst (iv b))->SmB T H H'->Es FF FJ T H'->Q (.ref p) H'
theorem uB{dm dt d:DD}{T:Addr}(xG:(dg "maker_words" 19 ["makers"] dm 5 GS))(D_to:(dg "twins_of" 35 ["words"] dt 4 (wW T)))(D:Def K mg "twins" (top 36) ["makers"] d):(fk 6 d ["makers"] (rS T)):=by
 exists["makers"]
 obtain⟨l,us,ws,rfl,hl,hm,hw,hT,qN,qS⟩:=h;refine⟨_,(ak (aD (bD D_to.1 D_to.2 (bD xG.1 xG.2 (0) aC) fE))),?_⟩
 walk_at "d"
 refine⟨_,rfl,l,us,ws,rfl,hl,hm,hw,fun p H1 S1 gp=>?_⟩;exact⟨p,ws,rfl,gp,hw,hT.same S1,fun dn H' h1 h2 h3=>qN dn H' h1 ((SmB.of S1).trans h2) h3,fun p la lb a b dn E f H' h1 h2 h3 h4 h5 h6 h7 h8 h9 h10=>qS p la lb a b dn E f H' h1 h2 h3 h4 h5 h6 h7 h8 ((SmB.of S1).trans h9) h10⟩
end
end K3
namespace KM
def Fst (ws:List (List Nat))(z:List Nat):Prop:=∃i j,i<ws.length/\j<ws.length/\i≠j/\ws.getD i []=ws.getD j []++z
def Nxt (ws:List (List Nat))(x z:List Nat):Prop:=∃i,i<ws.length/\(x=ws.getD i []++z\/ws.getD i []=x++z)
inductive Lo(ws:List (List Nat)):List Nat->Prop
 |first {z:List Nat}:Fst ws z->Lo ws z
 |next {x z:List Nat}:Lo ws x->x≠[]->Nxt ws x z->Lo ws z
theorem wU{ws:List (List Nat)}{i:Nat}(h:i<ws.length):ws.getD i []∈ws:=by
 rw[Ae,zN h];exact An h
theorem Lo.sfx{ws:List (List Nat)}{z:List Nat}(h:Lo ws z):Sfx ws z:=by
 induction h with
 |first h=>
  obtain⟨i,j,hi,hj,_,e⟩:=h;exact⟨_,wU hi,_,e⟩
 |next _ _ h ih=>
  obtain⟨w,hw,y,e⟩:=ih;obtain⟨i,hi,h|h⟩:=h
  ·exact⟨w,hw,y++ws.getD i [],by rw[e,h,Aj]⟩
  ·exact⟨_,wU hi,_,h⟩
theorem Lo.within{ws:List (List Nat)}{S:List Nat->Prop}(h0:∀z,Fst ws z->S z)(h1:∀x z,S x->x≠[]->Nxt ws x z->S z){z:List Nat}(h:Lo ws z):S z:=by
 induction h with
 |first h=>exact h0 _ h
 |next _ n h ih=>exact h1 _ _ ih n h
structure Way(ws:List (List Nat))(found wait:List (List Nat)):Prop where
 nd:found.Nodup
 lo:∀z∈found,Lo ws z
 low:∀z∈wait,Lo ws z
 fst:∀z,Fst ws z->z∈found\/z∈wait
 nxt:∀x∈found,x≠[]->∀z,Nxt ws x z->z∈found\/z∈wait
theorem Way.start{ws zs:List (List Nat)}(h:∀z,z∈zs↔Fst ws z):Way ws [] zs:=⟨.nil,fun z h=>absurd h (by simp),fun z hz=>.first ((h z).mp hz),fun z hz=>.inr ((h z).mpr hz),fun x h=>absurd h (by simp)⟩
theorem Way.skip{ws found wait:List (List Nat)}{x:List Nat}(h:Way ws found (wait++[x]))(hx:x∈found):Way ws found wait:=by
 have f:∀z,z∈found\/z∈wait++[x]->z∈found\/z∈wait:=fun z hz=>by
  rcases hz with hz|hz
  ·exact .inl hz
  ·rcases zH.mp hz with hz|hz
   ·exact .inr hz
   ·rw[zK.mp hz];exact .inl hx
 exact⟨h.nd,h.lo,fun z hz=>h.low z (Ad _ hz),fun z hz=>f z (h.fst z hz),fun y hy ne z hz=>f z (h.nxt y hy ne z hz)⟩
theorem Way.take{ws found wait zs:List (List Nat)}{x:List Nat}(h:Way ws found (wait++[x]))(hx:x∉found)(hz:∀z,z∈zs↔x≠[]/\Nxt ws x z):Way ws (found++[x]) (wait++zs):=by
 have f:∀z,z∈found\/z∈wait++[x]->z∈found++[x]\/z∈wait++zs:=fun z hz=>by
  rcases hz with hz|hz
  ·exact .inl (Ad _ hz)
  ·rcases zH.mp hz with hz|hz
   ·exact .inr (Ad _ hz)
   ·exact .inl (zI _ hz)
 have lx:=h.low x (zI _ (zK.mpr rfl));refine⟨?_,fun z hz'=>?_,fun z hz'=>?_,fun z hz'=>f z (h.fst z hz'),fun y hy ne z hz'=>?_⟩
 ·rw[BK];refine⟨h.nd,by simp,fun a ha b hb=>?_⟩;rw[zK.mp hb];intro e;exact hx (e▸ha)
 ·rcases zH.mp hz' with hz'|hz'
  ·exact h.lo z hz'
  ·rw[zK.mp hz'];exact lx
 ·rcases zH.mp hz' with hz'|hz'
  ·exact h.low z (Ad _ hz')
  ·obtain⟨ne,n⟩:=(hz z).mp hz';exact .next lx ne n
 ·rcases zH.mp hy with hy|hy
  ·exact f z (h.nxt y hy ne z hz')
  ·rw[zK.mp hy] at ne hz';exact .inr (zI _ ((hz z).mpr ⟨ne,hz'⟩))
theorem Way.done{ws found:List (List Nat)}(h:Way ws found [])(z:List Nat):z∈found↔Lo ws z:=
 ⟨h.lo z,fun hz=>Lo.within (S:=(·∈found)) (fun z hz=>(h.fst z hz).elim id (fun h=>absurd h (by simp))) (fun x z hx ne n=>(h.nxt x hx ne z n).elim id (fun h=>absurd h (by simp))) hz⟩
theorem Way.few{ws found wait:List (List Nat)}(h:Way ws found wait)(h8:ws.length<=8)(h40:∀w∈ws,w.length<=40):found.length<=328:=fC h8 h40 h.nd fun x hx=>(h.lo x hx).sfx
structure Let(ws ps:List (List Nat)):Prop where
 ne:[]∉ps
 lr:∀x∈ps,∀c∈x,c=108\/c=114
 fst:∀z,Fst ws z->z∈ps
 nxt:∀x∈ps,∀z,Nxt ws x z->z∈ps
end KM
namespace K3
open PySem PySem.Spec PyProof.Rows L2
section
variable {P:Program}{w:World}{K:PySem.W.Frag}{mg:Str->Option Value}{base:Heap}
open KM
theorem bR(zs:List (List Nat))(x:List Nat):au zs++[V.str (txt x)]=au (zs++[x]):=by
 show _=(zs++[x]).map _;rw[zV];rfl
theorem dO(a b:List (List Nat)):au a++au b=au (a++b):=by
 show _=(a++b).map _;rw[zV]
theorem br{α:Type}{ps:List α}{k:Nat}{s:α}(es:ps[k]?=some s):ps.take (k+1)=ps.take k++[s]:=by rw[Ak,es];rfl
theorem dq(x:List Nat)(z:Str):Txt.slice (txt x) (some ((z.length:Nat):Int)) none=txt (x.drop z.length):=bK _ _
theorem dZ{H H':Hp}(S:DO H H'){p:Addr}(h:H' p=none):H p=none:=by
 cases e:H p with
 |none=>rfl
 |some o=>rw[S _ _ e] at h;cases h
theorem EE{x y z:List Nat}:(∃u,x=y++u)/\z=x.drop y.length↔x=y++z:=by
 constructor
 ·rintro⟨⟨u,rfl⟩,rfl⟩;rw[AH]
 ·rintro rfl;exact⟨⟨z,rfl⟩,by rw[AH]⟩
def JW:Sp:=fun vs H Q _=>∃l ws,vs=[.ref l]/\H l=some (.lst (au ws))/\Wds ws/\∀p zs H',DO H H'->H p=none->H' p=some (.lst (au zs))->zs.length<=64->(∀z,z∈zs↔Fst ws z)->Q (.ref p) H'
theorem vO{df d:DD}(D_fp:(dg "first_pairs" 24 ["words"] df 1 JY))(D:Def K mg "first_lefts" (top 25) ["words"] d)(xm:mg "len"=none):(fk 2 d ["words"] JW):=by
 exists["words"]
 obtain⟨l,ws,rfl,hl,hw,q⟩:=h;refine⟨_,(ak (aD (aR (ao (ts:=["longer","shorter"]) (cap:=["words"]) (js:=[0]) rfl rfl rfl rfl rfl rfl (by decide +kernel)) (aL (bD D_fp.1 D_fp.2 (0) aC)) (@cJ _ _ _ _ _ 2 K rfl hc (aB (ad 0 (nd ["longer","shorter","words"])) (aB (ad 1 (nd ["longer","shorter","words"])) (@Ee _))) (by rfl) (by rfl)) (@aM _) (ba Ek (aQ (show IxR _ (eT K) from DK) (2) (0)) (bx (aU DJ xm (aQ (show IxR _ (eT K) from DK) (2) (1)) (by rfl))) (Ea _))))),?_⟩
 walk_at "d"
 refine⟨_,rfl,l,ws,rfl,hl,hw,fun p0 us0 ps H1 S1 g0 hs0 hl0 hp0=>⟨p0,rfl,⟨_,SqL.of g0⟩,?_⟩⟩;have yl:=Paired.length hs0;refine bM (K:=K) (a:=p0) (xs:=us0) (fun k ys' H'=>H'=H1/\ys'.length<=k/\ys'=au ((ps.take k).map fun s=>(ws.getD s.1 []).drop (ws.getD s.2 []).length)) ⟨rfl,zE _,rfl⟩ (fun k ys' H' hk z=>z.2.1) (aw (by lia)) (fun k ys' H' hk z=>by rw[z.1];exact SqL.of g0) (fun k v ys' H' hv z=>?_) (fun ys' H' z p hp=>?_)
 ·obtain⟨rfl,z2,rfl⟩:=z;have hk:k<us0.length:=(zL.mp hv).1;obtain⟨⟨i,j⟩,a,es,rfl,ha⟩:=Stp.at hs0 hv;obtain⟨hi,hj,_⟩:=(hp0 i j).mp (zS es);have gl:=S1 _ _ hl;have li:=hw.l40 _ (aN hi);have lj:=hw.l40 _ (aN hj);refine⟨a,_,rfl,SqT.of ha,rfl,_,_,rfl,_,_,rfl,rfl,?_⟩;refine⟨_,rfl,_,rfl,l,_,_,_,rfl,rfl,SqL.of gl,bj hi,_,rfl,_,rfl,l,_,_,_,rfl,rfl,SqL.of gl,bj hj,txt (ws.getD j []),rfl,aw (by show(ws.getD j []).length<=1000000;lia),_,rfl,txt (ws.getD i []),rfl,aw (by show(ws.getD i []).length<=1000000;lia),?_⟩;rw[dq,show(txt (ws.getD j [])).length=(ws.getD j []).length from rfl];refine Nx.mk hk ⟨rfl,by rw[zG];exact Dz z2,?_⟩;rw[bR,br es,zV];rfl
 ·obtain⟨rfl,z2,rfl⟩:=z;rw[yl,Ap];refine q p _ _ (S1.trans (ag hp _)) (dZ S1 hp) ae (by rw[zF];exact hl0) fun z=>?_;rw[zM];constructor
  ·rintro⟨⟨i,j⟩,hs,e⟩;obtain⟨hi,hj,ne,h⟩:=(hp0 i j).mp hs;exact⟨i,j,hi,hj,ne,EE.mp ⟨h,e.symm⟩⟩
  ·rintro⟨i,j,hi,hj,ne,e⟩;obtain⟨h,e'⟩:=EE.mpr e;exact⟨(i,j),(hp0 i j).mpr ⟨hi,hj,ne,h⟩,e'.symm⟩
def JU:Sp:=fun vs H Q _=>∃l ws x,vs=[.ref l,.str (txt x)]/\H l=some (.lst (au ws))/\Wds ws/\x.length<=1000/\∀p zs H',DO H H'->H' p=some (.lst (au zs))->zs.length<=16->(∀z,z∈zs↔Nxt ws x z)->Q (.ref p) H'
theorem vL{df dg d:DD}(xY:(dg "words_within" 26 ["words","text"] df 1 IG))(xX:(dg "words_beyond" 27 ["words","text"] dg 1 IF))(D:Def K mg "next_lefts" (top 28) ["words","text"] d)(xm:mg "len"=none):(fk 2 d ["words","text"] JU):=by
 exists["words","text","of_text"]
 obtain⟨l,ws,x,rfl,hl,hw,hx,q⟩:=h;refine⟨_,(af (eK 2 (ao (ts:=["number"]) (cap:=["words","text"]) (js:=[0,1]) rfl rfl rfl rfl rfl rfl (by decide +kernel)) (aL (bh xY.1 xY.2 (DI (0) (aJ (1) aC) aC))) (ad 0 (nd ["number","words","text"])) (@aM _) (ba Ek (2) (bx (aU DJ xm (aQ (show IxR _ (eT K) from DK) (1) (0)) (by rfl))) (Ea _))) (ak (aD (aF Fy (2) (aR (ao (ts:=["number"]) (cap:=["words","text"]) (js:=[0,1]) rfl rfl rfl rfl rfl rfl (by decide +kernel)) (aL (bh xX.1 xX.2 (DI (0) (aJ (1) aC) aC))) (ad 0 (nd ["number","words","text"])) (@aM _) (ba Ek (aQ (show IxR _ (eT K) from DK) (1) (0)) (bx (aU DJ xm (2) aC)) (Ea _))))))),?_⟩
 walk_at "d"
 refine⟨_,rfl,_,rfl,l,ws,x,rfl,hl,hw,fun p0 is H1 S1 g0 hl0 hp0=>⟨p0,rfl,⟨_,SqL.of g0⟩,?_⟩⟩;have el:=bN is;refine bM (K:=K) (a:=p0) (xs:=iv is) (fun k ys' H'=>H'=H1/\ys'.length<=k/\ys'=au ((is.take k).map fun i=>x.drop (ws.getD i []).length)) ⟨rfl,zE _,rfl⟩ (fun k ys' H' hk z=>z.2.1) (aw (by lia)) (fun k ys' H' hk z=>by rw[z.1];exact SqL.of g0) (fun k v ys' H' hv z=>?_) (fun ys' H' z p hp=>?_)
 ·obtain⟨rfl,z2,rfl⟩:=z;have hk:k<(iv is).length:=(zL.mp hv).1;obtain⟨i,ei,rfl⟩:=jL hv;obtain⟨hi,_⟩:=(hp0 i).mp (zS ei);have gl:=S1 _ _ hl;have li:=hw.l40 _ (aN hi);refine⟨_,rfl,_,rfl,_,rfl,l,_,_,_,rfl,rfl,SqL.of gl,bj hi,txt (ws.getD i []),rfl,aw (by show(ws.getD i []).length<=1000000;lia),_,rfl,txt x,rfl,aw (by show x.length<=1000000;lia),?_⟩;rw[dq,show(txt (ws.getD i [])).length=(ws.getD i []).length from rfl];refine Nx.mk hk ⟨rfl,by rw[zG];exact Dz z2,?_⟩;rw[bR,br ei,zV];rfl
 obtain⟨rfl,z2,rfl⟩:=z;rw[el,Ap];have S2:=ag hp (.lst (au (is.map fun i=>x.drop (ws.getD i []).length)));have gA:upd H' p (.lst (au (is.map fun i=>x.drop (ws.getD i []).length))) p=some (.lst (au (is.map fun i=>x.drop (ws.getD i []).length))):=ae;have mA:∀z,z∈is.map (fun i=>x.drop (ws.getD i []).length)↔∃i,i<ws.length/\x=ws.getD i []++z:=fun z=>by
  rw[zM];constructor
  ·rintro⟨i,hi,e⟩;obtain⟨hi,h⟩:=(hp0 i).mp hi;exact⟨i,hi,EE.mp ⟨h,e.symm⟩⟩
  ·rintro⟨i,hi,e⟩;obtain⟨h,e'⟩:=EE.mpr e;exact⟨i,(hp0 i).mpr ⟨hi,h⟩,e'.symm⟩
 have lA:(is.map fun i=>x.drop (ws.getD i []).length).length<=8:=by rw[zF];exact hl0
 generalize (is.map fun i=>x.drop (ws.getD i []).length)=as at S2 gA mA lA ⊢;generalize upd H' p (.lst (au as))=H2 at S2 gA ⊢;refine⟨_,rfl,_,rfl,_,rfl,l,ws,x,rfl,S2 _ _ (S1 _ _ hl),hw,fun p1 js H3 S3 g1 hl1 hp1=>⟨p1,rfl,⟨_,SqL.of g1⟩,?_⟩⟩;have el:=bN js;refine bM (K:=K) (a:=p1) (xs:=iv js) (fun k ys' H'=>H'=H3/\ys'.length<=k/\ys'=au ((js.take k).map fun i=>(ws.getD i []).drop x.length)) ⟨rfl,zE _,rfl⟩ (fun k ys' H' hk z=>z.2.1) (aw (by lia)) (fun k ys' H' hk z=>by rw[z.1];exact SqL.of g1) (fun k v ys' H' hv z=>?_) (fun ys' H' z p2 hp2=>?_)
 ·obtain⟨rfl,z2,rfl⟩:=z;have hk:k<(iv js).length:=(zL.mp hv).1;obtain⟨i,ei,rfl⟩:=jL hv;obtain⟨hi,_⟩:=(hp1 i).mp (zS ei);have gl:=S3 _ _ (S2 _ _ (S1 _ _ hl));have li:=hw.l40 _ (aN hi);refine⟨_,rfl,_,rfl,l,_,_,_,rfl,rfl,SqL.of gl,bj hi,_,rfl,txt x,rfl,aw (by show x.length<=1000000;lia),_,rfl,txt (ws.getD i []),rfl,aw (by show(ws.getD i []).length<=1000000;lia),?_⟩;rw[dq,show(txt x).length=x.length from rfl];refine Nx.mk hk ⟨rfl,by rw[zG];exact Dz z2,?_⟩;rw[bR,br ei,zV];rfl
 obtain⟨rfl,z2,rfl⟩:=z;rw[el,Ap];refine⟨p,p2,au as,_,rfl,rfl,?_,ae,aw (by rw[aK,aK,zF];lia),fun p3 np3=>?_⟩
 ·exact ag hp2 _ _ _ (S3 _ _ gA)
 rw[dO];refine q p3 _ _ (S1.trans (S2.trans (S3.trans ((ag hp2 _).trans (ag np3 _))))) ae (by rw[zG,zF];lia) fun z=>?_;rw[zH,mA,zM];constructor
 ·rintro (⟨i,hi,e⟩|⟨i,hi,e⟩)
  ·exact⟨i,hi,.inl e⟩
  ·obtain⟨hi,h⟩:=(hp1 i).mp hi;exact⟨i,hi,.inr (EE.mp ⟨h,e.symm⟩)⟩
 ·rintro⟨i,hi,e|e⟩
  ·exact .inl ⟨i,hi,e⟩
  ·obtain⟨h,e'⟩:=EE.mpr e;exact .inr ⟨i,(hp1 i).mpr ⟨hi,h⟩,e'.symm⟩
open KM
structure Ls(ws os:List (List Nat)):Prop where
 so:sortedS (os.map txt)=true
 nd:os.Nodup
 mem:∀z,z∈os↔Lo ws z
theorem FK:bootBuiltins "sorted"=some (.builtin "sorted"):=by decide +kernel
theorem oY{zs:List Str}{dn:List (List Nat)}(h:zs.Perm (dn.map txt)):∃os:List (List Nat),zs=os.map txt/\os.Perm dn:=by
 refine⟨zs.map fun z=>z.cps.toList,?_,?_⟩
 ·rw[AG];exact(List.map_id' zs).symm
 ·have:=h.map fun z:Str=>z.cps.toList;rw[AG] at this;have e:(dn.map ((fun z:Str=>z.cps.toList) ∘ txt))=dn:=by
   refine(Bq (g:=id) fun x _=>?_).trans (List.map_id _);rfl
  rwa [e] at this
theorem jy(os:List (List Nat)):(os.map txt).map V.str=au os:=by rw[AG];rfl
theorem pb(dn:List (List Nat)):(dnK dn).map (·.1)=(dn.map txt).map fun z=>(Sum.inr z:Key):=by
 unfold dnK;rw[AG,AG];rfl
theorem pz(wt:List (List Nat))(x:List Nat):(au (wt++[x]))[(au (wt++[x])).length-1]?=some (.str (txt x))/\(au (wt++[x])).dropLast=au wt:=by
 rw[<- bR];refine⟨?_,List.dropLast_concat⟩;rw[zG];show(au wt++[_])[(au wt).length]?=_;rw[AE (zE _)];simp
def Ki:Sp:=fun vs H Q _=>∃l us ws,vs=[.ref l]/\H l=some (.lst us)/\Mks H us ws/\Wds ws/\∀p os H',DO H H'->H p=none->H' p=some (.lst (au os))->Ls ws os->Q (.ref p) H'
theorem wB{dm df dn d:DD}(xG:(dg "maker_words" 19 ["makers"] dm 5 GS))(D_fl:(dg "first_lefts" 25 ["words"] df 2 JW))(D_nl:(dg "next_lefts" 28 ["words","text"] dn 2 JU))(D:Def K mg "leftovers" (top 29) ["makers"] d)(xB:mg "sorted"=none):(fk 6 d ["makers"] Ki):=by
 exists["makers","words","found","waiting","text"]
 obtain⟨l,us,ws,rfl,hl,hm,hw,q⟩:=h;have h8:=hw.n8;refine⟨_,(af (ay 1 (Or.inl rfl) (bD xG.1 xG.2 (0) aC)) (af (ay 2 (Or.inl rfl) (@EN _ _)) (af (ay 3 (Or.inl rfl) (bD D_fl.1 D_fl.2 (1) aC)) (af (fc (ir (3)) (af (ay 4 (Or.inl rfl) (uA Dj PySem.F.slot_list_pop PySem.F.type_list_pop Ja (3))) (ak (bf (kn (dC (eG hr) (4) (2)) (by first|exact bY _ (by decide) (by decide)|rfl)) (af (gr (eG hr) (2) (4) (cc _)) (ak (bE (fG Dj PySem.F.slot_list_extend PySem.F.type_list_extend GP (3) (aJ (ku (iw (ir (4)) (bh D_nl.1 D_nl.2 (DI (1) (aJ (4) aC) aC)) (bw (@DZ _)))) (by rfl)))))) (DP _))))) (ak (aD (aG (kW hc) xB FK (aJ (2) aC)))))))),?_⟩
 walk_at "d"
 refine⟨_,rfl,l,us,ws,rfl,hl,hm,hw,fun W0 H1 S1 gW=>?_⟩;intro F nF;have S2:=ag nF (.dK []);have gF:upd H1 F (.dK []) F=some (.dK (dnK [])):=ae;have nF0:H F=none:=dZ S1 nF;have neF:W0≠F:=ax gW nF;have gW2:=S2 _ _ gW;have S12:=S1.trans S2;generalize upd H1 F (.dK [])=H2 at S2 gF gW2 S12 ⊢;refine⟨_,rfl,W0,ws,rfl,gW2,hw,fun A0 zs H3 S3 nA gA lA mA=>?_⟩;have nA0:H A0=none:=dZ S12 nA;have neA:W0≠A0:=ax gW2 nA;have neFA:F≠A0:=ax gF nA;refine⟨fun m σ H'=>∃dn wt e4,σ=[some (.ref l),some (.ref W0),some (.ref F),some (.ref A0),e4]/\DO H H'/\H' W0=some (.lst (au ws))/\H' F=some (.dK (dnK dn))/\H' A0=some (.lst (au wt))/\Way ws dn wt/\wt.length<=64+16*dn.length/\m=(400-dn.length)*20+wt.length,⟨_,[],zs,_,rfl,S12.trans S3,S3 _ _ gW2,S3 _ _ gF,gA,Way.start mA,by show zs.length<=64+16*0;lia,rfl⟩,?_⟩;rintro m σ H4 ⟨dn,wt,e4,rfl,S4,gW4,gF4,gA4,way,lw,rfl⟩;have ld:=way.few h8 hw.l40;refine⟨_,rfl,!(au wt).isEmpty,.inl ⟨_,SqL.of gA4,rfl⟩,?_⟩;cases hwt:(au wt).isEmpty with
 |true=>
  have e0:wt=[]:=List.map_eq_nil_iff.mp (CK.mp hwt);subst e0;refine⟨_,rfl,F,dn.map txt,rfl,.inr ⟨_,gF4,pb dn⟩,fun p zs' hp hs np=>?_⟩;obtain⟨os,rfl,pm⟩:=oY hp;rw[jy];exact q p os _ (S4.trans (ag np _)) (dZ S4 np) ae ⟨hs,pm.nodup_iff.mpr way.nd,fun z=>(pm.mem_iff).trans (way.done z)⟩
 |false=>
  obtain⟨wt,x,rfl⟩:∃wt' x,wt=wt'++[x]:=by
   rcases BZ wt with h|⟨a,b,h⟩
   ·rw[h] at hwt;cases hwt
   ·exact⟨a,b,by rw[h,Ca]⟩
  obtain⟨e1,e2⟩:=pz wt x;have lx:x.length<=40:=by
   obtain⟨w0,hw0,y,e⟩:=(way.low x (zI _ (zK.mpr rfl))).sfx;have:=hw.l40 _ hw0;rw[e,zG] at this;lia
  rw[zG] at lw ⊢;refine⟨_,fun σ' H' z=>z,?_⟩;refine⟨_,rfl,.inl ⟨rfl,_,SqL.of gA4⟩,A0,_,_,rfl,rfl,gA4,e1,?_⟩;rw[e2];have S5:DO H (upd H4 A0 (.lst (au wt))):=fun b o e=>by rw[aq (ax e nA0)];exact S4 _ _ e
  have gW5:upd H4 A0 (.lst (au wt)) W0=some (.lst (au ws)):=by rw[aq neA];exact gW4
  have gF5:upd H4 A0 (.lst (au wt)) F=some (.dK (dnK dn)):=by rw[aq neFA];exact gF4
  have gA5:upd H4 A0 (.lst (au wt)) A0=some (.lst (au wt)):=ae;generalize upd H4 A0 (.lst (au wt))=H5 at S5 gW5 gF5 gA5 ⊢;refine⟨_,rfl,_,rfl,F,_,rfl,Fz.k (k:=.inr (txt x)) gF5,?_⟩;refine⟨_,rfl,?_⟩;rw[iQ x dn];by_cases hx:x∈dn
  ·rw[Dc hx];exact⟨_,by show(400-dn.length)*20+wt.length<_+(wt.length+1);lia,dn,wt,_,rfl,S5,gW5,gF5,gA5,way.skip hx,by have:[x].length=1:=rfl;lia,rfl⟩
  rw[Dd hx];refine⟨_,rfl,_,rfl,F,_,rfl,.inl ⟨_,.inr (txt x),gF5,rfl,zP (show(dnK dn).length<1000000 by unfold dnK;rw[zF];lia) (aw (zE _)),rfl⟩,?_⟩;rw[mQ hx];have S6:DO H (upd H5 F (.dK (dnK (dn++[x])))):=fun b o e=>by rw[aq (ax e nF0)];exact S5 _ _ e
  have gW6:upd H5 F (.dK (dnK (dn++[x]))) W0=some (.lst (au ws)):=by rw[aq neF];exact gW5
  have gF6:upd H5 F (.dK (dnK (dn++[x]))) F=some (.dK (dnK (dn++[x]))):=ae;have gA6:upd H5 F (.dK (dnK (dn++[x]))) A0=some (.lst (au wt)):=by rw[aq (Dv neFA)];exact gA5
  generalize upd H5 F (.dK (dnK (dn++[x])))=H6 at S6 gW6 gF6 gA6 ⊢;refine⟨_,rfl,.inl ⟨rfl,_,SqL.of gA6⟩,fun v H'=>∃B zs,v=.ref B/\DO H6 H'/\H' B=some (.lst (au zs))/\zs.length<=16/\∀z,z∈zs↔x≠[]/\Nxt ws x z,?_,fun v H7 z=>?_⟩
  ·refine⟨_,rfl,_,⟨aw (by show x.length<=1000000;lia),rfl⟩,?_⟩;rw[show(txt x).length=x.length from rfl];cases x with
   |nil=>exact⟨zX _,fun B nB=>⟨B,[],rfl,ag nB _,ae,zX _,fun z=>⟨fun h=>absurd h (by simp),fun h=>absurd rfl h.1⟩⟩⟩
   |cons c r=>
    have e:((((c::r).length:Nat):Int) != 0)=true:=by rw[bne_iff_ne];show((r.length+1:Nat):Int)≠0;lia
    rw[e];exact⟨_,rfl,_,rfl,W0,ws,c::r,rfl,gW6,hw,by lia,fun B zs H7 S7 gB lz mz=>⟨B,zs,rfl,S7,gB,lz,fun z=>(mz z).trans ⟨fun h=>⟨by simp,h⟩,fun h=>h.2⟩⟩⟩
  obtain⟨B,zs,rfl,S7,gB,lz,mz⟩:=z;have gA7:=S7 _ _ gA6;refine⟨A0,B,au wt,au zs,rfl,rfl,gA7,gB,aw (by rw[aK,aK];lia),?_⟩;rw[dO];have ln:(dn++[x]).length=dn.length+1:=by rw[zG];rfl
  have wy:=way.take hx mz;have l2:=wy.few h8 hw.l40;refine⟨_,?_,dn++[x],wt++zs,_,rfl,fun b o e=>?_,?_,?_,ae,wy,?_,rfl⟩
  ·rw[ln,zG];show(400-(dn.length+1))*20+(wt.length+zs.length)<(400-dn.length)*20+(wt.length+1)
   lia
  ·rw[aq (ax e nA0)];exact S7 _ _ (S6 _ _ e)
  ·rw[aq neA];exact S7 _ _ gW6
  ·rw[aq neFA];exact S7 _ _ gF6
  ·rw[ln,zG];have:[x].length=1:=rfl;lia
open KM
def lrb (c:Nat):Bool:=c==108||c==114
theorem wI(c:Nat):("lr":Str).cps.contains c=lrb c:=by
 show(#[108,114]:Array Nat).contains c=_;unfold lrb;simp;rfl
theorem rZ{p:Nat->Bool}{c:Nat}(hc:p c=false)(l:List Nat):((l++[c]).takeWhile p).length<=l.length:=by
 induction l with
 |nil=>rw[BQ,Cd,hc];exact zE _
 |cons a l ih=>
  rw[List.cons_append,Cd];cases p a with
  |false=>exact zX _
  |true=>exact Dz ih
theorem rg{p:Nat->Bool}:∀(l:List Nat),l.all p=true->l.takeWhile p=l
 |[],_=>rfl
 |a::l,h=>by
  rw[BO,Au] at h;rw[Cd,h.1,CZ rfl,rg l h.2]
theorem oh{p:Nat->Bool}:∀(l:List Nat),l.all p=false->∃c r,l.drop (l.takeWhile p).length=c::r/\p c=false
 |[],h=>by cases h
 |a::l,h=>by
  rw[BO] at h;rw[Cd];cases hp:p a with
  |false=>exact⟨a,l,rfl,hp⟩
  |true=>
   rw[hp,Bool.true_and] at h;exact oh l h
theorem pK(cs:List Nat):decide (V.str (Txt.stripChars (txt cs) "lr")=V.str "")=cs.all lrb:=by
 have hg:(fun c=>("lr":Str).cps.contains c)=lrb:=funext wI;unfold Txt.stripChars Txt.stripBy;rw[show("lr":Str).cps.contains=lrb from hg];have hL:(txt cs).cps.toList=cs:=rfl;have hn:(txt cs).length=cs.length:=by show cs.toArray.size=_;simp
 have lo:stripLo lrb true (txt cs)=(cs.takeWhile lrb).length:=rfl;have hi:stripHi lrb true (txt cs) (cs.takeWhile lrb).length=cs.length-((cs.drop (cs.takeWhile lrb).length).reverse.takeWhile lrb).length:=by
  unfold stripHi;rw[CZ rfl,hn];rfl
 unfold stripSame stripped;rw[lo,hi,hn];cases h:cs.all lrb with
 |true=>
  have tw:cs.takeWhile lrb=cs:=by
   exact rg cs h
  rw[tw,List.drop_length];refine Dc (congrArg V.str ?_);split
  ·rename_i z;rw[Au,DH] at z;have:cs=[]:=Az.mp z.1;subst this;rfl
  ·apply eJ;show((txt cs).cps.extract cs.length (cs.length-0)).toList=[]
   rw[Nat.sub_zero];simp
 |false=>
  obtain⟨c,r,e,hc⟩:=oh cs h;have hlen:=congrArg List.length e;rw[AL,Ah] at hlen;have tl:((cs.drop (cs.takeWhile lrb).length).reverse.takeWhile lrb).length<=r.length:=by
   rw[e,List.reverse_cons];have:=rZ hc r.reverse;rw[List.length_reverse] at this;exact this
  refine Dd fun z=>?_;injection z with z;have z2:=congrArg (fun s=>s.cps.toList.length) z
  revert z2
  split
  ·show cs.toArray.toList.length=0->False;intro z2;have:cs.length=0:=by simpa using z2
   lia
  ·show((txt cs).cps.extract _ _).toList.length=0->False;intro z2;have:min (cs.length-((cs.drop (cs.takeWhile lrb).length).reverse.takeWhile lrb).length) cs.length-(cs.takeWhile lrb).length=0:=by
    have hs:(txt cs).cps.size=cs.length:=hn;rw[zR,Cw,hs] at z2;exact z2
   lia
theorem sd(x:List Nat):x.all lrb=true↔∀c∈x,c=108\/c=114:=by
 rw[AK];refine forall_congr' fun c=>forall_congr' fun _=>?_;unfold lrb;rw[Bool.or_eq_true,DH,DH]
theorem mh(xs:List (List Nat))(f:List Nat->Bool):((xs.map f).all id=true)↔∀x∈xs,f x=true:=by
 rw[List.all_map,AK];rfl
theorem cg{ws:List (List Nat)}{i:Nat}{v:V}(h:(au ws)[i]?=some v):∃x,ws[i]?=some x/\v=.str (txt x):=by
 rw[zW] at h;obtain⟨x,e,rfl⟩:=AV.mp h;exact⟨x,e,rfl⟩
theorem gk{ps:List (List Nat)}{i:Nat}{x:List Nat}(f:List Nat->Bool)(ex:ps[i]?=some x):((ps.take i).map f).map V.bl++[V.bl (f x)]=((ps.take (i+1)).map f).map V.bl:=by
 rw[br ex,zV,zV];rfl
theorem qA(bs:List Bool)(b:Bool):bs.map V.bl++[V.bl b]=(bs++[b]).map V.bl:=by rw[zV];rfl
def Ko:Sp:=fun vs H Q _=>∃l ps,vs=[.ref l]/\H l=some (.lst (au ps))/\ps.length<=2000/\(∀x∈ps,x.length<=1000)/\∀b H',DO H H'->(b=true↔∀x∈ps,∀c∈x,c=108\/c=114)->Q (.bl b) H'
theorem wx{d:DD}(D:Def K mg "is_paper" (top 30) ["texts"] d)(xk:mg "isinstance"=none)(xr:mg "list"=none)(zl:mg "str"=none)(xO:mg "all"=none):(fk 1 d ["texts"] Ko):=by
 exists["texts"]
 obtain⟨l,ps,rfl,hl,hn,hx,q⟩:=h;refine⟨_,(af (bf (@PW.pt _ _ _ (gQ (cB (bH (aG Eh xk DR (DI (0) (aJ (cf (.ty "list") xr EC) aC) aC)))) (eR (cB (bH (aG (dD hc) xO FN (aJ (aR (ao (ts:=["text"]) (cap:=[]) (js:=[]) rfl rfl rfl rfl rfl rfl (by decide +kernel)) (aL (0)) (ad 0 (nd ["text"])) (@aM _) (aG (show cb _ _ (wZ K) from Eh) xk DR (DI (0) (aJ (cf (.ty "str") zl Jm) aC) aC))) (by rfl)))))))) (ak (aD (cc _))) (DP _)) (ak (aD (aG (dD hc) xO FN (aJ (aR (ao (ts:=["text"]) (cap:=[]) (js:=[]) rfl rfl rfl rfl rfl rfl (by decide +kernel)) (aL (0)) (ad 0 (nd ["text"])) (@aM _) (bS Fc (fN Dk PySem.F.slot_str_strip PySem.F.type_str_strip HI (0) (aJ (bA _) bB)) (bA _) (aH _))) (by rfl)))))),?_⟩
 walk_at "d"
 refine⟨_,rfl,.ref l,.ty "list",.type "list",.type "list",true,rfl,rfl,.lst hl,rfl,true,rfl,?_⟩;refine⟨_,rfl,l,rfl,⟨_,SqL.of hl⟩,?_⟩;have el:=aK ps;refine bM (K:=K) (a:=l) (xs:=au ps) (fun i ys H'=>H'=H/\ys=((ps.take i).map fun _=>true).map V.bl) ⟨rfl,rfl⟩ (fun i ys H' hi z=>by rw[z.2,zF,zF,Aa];lia) (aw (by lia)) (fun i ys H' hi z=>by rw[z.1];exact SqL.of hl) (fun i v ys H' hv z=>?_) (fun ys H' z p hp=>?_)
 ·obtain⟨rfl,rfl⟩:=z;have hi:i<(au ps).length:=(zL.mp hv).1;obtain⟨x,ex,rfl⟩:=cg hv;refine⟨_,rfl,.str (txt x),.ty "str",.type "str",.type "str",true,rfl,rfl,.str _,rfl,Nx.mk hi ⟨rfl,?_⟩⟩;exact gk (fun _=>true) ex
 obtain⟨rfl,rfl⟩:=z;rw[el,Ap];have S1:=ag hp (.lst ((ps.map fun _=>true).map V.bl));have gp:upd H' p (.lst ((ps.map fun _=>true).map V.bl)) p=some (.lst ((ps.map fun _=>true).map V.bl)):=ae;generalize upd H' p (.lst ((ps.map fun _=>true).map V.bl))=H2 at S1 gp ⊢;refine⟨p,_,rfl,SqL.of gp,true,?_,?_⟩
 ·rw[(mh ps fun _=>true).mpr fun _ _=>rfl]
 refine⟨_,rfl,l,rfl,⟨_,SqL.of (S1 _ _ hl)⟩,?_⟩;refine bM (K:=K) (a:=l) (xs:=au ps) (fun i ys H'=>H'=H2/\ys=((ps.take i).map fun x=>x.all lrb).map V.bl) ⟨rfl,rfl⟩ (fun i ys H' hi z=>by rw[z.2,zF,zF,Aa];lia) (aw (by lia)) (fun i ys H' hi z=>by rw[z.1];exact SqL.of (S1 _ _ hl)) (fun i v ys H' hv z=>?_) (fun ys H' z p3 hp3=>?_)
 ·obtain⟨rfl,rfl⟩:=z;have hi:i<(au ps).length:=(zL.mp hv).1;obtain⟨x,ex,rfl⟩:=cg hv;have hx':=hx x (zS ex);refine⟨_,rfl,rfl,txt x,"lr",rfl,rfl,aw (by show x.length<=1000000;lia),?_⟩;refine⟨rfl,Nx.mk hi ⟨rfl,?_⟩⟩;show _++[V.bl (decide (V.str (Txt.stripChars (txt x) "lr")=V.str ""))]=_;rw[pK];exact gk (fun x=>x.all lrb) ex
 obtain⟨rfl,rfl⟩:=z;rw[el,Ap];refine⟨p3,_,rfl,SqL.of ae,q _ _ (S1.trans (ag hp3 _)) ?_⟩;rw[mh];exact forall_congr' fun x=>forall_congr' fun _=>sd x
open KM
theorem mf(x:List Nat)(r:List (List Nat)):inV (.str (txt x)) (au r)=decide (x∈r):=by
 unfold inV;rw[Dy,BL,decide_eq_true_iff];constructor
 ·rintro⟨v,hv,e⟩;obtain⟨y,hy,rfl⟩:=zM.mp hv;have e':decide (txt y=txt x)=true:=e;rw[<- hU (Dg e')];exact hy
 ·intro h;exact⟨_,zM.mpr ⟨x,h,rfl⟩,(show decide (txt x=txt x)=true from Dc rfl)⟩
theorem gg(r:List (List Nat)):(au r).all EY=true:=AK.mpr fun v hv=>by
 obtain⟨y,_,rfl⟩:=zM.mp hv;rfl
theorem zp:("":Str)=txt []:=by decide +kernel
theorem pW{x:List Nat}{dn:List (List Nat)}(h:x∈dn):dQ (dnK dn) (.inr (txt x)) (.bl true)=dnK dn:=by
 unfold dQ;have e:((dnK dn).any fun kv=>decide (kv.1=.inr (txt x)))=true:=BL.mpr ⟨_,zM.mpr ⟨x,h,rfl⟩,Dc rfl⟩;rw[CZ e];refine(Bq (g:=id) fun kv hk=>?_).trans (List.map_id _);obtain⟨y,hy,rfl⟩:=zM.mp hk;show(if _ then _ else _)=_;split<;>rfl
theorem oD(dn:List (List Nat)):(dnK dn).length=dn.length:=zF _
theorem vA{dn:List (List Nat)}{i:Nat}{z:Str}{v:V}(h:(dnK dn)[i]?=some (Sum.inr z,v)):∃x,dn[i]?=some x/\z=txt x:=by
 unfold dnK at h;rw[zW] at h;obtain⟨x,e,h⟩:=AV.mp h;cases h;exact⟨x,e,rfl⟩
theorem sG(dn:List (List Nat)):∀p∈dnK dn,∃z,p.1=Sum.inr z:=fun p hp=>by
 obtain⟨x,_,rfl⟩:=zM.mp hp;exact⟨_,rfl⟩
theorem qd(bs:List Bool)(b:Bool):(bs++[b]).all id=(bs.all id&&b):=by rw[List.all_append];simp
def Kk:Sp:=fun vs H Q _=>∃l us ws t ps,vs=[.ref l,.ref t]/\H l=some (.lst us)/\Mks H us ws/\Wds ws/\H t=some (.lst (au ps))/\ps.length<=2000/\(∀x∈ps,x.length<=1000)/\∀b H',DO H H'->(b=true↔Let ws ps)->Q (.bl b) H'
theorem vW{dm di df dn d:DD}(xG:(dg "maker_words" 19 ["makers"] dm 5 GS))(D_ip:(dg "is_paper" 30 ["texts"] di 1 Ko))(D_fl:(dg "first_lefts" 25 ["words"] df 2 JW))(D_nl:(dg "next_lefts" 28 ["words","text"] dn 2 JU))(D:Def K mg "let_by" (top 31) ["makers","texts"] d)(xO:mg "all"=none):(fk 6 d ["makers","texts"] Kk):=by
 exists["makers","texts","words","held"]
 obtain⟨l,us,ws,t,ps,rfl,hl,hm,hw,ht,hn,hx,q⟩:=h;refine⟨_,(af (ay 2 (Or.inr rfl) (bD xG.1 xG.2 (0) aC)) (af (bf (@PW.pt _ _ _ (gQ (cB (bH (bD D_ip.1 D_ip.2 (1) aC))) (eR (aE ET (bA _) (1) rfl)))) (ak (aD (cc _))) (DP _)) (af (ay 3 (Or.inr rfl) (pD (ao (ts:=["text"]) (cap:=[]) (js:=[]) rfl rfl rfl rfl rfl rfl (by decide +kernel)) (aL (1)) (ad 0 (nd ["text"])) (@aM _) (0) (cc _))) (af (bf (cB (bH (aG (dD hc) xO FN (aJ (aR (ao (ts:=["left"]) (cap:=["held"]) (js:=[3]) rfl rfl rfl rfl rfl rfl (by decide +kernel)) (aL (bD D_fl.1 D_fl.2 (2) aC)) (ad 0 (nd ["left","held"])) (@aM _) (qH (rh (eG hr) (0) (1)) (by first|exact bY _ (by decide) (by decide)|rfl))) (by rfl))))) (ak (aD (cc _))) (DP _)) (ak (aD (aG (dD hc) xO FN (aJ (oS (ao (ts:=["text","left"]) (cap:=["words","held"]) (js:=[2,3]) rfl rfl rfl rfl rfl rfl (by decide +kernel)) (@qq _ _ _ _ (3)) (ad 0 (nd ["text","left","words","held"])) (@aM _) (@qh _ _ _ _ K rfl (bh D_nl.1 D_nl.2 (DI (2) (aJ (0) aC) aC))) (ad 1 (nd ["text","left","words","held"])) (@aM _) (qH (rh (eG hr) (1) (3)) (by first|exact bY _ (by decide) (by decide)|rfl)) (by intro _ _;rfl)) (by rfl))))))))),?_⟩
 walk_at "d"
 refine⟨_,rfl,l,us,ws,rfl,hl,hm,hw,fun W0 H1 S1 gW=>?_⟩;refine⟨_,rfl,t,ps,rfl,S1 _ _ ht,hn,hx,fun b0 H2 S2 hb0=>?_⟩;have S12:=S1.trans S2;refine⟨b0,rfl,?_⟩;cases b0 with
 |false=>exact q false H2 S12 ⟨fun h=>(by cases h),fun h=>hb0.mpr h.lr⟩
 |true=>
 have hlr:=hb0.mp rfl;have gt:=S12 _ _ ht;have gW2:=S2 _ _ gW;refine⟨_,rfl,t,au ps,rfl,.inl (SqL.of gt),rfl,gg ps,_,rfl,?_⟩;rw[zp,show(if false=true then !inV (V.str (txt [])) (au ps) else inV (V.str (txt [])) (au ps))=decide ([]∈ps) from mf [] ps];by_cases h0:[]∈ps
 ·rw[Dc h0];exact q false H2 S12 ⟨fun h=>(by cases h),fun h=>absurd h0 h.ne⟩
 rw[Dd h0];refine⟨_,rfl,t,rfl,⟨_,SqL.of gt⟩,?_⟩;have el:=aK ps;refine uq (K:=K) (a:=t) (xs:=au ps) (fun i ys H'=>H'=H2/\∃dn,ys=dnK dn/\dn.length<=i/\∀z,z∈dn↔z∈ps.take i) ⟨rfl,[],rfl,zE _,fun z=>Iff.rfl⟩ (fun i ys H' hi z=>?_) (by lia) (fun i ys H' hi z=>by rw[z.1];exact SqL.of gt) (fun i v ys H' hv z=>?_) (fun ys H' z=>?_)
 ·obtain⟨_,dn,rfl,h,_⟩:=z;rw[oD];exact h
 ·obtain⟨rfl,dn,rfl,ld,md⟩:=z;have hi:i<(au ps).length:=(zL.mp hv).1;obtain⟨x,ex,rfl⟩:=cg hv;refine⟨_,rfl,.inr (txt x),rfl,?_⟩;unfold tC;refine NxD.mk hi ⟨rfl,?_⟩;have e1:∀z,z∈ps.take (i+1)↔z∈dn\/z=x:=fun z=>by rw[br ex,zH,zK,md]
  by_cases hxd:x∈dn
  ·exact⟨dn,pW hxd,by lia,fun z=>by rw[e1];exact⟨.inl,fun h=>h.elim id fun h=>h▸hxd⟩⟩
  ·exact⟨dn++[x],mQ hxd,by rw[zG];exact Dz ld,fun z=>by rw[e1,zH,zK]⟩
 obtain⟨rfl,dn,rfl,ld,md⟩:=z;rw[el] at ld;rw[el,Ap] at md;intro D0 nD;have S3:=ag nD (.dK (dnK dn));have gD:upd H' D0 (.dK (dnK dn)) D0=some (.dK (dnK dn)):=ae;have nD0:H D0=none:=dZ S12 nD;have gW3:=S3 _ _ gW2;have SA:=S12.trans S3;generalize upd H' D0 (.dK (dnK dn))=H3 at S3 gD gW3 SA ⊢;refine⟨_,rfl,W0,ws,rfl,gW3,hw,fun A0 zs H4 S4 nA gA lA mA=>⟨A0,rfl,⟨_,SqL.of gA⟩,?_⟩⟩;have gD4:=S4 _ _ gD;have gW4:=S4 _ _ gW3;have SB:=SA.trans S4;have ez:=aK zs;refine bM (K:=K) (a:=A0) (xs:=au zs) (fun i ys H'=>H'=H4/\ys=((zs.take i).map fun x=>decide (x∈dn)).map V.bl) ⟨rfl,rfl⟩ (fun i ys H' hi z=>by rw[z.2,zF,zF,Aa];lia) (aw (by lia)) (fun i ys H' hi z=>by rw[z.1];exact SqL.of gA) (fun i v ys H' hv z=>?_) (fun ys H' z p hp=>?_)
 ·obtain⟨rfl,rfl⟩:=z;have hi:i<(au zs).length:=(zL.mp hv).1;obtain⟨x,ex,rfl⟩:=cg hv;refine⟨_,rfl,_,rfl,D0,_,rfl,Fz.k (k:=.inr (txt x)) gD4,Nx.mk hi ⟨rfl,?_⟩⟩;rw[iQ];exact gk (fun x=>decide (x∈dn)) ex
 obtain⟨rfl,rfl⟩:=z;rw[ez,Ap];have S5:=ag hp (.lst ((zs.map fun x=>decide (x∈dn)).map V.bl));have gp:upd H' p (.lst ((zs.map fun x=>decide (x∈dn)).map V.bl)) p=some (.lst ((zs.map fun x=>decide (x∈dn)).map V.bl)):=ae;have gD5:=S5 _ _ gD4;have gW5:=S5 _ _ gW4;have SC:=SB.trans S5;generalize upd H' p (.lst ((zs.map fun x=>decide (x∈dn)).map V.bl))=H5 at S5 gp gD5 gW5 SC ⊢;refine⟨p,_,rfl,SqL.of gp,_,rfl,?_⟩;have ai:=mh zs fun x=>decide (x∈dn);have fi:(∀x∈zs,decide (x∈dn)=true)↔∀z,Fst ws z->z∈ps:=by
  constructor
  ·intro h z hz;exact(md z).mp (Dg (h z ((mA z).mpr hz)))
  ·intro h x hx';exact Dc ((md x).mpr (h x ((mA x).mp hx')))
 rw[fi] at ai;generalize ((zs.map fun x=>decide (x∈dn)).all id)=c at ai ⊢;cases c with
 |false=>exact q false H5 SC ⟨fun h=>(by cases h),fun h=>ai.mpr h.fst⟩
 |true=>
 have hf:=ai.mp rfl;clear ai fi;refine⟨_,rfl,D0,dnK dn,rfl,gD5,fun o=>?_⟩;have SD:DO H (upd H5 D0 (.frz o (.dK (dnK dn)))):=fun b u e=>by rw[aq (ax e nD0)];exact SC _ _ e
 have gD6:upd H5 D0 (.frz o (.dK (dnK dn))) D0=some (.frz o (.dK (dnK dn))):=ae;have gW6:upd H5 D0 (.frz o (.dK (dnK dn))) W0=some (.lst (au ws)):=by rw[aq (cD gW5 gD5 (fun z=>nomatch z))];exact gW5
 generalize upd H5 D0 (.frz o (.dK (dnK dn)))=H6 at SD gD6 gW6 ⊢;have ek:=oD dn;refine vo (sG dn) (fun i ys H'=>DO H6 H'/\∃bs,ys=bs.map V.bl/\bs.length<=16*i/\(bs.all id=true↔∀x∈dn.take i,∀z,Nxt ws x z->z∈dn)) ⟨DO.refl _,[],rfl,zE _,⟨fun _ x h=>absurd h (by simp),fun _=>rfl⟩⟩ (fun i ys H' hi z=>?_) (fun i ys H' hi z=>z.1 _ _ gD6) (fun i z v ys H' hv hz=>?_) (fun ys H' z p hp=>?_)
 ·obtain⟨_,bs,rfl,h,_⟩:=z;exact aw (by rw[zF];lia)
 ·obtain⟨S7,bs,rfl,lb,ib⟩:=hz;have hi:i<(dnK dn).length:=(zL.mp hv).1;obtain⟨x,ex,rfl⟩:=vA hv;have hxl:=hx x ((md x).mp (zS ex));refine⟨_,rfl,_,rfl,W0,ws,x,rfl,S7 _ _ gW6,hw,hxl,fun B zs2 H8 S8 gB lz mz=>⟨B,rfl,⟨_,SqL.of gB⟩,?_⟩⟩;have e2:=aK zs2;have S78:=S7.trans S8;refine uy (K:=K) (a:=B) (xs:=au zs2) (fun j σ ys H'=>H'=H8/\(∃e1,σ=[some (.str (txt x)),e1,some (.ref W0),some (.ref D0)])/\∃bs',ys=bs'.map V.bl/\bs'.length<=16*i+j/\(bs'.all id=true↔bs.all id=true/\∀z∈zs2.take j,z∈dn)) ⟨rfl,⟨_,rfl⟩,bs,rfl,by lia,⟨fun h=>⟨h,fun z h=>absurd h (by simp)⟩,fun h=>h.1⟩⟩ (fun j σ ys H' hj z=>?_) (fun j σ ys H' hj z=>by rw[z.1];exact SqL.of gB) (fun j σ ys H' v hv z=>?_) (fun σ ys H' z=>?_)
  ·obtain⟨_,_,bs',rfl,h,_⟩:=z;exact zP (show(bs'.map V.bl).length<1000000 by rw[zF];lia) (aw (zE _))
  ·obtain⟨rfl,⟨e1,rfl⟩,bs',rfl,lb',ib'⟩:=z;have hj:j<(au zs2).length:=(zL.mp hv).1;obtain⟨y,ey,rfl⟩:=cg hv;refine⟨_,rfl,_,rfl,D0,_,rfl,.inl ⟨_,.inr (txt y),.inr ⟨o,S78 _ _ gD6⟩,rfl,rfl⟩,NxV.mk hj ⟨rfl,⟨_,rfl⟩,bs'++[decide (y∈dn)],?_,by rw[zG];show bs'.length+1<=_;lia,?_⟩⟩
   ·rw[iQ,qA]
   ·rw[qd,Au,ib',decide_eq_true_iff,br ey];constructor
    ·rintro⟨⟨h1,h2⟩,h3⟩;refine⟨h1,fun z hz=>?_⟩;rcases zH.mp hz with hz|hz
     ·exact h2 z hz
     ·rw[zK.mp hz];exact h3
    ·rintro⟨h1,h2⟩;exact⟨⟨h1,fun z hz=>h2 z (Ad _ hz)⟩,h2 y (zI _ (zK.mpr rfl))⟩
  ·obtain⟨rfl,_,bs',rfl,lb',ib'⟩:=z;rw[e2,Ap] at ib';refine Nx.mk hi ⟨S78,bs',rfl,by lia,?_⟩;rw[ib',ib,br ex];constructor
   ·rintro⟨h1,h2⟩ y hy z hz;rcases zH.mp hy with hy|hy
    ·exact h1 y hy z hz
    ·rw[zK.mp hy] at hz;exact h2 z ((mz z).mpr hz)
   ·intro h;exact⟨fun y hy=>h y (Ad _ hy),fun z hz=>h x (zI _ (zK.mpr rfl)) z ((mz z).mp hz)⟩
 obtain⟨S7,bs,rfl,lb,ib⟩:=z;rw[ek,Ap] at ib;refine⟨p,bs,rfl,SqL.of ae,q _ _ (SD.trans (S7.trans (ag hp _))) ?_⟩;rw[ib];constructor
 ·intro h;exact⟨h0,hlr,hf,fun x hx' z hz=>(md z).mp (h x ((md x).mpr hx') z hz)⟩
 ·intro h x hx' z hz;exact(md z).mpr (h.nxt x ((md x).mp hx') z hz)
end
end K3
namespace L2
open PySem PySem.Spec PyProof.Rows
open PySem.AutoSeq1 (wpAny_loadPart')
open PySem.MeetsSeq PySem.SeqAt
theorem sQ(l:Addr)(its:Array Value)(n:Nat)(x:Value)(e:Value->Bool)(j:Nat)(hj:j<its.size)(hit:e its[j]=true)(hz:its.size<=sizeLine)(c:Nat) :
  ∀i:Nat,j-i=c->i<=j->(∀m (h:m<its.size),i<=m->m<j->e its[m]=false) ->
   Meets (Builtin.«list.remove.loop» ⟨[.ref l,x,rawInt i],[]⟩) (fun A R s=>s.heap.get? l=some { cls:=.type "list",dict:=none,data:=.seq its n,slots:=#[] } /\
    (∀y,y∈its->EqAt A.in1 s y x (e y))/\R (.ok (.ret .none)) { s with heap:=s.heap.update l (Obj.mapSeq fun xs=>xs.eraseIdxIfInBounds j) }):=by
 induction c with
 |zero=>
  intro i hc hi no P w A R s hs;obtain⟨hp,g,d,tk,os⟩:=s;obtain⟨at1,eq1,fin1⟩:=hs;obtain rfl:i=j:=by lia
  wp_walk using wpAny_loadPart' at1
  rw[show its[((i:Nat):Int).toNat]?=some its[i] by simp[hj]];refine CT (eq1 _ (Array.getElem_mem hj) P w _ _ ?_);rw[hit];have z2:(its.eraseIdxIfInBounds i).size<=sizeLine+1:=zO (size_erased its _) (AS hz)
  wp_walk using(wpAny_updateSeq at1 rfl (hz:=hz) (_hz':=z2)),wpAny_loadPart' at1
  simpa using fin1
 |succ c ih=>
  intro i hc hi no P w A R s hs;obtain⟨hp,g,d,tk,os⟩:=s;obtain⟨at1,eq1,fin1⟩:=hs;have lt:i<its.size:=by lia
  wp_walk using wpAny_loadPart' at1
  rw[show its[((i:Nat):Int).toNat]?=some its[i] by simp[lt]];refine CT (eq1 _ (Array.getElem_mem lt) P w _ _ ?_);rw[no i lt (zE _) (by lia)]
  wp_walk
  rw[show((i:Int)+1)=((i+1:Nat):Int) by push_cast;rfl];refine⟨plainId_quiet plain_remove_loop _,codeAny_builtin entry_remove_loop ?_⟩;rw[Around.under_plainId plain_remove_loop _];exact ih (i+1) (by lia) (by lia) (fun m h h1 h2=>no m h (by lia) h2) P w A R _ ⟨at1,eq1,fin1⟩
theorem rX(l:Addr)(its:Array Value)(n:Nat)(x:Value)(e:Value->Bool)(j:Nat)(hj:j<its.size)(hit:e its[j]=true)(no:∀m (h:m<its.size),m<j->e its[m]=false)(hz:its.size<=sizeLine) :
  Meets (Builtin.«list.remove» ⟨[.ref l,x],[]⟩) (fun A R s=>s.heap.get? l=some { cls:=.type "list",dict:=none,data:=.seq its n,slots:=#[] } /\
    (∀y,y∈its->EqAt A.in1 s y x (e y))/\R (.ok (.ret .none)) { s with heap:=s.heap.update l (Obj.mapSeq fun xs=>xs.eraseIdxIfInBounds j) }):=by
 intro P w A R s hs;obtain⟨hp,g,d,tk,os⟩:=s;obtain⟨at1,eq1,fin1⟩:=hs
 wp_walk using wpAny_loadPart' at1
 refine⟨plainId_quiet plain_remove_loop _,codeAny_builtin entry_remove_loop ?_⟩;rw[Around.under_plainId plain_remove_loop _];exact sQ l its n x e j hj hit hz _ 0 rfl (zX _) (fun m h _ h2=>no m h h2) P w A R _ ⟨at1,eq1,fin1⟩
section
variable {X:Cx}{pins:List (Addr×Obj)}{σ:St}{H:Hp}{s:Shared}
theorem fX{K:W.Frag}:∀{xs:List V}{ds:List PyData},DatAll K H xs ds->xs.length=ds.length
 |_,_,.nil=>rfl
 |_,_,.cons _ r=>by rw[Ah,Ah,fX r]
theorem iW{K:W.Frag}:∀{xs:List V}{ds:List PyData}{i:Nat}{x:V}{d:PyData},DatAll K H xs ds->xs[i]?=some x->ds[i]?=some d->EF K H x d
 |_,_,i,x,d,.nil,h,_=>by cases h
 |_,_,0,x,d,.cons a _,h,k=>by cases h;cases k;exact a
 |_,_,i+1,x,d,.cons _ r,h,k=>iW (i:=i) r h k
def sL (K:W.Frag):V->List V->Hp->VK->Prop:=fun x vs H Q=>∃l y xs ds d j dj,x=.ref l/\vs=[y]/\H l=some (.lst xs)/\DatAll K H xs ds/\EF K H y d/\PyData.canLayAll0 ds=true/\d.canLay0=true/\d.depth<=60 /\
 ds[j]?=some dj/\PyData.eqv dj d=true/\(∀(m:Nat) dm,m<j->ds[m]?=some dm->PyData.eqv dm d=false)/\Q .non (upd H l (.lst (xs.eraseIdx j)))
theorem Fw:∀{ds:List PyData}{i:Nat}{d:PyData},PyData.canLayAll0 ds=true->ds[i]?=some d->d.canLay0=true
 |[],i,d,_,h=>by cases h
 |a::r,0,d,l,h=>by cases h;exact(BM.mp l).1
 |a::r,i+1,d,l,h=>Fw (i:=i) (BM.mp l).2 h
theorem nJ(hu:X.A.units+64<cLine):MtM X "list.remove" (sL X.K):=by
 intro pins s σ H x vs v us Q I rx rv h;obtain⟨l,y,xs,ds,d,j,dj,rfl,rfl,hH,hD,hy,lD,ly,dep,hj,hit,no,q⟩:=h;cases rx;obtain⟨u,rfl,ru⟩:=rv.one;obtain⟨z,its,n,r,hl,e⟩:=I.Hz hH;obtain⟨bs,rb⟩:=I.reads hy ru;have ln:=fX hD;have rdAt:∀(m:Nat)(h:m<its.length),∃dm as,ds[m]?=some dm/\Reads s.heap its[m] dm as:=fun m h=>by
  have h1:xs[m]?=some xs[m]:=zN (by lia);have h2:ds[m]?=some ds[m]:=zN (by lia);obtain⟨w',hw,rw'⟩:=r.get h1;obtain⟨as,ra⟩:=I.reads (iW hD h1 h2) rw';rw[zN h] at hw;cases hw;exact⟨_,as,h2,ra⟩
 classical
 let ev:Value->Bool:=fun w'=>if k:∃d':PyData,d'.canLay0=true/\∃as,Reads s.heap w' d' as then PyData.eqv k.choose d else false
 have evAt:∀(w':Value)(d':PyData)(as:List Addr),d'.canLay0=true->Reads s.heap w' d' as->ev w'=PyData.eqv d' d:=fun w' d' as c rr=>by
  have k:∃d':PyData,d'.canLay0=true/\∃as,Reads s.heap w' d' as:=⟨d',c,as,rr⟩
  show(if k:_ then _ else _)=_;rw[dif_pos k];obtain⟨as',rr'⟩:=k.choose_spec.2;rw[Reads.unique _ _ _ _ _ k.choose_spec.1 rr' rr]
 have jl:j<its.length:=by have:=(zL.mp hj).1;lia
 refine call_meets PySem.F.slot_list_remove ⟨_,e,rfl⟩ PySem.F.entry_list_remove (PySem.F.args_list_remove_2 _ _) (rX l its.toArray n u ev j (by simpa using jl) ?_ ?_ (by simp;lia)) ⟨e,fun w' hw=>?_,?_⟩
 ·obtain⟨dm,as,h2,ra⟩:=rdAt j jl;rw[hj] at h2;cases h2;show ev its[j]=true;rw[evAt _ _ _ (Fw lD hj) ra];exact hit
 ·intro m hm mj;have hm':m<its.length:=by simpa using hm
  obtain⟨dm,as,h2,ra⟩:=rdAt m hm';show ev its[m]=false;rw[evAt _ _ _ (Fw lD h2) ra];exact no m dm mj h2
 ·obtain⟨m,hm,rfl⟩:=AO.mp (show w'∈its by simpa using hw);obtain⟨dm,as,h2,ra⟩:=rdAt m hm;rw[evAt _ _ _ (Fw lD h2) ra];refine eqAt_reads dm d _ s its[m] u as bs ra rb (Fw lD h2) ly ?_;have:=Cm dm.depth d.depth;show X.A.units+1+_<_;lia
 ·refine⟨.non,_,I.JI (its':=its.eraseIdx j) hH e (by simp[jl]) ?_ ?_,rfl,q⟩
  ·exact r.eraseIdx j
  ·have:=List.length_eraseIdx_le xs j;lia
end
end L2
namespace L2
open PySem PySem.Spec PyProof.Rows SeqAt
open PySem.AutoSeq1 (wpAny_loadPart')
open PySem.MeetsSeq PySem.MeetsSeq2 PySem.MeetsSeq3
def lH (a c:Int)(x y:Str):Bool:=if a=c then decide (x.cps.toList<y.cps.toList) else decide (a<c)
theorem jO(p q:Addr)(a c:Int)(x y:Str)(t u tx ty:Tok)(n n2:Nat)(dd dd2:Option Addr)(sl sl2:Array (Option Value)) :
  Meets (Builtin.«tuple.__lt__» ⟨[.ref p,.ref q],[]⟩)
   (fun A R s=>s.heap.get? p=some { cls:=.type "tuple",dict:=dd,data:=.seq #[.int a t,.str x tx] n,slots:=sl }/\s.heap.get? q=some { cls:=.type "tuple",dict:=dd2,data:=.seq #[.int c u,.str y ty] n2,slots:=sl2 } /\
    R (.ok (.ret (.bool (lH a c x y)))) s) :=
 .of_wp fun prog w A R s h=>by
  obtain⟨hp,g,d,tk,os⟩:=s;obtain⟨hl,hb,h⟩:=h;have f2:=AutoSeq1.sub_tuple_tuple;obtain⟨e,he,hiff⟩:=HT.HN A.in1 ⟨hp,g,d,tk,os⟩ a t c u;have hri:=HT.Gv A.in1 ⟨hp,g,d,tk,os⟩ a t c u prog w;have hE:=EqAt.str_str (A:=A.in1) (s:=⟨hp,g,d,tk,os⟩) x tx y ty;have hrs:∀(Q:Value->Shared->Prop)(E:Value->Shared->Prop),Q (.bool (decide (x.cps.toList<y.cps.toList))) ⟨hp,g,d,tk,os⟩->wpAny (model prog w) A.in1 (richCompare .Lt (.str x tx) (.str y ty)) Q E ⟨hp,g,d,tk,os⟩:=fun Q E hQ=>
   richCompare_gives (op:=.Lt) (typeIs_str _ x tx) (typeIs_str _ y ty) PySem.F.slot_str_lt PySem.F.entry_str_lt (PySem.F.args_str_lt_2 _ _) (gives_str_lt x y tx ty) (fun e=>nomatch e) hQ
  wp_walk using wpAny_loadPart' hl,wpAny_loadPart' hb,wpAny_forIn_list _ (fun rest b' s'=>b'.1=none/\s'=⟨hp,g,d,tk,os⟩/\(rest=[(.int a t,.int c u),(.str x tx,.str y ty)]\/(a=c/\rest=[(.str x tx,.str y ty)])\/(a=c/\x=y/\rest=[]))) _
  case turn=>
   rintro⟨y',x'⟩ rest b' s' ⟨hb',rfl,hcase⟩;rcases hcase with hc|⟨hac,hc⟩|⟨_,_,hc⟩
   ·injection hc with h1 h2;injection h1 with h1 h3;subst h1 h3 h2;refine CT (he prog w _ _ ?_);cases e with
    |true=>
     wp_walk
     exact⟨rfl,rfl,.inr (.inl ⟨hiff.mp rfl,rfl⟩)⟩
    |false=>
     have hne:¬a=c:=fun q=>absurd (hiff.mpr q) Ag
     wp_walk using hri
     refine⟨_,rfl,?_⟩;have e1:lH a c x y=decide (a<c):=by unfold lH;rw[CY hne]
     rw[e1] at h;simpa using h
   ·injection hc with h1 h2;injection h1 with h1 h3;subst h1 h3 h2;have e1:lH a c x y=decide (x.cps.toList<y.cps.toList):=by unfold lH;rw[CZ hac]
    rw[e1] at h;refine CT (hE prog w _ _ ?_);by_cases hm:x=y
    ·rw[show(x==y)=true from DH.mpr hm]
     wp_walk
     exact⟨rfl,rfl,.inr (.inr ⟨hac,hm,rfl⟩)⟩
    ·rw[show(x==y)=false from beq_eq_false_iff_ne.mpr hm]
     wp_walk using hrs
     exact⟨_,rfl,by simpa using h⟩
   ·cases hc
  case fin=>
   rintro⟨b1,b2⟩ s' ⟨hb',rfl,hcase⟩;simp only at hb';subst hb';rcases hcase with hc|⟨_,hc⟩|⟨hac,hm,_⟩
   ·cases hc
   ·cases hc
   ·have e1:lH a c x y=false:=by unfold lH;rw[CZ hac,hm];exact Dd (List.lt_irrefl _)
    rw[e1] at h
    wp_walk
    exact⟨_,rfl,by simpa [Builtin.Tuple.tupleCompareSizes] using h⟩
  case h=>
   exact⟨rfl,rfl,.inl rfl⟩
theorem sU{prog:Program}{w:World}{A:Around}{E:Value->Shared->Prop}{s:Shared}{p q:Addr}{a c:Int}{x y:Str}{t u tx ty:Tok}{Q:Value->Shared->Prop}
  (hp:IsTup s.heap p #[.int a t,.str x tx])(hq:IsTup s.heap q #[.int c u,.str y ty])(hu:A.units<cLine)(h:Q (.bool (lH a c x y)) s):wpAny (model prog w) A (richCompare .Lt (.ref p) (.ref q)) Q E s:=by
 obtain⟨⟨cls,dd,data,sl⟩,ho,hc,n,hd⟩:=id hp;obtain⟨⟨cls2,dd2,data2,sl2⟩,ho2,hc2,n2,hd2⟩:=id hq;simp only at hc hd hc2 hd2;subst hc hd hc2 hd2;exact richCompare_meets_room (op:=.Lt) ⟨_,ho,rfl⟩ ⟨_,ho2,rfl⟩ PySem.F.slot_tuple_lt PySem.F.entry_tuple_lt (PySem.F.args_tuple_lt_2 _ _) (jO p q a c x y t u tx ty n n2 dd dd2 sl sl2)
  ⟨ho,ho2,show Value.bool (lH a c x y)≠Value.notImplemented/\Q (.bool (lH a c x y)) s from⟨(fun x=>nomatch x),h⟩⟩ hu
theorem qT{a:Int}{x:Str}{us:List Value}(h:Vals [.int a,.str x] us):∃t u,us=[.int a t,.str x u]:=by
 cases h with
 |cons r1 h=>
 cases h with
 |cons r2 h=>
 cases h;obtain⟨t,rfl⟩:=r1;obtain⟨u,rfl⟩:=r2;exact⟨t,u,rfl⟩
section
variable {X:Cx}{pins:List (Addr×Obj)}{σ:St}{H:Hp}
theorem mT{l IT S:Addr}{m:Addr->Int}{z:Addr->Str}{ks:List Addr}(hl:H l=some (.lst (ks.map V.ref)))(hq:∀k∈ks,H k=some (.tup [.int (m k),.str (z k)]))(hu:X.A.in1.units<cLine)(hc:X.calm=true)
  (hIS:IT≠S)(hlI:l≠IT){R:Result->Shared->Prop} :
  ∀(n j:Nat)(s:Shared)(rb:Addr)(c:Nat),ks.length-j=n->j<=ks.length->Inv X pins σ H s ->
   Eo X pins H IT->Eo X pins H S->s.heap.IsListIter IT l j->s.heap.get? S=some (seqObj "list" #[.ref rb,.ref rb] c)->rb∈ks->(∀i (h:i<ks.length),i<j->m rb<=m ks[i]) ->
   (∀(k:Addr)(s':Shared),k∈ks->(∀k'∈ks,m k<=m k')->Inv X pins σ H s'->R (.ok (.ret (.ref k))) s') ->
   codeAny (model X.prog X.w) X.A (.builtin "min.loop" ⟨[.ref IT,.none,.ref S],[]⟩) R s:=by
 have hname:(toString "min"++toString ".loop":String)="min.loop":=by decide
 intro n;induction n with
 |zero=>
  intro j s rb c hn hj I fI fS hit hS hrb hlo hR;obtain rfl:j=ks.length:=by lia
  obtain⟨_,its,nl,rl,el,gl⟩:=I.Hz hl;have ei:=dP id rl;have W:=Walks.list (prog:=X.prog) (w:=X.w) (A:=X.A.in1) (I.ok.hd hc) IT l hlI its.toArray;have hsz:its.toArray.size=ks.length:=by rw[zY,ei,zF]
  refine codeAny_builtin PySem.F.entry_min_loop ?_;rw[Around.under_plainId PySem.F.plain_min_loop _];show wpAny _ X.A.in1 (seqItems? (.ref S) >>= _) _ _ _;refine CT (wpAny_seqItems hS rfl ?_);show wpAny _ X.A.in1 (tryCatch (pyNext (.ref IT)) _ >>= _) _ _ _;refine CT (wpAny_tryCatch (W.done _ _ _ ⟨by rw[hsz];exact hit,⟨_,gl,rfl,_,rfl⟩⟩ fun h' tk' hk'=>?_));have I1:Inv X pins σ H {s with heap:=h',toks:=tk'}:=fI.turn I fun b o hb e=>hk' b o (by simpa using hb) e;have hS':=hk' S _ (by simpa using Dv hIS) hS;have s1:=Heap.SameBut.update h' S (Obj.mapSeq fun _=>(#[]:Array Value));show wpAny _ X.A.in1 (updateSeq S (fun _=>#[]) >>= _) _ _ _;refine CT ?_;refine wpAny_updateSeq hS' rfl (CT (wpAny_letGo (CU ?_)));exact hR rb _ hrb (fun k' hk'=>by obtain⟨i,hi,rfl⟩:=AO.mp hk';exact hlo i hi hi) (fS.turn I1 fun b o hb e=>by rw[s1.2 b hb];exact e)
 |succ n ih=>
  intro j s rb c hn hj I fI fS hit hS hrb hlo hR;have hlt:j<ks.length:=by lia
  obtain⟨_,its,nl,rl,el,gl⟩:=I.Hz hl;have ei:=dP id rl;have W:=Walks.list (prog:=X.prog) (w:=X.w) (A:=X.A.in1) (I.ok.hd hc) IT l hlI its.toArray;have hsz:its.toArray.size=ks.length:=by rw[zY,ei,zF]
  refine codeAny_builtin PySem.F.entry_min_loop ?_;rw[Around.under_plainId PySem.F.plain_min_loop _];show wpAny _ X.A.in1 (seqItems? (.ref S) >>= _) _ _ _;refine CT (wpAny_seqItems hS rfl ?_);show wpAny _ X.A.in1 (tryCatch (pyNext (.ref IT)) _ >>= _) _ _ _;refine CT (wpAny_tryCatch (W.item j _ _ _ (by rw[hsz];exact hlt) ⟨hit,⟨_,gl,rfl,_,rfl⟩⟩ fun v h' tk' hP hst' hk'=>?_));have hv:v=.ref ks[j]:=by
   rw[AZ,ei,zW,zN hlt] at hP;exact(Di hP).symm
  subst hv;have hmem:ks[j]∈ks:=An hlt;obtain⟨oI,hoI,hoc,hod⟩:=id hst'.1;have I1:Inv X pins σ H {s with heap:=h',toks:=tk'}:=fI.turn I fun b o hb e=>hk' b o (by simpa using hb) e;have hS':=hk' S _ (by simpa using Dv hIS) hS;have gI2:h'.get? IT=some oI:=hoI;have gS2:=hS';have I3:=I1;obtain⟨its1,rv1,pt1,_⟩:=I1.tuple (SqT.of (hq _ hmem));obtain⟨its2,rv2,pt2,_⟩:=I1.tuple (SqT.of (hq _ hrb));obtain⟨t1,u1,rfl⟩:∃t1 u1,its1=[.int (m ks[j]) t1,.str (z ks[j]) u1]:=qT rv1;obtain⟨t2,u2,rfl⟩:∃t2 u2,its2=[.int (m rb) t2,.str (z rb) u2]:=qT rv2;show wpAny _ X.A.in1 (pure _ >>= _) _ _ _;refine CT (CU ?_);show wpAny _ X.A.in1 (tryCatch (holding [_,.ref ks[j]] (richCompare .Lt (.ref ks[j]) (.ref rb) >>= _)) _ >>= _) _ _ _;refine CT (wpAny_tryCatch (Df (CT (sU pt1 pt2 hu ?_))));refine CT (Df (wpAny_truthy_bool ?_));refine CT (wpAny_letGo (CU ?_));cases hb':lH (m ks[j]) (m rb) (z ks[j]) (z rb) with
  |true=>
   have hle:m ks[j]<=m rb:=by
    unfold lH at hb';split at hb'
    ·exact Int.le_of_eq (by assumption)
    ·exact Int.le_of_lt (Dg hb')
   have s1:=Heap.SameBut.update h' S (Obj.mapSeq fun _=>#[.ref ks[j],.ref ks[j]]);obtain⟨c2,hc2⟩:∃c2,(h'.update S (Obj.mapSeq fun _=>#[.ref ks[j],.ref ks[j]])).get? S=some (seqObj "list" #[.ref ks[j],.ref ks[j]] c2):=⟨_,get?_update_seq gS2 fun _=>#[.ref ks[j],.ref ks[j]]⟩
   simp only[if_true];refine CT ?_;refine wpAny_updateSeq gS2 rfl (CT (wpAny_letGo ?_));rw[hname];refine CU ⟨plainId_quiet PySem.F.plain_min_loop _,ih (j+1) _ _ c2 (by lia) hlt (fS.turn (t':=tk') I3 fun b o hb e=>by rw[s1.2 b hb];exact e) fI fS ⟨oI,(s1.2 IT hIS).trans gI2,hoc,hod⟩ hc2 hmem (fun i h hi=>?_) hR⟩;by_cases c:i=j
   ·subst c;exact Bw _
   ·exact Int.le_trans hle (hlo i h (by lia))
  |false=>
   have hle:m rb<=m ks[j]:=by
    unfold lH at hb';split at hb'
    ·exact Int.le_of_eq (Eq.symm (by assumption))
    ·exact Int.not_lt.mp (of_decide_eq_false hb')
   simp only[AW,if_false];refine CT (wpAny_letGo ?_);rw[hname];refine CU ⟨plainId_quiet PySem.F.plain_min_loop _,ih (j+1) _ rb c (by lia) hlt I3 fI fS ⟨oI,gI2,hoc,hod⟩ gS2 hrb (fun i h hi=>?_) hR⟩;by_cases c:i=j
   ·subst c;exact hle
   ·exact hlo i h (by lia)
end
def JO:List V->Hp->VK->Prop:=fun xs H Q=>∃(l:Addr)(ks:List Addr)(m:Addr->Int)(z:Addr->Str),xs=[.ref l]/\H l=some (.lst (ks.map V.ref))/\ks≠[]/\(∀k∈ks,H k=some (.tup [.int (m k),.str (z k)]))/\∀k,k∈ks->(∀k'∈ks,m k<=m k')->Q (.ref k) H
theorem ml{X:Cx}(hc:X.calm=true)(hu:X.A.in1.units<cLine):cb X (.builtin "min") JO:=by
 intro pins s σ H xs us Q I r h;obtain⟨l,ks,m,z,rfl,hl,hne,hK,h1⟩:=h;obtain⟨u,rfl,rx⟩:=dB r;cases rx;have hname:(toString "min"++toString ".loop":String)="min.loop":=by decide
 obtain⟨_,its,nl,rl,el,gl⟩:=I.Hz hl;have ei:=dP id rl;have hll:l<s.heap.objs.size:=Dh gl;have hls:s.heap.IsList l its.toArray:=⟨_,gl,rfl,_,rfl⟩
 refine call_function_tree PySem.F.kind_min PySem.F.plain_min PySem.F.entry_min (PySem.F.args_min1 _) ?_;show wpAny _ X.A.in1 (Builtin.Builtins.bindParams "min" ["key","default"] 0 ⟨[],[]⟩ >>= _) _ _ s;refine CT (wpAny_of_eq (show Builtin.Builtins.bindParams "min" ["key","default"] 0 ⟨[],[]⟩=pure [none,none] from rfl) ?_);refine CT (CU ?_);refine CT (wpAny_pyIter_list hls ?_);refine CT (wpAny_newList ?_ (zX _));rw[hname];have hS:(s.heap.push {cls:=.type "list_iterator",data:=.fields #[.ref l,.int 0 0]}).objs.size=s.heap.objs.size+1:=size_push' ..;have hlI:l≠s.heap.objs.size:=zJ hll;have hIS:s.heap.objs.size≠(s.heap.push {cls:=.type "list_iterator",data:=.fields #[.ref l,.int 0 0]}).objs.size:=by rw[hS];exact zJ (Av _)
 refine CU ⟨plainId_quiet PySem.F.plain_min_loop _,?_⟩;have K0:∀b o,s.heap.get? b=some o->((s.heap.push {cls:=.type "list_iterator",data:=.fields #[.ref l,.int 0 0]}).push (seqObj "list" #[] 0)).get? b=some o:=fun b x e=>Dw _ (Dw _ e);have gI:((s.heap.push {cls:=.type "list_iterator",data:=.fields #[.ref l,.int 0 0]}).push (seqObj "list" #[] 0)).get? s.heap.objs.size=some {cls:=.type "list_iterator",data:=.fields #[.ref l,.int 0 0]}:=
  Dw _ (Dx _ rfl)
 have gS:((s.heap.push {cls:=.type "list_iterator",data:=.fields #[.ref l,.int 0 0]}).push (seqObj "list" #[] 0)).get? (s.heap.push {cls:=.type "list_iterator",data:=.fields #[.ref l,.int 0 0]}).objs.size=some (seqObj "list" #[] 0):=Dx _ rfl;have fI:Eo X pins H s.heap.objs.size:=I.GV _ (zE _);have fS:Eo X pins H (s.heap.push {cls:=.type "list_iterator",data:=.fields #[.ref l,.int 0 0]}).objs.size:=I.GV _ (by rw[hS];exact AA _);have I0:Inv X pins σ H {s with heap:=(s.heap.push {cls:=.type "list_iterator",data:=.fields #[.ref l,.int 0 0]}).push (seqObj "list" #[] 0)}:=I.kept (t':=s.toks) K0;generalize (s.heap.push {cls:=.type "list_iterator",data:=.fields #[.ref l,.int 0 0]}).objs.size=S at *;generalize (s.heap.push {cls:=.type "list_iterator",data:=.fields #[.ref l,.int 0 0]}).push (seqObj "list" #[] 0)=hh at *;have W:=Walks.list (prog:=X.prog) (w:=X.w) (A:=X.A.in1) (I.ok.hd hc) s.heap.objs.size l hlI its.toArray;have hsz:its.toArray.size=ks.length:=by rw[zY,ei,zF]
 have hlH:hh.IsList l its.toArray:=⟨_,K0 _ _ gl,rfl,_,rfl⟩
 refine codeAny_builtin PySem.F.entry_min_loop ?_;rw[Around.under_plainId PySem.F.plain_min_loop _];show wpAny _ X.A.in1 (seqItems? (.ref _) >>= _) _ _ _;refine CT (wpAny_seqItems gS rfl ?_);show wpAny _ X.A.in1 (tryCatch (pyNext (.ref s.heap.objs.size)) _ >>= _) _ _ _;have hlt:0<ks.length:=List.length_pos_iff.mpr hne;refine CT (wpAny_tryCatch (W.item 0 _ _ _ (by rw[hsz];exact hlt) ⟨⟨_,gI,rfl,rfl⟩,hlH⟩ fun v h' tk' hP hst' hk'=>?_));have hv:v=.ref ks[0]:=by
  rw[AZ,ei,zW,zN hlt] at hP;exact(Di hP).symm
 subst hv;have hmem:ks[0]∈ks:=An hlt;obtain⟨oI,hoI,hoc,hod⟩:=id hst'.1;have I1:Inv X pins σ H {s with heap:=h',toks:=tk'}:=fI.turn (s:={s with heap:=hh}) I0 fun b o hb e=>hk' b o (by simpa using hb) e;have hS':=hk' S _ (by simpa using Dv hIS) gS;show wpAny _ X.A.in1 (pure _ >>= _) _ _ _;refine CT (CU ?_);have gI2:=hoI;have gS2:=hS';have I3:=I1;have s1:=Heap.SameBut.update h' S (Obj.mapSeq fun _=>#[.ref ks[0],.ref ks[0]]);obtain⟨c2,hc2⟩:∃c2,(h'.update S (Obj.mapSeq fun _=>#[.ref ks[0],.ref ks[0]])).get? S=some (seqObj "list" #[.ref ks[0],.ref ks[0]] c2):=⟨_,get?_update_seq gS2 fun _=>#[.ref ks[0],.ref ks[0]]⟩
 show wpAny _ X.A.in1 (updateSeq S (fun _=>#[.ref ks[0],.ref ks[0]]) >>= _) _ _ _;refine CT ?_;refine wpAny_updateSeq gS2 rfl ?_;rw[hname];exact CU ⟨plainId_quiet PySem.F.plain_min_loop _,mT (pins:=pins) (σ:=σ) hl hK hu hc hIS hlI _ 1 _ _ c2 rfl hlt (fS.turn (t':=tk') I3 fun b o hb e=>by rw[s1.2 b hb];exact e) fI fS ⟨oI,(s1.2 _ hIS).trans gI2,hoc,hod⟩ hc2 hmem (fun i h hi=>by obtain rfl:i=0:=(by lia);exact Bw _) fun k s' a1 a2 a3=>⟨.ref k,_,a3,rfl,h1 k a1 a2⟩⟩
end L2
namespace KM
inductive Rch(ws:List (List Nat)):List Nat->Nat->Prop
 |first {i j:Nat}{x:List Nat}:i<ws.length->j<ws.length->i≠j->ws.getD i []=ws.getD j []++x->Rch ws x (ws.getD i []).length
 |within {x y:List Nat}{m k:Nat}:Rch ws x m->x≠[]->k<ws.length->x=ws.getD k []++y->Rch ws y m
 |beyond {x y:List Nat}{m k:Nat}:Rch ws x m->x≠[]->k<ws.length->ws.getD k []=x++y->Rch ws y (m+y.length)
def En(ws:List (List Nat))(m:Nat):Prop:=Rch ws [] m/\∀n,Rch ws [] n->m<=n
theorem Rch.on{ws:List (List Nat)}:∀(k:Nat)(s t x:List Nat)(m:Nat),s.length+t.length<=k->(∀i∈s,i<ws.length)->(∀i∈t,i<ws.length)->Rch ws x m->x++bq ws s=bq ws t->∃n,Rch ws [] n/\n<=m+(bq ws s).length:=by
 intro k;induction k with
 |zero=>
  intro s t x m hk hs ht R e;have h1:s=[]:=CL (by lia);have h2:t=[]:=CL (by lia);subst h1 h2;have hx:x=[]:=by simpa [bq] using e
  subst hx;exact⟨m,R,by lia⟩
 |succ k ih=>
  intro s t x m hk hs ht R e;by_cases hx:x=[]
  ·subst hx;exact⟨m,R,by lia⟩
  ·cases t with
   |nil=>
    have:x=[]:=by
     have:x++bq ws s=[]:=e;exact(CM.mp this).1
    exact absurd this hx
   |cons j t=>
    have hj:=ht j zQ;have ht':∀i∈t,i<ws.length:=fun i hi=>ht i (Ac _ hi);rw[aY] at e;rw[Ah] at hk;rcases Gb e with ⟨y,e1,e2⟩|⟨y,e1,e2⟩
    ·obtain⟨n,h1,h2⟩:=ih s t y m (by lia) hs ht' (.within R hx hj e1) e2;exact⟨n,h1,h2⟩
    ·obtain⟨n,h1,h2⟩:=ih t s y (m+y.length) (by lia) ht' hs (.beyond R hx hj e1) e2.symm;refine⟨n,h1,?_⟩;rw[e2,zG];lia
theorem iD{ws:List (List Nat)}{i j:Nat}{s t:List Nat}(hs:∀k∈i::s,k<ws.length)(ht:∀k∈j::t,k<ws.length)(n:i≠j)(e:bq ws (i::s)=bq ws (j::t)):∃m,Rch ws [] m/\m<=(bq ws (i::s)).length:=by
 have hi:=hs i zQ;have hj:=ht j zQ;have hs':∀k∈s,k<ws.length:=fun k hk=>hs k (Ac _ hk);have ht':∀k∈t,k<ws.length:=fun k hk=>ht k (Ac _ hk);have e0:=e;rw[aY,aY] at e;rcases Gb e with ⟨x,e1,e2⟩|⟨x,e1,e2⟩
 ·obtain⟨m,h1,h2⟩:=Rch.on _ s t x _ (zE _) hs' ht' (.first hi hj n e1) e2;exact⟨m,h1,by rw[aY,zG];exact h2⟩
 ·obtain⟨m,h1,h2⟩:=Rch.on _ t s x _ (zE _) ht' hs' (.first hj hi (Dv n) e1) e2.symm;exact⟨m,h1,by rw[e0,aY,zG];exact h2⟩
theorem gE{ws:List (List Nat)}(hne:∀i,i<ws.length->ws.getD i []≠[]):∀{s t:List Nat},(∀k∈s,k<ws.length)->(∀k∈t,k<ws.length)->s≠t->bq ws s=bq ws t->∃m,Rch ws [] m/\m<=(bq ws s).length
 |[],[],_,_,n,_=>absurd rfl n
 |[],j::t,_,ht,_,e=>by
  rw[aY] at e;exact absurd (CM.mp e.symm).1 (hne j (ht j zQ))
 |i::s,[],hs,_,_,e=>by
  rw[aY] at e;exact absurd (CM.mp e).1 (hne i (hs i zQ))
 |i::s,j::t,hs,ht,n,e=>by
  by_cases c:i=j
  ·subst c;have e':bq ws s=bq ws t:=by rw[aY,aY] at e;exact Ce e
   obtain⟨m,h1,h2⟩:=gE hne (fun k hk=>hs k (Ac _ hk)) (fun k hk=>ht k (Ac _ hk)) (fun z=>n (by rw[z])) e';exact⟨m,h1,by rw[aY,zG];lia⟩
  ·exact iD hs ht c e
theorem Dij.min{ws:List (List Nat)}{dn:List (List Nat×Nat)}{E:Ent}{f:Fd}(h:Dij ws dn E)(hf:([],f)∈E)(hmin:∀e∈E,f.1<=e.2.1):En ws f.1:=by
 have key:∀x m,Rch ws x m->Has dn E x m\/f.1<=m:=by
  intro x m R;induction R with
  |first h1 h2 h3 h4=>exact .inl (h.first _ _ _ h1 h2 h3 h4)
  |within R hx hk e ih=>
   rcases ih with (⟨p,hp,e1,e2⟩|⟨d,hd,e1,e2⟩)|ih
   ·rcases h.within p hp _ _ hk (by rw[e1];exact e) with ⟨q,hq,a,b⟩|⟨q,hq,a,b⟩
    ·exact .inl (.inl ⟨q,hq,a,by lia⟩)
    ·exact .inl (.inr ⟨q,hq,a,by lia⟩)
   ·exact .inr (zO (hmin d hd) e2)
   ·exact .inr ih
  |beyond R hx hk e ih=>
   rcases ih with (⟨p,hp,e1,e2⟩|⟨d,hd,e1,e2⟩)|ih
   ·rcases h.beyond p hp _ _ hk (by rw[e1];exact e) with ⟨q,hq,a,b⟩|⟨q,hq,a,b⟩
    ·exact .inl (.inl ⟨q,hq,a,by lia⟩)
    ·exact .inl (.inr ⟨q,hq,a,by lia⟩)
   ·exact .inr (zO (zO (hmin d hd) e2) (Bi _ _))
   ·exact .inr (zO ih (Bi _ _))
 have low:∀n,Rch ws [] n->f.1<=n:=fun n R=>by
  rcases key _ _ R with (⟨p,hp,e1,_⟩|⟨d,hd,_,e2⟩)|z
  ·exact absurd e1 (h.nil p hp).1
  ·exact zO (hmin d hd) e2
  ·exact z
 obtain⟨T,_⟩:=h.wt.trk _ hf;obtain⟨i,j,s,t,e1,e2,n⟩:=T.ne;have ee:=T.eq;have ha:=T.a;have hb:=T.b;have hl:=T.len;have hl':=hl;rw[e1] at ha ee;rw[e1] at hl';rw[e2,AD] at ee;rw[e2] at hb;obtain⟨m,h1,h2⟩:=iD ha hb n ee;have:=low m h1;have:m=f.1:=by rw[hl'] at *;lia
 exact⟨this▸h1,low⟩
theorem Dij.none{ws:List (List Nat)}{dn:List (List Nat×Nat)}(h:Dij ws dn []):∀m,¬Rch ws [] m:=by
 have key:∀x m,Rch ws x m->∃p∈dn,p.1=x:=by
  have C:=h.closed;intro x m R;induction R with
  |first h1 h2 h3 h4=>exact C.first _ _ _ h1 h2 h3 h4
  |within R hx hk e ih=>exact C.within _ _ _ hk ih e
  |beyond R hx hk e ih=>exact C.beyond _ _ _ hk ih e
 intro m R;obtain⟨p,hp,e⟩:=key _ _ R;exact(h.nil p hp).1 e
def Hs (B:List (List Nat×Nat))(W:List (Nat×List Nat))(x:List Nat)(m:Nat):Prop:=(∃p∈B,p.1=x/\p.2<=m)\/∃e∈W,e.2=x/\e.1<=m
structure Sht(ws:List (List Nat))(B:List (List Nat×Nat))(W:List (Nat×List Nat)):Prop where
 nd:(B.map (·.1)).Nodup
 bn:∀p∈B,p.1≠[]/\Sfx ws p.1
 wr:∀e∈W,Rch ws e.2 e.1/\Sfx ws e.2
 low:∀p∈B,∀e∈W,p.2<=e.1
 first:∀i j x,i<ws.length->j<ws.length->i≠j->ws.getD i []=ws.getD j []++x->Hs B W x (ws.getD i []).length
 within:∀p∈B,∀k y,k<ws.length->p.1=ws.getD k []++y->Hs B W y p.2
 beyond:∀p∈B,∀k y,k<ws.length->ws.getD k []=p.1++y->Hs B W y (p.2+y.length)
variable {ws:List (List Nat)}{B:List (List Nat×Nat)}{W V Z:List (Nat×List Nat)}{m:Nat}{x:List Nat}
theorem aN{i:Nat}(h:i<ws.length):ws.getD i []∈ws:=by
 rw[Ae,zN h];exact An h
theorem Sht.start(h1:∀e∈W,∃i j,i<ws.length/\j<ws.length/\i≠j/\ws.getD i []=ws.getD j []++e.2/\e.1=(ws.getD i []).length)
  (h2:∀i j x,i<ws.length->j<ws.length->i≠j->ws.getD i []=ws.getD j []++x->((ws.getD i []).length,x)∈W):Sht ws [] W:=by
 refine⟨.nil,fun p h=>absurd h (by simp),fun e he=>?_,fun p h=>absurd h (by simp),fun i j x a b c d=>.inr ⟨_,h2 i j x a b c d,rfl,zE _⟩,fun p h=>absurd h (by simp),fun p h=>absurd h (by simp)⟩;obtain⟨i,j,a,b,c,d,e1⟩:=h1 e he;exact⟨by rw[e1];exact .first a b c d,_,aN a,_,d⟩
theorem Sht.skip(h:Sht ws B W)(hm:∀e∈W,e=(m,x)\/e∈V)(hV:∀e∈V,e∈W)(hx:(m,x)∈W)(hB:x∈B.map (·.1)):Sht ws B V:=by
 obtain⟨p,hp,e⟩:=zM.mp hB;have up:∀{y n},Hs B W y n->Hs B V y n:=fun {y n} z=>by
  rcases z with z|⟨d,hd,e1,e2⟩
  ·exact .inl z
  ·rcases hm d hd with rfl|hd
   ·exact .inl ⟨p,hp,by rw[e];exact e1,zO (h.low p hp _ hx) e2⟩
   ·exact .inr ⟨d,hd,e1,e2⟩
 exact⟨h.nd,h.bn,fun e he=>h.wr e (hV e he),fun p hp e he=>h.low p hp e (hV e he),fun i j x a b c d=>up (h.first i j x a b c d),fun p hp k y a b=>up (h.within p hp k y a b),fun p hp k y a b=>up (h.beyond p hp k y a b)⟩
theorem Sht.take(h:Sht ws B W)(hm:∀e∈W,e=(m,x)\/e∈V)(hV:∀e∈V,e∈W)(hx:(m,x)∈W)(hmin:∀e∈W,m<=e.1)(hB:x∉B.map (·.1))(hne:x≠[])
  (z1:∀e∈Z,∃k,k<ws.length/\(x=ws.getD k []++e.2/\e.1=m\/ws.getD k []=x++e.2/\e.1=m+e.2.length))
  (z2:∀k y,k<ws.length->x=ws.getD k []++y->(m,y)∈Z)(z3:∀k y,k<ws.length->ws.getD k []=x++y->(m+y.length,y)∈Z):Sht ws (B++[(x,m)]) (V++Z):=by
 obtain⟨R,w0,hw0,y0,ey⟩:=h.wr _ hx;have zm:∀e∈Z,m<=e.1:=fun e he=>by
  obtain⟨k,_,⟨_,a⟩|⟨_,a⟩⟩:=z1 e he<;>lia
 have up:∀{y n},Hs B W y n->Hs (B++[(x,m)]) (V++Z) y n:=fun {y n} z=>by
  rcases z with ⟨p,hp,z⟩|⟨d,hd,e1,e2⟩
  ·exact .inl ⟨p,Ad _ hp,z⟩
  ·rcases hm d hd with rfl|hd
   ·exact .inl ⟨_,zI _ (zK.mpr rfl),e1,e2⟩
   ·exact .inr ⟨d,Ad _ hd,e1,e2⟩
 refine⟨?_,fun p hp=>?_,fun e he=>?_,fun p hp e he=>?_,fun i j x a b c d=>up (h.first i j x a b c d),fun p hp k y a b=>?_,fun p hp k y a b=>?_⟩
 ·rw[zV,BK];refine⟨h.nd,by simp,fun a ha b hb z=>?_⟩;have:b=x:=by simpa using hb
  exact hB (by rw[<- this,<- z];exact ha)
 ·rcases zH.mp hp with hp|hp
  ·exact h.bn p hp
  ·rw[zK.mp hp];exact⟨hne,w0,hw0,y0,ey⟩
 ·rcases zH.mp he with he|he
  ·exact h.wr e (hV e he)
  ·obtain⟨k,hk,⟨a,b⟩|⟨a,b⟩⟩:=z1 e he
   ·refine⟨by rw[b];exact .within R hne hk a,w0,hw0,y0++ws.getD k [],?_⟩;have ey':w0=y0++x:=ey;rw[ey',a,Aj]
   ·exact⟨by rw[b];exact .beyond R hne hk a,_,aN hk,x,a⟩
 ·have le:m<=e.1:=by
   rcases zH.mp he with he|he
   ·exact hmin e (hV e he)
   ·exact zm e he
  rcases zH.mp hp with hp|hp
  ·exact zO (h.low p hp _ hx) le
  ·rw[zK.mp hp];exact le
 ·rcases zH.mp hp with hp|hp
  ·exact up (h.within p hp k y a b)
  ·rw[zK.mp hp] at b ⊢;exact .inr ⟨_,zI _ (z2 k y a b),rfl,zE _⟩
 ·rcases zH.mp hp with hp|hp
  ·exact up (h.beyond p hp k y a b)
  ·rw[zK.mp hp] at b ⊢;exact .inr ⟨_,zI _ (z3 k y a b),rfl,zE _⟩
theorem Sht.least(h:Sht ws B W)(hx:(m,[])∈W)(hmin:∀e∈W,m<=e.1):En ws m:=by
 have key:∀y n,Rch ws y n->Hs B W y n\/m<=n:=by
  intro y n R;induction R with
  |first h1 h2 h3 h4=>exact .inl (h.first _ _ _ h1 h2 h3 h4)
  |within R hx hk e ih=>
   rcases ih with (⟨p,hp,e1,e2⟩|⟨d,hd,e1,e2⟩)|ih
   ·rcases h.within p hp _ _ hk (by rw[e1];exact e) with ⟨q,hq,a,b⟩|⟨q,hq,a,b⟩
    ·exact .inl (.inl ⟨q,hq,a,by lia⟩)
    ·exact .inl (.inr ⟨q,hq,a,by lia⟩)
   ·exact .inr (zO (hmin d hd) e2)
   ·exact .inr ih
  |beyond R hx hk e ih=>
   rcases ih with (⟨p,hp,e1,e2⟩|⟨d,hd,e1,e2⟩)|ih
   ·rcases h.beyond p hp _ _ hk (by rw[e1];exact e) with ⟨q,hq,a,b⟩|⟨q,hq,a,b⟩
    ·exact .inl (.inl ⟨q,hq,a,by lia⟩)
    ·exact .inl (.inr ⟨q,hq,a,by lia⟩)
   ·exact .inr (zO (zO (hmin d hd) e2) (Bi _ _))
   ·exact .inr (zO ih (Bi _ _))
 refine⟨(h.wr _ hx).1,fun n R=>?_⟩;rcases key _ _ R with (⟨p,hp,e1,_⟩|⟨d,hd,_,e2⟩)|z
 ·exact absurd e1 (h.bn p hp).1
 ·exact zO (hmin d hd) e2
 ·exact z
theorem Sht.none(h:Sht ws B []):∀n,¬Rch ws [] n:=by
 have has:∀{y n},Hs B [] y n->∃p∈B,p.1=y:=fun z=>by
  rcases z with ⟨p,hp,e,_⟩|⟨e,he,_⟩
  ·exact⟨p,hp,e⟩
  ·cases he
 have key:∀y n,Rch ws y n->∃p∈B,p.1=y:=by
  intro y n R;induction R with
  |first h1 h2 h3 h4=>exact has (h.first _ _ _ h1 h2 h3 h4)
  |within R hx hk e ih=>obtain⟨p,hp,e1⟩:=ih;exact has (h.within p hp _ _ hk (by rw[e1];exact e))
  |beyond R hx hk e ih=>obtain⟨p,hp,e1⟩:=ih;exact has (h.beyond p hp _ _ hk (by rw[e1];exact e))
 intro n R;obtain⟨p,hp,e⟩:=key _ _ R;exact(h.bn p hp).1 e
theorem Sht.few(h:Sht ws B W)(h8:ws.length<=8)(h40:∀w∈ws,w.length<=40):B.length<=328:=by
 have:=fC h8 h40 h.nd fun x hx=>by
  obtain⟨p,hp,rfl⟩:=zM.mp hx;exact(h.bn p hp).2
 rw[zF] at this;exact this
end KM
namespace K3
open PySem PySem.Spec PyProof.Rows L2
section
variable {P:Program}{w:World}{K:PySem.W.Frag}{mg:Str->Option Value}{base:Heap}
open KM
def Pq (H:Hp)(v:V)(e:Nat×List Nat):Prop:=∃k,v=.ref k/\H k=some (.tup [.int (e.1:Nat),.str (txt e.2)])
theorem Pq.mono{H H':Hp}{v:V}{e:Nat×List Nat}(S:DO H H'):Pq H v e->Pq H' v e:=fun hq97=>by obtain⟨k,a,b⟩:=hq97;exact⟨k,a,S _ _ b⟩
abbrev Pqs(H:Hp)(vs:List V)(ps:List (Nat×List Nat)):Prop:=Paired (Pq H) vs ps
theorem iA{H:Hp}:∀{vs:List V}{ps:List (Nat×List Nat)},Pqs H vs ps->vs.length=ps.length
 |_,_,.nil=>rfl
 |_,_,.cons _ r=>by rw[Ah,Ah,iA r]
theorem Pqs.put{H:Hp}{vs:List V}{ps:List (Nat×List Nat)}{a:Addr}{o u:HO}(ha:H a=some u)(hn:∀xs,u≠.tup xs)(h:Pqs H vs ps):Pqs (upd H a o) vs ps:=
 Paired.EW h fun v e hq98=>by obtain⟨k,e1,e2⟩:=hq98;exact⟨k,e1,by rw[aq (fun z=>by rw[z,ha] at e2;exact hn _ (Di e2))];exact e2⟩
def bdK (B:List (List Nat×Nat)):List (Key×V):=B.map fun p=>(.inr (txt p.1),.int (p.2:Nat))
theorem qP(x:List Nat):∀B:List (List Nat×Nat),(fM (bdK B) (.inr (txt x))).isSome=decide (x∈B.map (·.1))
 |[]=>by rfl
 |y::r=>by
  have ih:=qP x r;show(fM ((.inr (txt y.1),.int (y.2:Nat))::bdK r) (.inr (txt x))).isSome=_;by_cases c:y.1=x
  ·rw[cV (by rw[c]),<- c];simp
  ·rw[cy (fun z=>c (Et.mp z)),ih];refine decide_eq_decide.mpr ⟨fun z=>Ac _ z,fun z=>(zU.mp z).elim (fun q=>absurd q.symm c) id⟩
theorem vk{x:List Nat}{m:Nat}{B:List (List Nat×Nat)}(h:x∉B.map (·.1)):dQ (bdK B) (.inr (txt x)) (.int (m:Nat))=bdK (B++[(x,m)]):=by
 have e:((bdK B).any fun kv=>decide (kv.1=.inr (txt x)))=false:=by
  rw[Ci];intro kv hk;obtain⟨y,hy,rfl⟩:=zM.mp hk;intro z;have:y.1=x:=Et.mp (Dg z);exact h (zM.mpr ⟨y,hy,this⟩)
 unfold dQ;rw[e];show bdK B++[_]=_;unfold bdK;rw[zV];rfl
def JD:V->Addr
 |.ref a=>a
 |_=>0
theorem oy{H:Hp}:∀{vs:List V}{ps:List (Nat×List Nat)},Pqs H vs ps->vs=(vs.map JD).map V.ref
 |_,_,.nil=>rfl
 |_,_,.cons ⟨k,e1,e2⟩ r=>by rw[zZ,zZ,<- oy r,e1];rfl
theorem sA{H:Hp}:∀{vs:List V}{ps:List (Nat×List Nat)}{k:Addr},Pqs H vs ps->k∈vs.map JD->∃e∈ps,H k=some (.tup [.int (e.1:Nat),.str (txt e.2)])
 |_,_,_,.nil,h=>by cases h
 |_,_,_,.cons (b:=e) ⟨k',e1,e2⟩ r,h=>by
  rw[zZ] at h;rcases zU.mp h with h|h
  ·rw[e1] at h;have h':=h;rw[show JD (.ref k')=k' from rfl] at h';exact⟨e,zQ ..,by rw[h'];exact e2⟩
  ·obtain⟨d,hd,e3⟩:=sA r h;exact⟨d,Ac _ hd,e3⟩
theorem tT{H:Hp}:∀{vs:List V}{ps:List (Nat×List Nat)}{e:Nat×List Nat},Pqs H vs ps->e∈ps->∃k∈vs.map JD,H k=some (.tup [.int (e.1:Nat),.str (txt e.2)])
 |_,_,_,.nil,h=>by cases h
 |_,_,e,.cons ⟨k',e1,e2⟩ r,h=>by
  rw[zZ];rcases zU.mp h with h|h
  ·exact⟨k',by rw[e1];exact zQ ..,by rw[h];exact e2⟩
  ·obtain⟨k,hk,e3⟩:=tT r h;exact⟨k,Ac _ hk,e3⟩
def mOf (H:Hp)(k:Addr):Int:=match H k with
 |some (.tup [.int i,_])=>i
 |_=>0
def zOf (H:Hp)(k:Addr):Str:=match H k with
 |some (.tup [_,.str z])=>z
 |_=>⟨#[]⟩
theorem qj{H:Hp}{k:Addr}{i:Int}{z:Str}(h:H k=some (.tup [.int i,.str z])):mOf H k=i/\zOf H k=z:=by
 unfold mOf zOf;rw[h];exact⟨rfl,rfl⟩
def pqD (e:Nat×List Nat):PyData:=.tuple [.int (e.1:Nat),.str (txt e.2)]
theorem mv{H:Hp}:∀{vs:List V}{ps:List (Nat×List Nat)},Pqs H vs ps->DatAll K H vs (ps.map pqD)
 |_,_,.nil=>.nil
 |_,_,.cons ⟨k,e1,e2⟩ r=>by rw[e1];exact .cons (.tup (SqT.of e2) (.cons (.int _) (.cons (.str _) .nil))) (mv r)
theorem wJ{cs:List Nat}(h:∀c∈cs,EK c):PyData.strOk (txt cs)=true:=tW fun c hc=>by
 rcases h c hc with h|h<;>rw[h]<;>decide
theorem oO{e:Nat×List Nat}(h:∀c∈e.2,EK c):(pqD e).canLay0=true:=by
 have:(PyData.str (txt e.2)).canLay0=true:=wJ h;show PyData.canLayAll0 [.int _,.str _]=true;simp only[PyData.canLayAll0,this];rfl
theorem Hx:∀{ps:List (Nat×List Nat)},(∀e∈ps,∀c∈e.2,EK c)->PyData.canLayAll0 (ps.map pqD)=true
 |[],_=>rfl
 |e::r,h=>BM.mpr ⟨oO (h e (zQ ..)),Hx fun d hd=>h d (Ac _ hd)⟩
theorem GX:∀ps:List (Nat×List Nat),PyData.depthAll (ps.map pqD)<=1
 |[]=>zX _
 |e::r=>by
  show max (pqD e).depth (PyData.depthAll (r.map pqD))<=1;exact Nat.max_le.mpr ⟨zE _,GX r⟩
theorem ql(ps:List (Nat×List Nat)):(PyData.list (ps.map pqD)).depth<=60:=by
 have e:(PyData.list (ps.map pqD)).depth=PyData.depthAll (ps.map pqD)+1:=by simp[PyData.depth]
 have:=GX ps;lia
theorem uW(ps:List (Nat×List Nat)):PyData.eqv (.list (ps.map pqD)) (.list [])=ps.isEmpty:=by
 cases ps<;>rfl
theorem qX(e d:Nat×List Nat):PyData.eqv (pqD e) (pqD d)=decide (e=d):=by
 have h:PyData.eqv (pqD e) (pqD d)=(decide (((e.1:Nat):Int)=((d.1:Nat):Int))&&(decide (txt e.2=txt d.2)&&true)):=by
  unfold pqD;simp[PyData.eqv,PyData.eqvAll];rfl
 rw[h,Bool.and_true,<- Bool.decide_and];refine decide_eq_decide.mpr ⟨fun hq100=>by obtain⟨a,b⟩:=hq100;exact Prod.ext (Int.ofNat.inj a) (hU b),fun h=>by rw[h];exact⟨rfl,rfl⟩⟩
def Fi (ws:List (List Nat))(i j:Nat)(e:Nat×List Nat):Prop:=∃a b,(a<i\/a=i/\b<j)/\a<ws.length/\b<ws.length/\a≠b/\ws.getD a []=ws.getD b []++e.2/\e.1=(ws.getD a []).length
theorem rW{ws:List (List Nat)}{e:Nat×List Nat}:¬Fi ws 0 0 e:=fun⟨a,b,h,_⟩=>by rcases h with h|⟨_,h⟩<;>exact absurd h (Bz _)
theorem vj{ws:List (List Nat)}{i:Nat}{e:Nat×List Nat}:Fi ws i ws.length e↔Fi ws (i+1) 0 e:=by
 constructor
 ·rintro⟨a,b,h,h1,h2,r⟩;exact⟨a,b,.inl (by rcases h with h|⟨h,_⟩<;>lia),h1,h2,r⟩
 ·rintro⟨a,b,h,h1,h2,r⟩;refine⟨a,b,?_,h1,h2,r⟩;rcases h with h|⟨_,h⟩
  ·by_cases c:a=i
   ·exact .inr ⟨c,h2⟩
   ·exact .inl (by lia)
  ·exact absurd h (Bz _)
theorem nI{ws:List (List Nat)}{i j:Nat}{e:Nat×List Nat}(hi:i<ws.length)(hj:j<ws.length):Fi ws i (j+1) e↔Fi ws i j e\/i≠j/\ws.getD i []=ws.getD j []++e.2/\e.1=(ws.getD i []).length:=by
 constructor
 ·rintro⟨a,b,h,h1,h2,h3,h4,h5⟩;by_cases c:a=i/\b=j
  ·obtain⟨rfl,rfl⟩:=c;exact .inr ⟨h3,h4,h5⟩
  ·exact .inl ⟨a,b,by rcases h with h|⟨h,h'⟩<;>lia,h1,h2,h3,h4,h5⟩
 ·rintro (⟨a,b,h,h1,h2,r⟩|⟨h1,h2,h3⟩)
  ·exact⟨a,b,by rcases h with h|⟨h,h'⟩<;>lia,h1,h2,r⟩
  ·exact⟨i,j,.inr ⟨rfl,Av _⟩,hi,hj,h1,h2,h3⟩
theorem bV{α β:Type}{R:α->β->Prop}{xs:List α}{ys:List β}{x:α}{y:β}(h:Paired R xs ys)(r:R x y):Paired R (xs++[x]) (ys++[y]):=cU h (.cons r .nil)
theorem eN{α β:Type}{R:α->β->Prop}:∀{xs:List α}{ys:List β}(j:Nat),Paired R xs ys->Paired R (xs.eraseIdx j) (ys.eraseIdx j)
 |_,_,_,.nil=>.nil
 |_,_,0,.cons _ p=>p
 |_,_,j+1,.cons a p=>.cons a (eN j p)
theorem iV{α:Type}:∀{l:List α}{j:Nat}{e:α},l[j]?=some e->∀d∈l,d=e\/d∈l.eraseIdx j
 |[],_,_,h,_,_=>by cases h
 |a::l,0,e,h,d,hd=>by
  injection h with h;rcases zU.mp hd with hd|hd
  ·exact .inl (hd.trans h)
  ·exact .inr hd
 |a::l,j+1,e,h,d,hd=>by
  rcases zU.mp hd with hd|hd
  ·exact .inr (by rw[hd];exact zQ ..)
  ·rcases iV (l:=l) (j:=j) h d hd with z|z
   ·exact .inl z
   ·exact .inr (Ac _ z)
def Zt (ws:List (List Nat))(m:Nat)(x:List Nat)(i:Nat)(e:Nat×List Nat):Prop:=∃k,k<i/\k<ws.length/\(x=ws.getD k []++e.2/\e.1=m\/ws.getD k []=x++e.2/\e.1=m+e.2.length)
theorem sF{ws:List (List Nat)}{m:Nat}{x:List Nat}{i:Nat}{e:Nat×List Nat}(hi:i<ws.length):Zt ws m x (i+1) e↔(Zt ws m x i e\/x=ws.getD i []++e.2/\e.1=m)\/ws.getD i []=x++e.2/\e.1=m+e.2.length:=by
 constructor
 ·rintro⟨k,h1,h2,h3⟩;by_cases c:k=i
  ·subst c;rcases h3 with h3|h3
   ·exact .inl (.inr h3)
   ·exact .inr h3
  ·exact .inl (.inl ⟨k,by lia,h2,h3⟩)
 ·rintro ((⟨k,h1,h2,h3⟩|h)|h)
  ·exact⟨k,by lia,h2,h3⟩
  ·exact⟨i,Av _,hi,.inl h⟩
  ·exact⟨i,Av _,hi,.inr h⟩
theorem e_mt:(txt []:Str)="":=by decide +kernel
theorem uL(x:List Nat):decide (V.str (txt x)=V.str "")=decide (x=[]):=by
 refine decide_eq_decide.mpr ⟨fun h=>?_,fun h=>by rw[h];decide +kernel⟩;injection h with h;exact hU (h.trans e_mt.symm)
def IX:Sp:=fun vs H Q _=>∃l ws,vs=[.ref l]/\H l=some (.lst (au ws))/\Wds ws/\(∀H',DO H H'->(∀m,¬Rch ws [] m)->Q .non H')/\∀m H',DO H H'->En ws m->Q (.int ((m:Nat):Int)) H'
theorem vi{d:DD}(D:Def K mg "_law_shortest" (top 47) ["words"] d)(xm:mg "len"=none)(xw:mg "min"=none)(xn:mg "range"=none):(fk 1 d ["words"] IX):=by
 exists["words","waiting","k","j","best","letters","text","word"]
 obtain⟨l,ws,rfl,hl,hw,q0,q1⟩:=h;refine⟨_,(af (ay 1 (Or.inl rfl) (bw (@DZ _))) (af (bZ (bp xn (aJ (aU DQ xm (0) aC) fE)) (ar 2) (ak (bZ (bp xn (aJ (aU DQ xm (0) aC) fE)) (ar 3) (ak (bf (@PW.pt _ _ _ (jT (aE GC (3) (2) (aH _)) (iu (bH (fG Dk PySem.F.slot_str_startswith PySem.F.type_str_startswith Er (aQ DK (0) (2)) (aJ (aQ DK (0) (3)) (by rfl))))))) (ak (bE (eQ (1) (aZ (DI (aU DJ xm (aQ DK (0) (2)) (by rfl)) (aJ (ba Ek (aQ DK (0) (2)) (bx (aU DJ xm (aQ DK (0) (3)) (by rfl))) (Ea _)) (by rfl)) fE)) (by rfl)))) (DP _)))))) (af (ay 4 (Or.inl rfl) (@EN _ _)) (af (fc (aE (fB hr.units) (1) (bw (@DZ _)) (aH _)) (af (fw (aG (ml hc (eG hr)) xw Fj (aJ (1) aC)) (fq (aB (ar 5) (aB (ar 6) (@Ee _))))) (af (bE (fG Dj PySem.F.slot_list_remove PySem.F.type_list_remove (nJ hr.units) (1) (aJ (aZ (DI (5) (aJ (6) aC) aC)) (by rfl)))) (af (bf (aE Fc (6) (bA _) (aH _)) (ak (aD (5))) (DP _)) (ak (bf (kn (dC (eG hr) (6) (4)) (by first|exact bY _ (by decide) (by decide)|rfl)) (af (gr (eG hr) (4) (6) (5)) (ak (bZ (aL (0)) (ar 7) (af (mH (bf (bH (fG Dk PySem.F.slot_str_startswith PySem.F.type_str_startswith Er (6) (aJ (7) aC))) (ak (bE (eQ (1) (aZ (DI (5) (aJ (ba Ek (6) (bx (aU DJ xm (7) aC)) (Ea _)) (by rfl)) aC)) (by rfl)))) (DP _))) (ak (bf (bH (fG Dk PySem.F.slot_str_startswith PySem.F.type_str_startswith Er (7) (aJ (6) aC))) (ak (bE (eQ (1) (aZ (DI (aF EL (aF Eb (5) (aU DJ xm (7) aC)) (aU DJ xm (6) aC)) (aJ (ba Ek (7) (bx (aU DJ xm (6) aC)) (Ea _)) (by rfl)) (by rfl))) (by rfl)))) (DP _))))))) (DP _))))))) (ak (aD (cn _))))))),?_⟩
 walk_at "d"
 have h8:=hw.n8;have tl:=aK ws;refine⟨zX _,fun W nW=>?_⟩;have S0:=ag nW (.lst []);have gW0:upd H W (.lst []) W=some (.lst []):=ae;generalize upd H W (.lst [])=H0 at S0 gW0 ⊢;have neW:l≠W:=ax hl nW;have put:∀{H':Hp}{o:HO},DO H H'->DO H (upd H' W o):=fun S b o e=>by rw[aq (ax e nW)];exact S _ _ e
 refine⟨_,rfl,l,_,rfl,.inl (SqL.of (S0 _ _ hl)),_,rfl,by lia,by lia,?_⟩;rw[tl];refine cm (lo:=0) (n:=_) (fun i σ H'=>∃vs ps e2 e3,σ=[some (.ref l),some (.ref W),e2,e3,none,none,none,none]/\DO H H'/\H' W=some (.lst vs)/\Pqs H' vs ps/\ps.length<=8*i/\∀e,e∈ps↔Fi ws i 0 e) ⟨[],[],_,_,rfl,S0,gW0,.nil,zX _,fun e=>⟨fun h=>absurd h (by simp),fun h=>absurd h rW⟩⟩ (fun i σ H1 hi z=>?_) (fun σ H1 z=>?_)
 ·obtain⟨vs,ps,e2,e3,rfl,S1,gW1,pq1,ln1,mem1⟩:=z;rw[Am] at hi;refine⟨_,rfl,l,_,rfl,.inl (SqL.of (S1 _ _ hl)),_,rfl,by lia,by lia,?_⟩;rw[tl];refine cm (lo:=0) (n:=_) (fun j σ H'=>∃vs ps e3,σ=[some (.ref l),some (.ref W),some (.int (0+(i:Int))),e3,none,none,none,none]/\DO H H'/\H' W=some (.lst vs)/\Pqs H' vs ps/\ps.length<=8*i+j/\∀e,e∈ps↔Fi ws i j e) ⟨vs,ps,_,rfl,S1,gW1,pq1,ln1,mem1⟩ (fun j σ H2 hj z=>?_) (fun σ H2 z=>?_)
  ·obtain⟨vs,ps,e3,rfl,S2,gW2,pq2,ln2,mem2⟩:=z;rw[Am] at hj;have hl2:=S2 _ _ hl;have ai:atI (au ws) (0+(i:Int))=some (.str (txt (ws.getD i []))):=by rw[By];exact bj hi
   have aj:atI (au ws) (0+(j:Int))=some (.str (txt (ws.getD j []))):=by rw[By];exact bj hj
   have sk:∀{b:Prop},(∀e:Nat×List Nat,¬(i≠j/\ws.getD i []=ws.getD j []++e.2/\e.1=(ws.getD i []).length))->∀e,e∈ps↔Fi ws i (j+1) e:=fun no e=>by
    rw[mem2,nI hi hj];exact⟨.inl,fun h=>h.elim id fun h=>absurd h (no e)⟩
   by_cases c:j=i
   ·subst c;refine⟨_,rfl,_,rfl,rfl,false,(by rw[Dc rfl];rfl),?_⟩;exact⟨vs,ps,_,rfl,S2,gW2,pq2,by lia,sk (b:=True) fun e h=>h.1 rfl⟩
   refine⟨_,rfl,_,rfl,rfl,true,(by rw[Dd (fun z=>c (by injection z with z;lia))];rfl),?_⟩;refine⟨_,rfl,_,rfl,l,_,_,_,rfl,rfl,SqL.of hl2,ai,rfl,_,rfl,_,rfl,l,_,_,_,rfl,rfl,SqL.of hl2,aj,_,_,rfl,rfl,?_⟩;refine⟨_,rfl,?_⟩;cases hB:Txt.startswith (txt (ws.getD i [])) (txt (ws.getD j [])) with
   |false=>
    refine⟨vs,ps,_,rfl,S2,gW2,pq2,by lia,sk (b:=True) fun e h=>?_⟩;rw[(bb _ _).mpr ⟨_,h.2.1⟩] at hB;cases hB
   |true=>
    obtain⟨x,ex⟩:=(bb _ _).mp hB;have li:(ws.getD i []).length<=40:=hw.l40 _ (aN hi);have lj:(ws.getD j []).length<=40:=hw.l40 _ (aN hj);refine⟨_,rfl,.inl ⟨rfl,_,SqL.of gW2⟩,_,rfl,_,rfl,l,_,_,_,rfl,rfl,SqL.of hl2,ai,txt (ws.getD i []),rfl,aw (by show(ws.getD i []).length<=1000000;lia),?_⟩;refine⟨_,rfl,_,rfl,l,_,_,_,rfl,rfl,SqL.of hl2,ai,_,rfl,_,rfl,l,_,_,_,rfl,rfl,SqL.of hl2,aj,txt (ws.getD j []),rfl,aw (by show(ws.getD j []).length<=1000000;lia),_,rfl,txt (ws.getD i []),rfl,aw (by show(ws.getD i []).length<=1000000;lia),?_⟩;rw[show Txt.slice (txt (ws.getD i [])) (some (((txt (ws.getD j [])).length:Nat):Int)) none=txt ((ws.getD i []).drop (ws.getD j []).length) from bK _ _];rw[show(ws.getD i []).drop (ws.getD j []).length=x by rw[ex,AH]];refine⟨aw (by show 2<=1000000;decide),fun tp ntp=>?_⟩;have T1:=ag ntp (.tup [.int ((txt (ws.getD i [])).length:Nat),.str (txt x)]);have lv:=iA pq2;refine⟨W,_,_,rfl,rfl,T1 _ _ gW2,zP (show vs.length<1000000 by lia) (aw (zE _)),?_⟩;refine⟨vs++[.ref tp],ps++[((ws.getD i []).length,x)],_,rfl,put (S2.trans T1),ae,Pqs.put (T1 _ _ gW2) (fun _ z=>by cases z) (bV (Paired.EW pq2 fun v e h=>h.mono T1) ⟨tp,rfl,ae⟩),by rw[zG];show _+1<=_;lia,fun e=>?_⟩;rw[zH,mem2,nI hi hj,zK];refine or_congr Iff.rfl ⟨fun h=>by rw[h];exact⟨Dv c,ex,rfl⟩,fun hq101=>?_⟩;obtain⟨_,h2,h3⟩:=hq101;refine Prod.ext h3 ?_;rw[ex] at h2;exact(Ce h2).symm
  obtain⟨vs,ps,e3,rfl,S2,gW2,pq2,ln2,mem2⟩:=z;rw[Am] at ln2 mem2;exact⟨vs,ps,_,_,rfl,S2,gW2,pq2,by lia,fun e=>(mem2 e).trans vj⟩
 obtain⟨vs,ps,e2,e3,rfl,S1,gW1,pq1,ln1,mem1⟩:=z;rw[Am] at ln1 mem1
 have sh1:Sht ws [] ps:=Sht.start (fun e he=>by
  obtain⟨a,b,_,h1,h2,h3,h4,h5⟩:=(mem1 e).mp he
  exact⟨a,b,h1,h2,h3,h4,h5⟩) fun a b x h1 h2 h3 h4=>(mem1 _).mpr ⟨a,b,.inl h1,h1,h2,h3,h4,rfl⟩
 intro F nF;have S2:=ag nF (.dK []);have gF:upd H1 F (.dK []) F=some (.dK (bdK [])):=ae;have nF0:H F=none:=dZ S1 nF;have neF:W≠F:=ax gW1 nF;have gW2:=S2 _ _ gW1;have pq2:Pqs (upd H1 F (.dK [])) vs ps:=Paired.EW pq1 fun v e h=>h.mono S2;have S12:=S1.trans S2;generalize upd H1 F (.dK [])=H2 at gF gW2 pq2 S12 ⊢;have vT:∀{H':Hp}{o:HO},DO H H'->DO H (upd H' F o):=fun S b o e=>by rw[aq (ax e nF0)];exact S _ _ e
 refine⟨fun m σ H'=>∃vs ps B e2 e3 e5 e6 e7,σ=[some (.ref l),some (.ref W),e2,e3,some (.ref F),e5,e6,e7]/\DO H H'/\H' W=some (.lst vs)/\H' F=some (.dK (bdK B))/\Pqs H' vs ps/\Sht ws B ps/\ps.length<=64+16*B.length/\m=(400-B.length)*20+ps.length,⟨_,vs,ps,[],_,_,_,_,_,rfl,S12,gW2,gF,pq2,sh1,by show ps.length<=64+16*0;lia,rfl⟩,?_⟩;rintro m σ H3 ⟨vs,ps,B,e2,e3,e5,e6,e7,rfl,S3,gW3,gF3,pq3,sh,lnp,rfl⟩;clear pq1 pq2 mem1 sh1 ln1;have ld:=sh.few h8 hw.l40;have lv:=iA pq3;have lrs:∀e∈ps,e.2.length<=40/\∀c∈e.2,EK c:=fun e he=>by
  obtain⟨_,w0,hw0,y,ey⟩:=sh.wr e he;have:=hw.l40 _ hw0;rw[ey,zG] at this;exact⟨by lia,fun c hc=>hw.lr _ hw0 c (by rw[ey];exact zI _ hc)⟩
 refine⟨_,rfl,zX _,fun e ne=>?_⟩;have U:=ag ne (.lst []);have gW4:=U _ _ gW3;have gF4:=U _ _ gF3;have pq4:Pqs (upd H3 e (.lst [])) vs ps:=Paired.EW pq3 fun v e h=>h.mono U;have S4:=S3.trans U;refine⟨.list (ps.map pqD),.list [],.lst (SqL.of gW4) (mv pq4),.lst (SqL.of ae) .nil,Hx fun e he=>(lrs e he).2,rfl,ql ps,!ps.isEmpty,(by rw[<- uW];rfl),?_⟩;generalize upd H3 e (.lst [])=H4 at gW4 gF4 pq4 S4 ⊢;clear U ne S3 gW3 gF3 pq3;cases hemp:ps.isEmpty with
 |true=>
  have e0:ps=[]:=CK.mp hemp;subst e0;exact q0 _ S4 sh.none
 |false=>
  refine⟨_,fun σ' H' z=>z,?_⟩;have pne:ps≠[]:=fun z=>by rw[z] at hemp;cases hemp
  refine⟨_,rfl,W,vs.map JD,mOf H4,zOf H4,rfl,by rw[<- oy pq4];exact gW4,fun z=>?_,fun k hk=>?_,fun k hk hmin=>?_⟩
  ·have:=congrArg List.length z;rw[zF,lv] at this;exact pne (CL this)
  ·obtain⟨d,_,hd⟩:=sA pq4 hk;rw[hd,(qj hd).1,(qj hd).2]
  obtain⟨⟨m,x⟩,hme,hke⟩:=sA pq4 hk;have hmin':∀d∈ps,m<=d.1:=fun d hd=>by
   obtain⟨k',hk',hd'⟩:=tT pq4 hd;have:=hmin k' hk';rw[(qj hke).1,(qj hd').1] at this;exact Int.ofNat_le.mp this
  obtain⟨lx0,xlr⟩:=lrs _ hme;have lx:x.length<=40:=lx0;refine⟨k,_,rfl,SqT.of hke,rfl,_,_,rfl,_,_,rfl,rfl,?_⟩;refine⟨_,rfl,.inl ⟨rfl,_,SqL.of gW4⟩,_,rfl,_,rfl,aw (by show 2<=1000000;decide),fun tp ntp=>?_⟩;have T1:=ag ntp (.tup [.int (m:Nat),.str (txt x)]);have gW5:=T1 _ _ gW4;have gF5:=T1 _ _ gF4;have pq5:Pqs (upd H4 tp (.tup [.int (m:Nat),.str (txt x)])) vs ps:=Paired.EW pq4 fun v e h=>h.mono T1;have S5:=S4.trans T1;have dtp:EF K (upd H4 tp (.tup [.int (m:Nat),.str (txt x)])) (.ref tp) (pqD (m,x)):=.tup (SqT.of ae) (.cons (.int _) (.cons (.str _) .nil));generalize upd H4 tp (.tup [.int (m:Nat),.str (txt x)])=H5 at gW5 gF5 pq5 S5 dtp ⊢;clear T1 ntp pq4 gW4 gF4 S4;have jl:=List.idxOf_lt_length_of_mem hme;have jat:ps[ps.idxOf (m,x)]?=some (m,x):=by rw[zN jl,List.getElem_idxOf jl]
  refine⟨W,.ref tp,vs,ps.map pqD,pqD (m,x),ps.idxOf (m,x),pqD (m,x),rfl,rfl,gW5,mv pq5,dtp,Hx fun e he=>(lrs e he).2,oO xlr,zO (show(pqD (m,x)).depth<=1 from zE _) (by decide),by rw[zW,jat];rfl,by rw[qX];exact Dc rfl,fun n dn hn hdn=>?_,?_⟩
  ·rw[zW] at hdn;obtain⟨d,hd,rfl⟩:=AV.mp hdn;rw[qX];refine Dd fun z=>?_;obtain⟨hl3,e3⟩:=zL.mp hd;have:=List.not_of_lt_findIdx (p:=fun y=>y==(m,x)) (xs:=ps) (i:=n) hn;rw[e3,z] at this;simp at this
  have hm:=iV jat;have hV:∀d∈ps.eraseIdx (ps.idxOf (m,x)),d∈ps:=fun d hd=>List.mem_of_mem_eraseIdx hd;have lV:(ps.eraseIdx (ps.idxOf (m,x))).length+1=ps.length:=by rw[CB jl];lia
  have pq6:Pqs (upd H5 W (.lst (vs.eraseIdx (ps.idxOf (m,x))))) (vs.eraseIdx (ps.idxOf (m,x))) (ps.eraseIdx (ps.idxOf (m,x))):=Pqs.put gW5 (fun _ z=>by cases z) (eN _ pq5);have gW6:upd H5 W (.lst (vs.eraseIdx (ps.idxOf (m,x)))) W=some (.lst (vs.eraseIdx (ps.idxOf (m,x)))):=ae;have gF6:upd H5 W (.lst (vs.eraseIdx (ps.idxOf (m,x)))) F=some (.dK (bdK B)):=by rw[aq (Dv neF)];exact gF5
  have S6:=put (o:=.lst (vs.eraseIdx (ps.idxOf (m,x)))) S5;generalize upd H5 W (.lst (vs.eraseIdx (ps.idxOf (m,x))))=H6 at pq6 gW6 gF6 S6 ⊢;generalize ps.eraseIdx (ps.idxOf (m,x))=Vv at hm hV lV pq6;generalize vs.eraseIdx (ps.idxOf (m,x))=us at pq6 gW6;clear pq5 gW5 gF5 S5 dtp;refine⟨_,rfl,rfl,decide (x=[]),(by rw[<- uL]),?_⟩;by_cases hx0:x=[]
  ·rw[Dc hx0];subst hx0;exact⟨_,rfl,q1 m _ S6 (sh.least hme hmin')⟩
  rw[Dd hx0];refine⟨_,rfl,_,rfl,F,_,rfl,Fz.k (k:=.inr (txt x)) gF6,?_⟩;refine⟨_,rfl,?_⟩;rw[qP x B];by_cases hx:x∈B.map (·.1)
  ·rw[Dc hx];exact⟨_,by show(400-B.length)*20+Vv.length<_;lia,us,Vv,B,_,_,_,_,_,rfl,S6,gW6,gF6,pq6,sh.skip hm hV hme hx,by lia,rfl⟩
  rw[Dd hx];refine⟨_,rfl,_,rfl,_,rfl,F,_,rfl,.inl ⟨_,.inr (txt x),gF6,rfl,zP (show(bdK B).length<1000000 by unfold bdK;rw[zF];lia) (aw (zE _)),rfl⟩,?_⟩;rw[vk hx];have S7:=vT (o:=.dK (bdK (B++[(x,m)]))) S6;have gW7:upd H6 F (.dK (bdK (B++[(x,m)]))) W=some (.lst us):=by rw[aq neF];exact gW6
  have gF7:upd H6 F (.dK (bdK (B++[(x,m)]))) F=some (.dK (bdK (B++[(x,m)]))):=ae;have pq7:Pqs (upd H6 F (.dK (bdK (B++[(x,m)])))) us Vv:=Pqs.put gF6 (fun _ z=>by cases z) pq6;generalize upd H6 F (.dK (bdK (B++[(x,m)])))=H7 at S7 gW7 gF7 pq7 ⊢;clear S6 gW6 gF6 pq6;refine⟨_,rfl,l,rfl,⟨_,SqL.of (S7 _ _ hl)⟩,?_⟩;refine gz (K:=K) (a:=l) (xs:=au ws) (fun i σ' H'=>∃us Z e7,σ'=[some (.ref l),some (.ref W),e2,e3,some (.ref F),some (.int (m:Nat)),some (.str (txt x)),e7]/\DO H H'/\H' W=some (.lst us)/\H' F=some (.dK (bdK (B++[(x,m)])))/\Pqs H' us (Vv++Z)/\Z.length<=2*i/\∀e,e∈Z↔Zt ws m x i e) ⟨us,[],_,rfl,S7,gW7,gF7,by rw[AD];exact pq7,zX _,fun e=>⟨fun h=>absurd h (by simp),fun hq102=>by obtain⟨k,h,_⟩:=hq102;exact absurd h (Bz _)⟩⟩ (fun i σ' H' hi z=>by obtain⟨_,_,_,_,z,_⟩:=z;exact SqL.of (z _ _ hl)) (fun i v σ' H' hv z=>?_) (fun σ' H' z=>?_)
  ·obtain⟨us,Z,e7,rfl,S8,gW8,gF8,pq8,lZ,mZ⟩:=z;have hi:i<ws.length:=by have:=(zL.mp hv).1;rw[tl] at this;exact this
   rw[gC hi] at hv;injection hv with hv;subst hv;have li:(ws.getD i []).length<=40:=hw.l40 _ (aN hi);generalize hwi:ws.getD i []=u at li;refine⟨fun σ' H'=>∃us Z,σ'=[some (.ref l),some (.ref W),e2,e3,some (.ref F),some (.int (m:Nat)),some (.str (txt x)),some (.str (txt u))]/\DO H H'/\H' W=some (.lst us)/\H' F=some (.dK (bdK (B++[(x,m)])))/\Pqs H' us (Vv++Z)/\Z.length<=2*i+1/\∀e,e∈Z↔Zt ws m x i e\/x=u++e.2/\e.1=m,?_,?_⟩
   ·refine⟨_,rfl,rfl,_,rfl,_,_,rfl,rfl,?_⟩;refine⟨_,rfl,?_⟩;cases hB:Txt.startswith (txt x) (txt u) with
    |false=>
     refine⟨us,Z,rfl,S8,gW8,gF8,pq8,by lia,fun e=>?_⟩;rw[mZ];refine⟨.inl,fun h=>h.elim id fun h=>?_⟩;rw[(bb _ _).mpr ⟨_,h.1⟩] at hB;cases hB
    |true=>
     obtain⟨y,ey⟩:=(bb _ _).mp hB;refine⟨_,rfl,.inl ⟨rfl,_,SqL.of gW8⟩,_,rfl,_,rfl,_,rfl,txt u,rfl,aw (by show u.length<=1000000;lia),_,rfl,txt x,rfl,aw (by show x.length<=1000000;lia),?_⟩;rw[show Txt.slice (txt x) (some (((txt u).length:Nat):Int)) none=txt (x.drop u.length) from bK _ _];rw[show x.drop u.length=y by rw[ey,AH]];refine⟨aw (by show 2<=1000000;decide),fun tp ntp=>?_⟩;have T1:=ag ntp (.tup [.int (m:Nat),.str (txt y)]);have lv:=iA pq8;rw[zG] at lv;refine⟨W,_,_,rfl,rfl,T1 _ _ gW8,zP (show us.length<1000000 by lia) (aw (zE _)),?_⟩;refine⟨us++[.ref tp],Z++[(m,y)],rfl,put (S8.trans T1),ae,by rw[aq (Dv neF)];exact T1 _ _ gF8,by rw[<- Aj];exact Pqs.put (T1 _ _ gW8) (fun _ z=>by cases z) (bV (Paired.EW pq8 fun v e h=>h.mono T1) ⟨tp,rfl,ae⟩),by rw[zG];show _+1<=_;lia,fun e=>?_⟩;rw[zH,mZ,zK];refine or_congr Iff.rfl ⟨fun h=>by rw[h];exact⟨ey,rfl⟩,fun hq103=>?_⟩;obtain⟨h2,h3⟩:=hq103;refine Prod.ext h3 ?_;rw[ey] at h2;exact(Ce h2).symm
   rintro _ H9 ⟨us,Z,rfl,S9,gW9,gF9,pq9,lZ,mZ⟩;clear S8 gW8 gF8 pq8;have fin:∀{Z':List (Nat×List Nat)},(∀e,e∈Z'↔e∈Z\/u=x++e.2/\e.1=m+e.2.length)->∀e,e∈Z'↔Zt ws m x (i+1) e:=fun h e=>by
    rw[h,mZ,sF hi,hwi]
   refine⟨_,rfl,rfl,_,rfl,_,_,rfl,rfl,?_⟩;refine⟨_,rfl,?_⟩;cases hB:Txt.startswith (txt u) (txt x) with
   |false=>
    refine⟨us,Z,_,rfl,S9,gW9,gF9,pq9,by lia,fin fun e=>⟨.inl,fun h=>h.elim id fun h=>?_⟩⟩;rw[(bb _ _).mpr ⟨_,h.1⟩] at hB;cases hB
   |true=>
    obtain⟨y,ey⟩:=(bb _ _).mp hB;refine⟨_,rfl,.inl ⟨rfl,_,SqL.of gW9⟩,_,rfl,_,rfl,txt u,rfl,aw (by show u.length<=1000000;lia),_,_,rfl,rfl,_,rfl,txt x,rfl,aw (by show x.length<=1000000;lia),_,_,rfl,rfl,?_⟩;refine⟨_,rfl,_,rfl,txt x,rfl,aw (by show x.length<=1000000;lia),_,rfl,txt u,rfl,aw (by show u.length<=1000000;lia),?_⟩;rw[show Txt.slice (txt u) (some (((txt x).length:Nat):Int)) none=txt (u.drop x.length) from bK _ _];rw[show u.drop x.length=y by rw[ey,AH]];have em:(fun i j=>V.int (i-j)) ((m:Int)+((txt u).length:Nat)) ((txt x).length:Nat)=V.int ((m+y.length:Nat):Int):=by
     show V.int ((m:Int)+(u.length:Nat)-(x.length:Nat))=_;rw[ey,zG]
     congr 1
     lia
    refine⟨aw (by show 2<=1000000;decide),fun tp ntp=>?_⟩;rw[em];have T1:=ag ntp (.tup [.int ((m+y.length:Nat):Int),.str (txt y)]);have lv:=iA pq9;rw[zG] at lv;refine⟨W,_,_,rfl,rfl,T1 _ _ gW9,zP (show us.length<1000000 by lia) (aw (zE _)),?_⟩;refine⟨us++[.ref tp],Z++[(m+y.length,y)],_,rfl,put (S9.trans T1),ae,by rw[aq (Dv neF)];exact T1 _ _ gF9,by rw[<- Aj];exact Pqs.put (T1 _ _ gW9) (fun _ z=>by cases z) (bV (Paired.EW pq9 fun v e h=>h.mono T1) ⟨tp,rfl,ae⟩),by rw[zG];show _+1<=_;lia,fin fun e=>?_⟩;rw[zH,zK];refine or_congr Iff.rfl ⟨fun h=>by rw[h];exact⟨ey,rfl⟩,fun hq104=>?_⟩;obtain⟨h2,h3⟩:=hq104;rw[ey] at h2;have h4:=(Ce h2).symm;exact Prod.ext (by rw[h3,h4]) h4
  obtain⟨us,Z,e7,rfl,S8,gW8,gF8,pq8,lZ,mZ⟩:=z;rw[tl] at lZ mZ;have sh':=sh.take hm hV hme hmin' hx hx0 (Z:=Z) (fun e he=>by obtain⟨k,_,h2,h3⟩:=(mZ e).mp he;exact⟨k,h2,h3⟩) (fun k y hk e=>(mZ _).mpr ⟨k,hk,hk,.inl ⟨e,rfl⟩⟩) (fun k y hk e=>(mZ _).mpr ⟨k,hk,hk,.inr ⟨e,rfl⟩⟩);have lB:(B++[(x,m)]).length=B.length+1:=by rw[zG];rfl
  have lVZ:(Vv++Z).length=Vv.length+Z.length:=zG;exact⟨_,by show(400-(B++[(x,m)]).length)*20+(Vv++Z).length<_;lia,us,Vv++Z,B++[(x,m)],_,_,_,_,_,rfl,S8,gW8,gF8,pq8,sh',by lia,rfl⟩
open KM
theorem HQ:∀a b:List Nat,wt (a++b)=(wt a).mul (wt b)
 |[],b=>(jY _).symm
 |c::a,b=>by show(cW c).mul (wt (a++b))=_;rw[HQ a b,<- fZ];rfl
theorem sP{hs:List (List Nat)}(W:Wds hs)(ud:UD hs){row:List Nat}(hr:∀i∈row,i<hs.length):Wn hs (bq hs row)=1/\∀L,Lst hs (bq hs row) (bq hs row).length L->L.getD (bq hs row).length none=some (rI row):=by
 have ecw:∀r:List Nat,cw hs r=bq hs r:=fun _=>rfl;have lr:=cq W.l1 row hr;constructor
 ·have c:=ef W.ok (bq hs row).length (bq hs row) (zE _);rw[<- c];have hm:row∈fH hs.length (bq hs row).length:=(cu _ _ _).mpr ⟨lr,hr⟩;have nd:(fH hs.length (bq hs row).length).Nodup:=(hG hs.length _).imp fun {a b} h e=>by
   subst e;unfold kLt dA at h;rw[CZ rfl,DV] at h;cases h
  have e1:(fH hs.length (bq hs row).length).countP (fun r=>decide (cw hs r=bq hs row))=(fH hs.length (bq hs row).length).countP (fun r=>r==row):=by
   refine List.countP_congr fun r hm'=>?_;have hk:=((cu _ _ _).mp hm').2;rw[decide_eq_true_iff,DH,ecw];exact⟨fun e=>ud r row hk hr e,fun e=>by rw[e]⟩
  rw[e1];have:(fH hs.length (bq hs row).length).count row=1:=Nat.le_antisymm (List.nodup_iff_count.mp nd row) (List.count_pos_iff.mpr hm);show(((fH hs.length (bq hs row).length).count row:Nat):Int)=1;rw[this];rfl
 ·intro L hL;have ok:=tL W.ok hL (zE _) (bq hs row).length (zE _);have mk:Mk hs (bq hs row) (bq hs row).length (rI row):=by
   have:=wR row hr [];rw[AD] at this;exact this
  cases e:L.getD (bq hs row).length none with
  |none=>exact absurd mk (ok.1 e _)
  |some r=>
   obtain⟨m,_⟩:=ok.2 r e;obtain⟨r',e1,e2,e3⟩:=wK m;rw[Ap] at e3;rw[e1,ud r' row e2 hr e3]
theorem dY(hs:List (List Nat)):∀(n:Nat)(row:List Nat),row.length=n->dR (row.map fun i=>wt (hs.getD i []))=wt (bq hs row):=fun n=>by
 induction n with
 |zero=>
  intro row h;rw[Az.mp h];rfl
 |succ n ih=>
  intro row h;rcases BZ row with rfl|⟨a,k,rfl⟩
  ·cases h
  ·rw[Ca] at h ⊢;rw[zG] at h;rw[zV,fm,HQ,<- ih a (Nat.succ.inj h)];exact dX _ _
theorem sM(ws:List (List Nat))(x:List Nat)(i:Nat):(bL ws x x.length).getD i 0=((fK ws x x.length).getD i (none,0)).2:=by
 rw[gG,Ae,Ae,zW];cases (fK ws x x.length)[i]?<;>rfl
theorem vS(m n:Nat):(fH m n).Nodup:=(hG m n).imp fun {a b} h e=>by
 subst e;unfold kLt dA at h;rw[CZ rfl,DV] at h;cases h
theorem tG{α:Type}:∀{l:List α}{a b:α},a∈l->b∈l->a≠b->2<=l.length
 |[],_,_,h,_,_=>by cases h
 |[x],a,b,h,k,n=>absurd ((zK.mp h).trans (zK.mp k).symm) n
 |_::_::l,_,_,_,_,_=>by show 2<=l.length+1+1;lia
theorem qp{ws:List (List Nat)}(W:Wds ws){a b x:List Nat}(ha:∀i∈a,i<ws.length)(hb:∀i∈b,i<ws.length)(ne:a≠b)(ea:bq ws a=x)(eb:bq ws b=x):2<=Wn ws x:=by
 have c:=ef W.ok x.length x (zE _);have la:=cq W.l1 a ha;have lb:=cq W.l1 b hb;rw[ea] at la;rw[eb] at lb;have:2<=(fH ws.length x.length).countP fun r=>decide (cw ws r=x):=by
  rw[CQ];exact tG (AN.mpr ⟨(cu _ _ _).mpr ⟨la,ha⟩,Dc ea⟩) (AN.mpr ⟨(cu _ _ _).mpr ⟨lb,hb⟩,Dc eb⟩) ne
 lia
theorem jV{ws:List (List Nat)}(W:Wds ws){x:List Nat}(h:1<Wn ws x):∃a b,(∀i∈a,i<ws.length)/\(∀i∈b,i<ws.length)/\a≠b/\bq ws a=x/\bq ws b=x:=by
 have c:=ef W.ok x.length x (zE _);have h2:2<=((fH ws.length x.length).filter fun r=>decide (cw ws r=x)).length:=by
  rw[<- CQ];lia
 have nd:((fH ws.length x.length).filter fun r=>decide (cw ws r=x)).Nodup:=(vS ws.length x.length).filter _;have mem:∀r∈(fH ws.length x.length).filter (fun r=>decide (cw ws r=x)),(∀i∈r,i<ws.length)/\bq ws r=x:=fun r hr=>by
  obtain⟨h1,h2⟩:=AN.mp hr;exact⟨((cu _ _ _).mp h1).2,Dg h2⟩
 match hl:(fH ws.length x.length).filter (fun r=>decide (cw ws r=x)),h2 with
 |a::b::r,_=>
  rw[hl] at nd mem;obtain⟨a1,a2⟩:=mem a (by simp);obtain⟨b1,b2⟩:=mem b (by simp);refine⟨a,b,a1,b1,fun e=>?_,a2,b2⟩;have:=(Bm.mp nd).1;exact this (by rw[e];simp)
theorem rf{ws:List (List Nat)}(W:Wds ws):∀i,i<ws.length->ws.getD i []≠[]:=fun i hi z=>by
 have:=W.l1 _ (aN hi);rw[z] at this;exact absurd this (by decide)
theorem mw{ws:List (List Nat)}(W:Wds ws)(h:∀m,¬Rch ws [] m):UD ws:=fun s t hs ht e=>Classical.byContradiction fun n=>by
 obtain⟨m,hm,_⟩:=gE (rf W) hs ht n e;exact h m hm
theorem qr{ws:List (List Nat)}(W:Wds ws){m:Nat}(h:En ws m){x:List Nat}(hx:1<Wn ws x):m<=x.length:=by
 obtain⟨a,b,ha,hb,n,ea,eb⟩:=jV W hx;obtain⟨k,hk,le⟩:=gE (rf W) ha hb n (ea.trans eb.symm);have:=h.2 k hk;rw[ea] at le;lia
theorem rR{ws:List (List Nat)}(W:Wds ws)(h:∀m,¬Rch ws [] m){x:List Nat}:¬1<Wn ws x:=fun hx=>by
 obtain⟨a,b,ha,hb,n,ea,eb⟩:=jV W hx;exact n (mw W h a b ha hb (ea.trans eb.symm))
open KM
theorem lX{H:Hp}:∀{vs:List V}{ws:List (List Nat)}{j:Nat},Mks H vs ws->j<ws.length->∃v,vs[j]?=some v/\∃cs,ws[j]?=some cs/\T4o H v (wt cs)
 |_,_,_,.nil,h=>absurd h (by simp)
 |_,_,0,.cons h _,_=>⟨_,rfl,_,rfl,h⟩
 |_,_,j+1,.cons _ r,h=>by
  obtain⟨v,h1,cs,h2,h3⟩:=lX (j:=j) r (by simpa using h);exact⟨v,by simpa using h1,cs,by simpa using h2,h3⟩
theorem ik{H H':Hp}(S:DO H H'):∀{vs:List V}{ts:List Tb},TL K H vs ts->TL K H' vs ts
 |_,_,.nil=>.nil
 |_,_,.cons h r=>.cons (h.mono S) (ik S r)
theorem mq{H:Hp}{v:V}{t:Tb}:∀{vs:List V}{ts:List Tb},TL K H vs ts->T4 K H v t->TL K H (vs++[v]) (ts++[t])
 |_,_,.nil,h=>.cons h .nil
 |_,_,.cons h r,h2=>.cons h (mq r h2)
theorem T4o.hid{l:Addr}{H:Hp}{v:V}{t:Tb}(d:Ds H l)(h:T4o H v t):T4o (L2.hid l H) v t:=by
 obtain⟨a,rfl,g⟩:=h;obtain⟨x,y,z,e,_⟩:=d;refine⟨a,rfl,?_⟩;rw[dG (cD g e (by intro z;cases z))];exact g
theorem Mks.hid{l:Addr}{H:Hp}(d:Ds H l){vs:List V}{ws:List (List Nat)}(h:Mks H vs ws):Mks (L2.hid l H) vs ws:=Paired.EW h fun v s g=>T4o.hid d g
open KM
theorem mx{H H':Hp}(S:DO H H'){vs:List V}{ws:List (List Nat)}(h:Mks H vs ws):Mks H' vs ws:=Paired.EW h fun v s g=>g.mono S
theorem ui(t:Tb):V.bl (if true=true then !PyData.eqv t.dat t.dat else PyData.eqv t.dat t.dat)=.bl false:=by
 rw[Tb.eqv];rfl
theorem Hl:∀ts:List Tb,PyData.canLayAll0 (ts.map Tb.dat)=true
 |[]=>rfl
 |t::r=>by
  have ih:=Hl r;rw[zZ];show(t.dat.canLay0&&PyData.canLayAll0 (r.map Tb.dat))=true;rw[ih];rfl
theorem il(ts:List Tb):(PyData.list (ts.map Tb.dat)).canLay0=true:=by
 show PyData.canLayAll0 (ts.map Tb.dat)=true;exact Hl ts
theorem FH:∀ts:List Tb,PyData.depthAll (ts.map Tb.dat)<=1
 |[]=>by show 0<=1;decide
 |t::r=>by
  have ih:=FH r;rw[zZ];show max t.dat.depth (PyData.depthAll (r.map Tb.dat))<=1;have:t.dat.depth=1:=rfl;lia
theorem lq(ts:List Tb):(PyData.list (ts.map Tb.dat)).depth<=60:=by
 have:=FH ts;have e:(PyData.list (ts.map Tb.dat)).depth=PyData.depthAll (ts.map Tb.dat)+1:=by
  simp[PyData.depth]
 lia
theorem rO(ts:List Tb):V.bl (if true=true then !PyData.eqv (.list (ts.map Tb.dat)) (.list (ts.map Tb.dat)) else PyData.eqv (.list (ts.map Tb.dat)) (.list (ts.map Tb.dat)))=.bl false:=by
 rw[SeqAt.eqv_refl _ (il ts)];rfl
theorem rA{α:Type}{xs:List α}{n:Nat}{v:α}(hl:xs.length=n+1)(h:xs[n]?=some v):atI xs (-1)=some v:=by
 have e:ixN xs.length (-1)=some n:=by
  unfold ixN;rw[hl,CY (by decide),CZ (by lia)]
  congr 1
  lia
 unfold atI;rw[e];exact h
theorem jH{H:Hp}:∀{vs:List V}{ws:List (List Nat)},Mks H vs ws->DatAll K H vs ((ws.map wt).map Tb.dat)
 |_,_,.nil=>.nil
 |_,_,.cons h r=>.cons (h.t4 (K:=K)).dat (jH r)
theorem Fu:∀ns:List Int,PyData.depthAll (ns.map PyData.int)=0
 |[]=>rfl
 |n::r=>by
  show max 0 (PyData.depthAll (r.map PyData.int))=0;rw[Fu r];rfl
theorem sC(ns:List Int):(PyData.list (ns.map PyData.int)).depth<=60:=by
 have e:(PyData.list (ns.map PyData.int)).depth=PyData.depthAll (ns.map PyData.int)+1:=by simp[PyData.depth]
 rw[e,Fu];decide
theorem fg{la Mk:Addr}{r:List Nat}{ys:List V}{ws:List (List Nat)}{H:Hp}{σ:L2.St}{js:List Nat}{Q:VK}(hp:bO js σ=[some (.ref Mk)])(hla:H la=some (.lst (iv r)))(hM:H Mk=some (.lst ys))(hMk:Mks H ys ws)(hr:∀i∈r,i<ws.length)(hl:r.length<=15000)
  (q:∀l us,H l=none->TL K H us (r.map fun i=>wt (ws.getD i []))->Q (.ref l) (upd H l (.lst us))):fL (Itl K la) 1 js (jw 0) Hv (tOp (eT K) (nQ 1) (nQ 0)) σ H Q:=by
 refine bM (K:=K) (a:=la) (xs:=iv r) (fun j us H2=>H2=H/\us.length<=j/\TL K H us ((r.take j).map fun i=>wt (ws.getD i []))) ⟨rfl,zE _,.nil⟩ (fun j us H2 hj z=>z.2.1) (aw (by rw[bN];lia)) (fun j us H2 hj z=>by rw[z.1];exact SqL.of hla) (fun j v us H2 hv z=>?_) (fun us H2 z p hp=>?_)
 ·obtain⟨rfl,y2,y3⟩:=z;have hj:j<(iv r).length:=(zL.mp hv).1;obtain⟨n,en,rfl⟩:=jL hv;have hn:=hr n (zS en);obtain⟨v',ev',cs,ec,t4⟩:=lX hMk hn;rw[hp];refine⟨_,rfl,_,rfl,Mk,ys,_,v',rfl,rfl,SqL.of hM,bC ev',Nx.mk hj ⟨rfl,by rw[zG];exact Dz y2,?_⟩⟩;rw[br en,zV];refine mq y3 ?_;show T4 K _ v' (wt (ws.getD n []));rw[Ae,ec];exact t4.t4
 ·obtain⟨rfl,y2,y3⟩:=z;rw[bN,Ap] at y3;exact q p us hp y3
theorem IY:∀{cs:List Nat},(∀c∈cs,EK c)->(0<=(wt cs).a/\(wt cs).a<=2^cs.length)/\(0<=(wt cs).b/\(wt cs).b<=2^cs.length)/\(0<=(wt cs).c/\(wt cs).c<=2^cs.length)/\(0<=(wt cs).d/\(wt cs).d<=2^cs.length)
 |[],_=>by decide
 |c::cs,h=>by
  obtain⟨⟨a0,a1⟩,⟨b0,b1⟩,⟨c0,c1⟩,⟨d0,d1⟩⟩:=IY fun x hx=>h x (Ac _ hx);have e:(2:Int)^(c::cs).length=2*2^cs.length:=by rw[Ah,Int.pow_succ,Int.mul_comm]
  have e2:wt (c::cs)=(cW c).mul (wt cs):=rfl;rw[e,e2];generalize (2:Int)^cs.length=M at *;generalize wt cs=t at *;rcases h c (zQ ..) with rfl|rfl
  ·rw[show cW 108=⟨1,0,1,1⟩ from rfl];show(0<=1*t.a+0*t.c/\1*t.a+0*t.c<=2*M)/\(0<=1*t.b+0*t.d/\1*t.b+0*t.d<=2*M)/\(0<=1*t.a+1*t.c/\1*t.a+1*t.c<=2*M)/\(0<=1*t.b+1*t.d/\1*t.b+1*t.d<=2*M);lia
  ·rw[show cW 114=⟨1,1,0,1⟩ from rfl];show(0<=1*t.a+1*t.c/\1*t.a+1*t.c<=2*M)/\(0<=1*t.b+1*t.d/\1*t.b+1*t.d<=2*M)/\(0<=0*t.a+1*t.c/\0*t.a+1*t.c<=2*M)/\(0<=0*t.b+1*t.d/\0*t.b+1*t.d<=2*M);lia
theorem oP{ws:List (List Nat)}(hw:Wds ws){r:List Nat}(hr:∀i∈r,i<ws.length):∀t∈r.map (fun i=>wt (ws.getD i [])),Bd 41 t:=fun t ht=>by
 obtain⟨n,hn,rfl⟩:=zM.mp ht;have hn':=aN (ws:=ws) (i:=n) (hr n hn);obtain⟨⟨a0,a1⟩,⟨b0,b1⟩,⟨c0,c1⟩,⟨d0,d1⟩⟩:=IY (hw.lr _ hn');have hp:(2:Int)^(ws.getD n []).length<=1099511627776:=by
  have:=CD (n:=2) (by decide) (hw.l40 _ hn');have e:(2:Int)^(ws.getD n []).length=((2^(ws.getD n []).length:Nat):Int):=by rw[Int.natCast_pow];rfl
  rw[e];exact Int.ofNat_le.mpr (zO this (by decide))
 have h41:(2:Nat)^41=2199023255552:=by decide
 refine⟨?_,?_,?_,?_⟩<;>(show Int.natAbs _<2^41;rw[h41];lia)
theorem qE(n:Nat):(List.replicate n (V.bl true)).all EY=true:=AK.mpr fun x hx=>by rw[List.eq_of_mem_replicate hx];rfl
theorem Ip:∀n:Nat,inV (.bl false) (List.replicate n (V.bl true))=false
 |0=>rfl
 |n+1=>by
  have:=Ip n;unfold inV at this ⊢;rw[Cz,Bb,this];rfl
theorem oJ{c:List Nat}(h:c≠[]):atI (iv c) 0=some (.int ((c.headD 0:Nat):Int)):=by
 cases c with
 |nil=>exact absurd rfl h
 |cons n c=>exact bC (j:=0) rfl
theorem gZ(ws:List (List Nat)):∀r:List Nat,(r.map fun k=>(((ws.getD k []).length:Nat):Int)).sum=(((bq ws r).length:Nat):Int)
 |[]=>rfl
 |k::r=>by rw[zZ,AI,gZ ws r,aY,zG];lia
theorem kG{la Wl:Addr}{r:List Nat}{ws:List (List Nat)}{H:Hp}{σ:L2.St}{js:List Nat}{Q:VK}(hp:bO js σ=[some (.ref Wl)])(hla:H la=some (.lst (iv r)))(hW:H Wl=some (.lst (au ws)))(hw:∀cs∈ws,cs.length<=40)(hr:∀i∈r,i<ws.length)(hl:r.length<=15000)
  (q:∀l,H l=none->Q (.ref l) (upd H l (.lst ((r.map fun k=>(((ws.getD k []).length:Nat):Int)).map V.int)))):fL (Itl K la) 1 js (jw 0) Hv (tCB (fun xs H Q=>∃z:Str,xs=[V.str z]/\z.length<=sizeLine/\Q (V.int ((z.length:Nat):Int)) H) (fD (tOp (eT K) (nQ 1) (nQ 0)) GI)) σ H Q:=by
 refine bM (K:=K) (a:=la) (xs:=iv r) (fun j us H3=>H3=H/\us=((r.take j).map fun k=>(((ws.getD k []).length:Nat):Int)).map V.int) ⟨rfl,rfl⟩ (fun j us H3 hj z=>by rw[z.2,zF,zF,Aa];exact BE _ _) (aw (by rw[bN];lia)) (fun j us H3 hj z=>by rw[z.1];exact SqL.of hla) (fun j x us H3 hx z=>?_) (fun us H3 z p np=>?_)
 ·obtain⟨rfl,rfl⟩:=z;have hj:j<(iv r).length:=(zL.mp hx).1;obtain⟨n,en,rfl⟩:=jL hx;have hn:=hr n (zS en);rw[hp];refine⟨_,rfl,_,rfl,Wl,_,_,_,rfl,rfl,SqL.of hW,bj hn,txt (ws.getD n []),rfl,aw (by have:=hw _ (aN hn);show(ws.getD n []).length<=1000000;lia),Nx.mk hj ⟨rfl,?_⟩⟩;rw[br en,zV,zV];rfl
 ·obtain⟨rfl,rfl⟩:=z;rw[bN,Ap];exact q p np
def JA:Sp:=fun vs H Q _=>∃i,vs=[.int i]/\Q (.bl true) H
theorem vp{d:DD}(D:Def K mg "_law_whole" (top 38) ["found"] d)(xk:mg "isinstance"=none)(xT:mg "int"=none)(xP:mg "bool"=none):(fk 1 d ["found"] JA):=by
 exists["found"]
 obtain⟨i,rfl,q⟩:=h;refine⟨_,(ak (aD (fA (aG Eh xk DR (DI (0) (aJ (cf (.ty "int") xT Hj) aC) aC)) (iR (@qG _ _ _ _ (aG Eh xk DR (DI (0) (aJ (cf (.ty "bool") xP GN) aC) aC))))))),?_⟩
 walk_at "d"
 refine⟨_,rfl,.int _,.ty "int",_,_,true,rfl,rfl,.int _,rfl,true,rfl,?_⟩;exact⟨_,rfl,.int _,.ty "bool",_,_,false,rfl,rfl,.int _,rfl,false,rfl,q⟩
def Jv:Sp:=fun vs H Q _=>∃Wl Mk fa la lb ws ys a b m,vs=[.ref Wl,.ref Mk,.ref fa,.int ((m:Nat):Int)]/\H Wl=some (.lst (au ws))/\Wds ws/\H Mk=some (.lst ys)/\Mks H ys ws/\H fa=some (.tup [.ref la,.ref lb])/\H la=some (.lst (iv a))/\H lb=some (.lst (iv b)) /\
 (∀i∈a,i<ws.length)/\(∀i∈b,i<ws.length)/\a≠[]/\b≠[]/\a.headD 0<b.headD 0/\bq ws a=bq ws b/\(bq ws a).length=m/\m<=15000/\∀H',DO H H'->Q (.bl true) H'
theorem tP{dw dm dr d:DD}(yF:(dg "_law_whole" 38 ["found"] dw 1 JA))(xx:(dg "_law_made" 40 ["tables"] dm 2 (jU K)))(IC:(dg "many_rows" 22 ["makers","table"] dr 6 Ke))(D:Def K mg "_law_pair_right" (top 48) ["words","makers","found","letters"] d)(xk:mg "isinstance"=none)(xu:mg "tuple"=none)(xr:mg "list"=none)(xm:mg "len"=none)(xM:mg "sum"=none):(fk 7 d ["words","makers","found","letters"] Jv):=by
 exists["words","makers","found","letters","row","table"]
 obtain⟨Wl,Mk,fa,la,lb,ws,ys,a,b,m,rfl,hW,hw,hM,hMk,hfa,hla,hlb,ha,hb,na,nb,hab,efl,elen,m15,q⟩:=h;refine⟨_,(af (bf (@PW.pt _ _ _ (gQ (cB (bH (aG Eh xk DR (DI (2) (aJ (cf (.ty "tuple") xu Fn) aC) aC)))) (eR (aE GC (aU DQ xm (2) aC) (ah _) (aH _))))) (ak (aD (cc _))) (DP _)) (af (bZ (@mi _ _ _ _ (2)) (ar 4) (ak (bf (@PW.pt _ _ _ (gQ (cB (bH (aG Eh xk DR (DI (4) (aJ (cf (.ty "list") xr EC) aC) aC)))) (gQ (aE (uP hr.units) (4) (bw (@DZ _)) (aH _)) (eR (aE ET (cc _) (aR (ao (ts:=["k"]) (cap:=["words"]) (js:=[0]) rfl rfl rfl rfl rfl rfl (by decide +kernel)) (aL (4)) (ad 0 (nd ["k","words"])) (@aM _) (fA (bD yF.1 yF.2 (0) aC) (iR (@pd _ _ _ _ _ _ _ _ _ _ _ _ HD GD (ah _) (0) (aU (show cb _ _ (rJ K) from iN) xm (1) aC) (by with_unfolding_all rfl))))) rfl))))) (ak (aD (cc _))) (DP _)))) (af (bf (aE GZ (aQ DK (aQ Eg (2) (ah _)) (ah _)) (aQ DK (aQ Eg (2) (ah _)) (ah _)) (aH _)) (ak (aD (cc _))) (DP _)) (af (ay 5 (Or.inl rfl) (bD xx.1 xx.2 (aR (ao (ts:=["k"]) (cap:=["makers"]) (js:=[1]) rfl rfl rfl rfl rfl rfl (by decide +kernel)) (aL (aQ Eg (2) (ah _))) (ad 0 (nd ["k","makers"])) (@aM _) (aQ (show IxR _ (eT K) from DK) (1) (0))) (by rfl))) (af (bf (aE (fB hr.units) (bD xx.1 xx.2 (aR (ao (ts:=["k"]) (cap:=["makers"]) (js:=[1]) rfl rfl rfl rfl rfl rfl (by decide +kernel)) (aL (aQ Eg (2) (ah _))) (ad 0 (nd ["k","makers"])) (@aM _) (aQ (show IxR _ (eT K) from DK) (1) (0))) (by rfl)) (5) (aH _)) (ak (aD (cc _))) (DP _)) (af (bf (@PW.pt _ _ _ (jT (aE HD (3) (ah _) (aH _)) (iu (aE GD (bh IC.1 IC.2 (DI (bW Ej xr EC (aJ (1) aC)) (aJ (5) aC) fE)) (ah _) (aH _))))) (ak (aD (cc _))) (DP _)) (ak (aD (bS Fc (aG (dH hc) xM Gn (aJ (aR (ao (ts:=["k"]) (cap:=["words"]) (js:=[0]) rfl rfl rfl rfl rfl rfl (by decide +kernel)) (aL (aQ Eg (2) (ah _))) (ad 0 (nd ["k","words"])) (@aM _) (aU DJ xm (aQ (show IxR _ (eT K) from DK) (1) (0)) (by rfl))) (by rfl))) (3) (aH _)))))))))),?_⟩
 walk_at "d"
 have h8:=hw.n8;have al:=cq hw.l1 a ha;have bl:=cq hw.l1 b hb;rw[elen] at al;rw[<- efl,elen] at bl;refine⟨_,rfl,.ref fa,.ty "tuple",_,_,true,rfl,rfl,.tup hfa,rfl,true,rfl,?_⟩;refine⟨_,rfl,fa,_,rfl,.inr (SqT.of hfa),rfl,false,rfl,?_⟩;refine⟨_,rfl,fa,rfl,⟨_,SqT.of hfa⟩,?_⟩;refine oG (K:=K) (a:=fa) (xs:=[.ref la,.ref lb]) (fun j σ' H'=>∃e4,σ'=[some (.ref Wl),some (.ref Mk),some (.ref fa),some (.int ((m:Nat):Int)),e4,none]/\DO H H') ⟨_,rfl,DO.refl _⟩ (fun j σ' H' hj z=>by obtain⟨_,_,z⟩:=z;exact SqT.of (z _ _ hfa)) (fun j x σ' H1 hx z=>?_) (fun σ' H1 z=>?_)
 ·obtain⟨e4,rfl,S1⟩:=z;obtain⟨p,c,rfl,hp,hc0,hcl,hcv⟩:∃p c,x=.ref p/\H p=some (.lst (iv c))/\c≠[]/\c.length<=15000/\∀i∈c,i<ws.length:=by
   have hj:j<2:=(zL.mp hx).1;obtain rfl|rfl:j=0\/j=1:=by lia
   ·injection hx with hx;exact⟨la,a,hx.symm,hla,na,by lia,ha⟩
   ·injection hx with hx;exact⟨lb,b,hx.symm,hlb,nb,by lia,hb⟩
  have hp1:=S1 _ _ hp;refine⟨_,rfl,.ref p,.ty "list",_,_,true,rfl,rfl,.lst hp1,rfl,true,rfl,?_⟩;refine⟨_,rfl,zX _,fun e ne=>?_⟩;have U:=ag ne (.lst []);refine⟨.list ((c.map fun n=>((n:Nat):Int)).map PyData.int),.list [],.lst (SqL.of (U _ _ hp1)) (dz _),.lst (SqL.of ae) .nil,ki _,rfl,sC _,false,(by cases c with|nil=>exact absurd rfl hc0|cons _ _=>rfl),?_⟩;have S2:=S1.trans U;generalize upd H1 e (.lst [])=H2 at S2 ⊢;have hp2:=S2 _ _ hp;refine⟨_,rfl,p,rfl,⟨_,SqL.of hp2⟩,?_⟩;refine bM (K:=K) (a:=p) (xs:=iv c) (fun j us H3=>H3=H2/\us=List.replicate j (V.bl true)) ⟨rfl,rfl⟩ (fun j us H3 hj z=>by rw[z.2,Bs];exact zE _) (aw (by rw[bN];lia)) (fun j us H3 hj z=>by rw[z.1];exact SqL.of hp2) (fun j v us H3 hv z=>?_) (fun us H3 z p3 np3=>?_)
  ·obtain⟨rfl,rfl⟩:=z;have hj:j<(iv c).length:=(zL.mp hv).1;obtain⟨n,en,rfl⟩:=jL hv;have hn:=hcv n (zS en);refine⟨_,rfl,_,rfl,_,rfl,?_⟩;refine⟨_,rfl,_,_,rfl,rfl,_,rfl,?_⟩;rw[Dc (DA n)];refine⟨_,rfl,Wl,_,rfl,.inl (SqL.of (S2 _ _ hW)),_,_,rfl,rfl,Nx.mk hj ⟨rfl,?_⟩⟩;show List.replicate j (V.bl true)++[V.bl (decide (((n:Nat):Int)<(((au ws).length:Nat):Int)))]=_;rw[aK,Dc (show((n:Nat):Int)<((ws.length:Nat):Int) by lia),List.replicate_succ']
  obtain⟨rfl,rfl⟩:=z;have T3:=ag np3 (.lst (List.replicate (iv c).length (V.bl true)));refine⟨p3,_,rfl,.inl (SqL.of ae),rfl,qE _,false,(by show V.bl (inV _ _)=_;rw[Ip]),?_⟩;exact⟨_,rfl,S2.trans T3⟩
 obtain⟨e4,rfl,S1⟩:=z;have fa1:=S1 _ _ hfa;have a1:=S1 _ _ hla;have b1:=S1 _ _ hlb;refine⟨_,rfl,fa,_,0,_,rfl,rfl,SqT.of fa1,rfl,la,_,0,_,rfl,rfl,SqL.of a1,oJ na,?_⟩;refine⟨_,rfl,fa,_,1,_,rfl,rfl,SqT.of fa1,rfl,lb,_,0,_,rfl,rfl,SqL.of b1,oJ nb,?_⟩;refine⟨_,_,rfl,rfl,false,(by show V.bl (decide (((b.headD 0:Nat):Int)<=((a.headD 0:Nat):Int)))=_;rw[Dd (by lia)]),?_⟩;have mk1:=mx S1 hMk;refine⟨_,rfl,fa,_,0,_,rfl,rfl,SqT.of fa1,rfl,la,rfl,⟨_,SqL.of a1⟩,fg rfl a1 (S1 _ _ hM) mk1 ha (by lia) fun p us np tl1=>?_⟩;have T1:=ag np (.lst us);refine⟨p,us,_,41,rfl,SqL.of ae,ik T1 tl1,oP hw ha,by rw[zF];lia,by decide,fun v H2 S2 t2=>?_⟩;rw[dY ws _ a rfl] at t2;have S3:=S1.trans (T1.trans S2);clear tl1 np T1 S2 mk1 fa1 a1 b1;have fa3:=S3 _ _ hfa;have b3:=S3 _ _ hlb;have mk3:=mx S3 hMk;refine⟨_,rfl,fa,_,1,_,rfl,rfl,SqT.of fa3,rfl,lb,rfl,⟨_,SqL.of b3⟩,fg rfl b3 (S3 _ _ hM) mk3 hb (by lia) fun p us np tl1=>?_⟩;have T1:=ag np (.lst us);refine⟨p,us,_,41,rfl,SqL.of ae,ik T1 tl1,oP hw hb,by rw[zF];lia,by decide,fun v2 H4 S4 t4=>?_⟩;rw[dY ws _ b rfl,<- efl] at t4;have t5:=t2.mono (T1.trans S4);have S5:=S3.trans (T1.trans S4);clear tl1 np T1 S4 mk3 fa3 b3 t2;refine⟨_,rfl,_,_,(t4.t4 (K:=K)).dat,(t5.t4 (K:=K)).dat,Tb.lay _,Tb.lay _,Tb.depth _,false,ui _,?_⟩;refine⟨_,rfl,_,_,rfl,rfl,_,rfl,?_⟩;have fin:∀{H':Hp},DO H H'->xh (tOp rEq (tCB (uX K) (fD (rP (rE K (tOp (rF K) (nQ 2) (tC (V.int 0)))) 1 [0] (jw 0) Hv (tCB (fun xs H Q=>∃z:Str,xs=[V.str z]/\z.length<=sizeLine/\Q (V.int ((z.length:Nat):Int)) H) (fD (tOp (eT K) (nQ 1) (nQ 0)) GI))) GI)) (nQ 3)) {nx:=fun x H'=>Q V.non H',rt:=Q} [some (.ref Wl),some (.ref Mk),some (.ref fa),some (.int ((m:Nat):Int)),e4,some v] H':=fun {H'} S=>by
  have a1:=S _ _ hla;refine⟨_,rfl,fa,_,0,_,rfl,rfl,SqT.of (S _ _ hfa),rfl,la,rfl,⟨_,SqL.of a1⟩,kG rfl a1 (S _ _ hW) hw.l40 ha (by lia) fun p np=>?_⟩
  ·refine⟨p,_,rfl,SqL.of ae,?_⟩;rw[gZ,elen];refine⟨_,rfl,rfl,?_⟩;show Q (V.bl (decide (V.int ((m:Nat):Int)=V.int ((m:Nat):Int)))) _;rw[Dc rfl];exact q _ (S.trans (ag np _))
 have xlr:∀c∈bq ws a,EK c:=fun c hc=>by
  obtain⟨l0,h1,h2⟩:=CF.mp hc;obtain⟨k,hk,rfl⟩:=zM.mp h1;exact hw.lr _ (aN (ha k hk)) c h2
 by_cases h4:((m:Nat):Int)<=400
 ·rw[Dc h4];refine⟨_,rfl,Mk,ys,rfl,.inl (SqL.of (S5 _ _ hM)),fun hd nhd=>?_⟩;have T2:=ag nhd (.lst ys);refine⟨_,rfl,ws,bq ws a,⟨hd,ys,v,rfl,ae,mx (S5.trans T2) hMk,hw,xlr,by lia,t5.mono T2⟩,fun H6 S6=>?_⟩;have h2:=qp hw ha hb (fun z=>by rw[z] at hab;lia) rfl efl.symm;refine⟨_,_,rfl,rfl,false,(by show V.bl (decide (Wn ws (bq ws a)<2))=_;rw[Dd (by lia)]),?_⟩;exact fin (S5.trans (T2.trans S6))
 ·rw[Dd h4];exact fin S5
open KM
theorem SqL.smb{H H':Hp}{T a:Addr}{ps:Array Value}{xs:List V}(hT:H T=some (.tbl ps))(h:SqL K H a xs)(S:SmB T H H'):SqL K H' a xs:=by
 rcases h with h|h
 ·rcases h with h|⟨o,h⟩
  ·exact .inl (.inl (S _ _ (cD h hT (fun z=>by cases z)) h))
  ·exact .inl (.inr ⟨o,S _ _ (cD h hT (fun z=>by cases z)) h⟩)
 ·exact .inr h
theorem qU{T l:Addr}{Hi H1 H2:Hp}(S:SmB T Hi H1)(n:Hi l=none)(d:Dr l H1 H2):SmB T Hi H2:=fun b o nT e=>by
 have z:b≠l:=ax e n;exact bg l _ _ _ (d.same b o (by rw[dG z];exact S b o nT e))
theorem Es.dr{pos:Pos}{q:Str}{T l:Addr}{H H':Hp}(h:Es pos q T H)(ds:Ds H l)(d:Dr l H H'):Es pos q T H':=by
 obtain⟨ps,h1,h2,h3⟩:=h.ex;obtain⟨x,y,z,e,_⟩:=ds;have tr:∀b o,H b=some o->o≠.lst [.int x,.int y,.int z]->H' b=some o:=fun b o hb ne=>bg l _ _ _ (d.same b o (by rw[dG (cD hb e ne)];exact hb));refine⟨ps,tr _ _ h1 (fun z=>by cases z),h2,?_⟩;rcases h3 with h3|⟨c,h3,h4⟩
 ·exact .inl h3
 ·exact .inr ⟨c,h3,tr _ _ h4 (fun z=>by cases z)⟩
structure Tw(ws:List (List Nat))(a b:List Nat)(m:Nat):Prop where
 ha:∀i∈a,i<ws.length
 hb:∀i∈b,i<ws.length
 na:a≠[]
 nb:b≠[]
 lt:a.headD 0<b.headD 0
 eq:bq ws a=bq ws b
 len:(bq ws a).length=m
 least:En ws m
 m15:m<=15000
theorem Tw.of{ws:List (List Nat)}{a b:List Nat}{dn:List (List Nat×Nat)}{E:KM.Ent}{f:Fd}(h:Dij ws dn E)(hf:([],f)∈E)(hm:(∀e∈E,f.1<=e.2.1)/\f.1<=15000)(h2:f.2=(a,b)\/f.2=(b,a))(lt:a.headD 0<b.headD 0):Tw ws a b f.1:=by
 have L:=h.min hf hm.1;obtain⟨T,_⟩:=h.wt.trk _ hf;obtain⟨i,j,s,t,e1,e2,n⟩:=T.ne;have ee:=T.eq;rw[AD] at ee;have tl:=T.len;have ta:=T.a;have tb:=T.b;have n1:f.2.1≠[]:=by rw[e1];exact List.cons_ne_nil _ _
 have n2:f.2.2≠[]:=by rw[e2];exact List.cons_ne_nil _ _
 rcases h2 with h2|h2<;>rw[h2] at ee tl ta tb n1 n2
 ·exact⟨ta,tb,n1,n2,lt,ee,tl.symm,L,hm.2⟩
 ·exact⟨tb,ta,n2,n1,lt,ee.symm,by rw[<- ee];exact tl.symm,L,hm.2⟩
theorem oA{H H':Hp}{T a:Addr}{ps:Array Value}{xs:List V}(hT:H T=some (.tbl ps))(S:SmB T H H')(h:H a=some (.lst xs)):H' a=some (.lst xs):=S _ _ (cD h hT (fun z=>by cases z)) h
theorem jW{T:Addr}{ts:List (List Nat)}{H:Hp}{σ:L2.St}{js:List Nat}{Q:VK}{c:Nat}{cz:Str}(hz:cz=txt [c])(hT:H T=some (.lst (au ts)))(hl:ts.length<=600)(hx:∀x∈ts,x.length<=10)(q:∀l,H l=none->Q (.ref l) (upd H l (.lst (au (ts.map fun x=>x++[c]))))) :
  fL (Itl K T) 1 js (jw 0) Hv (tOp (fun x y H Q=>∃i j:Str,x=.str i/\y=.str j/\i.length+j.length<=sizeLine/\Q (.str (i++j)) H) (nQ 0) (tC (.str cz))) σ H Q:=by
 have tl:=aK ts;have addl:∀x:List Nat,txt x++cz=txt (x++[c]):=fun x=>by
  rw[hz];apply eJ;rw[ig];rfl
 refine bM (K:=K) (a:=T) (xs:=au ts) (fun k zs H2=>H2=H/\zs=au ((ts.take k).map fun x=>x++[c])) ⟨rfl,rfl⟩ (fun k zs H2 hk z=>by rw[z.2,zF,zF,Aa];lia) (aw (by lia)) (fun k zs H2 hk z=>by rw[z.1];exact SqL.of hT) (fun k v zs H2 hv z=>?_) (fun zs H2 z P1 hP1=>?_)
 ·obtain⟨rfl,rfl⟩:=z;have hk:k<(au ts).length:=(zL.mp hv).1;obtain⟨x,ex,rfl⟩:=cg hv;have hl:=hx x (zS ex);refine⟨_,rfl,_,_,rfl,rfl,aw (by rw[hz];show x.length+1<=1000000;lia),Nx.mk hk ⟨rfl,?_⟩⟩;rw[br ex,zV,addl];show au _++au [x++[c]]=_;exact dO _ _
 ·obtain⟨rfl,rfl⟩:=z;rw[tl,Ap];exact q _ hP1
def uJ (T:Addr):Sp:=fun vs H Q _=>∃p,vs=[.ref p]/\Ds H p/\Es FF FJ T H/\∀H',(∀b o,b≠T->b≠p->H b=some o->H' b=some o)->Es FF FJ T H'->Q (.bl true) H'
theorem ua{da dp dl dc dt d:DD}{T:Addr}(xp:(dg "_law_draw" 41 ["draws","many"] da 1 Fv))(xD:(dg "_law_piece" 42 ["draws","most"] dp 2 FU))(xV:(dg "_law_of_letters" 43 ["word"] dl 3 (sS K)))(yD:(dg "_law_counts" 44 ["words","text"] dc 1 IZ))(xW:(dg "twins" 36 ["makers"] dt 6 (rS T)))(D:Def K mg "_law_small_right" (top 49) ["draws"] d)(xm:mg "len"=none)(xM:mg "sum"=none)(xw:mg "min"=none)(xn:mg "range"=none):(fk 7 d ["draws"] (uJ T)):=by
 exists["draws","words","found","texts","letters","many"]
 obtain⟨p,rfl,ds,lt,q⟩:=h;refine⟨_,(af (ay 1 (Or.inr rfl) (aR (ao (ts:=["k"]) (cap:=["draws"]) (js:=[0]) rfl rfl rfl rfl rfl rfl (by decide +kernel)) (bp xn (aJ (aF Eb (ah _) (bh xp.1 xp.2 (DI (0) (aJ (ah _) bB) aC))) (by rfl))) (ad 0 (nd ["k","draws"])) (@aM _) (bh xD.1 xD.2 (DI (1) (aJ (ah _) bB) aC)))) (af (ay 2 (Or.inl rfl) (ku (bD xW.1 xW.2 (aR (ao (ts:=["word"]) (cap:=[]) (js:=[]) rfl rfl rfl rfl rfl rfl (by decide +kernel)) (aL (1)) (ad 0 (nd ["word"])) (@aM _) (bD xV.1 xV.2 (0) aC)) (by rfl)))) (af (ay 3 (Or.inl rfl) (bw (aJ (bA _) bB))) (af (ay 4 (Or.inl rfl) (ah _)) (af (mH (bf (aE FY (2) (cn _) (aH _)) (ak (ay 4 (Or.inl rfl) (aG (dH hc) xM Gn (aJ (aR (ao (ts:=["k"]) (cap:=["words"]) (js:=[1]) rfl rfl rfl rfl rfl rfl (by decide +kernel)) (aL (aQ Eg (2) (ah _))) (ad 0 (nd ["k","words"])) (@aM _) (aU DJ xm (aQ (show IxR _ (eT K) from DK) (1) (0)) (by rfl))) (by rfl))))) (DP _))) (af (bZ (fk xn (DI (ah _) (aJ (aG (iU hc) xw Fj (DI (ah _) (aJ (4) aC) bB)) fE) bB)) (ar 5) (af (ay 3 (Or.inl rfl) (aF Fy (aR (ao (ts:=["text"]) (cap:=[]) (js:=[]) rfl rfl rfl rfl rfl rfl (by decide +kernel)) (aL (3)) (ad 0 (nd ["text"])) (@aM _) (aF Ep (0) (bA _))) (aR (ao (ts:=["text"]) (cap:=[]) (js:=[]) rfl rfl rfl rfl rfl rfl (by decide +kernel)) (aL (3)) (ad 0 (nd ["text"])) (@aM _) (aF Ep (0) (bA _))))) (ak (bf (aE (fB hr.units) (aR (ao (ts:=["text"]) (cap:=["words"]) (js:=[1]) rfl rfl rfl rfl rfl rfl (by decide +kernel)) (aL (3)) (ad 0 (nd ["text","words"])) (@cH _ _ _ (aE Iz (aQ (show IxR _ (rF K) from Eg) (aQ (show IxR _ (eT K) from DK) (bh yD.1 yD.2 (DI (1) (aJ (0) aC) aC)) (tq GR (ah _))) (ah _)) (ah _) (aH _))) (0)) (bw (@DZ _)) (aH _)) (ak (aD (cc _))) (DP _))))) (ak (aD (cc _))))))))),?_⟩
 walk_at "d"
 obtain⟨ps0,hT0,_⟩:=id lt.ex;have neT:p≠T:=fun z=>by
  obtain⟨x,y,z',e,_⟩:=ds;rw[z,hT0] at e;cases e
 refine⟨_,rfl,p,4,rfl,ds,by decide,by decide,fun r1 H1 b0 b1 d1=>⟨_,_,rfl,rfl,?_⟩⟩;refine⟨1+r1,rfl,by lia,by lia,?_⟩;refine sD (lo:=0) (n:=(1+r1).toNat) (fun j ys H'=>Dr p H H'/\∃ws,ys=au ws/\ws.length=j/\∀cs∈ws,(1<=cs.length/\cs.length<=3)/\∀c∈cs,EK c) ⟨d1,[],rfl,rfl,fun cs h=>absurd h (by simp)⟩ (fun j ys H' hj z=>by obtain⟨_,ws,rfl,e,_⟩:=z;rw[aK,e];exact zE _) (aw (by lia)) (fun j ys H' hj z=>?_) (fun ys H' z W nW=>?_)
 ·obtain⟨z1,ws,rfl,e,hb⟩:=z;refine⟨_,rfl,p,3,rfl,by decide,by decide,z1.ds,fun z H4 d4 zlr z1' zm=>Nx.mk hj ⟨z1.trans d4,ws++[z.cps.toList],cR ws z,by rw[zG,e];rfl,fun cs h=>?_⟩⟩;rcases zH.mp h with h|h
  ·exact hb cs h
  ·rw[zK.mp h];have el:z.cps.toList.length=z.length:=zR;exact⟨⟨by rw[el];exact z1',by rw[el];lia⟩,zlr⟩
 obtain⟨z1,ws,rfl,e,hb⟩:=z;have hw:Wds ws:=⟨by lia,by lia,fun cs h=>(hb cs h).2,fun cs h=>(hb cs h).1.1,fun cs h=>zO (hb cs h).1.2 (by decide)⟩
 have w8:=hw.n8;have tl:=aK ws;have DW:=Dr.new z1.ds nW (.lst (au ws));have gW:upd H' W (.lst (au ws)) W=some (.lst (au ws)):=ae;have D2:=z1.trans DW;have lt2:=Es.dr lt ds D2;have fr2:∀b o,b≠p->H b=some o->upd H' W (.lst (au ws)) b=some o:=fun b o nb hbo=>bg p _ _ _ (D2.same b o (by rw[dG nb];exact hbo));generalize upd H' W (.lst (au ws))=H2 at gW lt2 fr2 ⊢;clear DW D2 z1 nW;refine⟨fun v H4=>SmB T H2 H4/\Es FF FJ T H4/\((v=.non/\∀m,¬Rch ws [] m)\/∃fa la lb a b m,v=.ref fa/\H4 fa=some (.tup [.ref la,.ref lb])/\H4 la=some (.lst (iv a))/\Tw ws a b m),?_,?_⟩
 ·refine⟨_,rfl,W,rfl,⟨_,SqL.of gW⟩,?_⟩;refine bM (K:=K) (a:=W) (xs:=au ws) (fun k ys H'=>DO H2 H'/\ys.length<=k/\Mks H' ys (ws.take k)) ⟨DO.refl _,zE _,.nil⟩ (fun k ys H' hk z=>z.2.1) (aw (by lia)) (fun k ys H' hk z=>SqL.of (z.1 _ _ gW)) (fun k v ys H' hv z=>?_) (fun ys H' z M nM=>?_)
  ·obtain⟨y1,y2,y3⟩:=z;have hk:k<(au ws).length:=(zL.mp hv).1;obtain⟨cs,hcs,rfl⟩:=cg hv;have mcs:=zS hcs;refine⟨_,rfl,txt cs,rfl,(by have:=(hb cs mcs).1.2;show cs.toArray.size<=1000;rw[zY];lia),(fun c hc=>?_),fun r H4 S4 h4=>Nx.mk hk ⟨y1.trans S4,by rw[zG];exact Dz y2,?_⟩⟩
   ·rcases (hb cs mcs).2 c hc with h|h
    ·exact .inl h
    ·exact .inr (.inl h)
   rw[br hcs];refine bV (mx S4 y3) ?_;rw[gJ] at h4;exact h4
  obtain⟨y1,y2,y3⟩:=z;rw[tl,Ap] at y3;have SM:=ag nM (.lst ys);have S3:=y1.trans SM;have mk3:=mx SM y3;have lt3:=lt2.same S3;have gM:upd H' M (.lst ys) M=some (.lst ys):=ae;generalize upd H' M (.lst ys)=H3 at S3 mk3 lt3 gM ⊢;clear SM y1 y2 y3 nM;refine⟨M,ys,ws,rfl,gM,mk3,hw,lt3,fun dn H4 dj S4 lt4=>?_,fun fa la lb a b dn E f H4 dj hf hm h2 hlt g1 g2 g3 S4 lt4=>?_⟩
  ·exact⟨(SmB.of S3).trans S4,lt4,.inl ⟨rfl,dj.none⟩⟩
  ·exact⟨(SmB.of S3).trans S4,lt4,.inr ⟨fa,la,lb,a,b,f.1,rfl,g1,g2,Tw.of dj hf hm h2 hlt⟩⟩
 rintro v H3 ⟨S3,lt3,hv⟩;obtain⟨ps2,hT2,_⟩:=id lt2.ex;have gW3:=oA hT2 S3 gW;have fr3:∀b o,b≠T->b≠p->H b=some o->H3 b=some o:=fun b o n1 n2 h=>S3 _ _ n1 (fr2 b o n2 h);refine⟨aw (by show 1<=1000000;decide),fun X0 nX=>?_⟩;have S4:=ag nX (.lst [.str ""]);have gX:upd H3 X0 (.lst [.str ""]) X0=some (.lst (au [[]])):=ae;have gW4:=S4 _ _ gW3;have lt4:=lt3.same S4;have fr4:∀b o,b≠T->b≠p->H b=some o->upd H3 X0 (.lst [.str ""]) b=some o:=fun b o n1 n2 h=>S4 _ _ (fr3 b o n1 n2 h);have hv4:(v=.non/\∀m,¬Rch ws [] m)\/∃fa la lb a b m,v=.ref fa/\upd H3 X0 (.lst [.str ""]) fa=some (.tup [.ref la,.ref lb])/\upd H3 X0 (.lst [.str ""]) la=some (.lst (iv a))/\Tw ws a b m:=by
  rcases hv with h|⟨fa,la,lb,a,b,m,h1,h2,h3,h4⟩
  ·exact .inl h
  ·exact .inr ⟨fa,la,lb,a,b,m,h1,S4 _ _ h2,S4 _ _ h3,h4⟩
 generalize upd H3 X0 (.lst [.str ""])=H4 at gX gW4 lt4 fr4 hv4 ⊢;clear hv gW3 fr3 lt3 S3 S4 nX;refine⟨fun σ' H'=>∃n:Nat,σ'=[some (.ref p),some (.ref W),some v,some (.ref X0),some (.int ((n:Nat):Int)),none]/\DO H4 H'/\∀x:List Nat,x.length<n->x.length<10->¬1<Wn ws x,?_,?_⟩
 ·rcases hv4 with ⟨rfl,no⟩|⟨fa,la,lb,a,b,m,rfl,g1,g2,tw⟩
  ·refine⟨_,rfl,rfl,false,rfl,?_⟩;exact⟨10,rfl,DO.refl _,fun x _ _=>rR hw no⟩
  ·refine⟨_,rfl,rfl,true,rfl,?_⟩;have al:=cq hw.l1 a tw.ha;rw[tw.len] at al;have m15:=tw.m15;refine⟨_,rfl,fa,_,0,_,rfl,rfl,SqT.of g1,rfl,la,rfl,⟨_,SqL.of g2⟩,kG rfl g2 gW4 hw.l40 tw.ha (by lia) fun l nl=>?_⟩;refine⟨l,_,rfl,SqL.of ae,?_⟩;rw[gZ,tw.len];exact⟨m,rfl,ag nl _,fun x h1 _ h2=>by have:=qr hw tw.least h2;lia⟩
 rintro _ H5 ⟨n,rfl,S5,no⟩;have gX5:=S5 _ _ gX;have gW5:=S5 _ _ gW4;have lt5:=lt4.same S5;have fr5:∀b o,b≠T->b≠p->H b=some o->H5 b=some o:=fun b o n1 n2 h=>S5 _ _ (fr4 b o n1 n2 h);clear S5 gX gW4 fr4 lt4 hv4;have hmn:(if ((n:Nat):Int)<10 then ((n:Nat):Int) else 10)=((min 10 n:Nat):Int):=by
  split<;>lia
 refine⟨_,rfl,10,_,rfl,_,_,rfl,⟨by decide,by decide,by split<;>lia,by split<;>lia⟩,?_⟩;have p2:∀i:Nat,i<=9->2^i<=512:=fun i hi=>CD (n:=2) (by decide) hi;refine cm (lo:=1) (n:=_) (fun i σ' H'=>∃X ts e5,σ'=[some (.ref p),some (.ref W),some v,some (.ref X),some (.int ((n:Nat):Int)),e5]/\DO H5 H'/\H' X=some (.lst (au ts))/\ts.length=2^i/\∀x∈ts,x.length=i) ⟨X0,[[]],_,rfl,DO.refl _,gX5,rfl,fun x hx=>by rw[zK.mp hx];rfl⟩ (fun i σ' H6 hi z=>?_) (fun σ' H6 z=>?_)
 ·obtain⟨X,ts,e5,rfl,S6,gX6,lts,hts⟩:=z;rw[hmn] at hi;have hi9:i<9:=by lia
  have hin:i+1<n:=by lia
  have hp9:=p2 i (by lia);refine⟨_,rfl,X,rfl,⟨_,SqL.of gX6⟩,jW (c:=108) (by decide +kernel) gX6 (by lia) (fun x hx=>by rw[hts x hx];lia) fun l1 n1=>?_⟩;have T1:=ag n1 (.lst (au (ts.map fun x=>x++[108])));have g1:upd H6 l1 (.lst (au (ts.map fun x=>x++[108]))) l1=some (.lst (au (ts.map fun x=>x++[108]))):=ae;have gX7:=T1 _ _ gX6;generalize upd H6 l1 (.lst (au (ts.map fun x=>x++[108])))=H7 at T1 g1 gX7 ⊢;refine⟨_,rfl,X,rfl,⟨_,SqL.of gX7⟩,jW (c:=114) (by decide +kernel) gX7 (by lia) (fun x hx=>by rw[hts x hx];lia) fun l2 n2=>?_⟩;have T2:=ag n2 (.lst (au (ts.map fun x=>x++[114])));have g2:upd H7 l2 (.lst (au (ts.map fun x=>x++[114]))) l2=some (.lst (au (ts.map fun x=>x++[114]))):=ae;have g1':=T2 _ _ g1;generalize upd H7 l2 (.lst (au (ts.map fun x=>x++[114])))=H8 at T2 g2 g1' ⊢;refine⟨l1,l2,_,_,rfl,rfl,g1',g2,aw (by rw[aK,aK,zF,zF];lia),fun X1 nX1=>?_⟩;rw[dO];have mem:∀x∈ts.map (fun x=>x++[108])++ts.map (fun x=>x++[114]),x.length=i+1:=fun x hx=>by
   rcases zH.mp hx with hx|hx<;>obtain⟨y,hy,rfl⟩:=zM.mp hx<;>rw[zG,hts y hy]<;>rfl
  have eF:(ts.map (fun x=>x++[108])++ts.map (fun x=>x++[114])).length=2^(i+1):=by rw[zG,zF,zF,lts,Nat.pow_succ];lia
  generalize ts.map (fun x=>x++[108])++ts.map (fun x=>x++[114])=us at mem eF ⊢;have hp10:=p2 (i+1) (by lia);have T3:=ag nX1 (.lst (au us));have gX9:upd H8 X1 (.lst (au us)) X1=some (.lst (au us)):=ae;have S9:=S6.trans (T1.trans (T2.trans T3));generalize upd H8 X1 (.lst (au us))=H9 at gX9 S9 ⊢;clear T1 T2 T3 g1 g2 g1' gX7 n1 n2 nX1;have gW9:=S9 _ _ gW5;refine⟨_,rfl,X1,rfl,⟨_,SqL.of gX9⟩,?_⟩;refine bM (K:=K) (a:=X1) (xs:=au us) (fun k zs H'=>DO H9 H'/\zs=[]) ⟨DO.refl _,rfl⟩ (fun k zs H' hk z=>by rw[z.2];exact zX _) (aw (by rw[aK];lia)) (fun k zs H' hk z=>SqL.of (z.1 _ _ gX9)) (fun k v zs H' hv z=>?_) (fun zs H' z L0 nL0=>?_)
  ·obtain⟨y1,rfl⟩:=z;have hk:k<(au us).length:=(zL.mp hv).1;obtain⟨x,ex,rfl⟩:=cg hv;have lx:=mem x (zS ex);refine⟨_,rfl,_,rfl,W,ws,x,rfl,y1 _ _ gW9,hw.ok,by lia,fun pp vs H10 S10 npp gpp cns=>?_⟩;obtain⟨ca,ec,gc⟩:=cns.at (i:=x.length) (by rw[eY];lia);have lv:vs.length=x.length+1:=by rw[Paired.length cns,eY]
   refine⟨1,rfl,pp,vs,-1,.ref ca,rfl,rfl,SqL.of gpp,rA lv ec,ca,_,1,_,rfl,rfl,SqT.of gc,rfl,_,_,rfl,rfl,false,?_,?_⟩
   ·show V.bl (decide (1<((fK ws x x.length).getD x.length (none,0)).2))=_;rw[<- sM];exact congrArg V.bl (Dd (no x (by lia) (by lia)))
   refine Eq.mpr (CY (c:=false=true) (by decide)) ?_;exact Nx.mk hk ⟨y1.trans S10,rfl⟩
  obtain⟨y1,rfl⟩:=z;refine⟨zX _,fun e2 ne2=>?_⟩;have T2:=ag nL0 (.lst []);have T3:=ag ne2 (.lst []);refine⟨.list [],.list [],.lst (SqL.of (T3 _ _ ae)) .nil,.lst (SqL.of ae) .nil,rfl,rfl,(by decide),false,rfl,?_⟩;exact⟨X1,us,_,rfl,S9.trans (y1.trans (T2.trans T3)),T3 _ _ (T2 _ _ (y1 _ _ gX9)),eF,mem⟩
 ·obtain⟨X,ts,e5,rfl,S6,_⟩:=z;exact q H6 (fun b o n1 n2 h=>S6 _ _ (fr5 b o n1 n2 h)) (lt5.same S6)
open KM
theorem rM{zs':List Str}{zz:List (List Nat)}(h:zs'.Perm (ddS (zz.map txt).reverse)):∃os:List (List Nat),zs'=os.map txt/\os.Nodup/\∀z,z∈os↔z∈zz:=by
 have e:zs'=(zs'.map fun z=>z.cps.toList).map txt:=by
  rw[AG];exact(List.map_id' zs').symm
 have nd:zs'.Nodup:=h.nodup_iff.mpr (GQ _);refine⟨_,e,?_,fun z=>?_⟩
 ·rw[e] at nd;exact List.Pairwise.of_map txt (fun a b h e=>h (by rw[e])) nd
 ·have m:∀u:Str,u∈zs'↔∃y∈zz,txt y=u:=fun u=>by rw[h.mem_iff,EG,List.mem_reverse,zM]
  rw[zM];constructor
  ·rintro⟨u,hu,rfl⟩;obtain⟨y,hy,ey⟩:=(m u).mp hu;rw[<- ey];exact hy
  ·intro hz;exact⟨txt z,(m _).mpr ⟨z,hz,rfl⟩,rfl⟩
theorem sT{ws os:List (List Nat)}{f:List Nat->List Nat}(hw:Wds ws)(hf:∀w∈ws,(f w).length=4/\∀c∈f w,c∈w)(nd:os.Nodup)(m:∀z,z∈os↔z∈ws.map f):Wds os:=by
 have from':∀z∈os,∃w∈ws,f w=z:=fun z hz=>zM.mp ((m z).mp hz);refine⟨?_,?_,fun z hz c hc=>?_,fun z hz=>?_,fun z hz=>?_⟩
 ·have h1:=hw.n1;obtain⟨w,r,e⟩:∃w r,ws=w::r:=by
   cases ws with
   |nil=>exact absurd h1 (by decide)
   |cons w r=>exact⟨w,r,rfl⟩
  have:f w∈os:=(m _).mpr (zM.mpr ⟨w,by rw[e];exact zQ,rfl⟩);exact List.length_pos_of_mem this
 ·have:=jq (ws.map f) nd fun z hz=>(m z).mp hz;rw[zF] at this;exact zO this hw.n8
 ·obtain⟨w,h,rfl⟩:=from' z hz;exact hw.lr w h c ((hf w h).2 c hc)
 ·obtain⟨w,h,rfl⟩:=from' z hz;rw[(hf w h).1];decide
 ·obtain⟨w,h,rfl⟩:=from' z hz;rw[(hf w h).1];decide
def ja (w:List Nat):List Nat:=(Txt.slice (Txt.mul (txt w) 4) none (some 4)).cps.toList
theorem qz{w:List Nat}(h:1<=w.length):(ja w).length=4:=by
 have e:=dE (Txt.mul (txt w) 4) 4;rw[cX] at e;have e2:(txt w).length=w.length:=by show w.toArray.size=_;simp
 rw[e2] at e;show(Txt.slice (Txt.mul (txt w) 4) none (some ((4:Nat):Int))).length=4;rw[e];show min 4 (4*w.length)=4;lia
theorem qo{w:List Nat}{c:Nat}(h:c∈ja w):c∈w:=gU (z:=txt w) (cI h)
theorem Lo.rch{ws:List (List Nat)}{x:List Nat}(h:Lo ws x):∃m,Rch ws x m:=by
 induction h with
 |first h=>
  obtain⟨i,j,hi,hj,n,e⟩:=h;exact⟨_,.first hi hj n e⟩
 |next h n k ih=>
  obtain⟨m,hm⟩:=ih;obtain⟨i,hi,e|e⟩:=k
  ·exact⟨_,.within hm n hi e⟩
  ·exact⟨_,.beyond hm n hi e⟩
theorem Rch.lo{ws:List (List Nat)}{x:List Nat}{m:Nat}(h:Rch ws x m):Lo ws x:=by
 induction h with
 |first a b c d=>exact .first ⟨_,_,a,b,c,d⟩
 |within _ n hk e ih=>exact .next ih n ⟨_,hk,.inl e⟩
 |beyond _ n hk e ih=>exact .next ih n ⟨_,hk,.inr e⟩
theorem Ls.rch{ws os:List (List Nat)}(h:Ls ws os):[]∈os↔∃m,Rch ws [] m:=⟨fun z=>Lo.rch ((h.mem _).mp z),fun hq105=>by obtain⟨_,z⟩:=hq105;exact(h.mem _).mpr (Rch.lo z)⟩
theorem Ls.JX{ws os:List (List Nat)}(hw:Wds ws)(h:Ls ws os):Let ws os↔[]∉os:=by
 refine⟨fun z=>z.ne,fun z=>⟨z,fun x hx c hc=>?_,fun y hy=>(h.mem _).mpr (.first hy),fun x hx y hy=>(h.mem _).mpr (.next ((h.mem x).mp hx) (fun e=>z (by rw[<- e];exact hx)) hy)⟩⟩;obtain⟨u,hu,y,e⟩:=((h.mem x).mp hx).sfx;exact hw.lr _ hu c (by rw[e];exact zI _ hc)
theorem Ls.len{ws os:List (List Nat)}(hw:Wds ws)(h:Ls ws os):os.length<=328/\∀x∈os,x.length<=40:=by
 refine⟨fC hw.n8 hw.l40 h.nd fun x hx=>((h.mem x).mp hx).sfx,fun x hx=>?_⟩;obtain⟨u,hu,y,e⟩:=((h.mem x).mp hx).sfx;have:=hw.l40 _ hu;rw[e,zG] at this;lia
theorem En.one{ws:List (List Nat)}{m n:Nat}(a:En ws m)(b:En ws n):m=n:=Nat.le_antisymm (a.2 n b.1) (b.2 m a.1)
theorem qI{l b:Addr}{H:Hp}{o:HO}(h:hid l H b=some o):b≠l:=fun z=>by
 unfold hid at h;rw[CZ z] at h;cases h
structure Sx(l T:Addr)(Hi:Hp)(W M:Addr)(ws:List (List Nat))(ys:List V)(H:Hp):Prop where
 fi:SmB T Hi H
 ds:Ds H l
 lt:Es FF FJ T H
 w:hid l H W=some (.lst (au ws))
 m:hid l H M=some (.lst ys)
 ms:Mks (hid l H) ys ws
theorem Sx.dr{l T:Addr}{Hi:Hp}{W M:Addr}{ws:List (List Nat)}{ys:List V}{H H':Hp}(nl:Hi l=none)(s:Sx l T Hi W M ws ys H)(d:Dr l H H'):Sx l T Hi W M ws ys H':=
 ⟨qU s.fi nl d,d.ds,Es.dr s.lt s.ds d,d.same _ _ s.w,d.same _ _ s.m,mx d.same s.ms⟩
theorem Sx.same{l T:Addr}{Hi:Hp}{W M:Addr}{ws:List (List Nat)}{ys:List V}{H H':Hp}(nl:Hi l=none)(s:Sx l T Hi W M ws ys H)(d:DO H H'):Sx l T Hi W M ws ys H':=s.dr nl (Dr.of_same s.ds d)
theorem Sx.smb{l T:Addr}{Hi:Hp}{W M:Addr}{ws:List (List Nat)}{ys:List V}{H H':Hp}(s:Sx l T Hi W M ws ys H)(S:SmB T H H')(lt:Es FF FJ T H'):Sx l T Hi W M ws ys H':=by
 obtain⟨ps,hT,_⟩:=s.lt.ex;have up:∀{b:Addr}{o:HO},hid l H b=some o->o≠.tbl ps->hid l H' b=some o:=fun {b o} h n=>by
  have nl:=qI h;rw[dG nl] at h ⊢;exact S _ _ (cD h hT n) h
 obtain⟨x,y,z,e,ok⟩:=s.ds;refine⟨s.fi.trans S,⟨x,y,z,S _ _ (cD e hT (fun z=>by cases z)) e,ok⟩,lt,up s.w (fun z=>by cases z),up s.m (fun z=>by cases z),Paired.EW s.ms fun v cs hq107=>by obtain⟨a,e,h⟩:=hq107;exact⟨a,e,up h (fun z=>by cases z)⟩⟩
theorem Sx.mk'{l T:Addr}{Hi:Hp}{W M:Addr}{ws:List (List Nat)}{ys:List V}{H:Hp}(s:Sx l T Hi W M ws ys H):Mks H ys ws:=mx (bg l _) s.ms
theorem Sx.m'{l T:Addr}{Hi:Hp}{W M:Addr}{ws:List (List Nat)}{ys:List V}{H:Hp}(s:Sx l T Hi W M ws ys H):H M=some (.lst ys):=bg l _ _ _ s.m
theorem Sx.w'{l T:Addr}{Hi:Hp}{W M:Addr}{ws:List (List Nat)}{ys:List V}{H:Hp}(s:Sx l T Hi W M ws ys H):H W=some (.lst (au ws)):=bg l _ _ _ s.w
theorem wk(b:Bool):V.bl (decide (V.bl b=V.bl (!b)))=V.bl false:=by cases b<;>rfl
theorem tO(b:Bool):V.bl (!decide (V.bl b=V.bl b))=V.bl false:=by cases b<;>rfl
theorem nr{ws:List (List Nat)}(h:∀cs∈ws,cs.length<=40):∀(r:List Nat),(∀i∈r,i<ws.length)->(bq ws r).length<=40*r.length
 |[],_=>zE _
 |k::r,hr=>by
  have:=nr h r fun i hi=>hr i (Ac _ hi);have:=h _ (aN (hr k (zQ ..)));rw[aY,zG,Ah];lia
open KM
structure Km where
 draws:DD
 draw:DD
 lmk:DD
 ofl:DD
 made:DD
 sho:DD
 smr:DD
 prt:DD
 lo:DD
 lb:DD
 twn:DD
 mr:DD
structure All(T:Addr)(P:Program)(w:World)(K:W.Frag)(mg:Str->Option Value)(base:Heap)(d:Km):Prop where
 xN:Def K mg "_law_draws" (top 45) ["script","k"] d.draws
 xp:Def K mg "_law_draw" (top 41) ["draws","many"] d.draw
 yE:Def K mg "_law_makers" (top 46) ["draws"] d.lmk
 xV:Def K mg "_law_of_letters" (top 43) ["word"] d.ofl
 xx:Def K mg "_law_made" (top 40) ["tables"] d.made
 yI:Def K mg "_law_shortest" (top 47) ["words"] d.sho
 yJ:Def K mg "_law_small_right" (top 49) ["draws"] d.smr
 yH:Def K mg "_law_pair_right" (top 48) ["words","makers","found","letters"] d.prt
 JK:Def K mg "leftovers" (top 29) ["makers"] d.lo
 JE:Def K mg "let_by" (top 31) ["makers","texts"] d.lb
 xW:Def K mg "twins" (top 36) ["makers"] d.twn
 IC:Def K mg "many_rows" (top 22) ["makers","table"] d.mr
 xS:(fk 1 d.draws ["script","k"] (oe K))
 xq:(fk 1 d.draw ["draws","many"] Fv)
 yO:(fk 3 d.lmk ["draws"] Jo)
 yn:(fk 3 d.ofl ["word"] (sS K))
 xC:(fk 2 d.made ["tables"] (jU K))
 yS:(fk 1 d.sho ["words"] IX)
 yT:(fk 7 d.smr ["draws"] (uJ T))
 yR:(fk 7 d.prt ["words","makers","found","letters"] Jv)
 Ka:(fk 6 d.lo ["makers"] Ki)
 JT:(fk 6 d.lb ["makers","texts"] Kk)
 yo:(fk 6 d.twn ["makers"] (rS T))
 IM:(fk 6 d.mr ["makers","table"] Ke)
 xn:mg "range"=none
 zj:mg "max"=none
 xw:mg "min"=none
 xm:mg "len"=none
 xr:mg "list"=none
 zk:mg "set"=none
 xB:mg "sorted"=none
theorem HU:DN ["script","k","draws","words","makers","letters","handed","found","left","turn","row"] ["script"] (av (top 50)):=by walk_at "s"
theorem jb(m:Int)(h:0<=m):-(2^62)<=(if (if m<6 then m else 6)>1 then (if m<6 then m else 6) else 1)/\(if (if m<6 then m else 6)>1 then (if m<6 then m else 6) else 1)<2^62/\(if (if m<6 then m else 6)>1 then (if m<6 then m else 6) else 1).toNat<=6:=by
 split<;>split<;>lia
def pB (T:Addr)(K:W.Frag):Sp:=fun vs H Q _=>∃(a:Addr)(ns:List Int),vs=[.ref a]/\SqL K H a (ns.map V.int)/\ns.length<=63/\Es FF FJ T H/\∀H',Q (.bl true) H'
theorem ug{d:DD}{T:Addr}{D:Km}(A:All T P w K mg base D)(DL:Def K mg "law" (top 50) ["script"] d):(fk 8 d ["script"] (pB T K)):=by
 refine DL.fn.ok HU (fun vs H Q E h=>?_) (fun cdv Ar outer s H vs Q E hr h=>?_)
 ·obtain⟨a,ns,rfl,_⟩:=h;rfl
 obtain⟨a,ns,rfl,hS0,h63,lt0,q⟩:=h;have hc:=hr.calm;have hh:=hr.hd;have nd:=HU.nd;refine⟨_,(af (bf (cB (bH (bD A.yJ A.yT (bh A.xN A.xS (DI (0) (aJ (ah _) bB) aC)) fE))) (ak (aD (cc _))) (DP _)) (af (bZ (bp A.xn (aJ (aG (mL hc) A.zj Jq (DI (ah _) (aJ (aG (iU hc) A.xw Fj (DI (ah _) (aJ (aU DQ A.xm (0) aC) fE) bB)) fE) bB)) fE)) (ar 1) (af (ay 2 (Or.inr rfl) (bh A.xN A.xS (DI (0) (aJ (aF Eb (ah _) (1)) (by rfl)) aC))) (af (ay 3 (Or.inr rfl) (bD A.yE A.yO (2) aC)) (af (mH (bf (aE Fc (bh A.xp A.xq (DI (2) (aJ (ah _) bB) aC)) (ah _) (aH _)) (ak (ay 3 (Or.inr rfl) (jD hh (rN hh (aR (ao (ts:=["word"]) (cap:=[]) (js:=[]) rfl rfl rfl rfl rfl rfl (by decide +kernel)) (aL (3)) (ad 0 (nd ["word"])) (@aM _) (ba Ek (aF Fo (0) (ah _)) (Ea _) (bx (ah _)))) A.zk) A.xB FK))) (DP _))) (af (ay 4 (Or.inr rfl) (aR (ao (ts:=["word"]) (cap:=[]) (js:=[]) rfl rfl rfl rfl rfl rfl (by decide +kernel)) (aL (3)) (ad 0 (nd ["word"])) (@aM _) (bD A.xV A.yn (0) aC))) (af (ay 5 (Or.inl rfl) (ku (bD A.yI A.yS (3) aC))) (af (ay 6 (Or.inl rfl) (bW Ej A.xr EC (aJ (4) aC))) (af (ay 7 (Or.inl rfl) (ku (bD A.xW A.yo (6) aC))) (af (bf (aE (fB hr.units) (6) (4) (aH _)) (ak (aD (cc _))) (DP _)) (af (ay 8 (Or.inl rfl) (bD A.JK A.Ka (bW Ej A.xr EC (aJ (4) aC)) fE)) (af (bf (@PW.pt _ _ _ (gQ (aE GC (bS Fh (7) (cn _) (aH _)) (bS Fh (5) (cn _) (aH _)) (aH _)) (eR (aE Fc (bS Fh (5) (cn _) (aH _)) (bS ET (bA _) (8) rfl) (aH _))))) (ak (aD (cc _))) (DP _)) (af (bf (aE GC (bh A.JE A.JT (DI (bW Ej A.xr EC (aJ (4) aC)) (aJ (8) aC) fE)) (bS Fh (5) (cn _) (aH _)) (aH _)) (ak (aD (cc _))) (DP _)) (ak (bf (aE FY (7) (cn _) (aH _)) (ak (bf (cB (bH (bh A.yH A.yR (DI (3) (DI (4) (DI (7) (aJ (5) aC) aC) aC) aC)))) (ak (aD (cc _))) (DP _))) (ak (bZ (bp A.xn (aJ (ah _) bB)) (ar 9) (af (eK 10 (ao (ts:=["j"]) (cap:=["draws","words"]) (js:=[2,3]) rfl rfl rfl rfl rfl rfl (by decide +kernel)) (bp A.xn (aJ (bh A.xp A.xq (DI (2) (aJ (ah _) bB) aC)) fE)) (ad 0 (nd ["j","draws","words"])) (@aM _) (bh A.xp A.xq (DI (1) (aJ (aU (show cb _ _ (rJ K) from iN) A.xm (2) aC) fE) aC))) (ak (bf (aE GC (bh A.IC A.IM (DI (bW Ej A.xr EC (aJ (4) aC)) (aJ (bD A.xx A.xC (aR (ao (ts:=["j"]) (cap:=["makers"]) (js:=[4]) rfl rfl rfl rfl rfl rfl (by decide +kernel)) (aL (10)) (ad 0 (nd ["j","makers"])) (@aM _) (aQ (show IxR _ (eT K) from DK) (1) (0))) (by rfl)) fE) fE)) (ah _) (aH _)) (ak (aD (cc _))) (DP _)))))))))))))))))))) (ak (aD (cc _))))),?_⟩
 walk_at "d"
 obtain⟨ps0,hT0,_⟩:=id lt0.ex;have hl:(ns.map V.int).length=ns.length:=zF _;refine⟨_,rfl,a,ns,0,rfl,hS0,by decide,by decide,fun l0 H1 S1 nl0 ds0=>?_⟩;refine⟨l0,rfl,ds0,lt0.same S1,fun Hb fr ltb=>⟨true,rfl,?_⟩⟩;have Sb:SmB T H Hb:=fun b o nT hb=>fr b o nT (ax hb nl0) (S1 _ _ hb);have hS:=SqL.smb hT0 hS0 Sb;obtain⟨psb,hTb,_⟩:=id ltb.ex;clear fr S1 ds0;refine⟨_,rfl,a,_,rfl,.inl hS,_,_,rfl,_,_,rfl,_,rfl,(jb _ (DA _)).1,(jb _ (DA _)).2.1,?_⟩;have j16:=(jb (((ns.map V.int).length:Nat):Int) (DA _)).2.2;refine cm (lo:=0) (n:=_) (fun i σ H'=>∃x1 x2 x3 x4 x5 x6 x7 x8 x9 x10,σ=[some (.ref a),x1,x2,x3,x4,x5,x6,x7,x8,x9,x10]/\SmB T Hb H'/\Es FF FJ T H') ⟨none,none,none,none,none,none,none,none,none,none,rfl,fun _ _ _ h=>h,ltb⟩ (fun i σ Hi hi z=>?_) (fun σ H' z=>?_)
 rotate_left
 ·obtain⟨x1,x2,x3,x4,x5,x6,x7,x8,x9,x10,rfl,S⟩:=z;exact q H'
 obtain⟨x1,x2,x3,x4,x5,x6,x7,x8,x9,x10,rfl,Si,lti⟩:=z;have hi':i<6:=zP hi j16;refine⟨_,rfl,_,rfl,_,_,rfl,rfl,a,ns,1+(0+(i:Int)),rfl,SqL.smb hTb hS Si,by lia,by lia,fun l H1 S1 nl ds=>?_⟩;refine⟨_,rfl,l,rfl,ds,fun W0 w0 H2 d2 nW0 gW0 hw0=>?_⟩;refine⟨fun σ H'=>∃W ws,σ=[some (.ref a),some (.int (0+(i:Int))),some (.ref l),some (.ref W),x4,x5,x6,x7,x8,x9,x10]/\Dr l H1 H'/\hid l H' W=some (.lst (au ws))/\Wds ws,?_,fun σ H3 z=>?_⟩
 ·refine⟨_,rfl,l,4,rfl,d2.ds,by decide,by decide,fun r H3 r0 r1 d3=>?_⟩;refine⟨rfl,_,rfl,?_⟩;have D3:=d2.trans d3;have gW3:=d3.same _ _ gW0;have h8:=hw0.n8;have el:=aK w0;show if decide (V.int r=V.int 0)=true then _ else _;rw[jM];cases hr0:(r==0) with
  |false=>exact⟨W0,w0,rfl,D3,gW3,hw0⟩
  |true=>
   refine⟨_,rfl,W0,rfl,⟨au w0,SqL.of (bg l _ _ _ gW3)⟩,?_⟩;refine bM (K:=K) (a:=W0) (xs:=au w0) (fun k ys H'=>H'=H3/\ys=au ((w0.take k).map ja)) ⟨rfl,rfl⟩ (fun k ys H' hk z=>by rw[z.2,aK,zF,Aa];lia) (aw (by lia)) (fun k ys H' hk z=>by rw[z.1];exact SqL.of (bg l _ _ _ gW3)) (fun k v ys H' hv z=>?_) (fun ys H' z p hp=>?_)
   ·obtain⟨rfl,rfl⟩:=z;have hk:k<(au w0).length:=(zL.mp hv).1;obtain⟨u,eu,rfl⟩:=cg hv;have um:=zS eu;have lu:=hw0.l40 _ um;have eul:(txt u).length=u.length:=by show u.toArray.size=_;simp
    have el4:(Txt.mul (txt u) 4).length=4*u.length:=by rw[cX,eul];rfl
    refine⟨_,rfl,_,_,rfl,rfl,by decide,by decide,by rw[eul];show u.length*4<=_;lia,_,rfl,_,rfl,aw (by rw[el4];lia),Nx.mk hk ⟨rfl,?_⟩⟩;rw[br eu,zV];exact bR _ _
   obtain⟨eH,rfl⟩:=z;subst H';rw[el,Ap];have dp:=Dr.new D3.ds hp (.lst (au (w0.map ja)));refine⟨p,(w0.map ja).map txt,rfl,by rw[jy];exact SqL.of ae,by rw[zF,zF];lia,fun W zs hpz hsz nW=>?_⟩;obtain⟨oz,rfl,ndz,mz⟩:=rM hpz;rw[jy];exact⟨W,oz,rfl,D3.trans (dp.trans (Dr.new dp.ds nW _)),eM dp.ds nW _,sT hw0 (fun w h=>⟨qz (hw0.l1 w h),fun c=>qo⟩) ndz mz⟩
 obtain⟨W,ws,rfl,D3,gW3,hw⟩:=z;clear gW0 hw0 d2 nW0;have w8:=hw.n8;have w1:=hw.n1;have gW:=bg l _ _ _ gW3;have el:=aK ws;refine⟨_,rfl,W,rfl,⟨_,SqL.of gW⟩,?_⟩;refine bM (K:=K) (a:=W) (xs:=au ws) (fun k ys H'=>DO H3 H'/\ys.length<=k/\Mks H' ys (ws.take k)) ⟨DO.refl _,zE _,.nil⟩ (fun k ys H' hk z=>z.2.1) (aw (by lia)) (fun k ys H' hk z=>SqL.of (z.1 _ _ gW)) (fun k v ys H' hv z=>?_) (fun ys H' z M hM=>?_)
 ·obtain⟨z1,z2,z3⟩:=z;have hk:k<(au ws).length:=(zL.mp hv).1;obtain⟨u,eu,rfl⟩:=cg hv;have hm:=zS eu;have h40:=hw.l40 _ hm;refine⟨_,rfl,txt u,rfl,(by show u.length<=1000;lia),fun c hc=>(hw.lr _ hm c hc).lt,fun r H2 S2 h2=>Nx.mk hk ⟨z1.trans S2,by rw[zG];exact Dz z2,?_⟩⟩;rw[br eu];refine bV (mx S2 z3) ?_;rw[<- gJ u];exact h2
 obtain⟨z1,z2,z3⟩:=z;rw[el,Ap] at z3;have DM:=Dr.of_same D3.ds (z1.trans (ag hM (.lst ys)));have D4:=D3.trans DM;have s4:Sx l T Hi W M ws ys (upd H' M (.lst ys)):=⟨qU (SmB.of S1) nl D4,D4.ds,Es.dr (lti.same S1) ds D4,DM.same _ _ gW3,eM (Dr.of_same D3.ds z1).ds hM _,mx (ag hM (.lst ys)).hid (Mks.hid (Dr.of_same D3.ds z1).ds z3)⟩
 generalize upd H' M (.lst ys)=H4 at s4 ⊢;clear z1 z2 z3 hM DM D4 gW gW3 D3;have yl:=Paired.length s4.ms;refine⟨fun v H'=>Sx l T Hi W M ws ys H'/\((v=.non/\∀m,¬Rch ws [] m)\/∃m:Nat,v=.int (m:Nat)/\En ws m),?_,?_⟩
 ·exact⟨_,rfl,W,ws,rfl,s4.w',hw,fun H' S' no=>⟨s4.same nl S',.inl ⟨rfl,no⟩⟩,fun m H' S' hm=>⟨s4.same nl S',.inr ⟨m,rfl,hm⟩⟩⟩
 rintro vl H5 ⟨s5,hvl⟩;refine⟨_,rfl,M,ys,rfl,.inl (SqL.of s5.m'),fun hd nhd=>?_⟩;have s6:=s5.same nl (ag nhd (.lst ys));have gh:hid l (upd H5 hd (.lst ys)) hd=some (.lst ys):=eM s5.ds nhd _;generalize upd H5 hd (.lst ys)=H6 at s6 gh ⊢;clear s4 s5 nhd;refine⟨fun v H'=>Sx l T Hi W M ws ys H'/\hid l H' hd=some (.lst ys)/\((v=.non/\∀m,¬Rch ws [] m)\/∃fa la lb a b m,v=.ref fa/\H' fa=some (.tup [.ref la,.ref lb])/\H' la=some (.lst (iv a))/\H' lb=some (.lst (iv b))/\Tw ws a b m),?_,?_⟩
 ·obtain⟨ps6,hT6,_⟩:=id s6.lt.ex;have gh':∀{H':Hp},SmB T H6 H'->hid l H' hd=some (.lst ys):=fun {H'} S=>by
   have n:=qI gh;rw[dG n] at gh ⊢;exact oA hT6 S gh
  refine⟨_,rfl,hd,ys,ws,rfl,bg l _ _ _ gh,s6.mk',hw,s6.lt,fun dn H' dj S' lt'=>⟨s6.smb S' lt',gh' S',.inl ⟨rfl,dj.none⟩⟩,fun fa la lb a b dn E f H' dj hf hm h2 hlt g1 g2 g3 S' lt'=>⟨s6.smb S' lt',gh' S',.inr ⟨fa,la,lb,a,b,f.1,rfl,g1,g2,g3,Tw.of dj hf hm h2 hlt⟩⟩⟩
 rintro vf H7 ⟨s7,gh7,hvf⟩;clear gh s6;obtain⟨isn,hn1,hn2,hn3,hn4⟩:∃isn:Bool,decide (vl=V.non)=isn/\decide (vf=V.non)=isn/\(isn=true->∀m,¬Rch ws [] m)/\(isn=false->∃fa la lb a b m,vf=.ref fa/\vl=.int ((m:Nat):Int)/\H7 fa=some (.tup [.ref la,.ref lb])/\H7 la=some (.lst (iv a))/\H7 lb=some (.lst (iv b))/\Tw ws a b m):=by
  rcases hvl with ⟨rfl,no⟩|⟨m,rfl,hm⟩
  ·rcases hvf with ⟨rfl,_⟩|⟨fa,la,lb,a,b,n,rfl,g1,g2,g3,tw⟩
   ·exact⟨true,rfl,rfl,fun _=>no,fun h=>by cases h⟩
   ·exact absurd tw.least.1 (no n)
  ·rcases hvf with ⟨rfl,no⟩|⟨fa,la,lb,a,b,n,rfl,g1,g2,g3,tw⟩
   ·exact absurd hm.1 (no m)
   ·have:=En.one hm tw.least;subst this;exact⟨false,rfl,rfl,fun h=>(by cases h),fun _=>⟨fa,la,lb,a,b,m,rfl,rfl,g1,g2,g3,tw⟩⟩
 clear hvl hvf;refine⟨_,rfl,_,rfl,_,_,.lst (SqL.of (bg l _ _ _ gh7)) (jH s7.mk'),.lst (SqL.of s7.m') (jH s7.mk'),il _,il _,lq _,false,rO _,?_⟩;clear gh7;refine⟨_,rfl,M,ys,rfl,.inl (SqL.of s7.m'),fun c1 n1=>?_⟩;have T1:=ag n1 (.lst ys);refine⟨c1,ys,ws,rfl,ae,mx T1 s7.mk',hw,fun p os H8 S8 np gp ls=>?_⟩;have S78:=T1.trans S8;have s8:=s7.same nl S78;have hn5:isn=false->∃fa la lb a b m,vf=.ref fa/\vl=.int ((m:Nat):Int)/\H8 fa=some (.tup [.ref la,.ref lb])/\H8 la=some (.lst (iv a))/\H8 lb=some (.lst (iv b))/\Tw ws a b m:=fun h=>by
  obtain⟨fa,la,lb,a,b,m,h1,h2,h3,h4,h5,h6⟩:=hn4 h;exact⟨fa,la,lb,a,b,m,h1,h2,S78 _ _ h3,S78 _ _ h4,S78 _ _ h5,h6⟩
 clear hn4 s7 S78 S8 T1 n1 np;have los:decide ([]∈os)=!isn:=by
  cases isn with
  |true=>exact Dd fun z=>by obtain⟨m,hm⟩:=ls.rch.mp z;exact hn3 rfl m hm
  |false=>
   obtain⟨_,_,_,_,_,m,_,_,_,_,_,tw⟩:=hn5 rfl;exact Dc (ls.rch.mpr ⟨m,tw.least.1⟩)
 refine⟨_,rfl,rfl,_,rfl,rfl,rfl,false,(by rw[hn1,hn2];exact tO isn),?_⟩;refine⟨_,rfl,rfl,_,rfl,p,_,rfl,.inl (SqL.of gp),rfl,gg os,rfl,false,?_,?_⟩
 ·show V.bl (decide (V.bl (decide (vl=V.non))=V.bl (inV (.str "") (au os))))=_;rw[hn1,show inV (.str "") (au os)=!isn by rw[<- los,<- mf];rfl];exact wk isn
 obtain⟨l328,l40⟩:=ls.len hw;refine⟨_,rfl,M,ys,rfl,.inl (SqL.of s8.m'),fun c2 n2=>?_⟩;have T2:=ag n2 (.lst ys);refine⟨_,rfl,c2,ys,ws,p,os,rfl,ae,mx T2 s8.mk',hw,T2 _ _ gp,by lia,fun x hx=>zO (l40 x hx) (by decide),fun b H9 S9 hb=>?_⟩;have S89:=T2.trans S9;have s9:=s8.same nl S89;have eb:b=isn:=by
  have:=hb.trans (ls.JX hw);cases isn with
  |true=>exact this.mpr (of_decide_eq_false los)
  |false=>
   cases b with
   |false=>rfl
   |true=>exact absurd (Dg los) (this.mp rfl)
 subst eb;refine⟨_,rfl,rfl,rfl,false,(by rw[hn1];exact tO b),?_⟩;refine⟨_,rfl,rfl,!b,(by rw[hn2]),?_⟩;cases b with
 |false=>
  obtain⟨fa,la,lb,a',b',m,rfl,rfl,h3,h4,h5,tw⟩:=hn5 rfl;refine⟨_,rfl,_,rfl,_,rfl,_,rfl,W,M,fa,la,lb,ws,ys,a',b',m,rfl,s9.w',hw,s9.m',s9.mk',S89 _ _ h3,S89 _ _ h4,S89 _ _ h5,tw.ha,tw.hb,tw.na,tw.nb,tw.lt,tw.eq,tw.len,tw.m15,fun H' S'=>⟨true,rfl,?_⟩⟩;have s10:=s9.same nl S';exact⟨_,_,_,_,_,_,_,_,_,_,rfl,Si.trans s10.fi,s10.lt⟩
 |true=>
  have no:=hn3 rfl;have ud:=mw hw no;refine⟨5,rfl,by decide,by decide,?_⟩;refine cm (lo:=0) (n:=5) (fun j σ' H'=>∃e9 e10,σ'=[some (.ref a),some (.int (0+(i:Int))),some (.ref l),some (.ref W),some (.ref M),some vl,some (.ref hd),some vf,some (.ref p),e9,e10]/\Sx l T Hi W M ws ys H') ⟨_,_,rfl,s9⟩ (fun j σ' H' hj z=>?_) (fun σ' H' z=>?_)
  ·obtain⟨e9,e10,rfl,sj⟩:=z;refine⟨_,rfl,l,9,rfl,sj.ds,by decide,by decide,fun r Ha a0 a1 da=>?_⟩;refine⟨r,rfl,by lia,by lia,?_⟩;refine sD (lo:=0) (n:=r.toNat) (fun k us H'=>Sx l T Hi W M ws ys H'/\∃row:List Nat,us=iv row/\row.length=k/\∀x∈row,x<ws.length) ⟨sj.dr nl da,[],rfl,rfl,fun x h=>absurd h (by simp)⟩ (fun k us H' hk z=>by obtain⟨_,row,rfl,e,_⟩:=z;rw[bN,e];exact zE _) (aw (by lia)) (fun k us H' hk z=>?_) (fun us Hc z R nR=>?_)
   ·obtain⟨sk,row,rfl,e,hrow⟩:=z;refine⟨_,rfl,_,rfl,W,_,rfl,.inl (SqL.of sk.w'),l,_,rfl,sk.ds,by rw[el];lia,by rw[el];lia,fun x Hd c0 c1 dd=>Nx.mk hk ⟨sk.dr nl dd,row++[x.toNat],?_,by rw[zG,e];rfl,fun y hy=>?_⟩⟩
    ·show iv row++[V.int x]=iv (row++[x.toNat]);unfold iv;rw[zV,zV];show _=_++[V.int ((x.toNat:Nat):Int)]
     rw[Int.toNat_of_nonneg c0]
    ·rcases zH.mp hy with hy|hy
     ·exact hrow y hy
     ·rw[zK.mp hy];rw[el] at c1;lia
   obtain⟨sk,row,rfl,e,hrow⟩:=z;have sR:=sk.same nl (ag nR (.lst (iv row)));have gR:upd Hc R (.lst (iv row)) R=some (.lst (iv row)):=ae;generalize upd Hc R (.lst (iv row))=Hr at sR gR ⊢;clear sk nR sj da;refine⟨_,rfl,M,ys,rfl,.inl (SqL.of sR.m'),fun c3 n3=>?_⟩;have T3:=ag n3 (.lst ys);have gc3:upd Hr c3 (.lst ys) c3=some (.lst ys):=ae;have s3:=sR.same nl T3;have gR3:=T3 _ _ gR;generalize upd Hr c3 (.lst ys)=Hs at s3 gc3 gR3 ⊢;clear T3 n3 sR gR;refine⟨_,rfl,R,rfl,⟨_,SqL.of gR3⟩,fg rfl gR3 s3.m' s3.mk' hrow (by lia) fun pp us np tl1=>?_⟩;have T4:=ag np (.lst us);refine⟨pp,us,_,41,rfl,SqL.of ae,ik T4 tl1,oP hw hrow,by rw[zF];lia,by decide,fun v Ht S5 t5=>?_⟩;rw[dY ws _ row rfl] at t5;have S6:=T4.trans S5;have s6:=s3.same nl S6;have fl:=nr hw.l40 row hrow;refine⟨ws,bq ws row,⟨c3,ys,v,rfl,S6 _ _ gc3,s6.mk',hw,fun c hc=>?_,by lia,t5⟩,fun Hu S7=>?_⟩
   ·obtain⟨l0,h1,h2⟩:=CF.mp hc;obtain⟨n,hn,rfl⟩:=zM.mp h1;exact hw.lr _ (aN (hrow n hn)) c h2
   refine⟨rfl,false,?_,?_⟩
   ·show V.bl (!decide (V.int (Wn ws (bq ws row))=V.int 1))=_;rw[(sP hw ud hrow).1,Dc rfl];rfl
   exact⟨_,_,rfl,s6.same nl S7⟩
  obtain⟨e9,e10,rfl,sj⟩:=z;exact⟨_,_,_,_,_,_,_,_,_,_,rfl,Si.trans sj.fi,sj.lt⟩
end
theorem eF{us:List Value}(h:us.length=1):∃a,us=[a]:=match us,h with|[a],_=>⟨a,rfl⟩
theorem lO{us:List Value}(h:us.length=2):∃a b,us=[a,b]:=match us,h with|[a,b],_=>⟨a,b,rfl⟩
theorem vK{us:List Value}(h:us.length=3):∃a b c,us=[a,b,c]:=match us,h with|[a,b,c],_=>⟨a,b,c,rfl⟩
theorem len4{us:List Value}(h:us.length=4):∃a b c d,us=[a,b,c,d]:=match us,h with|[a,b,c,d],_=>⟨a,b,c,d,rfl⟩
def FIn (K:W.Frag)(fn:Str)(st:Stmt):Prop:=∃(f:Addr)(oc:Value)(od an:Option Addr)(sl:Array (Option Value))(kV dc pm cd ct:Value),W.nsIn K mainGlobals fn=some (some (.ref f))/\K.lookup f=some ⟨oc,od,.func (W.fnOf fn fn (bU st) (bI st) (av st) .none kV dc pm an cd ct),sl⟩/\W.codeIn K cd fn=true/\W.keepIn K (.ref f)=true
theorem FIn.of{K:W.Frag}{fn:Str}{st:Stmt}{f:Addr}{oc:Value}{od an:Option Addr}{sl:Array (Option Value)}{kV dc pm cd ct:Value}(a:W.nsIn K mainGlobals fn=some (some (.ref f)))(l:K.lookup f=some ⟨oc,od,.func (W.fnOf fn fn (bU st) (bI st) (av st) .none kV dc pm an cd ct),sl⟩)(c:W.codeIn K cd fn=true)(k:W.keepIn K (.ref f)=true):FIn K fn st:=⟨f,oc,od,an,sl,kV,dc,pm,cd,ct,a,l,c,k⟩
theorem FIn.dd{K:W.Frag}{fn:Str}{st:Stmt}{h:Heap}{mg:Str->Option Value}(a:FIn K fn st)(X:K.In h)(G:h.Ns mainGlobals mg){ps:List Str}(hb:∀(kV doc pm:Value)(an:Option Addr)(cdv ct:Value)(us:List Value),us.length=ps.length->bindArgs (W.fnOf fn fn (bU st) (bI st) (av st) .none kV doc pm an cdv ct) ⟨us,[]⟩=pure (ps.zip us)):∃d:DD,Def K mg fn st ps d:=by
 obtain⟨f,oc,od,an,sl,kV,dc,pm,cd,ct,a,l,c,k⟩:=a;have F:=oo (st:=st) l c k;exact⟨⟨f,_⟩,F,Dq X G a,F.binds (ps:=ps) hb⟩
theorem all_mk{l:W.OpenLaw}{w:World}{K:W.Frag}{h:Heap}{mg:Str->Option Value}{fa:Addr}(X:K.In h)(G:h.Ns mainGlobals mg)(hfa:mg "law"=some (.ref fa))
  (yg:FIn K "is_whole" (top 7))
  (yY:FIn K "_law_whole" (top 38))
  (yV:FIn K "is_table" (top 8))
  (yh:FIn K "worth" (top 9))
  (yf:FIn K "_law_times" (top 39))
  (yx:FIn K "_law_made" (top 40))
  (zb:FIn K "_law_of_letters" (top 43))
  (yu:FIn K "_law_draw" (top 41))
  (yc:FIn K "_law_draws" (top 45))
  (ye:FIn K "is_plain" (top 12))
  (a_ww:FIn K "word_within" (top 13))
  (zi:FIn K "word_of" (top 14))
  (za:FIn K "maker_word" (top 18))
  (yZ:FIn K "maker_words" (top 19))
  (yw:FIn K "last_steps" (top 20))
  (yy:FIn K "ways_to_places" (top 21))
  (a_mr:FIn K "many_rows" (top 22))
  (yd:FIn K "_law_piece" (top 42))
  (yX:FIn K "_law_makers" (top 46))
  (yW:FIn K "_law_counts" (top 44))
  (a_fp:FIn K "first_pairs" (top 24))
  (zh:FIn K "words_within" (top 26))
  (zg:FIn K "words_beyond" (top 27))
  (a_fl:FIn K "first_lefts" (top 25))
  (a_nl:FIn K "next_lefts" (top 28))
  (a_lo:FIn K "leftovers" (top 29))
  (a_ip:FIn K "is_paper" (top 30))
  (a_lb:FIn K "let_by" (top 31))
  (a_fs:FIn K "first_steps" (top 32))
  (a_ns:FIn K "next_steps" (top 33))
  (a_ks:FIn K "keep_shorter" (top 34))
  {f_to:Addr}{od_to an_to:Option Addr}{sl_to:Array (Option Value)}{oc_to kV_to dc_to pm_to cd_to ct_to:Value}
  (a_to:W.nsIn K mainGlobals "twins_of"=some (some (.ref f_to)))(l_to:K.lookup f_to=some ⟨oc_to,od_to,.func (W.fnOf "twins_of" "twins_of" (bU (top 35)) (bI (top 35)) (av (top 35)) .none kV_to dc_to pm_to an_to cd_to ct_to),sl_to⟩)(c_to:W.codeIn K cd_to "twins_of"=true)(k_to:W.keepIn K (.ref f_to)=true)
  (zf:FIn K "twins" (top 36))
  (zd:FIn K "_law_shortest" (top 47))
  (zc:FIn K "_law_pair_right" (top 48))
  (ze:FIn K "_law_small_right" (top 49))
  {f_law:Addr}{od_law an_law:Option Addr}{sl_law:Array (Option Value)}{oc_law kV_law dc_law pm_law cd_law ct_law:Value}
  (yL:W.nsIn K mainGlobals "law"=some (some (.ref f_law)))(l_law:K.lookup f_law=some ⟨oc_law,od_law,.func (W.fnOf "law" "law" (bU (top 50)) (bI (top 50)) (av (top 50)) .none kV_law dc_law pm_law an_law cd_law ct_law),sl_law⟩)(c_law:W.codeIn K cd_law "law"=true)(k_law:W.keepIn K (.ref f_law)=true)
  {one:Addr}(zo:W.nsIn K mainGlobals "ONE"=some (some (.ref one)))
  {odo_ONE:Option Addr}{ito_ONE:Array Value}{no_ONE:Nat}{slo_ONE:Array (Option Value)}(l_ONE:K.lookup one=some ⟨.type "tuple",odo_ONE,.seq ito_ONE no_ONE,slo_ONE⟩)(z_ONE:ito_ONE.size<=sizeLine)(v_ONE:Vals Tb.one.vs ito_ONE.toList)
  {t_LM:Tok}(e_LM:W.nsIn K mainGlobals "LONGEST_MAKER"=some (some (.int 40 t_LM)))
  {t_MM:Tok}(e_MM:W.nsIn K mainGlobals "MOST_MAKERS"=some (some (.int 8 t_MM)))
  {t_LW:Tok}(e_LW:W.nsIn K mainGlobals "LONGEST_WORD"=some (some (.int 400 t_LW)))
  {cdA tA bmA:Addr}{obm:Obj}(ec:cd_to=.ref cdA)(hdA:∀h:Heap,K.In h->W.CodeHd h cdA tA)(neA:mainGlobals≠tA)(e_BI:W.nsIn K mainGlobals "__builtins__"=some (some (.ref bmA)))(l_BI:K.lookup bmA=some obm)(p_BI:bmA≠builtinsNs/\bmA≠mainGlobals/\bmA≠tA/\obm.cls=.type "module"/\obm.dict=some builtinsNs/\obm.data=.plain)
  (zr:W.nsIn K mainGlobals "int"=some none)   (yA:W.nsIn K mainGlobals "bool"=some none)   (xA:W.nsIn K mainGlobals "isinstance"=some none)   (yj:W.nsIn K mainGlobals "tuple"=some none)   (yB:W.nsIn K mainGlobals "list"=some none)   (zA:W.nsIn K mainGlobals "str"=some none)   (zt:W.nsIn K mainGlobals "len"=some none)   (zq:W.nsIn K mainGlobals "all"=some none)   (yi:W.nsIn K mainGlobals "range"=some none)   (zu:W.nsIn K mainGlobals "max"=some none)   (zv:W.nsIn K mainGlobals "min"=some none)   (zB:W.nsIn K mainGlobals "sum"=some none)   (xF:W.nsIn K mainGlobals "enumerate"=some none)   (xU:W.nsIn K mainGlobals "sorted"=some none)   (zw:W.nsIn K mainGlobals "set"=some none) :
  ∃fd:FuncData,(∀(s:Shared)(v:Value),BindsTo s fd ⟨[v],[]⟩ [("script",v)])/\∀base:Heap,K.In base->base.Ns mainGlobals mg->DS l.prog w K mg base CX0 8 fa fd ["script"] (pB tA K):=by
 have e:=hfa.symm.trans (Dq X G yL);cases e;have xT:=Dt X G zr;have xP:=Dt X G yA;have xk:=Dt X G xA;have xu:=Dt X G yj;have xr:=Dt X G yB;have zl:=Dt X G zA;have xm:=Dt X G zt;have xO:=Dt X G zq;have xn:=Dt X G yi;have zj:=Dt X G zu;have xw:=Dt X G zv;have xM:=Dt X G zB;have xo:=Dt X G xF;have xB:=Dt X G xU;have zk:=Dt X G zw;obtain ⟨d_whole,xH⟩ :=yg.dd X G (ps:=["thing"]) (by walk_at "u");obtain ⟨d_lwh,yF⟩ :=yY.dd X G (ps:=["found"]) (by walk_at "u");obtain ⟨d_ist,yC⟩ :=yV.dd X G (ps:=["thing"]) (by walk_at "u");obtain ⟨d_worth,xR⟩ :=yh.dd X G (ps:=["table"]) (by walk_at "u");obtain ⟨d_times,xQ⟩ :=yf.dd X G (ps:=["one","other"]) (by walk_at "u");obtain ⟨d_made,xx⟩ :=yx.dd X G (ps:=["tables"]) (by walk_at "u");obtain ⟨d_ofl,xV⟩ :=zb.dd X G (ps:=["word"]) (by walk_at "u");obtain ⟨d_draw,xp⟩ :=yu.dd X G (ps:=["draws","many"]) (by walk_at "u");obtain ⟨d_draws,xN⟩ :=yc.dd X G (ps:=["script","k"]) (by walk_at "u");obtain ⟨d_plain,xE⟩ :=ye.dd X G (ps:=["table"]) (by walk_at "u");obtain ⟨d_ww,D_ww⟩ :=a_ww.dd X G (ps:=["table","most"]) (by walk_at "u");obtain ⟨d_wof,yK⟩ :=zi.dd X G (ps:=["table"]) (by walk_at "u");obtain ⟨d_mkw,yG⟩ :=za.dd X G (ps:=["maker"]) (by walk_at "u");obtain ⟨d_mks,xG⟩ :=yZ.dd X G (ps:=["makers"]) (by walk_at "u");obtain ⟨d_last,yk⟩ :=yw.dd X G (ps:=["words","text","end"]) (by walk_at "u");obtain ⟨d_ways,ym⟩ :=yy.dd X G (ps:=["words","text"]) (by walk_at "u");obtain ⟨d_mr,IC⟩ :=a_mr.dd X G (ps:=["makers","table"]) (by walk_at "u");obtain ⟨d_piece,xD⟩ :=yd.dd X G (ps:=["draws","most"]) (by walk_at "u");obtain ⟨d_lmk,yE⟩ :=yX.dd X G (ps:=["draws"]) (by walk_at "u");obtain ⟨d_lcn,yD⟩ :=yW.dd X G (ps:=["words","text"]) (by walk_at "u");obtain ⟨d_fp,D_fp⟩ :=a_fp.dd X G (ps:=["words"]) (by walk_at "u");obtain ⟨d_win,xY⟩ :=zh.dd X G (ps:=["words","text"]) (by walk_at "u");obtain ⟨d_wbe,xX⟩ :=zg.dd X G (ps:=["words","text"]) (by walk_at "u");obtain ⟨d_fl,D_fl⟩ :=a_fl.dd X G (ps:=["words"]) (by walk_at "u");obtain ⟨d_nl,D_nl⟩ :=a_nl.dd X G (ps:=["words","text"]) (by walk_at "u");obtain ⟨d_lo,JK⟩ :=a_lo.dd X G (ps:=["makers"]) (by walk_at "u");obtain ⟨d_ip,D_ip⟩ :=a_ip.dd X G (ps:=["texts"]) (by walk_at "u")
 obtain ⟨d_lb,JE⟩ :=a_lb.dd X G (ps:=["makers","texts"]) (by walk_at "u");obtain ⟨d_fs,D_fs⟩ :=a_fs.dd X G (ps:=["words"]) (by walk_at "u");obtain ⟨d_ns,D_ns⟩ :=a_ns.dd X G (ps:=["words","left","found"]) (by walk_at "u");obtain ⟨d_ks,D_ks⟩ :=a_ks.dd X G (ps:=["waiting","done","steps"]) (by walk_at "u");have F_to:=oo (st:=top 35) l_to c_to k_to;have D_to:Def K mg "twins_of" (top 35) ["words"] ⟨f_to,_⟩ :=⟨F_to,Dq X G a_to,F_to.binds (ps:=["words"]) fun _ _ _ _ _ _ us hl=>by obtain ⟨_,rfl⟩ :=eF hl;rfl⟩
 obtain ⟨d_twn,xW⟩ :=zf.dd X G (ps:=["makers"]) (by walk_at "u");obtain ⟨d_sho,yI⟩ :=zd.dd X G (ps:=["words"]) (by walk_at "u");obtain ⟨d_prt,yH⟩ :=zc.dd X G (ps:=["words","makers","found","letters"]) (by walk_at "u");obtain ⟨d_smr,yJ⟩ :=ze.dd X G (ps:=["draws"]) (by walk_at "u");have F_law:=oo (st:=top 50) l_law c_law k_law;have zC:Def K mg "law" (top 50) ["script"] ⟨fa,_⟩ :=⟨F_law,Dq X G yL,F_law.binds (ps:=["script"]) fun _ _ _ _ _ _ us hl=>by obtain ⟨_,rfl⟩ :=eF hl;rfl⟩
 have kO:∀H,SqT K H one Tb.one.vs:=fun H=>.inr ⟨_,ito_ONE,no_ONE,l_ONE,rfl,rfl,z_ONE,v_ONE⟩;have mO:=Dq X G zo;have LK:JJ K mg cdA tA:=⟨hdA,fun h KX=>⟨bmA,obm,Dq X G e_BI,p_BI.1,p_BI.2.1,p_BI.2.2.1,KX _ _ l_BI,p_BI.2.2.2⟩,neA⟩
 refine⟨W.fnOf "law" "law" (bU (top 50)) (bI (top 50)) (av (top 50)) .none kV_law dc_law pm_law an_law cd_law ct_law,fun s v=>.of_eq rfl,fun base _ _=>?_⟩;have ya:=pE (P:=l.prog) (w:=w) (base:=base) xH xT xP xk;have yP:=vp (P:=l.prog) (w:=w) (base:=base) yF xk xT xP;have yM:=tK ⟨xH,ya⟩ yC xu xm xO xk;have yb:=pV (P:=l.prog) (w:=w) (base:=base) xR;have xZ:=pI (P:=l.prog) (w:=w) (base:=base) xQ xn xu;have xC:=pG ⟨xQ,xZ⟩ xx;have yn:=uH ⟨xx,xC⟩ xV;have xq:=rH (P:=l.prog) (w:=w) (base:=base) xp;have xS:=qt (P:=l.prog) (w:=w) (base:=base) xN xm xT;have xJ:=oZ ⟨yC,yM⟩  ⟨xR,yb⟩ xE xw;have G_ww:=we (P:=l.prog) (w:=w) (base:=base) mO kO D_ww xm;have yU:=uY (Dq X G e_LW) ⟨xE,xJ⟩  ⟨D_ww,G_ww⟩ yK;have yQ:=uK (Dq X G e_LM) ⟨xE,xJ⟩  ⟨D_ww,G_ww⟩ yG;have xK:=uw (Dq X G e_MM) ⟨yG,yQ⟩ xG xk xr xm;have yr:=sv (P:=l.prog) (w:=w) (base:=base) yk xo xm;have yt:=sJ ⟨yk,yr⟩ ym xn xm xM;have IM:=wA ⟨xG,xK⟩  ⟨yK,yU⟩  ⟨ym,yt⟩ IC xm;have xI:=qk ⟨xp,xq⟩ xD xn;have yO:=tN ⟨xp,xq⟩  ⟨xD,xI⟩ yE xn xm;have yN:=ve (P:=l.prog) (w:=w) (base:=base) yD xn xm xw xM;have G_fp:=vR (P:=l.prog) (w:=w) (base:=base) D_fp xm xn;have yq:=uk (P:=l.prog) (w:=w) (base:=base) xY xo;have yp:=uT (P:=l.prog) (w:=w) (base:=base) xX xo;have G_fl:=vO ⟨D_fp,G_fp⟩ D_fl xm;have G_nl:=vL ⟨xY,yq⟩  ⟨xX,yp⟩ D_nl xm;have Ka:=wB ⟨xG,xK⟩  ⟨D_fl,G_fl⟩  ⟨D_nl,G_nl⟩ JK xB;have G_ip:=wx (P:=l.prog) (w:=w) (base:=base) D_ip xk xr zl xO;have JT:=vW ⟨xG,xK⟩  ⟨D_ip,G_ip⟩  ⟨D_fl,G_fl⟩  ⟨D_nl,G_nl⟩ JE xO;have G_fs:=wq ⟨D_fp,G_fp⟩ D_fs xm;have G_ns:=wC ⟨xY,yq⟩  ⟨xX,yp⟩ D_ns xm;have G_ks:=wu (P:=l.prog) (w:=w) (base:=base) D_ks;have G_to:=vM LK ec ⟨D_fs,G_fs⟩  ⟨D_ks,G_ks⟩  ⟨D_ns,G_ns⟩ D_to xw;have yo:=uB ⟨xG,xK⟩  ⟨D_to,G_to⟩ xW;have yS:=vi (P:=l.prog) (w:=w) (base:=base) yI xm xw xn;have yR:=tP ⟨yF,yP⟩  ⟨xx,xC⟩  ⟨IC,IM⟩ yH xk xu xr xm xM;have yT:=ua ⟨xp,xq⟩  ⟨xD,xI⟩  ⟨xV,yn⟩  ⟨yD,yN⟩  ⟨xW,yo⟩ yJ xm xM xw xn;have Al:All tA l.prog w K mg base ⟨d_draws,d_draw,d_lmk,d_ofl,d_made,d_sho,d_smr,d_prt,d_lo,d_lb,d_twn,d_mr⟩:=
  ⟨xN,xp,yE,xV,xx,yI,yJ,yH,JK,JE,xW,IC,xS,xq,yO,yn,xC,yS,yT,yR,Ka,JT,yo,IM,xn,zj,xw,xm,xr,zk,xB⟩
 exact ug Al zC
theorem walk{l:W.OpenLaw}{q:Program}{loose:List Str}{XP:(Str->Option Value)->Heap->Prop}{YP:World->Heap->Prop}{d:DefRec}{K KF:Params->W.Frag}{T c0:Addr}{ps:Array Value}(hn:l.most=some 63)(hdf:d.params.defaults=[])(hps:TriplesOk ps.toList/\codeAmong FF ps.toList=none)
  (hY:∀(w:World)(h:Heap),YP w h->(KF w.params).In h)(hKF:∀(p:Params)(h:Heap),(KF p).In h->(K p).In h/\h.get? T=some (W.tabObj ps)/\W.CodeHd h c0 T)(kT:∀p:Params,(K p).lookup T=none)
  (F:∀(w:World) (mg:Str->Option Value) (fa:Addr) (h:Heap),(K w.params).In h->h.Ns mainGlobals mg->mg d.name=some (.ref fa) ->
   ∃fd:FuncData,(∀(s:Shared) (u:Value),BindsTo s fd ⟨[u],[]⟩ [("script",u)])/\∀base:Heap,(K w.params).In base->base.Ns mainGlobals mg->DS l.prog w (K w.params) mg base CX0 8 fa fd ["script"] (pB T (K w.params))) :
  W.WalkO q loose XP YP l.row.toRowW d [] (fun f vs=>PySem.call f vs):=
 L2.HM (n:=63) (k:=8) (x:="script") (CX:=fun _=>CX0) (sp:=fun w=>pB T (K w.params)) hn (by decide) hdf ⟨rfl,by decide,by decide⟩ hY hKF kT F (fun _ _ a ns hl gT hS=>⟨a,ns,rfl,hS,hl,⟨ps,gT,hps.1,.inl hps.2⟩,fun _=>rfl⟩) fun _ _ _ _ _ z=>z
end K3
namespace Hd
open PySem PySem.W PyProof.Rows
noncomputable section
def run (den:Code->Sem Fin)(ok:Nat->Option Value->Thread->Bool)(st:(Code->Sem Fin)->Program->World->SharedT->Thread->Option (SharedT×Thread))(p:Program)(w:World)(m:Nat)(ann:Option Value):Nat->SharedT->Thread->Option SharedT
 |0,_,_=>none
 |n+1,s,t=>match through t with
  |true=>some s
  |false=>match ok m ann t with
   |false=>none
   |true=>match st den p w s t with
    |some r=>run den ok st p w m ann n r.1 r.2
    |none=>none
theorem rj{tb:String->Option Builtin}{p:Program}{w:World}{m:Nat}{ann:Option Value}:∀{n:Nat}{s r:SharedT}{t:Thread},run (denote tb) stepOk stepT p w m ann n s t=some r->topRun tb p w m ann n s.abs t=some r.abs
 |0,_,_,_,h=>by cases h
 |n+1,s,r,t,h=>by
  unfold run at h;unfold topRun;cases ht:through t with
  |true=>rw[ht] at h;cases h;rfl
  |false=>
   rw[ht] at h;cases hk:stepOk m ann t with
   |false=>rw[hk] at h;cases h
   |true=>
    rw[hk] at h;cases hs:stepT (denote tb) p w s t with
    |none=>rw[hs] at h;cases h
    |some r=>rw[hs] at h;rw[stepT_spec hs];exact rj h
def grow:List Obj->Nat->BT->BT
 |[],_,t=>t
 |o::l,n,t=>grow l (n+1) (t.ins n o)
def vP(P:Params):BT:=grow (boot_heap P).objs.toList 0 .nil
abbrev first(w:World)(os:OsState):SharedT:=⟨vP w.params,(boot_heap w.params).objs.size,(boot_heap w.params).life,#[],boot_drawn,boot_toks,os⟩
theorem oC(w:World)(os:OsState):(first w os).abs=⟨boot_heap w.params,#[],boot_drawn,boot_toks,os⟩:=by kernel_rfl
def uD(P:Params):Option Value:=(boot_heap P).nsMap mainGlobals "__annotations__"
def uV(seenF:Program->List Str->List Str->(Shared->Bool)->Bool->Shared->_)(p q:Program)(loose:List Str)(Xt:Shared->Bool)(as:List Addr)(h:Heap)(s:Shared):=
 ((staticsOk (importedModules p.main.body) h s.heap&&namesBound p s.heap&&gensDone s&&laidKept h s.heap),(seenF q loose (importedModules p.main.body) Xt true s:type_of% (openSeen q loose (importedModules p.main.body) Xt true s)),as.map s.heap.get?)
abbrev vt(den:Code->Sem Fin)(ok:Nat->Option Value->Thread->Bool)(st:(Code->Sem Fin)->Program->World->SharedT->Thread->Option (SharedT×Thread))
  (seenF:(q:Program)->(loose mods:List Str)->(Xt:Shared->Bool)->Bool->(s:Shared)->type_of% (openSeen q loose mods Xt true s))(p q:Program)(loose:List Str)(Xt:Shared->Bool)(K:Params->Frag)(as:List Addr)(N:Nat)(w:World):Prop:=
 (fun os=>(run den ok st p w (boot_heap w.params).objs.size (uD w.params) N (first w os) (topStub p)).map fun s=>uV seenF p q loose Xt as (boot_heap w.params) s.abs)=fun _=>some (true,openGood q loose,(K w.params).map fun x=>some x.2)
theorem wH{p q:Program}{loose:List Str}{Xt:Shared->Bool}{K:Params->Frag}{as:List Addr}{N:Nat}(e:opening p=plainProg p.main.scope.names)(hN:Nat.ble 600 N=true)(f:∀s,fenceModules? p s=some s)
  (size:∀P:Params,(boot_heap P).isNs mainGlobals=true)(key:∀w,vt (denote treeTable) stepOk stepT openSeen p q loose Xt K as N w) :
  LeftO p q loose Xt (fun s=>as.map s.heap.get?) (fun w=>(K w.params).map fun x=>some x.2) N true:=fun w=>by
 obtain⟨⟨h,gs,d,k,os⟩,e1,e2⟩:=AV.mp (boot_open (p:=p) (N:=N) e hN f w);obtain⟨rfl,rfl,rfl,rfl⟩:h=boot_heap w.params/\gs=Array.mk []/\d=boot_drawn/\k=boot_toks:=by simpa using e2
 obtain⟨s,r,l⟩:=AV.mp (congrFun (key w) os);have r':=rj r;rw[oC] at r';unfold uV at l;obtain⟨l1,l2,l3⟩:_/\_/\_:=by simpa only [Prod.mk.injEq] using l
 have t:topFrom treeTable p w N ⟨boot_heap w.params,#[],boot_drawn,boot_toks,os⟩=some s.abs:=by
  unfold topFrom;dsimp only;rw[size w.params];show(topRun treeTable p w (boot_heap w.params).objs.size (uD w.params) N _ _).bind _=_;rw[r'];show(match staticsOk (importedModules p.main.body) (boot_heap w.params) s.abs.heap&&namesBound p s.abs.heap&&gensDone s.abs&&laidKept (boot_heap w.params) s.abs.heap with|true=>_|false=>_)=_;rw[l1]
 unfold openEnds;rw[e1];show(topFrom treeTable p w N _).map _=_;rw[t];exact congrArg some (Prod.ext l2 l3)
abbrev en(P:Params)(x:Str)(t:Tok)(v:Value):DictEntry:=⟨PyData.keyHash P x,.str x t,v⟩
abbrev dn:=PySem.W.Fast.tw11892475500146522536 PySem.W.Fast.tw14364793385576792824
abbrev vb(p q:Program)(loose:List Str)(Xt:Shared->Bool)(K:Params->Frag)(as:List Addr)(N:Nat)(w:World):Prop:=vt dn PySem.W.Fast.tw6613529449190102663 PySem.W.Fast.tw10156331382660048174 PySem.W.Fast.tw4187177175401517315 p q loose Xt K as N w
theorem key1{p q:Program}{loose:List Str}{Xt:Shared->Bool}{K:Params->Frag}{as:List Addr}{N:Nat}(h:∀w:World,vb p q loose Xt K as N w):∀w,vt (denote treeTable) stepOk stepT openSeen p q loose Xt K as N w:=fun w=>by
 rw[PySem.W.Fast.te10156331382660048174,PySem.W.Fast.te11892475500146522536,PySem.W.Fast.te14364793385576792824,PySem.W.Fast.te6613529449190102663,PySem.W.Fast.te4187177175401517315];exact h w
abbrev xt(l:OpenLaw)(q:Program)(s:Shared):Bool:=xlAt q [] s&&recOk (RowW.records l.row.toRowW) s
theorem uo(P:Params):(boot_heap P).isNs mainGlobals=true:=by kernel_rfl
theorem head{l:OpenLaw}{q:Program}{loose:List Str}{K:Params->Frag}{as:List Addr}{N:Nat}{d:DefRec}(said:l.wellSaid=true)(e:opening l.prog=plainProg l.prog.main.scope.names)(hN:Nat.ble 600 N=true)(f:∀s,fenceModules? l.prog s=some s)
  (key:∀w,vt (denote treeTable) stepOk stepT openSeen l.prog q loose (xt l q) K as N w)(hK:∀P,as=(K P).map (·.1))
  (hdef:defOf q l.row.name=some (d,[]))(hp:l.row.prog.theDef l.row.name=some (d.params,d.body,d.scope))(hk:kwWritten? d.params.kwonlyargs d.params.kw_defaults=some [])(hwr:(!l.row.writes||l.row.records.isEmpty)=true)
  (ok:(chainsOk q&&opensWell l.row.prog&&(frees l.row.toRowW&&l.row.within.isEmpty))=true)(hb:l.row.prog.bare)(hw:l.row.toRowW.promised)
  (call:WalkO q loose (XL q []) (InK K) l.row.toRowW d [] fun f vs=>PySem.call f vs):l.Holds:=
 holds_law said fun k1=>holds_open (Xt:=xt l q) (wH e hN f uo key) (InK.of hK) InK.keeps (fun s e=>xl_of s (BM.mp e).1) XL.keeps hdef hp hk (fun s e=>recFacts_of (BM.mp e).2) hwr k1 ok hb hw call
end
end Hd
namespace Hd
open PySem PySem.W PyProof.Rows L2 K3
noncomputable section
abbrev pw:=PySem.Challenge.pw_quadwords_k22_whole_free_or_twins
def loose:List Str:=[]
def keep:List Nat:=[1,2,3,4,6,7,8,9,11,12,13,14,16,17,18,19,20,21,22,24,25,26,27,28,29,30,31,32,33,34,35,36,38,39,40,41,42,43,44,45,46,47,48,49,50]
abbrev cO(n:Str)(t t1 t2:Nat)(l a f:Int)(v1 v2 v3 v4 v5 v6:Value)(u:Int)(t3:Nat):Obj:=⟨.type "code",none,.fields #[.str n t,.str n t1,.str "/claim/cut.py" t2,.int l 0,.int a 0,.int 0 0,.int 0 0,.int f 0,v1,.bool true,.int 181 0,v2,v3,v4,v5,v6,.int u 0,.int l 0,.str "/claim/cut.py" t3],#[]⟩
abbrev fO(n:Str)(s:Stmt)(m:Value)(c:Addr):Obj:=⟨.type "function",none,.func (PySem.W.fnOf n n (bU s) (bI s) (av s) .none .none .none m none (.ref c) .none),#[]⟩
def o3(P:Params):Obj:=⟨.type "dict",none,(.dict #[en P "__name__" 165 (.str "law_quadwords_k22_whole_free_or_twins" 459),en P "__doc__" 166 .none,en P "__package__" 167 .none,en P "__loader__" 168 (.builtin "__main__.__loader__#opaque"),en P "__spec__" 169 .none,en P "__annotations__" 170 (.ref 6),en P "__builtins__" 171 (.ref 4),en P "__file__" 173 (.str "/claim/cut.py" 172),en P "__cached__" 174 .none,en P "QuadError" 206 (.ref 24),en P "NoPlain" 222 (.ref 37),en P "TooLong" 238 (.ref 49),en P "NoMakers" 254 (.ref 61),en P "ONE" 261 (.ref 64),en P "is_whole" 268 (.ref 71),en P "is_table" 274 (.ref 76),en P "worth" 285 (.ref 83),en P "LONGEST_WORD" 289 (.int 400 288),en P "is_plain" 296 (.ref 90),en P "word_within" 309 (.ref 97),en P "word_of" 317 (.ref 104),en P "MOST_MAKERS" 321 (.int 8 320),en P "LONGEST_MAKER" 323 (.int 40 322),en P "maker_word" 331 (.ref 111),en P "maker_words" 337 (.ref 116),en P "last_steps" 343 (.ref 121),en P "ways_to_places" 349 (.ref 126),en P "many_rows" 359 (.ref 133),en P "first_pairs" 367 (.ref 138),en P "first_lefts" 373 (.ref 143),en P "words_within" 379 (.ref 148),en P "words_beyond" 385 (.ref 153),en P "next_lefts" 391 (.ref 158),en P "leftovers" 402 (.ref 165),en P "is_paper" 408 (.ref 170),en P "let_by" 414 (.ref 175),en P "first_steps" 420 (.ref 180),en P "next_steps" 426 (.ref 185),en P "keep_shorter" 437 (.ref 192),en P "twins_of" 451 (.ref 199),en P "twins" 458 (.ref 206),en P "_law_whole" 467 (.ref 213),en P "_law_times" 479 (.ref 220),en P "_law_made" 488 (.ref 227),en P "_law_draw" 497 (.ref 234),en P "_law_piece" 503 (.ref 239),en P "_law_of_letters" 509 (.ref 244),en P "_law_counts" 515 (.ref 249),en P "_law_draws" 526 (.ref 256),en P "_law_makers" 541 (.ref 263),en P "_law_shortest" 555 (.ref 270),en P "_law_pair_right" 561 (.ref 275),en P "_law_small_right" 567 (.ref 280),en P "law" 573 (.ref 285)] 54),#[]⟩
def o4(P:Params):Obj:=⟨.type "module",(some 0),.plain,#[]⟩
def o23(P:Params):Obj:=⟨.type "dict",none,(.dict #[en P "__module__" 196 (.str "quadwords.errors" 187),en P "__firstlineno__" 200 (.int 2 199),en P "__static_attributes__" 201 (.ref 22),en P "__weakref__" 203 (.ref 25),en P "__doc__" 204 .none] 3),#[]⟩
def o24(P:Params):Obj:=⟨.type "type",none,(.cls ⟨"QuadError",[.type "ValueError"],[.ref 24,.type "ValueError",.type "Exception",.type "BaseException",.type "object"],23,"QuadError",true,[],[.ref 37,.ref 49,.ref 61],false,none,false⟩),#[some (.ref 15),none,some (.str "QuadError" 189),some (.str "QuadError" 197),some (.builtin "ValueError.__new__"),some (.bool true)]⟩
def tw1(P:Params)(n5 n13 n17 n21 n23 n27:Nat)(z15:Int):Obj:=⟨.type "dict",none,(.dict #[en P "__module__" n5 (.str "quadwords.errors" 187),en P "__firstlineno__" n13 (.int z15 n17),en P "__static_attributes__" n21 (.ref n23),en P "__doc__" n27 .none] 2),#[]⟩
def o36(P:Params):Obj:=tw1 P 214 218 217 219 35 220 4
def tw2(P:Params)(n7 n19 n23 n27 n31:Nat)(s3:Str):Obj:=⟨.type "type",none,(.cls ⟨s3,[.ref 24],[.ref n7,.ref 24,.type "ValueError",.type "Exception",.type "BaseException",.type "object"],n19,s3,true,[],[],false,none,false⟩),#[some (.ref n23),none,some (.str s3 n27),some (.str s3 n31),some (.builtin "ValueError.__new__"),some (.bool true)]⟩
def o37(P:Params):Obj:=tw2 P 37 36 28 207 215 "NoPlain"
def o48(P:Params):Obj:=tw1 P 230 234 233 235 47 236 6
def o49(P:Params):Obj:=tw2 P 49 48 40 223 231 "TooLong"
def o60(P:Params):Obj:=tw1 P 246 250 249 251 59 252 8
def o61(P:Params):Obj:=tw2 P 61 60 52 239 247 "NoMakers"
def o64(P:Params):Obj:=⟨.type "tuple",none,(.seq #[.int 1 257,.int 0 258,.int 0 259,.int 1 260] 0),#[]⟩
def o70(P:Params):Obj:=cO "is_whole" 262 263 264 12 1 3 (.ref 65) (.ref 66) .none (.ref 67) (.ref 68) (.ref 69) 266 267
def o71(P:Params):Obj:=fO "is_whole" (top 7) (.str "quadwords.tables" 255) 70
def o75(P:Params):Obj:=cO "is_table" 269 270 271 14 1 3 (.ref 72) (.ref 73) .none .none .none (.ref 74) 272 273
def o76(P:Params):Obj:=fO "is_table" (top 8) (.str "quadwords.tables" 255) 75
def o82(P:Params):Obj:=cO "worth" 275 276 277 16 1 3 (.ref 77) (.ref 78) .none (.ref 79) (.ref 80) (.ref 81) 283 284
def o83(P:Params):Obj:=fO "worth" (top 9) (.str "quadwords.tables" 255) 82
def o89(P:Params):Obj:=cO "is_plain" 290 291 292 21 1 3 (.ref 84) (.ref 85) .none (.ref 86) (.ref 87) (.ref 88) 294 295
def o90(P:Params):Obj:=fO "is_plain" (top 12) (.str "quadwords.plain" 286) 89
def o96(P:Params):Obj:=cO "word_within" 297 298 299 23 2 3 (.ref 91) (.ref 92) .none (.ref 93) (.ref 94) (.ref 95) 307 308
def o97(P:Params):Obj:=fO "word_within" (top 13) (.str "quadwords.plain" 286) 96
def o103(P:Params):Obj:=cO "word_of" 310 311 312 36 1 3 (.ref 98) (.ref 99) .none (.ref 100) (.ref 101) (.ref 102) 315 316
def o104(P:Params):Obj:=fO "word_of" (top 14) (.str "quadwords.plain" 286) 103
def o110(P:Params):Obj:=cO "maker_word" 324 325 326 46 1 3 (.ref 105) (.ref 106) .none (.ref 107) (.ref 108) (.ref 109) 329 330
def o111(P:Params):Obj:=fO "maker_word" (top 18) (.str "quadwords.rows" 318) 110
def o115(P:Params):Obj:=cO "maker_words" 332 333 334 53 1 3 (.ref 112) (.ref 113) .none .none .none (.ref 114) 335 336
def o116(P:Params):Obj:=fO "maker_words" (top 19) (.str "quadwords.rows" 318) 115
def o120(P:Params):Obj:=cO "last_steps" 338 339 340 57 3 3 (.ref 117) (.ref 118) .none .none .none (.ref 119) 341 342
def o121(P:Params):Obj:=fO "last_steps" (top 20) (.str "quadwords.rows" 318) 120
def o125(P:Params):Obj:=cO "ways_to_places" 344 345 346 60 2 3 (.ref 122) (.ref 123) .none .none .none (.ref 124) 347 348
def o126(P:Params):Obj:=fO "ways_to_places" (top 21) (.str "quadwords.rows" 318) 125
def o132(P:Params):Obj:=cO "many_rows" 350 351 352 65 2 3 (.ref 127) (.ref 128) .none (.ref 129) (.ref 130) (.ref 131) 357 358
def o133(P:Params):Obj:=fO "many_rows" (top 22) (.str "quadwords.rows" 318) 132
def o137(P:Params):Obj:=cO "first_pairs" 362 363 364 70 1 3 (.ref 134) (.ref 135) .none .none .none (.ref 136) 365 366
def o138(P:Params):Obj:=fO "first_pairs" (top 24) (.str "quadwords.free" 360) 137
def o142(P:Params):Obj:=cO "first_lefts" 368 369 370 74 1 3 (.ref 139) (.ref 140) .none .none .none (.ref 141) 371 372
def o143(P:Params):Obj:=fO "first_lefts" (top 25) (.str "quadwords.free" 360) 142
def o147(P:Params):Obj:=cO "words_within" 374 375 376 76 2 3 (.ref 144) (.ref 145) .none .none .none (.ref 146) 377 378
def o148(P:Params):Obj:=fO "words_within" (top 26) (.str "quadwords.free" 360) 147
def o152(P:Params):Obj:=cO "words_beyond" 380 381 382 78 2 3 (.ref 149) (.ref 150) .none .none .none (.ref 151) 383 384
def o153(P:Params):Obj:=fO "words_beyond" (top 27) (.str "quadwords.free" 360) 152
def o157(P:Params):Obj:=cO "next_lefts" 386 387 388 80 2 3 (.ref 154) (.ref 155) .none .none .none (.ref 156) 389 390
def o158(P:Params):Obj:=fO "next_lefts" (top 28) (.str "quadwords.free" 360) 157
def o164(P:Params):Obj:=cO "leftovers" 392 393 394 83 1 3 (.ref 159) (.ref 160) .none (.ref 161) (.ref 162) (.ref 163) 400 401
def o165(P:Params):Obj:=fO "leftovers" (top 29) (.str "quadwords.free" 360) 164
def o169(P:Params):Obj:=cO "is_paper" 403 404 405 93 1 3 (.ref 166) (.ref 167) .none .none .none (.ref 168) 406 407
def o170(P:Params):Obj:=fO "is_paper" (top 30) (.str "quadwords.free" 360) 169
def o174(P:Params):Obj:=cO "let_by" 409 410 411 97 2 3 (.ref 171) (.ref 172) .none .none .none (.ref 173) 412 413
def o175(P:Params):Obj:=fO "let_by" (top 31) (.str "quadwords.free" 360) 174
def o179(P:Params):Obj:=cO "first_steps" 415 416 417 105 1 3 (.ref 176) (.ref 177) .none .none .none (.ref 178) 418 419
def o180(P:Params):Obj:=fO "first_steps" (top 32) (.str "quadwords.free" 360) 179
def o184(P:Params):Obj:=cO "next_steps" 421 422 423 108 3 3 (.ref 181) (.ref 182) .none .none .none (.ref 183) 424 425
def o185(P:Params):Obj:=fO "next_steps" (top 33) (.str "quadwords.free" 360) 184
def o191(P:Params):Obj:=cO "keep_shorter" 427 428 429 113 3 3 (.ref 186) (.ref 187) .none (.ref 188) (.ref 189) (.ref 190) 435 436
def o192(P:Params):Obj:=fO "keep_shorter" (top 34) (.str "quadwords.free" 360) 191
def wD(P:Params):Obj:=cO "twins_of" 438 439 440 117 1 3 (.ref 193) (.ref 194) .none (.ref 195) (.ref 196) (.ref 197) 449 450
def o199(P:Params):Obj:=fO "twins_of" (top 35) (.str "quadwords.free" 360) 198
def o205(P:Params):Obj:=cO "twins" 452 453 454 130 1 3 (.ref 200) (.ref 201) .none (.ref 202) (.ref 203) (.ref 204) 456 457
def o206(P:Params):Obj:=fO "twins" (top 36) (.str "quadwords.free" 360) 205
def o212(P:Params):Obj:=cO "_law_whole" 461 462 463 133 1 3 (.ref 207) (.ref 208) .none (.ref 209) (.ref 210) (.ref 211) 465 466
def o213(P:Params):Obj:=fO "_law_whole" (top 38) (.str "law_quadwords_k22_whole_free_or_twins" 459) 212
def o219(P:Params):Obj:=cO "_law_times" 468 469 470 135 2 3 (.ref 214) (.ref 215) .none (.ref 216) (.ref 217) (.ref 218) 477 478
def o220(P:Params):Obj:=fO "_law_times" (top 39) (.str "law_quadwords_k22_whole_free_or_twins" 459) 219
def o226(P:Params):Obj:=cO "_law_made" 480 481 482 142 1 3 (.ref 221) (.ref 222) .none (.ref 223) (.ref 224) (.ref 225) 486 487
def o227(P:Params):Obj:=fO "_law_made" (top 40) (.str "law_quadwords_k22_whole_free_or_twins" 459) 226
def o233(P:Params):Obj:=cO "_law_draw" 489 490 491 147 2 3 (.ref 228) (.ref 229) .none (.ref 230) (.ref 231) (.ref 232) 495 496
def o234(P:Params):Obj:=fO "_law_draw" (top 41) (.str "law_quadwords_k22_whole_free_or_twins" 459) 233
def o238(P:Params):Obj:=cO "_law_piece" 498 499 500 154 2 3 (.ref 235) (.ref 236) .none .none .none (.ref 237) 501 502
def o239(P:Params):Obj:=fO "_law_piece" (top 42) (.str "law_quadwords_k22_whole_free_or_twins" 459) 238
def o243(P:Params):Obj:=cO "_law_of_letters" 504 505 506 160 1 3 (.ref 240) (.ref 241) .none .none .none (.ref 242) 507 508
def o244(P:Params):Obj:=fO "_law_of_letters" (top 43) (.str "law_quadwords_k22_whole_free_or_twins" 459) 243
def o248(P:Params):Obj:=cO "_law_counts" 510 511 512 164 2 3 (.ref 245) (.ref 246) .none .none .none (.ref 247) 513 514
def o249(P:Params):Obj:=fO "_law_counts" (top 44) (.str "law_quadwords_k22_whole_free_or_twins" 459) 248
def o255(P:Params):Obj:=cO "_law_draws" 516 517 518 171 2 3 (.ref 250) (.ref 251) .none (.ref 252) (.ref 253) (.ref 254) 524 525
def o256(P:Params):Obj:=fO "_law_draws" (top 45) (.str "law_quadwords_k22_whole_free_or_twins" 459) 255
def o262(P:Params):Obj:=cO "_law_makers" 527 528 529 181 1 3 (.ref 257) (.ref 258) .none (.ref 259) (.ref 260) (.ref 261) 539 540
def o263(P:Params):Obj:=fO "_law_makers" (top 46) (.str "law_quadwords_k22_whole_free_or_twins" 459) 262
def o269(P:Params):Obj:=cO "_law_shortest" 542 543 544 195 1 3 (.ref 264) (.ref 265) .none (.ref 266) (.ref 267) (.ref 268) 553 554
def o270(P:Params):Obj:=fO "_law_shortest" (top 47) (.str "law_quadwords_k22_whole_free_or_twins" 459) 269
def o274(P:Params):Obj:=cO "_law_pair_right" 556 557 558 215 4 3 (.ref 271) (.ref 272) .none .none .none (.ref 273) 559 560
def o275(P:Params):Obj:=fO "_law_pair_right" (top 48) (.str "law_quadwords_k22_whole_free_or_twins" 459) 274
def o279(P:Params):Obj:=cO "_law_small_right" 562 563 564 229 1 3 (.ref 276) (.ref 277) .none .none .none (.ref 278) 565 566
def o280(P:Params):Obj:=fO "_law_small_right" (top 49) (.str "law_quadwords_k22_whole_free_or_twins" 459) 279
def o284(P:Params):Obj:=cO "law" 568 569 570 241 1 3 (.ref 281) (.ref 282) .none .none .none (.ref 283) 571 572
def o285(P:Params):Obj:=fO "law" (top 50) (.str "law_quadwords_k22_whole_free_or_twins" 459) 284
def vD(P:Params):Obj:=⟨.none,none,(.fields #[]),#[]⟩
def K(P:Params):Frag:=(nat_lit 3,o3 P)::(nat_lit 4,o4 P)::(nat_lit 23,o23 P)::(nat_lit 24,o24 P)::(nat_lit 36,o36 P)::(nat_lit 37,o37 P)::(nat_lit 48,o48 P)::(nat_lit 49,o49 P)::(nat_lit 60,o60 P)::(nat_lit 61,o61 P)::(nat_lit 64,o64 P)::(nat_lit 70,o70 P)::(nat_lit 71,o71 P)::(nat_lit 75,o75 P)::(nat_lit 76,o76 P)::(nat_lit 82,o82 P)::(nat_lit 83,o83 P)::(nat_lit 89,o89 P)::(nat_lit 90,o90 P)::(nat_lit 96,o96 P)::(nat_lit 97,o97 P)::(nat_lit 103,o103 P)::(nat_lit 104,o104 P)::(nat_lit 110,o110 P)::(nat_lit 111,o111 P)::(nat_lit 115,o115 P)::(nat_lit 116,o116 P)::(nat_lit 120,o120 P)::(nat_lit 121,o121 P)::(nat_lit 125,o125 P)::(nat_lit 126,o126 P)::(nat_lit 132,o132 P)::(nat_lit 133,o133 P)::(nat_lit 137,o137 P)::(nat_lit 138,o138 P)::(nat_lit 142,o142 P)::(nat_lit 143,o143 P)::(nat_lit 147,o147 P)::(nat_lit 148,o148 P)::(nat_lit 152,o152 P)::(nat_lit 153,o153 P)::(nat_lit 157,o157 P)::(nat_lit 158,o158 P)::(nat_lit 164,o164 P)::(nat_lit 165,o165 P)::(nat_lit 169,o169 P)::(nat_lit 170,o170 P)::(nat_lit 174,o174 P)::(nat_lit 175,o175 P)::(nat_lit 179,o179 P)::(nat_lit 180,o180 P)::(nat_lit 184,o184 P)::(nat_lit 185,o185 P)::(nat_lit 191,o191 P)::(nat_lit 192,o192 P)::(nat_lit 198,wD P)::(nat_lit 199,o199 P)::(nat_lit 205,o205 P)::(nat_lit 206,o206 P)::(nat_lit 212,o212 P)::(nat_lit 213,o213 P)::(nat_lit 219,o219 P)::(nat_lit 220,o220 P)::(nat_lit 226,o226 P)::(nat_lit 227,o227 P)::(nat_lit 233,o233 P)::(nat_lit 234,o234 P)::(nat_lit 238,o238 P)::(nat_lit 239,o239 P)::(nat_lit 243,o243 P)::(nat_lit 244,o244 P)::(nat_lit 248,o248 P)::(nat_lit 249,o249 P)::(nat_lit 255,o255 P)::(nat_lit 256,o256 P)::(nat_lit 262,o262 P)::(nat_lit 263,o263 P)::(nat_lit 269,o269 P)::(nat_lit 270,o270 P)::(nat_lit 274,o274 P)::(nat_lit 275,o275 P)::(nat_lit 279,o279 P)::(nat_lit 280,o280 P)::(nat_lit 284,o284 P)::(nat_lit 285,o285 P)::[]
def KF(P:Params):Frag:=(nat_lit 194,vD P)::K P
def kAs:List Addr:=[194,3,4,23,24,36,37,48,49,60,61,64,70,71,75,76,82,83,89,90,96,97,103,104,110,111,115,116,120,121,125,126,132,133,137,138,142,143,147,148,152,153,157,158,164,165,169,170,174,175,179,180,184,185,191,192,198,199,205,206,212,213,219,220,226,227,233,234,238,239,243,244,248,249,255,256,262,263,269,270,274,275,279,280,284,285]
abbrev tA:Addr:=194
abbrev cA:Addr:=198
abbrev bmA:Addr:=4
theorem lk_K(P:Params):(K P).lookup 198=some (wD P):=by kernel_rfl
theorem kT(P:Params):(K P).lookup tA=none:=by kernel_rfl
theorem HS(P:Params)(h:Heap)(X:(K P).In h):PySem.W.CodeHd h cA tA:=⟨wD P,_,_,_,_,_,_,_,_,X _ _ (lk_K P),rfl,rfl,rfl,rfl,rfl,rfl,rfl,rfl,by decide⟩
abbrev pT:Array Value:=#[]
theorem hKF(P:Params)(h:Heap)(X:(KF P).In h):(K P).In h/\h.get? tA=some (PySem.W.tabObj pT)/\PySem.W.CodeHd h cA tA:=by
 have X1:(K P).In h:=fun a o e=>X a o (by
  show List.lookup a ((tA,vD P)::K P)=some o;rw[AJ];have ne:a≠tA:=fun z=>by rw[z,kT P] at e;cases e
  rw[show(a==tA)=false by simpa using ne]
  exact e)
 exact⟨X1,X tA (vD P) (by show List.lookup tA ((tA,vD P)::K P)=_;rw[AJ];rfl),HS P h X1⟩
set_option maxRecDepth 100000 in
theorem key0(w:World):vb pw (view pw keep) loose (xt PySem.Challenge.rw_quadwords_k22_whole_free_or_twins (view pw keep)) KF kAs 4114 w:=by kernel_rfl
theorem key:∀w,vt (denote treeTable) stepOk stepT openSeen pw (view pw keep) loose (xt PySem.Challenge.rw_quadwords_k22_whole_free_or_twins (view pw keep)) KF kAs 4114 w:=key1 key0
end
end Hd
open PySem PySem.W PyProof.Rows
local macro_rules | `(tactic| walk_at "fin")=>`(tactic| ((refine' K3.FIn.of ?a ?l ?c ?k); (case a=>k_is); (case l=>k_is); (case c=>k_is); (case k=>k_is)))
set_option maxRecDepth 100000 in
set_option maxHeartbeats 0 in
theorem PySem.Challenge.cw_quadwords_k22_whole_free_or_twins_holds : PySem.Challenge.rw_quadwords_k22_whole_free_or_twins.Holds := by
 w_on
 refine Hd.head (q:=view Hd.pw Hd.keep) (loose:=Hd.loose) (K:=Hd.KF) (as:=Hd.kAs) (by decide +kernel) (by kernel_rfl) (by decide) (fun s=>rfl) Hd.key (fun P=>by kernel_rfl) (by rfl) (by rfl) (by rfl) (by rfl) (by decide +kernel) ⟨rfl,rfl,rfl,rfl,rfl,by decide +kernel⟩ ?hw ?hc
 case hw=>w_witness2
 k_fill
 refine K3.walk (l:=PySem.Challenge.rw_quadwords_k22_whole_free_or_twins) (K:=Hd.K) (KF:=Hd.KF) (T:=Hd.tA) (c0:=Hd.cA) (ps:=Hd.pT) rfl rfl ⟨trivial,rfl⟩ (fun w h Y=>Y) Hd.hKF Hd.kT ?F
 case F=>
  k_fill
  intro w mg fa h KX G hmg
  refine' K3.all_mk KX G hmg ?yg ?yY ?yV ?yh ?yf ?yx ?zb ?yu ?yc ?ye ?a_ww ?zi ?za ?yZ ?yw ?yy ?a_mr ?yd ?yX ?yW ?a_fp ?zh ?zg ?a_fl ?a_nl ?a_lo ?a_ip ?a_lb ?a_fs ?a_ns ?a_ks ?a_to ?l_to ?c_to ?k_to ?zf ?zd ?zc ?ze ?yL ?l_law ?c_law ?k_law ?zo ?l_ONE ?z_ONE ?v_ONE ?e_LM ?e_MM ?e_LW ?ec ?hdA ?neA ?e_BI ?l_BI ?p_BI ?zr ?yA ?xA ?yj ?yB ?zA ?zt ?zq ?yi ?zu ?zv ?zB ?xF ?xU ?zw
  (case yg=>walk_at "fin")
  (case yY=>walk_at "fin")
  (case yV=>walk_at "fin")
  (case yh=>walk_at "fin")
  (case yf=>walk_at "fin")
  (case yx=>walk_at "fin")
  (case zb=>walk_at "fin")
  (case yu=>walk_at "fin")
  (case yc=>walk_at "fin")
  (case ye=>walk_at "fin")
  (case a_ww=>walk_at "fin")
  (case zi=>walk_at "fin")
  (case za=>walk_at "fin")
  (case yZ=>walk_at "fin")
  (case yw=>walk_at "fin")
  (case yy=>walk_at "fin")
  (case a_mr=>walk_at "fin")
  (case yd=>walk_at "fin")
  (case yX=>walk_at "fin")
  (case yW=>walk_at "fin")
  (case a_fp=>walk_at "fin")
  (case zh=>walk_at "fin")
  (case zg=>walk_at "fin")
  (case a_fl=>walk_at "fin")
  (case a_nl=>walk_at "fin")
  (case a_lo=>walk_at "fin")
  (case a_ip=>walk_at "fin")
  (case a_lb=>walk_at "fin")
  (case a_fs=>walk_at "fin")
  (case a_ns=>walk_at "fin")
  (case a_ks=>walk_at "fin")
  (case a_to=>k_is)
  (case l_to=>k_is)
  (case c_to=>k_is)
  (case k_to=>k_is)
  (case zf=>walk_at "fin")
  (case zd=>walk_at "fin")
  (case zc=>walk_at "fin")
  (case ze=>walk_at "fin")
  (case yL=>k_is)
  (case l_law=>k_is)
  (case c_law=>k_is)
  (case k_law=>k_is)
  (case zo=>k_is)
  (case l_ONE=>k_is)
  (case z_ONE=>decide)
  (case v_ONE=>exact .cons ⟨_,rfl⟩ (.cons ⟨_,rfl⟩ (.cons ⟨_,rfl⟩ (.cons ⟨_,rfl⟩ .nil))))
  (case e_LM=>k_is)
  (case e_MM=>k_is)
  (case e_LW=>k_is)
  (case ec=>rfl)
  (case hdA=>exact fun h X=>Hd.HS _ h X)
  (case neA=>decide)
  (case e_BI=>k_is)
  (case l_BI=>k_is)
  (case p_BI=>exact⟨by decide,by decide,by decide,rfl,rfl,rfl⟩)
  (case zr=>k_is)
  (case yA=>k_is)
  (case xA=>k_is)
  (case yj=>k_is)
  (case yB=>k_is)
  (case zA=>k_is)
  (case zt=>k_is)
  (case zq=>k_is)
  (case yi=>k_is)
  (case zu=>k_is)
  (case zv=>k_is)
  (case zB=>k_is)
  (case xF=>k_is)
  (case xU=>k_is)
  (case zw=>k_is)
